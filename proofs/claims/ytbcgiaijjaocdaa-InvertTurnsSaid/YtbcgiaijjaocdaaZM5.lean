/- Part ZM5 of this seat's mirrors: functions of the seat's program, and the plain functions that they are; each theorem bears its own conditions. -/
import Derived.Test.YtbcgiaijjaocdaaZE
import Derived.Test.YtbcgiaijjaocdaaZM3
namespace Go.Proofs.Ytbcgiaijjaocdaa
open Go.RowKit
set_option linter.unusedVariables false
set_option linter.unusedSimpArgs false
set_option maxRecDepth 100000
set_option maxHeartbeats 1000000
attribute [local push_cast] Ze G0 Z3 Zo Zbr Zs3 Zs2 Zts Ztr Zl Zi Zpi Zkg Zkf onW Xx Zds Zcc Zpj Zpk Zh5 evS wok Qx Op.operands Call.operands gop onK onP atK List.all_cons List.all_nil Bool.and_true Bool.true_and Bool.and_self Value.oneCell' List.take_zero List.take_succ_cons List.take_nil List.drop_zero List.drop_succ_cons List.drop_nil List.append_nil Nat.add_zero Nat.zero_add Uu Yf ev Jd Zff Zw5 Zrm Zrl Zw9 Zio Zeg Zhy Zdx Zm1 Zgj U6 Zki Zkh Zcd Zjh Zce Zke Zik Zs8 bLo bHi bMx Zei Zkd Zw7 Zii Zj4 Zga Za7 Zr6 Zxb Zjf Zxh Zef Z0d Jc Zim gone Zp9 Zk3 Zk2 pop TK.isAgg G.one G.under G.unders List.getD_cons_zero List.getD_cons_succ List.set_cons_zero List.set_cons_succ List.map_cons List.map_nil List.toList_toArray Array.toList_append Option.toArray_none Option.toArray_some Array.toList_map Option.map_some Option.map_none Option.bind_some Option.bind_none List.getElem?_cons_zero List.getElem?_cons_succ List.getElem?_nil List.nil_append List.cons_append List.replicate_succ List.replicate_zero List.length_cons List.length_nil and_true true_and and_false false_and Bool.true_eq_false Bool.false_eq_true forall_const false_implies implies_true IntKind.bits if_true if_false ite_true ite_false eq_self true_implies false_or or_false or_true true_or not_true_eq_false not_false_eq_true decide_true decide_false decide_eq_true_eq decide_eq_false_iff_not beq_iff_eq bne_iff_ne ne_eq Bool.not_eq_true Bool.not_eq_false beq_eq_false_iff_ne bne_eq_false_iff_eq beq_self_eq_true bne_self_eq_false Option.some.injEq exists_eq_left' exists_eq_left ge_iff_le gt_iff_lt decide_not Bool.not_true Bool.not_false imp_self Zxe cond_true cond_false Z5n Z5m Bool.not_not Bool.and_false Bool.false_and Bool.or_true Bool.true_or Bool.or_false Bool.false_or Ke V5 Jo Qs Yv Yj Option.join_some Nat.add_assoc Int.toNat_natCast eI eB eS eL Xg Zjg Zil Zs7 Zs5 Zs6 Z0l Z12 Zjk Zi1 Zt1 Ztz Zt0 Zv8 Zkb Zvn Zmc Zsr Zgw Zst List.length_append G.agg.injEq G.row.injEq G.ref.injEq G.val.injEq G.sl.injEq G.tup.injEq Value.int.injEq Value.bool.injEq Value.string.injEq List.cons.injEq exists_and_left exists_const List.flatten_cons List.flatten_nil Int.le_refl Nat.le_refl Q9 Yr Y2 Bool.not_eq_true' Bool.not_eq_false' Zve Zml Zyv Zyz Zyu Zyy Z35 Z30 List.size_toArray Zof Zqc G.ren G.rens Zrs Zgq Zt4 Zsw Zsx Zqo Zy0 Zfr G.fn.injEq Zrh Zri Zvd Z31 Zrg Zyx Z34 Z33 Zyw Zxi Z1p Option.join_none Ya Ud undef Zj6 Arr.len Arr.put_eq Zjj Znh Zkz Zi0 Zty Ztw Ztx onB Z0k Zr5 Zqj Zor Zos Zot Zou Zov Zow Zm8 Znk Zni Zk1 Zi2 Znj Zp8 Zp7 Zp6 Zp5 Z11 Z4v Zv7 Ztt Vb Zv4 Zoa Znl Zk0 Zxm Zqm Zih Zj3 Ze5 Zma Zox Zoy Zoz Zo0 Zmm Zmn Zmo Zmp Zmq Zmr Zms Zfc prT Zdz Z54 Zyk Zig Zyl Z55 Zym Zwn Zyn Z56 Zyo Z57 Zyp Z58 Zyq Z59 Zyr Z2w Zub Z2x Zuc Z2y Zud Z2z Zue Z20 Zuf Z21 Zug Z22 Zuh Z23 Zui Z24 Zuj Z25 Zuk Z26 Zul Z27 Zmk Zsl Zjp Z28 Zum Zai Zun Z29 Zuo Z3a Zup Z3b Zuq Z3c Zur Zh6 Zus Z3d Zut Z3e Zuu Z3f Zuv Zh7 Zuw Z3g Zux Zmj Zuy Z3h Zuz Z3i Zu0 V2 Zu1 Z3j Zu2 Zhd Zu3 Z3k Zu4 Z3l Zu5 Z3m Zu6 Z3n Zu7 Z3o Zu8 Z3p Zu9 Zwo Zoq Z3q Zva Zxx Zqq Zxy Zqr Zxz Zqs Zx0 Zqt Zx1 Zqu Zx2 Zqv Zx3 Zqw Zx4 Zqx Zx5 Zqy Zx6 Zqz Zx7 Zq0 Zx8 Zq1 Zx9 Zq2 Zya Zq3 Zyb Zq4 Zyc Zq5 Zyd Zq6 Zye Zq7 Zyf Zq8 Zyg Zq9 Zyh Zra Zyi Zrb Zyj Zrc Zb Yo Zlh Zlf Zkm Zky Zlj Zjb Zi6 Zi4 Zlb Zd9 Zd8 Zd0 Zd1 Zea Zdq Zdl Zdk Zd7 Zg Xt Zf Zh Xd Xn Yt Zbn Zbm Za9 Zbf Zbp Zax Zav Zau Zbk Zb1 Zb0 Zbx Zby Zb2 Zbl Zbi Zbh Zbz Zf3 Zf2 Zfj Zfq Zf4 Zex Zev Zeu Zf1 Zny Znx Zm5 Zne Znz Zlc Zk5 Zk4 Znu Z7 Zaz Zay Zap Zat Za0 Gu Gt Gs Zaw Zlg Zle Zkl Zkx Zli Zja Zi5 Zi3 Zla
theorem Zko {a0:(List Int)} {a1:(List Int)} {r:Bool} {O:Objs} {n:Nat} (h:Ue a0 a1=some r):GTo Try.prog 60 [.sl a0.length (fl (eI .u64) a0),.sl a1.length (fl (eI .u64) a1)] O n (.val (.bool r)) O n:=by
 unfold Ue at h
 refine Y3 Zd Try.call60 Try.func60 rfl (Nat.le_of_ble_eq_true rfl) (Nat.le_refl _) fun hU => ?_
 have hN0:O n=none:=hU.fresh _ (Nat.le_refl _)
 have hN:∀ k,O (n+k)=none:=fun k=>hU.fresh _ (Nat.le_add_right _ _)
 show W _ _ _ _ ⟨26,[],[(0,.sl a0.length (fl (eI .u64) a0)),(1,.sl a1.length (fl (eI .u64) a1))]⟩ (Zv O n []) _
 refine Zq [0,1] (Zc Zd [] ?_)
 simp only [push_cast,seval,↓reduceIte,Za,hN0,hN]
 refine Zm ?_
 refine Zq [0,1,10] (Zc Zd [] ?_)
 simp only [push_cast,seval,↓reduceIte,Za,hN0,hN]
 refine Zu (t:=((a0.length:Int) != (a1.length:Int))) rfl (fun c8 => ?_) (fun c8 => ?_)
 ·replace h:=Zs c8 h
  refine Zq [4] (Zc Zd [] ?_)
  simp only [push_cast,seval,↓reduceIte,Za,hN0,hN]
  refine Z0 ?_
  try simp only [Zl,Zi]
  have h:=Option.some.inj h;subst h
  refine Zt (.inr rfl) hU [.val (.bool false)] (by omega) ?_
  simp only [push_cast,seval,↓reduceIte,Za,Try.results60,hN0,hN]
 replace h:=Zr c8 h
 refine Zy ?_
 try simp only [Zl,Zi]
 refine Zk [0,1] [] ?_
 simp only [push_cast,seval,↓reduceIte]
 refine Zm ?_
 refine Zq [0,1,5] (Zc Zd [] ?_)
 simp only [push_cast,seval,↓reduceIte,Za,hN0,hN]
 refine Zk [0,1,5] [] ?_
 simp only [push_cast,seval,↓reduceIte]
 obtain ⟨z7,hz7,h⟩:=bC h
 refine U0 (J:=(Xc (fun z7=>JR n (⟨26,[],[(4,.val (.bool false))]⟩:Env) (Zv O n []) n) (fun z7=>JX 0 n (⟨26,[],[]⟩:Env) (Zv O n []) n))) (z:=z7) ?_ fun hw => ?_
 ·refine Yn hz7 (fun s0_=>⟨26,[],[(0,.sl a0.length (fl (eI .u64) a0)),(1,.sl a1.length (fl (eI .u64) a1)),(5,.val (.int .i64 s0_))]⟩) (fun s0_=>(Zv O n [])) (Xc (fun z7=>JR n (⟨26,[],[(4,.val (.bool false))]⟩:Env) (Zv O n []) n) (fun z7=>JX 0 n (⟨26,[],[]⟩:Env) (Zv O n []) n)) ?_
  intro s0_ x0_ hs0_
  unfold Ko at hs0_
  try dsimp only
  refine Zm ?_
  refine Zq [0,1,5,14] (Zc Zd [] ?_)
  simp only [push_cast,seval,↓reduceIte,Za,hN0,hN]
  refine Zu (t:=(decide (s0_ < (a0.length:Int)))) rfl (fun c6 => ?_) (fun c6 => ?_)
  ·replace hs0_:=Zs c6 hs0_
   refine Zy ?_
   try simp only [Zl,Zi]
   refine Zk [0,1,5] [] ?_
   simp only [push_cast,seval,↓reduceIte]
   refine Zm ?_
   refine Z6 ?_
   obtain ⟨x3,hx3,ax3,bx3,cx3,hs0_⟩:=bE (f:=(eI .u64)) Zh7 (fun _=>rfl) (by decide) hs0_
   obtain ⟨x4,hx4,ax4,bx4,cx4,hs0_⟩:=bE (f:=(eI .u64)) Zh7 (fun _=>rfl) (by decide) hs0_
   refine Zq [0,1,5,25] (K8 Zd (by kernel_rfl) [] (by kernel_rfl) ?_)
   simp only [push_cast,Nat.reduceAdd,Nat.reduceSub,Nat.reduceMul,Nat.reduceLeDiff,Nat.reduceLT,Nat.reduceEqDiff,↓reduceIte,reduceCtorEq,Int.reduceBEq,Int.reduceBNe,Nat.reduceBEq,Int.reduceLE,Int.reduceLT,Int.reduceEq,Int.reduceNe,Int.reduceNeg,Nat.reduceDiv,Nat.reduceMod,Nat.reducePow,Za,ax3,bx3,cx3,ax4,bx4,cx4,hN0,hN]
   refine Zu (t:=(x3 != x4)) rfl (fun c5 => ?_) (fun c5 => ?_)
   ·replace hs0_:=Zs c5 hs0_
    refine Zq [4] (Zc Zd [] ?_)
    simp only [push_cast,seval,↓reduceIte,Za,hN0,hN]
    refine Z0 ?_
    try simp only [Zl,Zi]
    have hs0_:=Option.some.inj hs0_;subst hs0_
    refine And.intro (fun h=>by cases h) (And.intro rfl (Fit2.of (Zj hU rfl rfl ?_) (by omega)))
    simp only [push_cast,seval,↓reduceIte,Za,hN0,hN]
   replace hs0_:=Zr c5 hs0_
   refine Zy ?_
   try simp only [Zl,Zi]
   refine Zk [0,1,5] [] ?_
   simp only [push_cast,seval,↓reduceIte]
   refine Zc Zd [] ?_
   simp only [push_cast,seval,↓reduceIte,Za,hN0,hN]
   have hs0_:=Option.some.inj hs0_;subst hs0_
   refine And.intro rfl (Fit2.of (Zj hU rfl rfl ?_) (by omega))
   simp only [push_cast,seval,↓reduceIte,Za,hN0,hN]
  replace hs0_:=Zr c6 hs0_
  refine Yx ?_
  try simp only [Zl,Zi,↓reduceIte,Nat.reduceEqDiff]
  have hs0_:=Option.some.inj hs0_;subst hs0_
  refine And.intro (fun h=>by cases h) (And.intro rfl (Fit2.of (Zj hU rfl rfl ?_) (by omega)))
  simp only [push_cast,seval,↓reduceIte,Za,hN0,hN]
 rcases z7 with z7 | z7
 ·dsimp only [Xc] at hw h
  refine Q0 hw ?_
  try simp only [Zl,Zi,↓reduceIte,Nat.reduceEqDiff]
  have h:=Option.some.inj h;subst h
  refine Zt (.inr rfl) hU [.val (.bool false)] (by omega) ?_
  simp only [push_cast,seval,↓reduceIte,Za,Try.results60,hN0,hN]
 dsimp only [Xc] at hw h
 refine Yb hw ?_
 try simp only [Zl,Zi,↓reduceIte,Nat.reduceEqDiff]
 refine Zk [] [] ?_
 simp only [push_cast,seval,↓reduceIte]
 refine Zq [4] (Zc Zd [] ?_)
 simp only [push_cast,seval,↓reduceIte,Za,hN0,hN]
 refine Z0 ?_
 try simp only [Zl,Zi]
 have h:=Option.some.inj h;subst h
 refine Zt (.inr rfl) hU [.val (.bool true)] (by omega) ?_
 simp only [push_cast,seval,↓reduceIte,Za,Try.results60,hN0,hN]
theorem Zjy {K0:(S_api_Tree→S_api_Tree→Option Bool)} (Zit:∀ {a0:S_api_Tree} {a1:S_api_Tree} {r:Bool} {O:Objs} {n:Nat},K0 a0 a1=some r→GTo Try.prog 25 [.agg (Zo a0),.agg (Zo a1)] O n (.val (.bool r)) O n) {a0:S_api_Tree} {a1:S_api_Tree} {r:Bool} {O:Objs} {n:Nat} (h:V8 K0 a0 a1=some r):GTo Try.prog 25 [.agg (Zo a0),.agg (Zo a1)] O n (.val (.bool r)) O n:=by
 unfold V8 at h
 refine Y3 Zd Try.call25 Try.func25 rfl (Nat.le_of_ble_eq_true rfl) (Nat.le_refl _) fun hU => ?_
 have hN0:O n=none:=hU.fresh _ (Nat.le_refl _)
 have hN:∀ k,O (n+k)=none:=fun k=>hU.fresh _ (Nat.le_add_right _ _)
 show W _ _ _ _ ⟨47,[],[(0,.agg (Zo a0)),(1,.agg (Zo a1))]⟩ (Zv O n []) _
 refine Zq [2,3] (Zc Zd [] ?_)
 simp only [push_cast,seval,↓reduceIte,Za,hN0,hN]
 refine Zm ?_
 obtain ⟨z2,hz2,h⟩:=bC h
 refine Yl (E':=⟨47,[],[(2,.ref n 0),(3,.ref (n+1) 0),(27,.val (.bool z2))]⟩) (O':=(Zv O n [some ⟨false,25,3,1,(Zo a0)⟩,some ⟨false,25,3,1,(Zo a1)⟩])) (n0:=(n+2)) ?_ ?_
 ·rcases Bool.eq_false_or_eq_true (a0.Kind != a1.Kind) with c5 | c5
  ·replace hz2:=Zs c5 hz2
   refine Zc Zd [some false,some false,some false,some false,some false,some false,some false,some false,some false,some false,some false,some false,some false] ?_
   simp only [push_cast,seval,↓reduceIte,Za,c5,hN0,hN]
   have hz2:=Option.some.inj hz2;subst hz2
   refine And.intro rfl (Fit2.of (Zj hU rfl rfl ?_) (by omega))
   simp only [push_cast,seval,↓reduceIte,Za,c5,hN0,hN]
  replace hz2:=Zr c5 hz2
  obtain ⟨y4,hy4,hz2⟩:=bC hz2
  refine Zc Zd [some true,some true,some true,some true,some true,some true,none,none,none,none,none,none,none] ?_
  simp only [push_cast,seval,↓reduceIte,Za,c5,hN0,hN]
  repeat (with_reducible refine And.intro (by first | (intro h0;simp only [h0,and_self];done) | (intro h0;simp only [h0,Bool.not_false,Bool.not_true,Bool.true_and,Bool.and_true,true_and,and_true,and_self,imp_self,implies_true,bne_iff_ne,ne_eq,beq_iff_eq];done) | (intros;simp_all;done) | exact True.intro) ?_)
  refine (Zko hy4).then ?_
  simp only [push_cast,seval,↓reduceIte,Za,c5,hN0,hN]
  repeat (with_reducible refine And.intro (by first | (intro h0;simp only [h0,and_self];done) | (intro h0;simp only [h0,Bool.not_false,Bool.not_true,Bool.true_and,Bool.and_true,true_and,and_true,and_self,imp_self,implies_true,bne_iff_ne,ne_eq,beq_iff_eq];done) | (intros;simp_all;done) | exact True.intro) ?_)
  have hz2:=Option.some.inj hz2;subst hz2
  refine And.intro rfl (Fit2.of (Zj hU rfl rfl ?_) (by omega))
  simp only [push_cast,seval,↓reduceIte,Za,c5,hN0,hN]
 refine Zu (t:=z2) rfl (fun c15 => ?_) (fun c15 => ?_)
 ·replace h:=Zs c15 h
  refine Zq [4] (Zc Zd [] ?_)
  simp only [push_cast,seval,↓reduceIte,Za,hN0,hN]
  refine Z0 ?_
  try simp only [Zl,Zi]
  have h:=Option.some.inj h;subst h
  refine Zt (.inr rfl) hU [.val (.bool false)] (by omega) ?_
  simp only [push_cast,seval,↓reduceIte,Za,Try.results25,hN0,hN]
 replace h:=Zr c15 h
 refine Zy ?_
 try simp only [Zl,Zi]
 refine Zk [2,3] [true,true] ?_
 simp only [push_cast,seval,↓reduceIte]
 refine Zm ?_
 refine Zq [2,3,5] (Zc Zd [] ?_)
 simp only [push_cast,seval,↓reduceIte,Za,hN0,hN]
 refine Zk [2,3,5] [true,true] ?_
 simp only [push_cast,seval,↓reduceIte]
 obtain ⟨z14,hz14,h⟩:=bC h
 refine U0 (J:=(Xc (fun z14=>JR n (⟨47,[],[(4,.val (.bool false))]⟩:Env) (Zv O n [none,none]) (n+2)) (fun z14=>JX 0 n (⟨47,[],[]⟩:Env) (Zv O n [none,none]) (n+2)))) (z:=z14) ?_ fun hw => ?_
 ·refine Yn hz14 (fun s0_=>⟨47,[],[(2,.ref n 0),(3,.ref (n+1) 0),(5,.val (.int .i64 s0_))]⟩) (fun s0_=>(Zv O n [some ⟨false,25,3,1,(Zo a0)⟩,some ⟨false,25,3,1,(Zo a1)⟩])) (Xc (fun z14=>JR n (⟨47,[],[(4,.val (.bool false))]⟩:Env) (Zv O n [none,none]) (n+2)) (fun z14=>JX 0 n (⟨47,[],[]⟩:Env) (Zv O n [none,none]) (n+2))) ?_
  intro s0_ x0_ hs0_
  unfold Kg at hs0_
  try dsimp only
  refine Zm ?_
  refine Zq [2,3,5,32] (Zc Zd [] ?_)
  simp only [push_cast,seval,↓reduceIte,Za,hN0,hN]
  refine Zu (t:=(decide (s0_ < (a0.Kids.length:Int)))) rfl (fun c13 => ?_) (fun c13 => ?_)
  ·replace hs0_:=Zs c13 hs0_
   refine Zy ?_
   try simp only [Zl,Zi]
   refine Zk [2,3,5] [true,true] ?_
   simp only [push_cast,seval,↓reduceIte]
   refine Zm ?_
   refine Z6 ?_
   refine Zm ?_
   obtain ⟨x9,hx9,ax9,bx9,cx9,hs0_⟩:=bE (f:=Zb) Zai (fun _=>rfl) (by decide) hs0_
   obtain ⟨x10,hx10,ax10,bx10,cx10,hs0_⟩:=bE (f:=Zb) Zai (fun _=>rfl) (by decide) hs0_
   obtain ⟨y11,hy11,hs0_⟩:=bC hs0_
   refine K8 Zd (by kernel_rfl) [] (by kernel_rfl) ?_
   simp only [push_cast,Nat.reduceAdd,Nat.reduceSub,Nat.reduceMul,Nat.reduceLeDiff,Nat.reduceLT,Nat.reduceEqDiff,↓reduceIte,reduceCtorEq,Int.reduceBEq,Int.reduceBNe,Nat.reduceBEq,Int.reduceLE,Int.reduceLT,Int.reduceEq,Int.reduceNe,Int.reduceNeg,Nat.reduceDiv,Nat.reduceMod,Nat.reducePow,Za,ax9,bx9,cx9,ax10,bx10,cx10,hN0,hN]
   refine PCall.of (Zit hy11) ?_
   simp only [push_cast,Nat.reduceAdd,Nat.reduceSub,Nat.reduceMul,Nat.reduceLeDiff,Nat.reduceLT,Nat.reduceEqDiff,↓reduceIte,reduceCtorEq,Int.reduceBEq,Int.reduceBNe,Nat.reduceBEq,Int.reduceLE,Int.reduceLT,Int.reduceEq,Int.reduceNe,Int.reduceNeg,Nat.reduceDiv,Nat.reduceMod,Nat.reducePow,Za,ax9,bx9,cx9,ax10,bx10,cx10,hN0,hN]
   refine Zk [2,3,5,46] [true,true] ?_
   simp only [push_cast,seval,↓reduceIte]
   refine Zu (t:=(!y11)) rfl (fun c12 => ?_) (fun c12 => ?_)
   ·replace hs0_:=Zs c12 hs0_
    refine Zq [4] (Zc Zd [] ?_)
    simp only [push_cast,seval,↓reduceIte,Za,hN0,hN]
    refine Z0 ?_
    try simp only [Zl,Zi]
    have hs0_:=Option.some.inj hs0_;subst hs0_
    refine And.intro (fun h=>by cases h) (And.intro rfl (Fit2.of (Zj hU rfl rfl ?_) (by omega)))
    simp only [push_cast,seval,↓reduceIte,Za,hN0,hN]
   replace hs0_:=Zr c12 hs0_
   refine Zy ?_
   try simp only [Zl,Zi]
   refine Zk [2,3,5] [true,true] ?_
   simp only [push_cast,seval,↓reduceIte]
   refine Zc Zd [] ?_
   simp only [push_cast,seval,↓reduceIte,Za,hN0,hN]
   have hs0_:=Option.some.inj hs0_;subst hs0_
   refine And.intro rfl (Fit2.of (Zj hU rfl rfl ?_) (by omega))
   simp only [push_cast,seval,↓reduceIte,Za,hN0,hN]
  replace hs0_:=Zr c13 hs0_
  refine Yx ?_
  try simp only [Zl,Zi,↓reduceIte,Nat.reduceEqDiff]
  have hs0_:=Option.some.inj hs0_;subst hs0_
  refine And.intro (fun h=>by cases h) (And.intro rfl (Fit2.of (Zj hU rfl rfl ?_) (by omega)))
  simp only [push_cast,seval,↓reduceIte,Za,hN0,hN]
 rcases z14 with z14 | z14
 ·dsimp only [Xc] at hw h
  refine Q0 hw ?_
  try simp only [Zl,Zi,↓reduceIte,Nat.reduceEqDiff]
  have h:=Option.some.inj h;subst h
  refine Zt (.inr rfl) hU [.val (.bool false)] (by omega) ?_
  simp only [push_cast,seval,↓reduceIte,Za,Try.results25,hN0,hN]
 dsimp only [Xc] at hw h
 refine Yb hw ?_
 try simp only [Zl,Zi,↓reduceIte,Nat.reduceEqDiff]
 refine Zk [] [false,false] ?_
 simp only [push_cast,seval,↓reduceIte]
 refine Zq [4] (Zc Zd [] ?_)
 simp only [push_cast,seval,↓reduceIte,Za,hN0,hN]
 refine Z0 ?_
 try simp only [Zl,Zi]
 have h:=Option.some.inj h;subst h
 refine Zt (.inr rfl) hU [.val (.bool true)] (by omega) ?_
 simp only [push_cast,seval,↓reduceIte,Za,Try.results25,hN0,hN]
theorem Zib:∀ k,(∀ {a0:S_api_Tree} {a1:S_api_Tree} {r:Bool} {O:Objs} {n:Nat},(Qy k) a0 a1=some r→GTo Try.prog 25 [.agg (Zo a0),.agg (Zo a1)] O n (.val (.bool r)) O n):=fun k=>by
 induction k with
 | zero=>exact @fun a0 a1 r O n h=>(nomatch (show (none:Option _)=some _ from h))
 | succ k ih=>exact @fun a0 a1 r O n h=>Zjy (ih)  h
theorem Gn {a0:S_api_Tree} {a1:S_api_Tree} {r:Bool} {O:Objs} {n:Nat} (h:Ug a0 a1=some r):GTo Try.prog 25 [.agg (Zo a0),.agg (Zo a1)] O n (.val (.bool r)) O n:=by
 obtain ⟨k,hk⟩:=Vs h
 exact (Zib k)  hk
theorem Zct {a0:(List S_api_Tree)} {a1:(List S_api_Tree)} {r:Bool} {O:Objs} {n:Nat} (h:Jj a0 a1=some r):GTo Try.prog 52 [.sl a0.length (fl Zb a0),.sl a1.length (fl Zb a1)] O n (.val (.bool r)) O n:=by
 unfold Jj at h
 refine Y3 Zd Try.call52 Try.func52 rfl (Nat.le_of_ble_eq_true rfl) (Nat.le_refl _) fun hU => ?_
 have hN0:O n=none:=hU.fresh _ (Nat.le_refl _)
 have hN:∀ k,O (n+k)=none:=fun k=>hU.fresh _ (Nat.le_add_right _ _)
 show W _ _ _ _ ⟨27,[],[(0,.sl a0.length (fl Zb a0)),(1,.sl a1.length (fl Zb a1))]⟩ (Zv O n []) _
 refine Zq [0,1] (Zc Zd [] ?_)
 simp only [push_cast,seval,↓reduceIte,Za,hN0,hN]
 refine Zm ?_
 refine Zq [0,1,10] (Zc Zd [] ?_)
 simp only [push_cast,seval,↓reduceIte,Za,hN0,hN]
 refine Zu (t:=((a0.length:Int) != (a1.length:Int))) rfl (fun c10 => ?_) (fun c10 => ?_)
 ·replace h:=Zs c10 h
  refine Zq [4] (Zc Zd [] ?_)
  simp only [push_cast,seval,↓reduceIte,Za,hN0,hN]
  refine Z0 ?_
  try simp only [Zl,Zi]
  have h:=Option.some.inj h;subst h
  refine Zt (.inr rfl) hU [.val (.bool false)] (by omega) ?_
  simp only [push_cast,seval,↓reduceIte,Za,Try.results52,hN0,hN]
 replace h:=Zr c10 h
 refine Zy ?_
 try simp only [Zl,Zi]
 refine Zk [0,1] [] ?_
 simp only [push_cast,seval,↓reduceIte]
 refine Zm ?_
 refine Zq [0,1,5] (Zc Zd [] ?_)
 simp only [push_cast,seval,↓reduceIte,Za,hN0,hN]
 refine Zk [0,1,5] [] ?_
 simp only [push_cast,seval,↓reduceIte]
 obtain ⟨z9,hz9,h⟩:=bC h
 refine U0 (J:=(Xc (fun z9=>JR n (⟨27,[],[(4,.val (.bool false))]⟩:Env) (Zv O n []) n) (fun z9=>JX 0 n (⟨27,[],[]⟩:Env) (Zv O n []) n))) (z:=z9) ?_ fun hw => ?_
 ·refine Yn hz9 (fun s0_=>⟨27,[],[(0,.sl a0.length (fl Zb a0)),(1,.sl a1.length (fl Zb a1)),(5,.val (.int .i64 s0_))]⟩) (fun s0_=>(Zv O n [])) (Xc (fun z9=>JR n (⟨27,[],[(4,.val (.bool false))]⟩:Env) (Zv O n []) n) (fun z9=>JX 0 n (⟨27,[],[]⟩:Env) (Zv O n []) n)) ?_
  intro s0_ x0_ hs0_
  unfold Jq at hs0_
  try dsimp only
  refine Zm ?_
  refine Zq [0,1,5,14] (Zc Zd [] ?_)
  simp only [push_cast,seval,↓reduceIte,Za,hN0,hN]
  refine Zu (t:=(decide (s0_ < (a0.length:Int)))) rfl (fun c8 => ?_) (fun c8 => ?_)
  ·replace hs0_:=Zs c8 hs0_
   refine Zy ?_
   try simp only [Zl,Zi]
   refine Zk [0,1,5] [] ?_
   simp only [push_cast,seval,↓reduceIte]
   refine Zm ?_
   refine Z6 ?_
   refine Zm ?_
   obtain ⟨x4,hx4,ax4,bx4,cx4,hs0_⟩:=bE (f:=Zb) Zai (fun _=>rfl) (by decide) hs0_
   obtain ⟨x5,hx5,ax5,bx5,cx5,hs0_⟩:=bE (f:=Zb) Zai (fun _=>rfl) (by decide) hs0_
   obtain ⟨y6,hy6,hs0_⟩:=bC hs0_
   refine K8 Zd (by kernel_rfl) [] (by kernel_rfl) ?_
   simp only [push_cast,Nat.reduceAdd,Nat.reduceSub,Nat.reduceMul,Nat.reduceLeDiff,Nat.reduceLT,Nat.reduceEqDiff,↓reduceIte,reduceCtorEq,Int.reduceBEq,Int.reduceBNe,Nat.reduceBEq,Int.reduceLE,Int.reduceLT,Int.reduceEq,Int.reduceNe,Int.reduceNeg,Nat.reduceDiv,Nat.reduceMod,Nat.reducePow,Za,ax4,bx4,cx4,ax5,bx5,cx5,hN0,hN]
   refine PCall.of (Gn hy6) ?_
   simp only [push_cast,Nat.reduceAdd,Nat.reduceSub,Nat.reduceMul,Nat.reduceLeDiff,Nat.reduceLT,Nat.reduceEqDiff,↓reduceIte,reduceCtorEq,Int.reduceBEq,Int.reduceBNe,Nat.reduceBEq,Int.reduceLE,Int.reduceLT,Int.reduceEq,Int.reduceNe,Int.reduceNeg,Nat.reduceDiv,Nat.reduceMod,Nat.reducePow,Za,ax4,bx4,cx4,ax5,bx5,cx5,hN0,hN]
   refine Zk [0,1,5,26] [] ?_
   simp only [push_cast,seval,↓reduceIte]
   refine Zu (t:=(!y6)) rfl (fun c7 => ?_) (fun c7 => ?_)
   ·replace hs0_:=Zs c7 hs0_
    refine Zq [4] (Zc Zd [] ?_)
    simp only [push_cast,seval,↓reduceIte,Za,hN0,hN]
    refine Z0 ?_
    try simp only [Zl,Zi]
    have hs0_:=Option.some.inj hs0_;subst hs0_
    refine And.intro (fun h=>by cases h) (And.intro rfl (Fit2.of (Zj hU rfl rfl ?_) (by omega)))
    simp only [push_cast,seval,↓reduceIte,Za,hN0,hN]
   replace hs0_:=Zr c7 hs0_
   refine Zy ?_
   try simp only [Zl,Zi]
   refine Zk [0,1,5] [] ?_
   simp only [push_cast,seval,↓reduceIte]
   refine Zc Zd [] ?_
   simp only [push_cast,seval,↓reduceIte,Za,hN0,hN]
   have hs0_:=Option.some.inj hs0_;subst hs0_
   refine And.intro rfl (Fit2.of (Zj hU rfl rfl ?_) (by omega))
   simp only [push_cast,seval,↓reduceIte,Za,hN0,hN]
  replace hs0_:=Zr c8 hs0_
  refine Yx ?_
  try simp only [Zl,Zi,↓reduceIte,Nat.reduceEqDiff]
  have hs0_:=Option.some.inj hs0_;subst hs0_
  refine And.intro (fun h=>by cases h) (And.intro rfl (Fit2.of (Zj hU rfl rfl ?_) (by omega)))
  simp only [push_cast,seval,↓reduceIte,Za,hN0,hN]
 rcases z9 with z9 | z9
 ·dsimp only [Xc] at hw h
  refine Q0 hw ?_
  try simp only [Zl,Zi,↓reduceIte,Nat.reduceEqDiff]
  have h:=Option.some.inj h;subst h
  refine Zt (.inr rfl) hU [.val (.bool false)] (by omega) ?_
  simp only [push_cast,seval,↓reduceIte,Za,Try.results52,hN0,hN]
 dsimp only [Xc] at hw h
 refine Yb hw ?_
 try simp only [Zl,Zi,↓reduceIte,Nat.reduceEqDiff]
 refine Zk [] [] ?_
 simp only [push_cast,seval,↓reduceIte]
 refine Zq [4] (Zc Zd [] ?_)
 simp only [push_cast,seval,↓reduceIte,Za,hN0,hN]
 refine Z0 ?_
 try simp only [Zl,Zi]
 have h:=Option.some.inj h;subst h
 refine Zt (.inr rfl) hU [.val (.bool true)] (by omega) ?_
 simp only [push_cast,seval,↓reduceIte,Za,Try.results52,hN0,hN]
theorem Zj1 {X8:(S_api_Edit→S_api_Edit→Option Bool)} (Zeo:∀ {a0:S_api_Edit} {a1:S_api_Edit} {r:Bool} {O:Objs} {n:Nat},X8 a0 a1=some r→GTo Try.prog 17 [.agg (Ze a0),.agg (Ze a1)] O n (.val (.bool r)) O n) {a0:S_api_Edit} {a1:S_api_Edit} {r:Bool} {O:Objs} {n:Nat} (h:Ua X8 a0 a1=some r):GTo Try.prog 17 [.agg (Ze a0),.agg (Ze a1)] O n (.val (.bool r)) O n:=by
 unfold Ua at h
 refine Y3 Zd Try.call17 Try.func17 rfl (Nat.le_of_ble_eq_true rfl) (Nat.le_refl _) fun hU => ?_
 have hN0:O n=none:=hU.fresh _ (Nat.le_refl _)
 have hN:∀ k,O (n+k)=none:=fun k=>hU.fresh _ (Nat.le_add_right _ _)
 show W _ _ _ _ ⟨164,[],[(0,.agg (Ze a0)),(1,.agg (Ze a1))]⟩ (Zv O n []) _
 refine Zq [2,3] (Zc Zd [] ?_)
 simp only [push_cast,seval,↓reduceIte,Za,hN0,hN]
 refine Zm ?_
 obtain ⟨z3,hz3,h⟩:=bC h
 refine Yl (E':=⟨164,[],[(2,.ref n 0),(3,.ref (n+1) 0),(64,.val (.bool z3))]⟩) (O':=(Zv O n [some ⟨false,30,11,1,(Ze a0)⟩,some ⟨false,30,11,1,(Ze a1)⟩])) (n0:=(n+2)) ?_ ?_
 ·rcases Bool.eq_false_or_eq_true (a0.Kind != a1.Kind) with c8 | c8
  ·replace hz3:=Zs c8 hz3
   refine Zc Zd [none,none,none,none,none,some false,some false,some false,some false,some false,some false,some false,some false,some false,some false,some false,some false,some false,some false,some false,some false,some false,some false,some false,some false,some false,some false,some false,some false,some false,some false,some false,some false,some false,some false,some false,some false,some false] ?_
   simp only [push_cast,seval,↓reduceIte,Za,c8,hN0,hN]
   repeat (with_reducible refine And.intro (by first | (intro h0;simp only [h0,and_self];done) | (intro h0;simp only [h0,Bool.not_false,Bool.not_true,Bool.true_and,Bool.and_true,true_and,and_true,and_self,imp_self,implies_true,bne_iff_ne,ne_eq,beq_iff_eq];done) | (intros;simp_all;done) | exact True.intro) ?_)
   have hz3:=Option.some.inj hz3;subst hz3
   refine And.intro rfl (Fit2.of (Zj hU rfl rfl ?_) (by omega))
   simp only [push_cast,seval,↓reduceIte,Za,c8,hN0,hN]
  replace hz3:=Zr c8 hz3
  rcases Bool.eq_false_or_eq_true (a0.List_ != a1.List_) with c9 | c9
  ·replace hz3:=Zs c9 hz3
   try rw [c9] at c8
   refine Zc Zd [none,none,none,none,none,some false,some false,some false,some false,some false,some false,some false,some false,some false,some false,some false,some false,some false,some false,some false,some false,some false,some false,some false,some false,some false,some false,some false,some false,some false,some false,some false,some false,some false,some false,some false,some false,some false] ?_
   simp only [push_cast,seval,↓reduceIte,Za,c8,c9,hN0,hN]
   repeat (with_reducible refine And.intro (by first | (intro h0;simp only [h0,and_self];done) | (intro h0;simp only [h0,Bool.not_false,Bool.not_true,Bool.true_and,Bool.and_true,true_and,and_true,and_self,imp_self,implies_true,bne_iff_ne,ne_eq,beq_iff_eq];done) | (intros;simp_all;done) | exact True.intro) ?_)
   have hz3:=Option.some.inj hz3;subst hz3
   refine And.intro rfl (Fit2.of (Zj hU rfl rfl ?_) (by omega))
   simp only [push_cast,seval,↓reduceIte,Za,c8,c9,hN0,hN]
  replace hz3:=Zr c9 hz3
  try rw [c9] at c8
  obtain ⟨y6,hy6,hz3⟩:=bC hz3
  rcases Bool.eq_false_or_eq_true y6 with c10 | c10
  ·replace hz3:=Zs c10 hz3
   try rw [c10] at c8
   try rw [c10] at c9
   obtain ⟨y7,hy7,hz3⟩:=bC hz3
   refine Zc Zd [none,none,none,none,none,some true,some true,some true,some true,some true,some true,some true,some true,some true,some true,some true,some true,none,none,none,none,none,none,none,none,none,none,none,none,none,none,none,none,none,none,none,none,none] ?_
   simp only [push_cast,seval,↓reduceIte,Za,c8,c9,c10,hN0,hN]
   repeat (with_reducible refine And.intro (by first | (intro h0;simp only [h0,and_self];done) | (intro h0;simp only [h0,Bool.not_false,Bool.not_true,Bool.true_and,Bool.and_true,true_and,and_true,and_self,imp_self,implies_true,bne_iff_ne,ne_eq,beq_iff_eq];done) | (intros;simp_all;done) | exact True.intro) ?_)
   refine (Gn hy6).then ?_
   simp only [push_cast,seval,↓reduceIte,Za,c8,c9,c10,hN0,hN]
   repeat (with_reducible refine And.intro (by first | (intro h0;simp only [h0,and_self];done) | (intro h0;simp only [h0,Bool.not_false,Bool.not_true,Bool.true_and,Bool.and_true,true_and,and_true,and_self,imp_self,implies_true,bne_iff_ne,ne_eq,beq_iff_eq];done) | (intros;simp_all;done) | exact True.intro) ?_)
   refine (Gn hy7).then ?_
   simp only [push_cast,seval,↓reduceIte,Za,c8,c9,c10,hN0,hN]
   repeat (with_reducible refine And.intro (by first | (intro h0;simp only [h0,and_self];done) | (intro h0;simp only [h0,Bool.not_false,Bool.not_true,Bool.true_and,Bool.and_true,true_and,and_true,and_self,imp_self,implies_true,bne_iff_ne,ne_eq,beq_iff_eq];done) | (intros;simp_all;done) | exact True.intro) ?_)
   have hz3:=Option.some.inj hz3;subst hz3
   refine And.intro rfl (Fit2.of (Zj hU rfl rfl ?_) (by omega))
   simp only [push_cast,seval,↓reduceIte,Za,c8,c9,c10,hN0,hN]
  replace hz3:=Zr c10 hz3
  try rw [c10] at c8
  try rw [c10] at c9
  refine Zc Zd [none,none,none,none,none,some true,some true,some true,some true,some true,some true,some false,some false,some false,some false,some false,some false,some false,some false,some false,some false,some false,some false,some false,some false,some false,some false,some false,some false,some false,some false,some false,some false,some false,some false,some false,some false,some false] ?_
  simp only [push_cast,seval,↓reduceIte,Za,c8,c9,c10,hN0,hN]
  repeat (with_reducible refine And.intro (by first | (intro h0;simp only [h0,and_self];done) | (intro h0;simp only [h0,Bool.not_false,Bool.not_true,Bool.true_and,Bool.and_true,true_and,and_true,and_self,imp_self,implies_true,bne_iff_ne,ne_eq,beq_iff_eq];done) | (intros;simp_all;done) | exact True.intro) ?_)
  refine (Gn hy6).then ?_
  simp only [push_cast,seval,↓reduceIte,Za,c8,c9,c10,hN0,hN]
  repeat (with_reducible refine And.intro (by first | (intro h0;simp only [h0,and_self];done) | (intro h0;simp only [h0,Bool.not_false,Bool.not_true,Bool.true_and,Bool.and_true,true_and,and_true,and_self,imp_self,implies_true,bne_iff_ne,ne_eq,beq_iff_eq];done) | (intros;simp_all;done) | exact True.intro) ?_)
  have hz3:=Option.some.inj hz3;subst hz3
  refine And.intro rfl (Fit2.of (Zj hU rfl rfl ?_) (by omega))
  simp only [push_cast,seval,↓reduceIte,Za,c8,c9,c10,hN0,hN]
 refine Zu (t:=z3) rfl (fun c65 => ?_) (fun c65 => ?_)
 ·replace h:=Zs c65 h
  refine Zq [4] (Zc Zd [] ?_)
  simp only [push_cast,seval,↓reduceIte,Za,hN0,hN]
  refine Z0 ?_
  try simp only [Zl,Zi]
  have h:=Option.some.inj h;subst h
  refine Zt (.inr rfl) hU [.val (.bool false)] (by omega) ?_
  simp only [push_cast,seval,↓reduceIte,Za,Try.results17,hN0,hN]
 replace h:=Zr c65 h
 refine Zy ?_
 try simp only [Zl,Zi]
 refine Zk [2,3] [true,true] ?_
 simp only [push_cast,seval,↓reduceIte]
 refine Zm ?_
 refine Zq [2,3,5] (Zc Zd [] ?_)
 simp only [push_cast,seval,↓reduceIte,Za,hN0,hN]
 refine Zk [2,3,5] [true,true] ?_
 simp only [push_cast,seval,↓reduceIte]
 obtain ⟨z17,hz17,h⟩:=bC h
 refine U0 (J:=(Xc (fun z17=>JR n (⟨164,[],[(4,.val (.bool false))]⟩:Env) (Zv O n [none,none]) (n+2)) (fun z17=>JX 0 n (⟨164,[],[(2,.ref n 0),(3,.ref (n+1) 0)]⟩:Env) (Zv O n [some ⟨false,30,11,1,(Ze a0)⟩,some ⟨false,30,11,1,(Ze a1)⟩]) (n+2)))) (z:=z17) ?_ fun hw => ?_
 ·refine Yn hz17 (fun s0_=>⟨164,[],[(2,.ref n 0),(3,.ref (n+1) 0),(5,.val (.int .i64 s0_))]⟩) (fun s0_=>(Zv O n [some ⟨false,30,11,1,(Ze a0)⟩,some ⟨false,30,11,1,(Ze a1)⟩])) (Xc (fun z17=>JR n (⟨164,[],[(4,.val (.bool false))]⟩:Env) (Zv O n [none,none]) (n+2)) (fun z17=>JX 0 n (⟨164,[],[(2,.ref n 0),(3,.ref (n+1) 0)]⟩:Env) (Zv O n [some ⟨false,30,11,1,(Ze a0)⟩,some ⟨false,30,11,1,(Ze a1)⟩]) (n+2))) ?_
  intro s0_ x0_ hs0_
  unfold Kj at hs0_
  try dsimp only
  refine Zm ?_
  refine Zq [2,3,5,69] (Zc Zd [] ?_)
  simp only [push_cast,seval,↓reduceIte,Za,hN0,hN]
  refine Zu (t:=(decide (s0_ < (a0.Words.length:Int)))) rfl (fun c16 => ?_) (fun c16 => ?_)
  ·replace hs0_:=Zs c16 hs0_
   refine Zy ?_
   try simp only [Zl,Zi]
   refine Zk [2,3,5] [true,true] ?_
   simp only [push_cast,seval,↓reduceIte]
   refine Zm ?_
   refine Z6 ?_
   obtain ⟨x13,hx13,ax13,bx13,cx13,hs0_⟩:=bE (f:=Zg) Zmj (fun _=>rfl) (by decide) hs0_
   obtain ⟨x14,hx14,ax14,bx14,cx14,hs0_⟩:=bE (f:=Zg) Zmj (fun _=>rfl) (by decide) hs0_
   refine Zq [2,3,5,82] (K8 Zd (by kernel_rfl) [] (by kernel_rfl) ?_)
   simp only [push_cast,Nat.reduceAdd,Nat.reduceSub,Nat.reduceMul,Nat.reduceLeDiff,Nat.reduceLT,Nat.reduceEqDiff,↓reduceIte,reduceCtorEq,Int.reduceBEq,Int.reduceBNe,Nat.reduceBEq,Int.reduceLE,Int.reduceLT,Int.reduceEq,Int.reduceNe,Int.reduceNeg,Nat.reduceDiv,Nat.reduceMod,Nat.reducePow,Za,ax13,bx13,cx13,ax14,bx14,cx14,hN0,hN]
   refine Zu (t:=(!((x13.At == x14.At) && ((x13.Mask == x14.Mask) && ((x13.Old == x14.Old) && (x13.New == x14.New)))))) rfl (fun c15 => ?_) (fun c15 => ?_)
   ·replace hs0_:=Zs c15 hs0_
    refine Zq [4] (Zc Zd [] ?_)
    simp only [push_cast,seval,↓reduceIte,Za,hN0,hN]
    refine Z0 ?_
    try simp only [Zl,Zi]
    have hs0_:=Option.some.inj hs0_;subst hs0_
    refine And.intro (fun h=>by cases h) (And.intro rfl (Fit2.of (Zj hU rfl rfl ?_) (by omega)))
    simp only [push_cast,seval,↓reduceIte,Za,hN0,hN]
   replace hs0_:=Zr c15 hs0_
   refine Zy ?_
   try simp only [Zl,Zi]
   refine Zk [2,3,5] [true,true] ?_
   simp only [push_cast,seval,↓reduceIte]
   refine Zc Zd [] ?_
   simp only [push_cast,seval,↓reduceIte,Za,hN0,hN]
   have hs0_:=Option.some.inj hs0_;subst hs0_
   refine And.intro rfl (Fit2.of (Zj hU rfl rfl ?_) (by omega))
   simp only [push_cast,seval,↓reduceIte,Za,hN0,hN]
  replace hs0_:=Zr c16 hs0_
  refine Yx ?_
  try simp only [Zl,Zi,↓reduceIte,Nat.reduceEqDiff]
  have hs0_:=Option.some.inj hs0_;subst hs0_
  refine And.intro (fun h=>by cases h) (And.intro rfl (Fit2.of (Zj hU rfl rfl ?_) (by omega)))
  simp only [push_cast,seval,↓reduceIte,Za,hN0,hN]
 rcases z17 with z17 | z17
 ·dsimp only [Xc] at hw h
  refine Q0 hw ?_
  try simp only [Zl,Zi,↓reduceIte,Nat.reduceEqDiff]
  have h:=Option.some.inj h;subst h
  refine Zt (.inr rfl) hU [.val (.bool false)] (by omega) ?_
  simp only [push_cast,seval,↓reduceIte,Za,Try.results17,hN0,hN]
 dsimp only [Xc] at hw h
 refine Yb hw ?_
 try simp only [Zl,Zi,↓reduceIte,Nat.reduceEqDiff]
 refine Zk [2,3] [true,true] ?_
 simp only [push_cast,seval,↓reduceIte]
 refine Zm ?_
 refine Zq [2,3,6] (Zc Zd [] ?_)
 simp only [push_cast,seval,↓reduceIte,Za,hN0,hN]
 refine Zk [2,3,6] [true,true] ?_
 simp only [push_cast,seval,↓reduceIte]
 obtain ⟨z49,hz49,h⟩:=bC h
 refine U0 (J:=(Xc (fun z49=>JR n (⟨164,[],[(4,.val (.bool false))]⟩:Env) (Zv O n [none,none]) (n+2)) (fun z49=>JX 2 n (⟨164,[],[(2,.ref n 0),(3,.ref (n+1) 0)]⟩:Env) (Zv O n [some ⟨false,30,11,1,(Ze a0)⟩,some ⟨false,30,11,1,(Ze a1)⟩]) (n+2)))) (z:=z49) ?_ fun hw => ?_
 ·refine Yn hz49 (fun s1_=>⟨164,[],[(2,.ref n 0),(3,.ref (n+1) 0),(6,.val (.int .i64 s1_))]⟩) (fun s1_=>(Zv O n [some ⟨false,30,11,1,(Ze a0)⟩,some ⟨false,30,11,1,(Ze a1)⟩])) (Xc (fun z49=>JR n (⟨164,[],[(4,.val (.bool false))]⟩:Env) (Zv O n [none,none]) (n+2)) (fun z49=>JX 2 n (⟨164,[],[(2,.ref n 0),(3,.ref (n+1) 0)]⟩:Env) (Zv O n [some ⟨false,30,11,1,(Ze a0)⟩,some ⟨false,30,11,1,(Ze a1)⟩]) (n+2))) ?_
  intro s1_ x1_ hs1_
  unfold Kk at hs1_
  try dsimp only
  refine Zm ?_
  refine Zq [2,3,6,87] (Zc Zd [] ?_)
  simp only [push_cast,seval,↓reduceIte,Za,hN0,hN]
  refine Zu (t:=(decide (s1_ < (a0.Kids.length:Int)))) rfl (fun c48 => ?_) (fun c48 => ?_)
  ·replace hs1_:=Zs c48 hs1_
   refine Zy ?_
   try simp only [Zl,Zi]
   refine Zk [2,3,6] [true,true] ?_
   simp only [push_cast,seval,↓reduceIte]
   refine Zm ?_
   refine Z6 ?_
   obtain ⟨z27,hz27,hs1_⟩:=bC hs1_
   refine Yl (E':=⟨164,[],[(2,.ref n 0),(3,.ref (n+1) 0),(6,.val (.int .i64 s1_)),(118,.val (.bool z27))]⟩) (O':=(Zv O n [some ⟨false,30,11,1,(Ze a0)⟩,some ⟨false,30,11,1,(Ze a1)⟩])) (n0:=(n+2)) ?_ ?_
   ·obtain ⟨x37,hx37,ax37,bx37,cx37,hz27⟩:=bE (f:=Zh) Zhd (fun _=>rfl) (by decide) hz27
    have g38:=K4 (f:=Zh) (sz:=12) Zig (fun _=>rfl) (by decide) (by decide) hx37
    obtain ⟨x39,hx39,ax39,bx39,cx39,hz27⟩:=bE (f:=Zh) Zhd (fun _=>rfl) (by decide) hz27
    have g40:=K4 (f:=Zh) (sz:=12) Zig (fun _=>rfl) (by decide) (by decide) hx39
    rcases Bool.eq_false_or_eq_true (x37.At != x39.At) with c46 | c46
    ·replace hz27:=Zs c46 hz27
     refine K8 Zd (by kernel_rfl) [some false,some false,some false,some false,some false,some false,some false,some false,some false,some false,some false,some false,some false,some false] (by kernel_rfl) ?_
     simp only [push_cast,Nat.reduceAdd,Nat.reduceSub,Nat.reduceMul,Nat.reduceLeDiff,Nat.reduceLT,Nat.reduceEqDiff,↓reduceIte,reduceCtorEq,Int.reduceBEq,Int.reduceBNe,Nat.reduceBEq,Int.reduceLE,Int.reduceLT,Int.reduceEq,Int.reduceNe,Int.reduceNeg,Nat.reduceDiv,Nat.reduceMod,Nat.reducePow,Za,ax37,bx37,cx37,g38,ax39,bx39,cx39,g40,c46,hN0,hN]
     have hz27:=Option.some.inj hz27;subst hz27
     refine And.intro rfl (Fit2.of (Zj hU rfl rfl ?_) (by omega))
     simp only [push_cast,Nat.reduceAdd,Nat.reduceSub,Nat.reduceMul,Nat.reduceLeDiff,Nat.reduceLT,Nat.reduceEqDiff,↓reduceIte,reduceCtorEq,Int.reduceBEq,Int.reduceBNe,Nat.reduceBEq,Int.reduceLE,Int.reduceLT,Int.reduceEq,Int.reduceNe,Int.reduceNeg,Nat.reduceDiv,Nat.reduceMod,Nat.reducePow,Za,ax37,bx37,cx37,g38,ax39,bx39,cx39,g40,c46,hN0,hN]
    replace hz27:=Zr c46 hz27
    have g42:=J3 (f:=Zh) (off:=1) (sz:=12) Zh6 (fun _=>rfl) (by decide) (by decide) hx37
    have g44:=J3 (f:=Zh) (off:=1) (sz:=12) Zh6 (fun _=>rfl) (by decide) (by decide) hx39
    obtain ⟨y45,hy45,hz27⟩:=bC hz27
    refine K8 Zd (by kernel_rfl) [some true,some true,some true,some true,some true,some true,some true,some true,some true,some true,some true,some true,some true,some true] (by kernel_rfl) ?_
    simp only [push_cast,Nat.reduceAdd,Nat.reduceSub,Nat.reduceMul,Nat.reduceLeDiff,Nat.reduceLT,Nat.reduceEqDiff,↓reduceIte,reduceCtorEq,Int.reduceBEq,Int.reduceBNe,Nat.reduceBEq,Int.reduceLE,Int.reduceLT,Int.reduceEq,Int.reduceNe,Int.reduceNeg,Nat.reduceDiv,Nat.reduceMod,Nat.reducePow,Za,ax37,bx37,cx37,g38,ax39,bx39,cx39,g40,c46,g42,g44,hN0,hN]
    refine PCall.of (Zeo hy45) ?_
    simp only [push_cast,Nat.reduceAdd,Nat.reduceSub,Nat.reduceMul,Nat.reduceLeDiff,Nat.reduceLT,Nat.reduceEqDiff,↓reduceIte,reduceCtorEq,Int.reduceBEq,Int.reduceBNe,Nat.reduceBEq,Int.reduceLE,Int.reduceLT,Int.reduceEq,Int.reduceNe,Int.reduceNeg,Nat.reduceDiv,Nat.reduceMod,Nat.reducePow,Za,ax37,bx37,cx37,g38,ax39,bx39,cx39,g40,c46,g42,g44,hN0,hN]
    have hz27:=Option.some.inj hz27;subst hz27
    refine And.intro rfl (Fit2.of (Zj hU rfl rfl ?_) (by omega))
    simp only [push_cast,Nat.reduceAdd,Nat.reduceSub,Nat.reduceMul,Nat.reduceLeDiff,Nat.reduceLT,Nat.reduceEqDiff,↓reduceIte,reduceCtorEq,Int.reduceBEq,Int.reduceBNe,Nat.reduceBEq,Int.reduceLE,Int.reduceLT,Int.reduceEq,Int.reduceNe,Int.reduceNeg,Nat.reduceDiv,Nat.reduceMod,Nat.reducePow,Za,ax37,bx37,cx37,g38,ax39,bx39,cx39,g40,c46,g42,g44,hN0,hN]
   refine Zu (t:=z27) rfl (fun c47 => ?_) (fun c47 => ?_)
   ·replace hs1_:=Zs c47 hs1_
    refine Zq [4] (Zc Zd [] ?_)
    simp only [push_cast,seval,↓reduceIte,Za,hN0,hN]
    refine Z0 ?_
    try simp only [Zl,Zi]
    have hs1_:=Option.some.inj hs1_;subst hs1_
    refine And.intro (fun h=>by cases h) (And.intro rfl (Fit2.of (Zj hU rfl rfl ?_) (by omega)))
    simp only [push_cast,seval,↓reduceIte,Za,hN0,hN]
   replace hs1_:=Zr c47 hs1_
   refine Zy ?_
   try simp only [Zl,Zi]
   refine Zk [2,3,6] [true,true] ?_
   simp only [push_cast,seval,↓reduceIte]
   refine Zc Zd [] ?_
   simp only [push_cast,seval,↓reduceIte,Za,hN0,hN]
   have hs1_:=Option.some.inj hs1_;subst hs1_
   refine And.intro rfl (Fit2.of (Zj hU rfl rfl ?_) (by omega))
   simp only [push_cast,seval,↓reduceIte,Za,hN0,hN]
  replace hs1_:=Zr c48 hs1_
  refine Yx ?_
  try simp only [Zl,Zi,↓reduceIte,Nat.reduceEqDiff]
  have hs1_:=Option.some.inj hs1_;subst hs1_
  refine And.intro (fun h=>by cases h) (And.intro rfl (Fit2.of (Zj hU rfl rfl ?_) (by omega)))
  simp only [push_cast,seval,↓reduceIte,Za,hN0,hN]
 rcases z49 with z49 | z49
 ·dsimp only [Xc] at hw h
  refine Q0 hw ?_
  try simp only [Zl,Zi,↓reduceIte,Nat.reduceEqDiff]
  have h:=Option.some.inj h;subst h
  refine Zt (.inr rfl) hU [.val (.bool false)] (by omega) ?_
  simp only [push_cast,seval,↓reduceIte,Za,Try.results17,hN0,hN]
 dsimp only [Xc] at hw h
 refine Yb hw ?_
 try simp only [Zl,Zi,↓reduceIte,Nat.reduceEqDiff]
 refine Zk [2,3] [true,true] ?_
 simp only [push_cast,seval,↓reduceIte]
 refine Zm ?_
 refine Zq [2,3,7] (Zc Zd [] ?_)
 simp only [push_cast,seval,↓reduceIte,Za,hN0,hN]
 refine Zk [2,3,7] [true,true] ?_
 simp only [push_cast,seval,↓reduceIte]
 obtain ⟨z64,hz64,h⟩:=bC h
 refine U0 (J:=(Xc (fun z64=>JR n (⟨164,[],[(4,.val (.bool false))]⟩:Env) (Zv O n [none,none]) (n+2)) (fun z64=>JX 4 n (⟨164,[],[]⟩:Env) (Zv O n [none,none]) (n+2)))) (z:=z64) ?_ fun hw => ?_
 ·refine Yn hz64 (fun s2_=>⟨164,[],[(2,.ref n 0),(3,.ref (n+1) 0),(7,.val (.int .i64 s2_))]⟩) (fun s2_=>(Zv O n [some ⟨false,30,11,1,(Ze a0)⟩,some ⟨false,30,11,1,(Ze a1)⟩])) (Xc (fun z64=>JR n (⟨164,[],[(4,.val (.bool false))]⟩:Env) (Zv O n [none,none]) (n+2)) (fun z64=>JX 4 n (⟨164,[],[]⟩:Env) (Zv O n [none,none]) (n+2))) ?_
  intro s2_ x2_ hs2_
  unfold Kl at hs2_
  try dsimp only
  refine Zm ?_
  refine Zq [2,3,7,123] (Zc Zd [] ?_)
  simp only [push_cast,seval,↓reduceIte,Za,hN0,hN]
  refine Zu (t:=(decide (s2_ < (a0.Ops.length:Int)))) rfl (fun c63 => ?_) (fun c63 => ?_)
  ·replace hs2_:=Zs c63 hs2_
   refine Zy ?_
   try simp only [Zl,Zi]
   refine Zk [2,3,7] [true,true] ?_
   simp only [push_cast,seval,↓reduceIte]
   refine Zm ?_
   refine Z6 ?_
   obtain ⟨x50,hx50,ax50,bx50,cx50,hs2_⟩:=bE (f:=Zf) V2 (fun _=>rfl) (by decide) hs2_
   obtain ⟨x51,hx51,ax51,bx51,cx51,hs2_⟩:=bE (f:=Zf) V2 (fun _=>rfl) (by decide) hs2_
   refine Yl (E':=⟨164,[],[(2,.ref n 0),(3,.ref (n+1) 0),(7,.val (.int .i64 s2_)),(8,.ref (n+2) 0),(9,.ref (n+3) 0)]⟩) (O':=(Zv O n [some ⟨false,30,11,1,(Ze a0)⟩,some ⟨false,30,11,1,(Ze a1)⟩,some ⟨false,69,14,1,(Z3 x50)⟩,some ⟨false,69,14,1,(Z3 x51)⟩])) (n0:=(n+4)) ?_ ?_
   ·refine Z39 Zd (by kernel_rfl) [.low,.low,.low,.low,.low,.low,.low,.low,.low,.low,.pass,.pass,.pass,.pass] (fun i=>i < (n+2)) 10 11 [0,1,2,3,4,5,6,7,8,9] [12,13] [.low,.low,.low,.low,.low,.low,.low,.low,.low,.low] [.pass,.pass,.pass,.pass] [.pass,.pass,.pass,.pass] [] (by kernel_rfl) rfl rfl rfl ?_
    simp only [push_cast,Nat.reduceAdd,Nat.reduceSub,Nat.reduceMul,Nat.reduceLeDiff,Nat.reduceLT,Nat.reduceEqDiff,↓reduceIte,reduceCtorEq,Int.reduceBEq,Int.reduceBNe,Nat.reduceBEq,Int.reduceLE,Int.reduceLT,Int.reduceEq,Int.reduceNe,Int.reduceNeg,Nat.reduceDiv,Nat.reduceMod,Nat.reducePow,Za,ax50,bx50,cx50,ax51,bx51,cx51,hN0,hN]
    repeat (with_reducible refine And.intro (by omega) ?_)
    refine And.intro ?_ ?_
    ·simp only [push_cast,Nat.reduceAdd,Nat.reduceSub,Nat.reduceMul,Nat.reduceLeDiff,Nat.reduceLT,Nat.reduceEqDiff,↓reduceIte,reduceCtorEq,Int.reduceBEq,Int.reduceBNe,Nat.reduceBEq,Int.reduceLE,Int.reduceLT,Int.reduceEq,Int.reduceNe,Int.reduceNeg,Nat.reduceDiv,Nat.reduceMod,Nat.reducePow,Za,ax50,bx50,cx50,ax51,bx51,cx51,hN0,hN]
     repeat (with_reducible refine And.intro (by first | exact Qa rfl | exact Xk) ?_)
     refine And.intro rfl (Fit2.of (Zj hU rfl rfl ?_) (by omega))
     simp only [push_cast,Nat.reduceAdd,Nat.reduceSub,Nat.reduceMul,Nat.reduceLeDiff,Nat.reduceLT,Nat.reduceEqDiff,↓reduceIte,reduceCtorEq,Int.reduceBEq,Int.reduceBNe,Nat.reduceBEq,Int.reduceLE,Int.reduceLT,Int.reduceEq,Int.reduceNe,Int.reduceNeg,Nat.reduceDiv,Nat.reduceMod,Nat.reducePow,Za,ax50,bx50,cx50,ax51,bx51,cx51,hN0,hN]
    simp only [push_cast,Nat.reduceAdd,Nat.reduceSub,Nat.reduceMul,Nat.reduceLeDiff,Nat.reduceLT,Nat.reduceEqDiff,↓reduceIte,reduceCtorEq,Int.reduceBEq,Int.reduceBNe,Nat.reduceBEq,Int.reduceLE,Int.reduceLT,Int.reduceEq,Int.reduceNe,Int.reduceNeg,Nat.reduceDiv,Nat.reduceMod,Nat.reducePow,Za,ax50,bx50,cx50,ax51,bx51,cx51,hN0,hN]
    repeat (with_reducible refine And.intro (by first | exact Qa rfl | exact Xk) ?_)
    refine And.intro rfl ?_
    refine Fit2.trans (E':=(⟨164,[],[(2,.ref n 0),(3,.ref (n+1) 0),(7,.val (.int .i64 s2_)),(8,.ref (n+3) 0),(9,.ref (n+2) 0)]⟩:Env)) (O':=(Zv O n [some ⟨false,30,11,1,(Ze a0)⟩,some ⟨false,30,11,1,(Ze a1)⟩,some ⟨false,69,14,1,(Z3 x51)⟩,some ⟨false,69,14,1,(Z3 x50)⟩])) (n':=(n+4)) (Fit2.of (Zj hU rfl rfl ?_) (by omega)) ?_
    ·simp only [push_cast,Nat.reduceAdd,Nat.reduceSub,Nat.reduceMul,Nat.reduceLeDiff,Nat.reduceLT,Nat.reduceEqDiff,↓reduceIte,reduceCtorEq,Int.reduceBEq,Int.reduceBNe,Nat.reduceBEq,Int.reduceLE,Int.reduceLT,Int.reduceEq,Int.reduceNe,Int.reduceNeg,Nat.reduceDiv,Nat.reduceMod,Nat.reducePow,Za,ax50,bx50,cx50,ax51,bx51,cx51,hN0,hN]
    refine Jr (k:=4) (k':=4) hU [0,1,3,2] [0,1,3,2] rfl rfl rfl rfl ⟨rfl,rfl⟩ ?_
    simp only [push_cast,seval,↓reduceIte,Za,hN0,hN]
   obtain ⟨z54,hz54,hs2_⟩:=bC hs2_
   refine Yl (E':=⟨164,[],[(2,.ref n 0),(3,.ref (n+1) 0),(7,.val (.int .i64 s2_)),(163,.val (.bool z54))]⟩) (O':=(Zv O n [some ⟨false,30,11,1,(Ze a0)⟩,some ⟨false,30,11,1,(Ze a1)⟩,none,none])) (n0:=(n+4)) ?_ ?_
   ·rcases Bool.eq_false_or_eq_true (x50.Kind != x51.Kind) with c59 | c59
    ·replace hz54:=Zs c59 hz54
     refine Zc Zd [none,none,none,none,none,some false,some false,some false,some false,some false,some false,some false,some false,some false,some false,some false,some false] ?_
     simp only [push_cast,seval,↓reduceIte,Za,c59,hN0,hN]
     repeat (with_reducible refine And.intro (by first | (intro h0;simp only [h0,and_self];done) | (intro h0;simp only [h0,Bool.not_false,Bool.not_true,Bool.true_and,Bool.and_true,true_and,and_true,and_self,imp_self,implies_true,bne_iff_ne,ne_eq,beq_iff_eq];done) | (intros;simp_all;done) | exact True.intro) ?_)
     have hz54:=Option.some.inj hz54;subst hz54
     refine And.intro rfl (Fit2.of (Zj hU rfl rfl ?_) (by omega))
     simp only [push_cast,seval,↓reduceIte,Za,c59,hN0,hN]
    replace hz54:=Zr c59 hz54
    rcases Bool.eq_false_or_eq_true (x50.N != x51.N) with c60 | c60
    ·replace hz54:=Zs c60 hz54
     try rw [c60] at c59
     refine Zc Zd [none,none,none,none,none,some false,some false,some false,some false,some false,some false,some false,some false,some false,some false,some false,some false] ?_
     simp only [push_cast,seval,↓reduceIte,Za,c59,c60,hN0,hN]
     repeat (with_reducible refine And.intro (by first | (intro h0;simp only [h0,and_self];done) | (intro h0;simp only [h0,Bool.not_false,Bool.not_true,Bool.true_and,Bool.and_true,true_and,and_true,and_self,imp_self,implies_true,bne_iff_ne,ne_eq,beq_iff_eq];done) | (intros;simp_all;done) | exact True.intro) ?_)
     have hz54:=Option.some.inj hz54;subst hz54
     refine And.intro rfl (Fit2.of (Zj hU rfl rfl ?_) (by omega))
     simp only [push_cast,seval,↓reduceIte,Za,c59,c60,hN0,hN]
    replace hz54:=Zr c60 hz54
    try rw [c60] at c59
    obtain ⟨y57,hy57,hz54⟩:=bC hz54
    rcases Bool.eq_false_or_eq_true y57 with c61 | c61
    ·replace hz54:=Zs c61 hz54
     try rw [c61] at c59
     try rw [c61] at c60
     obtain ⟨y58,hy58,hz54⟩:=bC hz54
     refine Zc Zd [none,none,none,none,none,some true,some true,some true,some true,some true,some true,some true,some true,some true,some true,some true,some true] ?_
     simp only [push_cast,seval,↓reduceIte,Za,c59,c60,c61,hN0,hN]
     repeat (with_reducible refine And.intro (by first | (intro h0;simp only [h0,and_self];done) | (intro h0;simp only [h0,Bool.not_false,Bool.not_true,Bool.true_and,Bool.and_true,true_and,and_true,and_self,imp_self,implies_true,bne_iff_ne,ne_eq,beq_iff_eq];done) | (intros;simp_all;done) | exact True.intro) ?_)
     refine (Zct hy57).then ?_
     simp only [push_cast,seval,↓reduceIte,Za,c59,c60,c61,hN0,hN]
     repeat (with_reducible refine And.intro (by first | (intro h0;simp only [h0,and_self];done) | (intro h0;simp only [h0,Bool.not_false,Bool.not_true,Bool.true_and,Bool.and_true,true_and,and_true,and_self,imp_self,implies_true,bne_iff_ne,ne_eq,beq_iff_eq];done) | (intros;simp_all;done) | exact True.intro) ?_)
     refine (Zeo hy58).then ?_
     simp only [push_cast,seval,↓reduceIte,Za,c59,c60,c61,hN0,hN]
     repeat (with_reducible refine And.intro (by first | (intro h0;simp only [h0,and_self];done) | (intro h0;simp only [h0,Bool.not_false,Bool.not_true,Bool.true_and,Bool.and_true,true_and,and_true,and_self,imp_self,implies_true,bne_iff_ne,ne_eq,beq_iff_eq];done) | (intros;simp_all;done) | exact True.intro) ?_)
     have hz54:=Option.some.inj hz54;subst hz54
     refine And.intro rfl (Fit2.of (Zj hU rfl rfl ?_) (by omega))
     simp only [push_cast,seval,↓reduceIte,Za,c59,c60,c61,hN0,hN]
    replace hz54:=Zr c61 hz54
    try rw [c61] at c59
    try rw [c61] at c60
    refine Zc Zd [none,none,none,none,none,some true,some true,some true,some true,some true,some true,some false,some false,some false,some false,some false,some false] ?_
    simp only [push_cast,seval,↓reduceIte,Za,c59,c60,c61,hN0,hN]
    repeat (with_reducible refine And.intro (by first | (intro h0;simp only [h0,and_self];done) | (intro h0;simp only [h0,Bool.not_false,Bool.not_true,Bool.true_and,Bool.and_true,true_and,and_true,and_self,imp_self,implies_true,bne_iff_ne,ne_eq,beq_iff_eq];done) | (intros;simp_all;done) | exact True.intro) ?_)
    refine (Zct hy57).then ?_
    simp only [push_cast,seval,↓reduceIte,Za,c59,c60,c61,hN0,hN]
    repeat (with_reducible refine And.intro (by first | (intro h0;simp only [h0,and_self];done) | (intro h0;simp only [h0,Bool.not_false,Bool.not_true,Bool.true_and,Bool.and_true,true_and,and_true,and_self,imp_self,implies_true,bne_iff_ne,ne_eq,beq_iff_eq];done) | (intros;simp_all;done) | exact True.intro) ?_)
    have hz54:=Option.some.inj hz54;subst hz54
    refine And.intro rfl (Fit2.of (Zj hU rfl rfl ?_) (by omega))
    simp only [push_cast,seval,↓reduceIte,Za,c59,c60,c61,hN0,hN]
   refine Zu (t:=z54) rfl (fun c62 => ?_) (fun c62 => ?_)
   ·replace hs2_:=Zs c62 hs2_
    refine Zq [4] (Zc Zd [] ?_)
    simp only [push_cast,seval,↓reduceIte,Za,hN0,hN]
    refine Z0 ?_
    try simp only [Zl,Zi]
    have hs2_:=Option.some.inj hs2_;subst hs2_
    refine And.intro (fun h=>by cases h) (And.intro rfl (Fit2.of (Zj hU rfl rfl ?_) (by omega)))
    simp only [push_cast,seval,↓reduceIte,Za,hN0,hN]
   replace hs2_:=Zr c62 hs2_
   refine Zy ?_
   try simp only [Zl,Zi]
   refine Zk [2,3,7] [true,true,false,false] ?_
   simp only [push_cast,seval,↓reduceIte]
   refine Zc Zd [] ?_
   simp only [push_cast,seval,↓reduceIte,Za,hN0,hN]
   have hs2_:=Option.some.inj hs2_;subst hs2_
   refine And.intro rfl (Fit2.of (Zj hU rfl rfl ?_) (by omega))
   simp only [push_cast,seval,↓reduceIte,Za,hN0,hN]
  replace hs2_:=Zr c63 hs2_
  refine Yx ?_
  try simp only [Zl,Zi,↓reduceIte,Nat.reduceEqDiff]
  have hs2_:=Option.some.inj hs2_;subst hs2_
  refine And.intro (fun h=>by cases h) (And.intro rfl (Fit2.of (Zj hU rfl rfl ?_) (by omega)))
  simp only [push_cast,seval,↓reduceIte,Za,hN0,hN]
 rcases z64 with z64 | z64
 ·dsimp only [Xc] at hw h
  refine Q0 hw ?_
  try simp only [Zl,Zi,↓reduceIte,Nat.reduceEqDiff]
  have h:=Option.some.inj h;subst h
  refine Zt (.inr rfl) hU [.val (.bool false)] (by omega) ?_
  simp only [push_cast,seval,↓reduceIte,Za,Try.results17,hN0,hN]
 dsimp only [Xc] at hw h
 refine Yb hw ?_
 try simp only [Zl,Zi,↓reduceIte,Nat.reduceEqDiff]
 refine Zk [] [false,false] ?_
 simp only [push_cast,seval,↓reduceIte]
 refine Zq [4] (Zc Zd [] ?_)
 simp only [push_cast,seval,↓reduceIte,Za,hN0,hN]
 refine Z0 ?_
 try simp only [Zl,Zi]
 have h:=Option.some.inj h;subst h
 refine Zt (.inr rfl) hU [.val (.bool true)] (by omega) ?_
 simp only [push_cast,seval,↓reduceIte,Za,Try.results17,hN0,hN]
theorem Zie:∀ k,(∀ {a0:S_api_Edit} {a1:S_api_Edit} {r:Bool} {O:Objs} {n:Nat},(Qz k) a0 a1=some r→GTo Try.prog 17 [.agg (Ze a0),.agg (Ze a1)] O n (.val (.bool r)) O n):=fun k=>by
 induction k with
 | zero=>exact @fun a0 a1 r O n h=>(nomatch (show (none:Option _)=some _ from h))
 | succ k ih=>exact @fun a0 a1 r O n h=>Zj1 (ih)  h
theorem Zcm {a0:S_api_Edit} {a1:S_api_Edit} {r:Bool} {O:Objs} {n:Nat} (h:Zdd a0 a1=some r):GTo Try.prog 17 [.agg (Ze a0),.agg (Ze a1)] O n (.val (.bool r)) O n:=by
 obtain ⟨k,hk⟩:=Vs h
 exact (Zie k)  hk
theorem Zdh {a0:S_api_Tree} {r:Bool} {O:Objs} {n:Nat} (h:Vf a0=some r):GTo Try.prog 97 [.agg (Zo a0)] O n (.val (.bool r)) O n:=by
 unfold Vf at h
 refine Y3 Zd Try.call97 Try.func97 rfl (Nat.le_of_ble_eq_true rfl) (Nat.le_refl _) fun hU => ?_
 have hN0:O n=none:=hU.fresh _ (Nat.le_refl _)
 have hN:∀ k,O (n+k)=none:=fun k=>hU.fresh _ (Nat.le_add_right _ _)
 show W _ _ _ _ ⟨16,[],[(0,.agg (Zo a0))]⟩ (Zv O n []) _
 refine Zq [1] (Zc Zd [] ?_)
 simp only [push_cast,seval,↓reduceIte,Za,hN0,hN]
 refine Zq [2] (Zc Zd [none,none,none,none,none,none,none,none] ?_)
 simp only [push_cast,seval,↓reduceIte,Za,hN0,hN]
 repeat (with_reducible refine And.intro (by first | (intro h0;simp only [h0,and_self];done) | (intro h0;simp only [h0,Bool.not_false,Bool.not_true,Bool.true_and,Bool.and_true,true_and,and_true,and_self,imp_self,implies_true,bne_iff_ne,ne_eq,beq_iff_eq];done) | (intros;simp_all;done) | exact True.intro) ?_)
 refine Z0 ?_
 try simp only [Zl,Zi]
 have h:=Option.some.inj h;subst h
 refine Zt (.inr rfl) hU [.val (.bool (cond (a0.Kind != 0) true (decide (0 < (IntKind.i64.wrap ((a0.Words.length:Int)+(a0.Kids.length:Int)))))))] (by omega) ?_
 simp only [push_cast,seval,↓reduceIte,Za,Try.results97,hN0,hN]
theorem Qv {a0:Bool} {a1:Bool} {a2:Bool} {a3:S_api_Edit} {r:Bool} {O:Objs} {n:Nat} (h:Kr a0 a1 a2 a3=some r):GTo Try.prog 96 [.val (.bool a0),.val (.bool a1),.val (.bool a2),.ip (Ze a3) 0] O n (.val (.bool r)) O n:=by
 unfold Kr at h
 refine Y3 Zd Try.call96 Try.func96 rfl (Nat.le_of_ble_eq_true rfl) (Nat.le_refl _) fun hU => ?_
 have hN0:O n=none:=hU.fresh _ (Nat.le_refl _)
 have hN:∀ k,O (n+k)=none:=fun k=>hU.fresh _ (Nat.le_add_right _ _)
 show W _ _ _ _ ⟨49,[],[(0,.val (.bool a0)),(1,.val (.bool a1)),(2,.val (.bool a2)),(3,.ip (Ze a3) 0)]⟩ (Zv O n []) _
 refine Zq [0,1,2,3] (Zc Zd [] ?_)
 simp only [push_cast,seval,↓reduceIte,Za,hN0,hN]
 obtain ⟨z3,hz3,h⟩:=bC h
 refine Yl (E':=⟨49,[],[(7,.val (.bool z3))]⟩) (O':=(Zv O n [])) (n0:=n) ?_ ?_
 ·rcases Bool.eq_false_or_eq_true a0 with c8 | c8
  ·replace hz3:=Zs c8 hz3
   obtain ⟨y6,hy6,hz3⟩:=bC hz3
   rcases Bool.eq_false_or_eq_true y6 with c9 | c9
   ·replace hz3:=Zs c9 hz3
    try rw [c9] at c8
    refine Zc Zd [some true,some true,some true,some true,some false,some false,some false,some true,some false,some false,some false,some false,some false,some false,some false,some false,some false,some false,some false,some false,some false,some false,some false,some false,some false,some false,some false,some false,some false,some false,some false,some false,some false] ?_
    simp only [push_cast,seval,↓reduceIte,Za,c8,c9,hN0,hN]
    refine (Zdh hy6).then ?_
    simp only [push_cast,seval,↓reduceIte,Za,c8,c9,hN0,hN]
    have hz3:=Option.some.inj hz3;subst hz3
    refine And.intro rfl (Fit2.of (Zj hU rfl rfl ?_) (by omega))
    simp only [push_cast,seval,↓reduceIte,Za,c8,c9,hN0,hN]
   replace hz3:=Zr c9 hz3
   try rw [c9] at c8
   obtain ⟨y7,hy7,hz3⟩:=bC hz3
   refine Zc Zd [some true,some true,some true,some true,some true,some true,some true,some true,none,none,none,none,none,none,none,none,none,none,none,none,none,none,none,none,none,none,none,none,none,none,none,none,none] ?_
   simp only [push_cast,seval,↓reduceIte,Za,c8,c9,hN0,hN]
   repeat (with_reducible refine And.intro (by first | (intro h0;simp only [h0,and_self];done) | (intro h0;simp only [h0,Bool.not_false,Bool.not_true,Bool.true_and,Bool.and_true,true_and,and_true,and_self,imp_self,implies_true,bne_iff_ne,ne_eq,beq_iff_eq];done) | (intros;simp_all;done) | exact True.intro) ?_)
   refine (Zdh hy6).then ?_
   simp only [push_cast,seval,↓reduceIte,Za,c8,c9,hN0,hN]
   repeat (with_reducible refine And.intro (by first | (intro h0;simp only [h0,and_self];done) | (intro h0;simp only [h0,Bool.not_false,Bool.not_true,Bool.true_and,Bool.and_true,true_and,and_true,and_self,imp_self,implies_true,bne_iff_ne,ne_eq,beq_iff_eq];done) | (intros;simp_all;done) | exact True.intro) ?_)
   refine (Zdh hy7).then ?_
   simp only [push_cast,seval,↓reduceIte,Za,c8,c9,hN0,hN]
   repeat (with_reducible refine And.intro (by first | (intro h0;simp only [h0,and_self];done) | (intro h0;simp only [h0,Bool.not_false,Bool.not_true,Bool.true_and,Bool.and_true,true_and,and_true,and_self,imp_self,implies_true,bne_iff_ne,ne_eq,beq_iff_eq];done) | (intros;simp_all;done) | exact True.intro) ?_)
   have hz3:=Option.some.inj hz3;subst hz3
   refine And.intro rfl (Fit2.of (Zj hU rfl rfl ?_) (by omega))
   simp only [push_cast,seval,↓reduceIte,Za,c8,c9,hN0,hN]
  replace hz3:=Zr c8 hz3
  refine Zc Zd [some false,some false,some false,some false,some false,some false,some false,some false,some true,some true,none,none,none,none,none,none,none,none,some true,some true,none,none,none,none,none,none,none,none,none,none,none,none,none] ?_
  simp only [push_cast,seval,↓reduceIte,Za,c8,hN0,hN]
  repeat (with_reducible refine And.intro (by first | (intro h0;simp only [h0,and_self];done) | (intro h0;simp only [h0,Bool.not_false,Bool.not_true,Bool.true_and,Bool.and_true,true_and,and_true,and_self,imp_self,implies_true,bne_iff_ne,ne_eq,beq_iff_eq];done) | (intros;simp_all;done) | exact True.intro) ?_)
  have hz3:=Option.some.inj hz3;subst hz3
  refine And.intro rfl (Fit2.of (Zj hU rfl rfl ?_) (by omega))
  simp only [push_cast,seval,↓reduceIte,Za,c8,hN0,hN]
 refine Z0 ?_
 try simp only [Zl,Zi]
 have h:=Option.some.inj h;subst h
 refine Zt (.inr rfl) hU [.val (.bool z3)] (by omega) ?_
 simp only [push_cast,seval,↓reduceIte,Za,Try.results96,hN0,hN]
theorem Zly {a0:Int} {r:Bool} {O:Objs} {n:Nat} (h:Zcr a0=some r):GTo Try.prog 110 [.val (.int .i64 a0)] O n (.val (.bool r)) O n:=by
 unfold Zcr at h
 refine Y3 Zd Try.call110 Try.func110 rfl (Nat.le_of_ble_eq_true rfl) (Nat.le_refl _) fun hU => ?_
 have hN0:O n=none:=hU.fresh _ (Nat.le_refl _)
 have hN:∀ k,O (n+k)=none:=fun k=>hU.fresh _ (Nat.le_add_right _ _)
 show W _ _ _ _ ⟨9,[],[(0,.val (.int .i64 a0))]⟩ (Zv O n []) _
 refine Zq [0] (Zc Zd [] ?_)
 simp only [push_cast,seval,↓reduceIte,Za,hN0,hN]
 refine Zq [2] (Zc Zd [none,none] ?_)
 simp only [push_cast,seval,↓reduceIte,Za,hN0,hN]
 repeat (with_reducible refine And.intro (by first | (intro h0;simp only [h0,and_self];done) | (intro h0;simp only [h0,Bool.not_false,Bool.not_true,Bool.true_and,Bool.and_true,true_and,and_true,and_self,imp_self,implies_true,bne_iff_ne,ne_eq,beq_iff_eq];done) | (intros;simp_all;done) | exact True.intro) ?_)
 refine Z0 ?_
 try simp only [Zl,Zi]
 have h:=Option.some.inj h;subst h
 refine Zt (.inr rfl) hU [.val (.bool (cond (decide (2≤a0)) (decide (a0≤9)) false))] (by omega) ?_
 simp only [push_cast,seval,↓reduceIte,Za,Try.results110,hN0,hN]
theorem Zfp {a0:(List S_api_Tree)} {r:Bool} {O:Objs} {n:Nat} (h:Um a0=some r):GTo Try.prog 141 [.sl a0.length (fl Zb a0)] O n (.val (.bool r)) O n:=by
 unfold Um at h
 refine Y3 Zd Try.call141 Try.func141 rfl (Nat.le_of_ble_eq_true rfl) (Nat.le_refl _) fun hU => ?_
 have hN0:O n=none:=hU.fresh _ (Nat.le_refl _)
 have hN:∀ k,O (n+k)=none:=fun k=>hU.fresh _ (Nat.le_add_right _ _)
 show W _ _ _ _ ⟨15,[],[(0,.sl a0.length (fl Zb a0))]⟩ (Zv O n []) _
 refine Zq [0] (Zc Zd [] ?_)
 simp only [push_cast,seval,↓reduceIte,Za,hN0,hN]
 refine Zm ?_
 refine Zq [5,6,7] (Zc Zd [] ?_)
 simp only [push_cast,seval,↓reduceIte,Za,hN0,hN]
 refine Zk [5,6,7] [] ?_
 simp only [push_cast,seval,↓reduceIte]
 obtain ⟨z5,hz5,h⟩:=bC h
 refine U0 (J:=(Xc (fun z5=>JR n (⟨15,[],[(2,.val (.bool false))]⟩:Env) (Zv O n []) n) (fun z5=>JX 0 n (⟨15,[],[]⟩:Env) (Zv O n []) n))) (z:=z5) ?_ fun hw => ?_
 ·refine Yn hz5 (fun s0_=>⟨15,[],[(5,.sl a0.length (fl Zb a0)),(6,.val (.int .i64 (a0.length:Int))),(7,.val (.int .i64 s0_))]⟩) (fun s0_=>(Zv O n [])) (Xc (fun z5=>JR n (⟨15,[],[(2,.val (.bool false))]⟩:Env) (Zv O n []) n) (fun z5=>JX 0 n (⟨15,[],[]⟩:Env) (Zv O n []) n)) ?_
  intro s0_ x0_ hs0_
  unfold Ks at hs0_
  try dsimp only
  refine Zq [5,6,7,8] (Zc Zd [] ?_)
  simp only [push_cast,seval,↓reduceIte,Za,hN0,hN]
  refine Zm ?_
  refine Zu (t:=(decide (s0_ < (a0.length:Int)))) rfl (fun c4 => ?_) (fun c4 => ?_)
  ·replace hs0_:=Zs c4 hs0_
   refine Zy ?_
   try simp only [Zl,Zi]
   refine Zk [5,6,7] [] ?_
   simp only [push_cast,seval,↓reduceIte]
   refine Zm ?_
   refine Z6 ?_
   refine Zm ?_
   obtain ⟨x2,hx2,ax2,bx2,cx2,hs0_⟩:=bE (f:=Zb) Zai (fun _=>rfl) (by decide) hs0_
   refine Zc Zd [] ?_
   simp only [push_cast,Nat.reduceAdd,Nat.reduceSub,Nat.reduceMul,Nat.reduceLeDiff,Nat.reduceLT,Nat.reduceEqDiff,↓reduceIte,reduceCtorEq,Int.reduceBEq,Int.reduceBNe,Nat.reduceBEq,Int.reduceLE,Int.reduceLT,Int.reduceEq,Int.reduceNe,Int.reduceNeg,Nat.reduceDiv,Nat.reduceMod,Nat.reducePow,Za,ax2,bx2,cx2,hN0,hN]
   refine Zk [4,5,6,7] [true] ?_
   simp only [push_cast,seval,↓reduceIte]
   refine Zq [5,6,7,13] (Zc Zd [] ?_)
   simp only [push_cast,seval,↓reduceIte,Za,hN0,hN]
   refine Zu (t:=(x2.Kind != 1)) rfl (fun c3 => ?_) (fun c3 => ?_)
   ·replace hs0_:=Zs c3 hs0_
    refine Zq [2] (Zc Zd [] ?_)
    simp only [push_cast,seval,↓reduceIte,Za,hN0,hN]
    refine Z0 ?_
    try simp only [Zl,Zi]
    have hs0_:=Option.some.inj hs0_;subst hs0_
    refine And.intro (fun h=>by cases h) (And.intro rfl (Fit2.of (Zj hU rfl rfl ?_) (by omega)))
    simp only [push_cast,seval,↓reduceIte,Za,hN0,hN]
   replace hs0_:=Zr c3 hs0_
   refine Zy ?_
   try simp only [Zl,Zi]
   refine Zk [5,6,7] [false] ?_
   simp only [push_cast,seval,↓reduceIte]
   refine Zc Zd [] ?_
   simp only [push_cast,seval,↓reduceIte,Za,hN0,hN]
   have hs0_:=Option.some.inj hs0_;subst hs0_
   refine And.intro rfl (Fit2.of (Zj hU rfl rfl ?_) (by omega))
   simp only [push_cast,seval,↓reduceIte,Za,hN0,hN]
  replace hs0_:=Zr c4 hs0_
  refine Yx ?_
  try simp only [Zl,Zi,↓reduceIte,Nat.reduceEqDiff]
  have hs0_:=Option.some.inj hs0_;subst hs0_
  refine And.intro (fun h=>by cases h) (And.intro rfl (Fit2.of (Zj hU rfl rfl ?_) (by omega)))
  simp only [push_cast,seval,↓reduceIte,Za,hN0,hN]
 rcases z5 with z5 | z5
 ·dsimp only [Xc] at hw h
  refine Q0 hw ?_
  try simp only [Zl,Zi,↓reduceIte,Nat.reduceEqDiff]
  have h:=Option.some.inj h;subst h
  refine Zt (.inr rfl) hU [.val (.bool false)] (by omega) ?_
  simp only [push_cast,seval,↓reduceIte,Za,Try.results141,hN0,hN]
 dsimp only [Xc] at hw h
 refine Yb hw ?_
 try simp only [Zl,Zi,↓reduceIte,Nat.reduceEqDiff]
 refine Zk [] [] ?_
 simp only [push_cast,seval,↓reduceIte]
 refine Zq [2] (Zc Zd [] ?_)
 simp only [push_cast,seval,↓reduceIte,Za,hN0,hN]
 refine Z0 ?_
 try simp only [Zl,Zi]
 have h:=Option.some.inj h;subst h
 refine Zt (.inr rfl) hU [.val (.bool true)] (by omega) ?_
 simp only [push_cast,seval,↓reduceIte,Za,Try.results141,hN0,hN]
theorem Zrq {a0:Int} {r:(Int×Bool)} {O:Objs} {n:Nat} (h:Zhp a0=some r):GTo Try.prog 144 [.val (.int .i64 a0)] O n (.tup [.val (.int .i64 r.1),.val (.bool r.2)]) O n:=by
 unfold Zhp at h
 refine Y3 Zd Try.call144 Try.func144 rfl (Nat.le_of_ble_eq_true rfl) (Nat.le_refl _) fun hU => ?_
 have hN0:O n=none:=hU.fresh _ (Nat.le_refl _)
 have hN:∀ k,O (n+k)=none:=fun k=>hU.fresh _ (Nat.le_add_right _ _)
 show W _ _ _ _ ⟨15,[],[(0,.val (.int .i64 a0))]⟩ (Zv O n []) _
 refine Zq [0] (Zc Zd [] ?_)
 simp only [push_cast,seval,↓reduceIte,Za,hN0,hN]
 refine Zm ?_
 obtain ⟨y6,hy6,ey6,h⟩:=bY (f:=(eI .i64)) (cs:=[.val (.int .i64 0),.val (.int .i64 1),.val (.int .i64 8),.val (.int .i64 16),.val (.int .i64 32),.val (.int .i64 64)]) rfl h
 have g7:=congrArg G.agg ey6
 obtain ⟨y8,hy8,ey8,h⟩:=bY (f:=(eI .i64)) (cs:=[.val (.int .i64 0),.val (.int .i64 0),.val (.int .i64 0),.val (.int .i64 0),.val (.int .i64 0),.val (.int .i64 0)]) rfl h
 have g9:=congrArg (GObj.mk false 157 6 1) ey8
 have g10:=Zfg (f:=(eI .i64)) y8 y6 (fun _=>rfl)
 refine Zc Zd [] ?_
 simp only [push_cast,seval,↓reduceIte,Za,g7,g9,g10,hN0,hN]
 refine Zk [0,4] [true] ?_
 simp only [push_cast,seval,↓reduceIte]
 refine Zm ?_
 refine Zq [0,4,11] (Zc Zd [none,none] ?_)
 simp only [push_cast,seval,↓reduceIte,Za,hN0,hN]
 repeat (with_reducible refine And.intro (by first | (intro h0;simp only [h0,and_self];done) | (intro h0;simp only [h0,Bool.not_false,Bool.not_true,Bool.true_and,Bool.and_true,true_and,and_true,and_self,imp_self,implies_true,bne_iff_ne,ne_eq,beq_iff_eq];done) | (intros;simp_all;done) | exact True.intro) ?_)
 refine Zu (t:=(cond (decide (a0 < 0)) true (decide (6≤a0)))) rfl (fun c13 => ?_) (fun c13 => ?_)
 ·replace h:=Zs c13 h
  refine Zq [2,3] (Zc Zd [] ?_)
  simp only [push_cast,seval,↓reduceIte,Za,hN0,hN]
  refine Z0 ?_
  try simp only [Zl,Zi]
  have h:=Option.some.inj h;subst h
  refine Zt (.inr rfl) hU [.val (.int .i64 0),.val (.bool false)] (by omega) ?_
  simp only [push_cast,seval,↓reduceIte,Za,Try.results144,hN0,hN]
 replace h:=Zr c13 h
 refine Zy ?_
 try simp only [Zl,Zi]
 refine Zk [0,4] [true] ?_
 simp only [push_cast,seval,↓reduceIte]
 obtain ⟨x12,hx12,ax12,bx12,cx12,h⟩:=bEA (f:=(eI .i64)) (b:=6) rfl Zig (fun _=>rfl) (by decide) h
 refine Zq [2,3] (Zc Zd [] ?_)
 simp only [push_cast,Nat.reduceAdd,Nat.reduceSub,Nat.reduceMul,Nat.reduceLeDiff,Nat.reduceLT,Nat.reduceEqDiff,↓reduceIte,reduceCtorEq,Int.reduceBEq,Int.reduceBNe,Nat.reduceBEq,Int.reduceLE,Int.reduceLT,Int.reduceEq,Int.reduceNe,Int.reduceNeg,Nat.reduceDiv,Nat.reduceMod,Nat.reducePow,Za,ax12,bx12,cx12,hN0,hN]
 refine Z0 ?_
 try simp only [Zl,Zi]
 have h:=Option.some.inj h;subst h
 refine Zt (.inr rfl) hU [.val (.int .i64 x12),.val (.bool true)] (by omega) ?_
 simp only [push_cast,seval,↓reduceIte,Za,Try.results144,hN0,hN]
theorem Ztp {a0:Int} {a1:Int} {r:Bool} {O:Objs} {n:Nat} (h:Zem a0 a1=some r):GTo Try.prog 143 [.val (.int .i64 a0),.val (.int .u64 a1)] O n (.val (.bool r)) O n:=by
 unfold Zem at h
 refine Y3 Zd Try.call143 Try.func143 rfl (Nat.le_of_ble_eq_true rfl) (Nat.le_refl _) fun hU => ?_
 have hN0:O n=none:=hU.fresh _ (Nat.le_refl _)
 have hN:∀ k,O (n+k)=none:=fun k=>hU.fresh _ (Nat.le_add_right _ _)
 show W _ _ _ _ ⟨19,[],[(0,.val (.int .i64 a0)),(1,.val (.int .u64 a1))]⟩ (Zv O n []) _
 refine Zq [0,1] (Zc Zd [] ?_)
 simp only [push_cast,seval,↓reduceIte,Za,hN0,hN]
 refine Zm ?_
 obtain ⟨y2,hy2,h⟩:=bC h
 refine Zc Zd [] ?_
 simp only [push_cast,seval,↓reduceIte,Za,hN0,hN]
 refine (Zrq hy2).then ?_
 simp only [push_cast,seval,↓reduceIte,Za,hN0,hN]
 refine Zk [1,5,6] [] ?_
 simp only [push_cast,seval,↓reduceIte]
 obtain ⟨z4,hz4,h⟩:=bC h
 refine Yl (E':=⟨19,[],[(4,.val (.bool z4))]⟩) (O':=(Zv O n [])) (n0:=n) ?_ ?_
 ·rcases Bool.eq_false_or_eq_true y2.2 with c7 | c7
  ·replace hz4:=Zs c7 hz4
   obtain ⟨pu6,hz4⟩:=bG hz4
   refine Zc Zd [some true,some true,some true,some true] ?_
   simp only [push_cast,seval,↓reduceIte,Za,c7,pu6,hN0,hN]
   have hz4:=Option.some.inj hz4;subst hz4
   refine And.intro rfl (Fit2.of (Zj hU rfl rfl ?_) (by omega))
   simp only [push_cast,seval,↓reduceIte,Za,c7,pu6,hN0,hN]
  replace hz4:=Zr c7 hz4
  refine Zc Zd [some false,some false,some false,some false] ?_
  simp only [push_cast,seval,↓reduceIte,Za,c7,hN0,hN]
  have hz4:=Option.some.inj hz4;subst hz4
  refine And.intro rfl (Fit2.of (Zj hU rfl rfl ?_) (by omega))
  simp only [push_cast,seval,↓reduceIte,Za,c7,hN0,hN]
 refine Z0 ?_
 try simp only [Zl,Zi]
 have h:=Option.some.inj h;subst h
 refine Zt (.inr rfl) hU [.val (.bool z4)] (by omega) ?_
 simp only [push_cast,seval,↓reduceIte,Za,Try.results143,hN0,hN]
theorem Zp1 {Y9:(S_api_Tree→Option Bool)} {Y6:(S_api_Tree→Int→Option Bool)} {Yq:((List S_api_Tree)→Int→Option Bool)} {Y1:((List S_api_Tree)→Int→Option Bool)} (Zad:∀ {a0:S_api_Tree} {r:Bool} {O:Objs} {n:Nat},Y9 a0=some r→GTo Try.prog 123 [.agg (Zo a0)] O n (.val (.bool r)) O n) (Zae:∀ {a0:S_api_Tree} {a1:Int} {r:Bool} {O:Objs} {n:Nat},Y6 a0 a1=some r→GTo Try.prog 130 [.agg (Zo a0),.val (.int .i64 a1)] O n (.val (.bool r)) O n) (J9:∀ {a0:(List S_api_Tree)} {a1:Int} {r:Bool} {O:Objs} {n:Nat},Yq a0 a1=some r→GTo Try.prog 140 [.sl a0.length (fl Zb a0),.val (.int .i64 a1)] O n (.val (.bool r)) O n) (Gq:∀ {a0:(List S_api_Tree)} {a1:Int} {r:Bool} {O:Objs} {n:Nat},Y1 a0 a1=some r→GTo Try.prog 142 [.sl a0.length (fl Zb a0),.val (.int .i64 a1)] O n (.val (.bool r)) O n) {a0:S_api_Tree} {r:Bool} {O:Objs} {n:Nat} (h:Zc3 Y9 Y6 Yq Y1 a0=some r):GTo Try.prog 123 [.agg (Zo a0)] O n (.val (.bool r)) O n:=by
 unfold Zc3 at h
 refine Y3 Zd Try.call123 Try.func123 rfl (Nat.le_of_ble_eq_true rfl) (Nat.le_refl _) fun hU => ?_
 have hN0:O n=none:=hU.fresh _ (Nat.le_refl _)
 have hN:∀ k,O (n+k)=none:=fun k=>hU.fresh _ (Nat.le_add_right _ _)
 show W _ _ _ _ ⟨18,[],[(0,.agg (Zo a0))]⟩ (Zv O n []) _
 refine Zq [1] (Zc Zd [] ?_)
 simp only [push_cast,seval,↓reduceIte,Za,hN0,hN]
 refine Zm ?_
 refine Zq [1,5] (Zc Zd [] ?_)
 simp only [push_cast,seval,↓reduceIte,Za,hN0,hN]
 refine Zu (t:=(a0.Kind == 10)) rfl (fun c3 => ?_) (fun c3 => ?_)
 ·replace h:=Zs c3 h
  refine Zq [2] (Zc Zd [none,none,none,none] ?_)
  simp only [push_cast,seval,↓reduceIte,Za,hN0,hN]
  repeat (with_reducible refine And.intro (by first | (intro h0;simp only [h0,and_self];done) | (intro h0;simp only [h0,Bool.not_false,Bool.not_true,Bool.true_and,Bool.and_true,true_and,and_true,and_self,imp_self,implies_true,bne_iff_ne,ne_eq,beq_iff_eq];done) | (intros;simp_all;done) | exact True.intro) ?_)
  refine Z0 ?_
  try simp only [Zl,Zi]
  have h:=Option.some.inj h;subst h
  refine Zt (.inr rfl) hU [.val (.bool (cond ((a0.Words.length:Int) == 1) ((a0.Kids.length:Int) == 0) false))] (by omega) ?_
  simp only [push_cast,seval,↓reduceIte,Za,Try.results123,hN0,hN]
 replace h:=Zr c3 h
 refine Zy ?_
 try simp only [Zl,Zi]
 refine Zk [1] [true] ?_
 simp only [push_cast,seval,↓reduceIte]
 refine Zm ?_
 obtain ⟨y2,hy2,h⟩:=bC h
 refine Zc Zd [] ?_
 simp only [push_cast,seval,↓reduceIte,Za,hN0,hN]
 refine (Zae hy2).then ?_
 simp only [push_cast,seval,↓reduceIte,Za,hN0,hN]
 refine Zk [2] [false] ?_
 simp only [push_cast,seval,↓reduceIte]
 refine Z0 ?_
 try simp only [Zl,Zi]
 have h:=Option.some.inj h;subst h
 refine Zt (.inr rfl) hU [.val (.bool y2)] (by omega) ?_
 simp only [push_cast,seval,↓reduceIte,Za,Try.results123,hN0,hN]
theorem Zp2 {Y9:(S_api_Tree→Option Bool)} {Y6:(S_api_Tree→Int→Option Bool)} {Yq:((List S_api_Tree)→Int→Option Bool)} {Y1:((List S_api_Tree)→Int→Option Bool)} (Zad:∀ {a0:S_api_Tree} {r:Bool} {O:Objs} {n:Nat},Y9 a0=some r→GTo Try.prog 123 [.agg (Zo a0)] O n (.val (.bool r)) O n) (Zae:∀ {a0:S_api_Tree} {a1:Int} {r:Bool} {O:Objs} {n:Nat},Y6 a0 a1=some r→GTo Try.prog 130 [.agg (Zo a0),.val (.int .i64 a1)] O n (.val (.bool r)) O n) (J9:∀ {a0:(List S_api_Tree)} {a1:Int} {r:Bool} {O:Objs} {n:Nat},Yq a0 a1=some r→GTo Try.prog 140 [.sl a0.length (fl Zb a0),.val (.int .i64 a1)] O n (.val (.bool r)) O n) (Gq:∀ {a0:(List S_api_Tree)} {a1:Int} {r:Bool} {O:Objs} {n:Nat},Y1 a0 a1=some r→GTo Try.prog 142 [.sl a0.length (fl Zb a0),.val (.int .i64 a1)] O n (.val (.bool r)) O n) {a0:S_api_Tree} {a1:Int} {r:Bool} {O:Objs} {n:Nat} (h:Zc4 Y9 Y6 Yq Y1 a0 a1=some r):GTo Try.prog 130 [.agg (Zo a0),.val (.int .i64 a1)] O n (.val (.bool r)) O n:=by
 unfold Zc4 at h
 refine Y3 Zd Try.call130 Try.func130 rfl (Nat.le_of_ble_eq_true rfl) (Nat.le_refl _) fun hU => ?_
 have hN0:O n=none:=hU.fresh _ (Nat.le_refl _)
 have hN:∀ k,O (n+k)=none:=fun k=>hU.fresh _ (Nat.le_add_right _ _)
 show W _ _ _ _ ⟨83,[],[(0,.agg (Zo a0)),(1,.val (.int .i64 a1))]⟩ (Zv O n []) _
 refine Zq [1,2] (Zc Zd [] ?_)
 simp only [push_cast,seval,↓reduceIte,Za,hN0,hN]
 refine Zm ?_
 refine Zq [1,2,7] (Zc Zd [] ?_)
 simp only [push_cast,seval,↓reduceIte,Za,hN0,hN]
 refine Zu (t:=(a0.Kind == 0)) rfl (fun c26 => ?_) (fun c26 => ?_)
 ·replace h:=Zs c26 h
  refine Zq [4] (Zc Zd [none,none,none,none] ?_)
  simp only [push_cast,seval,↓reduceIte,Za,hN0,hN]
  repeat (with_reducible refine And.intro (by first | (intro h0;simp only [h0,and_self];done) | (intro h0;simp only [h0,Bool.not_false,Bool.not_true,Bool.true_and,Bool.and_true,true_and,and_true,and_self,imp_self,implies_true,bne_iff_ne,ne_eq,beq_iff_eq];done) | (intros;simp_all;done) | exact True.intro) ?_)
  refine Z0 ?_
  try simp only [Zl,Zi]
  have h:=Option.some.inj h;subst h
  refine Zt (.inr rfl) hU [.val (.bool (cond ((a0.Words.length:Int) == 0) ((a0.Kids.length:Int) == 0) false))] (by omega) ?_
  simp only [push_cast,seval,↓reduceIte,Za,Try.results130,hN0,hN]
 replace h:=Zr c26 h
 refine Zy ?_
 try simp only [Zl,Zi]
 refine Zk [1,2] [true] ?_
 simp only [push_cast,seval,↓reduceIte]
 refine Zm ?_
 refine Zq [1,2,19] (Zc Zd [] ?_)
 simp only [push_cast,seval,↓reduceIte,Za,hN0,hN]
 refine Zu (t:=(a1 == 0)) rfl (fun c25 => ?_) (fun c25 => ?_)
 ·replace h:=Zs c25 h
  refine Zq [4] (Zc Zd [] ?_)
  simp only [push_cast,seval,↓reduceIte,Za,hN0,hN]
  refine Z0 ?_
  try simp only [Zl,Zi]
  have h:=Option.some.inj h;subst h
  refine Zt (.inr rfl) hU [.val (.bool false)] (by omega) ?_
  simp only [push_cast,seval,↓reduceIte,Za,Try.results130,hN0,hN]
 replace h:=Zr c25 h
 refine Zy ?_
 try simp only [Zl,Zi]
 refine Zk [1,2] [true] ?_
 simp only [push_cast,seval,↓reduceIte]
 refine Zm ?_
 refine Zq [1,2,22] (Zc Zd [] ?_)
 simp only [push_cast,seval,↓reduceIte,Za,hN0,hN]
 refine Zu (t:=(a0.Kind == 1)) rfl (fun c24 => ?_) (fun c24 => ?_)
 ·replace h:=Zs c24 h
  obtain ⟨z2,hz2,h⟩:=bC h
  refine Yl (E':=⟨83,[],[(4,.val (.bool z2))]⟩) (O':=(Zv O n [none])) (n0:=(n+1)) ?_ ?_
  ·rcases Bool.eq_false_or_eq_true (decide ((a0.Words.length:Int) < 65536)) with c5 | c5
   ·replace hz2:=Zs c5 hz2
    rcases Bool.eq_false_or_eq_true (decide ((a0.Kids.length:Int) < 65536)) with c6 | c6
    ·replace hz2:=Zs c6 hz2
     try rw [c6] at c5
     obtain ⟨y4,hy4,hz2⟩:=bC hz2
     refine Zc Zd [none,none,none,none,some true,some true,some true,some true,some true] ?_
     simp only [push_cast,seval,↓reduceIte,Za,c5,c6,hN0,hN]
     repeat (with_reducible refine And.intro (by first | (intro h0;simp only [h0,and_self];done) | (intro h0;simp only [h0,Bool.not_false,Bool.not_true,Bool.true_and,Bool.and_true,true_and,and_true,and_self,imp_self,implies_true,bne_iff_ne,ne_eq,beq_iff_eq];done) | (intros;simp_all;done) | exact True.intro) ?_)
     refine (J9 hy4).then ?_
     simp only [push_cast,seval,↓reduceIte,Za,c5,c6,hN0,hN]
     repeat (with_reducible refine And.intro (by first | (intro h0;simp only [h0,and_self];done) | (intro h0;simp only [h0,Bool.not_false,Bool.not_true,Bool.true_and,Bool.and_true,true_and,and_true,and_self,imp_self,implies_true,bne_iff_ne,ne_eq,beq_iff_eq];done) | (intros;simp_all;done) | exact True.intro) ?_)
     have hz2:=Option.some.inj hz2;subst hz2
     refine And.intro rfl (Fit2.of (Zj hU rfl rfl ?_) (by omega))
     simp only [push_cast,seval,↓reduceIte,Za,c5,c6,hN0,hN]
    replace hz2:=Zr c6 hz2
    try rw [c6] at c5
    refine Zc Zd [none,none,none,none,some false,some false,some false,some false,some false] ?_
    simp only [push_cast,seval,↓reduceIte,Za,c5,c6,hN0,hN]
    repeat (with_reducible refine And.intro (by first | (intro h0;simp only [h0,and_self];done) | (intro h0;simp only [h0,Bool.not_false,Bool.not_true,Bool.true_and,Bool.and_true,true_and,and_true,and_self,imp_self,implies_true,bne_iff_ne,ne_eq,beq_iff_eq];done) | (intros;simp_all;done) | exact True.intro) ?_)
    have hz2:=Option.some.inj hz2;subst hz2
    refine And.intro rfl (Fit2.of (Zj hU rfl rfl ?_) (by omega))
    simp only [push_cast,seval,↓reduceIte,Za,c5,c6,hN0,hN]
   replace hz2:=Zr c5 hz2
   refine Zc Zd [none,none,none,none,some false,some false,some false,some false,some false] ?_
   simp only [push_cast,seval,↓reduceIte,Za,c5,hN0,hN]
   repeat (with_reducible refine And.intro (by first | (intro h0;simp only [h0,and_self];done) | (intro h0;simp only [h0,Bool.not_false,Bool.not_true,Bool.true_and,Bool.and_true,true_and,and_true,and_self,imp_self,implies_true,bne_iff_ne,ne_eq,beq_iff_eq];done) | (intros;simp_all;done) | exact True.intro) ?_)
   have hz2:=Option.some.inj hz2;subst hz2
   refine And.intro rfl (Fit2.of (Zj hU rfl rfl ?_) (by omega))
   simp only [push_cast,seval,↓reduceIte,Za,c5,hN0,hN]
  refine Z0 ?_
  try simp only [Zl,Zi]
  have h:=Option.some.inj h;subst h
  refine Zt (.inr rfl) hU [.val (.bool z2)] (by omega) ?_
  simp only [push_cast,seval,↓reduceIte,Za,Try.results130,hN0,hN]
 replace h:=Zr c24 h
 refine Zy ?_
 try simp only [Zl,Zi]
 refine Zk [1,2] [true] ?_
 simp only [push_cast,seval,↓reduceIte]
 refine Zm ?_
 refine Zm ?_
 obtain ⟨y8,hy8,h⟩:=bC h
 refine Zc Zd [none,none,none,none,none,none,none,none] ?_
 simp only [push_cast,seval,↓reduceIte,Za,hN0,hN]
 repeat (with_reducible refine And.intro (by first | (intro h0;simp only [h0,and_self];done) | (intro h0;simp only [h0,Bool.not_false,Bool.not_true,Bool.true_and,Bool.and_true,true_and,and_true,and_self,imp_self,implies_true,bne_iff_ne,ne_eq,beq_iff_eq];done) | (intros;simp_all;done) | exact True.intro) ?_)
 refine (Zly hy8).then ?_
 simp only [push_cast,seval,↓reduceIte,Za,hN0,hN]
 repeat (with_reducible refine And.intro (by first | (intro h0;simp only [h0,and_self];done) | (intro h0;simp only [h0,Bool.not_false,Bool.not_true,Bool.true_and,Bool.and_true,true_and,and_true,and_self,imp_self,implies_true,bne_iff_ne,ne_eq,beq_iff_eq];done) | (intros;simp_all;done) | exact True.intro) ?_)
 refine Zk [1,2,55] [true] ?_
 simp only [push_cast,seval,↓reduceIte]
 refine Zu (t:=(cond (cond (!y8) true (decide (0 < (a0.Words.length:Int)))) true (decide (1048576≤(a0.Kids.length:Int))))) rfl (fun c23 => ?_) (fun c23 => ?_)
 ·replace h:=Zs c23 h
  refine Zq [4] (Zc Zd [] ?_)
  simp only [push_cast,seval,↓reduceIte,Za,hN0,hN]
  refine Z0 ?_
  try simp only [Zl,Zi]
  have h:=Option.some.inj h;subst h
  refine Zt (.inr rfl) hU [.val (.bool false)] (by omega) ?_
  simp only [push_cast,seval,↓reduceIte,Za,Try.results130,hN0,hN]
 replace h:=Zr c23 h
 refine Zy ?_
 try simp only [Zl,Zi]
 refine Zk [1,2] [true] ?_
 simp only [push_cast,seval,↓reduceIte]
 refine Zm ?_
 refine Zq [1,2,57] (Zc Zd [] ?_)
 simp only [push_cast,seval,↓reduceIte,Za,hN0,hN]
 refine Z6 ?_
 refine Zq [1,2,57,58] (Zc Zd [] ?_)
 simp only [push_cast,seval,↓reduceIte,Za,hN0,hN]
 refine Zu (t:=(a0.Kind == 8)) rfl (fun c22 => ?_) (fun c22 => ?_)
 ·replace h:=Zs c22 h
  refine Zm ?_
  obtain ⟨y10,hy10,h⟩:=bC h
  refine Zc Zd [] ?_
  simp only [push_cast,seval,↓reduceIte,Za,hN0,hN]
  refine (J9 hy10).then ?_
  simp only [push_cast,seval,↓reduceIte,Za,hN0,hN]
  refine Zk [4] [false] ?_
  simp only [push_cast,seval,↓reduceIte]
  refine Z0 ?_
  try simp only [Zl,Zi]
  have h:=Option.some.inj h;subst h
  refine Zt (.inr rfl) hU [.val (.bool y10)] (by omega) ?_
  simp only [push_cast,seval,↓reduceIte,Za,Try.results130,hN0,hN]
 replace h:=Zr c22 h
 refine Zq [1,2,65] (Zc Zd [] ?_)
 simp only [push_cast,seval,↓reduceIte,Za,hN0,hN]
 refine Zu (t:=(a0.Kind == 9)) rfl (fun c21 => ?_) (fun c21 => ?_)
 ·replace h:=Zs c21 h
  obtain ⟨z13,hz13,h⟩:=bC h
  refine Yl (E':=⟨83,[],[(4,.val (.bool z13))]⟩) (O':=(Zv O n [none])) (n0:=(n+1)) ?_ ?_
  ·obtain ⟨y16,hy16,hz13⟩:=bC hz13
   rcases Bool.eq_false_or_eq_true y16 with c18 | c18
   ·replace hz13:=Zs c18 hz13
    obtain ⟨y17,hy17,hz13⟩:=bC hz13
    refine Zc Zd [some true,some true,some true,some true,some true] ?_
    simp only [push_cast,seval,↓reduceIte,Za,c18,hN0,hN]
    refine (Zfp hy16).then ?_
    simp only [push_cast,seval,↓reduceIte,Za,c18,hN0,hN]
    refine (J9 hy17).then ?_
    simp only [push_cast,seval,↓reduceIte,Za,c18,hN0,hN]
    have hz13:=Option.some.inj hz13;subst hz13
    refine And.intro rfl (Fit2.of (Zj hU rfl rfl ?_) (by omega))
    simp only [push_cast,seval,↓reduceIte,Za,c18,hN0,hN]
   replace hz13:=Zr c18 hz13
   refine Zc Zd [some false,some false,some false,some false,some false] ?_
   simp only [push_cast,seval,↓reduceIte,Za,c18,hN0,hN]
   refine (Zfp hy16).then ?_
   simp only [push_cast,seval,↓reduceIte,Za,c18,hN0,hN]
   have hz13:=Option.some.inj hz13;subst hz13
   refine And.intro rfl (Fit2.of (Zj hU rfl rfl ?_) (by omega))
   simp only [push_cast,seval,↓reduceIte,Za,c18,hN0,hN]
  refine Z0 ?_
  try simp only [Zl,Zi]
  have h:=Option.some.inj h;subst h
  refine Zt (.inr rfl) hU [.val (.bool z13)] (by omega) ?_
  simp only [push_cast,seval,↓reduceIte,Za,Try.results130,hN0,hN]
 replace h:=Zr c21 h
 refine Zy ?_
 try simp only [Zl,Zi]
 refine Zk [2] [true] ?_
 simp only [push_cast,seval,↓reduceIte]
 refine Zm ?_
 obtain ⟨y20,hy20,h⟩:=bC h
 refine Zc Zd [] ?_
 simp only [push_cast,seval,↓reduceIte,Za,hN0,hN]
 refine (Gq hy20).then ?_
 simp only [push_cast,seval,↓reduceIte,Za,hN0,hN]
 refine Zk [4] [false] ?_
 simp only [push_cast,seval,↓reduceIte]
 refine Z0 ?_
 try simp only [Zl,Zi]
 have h:=Option.some.inj h;subst h
 refine Zt (.inr rfl) hU [.val (.bool y20)] (by omega) ?_
 simp only [push_cast,seval,↓reduceIte,Za,Try.results130,hN0,hN]
theorem Zl4 {Y9:(S_api_Tree→Option Bool)} {Y6:(S_api_Tree→Int→Option Bool)} {Yq:((List S_api_Tree)→Int→Option Bool)} {Y1:((List S_api_Tree)→Int→Option Bool)} (Zad:∀ {a0:S_api_Tree} {r:Bool} {O:Objs} {n:Nat},Y9 a0=some r→GTo Try.prog 123 [.agg (Zo a0)] O n (.val (.bool r)) O n) (Zae:∀ {a0:S_api_Tree} {a1:Int} {r:Bool} {O:Objs} {n:Nat},Y6 a0 a1=some r→GTo Try.prog 130 [.agg (Zo a0),.val (.int .i64 a1)] O n (.val (.bool r)) O n) (J9:∀ {a0:(List S_api_Tree)} {a1:Int} {r:Bool} {O:Objs} {n:Nat},Yq a0 a1=some r→GTo Try.prog 140 [.sl a0.length (fl Zb a0),.val (.int .i64 a1)] O n (.val (.bool r)) O n) (Gq:∀ {a0:(List S_api_Tree)} {a1:Int} {r:Bool} {O:Objs} {n:Nat},Y1 a0 a1=some r→GTo Try.prog 142 [.sl a0.length (fl Zb a0),.val (.int .i64 a1)] O n (.val (.bool r)) O n) {a0:(List S_api_Tree)} {a1:Int} {r:Bool} {O:Objs} {n:Nat} (h:Gz Y9 Y6 Yq Y1 a0 a1=some r):GTo Try.prog 140 [.sl a0.length (fl Zb a0),.val (.int .i64 a1)] O n (.val (.bool r)) O n:=by
 unfold Gz at h
 refine Y3 Zd Try.call140 Try.func140 rfl (Nat.le_of_ble_eq_true rfl) (Nat.le_refl _) fun hU => ?_
 have hN0:O n=none:=hU.fresh _ (Nat.le_refl _)
 have hN:∀ k,O (n+k)=none:=fun k=>hU.fresh _ (Nat.le_add_right _ _)
 show W _ _ _ _ ⟨18,[],[(0,.sl a0.length (fl Zb a0)),(1,.val (.int .i64 a1))]⟩ (Zv O n []) _
 refine Zq [0,1] (Zc Zd [] ?_)
 simp only [push_cast,seval,↓reduceIte,Za,hN0,hN]
 refine Zm ?_
 refine Zq [1,7,8,9] (Zc Zd [] ?_)
 simp only [push_cast,seval,↓reduceIte,Za,hN0,hN]
 refine Zk [1,7,8,9] [] ?_
 simp only [push_cast,seval,↓reduceIte]
 obtain ⟨z7,hz7,h⟩:=bC h
 refine U0 (J:=(Xc (fun z7=>JR n (⟨18,[],[(4,.val (.bool false))]⟩:Env) (Zv O n []) n) (fun z7=>JX 0 n (⟨18,[],[]⟩:Env) (Zv O n []) n))) (z:=z7) ?_ fun hw => ?_
 ·refine Yn hz7 (fun s0_=>⟨18,[],[(1,.val (.int .i64 a1)),(7,.sl a0.length (fl Zb a0)),(8,.val (.int .i64 (a0.length:Int))),(9,.val (.int .i64 s0_))]⟩) (fun s0_=>(Zv O n [])) (Xc (fun z7=>JR n (⟨18,[],[(4,.val (.bool false))]⟩:Env) (Zv O n []) n) (fun z7=>JX 0 n (⟨18,[],[]⟩:Env) (Zv O n []) n)) ?_
  intro s0_ x0_ hs0_
  unfold Vq at hs0_
  try dsimp only
  refine Zq [1,7,8,9,10] (Zc Zd [] ?_)
  simp only [push_cast,seval,↓reduceIte,Za,hN0,hN]
  refine Zm ?_
  refine Zu (t:=(decide (s0_ < (a0.length:Int)))) rfl (fun c6 => ?_) (fun c6 => ?_)
  ·replace hs0_:=Zs c6 hs0_
   refine Zy ?_
   try simp only [Zl,Zi]
   refine Zk [1,7,8,9] [] ?_
   simp only [push_cast,seval,↓reduceIte]
   refine Zm ?_
   refine Z6 ?_
   refine Zm ?_
   obtain ⟨x2,hx2,ax2,bx2,cx2,hs0_⟩:=bE (f:=Zb) Zai (fun _=>rfl) (by decide) hs0_
   refine Zc Zd [] ?_
   simp only [push_cast,Nat.reduceAdd,Nat.reduceSub,Nat.reduceMul,Nat.reduceLeDiff,Nat.reduceLT,Nat.reduceEqDiff,↓reduceIte,reduceCtorEq,Int.reduceBEq,Int.reduceBNe,Nat.reduceBEq,Int.reduceLE,Int.reduceLT,Int.reduceEq,Int.reduceNe,Int.reduceNeg,Nat.reduceDiv,Nat.reduceMod,Nat.reducePow,Za,ax2,bx2,cx2,hN0,hN]
   refine Zk [1,6,7,8,9] [true] ?_
   simp only [push_cast,seval,↓reduceIte]
   refine Zm ?_
   obtain ⟨y4,hy4,hs0_⟩:=bC hs0_
   refine Zc Zd [] ?_
   simp only [push_cast,seval,↓reduceIte,Za,hN0,hN]
   refine (Zae hy4).then ?_
   simp only [push_cast,seval,↓reduceIte,Za,hN0,hN]
   refine Zk [1,7,8,9,16] [false] ?_
   simp only [push_cast,seval,↓reduceIte]
   refine Zu (t:=(!y4)) rfl (fun c5 => ?_) (fun c5 => ?_)
   ·replace hs0_:=Zs c5 hs0_
    refine Zq [4] (Zc Zd [] ?_)
    simp only [push_cast,seval,↓reduceIte,Za,hN0,hN]
    refine Z0 ?_
    try simp only [Zl,Zi]
    have hs0_:=Option.some.inj hs0_;subst hs0_
    refine And.intro (fun h=>by cases h) (And.intro rfl (Fit2.of (Zj hU rfl rfl ?_) (by omega)))
    simp only [push_cast,seval,↓reduceIte,Za,hN0,hN]
   replace hs0_:=Zr c5 hs0_
   refine Zy ?_
   try simp only [Zl,Zi]
   refine Zk [1,7,8,9] [false] ?_
   simp only [push_cast,seval,↓reduceIte]
   refine Zc Zd [] ?_
   simp only [push_cast,seval,↓reduceIte,Za,hN0,hN]
   have hs0_:=Option.some.inj hs0_;subst hs0_
   refine And.intro rfl (Fit2.of (Zj hU rfl rfl ?_) (by omega))
   simp only [push_cast,seval,↓reduceIte,Za,hN0,hN]
  replace hs0_:=Zr c6 hs0_
  refine Yx ?_
  try simp only [Zl,Zi,↓reduceIte,Nat.reduceEqDiff]
  have hs0_:=Option.some.inj hs0_;subst hs0_
  refine And.intro (fun h=>by cases h) (And.intro rfl (Fit2.of (Zj hU rfl rfl ?_) (by omega)))
  simp only [push_cast,seval,↓reduceIte,Za,hN0,hN]
 rcases z7 with z7 | z7
 ·dsimp only [Xc] at hw h
  refine Q0 hw ?_
  try simp only [Zl,Zi,↓reduceIte,Nat.reduceEqDiff]
  have h:=Option.some.inj h;subst h
  refine Zt (.inr rfl) hU [.val (.bool false)] (by omega) ?_
  simp only [push_cast,seval,↓reduceIte,Za,Try.results140,hN0,hN]
 dsimp only [Xc] at hw h
 refine Yb hw ?_
 try simp only [Zl,Zi,↓reduceIte,Nat.reduceEqDiff]
 refine Zk [] [] ?_
 simp only [push_cast,seval,↓reduceIte]
 refine Zq [4] (Zc Zd [] ?_)
 simp only [push_cast,seval,↓reduceIte,Za,hN0,hN]
 refine Z0 ?_
 try simp only [Zl,Zi]
 have h:=Option.some.inj h;subst h
 refine Zt (.inr rfl) hU [.val (.bool true)] (by omega) ?_
 simp only [push_cast,seval,↓reduceIte,Za,Try.results140,hN0,hN]
theorem Zl3 {Y9:(S_api_Tree→Option Bool)} {Y6:(S_api_Tree→Int→Option Bool)} {Yq:((List S_api_Tree)→Int→Option Bool)} {Y1:((List S_api_Tree)→Int→Option Bool)} (Zad:∀ {a0:S_api_Tree} {r:Bool} {O:Objs} {n:Nat},Y9 a0=some r→GTo Try.prog 123 [.agg (Zo a0)] O n (.val (.bool r)) O n) (Zae:∀ {a0:S_api_Tree} {a1:Int} {r:Bool} {O:Objs} {n:Nat},Y6 a0 a1=some r→GTo Try.prog 130 [.agg (Zo a0),.val (.int .i64 a1)] O n (.val (.bool r)) O n) (J9:∀ {a0:(List S_api_Tree)} {a1:Int} {r:Bool} {O:Objs} {n:Nat},Yq a0 a1=some r→GTo Try.prog 140 [.sl a0.length (fl Zb a0),.val (.int .i64 a1)] O n (.val (.bool r)) O n) (Gq:∀ {a0:(List S_api_Tree)} {a1:Int} {r:Bool} {O:Objs} {n:Nat},Y1 a0 a1=some r→GTo Try.prog 142 [.sl a0.length (fl Zb a0),.val (.int .i64 a1)] O n (.val (.bool r)) O n) {a0:(List S_api_Tree)} {a1:Int} {r:Bool} {O:Objs} {n:Nat} (h:Gy Y9 Y6 Yq Y1 a0 a1=some r):GTo Try.prog 142 [.sl a0.length (fl Zb a0),.val (.int .i64 a1)] O n (.val (.bool r)) O n:=by
 unfold Gy at h
 refine Y3 Zd Try.call142 Try.func142 rfl (Nat.le_of_ble_eq_true rfl) (Nat.le_refl _) fun hU => ?_
 have hN0:O n=none:=hU.fresh _ (Nat.le_refl _)
 have hN:∀ k,O (n+k)=none:=fun k=>hU.fresh _ (Nat.le_add_right _ _)
 show W _ _ _ _ ⟨31,[],[(0,.sl a0.length (fl Zb a0)),(1,.val (.int .i64 a1))]⟩ (Zv O n []) _
 refine Zq [0,1] (Zc Zd [] ?_)
 simp only [push_cast,seval,↓reduceIte,Za,hN0,hN]
 refine Zm ?_
 refine Zq [1,7,8,9] (Zc Zd [] ?_)
 simp only [push_cast,seval,↓reduceIte,Za,hN0,hN]
 refine Zk [1,7,8,9] [] ?_
 simp only [push_cast,seval,↓reduceIte]
 obtain ⟨z17,hz17,h⟩:=bC h
 refine U0 (J:=(Xc (fun z17=>JR n (⟨31,[],[(4,.val (.bool false))]⟩:Env) (Zv O n []) n) (fun z17=>JX 0 n (⟨31,[],[]⟩:Env) (Zv O n []) n))) (z:=z17) ?_ fun hw => ?_
 ·refine Yn hz17 (fun s0_=>⟨31,[],[(1,.val (.int .i64 a1)),(7,.sl a0.length (fl Zb a0)),(8,.val (.int .i64 (a0.length:Int))),(9,.val (.int .i64 s0_))]⟩) (fun s0_=>(Zv O n [])) (Xc (fun z17=>JR n (⟨31,[],[(4,.val (.bool false))]⟩:Env) (Zv O n []) n) (fun z17=>JX 0 n (⟨31,[],[]⟩:Env) (Zv O n []) n)) ?_
  intro s0_ x0_ hs0_
  unfold Vp at hs0_
  try dsimp only
  refine Zq [1,7,8,9,10] (Zc Zd [] ?_)
  simp only [push_cast,seval,↓reduceIte,Za,hN0,hN]
  refine Zm ?_
  refine Zu (t:=(decide (s0_ < (a0.length:Int)))) rfl (fun c16 => ?_) (fun c16 => ?_)
  ·replace hs0_:=Zs c16 hs0_
   refine Zy ?_
   try simp only [Zl,Zi]
   refine Zk [1,7,8,9] [] ?_
   simp only [push_cast,seval,↓reduceIte]
   refine Zm ?_
   refine Z6 ?_
   refine Zm ?_
   obtain ⟨x2,hx2,ax2,bx2,cx2,hs0_⟩:=bE (f:=Zb) Zai (fun _=>rfl) (by decide) hs0_
   refine Zc Zd [] ?_
   simp only [push_cast,Nat.reduceAdd,Nat.reduceSub,Nat.reduceMul,Nat.reduceLeDiff,Nat.reduceLT,Nat.reduceEqDiff,↓reduceIte,reduceCtorEq,Int.reduceBEq,Int.reduceBNe,Nat.reduceBEq,Int.reduceLE,Int.reduceLT,Int.reduceEq,Int.reduceNe,Int.reduceNeg,Nat.reduceDiv,Nat.reduceMod,Nat.reducePow,Za,ax2,bx2,cx2,hN0,hN]
   refine Zk [1,6,7,8,9] [true] ?_
   simp only [push_cast,seval,↓reduceIte]
   obtain ⟨z6,hz6,hs0_⟩:=bC hs0_
   refine Yl (E':=⟨31,[],[(1,.val (.int .i64 a1)),(7,.sl a0.length (fl Zb a0)),(8,.val (.int .i64 (a0.length:Int))),(9,.val (.int .i64 s0_)),(29,.val (.bool z6))]⟩) (O':=(Zv O n [none])) (n0:=(n+1)) ?_ ?_
   ·rcases Bool.eq_false_or_eq_true (x2.Kind != 10) with c13 | c13
    ·replace hz6:=Zs c13 hz6
     refine Zc Zd [some false,some false,some false,some false,some false,some false,some false,some false,some false,some false] ?_
     simp only [push_cast,seval,↓reduceIte,Za,c13,hN0,hN]
     have hz6:=Option.some.inj hz6;subst hz6
     refine And.intro rfl (Fit2.of (Zj hU rfl rfl ?_) (by omega))
     simp only [push_cast,seval,↓reduceIte,Za,c13,hN0,hN]
    replace hz6:=Zr c13 hz6
    obtain ⟨y10,hy10,hz6⟩:=bC hz6
    rcases Bool.eq_false_or_eq_true y10 with c14 | c14
    ·replace hz6:=Zs c14 hz6
     try rw [c14] at c13
     obtain ⟨x11,hx11,ax11,bx11,cx11,hz6⟩:=bE (f:=(eI .u64)) Zh7 (fun _=>rfl) (by decide) hz6
     obtain ⟨y12,hy12,hz6⟩:=bC hz6
     refine Zc Zd [some true,some true,some true,some true,some true,some true,some true,some true,some true,some true] ?_
     simp only [push_cast,Nat.reduceAdd,Nat.reduceSub,Nat.reduceMul,Nat.reduceLeDiff,Nat.reduceLT,Nat.reduceEqDiff,↓reduceIte,reduceCtorEq,Int.reduceBEq,Int.reduceBNe,Nat.reduceBEq,Int.reduceLE,Int.reduceLT,Int.reduceEq,Int.reduceNe,Int.reduceNeg,Nat.reduceDiv,Nat.reduceMod,Nat.reducePow,Za,c13,c14,ax11,bx11,cx11,hN0,hN]
     refine (Zad hy10).then ?_
     simp only [push_cast,Nat.reduceAdd,Nat.reduceSub,Nat.reduceMul,Nat.reduceLeDiff,Nat.reduceLT,Nat.reduceEqDiff,↓reduceIte,reduceCtorEq,Int.reduceBEq,Int.reduceBNe,Nat.reduceBEq,Int.reduceLE,Int.reduceLT,Int.reduceEq,Int.reduceNe,Int.reduceNeg,Nat.reduceDiv,Nat.reduceMod,Nat.reducePow,Za,c13,c14,ax11,bx11,cx11,hN0,hN]
     refine (Ztp hy12).then ?_
     simp only [push_cast,Nat.reduceAdd,Nat.reduceSub,Nat.reduceMul,Nat.reduceLeDiff,Nat.reduceLT,Nat.reduceEqDiff,↓reduceIte,reduceCtorEq,Int.reduceBEq,Int.reduceBNe,Nat.reduceBEq,Int.reduceLE,Int.reduceLT,Int.reduceEq,Int.reduceNe,Int.reduceNeg,Nat.reduceDiv,Nat.reduceMod,Nat.reducePow,Za,c13,c14,ax11,bx11,cx11,hN0,hN]
     have hz6:=Option.some.inj hz6;subst hz6
     refine And.intro rfl (Fit2.of (Zj hU rfl rfl ?_) (by omega))
     simp only [push_cast,Nat.reduceAdd,Nat.reduceSub,Nat.reduceMul,Nat.reduceLeDiff,Nat.reduceLT,Nat.reduceEqDiff,↓reduceIte,reduceCtorEq,Int.reduceBEq,Int.reduceBNe,Nat.reduceBEq,Int.reduceLE,Int.reduceLT,Int.reduceEq,Int.reduceNe,Int.reduceNeg,Nat.reduceDiv,Nat.reduceMod,Nat.reducePow,Za,c13,c14,ax11,bx11,cx11,hN0,hN]
    replace hz6:=Zr c14 hz6
    try rw [c14] at c13
    refine Zc Zd [some true,some true,some true,some false,some false,some false,some false,some false,some false,some false] ?_
    simp only [push_cast,seval,↓reduceIte,Za,c13,c14,hN0,hN]
    refine (Zad hy10).then ?_
    simp only [push_cast,seval,↓reduceIte,Za,c13,c14,hN0,hN]
    have hz6:=Option.some.inj hz6;subst hz6
    refine And.intro rfl (Fit2.of (Zj hU rfl rfl ?_) (by omega))
    simp only [push_cast,seval,↓reduceIte,Za,c13,c14,hN0,hN]
   refine Zu (t:=z6) rfl (fun c15 => ?_) (fun c15 => ?_)
   ·replace hs0_:=Zs c15 hs0_
    refine Zq [4] (Zc Zd [] ?_)
    simp only [push_cast,seval,↓reduceIte,Za,hN0,hN]
    refine Z0 ?_
    try simp only [Zl,Zi]
    have hs0_:=Option.some.inj hs0_;subst hs0_
    refine And.intro (fun h=>by cases h) (And.intro rfl (Fit2.of (Zj hU rfl rfl ?_) (by omega)))
    simp only [push_cast,seval,↓reduceIte,Za,hN0,hN]
   replace hs0_:=Zr c15 hs0_
   refine Zy ?_
   try simp only [Zl,Zi]
   refine Zk [1,7,8,9] [false] ?_
   simp only [push_cast,seval,↓reduceIte]
   refine Zc Zd [] ?_
   simp only [push_cast,seval,↓reduceIte,Za,hN0,hN]
   have hs0_:=Option.some.inj hs0_;subst hs0_
   refine And.intro rfl (Fit2.of (Zj hU rfl rfl ?_) (by omega))
   simp only [push_cast,seval,↓reduceIte,Za,hN0,hN]
  replace hs0_:=Zr c16 hs0_
  refine Yx ?_
  try simp only [Zl,Zi,↓reduceIte,Nat.reduceEqDiff]
  have hs0_:=Option.some.inj hs0_;subst hs0_
  refine And.intro (fun h=>by cases h) (And.intro rfl (Fit2.of (Zj hU rfl rfl ?_) (by omega)))
  simp only [push_cast,seval,↓reduceIte,Za,hN0,hN]
 rcases z17 with z17 | z17
 ·dsimp only [Xc] at hw h
  refine Q0 hw ?_
  try simp only [Zl,Zi,↓reduceIte,Nat.reduceEqDiff]
  have h:=Option.some.inj h;subst h
  refine Zt (.inr rfl) hU [.val (.bool false)] (by omega) ?_
  simp only [push_cast,seval,↓reduceIte,Za,Try.results142,hN0,hN]
 dsimp only [Xc] at hw h
 refine Yb hw ?_
 try simp only [Zl,Zi,↓reduceIte,Nat.reduceEqDiff]
 refine Zk [] [] ?_
 simp only [push_cast,seval,↓reduceIte]
 refine Zq [4] (Zc Zd [] ?_)
 simp only [push_cast,seval,↓reduceIte,Za,hN0,hN]
 refine Z0 ?_
 try simp only [Zl,Zi]
 have h:=Option.some.inj h;subst h
 refine Zt (.inr rfl) hU [.val (.bool true)] (by omega) ?_
 simp only [push_cast,seval,↓reduceIte,Za,Try.results142,hN0,hN]
theorem Zm7:∀ k,(∀ {a0:S_api_Tree} {r:Bool} {O:Objs} {n:Nat},(Zz k).1 a0=some r→GTo Try.prog 123 [.agg (Zo a0)] O n (.val (.bool r)) O n)∧(∀ {a0:S_api_Tree} {a1:Int} {r:Bool} {O:Objs} {n:Nat},(Zz k).2.1 a0 a1=some r→GTo Try.prog 130 [.agg (Zo a0),.val (.int .i64 a1)] O n (.val (.bool r)) O n)∧(∀ {a0:(List S_api_Tree)} {a1:Int} {r:Bool} {O:Objs} {n:Nat},(Zz k).2.2.1 a0 a1=some r→GTo Try.prog 140 [.sl a0.length (fl Zb a0),.val (.int .i64 a1)] O n (.val (.bool r)) O n)∧(∀ {a0:(List S_api_Tree)} {a1:Int} {r:Bool} {O:Objs} {n:Nat},(Zz k).2.2.2 a0 a1=some r→GTo Try.prog 142 [.sl a0.length (fl Zb a0),.val (.int .i64 a1)] O n (.val (.bool r)) O n):=fun k=>by
 induction k with
 | zero=>exact ⟨@fun a0 r O n h=>(nomatch (show (none:Option _)=some _ from h)),@fun a0 a1 r O n h=>(nomatch (show (none:Option _)=some _ from h)),@fun a0 a1 r O n h=>(nomatch (show (none:Option _)=some _ from h)),@fun a0 a1 r O n h=>(nomatch (show (none:Option _)=some _ from h))⟩
 | succ k ih=>exact ⟨@fun a0 r O n h=>Zp1 (ih.1) (ih.2.1) (ih.2.2.1) (ih.2.2.2)  h,@fun a0 a1 r O n h=>Zp2 (ih.1) (ih.2.1) (ih.2.2.1) (ih.2.2.2)  h,@fun a0 a1 r O n h=>Zl4 (ih.1) (ih.2.1) (ih.2.2.1) (ih.2.2.2)  h,@fun a0 a1 r O n h=>Zl3 (ih.1) (ih.2.1) (ih.2.2.1) (ih.2.2.2)  h⟩
theorem Zj8 {a0:S_api_Tree} {r:Bool} {O:Objs} {n:Nat} (h:Ze4 a0=some r):GTo Try.prog 123 [.agg (Zo a0)] O n (.val (.bool r)) O n:=by
 obtain ⟨k,hk⟩:=Vs h
 exact (Zm7 k).1  hk
theorem Zgm {a0:S_api_Tree} {r:Bool} {O:Objs} {n:Nat} (h:Zbt a0=some r):GTo Try.prog 98 [.agg (Zo a0)] O n (.val (.bool r)) O n:=by
 unfold Zbt at h
 refine Y3 Zd Try.call98 Try.func98 rfl (Nat.le_of_ble_eq_true rfl) (Nat.le_refl _) fun hU => ?_
 have hN0:O n=none:=hU.fresh _ (Nat.le_refl _)
 have hN:∀ k,O (n+k)=none:=fun k=>hU.fresh _ (Nat.le_add_right _ _)
 show W _ _ _ _ ⟨10,[],[(0,.agg (Zo a0))]⟩ (Zv O n []) _
 refine Zq [1] (Zc Zd [] ?_)
 simp only [push_cast,seval,↓reduceIte,Za,hN0,hN]
 obtain ⟨z2,hz2,h⟩:=bC h
 refine Yl (E':=⟨10,[],[(2,.val (.bool z2))]⟩) (O':=(Zv O n [none])) (n0:=(n+1)) ?_ ?_
 ·rcases Bool.eq_false_or_eq_true (a0.Kind != 10) with c5 | c5
  ·replace hz2:=Zs c5 hz2
   obtain ⟨y4,hy4,hz2⟩:=bC hz2
   refine Zc Zd [some true,some true] ?_
   simp only [push_cast,seval,↓reduceIte,Za,c5,hN0,hN]
   refine (Zj8 hy4).then ?_
   simp only [push_cast,seval,↓reduceIte,Za,c5,hN0,hN]
   have hz2:=Option.some.inj hz2;subst hz2
   refine And.intro rfl (Fit2.of (Zj hU rfl rfl ?_) (by omega))
   simp only [push_cast,seval,↓reduceIte,Za,c5,hN0,hN]
  replace hz2:=Zr c5 hz2
  refine Zc Zd [some false,some false] ?_
  simp only [push_cast,seval,↓reduceIte,Za,c5,hN0,hN]
  have hz2:=Option.some.inj hz2;subst hz2
  refine And.intro rfl (Fit2.of (Zj hU rfl rfl ?_) (by omega))
  simp only [push_cast,seval,↓reduceIte,Za,c5,hN0,hN]
 refine Z0 ?_
 try simp only [Zl,Zi]
 have h:=Option.some.inj h;subst h
 refine Zt (.inr rfl) hU [.val (.bool z2)] (by omega) ?_
 simp only [push_cast,seval,↓reduceIte,Za,Try.results98,hN0,hN]
theorem Ztq {a0:Int} {r:Int} {O:Objs} {n:Nat} (h:Zcs a0=some r):GTo Try.prog 72 [.val (.int .u8 a0)] O n (.val (.int .u64 r)) O n:=by
 unfold Zcs at h
 refine Y3 Zd Try.call72 Try.func72 rfl (Nat.le_of_ble_eq_true rfl) (Nat.le_refl _) fun hU => ?_
 have hN0:O n=none:=hU.fresh _ (Nat.le_refl _)
 have hN:∀ k,O (n+k)=none:=fun k=>hU.fresh _ (Nat.le_add_right _ _)
 show W _ _ _ _ ⟨20,[],[(0,.val (.int .u8 a0))]⟩ (Zv O n []) _
 refine Zq [0] (Zc Zd [] ?_)
 simp only [push_cast,seval,↓reduceIte,Za,hN0,hN]
 refine Zq [0,3] (Zc Zd [] ?_)
 simp only [push_cast,seval,↓reduceIte,Za,hN0,hN]
 refine Zm ?_
 refine Zq [0,3,5] (Zc Zd [] ?_)
 simp only [push_cast,seval,↓reduceIte,Za,hN0,hN]
 refine Zk [0,3,5] [] ?_
 simp only [push_cast,seval,↓reduceIte]
 obtain ⟨z7,hz7,h⟩:=bC h
 refine Yb (E':=⟨20,[],[(3,.val (.int .u64 z7))]⟩) (O':=(Zv O n [])) (n0:=n) ?_ ?_
 ·refine Yn hz7 (fun s0_=>⟨20,[],[(0,.val (.int .u8 a0)),(3,.val (.int .u64 s0_.1)),(5,.val (.int .i64 s0_.2))]⟩) (fun s0_=>(Zv O n [])) (fun z7=>JX 0 n (⟨20,[],[(3,.val (.int .u64 z7))]⟩:Env) (Zv O n []) n) ?_
  intro s0_ x0_ hs0_
  unfold Zbc at hs0_
  try dsimp only
  refine Zq [0,3,5,6] (Zc Zd [] ?_)
  simp only [push_cast,seval,↓reduceIte,Za,hN0,hN]
  refine Zm ?_
  refine Zu (t:=(decide (s0_.2 < 8))) rfl (fun c6 => ?_) (fun c6 => ?_)
  ·replace hs0_:=Zs c6 hs0_
   refine Zy ?_
   try simp only [Zl,Zi]
   refine Zk [0,3,5] [] ?_
   simp only [push_cast,seval,↓reduceIte]
   obtain ⟨z1,hz1,hs0_⟩:=bC hs0_
   refine Yl (E':=⟨20,[],[(0,.val (.int .u8 a0)),(3,.val (.int .u64 z1)),(5,.val (.int .i64 s0_.2))]⟩) (O':=(Zv O n [])) (n0:=n) ?_ ?_
   ·refine Z6 ?_
    refine Zq [0,3,4,5] (Zc Zd [] ?_)
    simp only [push_cast,seval,↓reduceIte,Za,hN0,hN]
    obtain ⟨pu3,hz1⟩:=bG hz1
    refine Zq [0,3,4,5,12] (Zc Zd [] ?_)
    simp only [push_cast,seval,↓reduceIte,Za,pu3,hN0,hN]
    refine Zu (t:=((IntKind.u8.wrap (Zg0 .u8 (Int.fdiv a0 (2 ^ min (Int.toNat s0_.2) 8)) 1)) == 1)) rfl (fun c5 => ?_) (fun c5 => ?_)
    ·replace hz1:=Zs c5 hz1
     obtain ⟨pu4,hz1⟩:=bG hz1
     refine Zc Zd [] ?_
     simp only [push_cast,seval,↓reduceIte,Za,pu4,hN0,hN]
     have hz1:=Option.some.inj hz1;subst hz1
     refine And.intro rfl (Fit2.of (Zj hU rfl rfl ?_) (by omega))
     simp only [push_cast,seval,↓reduceIte,Za,pu4,hN0,hN]
    replace hz1:=Zr c5 hz1
    refine Zy ?_
    try simp only [Zl,Zi]
    have hz1:=Option.some.inj hz1;subst hz1
    refine And.intro rfl (Fit2.of (Zj hU rfl rfl ?_) (by omega))
    simp only [push_cast,seval,↓reduceIte,Za,hN0,hN]
   refine Zc Zd [] ?_
   simp only [push_cast,seval,↓reduceIte,Za,hN0,hN]
   have hs0_:=Option.some.inj hs0_;subst hs0_
   refine And.intro rfl (Fit2.of (Zj hU rfl rfl ?_) (by omega))
   simp only [push_cast,seval,↓reduceIte,Za,hN0,hN]
  replace hs0_:=Zr c6 hs0_
  refine Yx ?_
  try simp only [Zl,Zi,↓reduceIte,Nat.reduceEqDiff]
  have hs0_:=Option.some.inj hs0_;subst hs0_
  refine And.intro (fun h=>by cases h) (And.intro rfl (Fit2.of (Zj hU rfl rfl ?_) (by omega)))
  simp only [push_cast,seval,↓reduceIte,Za,hN0,hN]
 try simp only [Zl,Zi,↓reduceIte,Nat.reduceEqDiff]
 refine Zk [3] [] ?_
 simp only [push_cast,seval,↓reduceIte]
 refine Zq [2] (Zc Zd [] ?_)
 simp only [push_cast,seval,↓reduceIte,Za,hN0,hN]
 refine Z0 ?_
 try simp only [Zl,Zi]
 have h:=Option.some.inj h;subst h
 refine Zt (.inr rfl) hU [.val (.int .u64 z7)] (by omega) ?_
 simp only [push_cast,seval,↓reduceIte,Za,Try.results72,hN0,hN]
theorem Zfn {a0:(List Zp)} {r:Bool} {O:Objs} {n:Nat} (h:Ul a0=some r):GTo Try.prog 99 [.sl a0.length (fl Zg a0)] O n (.val (.bool r)) O n:=by
 unfold Ul at h
 refine Y3 Zd Try.call99 Try.func99 rfl (Nat.le_of_ble_eq_true rfl) (Nat.le_refl _) fun hU => ?_
 have hN0:O n=none:=hU.fresh _ (Nat.le_refl _)
 have hN:∀ k,O (n+k)=none:=fun k=>hU.fresh _ (Nat.le_add_right _ _)
 show W _ _ _ _ ⟨48,[],[(0,.sl a0.length (fl Zg a0))]⟩ (Zv O n []) _
 refine Zq [0] (Zc Zd [] ?_)
 simp only [push_cast,seval,↓reduceIte,Za,hN0,hN]
 refine Zq [0,3] (Zc Zd [] ?_)
 simp only [push_cast,seval,↓reduceIte,Za,hN0,hN]
 refine Zm ?_
 refine Zq [3,7,8,9] (Zc Zd [] ?_)
 simp only [push_cast,seval,↓reduceIte,Za,hN0,hN]
 refine Zk [3,7,8,9] [] ?_
 simp only [push_cast,seval,↓reduceIte]
 obtain ⟨z7,hz7,h⟩:=bC h
 refine U0 (J:=(Xc (fun z7=>JR n (⟨48,[],[(2,.val (.bool false))]⟩:Env) (Zv O n []) n) (fun z7=>JX 0 n (⟨48,[],[]⟩:Env) (Zv O n []) n))) (z:=z7) ?_ fun hw => ?_
 ·refine Yn hz7 (fun s0_=>⟨48,[],[(3,.val (.int .i64 s0_.1)),(7,.sl a0.length (fl Zg a0)),(8,.val (.int .i64 (a0.length:Int))),(9,.val (.int .i64 s0_.2))]⟩) (fun s0_=>(Zv O n [])) (Xc (fun z7=>JR n (⟨48,[],[(2,.val (.bool false))]⟩:Env) (Zv O n []) n) (fun z7=>JX 0 n (⟨48,[],[]⟩:Env) (Zv O n []) n)) ?_
  intro s0_ x0_ hs0_
  unfold Kq at hs0_
  try dsimp only
  refine Zq [3,7,8,9,10] (Zc Zd [] ?_)
  simp only [push_cast,seval,↓reduceIte,Za,hN0,hN]
  refine Zm ?_
  refine Zu (t:=(decide (s0_.2 < (a0.length:Int)))) rfl (fun c6 => ?_) (fun c6 => ?_)
  ·replace hs0_:=Zs c6 hs0_
   refine Zy ?_
   try simp only [Zl,Zi]
   refine Zk [3,7,8,9] [] ?_
   simp only [push_cast,seval,↓reduceIte]
   refine Zm ?_
   refine Z6 ?_
   refine Zm ?_
   obtain ⟨x2,hx2,ax2,bx2,cx2,hs0_⟩:=bE (f:=Zg) Zmj (fun _=>rfl) (by decide) hs0_
   refine Zc Zd [] ?_
   simp only [push_cast,Nat.reduceAdd,Nat.reduceSub,Nat.reduceMul,Nat.reduceLeDiff,Nat.reduceLT,Nat.reduceEqDiff,↓reduceIte,reduceCtorEq,Int.reduceBEq,Int.reduceBNe,Nat.reduceBEq,Int.reduceLE,Int.reduceLT,Int.reduceEq,Int.reduceNe,Int.reduceNeg,Nat.reduceDiv,Nat.reduceMod,Nat.reducePow,Za,ax2,bx2,cx2,hN0,hN]
   refine Zk [3,5,7,8,9] [true] ?_
   simp only [push_cast,seval,↓reduceIte]
   refine Zm ?_
   obtain ⟨y4,hy4,hs0_⟩:=bC hs0_
   refine Zc Zd [] ?_
   simp only [push_cast,seval,↓reduceIte,Za,hN0,hN]
   refine (Ztq hy4).then ?_
   simp only [push_cast,seval,↓reduceIte,Za,hN0,hN]
   refine Zk [3,5,6,7,8,9] [true] ?_
   simp only [push_cast,seval,↓reduceIte]
   refine Zm ?_
   refine Zq [5,7,8,9,44] (Zc Zd [none,none,none,none,none,none,none,none,none,none,none,none,none,none,none,none] ?_)
   simp only [push_cast,seval,↓reduceIte,Za,hN0,hN]
   repeat (with_reducible refine And.intro (by first | (intro h0;simp only [h0,and_self];done) | (intro h0;simp only [h0,Bool.not_false,Bool.not_true,Bool.true_and,Bool.and_true,true_and,and_true,and_self,imp_self,implies_true,bne_iff_ne,ne_eq,beq_iff_eq];done) | (intros;simp_all;done) | exact True.intro) ?_)
   refine Zu (t:=(cond (cond (cond (cond (decide (x2.At≤s0_.1)) true (decide (65534 < x2.At))) true (x2.Mask == 0)) true ((IntKind.u64.wrap (Zg0 .u64 x2.Old (IntKind.u64.wrap (Zhz .u64 (if IntKind.signed .u64=true then -1 else IntKind.max .u64) y4)))) != 0)) true ((IntKind.u64.wrap (Zg0 .u64 x2.New (IntKind.u64.wrap (Zhz .u64 (if IntKind.signed .u64=true then -1 else IntKind.max .u64) y4)))) != 0))) rfl (fun c5 => ?_) (fun c5 => ?_)
   ·replace hs0_:=Zs c5 hs0_
    refine Zq [2] (Zc Zd [] ?_)
    simp only [push_cast,seval,↓reduceIte,Za,hN0,hN]
    refine Z0 ?_
    try simp only [Zl,Zi]
    have hs0_:=Option.some.inj hs0_;subst hs0_
    refine And.intro (fun h=>by cases h) (And.intro rfl (Fit2.of (Zj hU rfl rfl ?_) (by omega)))
    simp only [push_cast,seval,↓reduceIte,Za,hN0,hN]
   replace hs0_:=Zr c5 hs0_
   refine Zy ?_
   try simp only [Zl,Zi]
   refine Zk [5,7,8,9] [true] ?_
   simp only [push_cast,seval,↓reduceIte]
   refine Zc Zd [] ?_
   simp only [push_cast,seval,↓reduceIte,Za,hN0,hN]
   refine Zk [3,7,8,9] [false] ?_
   simp only [push_cast,seval,↓reduceIte]
   refine Zc Zd [] ?_
   simp only [push_cast,seval,↓reduceIte,Za,hN0,hN]
   have hs0_:=Option.some.inj hs0_;subst hs0_
   refine And.intro rfl (Fit2.of (Zj hU rfl rfl ?_) (by omega))
   simp only [push_cast,seval,↓reduceIte,Za,hN0,hN]
  replace hs0_:=Zr c6 hs0_
  refine Yx ?_
  try simp only [Zl,Zi,↓reduceIte,Nat.reduceEqDiff]
  have hs0_:=Option.some.inj hs0_;subst hs0_
  refine And.intro (fun h=>by cases h) (And.intro rfl (Fit2.of (Zj hU rfl rfl ?_) (by omega)))
  simp only [push_cast,seval,↓reduceIte,Za,hN0,hN]
 rcases z7 with z7 | z7
 ·dsimp only [Xc] at hw h
  refine Q0 hw ?_
  try simp only [Zl,Zi,↓reduceIte,Nat.reduceEqDiff]
  have h:=Option.some.inj h;subst h
  refine Zt (.inr rfl) hU [.val (.bool false)] (by omega) ?_
  simp only [push_cast,seval,↓reduceIte,Za,Try.results99,hN0,hN]
 dsimp only [Xc] at hw h
 refine Yb hw ?_
 try simp only [Zl,Zi,↓reduceIte,Nat.reduceEqDiff]
 refine Zk [] [] ?_
 simp only [push_cast,seval,↓reduceIte]
 refine Zq [2] (Zc Zd [] ?_)
 simp only [push_cast,seval,↓reduceIte,Za,hN0,hN]
 refine Z0 ?_
 try simp only [Zl,Zi]
 have h:=Option.some.inj h;subst h
 refine Zt (.inr rfl) hU [.val (.bool true)] (by omega) ?_
 simp only [push_cast,seval,↓reduceIte,Za,Try.results99,hN0,hN]
theorem Zg3 {a0:Int} {a1:S_api_Edit} {r:Bool} {O:Objs} {n:Nat} (h:Zab a0 a1=some r):GTo Try.prog 132 [.val (.int .i64 a0),.agg (Ze a1)] O n (.val (.bool r)) O n:=by
 unfold Zab at h
 refine Y3 Zd Try.call132 Try.func132 rfl (Nat.le_of_ble_eq_true rfl) (Nat.le_refl _) fun hU => ?_
 have hN0:O n=none:=hU.fresh _ (Nat.le_refl _)
 have hN:∀ k,O (n+k)=none:=fun k=>hU.fresh _ (Nat.le_add_right _ _)
 show W _ _ _ _ ⟨33,[],[(0,.val (.int .i64 a0)),(1,.agg (Ze a1))]⟩ (Zv O n []) _
 refine Zq [0,3] (Zc Zd [] ?_)
 simp only [push_cast,seval,↓reduceIte,Za,hN0,hN]
 refine Zm ?_
 refine Zq [3,5] (Zc Zd [] ?_)
 simp only [push_cast,seval,↓reduceIte,Za,hN0,hN]
 refine Z6 ?_
 refine Zq [3,5,6] (Zc Zd [] ?_)
 simp only [push_cast,seval,↓reduceIte,Za,hN0,hN]
 refine Zu (t:=(a0 == 8)) rfl (fun c2 => ?_) (fun c2 => ?_)
 ·replace h:=Zs c2 h
  refine Zq [4] (Zc Zd [] ?_)
  simp only [push_cast,seval,↓reduceIte,Za,hN0,hN]
  refine Z0 ?_
  try simp only [Zl,Zi]
  have h:=Option.some.inj h;subst h
  refine Zt (.inr rfl) hU [.val (.bool (a1.Kind != 0))] (by omega) ?_
  simp only [push_cast,seval,↓reduceIte,Za,Try.results132,hN0,hN]
 replace h:=Zr c2 h
 refine Zq [3,11] (Zc Zd [] ?_)
 simp only [push_cast,seval,↓reduceIte,Za,hN0,hN]
 refine Zu (t:=(a0 == 9)) rfl (fun c1 => ?_) (fun c1 => ?_)
 ·replace h:=Zs c1 h
  refine Zq [4] (Zc Zd [none,none,none,none,none,none,none,none,none,none,none,none,none,none,none] ?_)
  simp only [push_cast,seval,↓reduceIte,Za,hN0,hN]
  repeat (with_reducible refine And.intro (by first | (intro h0;simp only [h0,and_self];done) | (intro h0;simp only [h0,Bool.not_false,Bool.not_true,Bool.true_and,Bool.and_true,true_and,and_true,and_self,imp_self,implies_true,bne_iff_ne,ne_eq,beq_iff_eq];done) | (intros;simp_all;done) | exact True.intro) ?_)
  refine Z0 ?_
  try simp only [Zl,Zi]
  have h:=Option.some.inj h;subst h
  refine Zt (.inr rfl) hU [.val (.bool (cond (a1.Kind == 2) true (cond (cond (a1.Kind == 1) (a1.Old.Kind == 1) false) (a1.New.Kind == 1) false)))] (by omega) ?_
  simp only [push_cast,seval,↓reduceIte,Za,Try.results132,hN0,hN]
 replace h:=Zr c1 h
 refine Zy ?_
 try simp only [Zl,Zi]
 refine Zk [] [false] ?_
 simp only [push_cast,seval,↓reduceIte]
 refine Zq [4] (Zc Zd [] ?_)
 simp only [push_cast,seval,↓reduceIte,Za,hN0,hN]
 refine Z0 ?_
 try simp only [Zl,Zi]
 have h:=Option.some.inj h;subst h
 refine Zt (.inr rfl) hU [.val (.bool false)] (by omega) ?_
 simp only [push_cast,seval,↓reduceIte,Za,Try.results132,hN0,hN]
theorem Zh0 {a0:S_api_Op} {r:Int} {O:Objs} {n:Nat} (h:Ga a0=some r):GTo Try.prog 133 [.agg (Z3 a0)] O n (.val (.int .i64 r)) O n:=by
 unfold Ga at h
 refine Y3 Zd Try.call133 Try.func133 rfl (Nat.le_of_ble_eq_true rfl) (Nat.le_refl _) fun hU => ?_
 have hN0:O n=none:=hU.fresh _ (Nat.le_refl _)
 have hN:∀ k,O (n+k)=none:=fun k=>hU.fresh _ (Nat.le_add_right _ _)
 show W _ _ _ _ ⟨19,[],[(0,.agg (Z3 a0))]⟩ (Zv O n []) _
 refine Zq [1] (Zc Zd [] ?_)
 simp only [push_cast,seval,↓reduceIte,Za,hN0,hN]
 refine Zm ?_
 refine Zq [1,4] (Zc Zd [] ?_)
 simp only [push_cast,seval,↓reduceIte,Za,hN0,hN]
 refine Z6 ?_
 refine Zq [1,4,5] (Zc Zd [] ?_)
 simp only [push_cast,seval,↓reduceIte,Za,hN0,hN]
 refine Zu (t:=(a0.Kind == 0)) rfl (fun c5 => ?_) (fun c5 => ?_)
 ·replace h:=Zs c5 h
  refine Zq [2] (Zc Zd [] ?_)
  simp only [push_cast,seval,↓reduceIte,Za,hN0,hN]
  refine Z0 ?_
  try simp only [Zl,Zi]
  have h:=Option.some.inj h;subst h
  refine Zt (.inr rfl) hU [.val (.int .i64 (if 1048576 < (if a0.N < 0 then 0 else a0.N) then 1048576 else (if a0.N < 0 then 0 else a0.N)))] (by omega) ?_
  simp only [push_cast,seval,↓reduceIte,Za,Try.results133,hN0,hN]
 replace h:=Zr c5 h
 obtain ⟨z1,hz1,h⟩:=bC h
 refine Yl (E':=⟨19,[],[(1,.ref n 0),(4,.val (.int .i64 a0.Kind)),(11,.val (.bool z1))]⟩) (O':=(Zv O n [some ⟨false,69,14,1,(Z3 a0)⟩])) (n0:=(n+1)) ?_ ?_
 ·refine Zq [1,4,11] (Zc Zd [] ?_)
  simp only [push_cast,seval,↓reduceIte,Za,hN0,hN]
  refine Zu (t:=(a0.Kind == 1)) rfl (fun c2 => ?_) (fun c2 => ?_)
  ·replace hz1:=Zs c2 hz1
   refine Zy ?_
   try simp only [Zl,Zi]
   have hz1:=Option.some.inj hz1;subst hz1
   refine And.intro rfl (Fit2.of (Zj hU rfl rfl ?_) (by omega))
   simp only [push_cast,seval,↓reduceIte,Za,hN0,hN]
  replace hz1:=Zr c2 hz1
  refine Zc Zd [] ?_
  simp only [push_cast,seval,↓reduceIte,Za,hN0,hN]
  have hz1:=Option.some.inj hz1;subst hz1
  refine And.intro rfl (Fit2.of (Zj hU rfl rfl ?_) (by omega))
  simp only [push_cast,seval,↓reduceIte,Za,hN0,hN]
 refine Zu (t:=z1) rfl (fun c4 => ?_) (fun c4 => ?_)
 ·replace h:=Zs c4 h
  refine Zq [2] (Zc Zd [] ?_)
  simp only [push_cast,seval,↓reduceIte,Za,hN0,hN]
  refine Z0 ?_
  try simp only [Zl,Zi]
  have h:=Option.some.inj h;subst h
  refine Zt (.inr rfl) hU [.val (.int .i64 (a0.L.length:Int))] (by omega) ?_
  simp only [push_cast,seval,↓reduceIte,Za,Try.results133,hN0,hN]
 replace h:=Zr c4 h
 refine Zq [17] (Zc Zd [] ?_)
 simp only [push_cast,seval,↓reduceIte,Za,hN0,hN]
 refine Zu (t:=(a0.Kind == 3)) rfl (fun c3 => ?_) (fun c3 => ?_)
 ·replace h:=Zs c3 h
  refine Zq [2] (Zc Zd [] ?_)
  simp only [push_cast,seval,↓reduceIte,Za,hN0,hN]
  refine Z0 ?_
  try simp only [Zl,Zi]
  have h:=Option.some.inj h;subst h
  refine Zt (.inr rfl) hU [.val (.int .i64 1)] (by omega) ?_
  simp only [push_cast,seval,↓reduceIte,Za,Try.results133,hN0,hN]
 replace h:=Zr c3 h
 refine Zy ?_
 try simp only [Zl,Zi]
 refine Zk [] [false] ?_
 simp only [push_cast,seval,↓reduceIte]
 refine Zq [2] (Zc Zd [] ?_)
 simp only [push_cast,seval,↓reduceIte,Za,hN0,hN]
 refine Z0 ?_
 try simp only [Zl,Zi]
 have h:=Option.some.inj h;subst h
 refine Zt (.inr rfl) hU [.val (.int .i64 0)] (by omega) ?_
 simp only [push_cast,seval,↓reduceIte,Za,Try.results133,hN0,hN]
theorem Zoc {a0:S_api_Edit} {r:(Int×Int)} {O:Objs} {n:Nat} (h:Zba a0=some r):GTo Try.prog 125 [.agg (Ze a0)] O n (.tup [.val (.int .i64 r.1),.val (.int .i64 r.2)]) O n:=by
 unfold Zba at h
 refine Y3 Zd Try.call125 Try.func125 rfl (Nat.le_of_ble_eq_true rfl) (Nat.le_refl _) fun hU => ?_
 have hN0:O n=none:=hU.fresh _ (Nat.le_refl _)
 have hN:∀ k,O (n+k)=none:=fun k=>hU.fresh _ (Nat.le_add_right _ _)
 show W _ _ _ _ ⟨34,[],[(0,.agg (Ze a0))]⟩ (Zv O n []) _
 refine Zq [1] (Zc Zd [] ?_)
 simp only [push_cast,seval,↓reduceIte,Za,hN0,hN]
 refine Zq [1,4,5] (Zc Zd [] ?_)
 simp only [push_cast,seval,↓reduceIte,Za,hN0,hN]
 refine Zm ?_
 refine Zq [4,5,9,10,11] (Zc Zd [] ?_)
 simp only [push_cast,seval,↓reduceIte,Za,hN0,hN]
 refine Zk [4,5,9,10,11] [false] ?_
 simp only [push_cast,seval,↓reduceIte]
 obtain ⟨z10,hz10,h⟩:=bC h
 refine Yb (E':=⟨34,[],[(4,.val (.int .i64 z10.1)),(5,.val (.int .i64 z10.2))]⟩) (O':=(Zv O n [none])) (n0:=(n+1)) ?_ ?_
 ·refine Yn hz10 (fun s0_=>⟨34,[],[(4,.val (.int .i64 s0_.1)),(5,.val (.int .i64 s0_.2.1)),(9,.sl a0.Ops.length (fl Zf a0.Ops)),(10,.val (.int .i64 (a0.Ops.length:Int))),(11,.val (.int .i64 s0_.2.2))]⟩) (fun s0_=>(Zv O n [none])) (fun z10=>JX 0 n (⟨34,[],[(4,.val (.int .i64 z10.1)),(5,.val (.int .i64 z10.2))]⟩:Env) (Zv O n [none]) (n+1)) ?_
  intro s0_ x0_ hs0_
  unfold Uk at hs0_
  try dsimp only
  refine Zq [4,5,9,10,11,12] (Zc Zd [] ?_)
  simp only [push_cast,seval,↓reduceIte,Za,hN0,hN]
  refine Zm ?_
  refine Zu (t:=(decide (s0_.2.2 < (a0.Ops.length:Int)))) rfl (fun c9 => ?_) (fun c9 => ?_)
  ·replace hs0_:=Zs c9 hs0_
   refine Zy ?_
   try simp only [Zl,Zi]
   refine Zk [4,5,9,10,11] [false] ?_
   simp only [push_cast,seval,↓reduceIte]
   obtain ⟨z1,hz1,hs0_⟩:=bC hs0_
   refine Yl (E':=⟨34,[],[(4,.val (.int .i64 z1.1)),(5,.val (.int .i64 z1.2)),(9,.sl a0.Ops.length (fl Zf a0.Ops)),(10,.val (.int .i64 (a0.Ops.length:Int))),(11,.val (.int .i64 s0_.2.2))]⟩) (O':=(Zv O n [none,none])) (n0:=(n+2)) ?_ ?_
   ·refine Z6 ?_
    refine Zm ?_
    obtain ⟨x3,hx3,ax3,bx3,cx3,hz1⟩:=bE (f:=Zf) V2 (fun _=>rfl) (by decide) hz1
    refine Zc Zd [] ?_
    simp only [push_cast,Nat.reduceAdd,Nat.reduceSub,Nat.reduceMul,Nat.reduceLeDiff,Nat.reduceLT,Nat.reduceEqDiff,↓reduceIte,reduceCtorEq,Int.reduceBEq,Int.reduceBNe,Nat.reduceBEq,Int.reduceLE,Int.reduceLT,Int.reduceEq,Int.reduceNe,Int.reduceNeg,Nat.reduceDiv,Nat.reduceMod,Nat.reducePow,Za,ax3,bx3,cx3,hN0,hN]
    refine Zk [4,5,7,9,10,11] [false,true] ?_
    simp only [push_cast,seval,↓reduceIte]
    obtain ⟨z4,hz4,hz1⟩:=bC hz1
    refine Yl (E':=⟨34,[],[(4,.val (.int .i64 z4)),(5,.val (.int .i64 s0_.2.1)),(7,.ref (n+1) 0),(9,.sl a0.Ops.length (fl Zf a0.Ops)),(10,.val (.int .i64 (a0.Ops.length:Int))),(11,.val (.int .i64 s0_.2.2))]⟩) (O':=(Zv O n [none,some ⟨false,69,14,1,(Z3 x3)⟩])) (n0:=(n+2)) ?_ ?_
    ·refine Zq [4,5,7,9,10,11,17] (Zc Zd [] ?_)
     simp only [push_cast,seval,↓reduceIte,Za,hN0,hN]
     refine Zu (t:=(x3.Kind != 2)) rfl (fun c6 => ?_) (fun c6 => ?_)
     ·replace hz4:=Zs c6 hz4
      obtain ⟨y5,hy5,hz4⟩:=bC hz4
      refine Zc Zd [] ?_
      simp only [push_cast,seval,↓reduceIte,Za,hN0,hN]
      refine (Zh0 hy5).then ?_
      simp only [push_cast,seval,↓reduceIte,Za,hN0,hN]
      have hz4:=Option.some.inj hz4;subst hz4
      refine And.intro rfl (Fit2.of (Zj hU rfl rfl ?_) (by omega))
      simp only [push_cast,seval,↓reduceIte,Za,hN0,hN]
     replace hz4:=Zr c6 hz4
     refine Zy ?_
     try simp only [Zl,Zi]
     have hz4:=Option.some.inj hz4;subst hz4
     refine And.intro rfl (Fit2.of (Zj hU rfl rfl ?_) (by omega))
     simp only [push_cast,seval,↓reduceIte,Za,hN0,hN]
    refine Zq [4,5,7,9,10,11,25] (Zc Zd [] ?_)
    simp only [push_cast,seval,↓reduceIte,Za,hN0,hN]
    refine Zu (t:=(x3.Kind != 1)) rfl (fun c8 => ?_) (fun c8 => ?_)
    ·replace hz1:=Zs c8 hz1
     obtain ⟨y7,hy7,hz1⟩:=bC hz1
     refine Zc Zd [] ?_
     simp only [push_cast,seval,↓reduceIte,Za,hN0,hN]
     refine (Zh0 hy7).then ?_
     simp only [push_cast,seval,↓reduceIte,Za,hN0,hN]
     have hz1:=Option.some.inj hz1;subst hz1
     refine And.intro rfl (Fit2.of (Zj hU rfl rfl ?_) (by omega))
     simp only [push_cast,seval,↓reduceIte,Za,hN0,hN]
    replace hz1:=Zr c8 hz1
    refine Zy ?_
    try simp only [Zl,Zi]
    have hz1:=Option.some.inj hz1;subst hz1
    refine And.intro rfl (Fit2.of (Zj hU rfl rfl ?_) (by omega))
    simp only [push_cast,seval,↓reduceIte,Za,hN0,hN]
   refine Zc Zd [] ?_
   simp only [push_cast,seval,↓reduceIte,Za,hN0,hN]
   have hs0_:=Option.some.inj hs0_;subst hs0_
   refine And.intro rfl (Fit2.of (Zj hU rfl rfl ?_) (by omega))
   simp only [push_cast,seval,↓reduceIte,Za,hN0,hN]
  replace hs0_:=Zr c9 hs0_
  refine Yx ?_
  try simp only [Zl,Zi,↓reduceIte,Nat.reduceEqDiff]
  have hs0_:=Option.some.inj hs0_;subst hs0_
  refine And.intro (fun h=>by cases h) (And.intro rfl (Fit2.of (Zj hU rfl rfl ?_) (by omega)))
  simp only [push_cast,seval,↓reduceIte,Za,hN0,hN]
 try simp only [Zl,Zi,↓reduceIte,Nat.reduceEqDiff]
 refine Zk [4,5] [false] ?_
 simp only [push_cast,seval,↓reduceIte]
 refine Zq [2,3] (Zc Zd [] ?_)
 simp only [push_cast,seval,↓reduceIte,Za,hN0,hN]
 refine Z0 ?_
 try simp only [Zl,Zi]
 have h:=Option.some.inj h;subst h
 refine Zt (.inr rfl) hU [.val (.int .i64 z10.1),.val (.int .i64 z10.2)] (by omega) ?_
 simp only [push_cast,seval,↓reduceIte,Za,Try.results125,hN0,hN]
theorem Zpy {Yh:(S_api_Edit→Option Bool)} {Ye:(S_api_Edit→Int→Option Bool)} {Z5:((List S_api_KidEdit)→Int→Option Bool)} {Z8:(S_api_Edit→Int→Option Bool)} {Z9:(Int→S_api_Op→Int→Option Bool)} {Z4:(Bool→Bool→Bool→S_api_Op→Option Bool)} (Qw:∀ {a0:S_api_Edit} {r:Bool} {O:Objs} {n:Nat},Yh a0=some r→GTo Try.prog 24 [.agg (Ze a0)] O n (.val (.bool r)) O n) (Jn:∀ {a0:S_api_Edit} {a1:Int} {r:Bool} {O:Objs} {n:Nat},Ye a0 a1=some r→GTo Try.prog 59 [.agg (Ze a0),.val (.int .i64 a1)] O n (.val (.bool r)) O n) (Jm:∀ {a0:(List S_api_KidEdit)} {a1:Int} {r:Bool} {O:Objs} {n:Nat},Z5 a0 a1=some r→GTo Try.prog 100 [.sl a0.length (fl Zh a0),.val (.int .i64 a1)] O n (.val (.bool r)) O n) (J8:∀ {a0:S_api_Edit} {a1:Int} {r:Bool} {O:Objs} {n:Nat},Z8 a0 a1=some r→GTo Try.prog 101 [.agg (Ze a0),.val (.int .i64 a1)] O n (.val (.bool r)) O n) (Kx:∀ {a0:Int} {a1:S_api_Op} {a2:Int} {r:Bool} {O:Objs} {n:Nat},Z9 a0 a1 a2=some r→GTo Try.prog 124 [.val (.int .i64 a0),.agg (Z3 a1),.val (.int .i64 a2)] O n (.val (.bool r)) O n) (Y0:∀ {a0:Bool} {a1:Bool} {a2:Bool} {a3:S_api_Op} {r:Bool} {O:Objs} {n:Nat},Z4 a0 a1 a2 a3=some r→GTo Try.prog 131 [.val (.bool a0),.val (.bool a1),.val (.bool a2),.ip (Z3 a3) 0] O n (.val (.bool r)) O n) {a0:S_api_Edit} {r:Bool} {O:Objs} {n:Nat} (h:Zc1 Yh Ye Z5 Z8 Z9 Z4 a0=some r):GTo Try.prog 24 [.agg (Ze a0)] O n (.val (.bool r)) O n:=by
 unfold Zc1 at h
 refine Y3 Zd Try.call24 Try.func24 rfl (Nat.le_of_ble_eq_true rfl) (Nat.le_refl _) fun hU => ?_
 have hN0:O n=none:=hU.fresh _ (Nat.le_refl _)
 have hN:∀ k,O (n+k)=none:=fun k=>hU.fresh _ (Nat.le_add_right _ _)
 show W _ _ _ _ ⟨5,[],[(0,.agg (Ze a0))]⟩ (Zv O n []) _
 refine Zq [1] (Zc Zd [] ?_)
 simp only [push_cast,seval,↓reduceIte,Za,hN0,hN]
 refine Zm ?_
 obtain ⟨y2,hy2,h⟩:=bC h
 refine Zc Zd [] ?_
 simp only [push_cast,seval,↓reduceIte,Za,hN0,hN]
 refine (Jn hy2).then ?_
 simp only [push_cast,seval,↓reduceIte,Za,hN0,hN]
 refine Zk [2] [false] ?_
 simp only [push_cast,seval,↓reduceIte]
 refine Z0 ?_
 try simp only [Zl,Zi]
 have h:=Option.some.inj h;subst h
 refine Zt (.inr rfl) hU [.val (.bool y2)] (by omega) ?_
 simp only [push_cast,seval,↓reduceIte,Za,Try.results24,hN0,hN]
theorem Zpz {Yh:(S_api_Edit→Option Bool)} {Ye:(S_api_Edit→Int→Option Bool)} {Z5:((List S_api_KidEdit)→Int→Option Bool)} {Z8:(S_api_Edit→Int→Option Bool)} {Z9:(Int→S_api_Op→Int→Option Bool)} {Z4:(Bool→Bool→Bool→S_api_Op→Option Bool)} (Qw:∀ {a0:S_api_Edit} {r:Bool} {O:Objs} {n:Nat},Yh a0=some r→GTo Try.prog 24 [.agg (Ze a0)] O n (.val (.bool r)) O n) (Jn:∀ {a0:S_api_Edit} {a1:Int} {r:Bool} {O:Objs} {n:Nat},Ye a0 a1=some r→GTo Try.prog 59 [.agg (Ze a0),.val (.int .i64 a1)] O n (.val (.bool r)) O n) (Jm:∀ {a0:(List S_api_KidEdit)} {a1:Int} {r:Bool} {O:Objs} {n:Nat},Z5 a0 a1=some r→GTo Try.prog 100 [.sl a0.length (fl Zh a0),.val (.int .i64 a1)] O n (.val (.bool r)) O n) (J8:∀ {a0:S_api_Edit} {a1:Int} {r:Bool} {O:Objs} {n:Nat},Z8 a0 a1=some r→GTo Try.prog 101 [.agg (Ze a0),.val (.int .i64 a1)] O n (.val (.bool r)) O n) (Kx:∀ {a0:Int} {a1:S_api_Op} {a2:Int} {r:Bool} {O:Objs} {n:Nat},Z9 a0 a1 a2=some r→GTo Try.prog 124 [.val (.int .i64 a0),.agg (Z3 a1),.val (.int .i64 a2)] O n (.val (.bool r)) O n) (Y0:∀ {a0:Bool} {a1:Bool} {a2:Bool} {a3:S_api_Op} {r:Bool} {O:Objs} {n:Nat},Z4 a0 a1 a2 a3=some r→GTo Try.prog 131 [.val (.bool a0),.val (.bool a1),.val (.bool a2),.ip (Z3 a3) 0] O n (.val (.bool r)) O n) {a0:S_api_Edit} {a1:Int} {r:Bool} {O:Objs} {n:Nat} (h:Zc2 Yh Ye Z5 Z8 Z9 Z4 a0 a1=some r):GTo Try.prog 59 [.agg (Ze a0),.val (.int .i64 a1)] O n (.val (.bool r)) O n:=by
 unfold Zc2 at h
 refine Y3 Zd Try.call59 Try.func59 rfl (Nat.le_of_ble_eq_true rfl) (Nat.le_refl _) fun hU => ?_
 have hN0:O n=none:=hU.fresh _ (Nat.le_refl _)
 have hN:∀ k,O (n+k)=none:=fun k=>hU.fresh _ (Nat.le_add_right _ _)
 show W _ _ _ _ ⟨55,[],[(0,.agg (Ze a0)),(1,.val (.int .i64 a1))]⟩ (Zv O n []) _
 refine Zq [1,2] (Zc Zd [] ?_)
 simp only [push_cast,seval,↓reduceIte,Za,hN0,hN]
 refine Zm ?_
 refine Zq [1,2,7] (Zc Zd [] ?_)
 simp only [push_cast,seval,↓reduceIte,Za,hN0,hN]
 refine Zu (t:=(a1 == 0)) rfl (fun c39 => ?_) (fun c39 => ?_)
 ·replace h:=Zs c39 h
  refine Zq [4] (Zc Zd [] ?_)
  simp only [push_cast,seval,↓reduceIte,Za,hN0,hN]
  refine Z0 ?_
  try simp only [Zl,Zi]
  have h:=Option.some.inj h;subst h
  refine Zt (.inr rfl) hU [.val (.bool false)] (by omega) ?_
  simp only [push_cast,seval,↓reduceIte,Za,Try.results59,hN0,hN]
 replace h:=Zr c39 h
 refine Zy ?_
 try simp only [Zl,Zi]
 refine Zk [1,2] [true] ?_
 simp only [push_cast,seval,↓reduceIte]
 refine Zbw ⟨55,[],[(1,.val (.int .i64 a1)),(2,.ip (Ze a0) 0)]⟩ (Zv O n [none]) (Zj hU rfl rfl ?_) ?_
 ·simp only [push_cast,seval,↓reduceIte,Za,hN0,hN]
 refine Zq [1,2,5] (Zc Zd [] ?_)
 simp only [push_cast,seval,↓reduceIte,Za,hN0,hN]
 refine Zm ?_
 refine Zq [1,2,5,10] (Zc Zd [] ?_)
 simp only [push_cast,seval,↓reduceIte,Za,hN0,hN]
 refine Z6 ?_
 refine Zq [1,2,5,10,11] (Zc Zd [] ?_)
 simp only [push_cast,seval,↓reduceIte,Za,hN0,hN]
 refine Zu (t:=(a0.Kind == 0)) rfl (fun c38 => ?_) (fun c38 => ?_)
 ·replace h:=Zs c38 h
  refine Zm ?_
  obtain ⟨y2,hy2,h⟩:=bC h
  refine Zc Zd [] ?_
  simp only [push_cast,seval,↓reduceIte,Za,hN0,hN]
  refine GCalls.argsW ?_ ((Qv hy2).then ?_)
  ·simp only [push_cast,seval,↓reduceIte,Za,hN0,hN]
  simp only [push_cast,seval,↓reduceIte,Za,hN0,hN]
  refine Zk [4] [false] ?_
  simp only [push_cast,seval,↓reduceIte]
  refine Z0 ?_
  try simp only [Zl,Zi]
  have h:=Option.some.inj h;subst h
  refine Zt (.inr rfl) hU [.val (.bool y2)] (by omega) ?_
  simp only [push_cast,seval,↓reduceIte,Za,Try.results59,hN0,hN]
 replace h:=Zr c38 h
 refine Zq [1,2,5,10,15] (Zc Zd [] ?_)
 simp only [push_cast,seval,↓reduceIte,Za,hN0,hN]
 refine Zu (t:=(a0.Kind == 1)) rfl (fun c37 => ?_) (fun c37 => ?_)
 ·replace h:=Zs c37 h
  obtain ⟨z6,hz6,h⟩:=bC h
  refine Yl (E':=⟨55,[],[(4,.val (.bool z6))]⟩) (O':=(Zv O n [none])) (n0:=(n+1)) ?_ ?_
  ·obtain ⟨y10,hy10,hz6⟩:=bC hz6
   rcases Bool.eq_false_or_eq_true y10 with c13 | c13
   ·replace hz6:=Zs c13 hz6
    obtain ⟨y11,hy11,hz6⟩:=bC hz6
    rcases Bool.eq_false_or_eq_true y11 with c14 | c14
    ·replace hz6:=Zs c14 hz6
     try rw [c14] at c13
     obtain ⟨y12,hy12,hz6⟩:=bC hz6
     refine Zc Zd [some true,some true,some true,some true,some true,some true] ?_
     simp only [push_cast,seval,↓reduceIte,Za,c13,c14,hN0,hN]
     refine GCalls.argsW ?_ ((Qv hy10).then ?_)
     ·simp only [push_cast,seval,↓reduceIte,Za,c13,c14,hN0,hN]
     simp only [push_cast,seval,↓reduceIte,Za,c13,c14,hN0,hN]
     refine (Zgm hy11).then ?_
     simp only [push_cast,seval,↓reduceIte,Za,c13,c14,hN0,hN]
     refine (Zgm hy12).then ?_
     simp only [push_cast,seval,↓reduceIte,Za,c13,c14,hN0,hN]
     have hz6:=Option.some.inj hz6;subst hz6
     refine And.intro rfl (Fit2.of (Zj hU rfl rfl ?_) (by omega))
     simp only [push_cast,seval,↓reduceIte,Za,c13,c14,hN0,hN]
    replace hz6:=Zr c14 hz6
    try rw [c14] at c13
    refine Zc Zd [some true,some true,some true,some false,some false,some false] ?_
    simp only [push_cast,seval,↓reduceIte,Za,c13,c14,hN0,hN]
    refine GCalls.argsW ?_ ((Qv hy10).then ?_)
    ·simp only [push_cast,seval,↓reduceIte,Za,c13,c14,hN0,hN]
    simp only [push_cast,seval,↓reduceIte,Za,c13,c14,hN0,hN]
    refine (Zgm hy11).then ?_
    simp only [push_cast,seval,↓reduceIte,Za,c13,c14,hN0,hN]
    have hz6:=Option.some.inj hz6;subst hz6
    refine And.intro rfl (Fit2.of (Zj hU rfl rfl ?_) (by omega))
    simp only [push_cast,seval,↓reduceIte,Za,c13,c14,hN0,hN]
   replace hz6:=Zr c13 hz6
   refine Zc Zd [some false,some false,some false,some false,some false,some false] ?_
   simp only [push_cast,seval,↓reduceIte,Za,c13,hN0,hN]
   refine GCalls.argsW ?_ ((Qv hy10).then ?_)
   ·simp only [push_cast,seval,↓reduceIte,Za,c13,hN0,hN]
   simp only [push_cast,seval,↓reduceIte,Za,c13,hN0,hN]
   have hz6:=Option.some.inj hz6;subst hz6
   refine And.intro rfl (Fit2.of (Zj hU rfl rfl ?_) (by omega))
   simp only [push_cast,seval,↓reduceIte,Za,c13,hN0,hN]
  refine Z0 ?_
  try simp only [Zl,Zi]
  have h:=Option.some.inj h;subst h
  refine Zt (.inr rfl) hU [.val (.bool z6)] (by omega) ?_
  simp only [push_cast,seval,↓reduceIte,Za,Try.results59,hN0,hN]
 replace h:=Zr c37 h
 refine Zq [1,2,5,10,29] (Zc Zd [] ?_)
 simp only [push_cast,seval,↓reduceIte,Za,hN0,hN]
 refine Zu (t:=(a0.Kind == 2)) rfl (fun c36 => ?_) (fun c36 => ?_)
 ·replace h:=Zs c36 h
  obtain ⟨z18,hz18,h⟩:=bC h
  refine Yl (E':=⟨55,[],[(4,.val (.bool z18))]⟩) (O':=(Zv O n [none])) (n0:=(n+1)) ?_ ?_
  ·obtain ⟨y22,hy22,hz18⟩:=bC hz18
   rcases Bool.eq_false_or_eq_true y22 with c25 | c25
   ·replace hz18:=Zs c25 hz18
    obtain ⟨y23,hy23,hz18⟩:=bC hz18
    rcases Bool.eq_false_or_eq_true y23 with c26 | c26
    ·replace hz18:=Zs c26 hz18
     try rw [c26] at c25
     obtain ⟨y24,hy24,hz18⟩:=bC hz18
     refine Zc Zd [some true,some true,some true,some true,some true,some true,some true,some true] ?_
     simp only [push_cast,seval,↓reduceIte,Za,c25,c26,hN0,hN]
     refine GCalls.argsW ?_ ((Qv hy22).then ?_)
     ·simp only [push_cast,seval,↓reduceIte,Za,c25,c26,hN0,hN]
     simp only [push_cast,seval,↓reduceIte,Za,c25,c26,hN0,hN]
     refine (Zfn hy23).then ?_
     simp only [push_cast,seval,↓reduceIte,Za,c25,c26,hN0,hN]
     refine (Jm hy24).then ?_
     simp only [push_cast,seval,↓reduceIte,Za,c25,c26,hN0,hN]
     have hz18:=Option.some.inj hz18;subst hz18
     refine And.intro rfl (Fit2.of (Zj hU rfl rfl ?_) (by omega))
     simp only [push_cast,seval,↓reduceIte,Za,c25,c26,hN0,hN]
    replace hz18:=Zr c26 hz18
    try rw [c26] at c25
    refine Zc Zd [some true,some true,some true,some false,some false,some false,some false,some false] ?_
    simp only [push_cast,seval,↓reduceIte,Za,c25,c26,hN0,hN]
    refine GCalls.argsW ?_ ((Qv hy22).then ?_)
    ·simp only [push_cast,seval,↓reduceIte,Za,c25,c26,hN0,hN]
    simp only [push_cast,seval,↓reduceIte,Za,c25,c26,hN0,hN]
    refine (Zfn hy23).then ?_
    simp only [push_cast,seval,↓reduceIte,Za,c25,c26,hN0,hN]
    have hz18:=Option.some.inj hz18;subst hz18
    refine And.intro rfl (Fit2.of (Zj hU rfl rfl ?_) (by omega))
    simp only [push_cast,seval,↓reduceIte,Za,c25,c26,hN0,hN]
   replace hz18:=Zr c25 hz18
   refine Zc Zd [some false,some false,some false,some false,some false,some false,some false,some false] ?_
   simp only [push_cast,seval,↓reduceIte,Za,c25,hN0,hN]
   refine GCalls.argsW ?_ ((Qv hy22).then ?_)
   ·simp only [push_cast,seval,↓reduceIte,Za,c25,hN0,hN]
   simp only [push_cast,seval,↓reduceIte,Za,c25,hN0,hN]
   have hz18:=Option.some.inj hz18;subst hz18
   refine And.intro rfl (Fit2.of (Zj hU rfl rfl ?_) (by omega))
   simp only [push_cast,seval,↓reduceIte,Za,c25,hN0,hN]
  refine Z0 ?_
  try simp only [Zl,Zi]
  have h:=Option.some.inj h;subst h
  refine Zt (.inr rfl) hU [.val (.bool z18)] (by omega) ?_
  simp only [push_cast,seval,↓reduceIte,Za,Try.results59,hN0,hN]
 replace h:=Zr c36 h
 refine Zq [1,2,5,45] (Zc Zd [] ?_)
 simp only [push_cast,seval,↓reduceIte,Za,hN0,hN]
 refine Zu (t:=(a0.Kind == 3)) rfl (fun c35 => ?_) (fun c35 => ?_)
 ·replace h:=Zs c35 h
  obtain ⟨z29,hz29,h⟩:=bC h
  refine Yl (E':=⟨55,[],[(4,.val (.bool z29))]⟩) (O':=(Zv O n [none])) (n0:=(n+1)) ?_ ?_
  ·obtain ⟨y32,hy32,hz29⟩:=bC hz29
   rcases Bool.eq_false_or_eq_true y32 with c34 | c34
   ·replace hz29:=Zs c34 hz29
    obtain ⟨y33,hy33,hz29⟩:=bC hz29
    refine Zc Zd [some true,some true,some true,some true] ?_
    simp only [push_cast,seval,↓reduceIte,Za,c34,hN0,hN]
    refine GCalls.argsW ?_ ((Qv hy32).then ?_)
    ·simp only [push_cast,seval,↓reduceIte,Za,c34,hN0,hN]
    simp only [push_cast,seval,↓reduceIte,Za,c34,hN0,hN]
    refine (J8 hy33).then ?_
    simp only [push_cast,seval,↓reduceIte,Za,c34,hN0,hN]
    have hz29:=Option.some.inj hz29;subst hz29
    refine And.intro rfl (Fit2.of (Zj hU rfl rfl ?_) (by omega))
    simp only [push_cast,seval,↓reduceIte,Za,c34,hN0,hN]
   replace hz29:=Zr c34 hz29
   refine Zc Zd [some false,some false,some false,some false] ?_
   simp only [push_cast,seval,↓reduceIte,Za,c34,hN0,hN]
   refine GCalls.argsW ?_ ((Qv hy32).then ?_)
   ·simp only [push_cast,seval,↓reduceIte,Za,c34,hN0,hN]
   simp only [push_cast,seval,↓reduceIte,Za,c34,hN0,hN]
   have hz29:=Option.some.inj hz29;subst hz29
   refine And.intro rfl (Fit2.of (Zj hU rfl rfl ?_) (by omega))
   simp only [push_cast,seval,↓reduceIte,Za,c34,hN0,hN]
  refine Z0 ?_
  try simp only [Zl,Zi]
  have h:=Option.some.inj h;subst h
  refine Zt (.inr rfl) hU [.val (.bool z29)] (by omega) ?_
  simp only [push_cast,seval,↓reduceIte,Za,Try.results59,hN0,hN]
 replace h:=Zr c35 h
 refine Zy ?_
 try simp only [Zl,Zi]
 refine Zk [] [false] ?_
 simp only [push_cast,seval,↓reduceIte]
 refine Zq [4] (Zc Zd [] ?_)
 simp only [push_cast,seval,↓reduceIte,Za,hN0,hN]
 refine Z0 ?_
 try simp only [Zl,Zi]
 have h:=Option.some.inj h;subst h
 refine Zt (.inr rfl) hU [.val (.bool false)] (by omega) ?_
 simp only [push_cast,seval,↓reduceIte,Za,Try.results59,hN0,hN]
theorem Zkv {Yh:(S_api_Edit→Option Bool)} {Ye:(S_api_Edit→Int→Option Bool)} {Z5:((List S_api_KidEdit)→Int→Option Bool)} {Z8:(S_api_Edit→Int→Option Bool)} {Z9:(Int→S_api_Op→Int→Option Bool)} {Z4:(Bool→Bool→Bool→S_api_Op→Option Bool)} (Qw:∀ {a0:S_api_Edit} {r:Bool} {O:Objs} {n:Nat},Yh a0=some r→GTo Try.prog 24 [.agg (Ze a0)] O n (.val (.bool r)) O n) (Jn:∀ {a0:S_api_Edit} {a1:Int} {r:Bool} {O:Objs} {n:Nat},Ye a0 a1=some r→GTo Try.prog 59 [.agg (Ze a0),.val (.int .i64 a1)] O n (.val (.bool r)) O n) (Jm:∀ {a0:(List S_api_KidEdit)} {a1:Int} {r:Bool} {O:Objs} {n:Nat},Z5 a0 a1=some r→GTo Try.prog 100 [.sl a0.length (fl Zh a0),.val (.int .i64 a1)] O n (.val (.bool r)) O n) (J8:∀ {a0:S_api_Edit} {a1:Int} {r:Bool} {O:Objs} {n:Nat},Z8 a0 a1=some r→GTo Try.prog 101 [.agg (Ze a0),.val (.int .i64 a1)] O n (.val (.bool r)) O n) (Kx:∀ {a0:Int} {a1:S_api_Op} {a2:Int} {r:Bool} {O:Objs} {n:Nat},Z9 a0 a1 a2=some r→GTo Try.prog 124 [.val (.int .i64 a0),.agg (Z3 a1),.val (.int .i64 a2)] O n (.val (.bool r)) O n) (Y0:∀ {a0:Bool} {a1:Bool} {a2:Bool} {a3:S_api_Op} {r:Bool} {O:Objs} {n:Nat},Z4 a0 a1 a2 a3=some r→GTo Try.prog 131 [.val (.bool a0),.val (.bool a1),.val (.bool a2),.ip (Z3 a3) 0] O n (.val (.bool r)) O n) {a0:(List S_api_KidEdit)} {a1:Int} {r:Bool} {O:Objs} {n:Nat} (h:U1 Yh Ye Z5 Z8 Z9 Z4 a0 a1=some r):GTo Try.prog 100 [.sl a0.length (fl Zh a0),.val (.int .i64 a1)] O n (.val (.bool r)) O n:=by
 unfold U1 at h
 refine Y3 Zd Try.call100 Try.func100 rfl (Nat.le_of_ble_eq_true rfl) (Nat.le_refl _) fun hU => ?_
 have hN0:O n=none:=hU.fresh _ (Nat.le_refl _)
 have hN:∀ k,O (n+k)=none:=fun k=>hU.fresh _ (Nat.le_add_right _ _)
 show W _ _ _ _ ⟨39,[],[(0,.sl a0.length (fl Zh a0)),(1,.val (.int .i64 a1))]⟩ (Zv O n []) _
 refine Zq [0,1] (Zc Zd [] ?_)
 simp only [push_cast,seval,↓reduceIte,Za,hN0,hN]
 refine Zq [0,1,5] (Zc Zd [] ?_)
 simp only [push_cast,seval,↓reduceIte,Za,hN0,hN]
 refine Zm ?_
 refine Zq [1,5,8,9,10] (Zc Zd [] ?_)
 simp only [push_cast,seval,↓reduceIte,Za,hN0,hN]
 refine Zk [1,5,8,9,10] [] ?_
 simp only [push_cast,seval,↓reduceIte]
 obtain ⟨z12,hz12,h⟩:=bC h
 refine U0 (J:=(Xc (fun z12=>JR n (⟨39,[],[(4,.val (.bool false))]⟩:Env) (Zv O n []) n) (fun z12=>JX 0 n (⟨39,[],[]⟩:Env) (Zv O n []) n))) (z:=z12) ?_ fun hw => ?_
 ·refine Yn hz12 (fun s0_=>⟨39,[],[(1,.val (.int .i64 a1)),(5,.val (.int .i64 s0_.1)),(8,.sl a0.length (fl Zh a0)),(9,.val (.int .i64 (a0.length:Int))),(10,.val (.int .i64 s0_.2))]⟩) (fun s0_=>(Zv O n [])) (Xc (fun z12=>JR n (⟨39,[],[(4,.val (.bool false))]⟩:Env) (Zv O n []) n) (fun z12=>JX 0 n (⟨39,[],[]⟩:Env) (Zv O n []) n)) ?_
  intro s0_ x0_ hs0_
  unfold K5 at hs0_
  try dsimp only
  refine Zq [1,5,8,9,10,11] (Zc Zd [] ?_)
  simp only [push_cast,seval,↓reduceIte,Za,hN0,hN]
  refine Zm ?_
  refine Zu (t:=(decide (s0_.2 < (a0.length:Int)))) rfl (fun c11 => ?_) (fun c11 => ?_)
  ·replace hs0_:=Zs c11 hs0_
   refine Zy ?_
   try simp only [Zl,Zi]
   refine Zk [1,5,8,9,10] [] ?_
   simp only [push_cast,seval,↓reduceIte]
   refine Zm ?_
   refine Z6 ?_
   refine Zm ?_
   obtain ⟨x2,hx2,ax2,bx2,cx2,hs0_⟩:=bE (f:=Zh) Zhd (fun _=>rfl) (by decide) hs0_
   refine Zc Zd [] ?_
   simp only [push_cast,Nat.reduceAdd,Nat.reduceSub,Nat.reduceMul,Nat.reduceLeDiff,Nat.reduceLT,Nat.reduceEqDiff,↓reduceIte,reduceCtorEq,Int.reduceBEq,Int.reduceBNe,Nat.reduceBEq,Int.reduceLE,Int.reduceLT,Int.reduceEq,Int.reduceNe,Int.reduceNeg,Nat.reduceDiv,Nat.reduceMod,Nat.reducePow,Za,ax2,bx2,cx2,hN0,hN]
   refine Zk [1,5,7,8,9,10] [true] ?_
   simp only [push_cast,seval,↓reduceIte]
   refine Zm ?_
   obtain ⟨z4,hz4,hs0_⟩:=bC hs0_
   refine Yl (E':=⟨39,[],[(1,.val (.int .i64 a1)),(7,.ref n 0),(8,.sl a0.length (fl Zh a0)),(9,.val (.int .i64 (a0.length:Int))),(10,.val (.int .i64 s0_.2)),(35,.val (.bool z4))]⟩) (O':=(Zv O n [some ⟨false,71,12,1,(G0 x2)⟩])) (n0:=(n+1)) ?_ ?_
   ·rcases Bool.eq_false_or_eq_true (decide (x2.At≤s0_.1)) with c7 | c7
    ·replace hz4:=Zs c7 hz4
     refine Zc Zd [none,none,none,none,none,none,none,some false,some false,some false,some false,some false] ?_
     simp only [push_cast,seval,↓reduceIte,Za,c7,hN0,hN]
     repeat (with_reducible refine And.intro (by first | (intro h0;simp only [h0,and_self];done) | (intro h0;simp only [h0,Bool.not_false,Bool.not_true,Bool.true_and,Bool.and_true,true_and,and_true,and_self,imp_self,implies_true,bne_iff_ne,ne_eq,beq_iff_eq];done) | (intros;simp_all;done) | exact True.intro) ?_)
     have hz4:=Option.some.inj hz4;subst hz4
     refine And.intro rfl (Fit2.of (Zj hU rfl rfl ?_) (by omega))
     simp only [push_cast,seval,↓reduceIte,Za,c7,hN0,hN]
    replace hz4:=Zr c7 hz4
    rcases Bool.eq_false_or_eq_true (decide (65534 < x2.At)) with c8 | c8
    ·replace hz4:=Zs c8 hz4
     try rw [c8] at c7
     refine Zc Zd [none,none,none,none,none,none,none,some false,some false,some false,some false,some false] ?_
     simp only [push_cast,seval,↓reduceIte,Za,c7,c8,hN0,hN]
     repeat (with_reducible refine And.intro (by first | (intro h0;simp only [h0,and_self];done) | (intro h0;simp only [h0,Bool.not_false,Bool.not_true,Bool.true_and,Bool.and_true,true_and,and_true,and_self,imp_self,implies_true,bne_iff_ne,ne_eq,beq_iff_eq];done) | (intros;simp_all;done) | exact True.intro) ?_)
     have hz4:=Option.some.inj hz4;subst hz4
     refine And.intro rfl (Fit2.of (Zj hU rfl rfl ?_) (by omega))
     simp only [push_cast,seval,↓reduceIte,Za,c7,c8,hN0,hN]
    replace hz4:=Zr c8 hz4
    try rw [c8] at c7
    rcases Bool.eq_false_or_eq_true (x2.E.Kind == 0) with c9 | c9
    ·replace hz4:=Zs c9 hz4
     try rw [c9] at c7
     try rw [c9] at c8
     refine Zc Zd [none,none,none,none,none,none,none,some false,some false,some false,some false,some false] ?_
     simp only [push_cast,seval,↓reduceIte,Za,c7,c8,c9,hN0,hN]
     repeat (with_reducible refine And.intro (by first | (intro h0;simp only [h0,and_self];done) | (intro h0;simp only [h0,Bool.not_false,Bool.not_true,Bool.true_and,Bool.and_true,true_and,and_true,and_self,imp_self,implies_true,bne_iff_ne,ne_eq,beq_iff_eq];done) | (intros;simp_all;done) | exact True.intro) ?_)
     have hz4:=Option.some.inj hz4;subst hz4
     refine And.intro rfl (Fit2.of (Zj hU rfl rfl ?_) (by omega))
     simp only [push_cast,seval,↓reduceIte,Za,c7,c8,c9,hN0,hN]
    replace hz4:=Zr c9 hz4
    try rw [c9] at c7
    try rw [c9] at c8
    obtain ⟨y6,hy6,hz4⟩:=bC hz4
    refine Zc Zd [none,none,none,none,none,none,none,some true,some true,some true,some true,some true] ?_
    simp only [push_cast,seval,↓reduceIte,Za,c7,c8,c9,hN0,hN]
    repeat (with_reducible refine And.intro (by first | (intro h0;simp only [h0,and_self];done) | (intro h0;simp only [h0,Bool.not_false,Bool.not_true,Bool.true_and,Bool.and_true,true_and,and_true,and_self,imp_self,implies_true,bne_iff_ne,ne_eq,beq_iff_eq];done) | (intros;simp_all;done) | exact True.intro) ?_)
    refine (Jn hy6).then ?_
    simp only [push_cast,seval,↓reduceIte,Za,c7,c8,c9,hN0,hN]
    repeat (with_reducible refine And.intro (by first | (intro h0;simp only [h0,and_self];done) | (intro h0;simp only [h0,Bool.not_false,Bool.not_true,Bool.true_and,Bool.and_true,true_and,and_true,and_self,imp_self,implies_true,bne_iff_ne,ne_eq,beq_iff_eq];done) | (intros;simp_all;done) | exact True.intro) ?_)
    have hz4:=Option.some.inj hz4;subst hz4
    refine And.intro rfl (Fit2.of (Zj hU rfl rfl ?_) (by omega))
    simp only [push_cast,seval,↓reduceIte,Za,c7,c8,c9,hN0,hN]
   refine Zu (t:=z4) rfl (fun c10 => ?_) (fun c10 => ?_)
   ·replace hs0_:=Zs c10 hs0_
    refine Zq [4] (Zc Zd [] ?_)
    simp only [push_cast,seval,↓reduceIte,Za,hN0,hN]
    refine Z0 ?_
    try simp only [Zl,Zi]
    have hs0_:=Option.some.inj hs0_;subst hs0_
    refine And.intro (fun h=>by cases h) (And.intro rfl (Fit2.of (Zj hU rfl rfl ?_) (by omega)))
    simp only [push_cast,seval,↓reduceIte,Za,hN0,hN]
   replace hs0_:=Zr c10 hs0_
   refine Zy ?_
   try simp only [Zl,Zi]
   refine Zk [1,7,8,9,10] [true] ?_
   simp only [push_cast,seval,↓reduceIte]
   refine Zc Zd [] ?_
   simp only [push_cast,seval,↓reduceIte,Za,hN0,hN]
   refine Zk [1,5,8,9,10] [false] ?_
   simp only [push_cast,seval,↓reduceIte]
   refine Zc Zd [] ?_
   simp only [push_cast,seval,↓reduceIte,Za,hN0,hN]
   have hs0_:=Option.some.inj hs0_;subst hs0_
   refine And.intro rfl (Fit2.of (Zj hU rfl rfl ?_) (by omega))
   simp only [push_cast,seval,↓reduceIte,Za,hN0,hN]
  replace hs0_:=Zr c11 hs0_
  refine Yx ?_
  try simp only [Zl,Zi,↓reduceIte,Nat.reduceEqDiff]
  have hs0_:=Option.some.inj hs0_;subst hs0_
  refine And.intro (fun h=>by cases h) (And.intro rfl (Fit2.of (Zj hU rfl rfl ?_) (by omega)))
  simp only [push_cast,seval,↓reduceIte,Za,hN0,hN]
 rcases z12 with z12 | z12
 ·dsimp only [Xc] at hw h
  refine Q0 hw ?_
  try simp only [Zl,Zi,↓reduceIte,Nat.reduceEqDiff]
  have h:=Option.some.inj h;subst h
  refine Zt (.inr rfl) hU [.val (.bool false)] (by omega) ?_
  simp only [push_cast,seval,↓reduceIte,Za,Try.results100,hN0,hN]
 dsimp only [Xc] at hw h
 refine Yb hw ?_
 try simp only [Zl,Zi,↓reduceIte,Nat.reduceEqDiff]
 refine Zk [] [] ?_
 simp only [push_cast,seval,↓reduceIte]
 refine Zq [4] (Zc Zd [] ?_)
 simp only [push_cast,seval,↓reduceIte,Za,hN0,hN]
 refine Z0 ?_
 try simp only [Zl,Zi]
 have h:=Option.some.inj h;subst h
 refine Zt (.inr rfl) hU [.val (.bool true)] (by omega) ?_
 simp only [push_cast,seval,↓reduceIte,Za,Try.results100,hN0,hN]
theorem Zl1 {Yh:(S_api_Edit→Option Bool)} {Ye:(S_api_Edit→Int→Option Bool)} {Z5:((List S_api_KidEdit)→Int→Option Bool)} {Z8:(S_api_Edit→Int→Option Bool)} {Z9:(Int→S_api_Op→Int→Option Bool)} {Z4:(Bool→Bool→Bool→S_api_Op→Option Bool)} (Qw:∀ {a0:S_api_Edit} {r:Bool} {O:Objs} {n:Nat},Yh a0=some r→GTo Try.prog 24 [.agg (Ze a0)] O n (.val (.bool r)) O n) (Jn:∀ {a0:S_api_Edit} {a1:Int} {r:Bool} {O:Objs} {n:Nat},Ye a0 a1=some r→GTo Try.prog 59 [.agg (Ze a0),.val (.int .i64 a1)] O n (.val (.bool r)) O n) (Jm:∀ {a0:(List S_api_KidEdit)} {a1:Int} {r:Bool} {O:Objs} {n:Nat},Z5 a0 a1=some r→GTo Try.prog 100 [.sl a0.length (fl Zh a0),.val (.int .i64 a1)] O n (.val (.bool r)) O n) (J8:∀ {a0:S_api_Edit} {a1:Int} {r:Bool} {O:Objs} {n:Nat},Z8 a0 a1=some r→GTo Try.prog 101 [.agg (Ze a0),.val (.int .i64 a1)] O n (.val (.bool r)) O n) (Kx:∀ {a0:Int} {a1:S_api_Op} {a2:Int} {r:Bool} {O:Objs} {n:Nat},Z9 a0 a1 a2=some r→GTo Try.prog 124 [.val (.int .i64 a0),.agg (Z3 a1),.val (.int .i64 a2)] O n (.val (.bool r)) O n) (Y0:∀ {a0:Bool} {a1:Bool} {a2:Bool} {a3:S_api_Op} {r:Bool} {O:Objs} {n:Nat},Z4 a0 a1 a2 a3=some r→GTo Try.prog 131 [.val (.bool a0),.val (.bool a1),.val (.bool a2),.ip (Z3 a3) 0] O n (.val (.bool r)) O n) {a0:S_api_Edit} {a1:Int} {r:Bool} {O:Objs} {n:Nat} (h:Gw Yh Ye Z5 Z8 Z9 Z4 a0 a1=some r):GTo Try.prog 101 [.agg (Ze a0),.val (.int .i64 a1)] O n (.val (.bool r)) O n:=by
 unfold Gw at h
 refine Y3 Zd Try.call101 Try.func101 rfl (Nat.le_of_ble_eq_true rfl) (Nat.le_refl _) fun hU => ?_
 have hN0:O n=none:=hU.fresh _ (Nat.le_refl _)
 have hN:∀ k,O (n+k)=none:=fun k=>hU.fresh _ (Nat.le_add_right _ _)
 show W _ _ _ _ ⟨38,[],[(0,.agg (Ze a0)),(1,.val (.int .i64 a1))]⟩ (Zv O n []) _
 refine Zq [1,2] (Zc Zd [] ?_)
 simp only [push_cast,seval,↓reduceIte,Za,hN0,hN]
 refine Zm ?_
 refine Zm ?_
 obtain ⟨y2,hy2,h⟩:=bC h
 refine Zc Zd [] ?_
 simp only [push_cast,seval,↓reduceIte,Za,hN0,hN]
 refine (Zly hy2).then ?_
 simp only [push_cast,seval,↓reduceIte,Za,hN0,hN]
 refine Zk [1,2,12] [true] ?_
 simp only [push_cast,seval,↓reduceIte]
 refine Zu (t:=(!y2)) rfl (fun c12 => ?_) (fun c12 => ?_)
 ·replace h:=Zs c12 h
  refine Zq [4] (Zc Zd [] ?_)
  simp only [push_cast,seval,↓reduceIte,Za,hN0,hN]
  refine Z0 ?_
  try simp only [Zl,Zi]
  have h:=Option.some.inj h;subst h
  refine Zt (.inr rfl) hU [.val (.bool false)] (by omega) ?_
  simp only [push_cast,seval,↓reduceIte,Za,Try.results101,hN0,hN]
 replace h:=Zr c12 h
 refine Zy ?_
 try simp only [Zl,Zi]
 refine Zk [1,2] [true] ?_
 simp only [push_cast,seval,↓reduceIte]
 refine Zm ?_
 refine Zq [1,2,14,15,16] (Zc Zd [] ?_)
 simp only [push_cast,seval,↓reduceIte,Za,hN0,hN]
 refine Zk [1,2,14,15,16] [true] ?_
 simp only [push_cast,seval,↓reduceIte]
 obtain ⟨z9,hz9,h⟩:=bC h
 refine U0 (J:=(Xc (fun z9=>JR n (⟨38,[],[(4,.val (.bool false))]⟩:Env) (Zv O n [none]) (n+1)) (fun z9=>JX 0 n (⟨38,[],[(2,.ref n 0)]⟩:Env) (Zv O n [some ⟨false,30,11,1,(Ze a0)⟩]) (n+1)))) (z:=z9) ?_ fun hw => ?_
 ·refine Yn hz9 (fun s0_=>⟨38,[],[(1,.val (.int .i64 a1)),(2,.ref n 0),(14,.sl a0.Ops.length (fl Zf a0.Ops)),(15,.val (.int .i64 (a0.Ops.length:Int))),(16,.val (.int .i64 s0_))]⟩) (fun s0_=>(Zv O n [some ⟨false,30,11,1,(Ze a0)⟩])) (Xc (fun z9=>JR n (⟨38,[],[(4,.val (.bool false))]⟩:Env) (Zv O n [none]) (n+1)) (fun z9=>JX 0 n (⟨38,[],[(2,.ref n 0)]⟩:Env) (Zv O n [some ⟨false,30,11,1,(Ze a0)⟩]) (n+1))) ?_
  intro s0_ x0_ hs0_
  unfold Vl at hs0_
  try dsimp only
  refine Zq [1,2,14,15,16,17] (Zc Zd [] ?_)
  simp only [push_cast,seval,↓reduceIte,Za,hN0,hN]
  refine Zm ?_
  refine Zu (t:=(decide (s0_ < (a0.Ops.length:Int)))) rfl (fun c8 => ?_) (fun c8 => ?_)
  ·replace hs0_:=Zs c8 hs0_
   refine Zy ?_
   try simp only [Zl,Zi]
   refine Zk [1,2,14,15,16] [true] ?_
   simp only [push_cast,seval,↓reduceIte]
   refine Zm ?_
   refine Z6 ?_
   refine Zm ?_
   obtain ⟨x4,hx4,ax4,bx4,cx4,hs0_⟩:=bE (f:=Zf) V2 (fun _=>rfl) (by decide) hs0_
   refine Zc Zd [] ?_
   simp only [push_cast,Nat.reduceAdd,Nat.reduceSub,Nat.reduceMul,Nat.reduceLeDiff,Nat.reduceLT,Nat.reduceEqDiff,↓reduceIte,reduceCtorEq,Int.reduceBEq,Int.reduceBNe,Nat.reduceBEq,Int.reduceLE,Int.reduceLT,Int.reduceEq,Int.reduceNe,Int.reduceNeg,Nat.reduceDiv,Nat.reduceMod,Nat.reducePow,Za,ax4,bx4,cx4,hN0,hN]
   refine Zk [1,2,6,14,15,16] [true,true] ?_
   simp only [push_cast,seval,↓reduceIte]
   refine Zm ?_
   obtain ⟨y6,hy6,hs0_⟩:=bC hs0_
   refine Zc Zd [] ?_
   simp only [push_cast,seval,↓reduceIte,Za,hN0,hN]
   refine (Kx hy6).then ?_
   simp only [push_cast,seval,↓reduceIte,Za,hN0,hN]
   refine Zk [1,2,14,15,16,25] [true,false] ?_
   simp only [push_cast,seval,↓reduceIte]
   refine Zu (t:=(!y6)) rfl (fun c7 => ?_) (fun c7 => ?_)
   ·replace hs0_:=Zs c7 hs0_
    refine Zq [4] (Zc Zd [] ?_)
    simp only [push_cast,seval,↓reduceIte,Za,hN0,hN]
    refine Z0 ?_
    try simp only [Zl,Zi]
    have hs0_:=Option.some.inj hs0_;subst hs0_
    refine And.intro (fun h=>by cases h) (And.intro rfl (Fit2.of (Zj hU rfl rfl ?_) (by omega)))
    simp only [push_cast,seval,↓reduceIte,Za,hN0,hN]
   replace hs0_:=Zr c7 hs0_
   refine Zy ?_
   try simp only [Zl,Zi]
   refine Zk [1,2,14,15,16] [true,false] ?_
   simp only [push_cast,seval,↓reduceIte]
   refine Zc Zd [] ?_
   simp only [push_cast,seval,↓reduceIte,Za,hN0,hN]
   have hs0_:=Option.some.inj hs0_;subst hs0_
   refine And.intro rfl (Fit2.of (Zj hU rfl rfl ?_) (by omega))
   simp only [push_cast,seval,↓reduceIte,Za,hN0,hN]
  replace hs0_:=Zr c8 hs0_
  refine Yx ?_
  try simp only [Zl,Zi,↓reduceIte,Nat.reduceEqDiff]
  have hs0_:=Option.some.inj hs0_;subst hs0_
  refine And.intro (fun h=>by cases h) (And.intro rfl (Fit2.of (Zj hU rfl rfl ?_) (by omega)))
  simp only [push_cast,seval,↓reduceIte,Za,hN0,hN]
 rcases z9 with z9 | z9
 ·dsimp only [Xc] at hw h
  refine Q0 hw ?_
  try simp only [Zl,Zi,↓reduceIte,Nat.reduceEqDiff]
  have h:=Option.some.inj h;subst h
  refine Zt (.inr rfl) hU [.val (.bool false)] (by omega) ?_
  simp only [push_cast,seval,↓reduceIte,Za,Try.results101,hN0,hN]
 dsimp only [Xc] at hw h
 refine Yb hw ?_
 try simp only [Zl,Zi,↓reduceIte,Nat.reduceEqDiff]
 refine Zk [2] [true] ?_
 simp only [push_cast,seval,↓reduceIte]
 refine Zm ?_
 obtain ⟨y11,hy11,h⟩:=bC h
 refine Zc Zd [] ?_
 simp only [push_cast,seval,↓reduceIte,Za,hN0,hN]
 refine (Zoc hy11).then ?_
 simp only [push_cast,seval,↓reduceIte,Za,hN0,hN]
 refine Zk [7,8] [false] ?_
 simp only [push_cast,seval,↓reduceIte]
 refine Zq [4] (Zc Zd [none,none] ?_)
 simp only [push_cast,seval,↓reduceIte,Za,hN0,hN]
 repeat (with_reducible refine And.intro (by first | (intro h0;simp only [h0,and_self];done) | (intro h0;simp only [h0,Bool.not_false,Bool.not_true,Bool.true_and,Bool.and_true,true_and,and_true,and_self,imp_self,implies_true,bne_iff_ne,ne_eq,beq_iff_eq];done) | (intros;simp_all;done) | exact True.intro) ?_)
 refine Z0 ?_
 try simp only [Zl,Zi]
 have h:=Option.some.inj h;subst h
 refine Zt (.inr rfl) hU [.val (.bool (cond (decide (y11.1 < 1048576)) (decide (y11.2 < 1048576)) false))] (by omega) ?_
 simp only [push_cast,seval,↓reduceIte,Za,Try.results101,hN0,hN]
theorem Znd {Yh:(S_api_Edit→Option Bool)} {Ye:(S_api_Edit→Int→Option Bool)} {Z5:((List S_api_KidEdit)→Int→Option Bool)} {Z8:(S_api_Edit→Int→Option Bool)} {Z9:(Int→S_api_Op→Int→Option Bool)} {Z4:(Bool→Bool→Bool→S_api_Op→Option Bool)} (Qw:∀ {a0:S_api_Edit} {r:Bool} {O:Objs} {n:Nat},Yh a0=some r→GTo Try.prog 24 [.agg (Ze a0)] O n (.val (.bool r)) O n) (Jn:∀ {a0:S_api_Edit} {a1:Int} {r:Bool} {O:Objs} {n:Nat},Ye a0 a1=some r→GTo Try.prog 59 [.agg (Ze a0),.val (.int .i64 a1)] O n (.val (.bool r)) O n) (Jm:∀ {a0:(List S_api_KidEdit)} {a1:Int} {r:Bool} {O:Objs} {n:Nat},Z5 a0 a1=some r→GTo Try.prog 100 [.sl a0.length (fl Zh a0),.val (.int .i64 a1)] O n (.val (.bool r)) O n) (J8:∀ {a0:S_api_Edit} {a1:Int} {r:Bool} {O:Objs} {n:Nat},Z8 a0 a1=some r→GTo Try.prog 101 [.agg (Ze a0),.val (.int .i64 a1)] O n (.val (.bool r)) O n) (Kx:∀ {a0:Int} {a1:S_api_Op} {a2:Int} {r:Bool} {O:Objs} {n:Nat},Z9 a0 a1 a2=some r→GTo Try.prog 124 [.val (.int .i64 a0),.agg (Z3 a1),.val (.int .i64 a2)] O n (.val (.bool r)) O n) (Y0:∀ {a0:Bool} {a1:Bool} {a2:Bool} {a3:S_api_Op} {r:Bool} {O:Objs} {n:Nat},Z4 a0 a1 a2 a3=some r→GTo Try.prog 131 [.val (.bool a0),.val (.bool a1),.val (.bool a2),.ip (Z3 a3) 0] O n (.val (.bool r)) O n) {a0:Int} {a1:S_api_Op} {a2:Int} {r:Bool} {O:Objs} {n:Nat} (h:Za2 Yh Ye Z5 Z8 Z9 Z4 a0 a1 a2=some r):GTo Try.prog 124 [.val (.int .i64 a0),.agg (Z3 a1),.val (.int .i64 a2)] O n (.val (.bool r)) O n:=by
 unfold Za2 at h
 refine Y3 Zd Try.call124 Try.func124 rfl (Nat.le_of_ble_eq_true rfl) (Nat.le_refl _) fun hU => ?_
 have hN0:O n=none:=hU.fresh _ (Nat.le_refl _)
 have hN:∀ k,O (n+k)=none:=fun k=>hU.fresh _ (Nat.le_add_right _ _)
 show W _ _ _ _ ⟨60,[],[(0,.val (.int .i64 a0)),(1,.agg (Z3 a1)),(2,.val (.int .i64 a2))]⟩ (Zv O n []) _
 refine Zq [0,2,4] (Zc Zd [] ?_)
 simp only [push_cast,seval,↓reduceIte,Za,hN0,hN]
 refine Zbw ⟨60,[],[(0,.val (.int .i64 a0)),(2,.val (.int .i64 a2)),(4,.ip (Z3 a1) 0)]⟩ (Zv O n [none]) (Zj hU rfl rfl ?_) ?_
 ·simp only [push_cast,seval,↓reduceIte,Za,hN0,hN]
 refine Zq [0,2,4,7] (Zc Zd [] ?_)
 simp only [push_cast,seval,↓reduceIte,Za,hN0,hN]
 refine Zm ?_
 refine Zq [0,2,4,7,10] (Zc Zd [] ?_)
 simp only [push_cast,seval,↓reduceIte,Za,hN0,hN]
 refine Z6 ?_
 refine Zm ?_
 refine Z6 ?_
 obtain ⟨z1,hz1,h⟩:=bC h
 refine Z5b (J:=(Xc (fun z1=>JN n (⟨60,[],[(0,.val (.int .i64 a0)),(4,.ip (Z3 a1) 0),(7,.fn 131 0 [.ip (Z3 a1) 0])]⟩:Env) (Zv O n [none]) (n+1)) (Xc (fun z1=>JR n (⟨60,[],[(6,.val (.bool z1))]⟩:Env) (Zv O n [none]) (n+1)) (Xc (fun z1=>JX 4 n (⟨60,[],[(0,.val (.int .i64 a0)),(2,.val (.int .i64 a2)),(4,.ip (Z3 a1) 0),(7,.fn 131 0 [.ip (Z3 a1) 0])]⟩:Env) (Zv O n [none]) (n+1)) (fun z1=>JX 0 n (⟨60,[],[]⟩:Env) (Zv O n [none]) (n+1)))))) (z:=z1) ?_ fun hw => ?_
 ·refine Z6 ?_
  refine Z6 ?_
  refine Zm ?_
  refine Z6 ?_
  refine Zm ?_
  refine Zm ?_
  refine Zq [0,2,4,7,10,11] (Zc Zd [] ?_)
  simp only [push_cast,seval,↓reduceIte,Za,hN0,hN]
  refine Zu (t:=(a1.Kind == 0)) rfl (fun c7 => ?_) (fun c7 => ?_)
  ·replace hz1:=Zs c7 hz1
   refine Yx ?_
   try simp only [Zl,Zi,↓reduceIte,Nat.reduceEqDiff]
   refine Zk [4,7] [false] ?_
   simp only [push_cast,seval,↓reduceIte]
   refine Zm ?_
   refine Zm ?_
   obtain ⟨y3,hy3,hz1⟩:=bC hz1
   refine Zc Zd [none,none,none,none,none,none] ?_
   simp only [push_cast,seval,↓reduceIte,Za,hN0,hN]
   repeat (with_reducible refine And.intro (by first | (intro h0;simp only [h0,and_self];done) | (intro h0;simp only [h0,Bool.not_false,Bool.not_true,Bool.true_and,Bool.and_true,true_and,and_true,and_self,imp_self,implies_true,bne_iff_ne,ne_eq,beq_iff_eq];done) | (intros;simp_all;done) | exact True.intro) ?_)
   refine GCalls.argsW ?_ ((Y0 hy3).then ?_)
   ·simp only [push_cast,seval,↓reduceIte,Za,hN0,hN]
   simp only [push_cast,seval,↓reduceIte,Za,hN0,hN]
   repeat (with_reducible refine And.intro (by first | (intro h0;simp only [h0,and_self];done) | (intro h0;simp only [h0,Bool.not_false,Bool.not_true,Bool.true_and,Bool.and_true,true_and,and_true,and_self,imp_self,implies_true,bne_iff_ne,ne_eq,beq_iff_eq];done) | (intros;simp_all;done) | exact True.intro) ?_)
   refine Zk [6] [false] ?_
   simp only [push_cast,seval,↓reduceIte]
   refine Z0 ?_
   try simp only [Zl,Zi]
   have hz1:=Option.some.inj hz1;subst hz1
   refine And.intro rfl (Fit2.of (Zj hU rfl rfl ?_) (by omega))
   simp only [push_cast,seval,↓reduceIte,Za,hN0,hN]
  replace hz1:=Zr c7 hz1
  refine Zy ?_
  try simp only [Zl,Zi]
  refine Zk [0,2,4,7,10] [false] ?_
  simp only [push_cast,seval,↓reduceIte]
  refine Zm ?_
  refine Zq [0,2,4,7,10,13] (Zc Zd [] ?_)
  simp only [push_cast,seval,↓reduceIte,Za,hN0,hN]
  refine Zu (t:=(a1.Kind == 1)) rfl (fun c6 => ?_) (fun c6 => ?_)
  ·replace hz1:=Zs c6 hz1
   refine Yx ?_
   try simp only [Zl,Zi,↓reduceIte,Nat.reduceEqDiff]
   have hz1:=Option.some.inj hz1;subst hz1
   refine And.intro rfl (Fit2.of (Zj hU rfl rfl ?_) (by omega))
   simp only [push_cast,seval,↓reduceIte,Za,hN0,hN]
  replace hz1:=Zr c6 hz1
  refine Zy ?_
  try simp only [Zl,Zi]
  refine Zk [0,2,4,7,10] [false] ?_
  simp only [push_cast,seval,↓reduceIte]
  refine Zm ?_
  refine Zq [0,2,4,7,10,15] (Zc Zd [] ?_)
  simp only [push_cast,seval,↓reduceIte,Za,hN0,hN]
  refine Zu (t:=(a1.Kind == 2)) rfl (fun c5 => ?_) (fun c5 => ?_)
  ·replace hz1:=Zs c5 hz1
   refine Yx ?_
   try simp only [Zl,Zi,↓reduceIte,Nat.reduceEqDiff]
   have hz1:=Option.some.inj hz1;subst hz1
   refine And.intro rfl (Fit2.of (Zj hU rfl rfl ?_) (by omega))
   simp only [push_cast,seval,↓reduceIte,Za,hN0,hN]
  replace hz1:=Zr c5 hz1
  refine Zy ?_
  try simp only [Zl,Zi]
  refine Zk [0,2,4,7,10] [false] ?_
  simp only [push_cast,seval,↓reduceIte]
  refine Zq [0,2,4,7,17] (Zc Zd [] ?_)
  simp only [push_cast,seval,↓reduceIte,Za,hN0,hN]
  refine Zu (t:=(a1.Kind == 3)) rfl (fun c4 => ?_) (fun c4 => ?_)
  ·replace hz1:=Zs c4 hz1
   refine Yx ?_
   try simp only [Zl,Zi,↓reduceIte,Nat.reduceEqDiff]
   have hz1:=Option.some.inj hz1;subst hz1
   refine And.intro rfl (Fit2.of (Zj hU rfl rfl ?_) (by omega))
   simp only [push_cast,seval,↓reduceIte,Za,hN0,hN]
  replace hz1:=Zr c4 hz1
  refine Zy ?_
  try simp only [Zl,Zi]
  refine Zk [] [false] ?_
  simp only [push_cast,seval,↓reduceIte]
  refine Yx ?_
  try simp only [Zl,Zi,↓reduceIte,Nat.reduceEqDiff]
  have hz1:=Option.some.inj hz1;subst hz1
  refine And.intro rfl (Fit2.of (Zj hU rfl rfl ?_) (by omega))
  simp only [push_cast,seval,↓reduceIte,Za,hN0,hN]
 rcases z1 with z1 | z1
 ·dsimp only [Xc] at hw h
  refine Yl hw ?_
  refine Zm ?_
  obtain ⟨z10,hz10,h⟩:=bC h
  refine Yl (E':=⟨60,[],[(6,.val (.bool z10))]⟩) (O':=(Zv O n [none])) (n0:=(n+1)) ?_ ?_
  ·obtain ⟨y13,hy13,hz10⟩:=bC hz10
   rcases Bool.eq_false_or_eq_true y13 with c15 | c15
   ·replace hz10:=Zs c15 hz10
    rcases Bool.eq_false_or_eq_true (decide (0 < (a1.L.length:Int))) with c16 | c16
    ·replace hz10:=Zs c16 hz10
     try rw [c16] at c15
     obtain ⟨y14,hy14,hz10⟩:=bC hz10
     refine Zc Zd [none,none,none,none,some true,some true,some true,some true,some true] ?_
     simp only [push_cast,seval,↓reduceIte,Za,c15,c16,hN0,hN]
     repeat (with_reducible refine And.intro (by first | (intro h0;simp only [h0,and_self];done) | (intro h0;simp only [h0,Bool.not_false,Bool.not_true,Bool.true_and,Bool.and_true,true_and,and_true,and_self,imp_self,implies_true,bne_iff_ne,ne_eq,beq_iff_eq];done) | (intros;simp_all;done) | exact True.intro) ?_)
     refine GCalls.argsW ?_ ((Y0 hy13).then ?_)
     ·simp only [push_cast,seval,↓reduceIte,Za,c15,c16,hN0,hN]
     simp only [push_cast,seval,↓reduceIte,Za,c15,c16,hN0,hN]
     repeat (with_reducible refine And.intro (by first | (intro h0;simp only [h0,and_self];done) | (intro h0;simp only [h0,Bool.not_false,Bool.not_true,Bool.true_and,Bool.and_true,true_and,and_true,and_self,imp_self,implies_true,bne_iff_ne,ne_eq,beq_iff_eq];done) | (intros;simp_all;done) | exact True.intro) ?_)
     refine GCalls.argsW ?_ ((Zj8 hy14).then ?_)
     ·simp only [push_cast,seval,↓reduceIte,Za,c15,c16,hN0,hN]
     simp only [push_cast,seval,↓reduceIte,Za,c15,c16,hN0,hN]
     repeat (with_reducible refine And.intro (by first | (intro h0;simp only [h0,and_self];done) | (intro h0;simp only [h0,Bool.not_false,Bool.not_true,Bool.true_and,Bool.and_true,true_and,and_true,and_self,imp_self,implies_true,bne_iff_ne,ne_eq,beq_iff_eq];done) | (intros;simp_all;done) | exact True.intro) ?_)
     have hz10:=Option.some.inj hz10;subst hz10
     refine And.intro rfl (Fit2.of (Zj hU rfl rfl ?_) (by omega))
     simp only [push_cast,seval,↓reduceIte,Za,c15,c16,hN0,hN]
    replace hz10:=Zr c16 hz10
    try rw [c16] at c15
    refine Zc Zd [none,none,none,none,some false,some false,some false,some false,some false] ?_
    simp only [push_cast,seval,↓reduceIte,Za,c15,c16,hN0,hN]
    repeat (with_reducible refine And.intro (by first | (intro h0;simp only [h0,and_self];done) | (intro h0;simp only [h0,Bool.not_false,Bool.not_true,Bool.true_and,Bool.and_true,true_and,and_true,and_self,imp_self,implies_true,bne_iff_ne,ne_eq,beq_iff_eq];done) | (intros;simp_all;done) | exact True.intro) ?_)
    refine GCalls.argsW ?_ ((Y0 hy13).then ?_)
    ·simp only [push_cast,seval,↓reduceIte,Za,c15,c16,hN0,hN]
    simp only [push_cast,seval,↓reduceIte,Za,c15,c16,hN0,hN]
    repeat (with_reducible refine And.intro (by first | (intro h0;simp only [h0,and_self];done) | (intro h0;simp only [h0,Bool.not_false,Bool.not_true,Bool.true_and,Bool.and_true,true_and,and_true,and_self,imp_self,implies_true,bne_iff_ne,ne_eq,beq_iff_eq];done) | (intros;simp_all;done) | exact True.intro) ?_)
    have hz10:=Option.some.inj hz10;subst hz10
    refine And.intro rfl (Fit2.of (Zj hU rfl rfl ?_) (by omega))
    simp only [push_cast,seval,↓reduceIte,Za,c15,c16,hN0,hN]
   replace hz10:=Zr c15 hz10
   refine Zc Zd [none,none,none,none,some false,some false,some false,some false,some false] ?_
   simp only [push_cast,seval,↓reduceIte,Za,c15,hN0,hN]
   repeat (with_reducible refine And.intro (by first | (intro h0;simp only [h0,and_self];done) | (intro h0;simp only [h0,Bool.not_false,Bool.not_true,Bool.true_and,Bool.and_true,true_and,and_true,and_self,imp_self,implies_true,bne_iff_ne,ne_eq,beq_iff_eq];done) | (intros;simp_all;done) | exact True.intro) ?_)
   refine GCalls.argsW ?_ ((Y0 hy13).then ?_)
   ·simp only [push_cast,seval,↓reduceIte,Za,c15,hN0,hN]
   simp only [push_cast,seval,↓reduceIte,Za,c15,hN0,hN]
   repeat (with_reducible refine And.intro (by first | (intro h0;simp only [h0,and_self];done) | (intro h0;simp only [h0,Bool.not_false,Bool.not_true,Bool.true_and,Bool.and_true,true_and,and_true,and_self,imp_self,implies_true,bne_iff_ne,ne_eq,beq_iff_eq];done) | (intros;simp_all;done) | exact True.intro) ?_)
   have hz10:=Option.some.inj hz10;subst hz10
   refine And.intro rfl (Fit2.of (Zj hU rfl rfl ?_) (by omega))
   simp only [push_cast,seval,↓reduceIte,Za,c15,hN0,hN]
  refine Z0 ?_
  try simp only [Zl,Zi]
  have h:=Option.some.inj h;subst h
  refine Zt (.inr rfl) hU [.val (.bool z10)] (by omega) ?_
  simp only [push_cast,seval,↓reduceIte,Za,Try.results124,hN0,hN]
 rcases z1 with z1 | z1
 ·dsimp only [Xc] at hw h
  refine Z0w hw ?_
  try simp only [Zl,Zi]
  have h:=Option.some.inj h;subst h
  refine Zt (.inr rfl) hU [.val (.bool z1)] (by omega) ?_
  simp only [push_cast,seval,↓reduceIte,Za,Try.results124,hN0,hN]
 rcases z1 with z1 | z1
 ·dsimp only [Xc] at hw h
  refine Z0x hw ?_
  try simp only [Zl,Zi,↓reduceIte,Nat.reduceEqDiff]
  refine Zk [0,2,4,7] [false] ?_
  simp only [push_cast,seval,↓reduceIte]
  refine Zm ?_
  obtain ⟨z20,hz20,h⟩:=bC h
  refine Yl (E':=⟨60,[],[(6,.val (.bool z20))]⟩) (O':=(Zv O n [none])) (n0:=(n+1)) ?_ ?_
  ·obtain ⟨y24,hy24,hz20⟩:=bC hz20
   rcases Bool.eq_false_or_eq_true y24 with c27 | c27
   ·replace hz20:=Zs c27 hz20
    obtain ⟨y25,hy25,hz20⟩:=bC hz20
    rcases Bool.eq_false_or_eq_true y25 with c28 | c28
    ·replace hz20:=Zs c28 hz20
     try rw [c28] at c27
     obtain ⟨y26,hy26,hz20⟩:=bC hz20
     refine Zc Zd [some true,some true,some true,some true,some true,some true,some true,some true] ?_
     simp only [push_cast,seval,↓reduceIte,Za,c27,c28,hN0,hN]
     refine GCalls.argsW ?_ ((Y0 hy24).then ?_)
     ·simp only [push_cast,seval,↓reduceIte,Za,c27,c28,hN0,hN]
     simp only [push_cast,seval,↓reduceIte,Za,c27,c28,hN0,hN]
     refine (Zg3 hy25).then ?_
     simp only [push_cast,seval,↓reduceIte,Za,c27,c28,hN0,hN]
     refine (Jn hy26).then ?_
     simp only [push_cast,seval,↓reduceIte,Za,c27,c28,hN0,hN]
     have hz20:=Option.some.inj hz20;subst hz20
     refine And.intro rfl (Fit2.of (Zj hU rfl rfl ?_) (by omega))
     simp only [push_cast,seval,↓reduceIte,Za,c27,c28,hN0,hN]
    replace hz20:=Zr c28 hz20
    try rw [c28] at c27
    refine Zc Zd [some true,some true,some true,some true,some false,some false,some false,some false] ?_
    simp only [push_cast,seval,↓reduceIte,Za,c27,c28,hN0,hN]
    refine GCalls.argsW ?_ ((Y0 hy24).then ?_)
    ·simp only [push_cast,seval,↓reduceIte,Za,c27,c28,hN0,hN]
    simp only [push_cast,seval,↓reduceIte,Za,c27,c28,hN0,hN]
    refine (Zg3 hy25).then ?_
    simp only [push_cast,seval,↓reduceIte,Za,c27,c28,hN0,hN]
    have hz20:=Option.some.inj hz20;subst hz20
    refine And.intro rfl (Fit2.of (Zj hU rfl rfl ?_) (by omega))
    simp only [push_cast,seval,↓reduceIte,Za,c27,c28,hN0,hN]
   replace hz20:=Zr c27 hz20
   refine Zc Zd [some false,some false,some false,some false,some false,some false,some false,some false] ?_
   simp only [push_cast,seval,↓reduceIte,Za,c27,hN0,hN]
   refine GCalls.argsW ?_ ((Y0 hy24).then ?_)
   ·simp only [push_cast,seval,↓reduceIte,Za,c27,hN0,hN]
   simp only [push_cast,seval,↓reduceIte,Za,c27,hN0,hN]
   have hz20:=Option.some.inj hz20;subst hz20
   refine And.intro rfl (Fit2.of (Zj hU rfl rfl ?_) (by omega))
   simp only [push_cast,seval,↓reduceIte,Za,c27,hN0,hN]
  refine Z0 ?_
  try simp only [Zl,Zi]
  have h:=Option.some.inj h;subst h
  refine Zt (.inr rfl) hU [.val (.bool z20)] (by omega) ?_
  simp only [push_cast,seval,↓reduceIte,Za,Try.results124,hN0,hN]
 dsimp only [Xc] at hw h
 refine Z0x hw ?_
 try simp only [Zl,Zi,↓reduceIte,Nat.reduceEqDiff]
 refine Zk [] [false] ?_
 simp only [push_cast,seval,↓reduceIte]
 refine Zq [6] (Zc Zd [] ?_)
 simp only [push_cast,seval,↓reduceIte,Za,hN0,hN]
 refine Z0 ?_
 try simp only [Zl,Zi]
 have h:=Option.some.inj h;subst h
 refine Zt (.inr rfl) hU [.val (.bool false)] (by omega) ?_
 simp only [push_cast,seval,↓reduceIte,Za,Try.results124,hN0,hN]
theorem Zkw {Yh:(S_api_Edit→Option Bool)} {Ye:(S_api_Edit→Int→Option Bool)} {Z5:((List S_api_KidEdit)→Int→Option Bool)} {Z8:(S_api_Edit→Int→Option Bool)} {Z9:(Int→S_api_Op→Int→Option Bool)} {Z4:(Bool→Bool→Bool→S_api_Op→Option Bool)} (Qw:∀ {a0:S_api_Edit} {r:Bool} {O:Objs} {n:Nat},Yh a0=some r→GTo Try.prog 24 [.agg (Ze a0)] O n (.val (.bool r)) O n) (Jn:∀ {a0:S_api_Edit} {a1:Int} {r:Bool} {O:Objs} {n:Nat},Ye a0 a1=some r→GTo Try.prog 59 [.agg (Ze a0),.val (.int .i64 a1)] O n (.val (.bool r)) O n) (Jm:∀ {a0:(List S_api_KidEdit)} {a1:Int} {r:Bool} {O:Objs} {n:Nat},Z5 a0 a1=some r→GTo Try.prog 100 [.sl a0.length (fl Zh a0),.val (.int .i64 a1)] O n (.val (.bool r)) O n) (J8:∀ {a0:S_api_Edit} {a1:Int} {r:Bool} {O:Objs} {n:Nat},Z8 a0 a1=some r→GTo Try.prog 101 [.agg (Ze a0),.val (.int .i64 a1)] O n (.val (.bool r)) O n) (Kx:∀ {a0:Int} {a1:S_api_Op} {a2:Int} {r:Bool} {O:Objs} {n:Nat},Z9 a0 a1 a2=some r→GTo Try.prog 124 [.val (.int .i64 a0),.agg (Z3 a1),.val (.int .i64 a2)] O n (.val (.bool r)) O n) (Y0:∀ {a0:Bool} {a1:Bool} {a2:Bool} {a3:S_api_Op} {r:Bool} {O:Objs} {n:Nat},Z4 a0 a1 a2 a3=some r→GTo Try.prog 131 [.val (.bool a0),.val (.bool a1),.val (.bool a2),.ip (Z3 a3) 0] O n (.val (.bool r)) O n) {a0:Bool} {a1:Bool} {a2:Bool} {a3:S_api_Op} {r:Bool} {O:Objs} {n:Nat} (h:U2 Yh Ye Z5 Z8 Z9 Z4 a0 a1 a2 a3=some r):GTo Try.prog 131 [.val (.bool a0),.val (.bool a1),.val (.bool a2),.ip (Z3 a3) 0] O n (.val (.bool r)) O n:=by
 unfold U2 at h
 refine Y3 Zd Try.call131 Try.func131 rfl (Nat.le_of_ble_eq_true rfl) (Nat.le_refl _) fun hU => ?_
 have hN0:O n=none:=hU.fresh _ (Nat.le_refl _)
 have hN:∀ k,O (n+k)=none:=fun k=>hU.fresh _ (Nat.le_add_right _ _)
 show W _ _ _ _ ⟨41,[],[(0,.val (.bool a0)),(1,.val (.bool a1)),(2,.val (.bool a2)),(3,.ip (Z3 a3) 0)]⟩ (Zv O n []) _
 refine Zq [0,1,2,3] (Zc Zd [] ?_)
 simp only [push_cast,seval,↓reduceIte,Za,hN0,hN]
 obtain ⟨z5,hz5,h⟩:=bC h
 refine Yl (E':=⟨41,[],[(7,.val (.bool z5))]⟩) (O':=(Zv O n [])) (n0:=n) ?_ ?_
 ·rcases Bool.eq_false_or_eq_true a0 with c14 | c14
  ·replace hz5:=Zs c14 hz5
   rcases Bool.eq_false_or_eq_true (a3.N != 0) with c15 | c15
   ·replace hz5:=Zs c15 hz5
    try rw [c15] at c14
    refine Zc Zd [none,none,none,none,none,none,none,none,none,none,none,some false,some false,some false,some false,some false,some false,some false,some false,some false,some false,some false,some false,some false,some false] ?_
    simp only [push_cast,seval,↓reduceIte,Za,c14,c15,hN0,hN]
    repeat (with_reducible refine And.intro (by first | (intro h0;simp only [h0,and_self];done) | (intro h0;simp only [h0,Bool.not_false,Bool.not_true,Bool.true_and,Bool.and_true,true_and,and_true,and_self,imp_self,implies_true,bne_iff_ne,ne_eq,beq_iff_eq];done) | (intros;simp_all;done) | exact True.intro) ?_)
    have hz5:=Option.some.inj hz5;subst hz5
    refine And.intro rfl (Fit2.of (Zj hU rfl rfl ?_) (by omega))
    simp only [push_cast,seval,↓reduceIte,Za,c14,c15,hN0,hN]
   replace hz5:=Zr c15 hz5
   try rw [c15] at c14
   rcases Bool.eq_false_or_eq_true a1 with c16 | c16
   ·replace hz5:=Zs c16 hz5
    try rw [c16] at c14
    try rw [c16] at c15
    rcases Bool.eq_false_or_eq_true (decide (0 < (a3.L.length:Int))) with c17 | c17
    ·replace hz5:=Zs c17 hz5
     try rw [c17] at c14
     try rw [c17] at c15
     try rw [c17] at c16
     refine Zc Zd [none,none,none,none,none,none,none,none,none,none,none,some false,some false,some false,some false,some false,some false,some false,some false,some false,some false,some false,some false,some false,some false] ?_
     simp only [push_cast,seval,↓reduceIte,Za,c14,c15,c16,c17,hN0,hN]
     repeat (with_reducible refine And.intro (by first | (intro h0;simp only [h0,and_self];done) | (intro h0;simp only [h0,Bool.not_false,Bool.not_true,Bool.true_and,Bool.and_true,true_and,and_true,and_self,imp_self,implies_true,bne_iff_ne,ne_eq,beq_iff_eq];done) | (intros;simp_all;done) | exact True.intro) ?_)
     have hz5:=Option.some.inj hz5;subst hz5
     refine And.intro rfl (Fit2.of (Zj hU rfl rfl ?_) (by omega))
     simp only [push_cast,seval,↓reduceIte,Za,c14,c15,c16,c17,hN0,hN]
    replace hz5:=Zr c17 hz5
    try rw [c17] at c14
    try rw [c17] at c15
    try rw [c17] at c16
    rcases Bool.eq_false_or_eq_true a2 with c18 | c18
    ·replace hz5:=Zs c18 hz5
     try rw [c18] at c14
     try rw [c18] at c15
     try rw [c18] at c16
     try rw [c18] at c17
     rcases Bool.eq_false_or_eq_true (a3.E.Kind != 0) with c19 | c19
     ·replace hz5:=Zs c19 hz5
      try rw [c19] at c14
      try rw [c19] at c15
      try rw [c19] at c16
      try rw [c19] at c17
      try rw [c19] at c18
      refine Zc Zd [none,none,none,none,none,none,none,none,none,none,none,some true,some true,some true,some true,some true,some true,some true,some false,some false,some false,some false,some true,some true,some true] ?_
      simp only [push_cast,seval,↓reduceIte,Za,c14,c15,c16,c17,c18,c19,hN0,hN]
      repeat (with_reducible refine And.intro (by first | (intro h0;simp only [h0,and_self];done) | (intro h0;simp only [h0,Bool.not_false,Bool.not_true,Bool.true_and,Bool.and_true,true_and,and_true,and_self,imp_self,implies_true,bne_iff_ne,ne_eq,beq_iff_eq];done) | (intros;simp_all;done) | exact True.intro) ?_)
      have hz5:=Option.some.inj hz5;subst hz5
      refine And.intro rfl (Fit2.of (Zj hU rfl rfl ?_) (by omega))
      simp only [push_cast,seval,↓reduceIte,Za,c14,c15,c16,c17,c18,c19,hN0,hN]
     replace hz5:=Zr c19 hz5
     try rw [c19] at c14
     try rw [c19] at c15
     try rw [c19] at c16
     try rw [c19] at c17
     try rw [c19] at c18
     obtain ⟨y10,hy10,hz5⟩:=bC hz5
     refine Zc Zd [none,none,none,none,none,none,none,none,none,none,none,some true,some true,some true,some true,some true,some true,some true,some true,some true,some true,some true,some true,some true,some true] ?_
     simp only [push_cast,seval,↓reduceIte,Za,c14,c15,c16,c17,c18,c19,hN0,hN]
     repeat (with_reducible refine And.intro (by first | (intro h0;simp only [h0,and_self];done) | (intro h0;simp only [h0,Bool.not_false,Bool.not_true,Bool.true_and,Bool.and_true,true_and,and_true,and_self,imp_self,implies_true,bne_iff_ne,ne_eq,beq_iff_eq];done) | (intros;simp_all;done) | exact True.intro) ?_)
     refine (Qw hy10).then ?_
     simp only [push_cast,seval,↓reduceIte,Za,c14,c15,c16,c17,c18,c19,hN0,hN]
     repeat (with_reducible refine And.intro (by first | (intro h0;simp only [h0,and_self];done) | (intro h0;simp only [h0,Bool.not_false,Bool.not_true,Bool.true_and,Bool.and_true,true_and,and_true,and_self,imp_self,implies_true,bne_iff_ne,ne_eq,beq_iff_eq];done) | (intros;simp_all;done) | exact True.intro) ?_)
     have hz5:=Option.some.inj hz5;subst hz5
     refine And.intro rfl (Fit2.of (Zj hU rfl rfl ?_) (by omega))
     simp only [push_cast,seval,↓reduceIte,Za,c14,c15,c16,c17,c18,c19,hN0,hN]
    replace hz5:=Zr c18 hz5
    try rw [c18] at c14
    try rw [c18] at c15
    try rw [c18] at c16
    try rw [c18] at c17
    refine Zc Zd [none,none,none,none,none,none,none,none,none,none,none,some true,some true,some false,some false,some false,some false,some false,some false,some false,some false,some false,some false,some true,some true] ?_
    simp only [push_cast,seval,↓reduceIte,Za,c14,c15,c16,c17,c18,hN0,hN]
    repeat (with_reducible refine And.intro (by first | (intro h0;simp only [h0,and_self];done) | (intro h0;simp only [h0,Bool.not_false,Bool.not_true,Bool.true_and,Bool.and_true,true_and,and_true,and_self,imp_self,implies_true,bne_iff_ne,ne_eq,beq_iff_eq];done) | (intros;simp_all;done) | exact True.intro) ?_)
    have hz5:=Option.some.inj hz5;subst hz5
    refine And.intro rfl (Fit2.of (Zj hU rfl rfl ?_) (by omega))
    simp only [push_cast,seval,↓reduceIte,Za,c14,c15,c16,c17,c18,hN0,hN]
   replace hz5:=Zr c16 hz5
   try rw [c16] at c14
   try rw [c16] at c15
   rcases Bool.eq_false_or_eq_true a2 with c20 | c20
   ·replace hz5:=Zs c20 hz5
    try rw [c20] at c14
    try rw [c20] at c15
    try rw [c20] at c16
    rcases Bool.eq_false_or_eq_true (a3.E.Kind != 0) with c21 | c21
    ·replace hz5:=Zs c21 hz5
     try rw [c21] at c14
     try rw [c21] at c15
     try rw [c21] at c16
     try rw [c21] at c20
     refine Zc Zd [none,none,none,none,none,none,none,none,none,none,none,some true,some true,some true,some true,some true,some true,some true,some false,some false,some false,some false,some true,some true,some true] ?_
     simp only [push_cast,seval,↓reduceIte,Za,c14,c15,c16,c20,c21,hN0,hN]
     repeat (with_reducible refine And.intro (by first | (intro h0;simp only [h0,and_self];done) | (intro h0;simp only [h0,Bool.not_false,Bool.not_true,Bool.true_and,Bool.and_true,true_and,and_true,and_self,imp_self,implies_true,bne_iff_ne,ne_eq,beq_iff_eq];done) | (intros;simp_all;done) | exact True.intro) ?_)
     have hz5:=Option.some.inj hz5;subst hz5
     refine And.intro rfl (Fit2.of (Zj hU rfl rfl ?_) (by omega))
     simp only [push_cast,seval,↓reduceIte,Za,c14,c15,c16,c20,c21,hN0,hN]
    replace hz5:=Zr c21 hz5
    try rw [c21] at c14
    try rw [c21] at c15
    try rw [c21] at c16
    try rw [c21] at c20
    obtain ⟨y11,hy11,hz5⟩:=bC hz5
    refine Zc Zd [none,none,none,none,none,none,none,none,none,none,none,some true,some true,some true,some true,some true,some true,some true,some true,some true,some true,some true,some true,some true,some true] ?_
    simp only [push_cast,seval,↓reduceIte,Za,c14,c15,c16,c20,c21,hN0,hN]
    repeat (with_reducible refine And.intro (by first | (intro h0;simp only [h0,and_self];done) | (intro h0;simp only [h0,Bool.not_false,Bool.not_true,Bool.true_and,Bool.and_true,true_and,and_true,and_self,imp_self,implies_true,bne_iff_ne,ne_eq,beq_iff_eq];done) | (intros;simp_all;done) | exact True.intro) ?_)
    refine (Qw hy11).then ?_
    simp only [push_cast,seval,↓reduceIte,Za,c14,c15,c16,c20,c21,hN0,hN]
    repeat (with_reducible refine And.intro (by first | (intro h0;simp only [h0,and_self];done) | (intro h0;simp only [h0,Bool.not_false,Bool.not_true,Bool.true_and,Bool.and_true,true_and,and_true,and_self,imp_self,implies_true,bne_iff_ne,ne_eq,beq_iff_eq];done) | (intros;simp_all;done) | exact True.intro) ?_)
    have hz5:=Option.some.inj hz5;subst hz5
    refine And.intro rfl (Fit2.of (Zj hU rfl rfl ?_) (by omega))
    simp only [push_cast,seval,↓reduceIte,Za,c14,c15,c16,c20,c21,hN0,hN]
   replace hz5:=Zr c20 hz5
   try rw [c20] at c14
   try rw [c20] at c15
   try rw [c20] at c16
   refine Zc Zd [none,none,none,none,none,none,none,none,none,none,none,some true,some true,some false,some false,some false,some false,some false,some false,some false,some false,some false,some false,some true,some true] ?_
   simp only [push_cast,seval,↓reduceIte,Za,c14,c15,c16,c20,hN0,hN]
   repeat (with_reducible refine And.intro (by first | (intro h0;simp only [h0,and_self];done) | (intro h0;simp only [h0,Bool.not_false,Bool.not_true,Bool.true_and,Bool.and_true,true_and,and_true,and_self,imp_self,implies_true,bne_iff_ne,ne_eq,beq_iff_eq];done) | (intros;simp_all;done) | exact True.intro) ?_)
   have hz5:=Option.some.inj hz5;subst hz5
   refine And.intro rfl (Fit2.of (Zj hU rfl rfl ?_) (by omega))
   simp only [push_cast,seval,↓reduceIte,Za,c14,c15,c16,c20,hN0,hN]
  replace hz5:=Zr c14 hz5
  rcases Bool.eq_false_or_eq_true a1 with c22 | c22
  ·replace hz5:=Zs c22 hz5
   try rw [c22] at c14
   rcases Bool.eq_false_or_eq_true (decide (0 < (a3.L.length:Int))) with c23 | c23
   ·replace hz5:=Zs c23 hz5
    try rw [c23] at c14
    try rw [c23] at c22
    refine Zc Zd [none,none,none,none,none,none,none,none,none,none,none,some false,some false,some false,some false,some false,some false,some false,some false,some false,some false,some false,some false,some false,some false] ?_
    simp only [push_cast,seval,↓reduceIte,Za,c14,c22,c23,hN0,hN]
    repeat (with_reducible refine And.intro (by first | (intro h0;simp only [h0,and_self];done) | (intro h0;simp only [h0,Bool.not_false,Bool.not_true,Bool.true_and,Bool.and_true,true_and,and_true,and_self,imp_self,implies_true,bne_iff_ne,ne_eq,beq_iff_eq];done) | (intros;simp_all;done) | exact True.intro) ?_)
    have hz5:=Option.some.inj hz5;subst hz5
    refine And.intro rfl (Fit2.of (Zj hU rfl rfl ?_) (by omega))
    simp only [push_cast,seval,↓reduceIte,Za,c14,c22,c23,hN0,hN]
   replace hz5:=Zr c23 hz5
   try rw [c23] at c14
   try rw [c23] at c22
   rcases Bool.eq_false_or_eq_true a2 with c24 | c24
   ·replace hz5:=Zs c24 hz5
    try rw [c24] at c14
    try rw [c24] at c22
    try rw [c24] at c23
    rcases Bool.eq_false_or_eq_true (a3.E.Kind != 0) with c25 | c25
    ·replace hz5:=Zs c25 hz5
     try rw [c25] at c14
     try rw [c25] at c22
     try rw [c25] at c23
     try rw [c25] at c24
     refine Zc Zd [none,none,none,none,none,none,none,none,none,none,none,some true,some true,some true,some true,some true,some true,some true,some false,some false,some false,some false,some true,some true,some true] ?_
     simp only [push_cast,seval,↓reduceIte,Za,c14,c22,c23,c24,c25,hN0,hN]
     repeat (with_reducible refine And.intro (by first | (intro h0;simp only [h0,and_self];done) | (intro h0;simp only [h0,Bool.not_false,Bool.not_true,Bool.true_and,Bool.and_true,true_and,and_true,and_self,imp_self,implies_true,bne_iff_ne,ne_eq,beq_iff_eq];done) | (intros;simp_all;done) | exact True.intro) ?_)
     have hz5:=Option.some.inj hz5;subst hz5
     refine And.intro rfl (Fit2.of (Zj hU rfl rfl ?_) (by omega))
     simp only [push_cast,seval,↓reduceIte,Za,c14,c22,c23,c24,c25,hN0,hN]
    replace hz5:=Zr c25 hz5
    try rw [c25] at c14
    try rw [c25] at c22
    try rw [c25] at c23
    try rw [c25] at c24
    obtain ⟨y12,hy12,hz5⟩:=bC hz5
    refine Zc Zd [none,none,none,none,none,none,none,none,none,none,none,some true,some true,some true,some true,some true,some true,some true,some true,some true,some true,some true,some true,some true,some true] ?_
    simp only [push_cast,seval,↓reduceIte,Za,c14,c22,c23,c24,c25,hN0,hN]
    repeat (with_reducible refine And.intro (by first | (intro h0;simp only [h0,and_self];done) | (intro h0;simp only [h0,Bool.not_false,Bool.not_true,Bool.true_and,Bool.and_true,true_and,and_true,and_self,imp_self,implies_true,bne_iff_ne,ne_eq,beq_iff_eq];done) | (intros;simp_all;done) | exact True.intro) ?_)
    refine (Qw hy12).then ?_
    simp only [push_cast,seval,↓reduceIte,Za,c14,c22,c23,c24,c25,hN0,hN]
    repeat (with_reducible refine And.intro (by first | (intro h0;simp only [h0,and_self];done) | (intro h0;simp only [h0,Bool.not_false,Bool.not_true,Bool.true_and,Bool.and_true,true_and,and_true,and_self,imp_self,implies_true,bne_iff_ne,ne_eq,beq_iff_eq];done) | (intros;simp_all;done) | exact True.intro) ?_)
    have hz5:=Option.some.inj hz5;subst hz5
    refine And.intro rfl (Fit2.of (Zj hU rfl rfl ?_) (by omega))
    simp only [push_cast,seval,↓reduceIte,Za,c14,c22,c23,c24,c25,hN0,hN]
   replace hz5:=Zr c24 hz5
   try rw [c24] at c14
   try rw [c24] at c22
   try rw [c24] at c23
   refine Zc Zd [none,none,none,none,none,none,none,none,none,none,none,some true,some true,some false,some false,some false,some false,some false,some false,some false,some false,some false,some false,some true,some true] ?_
   simp only [push_cast,seval,↓reduceIte,Za,c14,c22,c23,c24,hN0,hN]
   repeat (with_reducible refine And.intro (by first | (intro h0;simp only [h0,and_self];done) | (intro h0;simp only [h0,Bool.not_false,Bool.not_true,Bool.true_and,Bool.and_true,true_and,and_true,and_self,imp_self,implies_true,bne_iff_ne,ne_eq,beq_iff_eq];done) | (intros;simp_all;done) | exact True.intro) ?_)
   have hz5:=Option.some.inj hz5;subst hz5
   refine And.intro rfl (Fit2.of (Zj hU rfl rfl ?_) (by omega))
   simp only [push_cast,seval,↓reduceIte,Za,c14,c22,c23,c24,hN0,hN]
  replace hz5:=Zr c22 hz5
  try rw [c22] at c14
  rcases Bool.eq_false_or_eq_true a2 with c26 | c26
  ·replace hz5:=Zs c26 hz5
   try rw [c26] at c14
   try rw [c26] at c22
   rcases Bool.eq_false_or_eq_true (a3.E.Kind != 0) with c27 | c27
   ·replace hz5:=Zs c27 hz5
    try rw [c27] at c14
    try rw [c27] at c22
    try rw [c27] at c26
    refine Zc Zd [none,none,none,none,none,none,none,none,none,none,none,some true,some true,some true,some true,some true,some true,some true,some false,some false,some false,some false,some true,some true,some true] ?_
    simp only [push_cast,seval,↓reduceIte,Za,c14,c22,c26,c27,hN0,hN]
    repeat (with_reducible refine And.intro (by first | (intro h0;simp only [h0,and_self];done) | (intro h0;simp only [h0,Bool.not_false,Bool.not_true,Bool.true_and,Bool.and_true,true_and,and_true,and_self,imp_self,implies_true,bne_iff_ne,ne_eq,beq_iff_eq];done) | (intros;simp_all;done) | exact True.intro) ?_)
    have hz5:=Option.some.inj hz5;subst hz5
    refine And.intro rfl (Fit2.of (Zj hU rfl rfl ?_) (by omega))
    simp only [push_cast,seval,↓reduceIte,Za,c14,c22,c26,c27,hN0,hN]
   replace hz5:=Zr c27 hz5
   try rw [c27] at c14
   try rw [c27] at c22
   try rw [c27] at c26
   obtain ⟨y13,hy13,hz5⟩:=bC hz5
   refine Zc Zd [none,none,none,none,none,none,none,none,none,none,none,some true,some true,some true,some true,some true,some true,some true,some true,some true,some true,some true,some true,some true,some true] ?_
   simp only [push_cast,seval,↓reduceIte,Za,c14,c22,c26,c27,hN0,hN]
   repeat (with_reducible refine And.intro (by first | (intro h0;simp only [h0,and_self];done) | (intro h0;simp only [h0,Bool.not_false,Bool.not_true,Bool.true_and,Bool.and_true,true_and,and_true,and_self,imp_self,implies_true,bne_iff_ne,ne_eq,beq_iff_eq];done) | (intros;simp_all;done) | exact True.intro) ?_)
   refine (Qw hy13).then ?_
   simp only [push_cast,seval,↓reduceIte,Za,c14,c22,c26,c27,hN0,hN]
   repeat (with_reducible refine And.intro (by first | (intro h0;simp only [h0,and_self];done) | (intro h0;simp only [h0,Bool.not_false,Bool.not_true,Bool.true_and,Bool.and_true,true_and,and_true,and_self,imp_self,implies_true,bne_iff_ne,ne_eq,beq_iff_eq];done) | (intros;simp_all;done) | exact True.intro) ?_)
   have hz5:=Option.some.inj hz5;subst hz5
   refine And.intro rfl (Fit2.of (Zj hU rfl rfl ?_) (by omega))
   simp only [push_cast,seval,↓reduceIte,Za,c14,c22,c26,c27,hN0,hN]
  replace hz5:=Zr c26 hz5
  try rw [c26] at c14
  try rw [c26] at c22
  refine Zc Zd [none,none,none,none,none,none,none,none,none,none,none,some true,some true,some false,some false,some false,some false,some false,some false,some false,some false,some false,some false,some true,some true] ?_
  simp only [push_cast,seval,↓reduceIte,Za,c14,c22,c26,hN0,hN]
  repeat (with_reducible refine And.intro (by first | (intro h0;simp only [h0,and_self];done) | (intro h0;simp only [h0,Bool.not_false,Bool.not_true,Bool.true_and,Bool.and_true,true_and,and_true,and_self,imp_self,implies_true,bne_iff_ne,ne_eq,beq_iff_eq];done) | (intros;simp_all;done) | exact True.intro) ?_)
  have hz5:=Option.some.inj hz5;subst hz5
  refine And.intro rfl (Fit2.of (Zj hU rfl rfl ?_) (by omega))
  simp only [push_cast,seval,↓reduceIte,Za,c14,c22,c26,hN0,hN]
 refine Z0 ?_
 try simp only [Zl,Zi]
 have h:=Option.some.inj h;subst h
 refine Zt (.inr rfl) hU [.val (.bool z5)] (by omega) ?_
 simp only [push_cast,seval,↓reduceIte,Za,Try.results131,hN0,hN]
theorem Zm6:∀ k,(∀ {a0:S_api_Edit} {r:Bool} {O:Objs} {n:Nat},(Zn k).1 a0=some r→GTo Try.prog 24 [.agg (Ze a0)] O n (.val (.bool r)) O n)∧(∀ {a0:S_api_Edit} {a1:Int} {r:Bool} {O:Objs} {n:Nat},(Zn k).2.1 a0 a1=some r→GTo Try.prog 59 [.agg (Ze a0),.val (.int .i64 a1)] O n (.val (.bool r)) O n)∧(∀ {a0:(List S_api_KidEdit)} {a1:Int} {r:Bool} {O:Objs} {n:Nat},(Zn k).2.2.1 a0 a1=some r→GTo Try.prog 100 [.sl a0.length (fl Zh a0),.val (.int .i64 a1)] O n (.val (.bool r)) O n)∧(∀ {a0:S_api_Edit} {a1:Int} {r:Bool} {O:Objs} {n:Nat},(Zn k).2.2.2.1 a0 a1=some r→GTo Try.prog 101 [.agg (Ze a0),.val (.int .i64 a1)] O n (.val (.bool r)) O n)∧(∀ {a0:Int} {a1:S_api_Op} {a2:Int} {r:Bool} {O:Objs} {n:Nat},(Zn k).2.2.2.2.1 a0 a1 a2=some r→GTo Try.prog 124 [.val (.int .i64 a0),.agg (Z3 a1),.val (.int .i64 a2)] O n (.val (.bool r)) O n)∧(∀ {a0:Bool} {a1:Bool} {a2:Bool} {a3:S_api_Op} {r:Bool} {O:Objs} {n:Nat},(Zn k).2.2.2.2.2 a0 a1 a2 a3=some r→GTo Try.prog 131 [.val (.bool a0),.val (.bool a1),.val (.bool a2),.ip (Z3 a3) 0] O n (.val (.bool r)) O n):=fun k=>by
 induction k with
 | zero=>exact ⟨@fun a0 r O n h=>(nomatch (show (none:Option _)=some _ from h)),@fun a0 a1 r O n h=>(nomatch (show (none:Option _)=some _ from h)),@fun a0 a1 r O n h=>(nomatch (show (none:Option _)=some _ from h)),@fun a0 a1 r O n h=>(nomatch (show (none:Option _)=some _ from h)),@fun a0 a1 a2 r O n h=>(nomatch (show (none:Option _)=some _ from h)),@fun a0 a1 a2 a3 r O n h=>(nomatch (show (none:Option _)=some _ from h))⟩
 | succ k ih=>exact ⟨@fun a0 r O n h=>Zpy (ih.1) (ih.2.1) (ih.2.2.1) (ih.2.2.2.1) (ih.2.2.2.2.1) (ih.2.2.2.2.2)  h,@fun a0 a1 r O n h=>Zpz (ih.1) (ih.2.1) (ih.2.2.1) (ih.2.2.2.1) (ih.2.2.2.2.1) (ih.2.2.2.2.2)  h,@fun a0 a1 r O n h=>Zkv (ih.1) (ih.2.1) (ih.2.2.1) (ih.2.2.2.1) (ih.2.2.2.2.1) (ih.2.2.2.2.2)  h,@fun a0 a1 r O n h=>Zl1 (ih.1) (ih.2.1) (ih.2.2.1) (ih.2.2.2.1) (ih.2.2.2.2.1) (ih.2.2.2.2.2)  h,@fun a0 a1 a2 r O n h=>Znd (ih.1) (ih.2.1) (ih.2.2.1) (ih.2.2.2.1) (ih.2.2.2.2.1) (ih.2.2.2.2.2)  h,@fun a0 a1 a2 a3 r O n h=>Zkw (ih.1) (ih.2.1) (ih.2.2.1) (ih.2.2.2.1) (ih.2.2.2.2.1) (ih.2.2.2.2.2)  h⟩
theorem Zj7 {a0:S_api_Edit} {r:Bool} {O:Objs} {n:Nat} (h:Zho a0=some r):GTo Try.prog 24 [.agg (Ze a0)] O n (.val (.bool r)) O n:=by
 obtain ⟨k,hk⟩:=Vs h
 exact (Zm6 k).1  hk
theorem Zf5 {a0:S_api_Edit} {r:Bool} {O:Objs} {n:Nat} (h:Kc a0=some r):GTo Try.prog 6 [.agg (Ze a0)] O n (.val (.bool r)) O n:=by
 unfold Kc at h
 refine Y3 Zd Try.call6 Try.func6 rfl (Nat.le_of_ble_eq_true rfl) (Nat.le_refl _) fun hU => ?_
 have hN0:O n=none:=hU.fresh _ (Nat.le_refl _)
 have hN:∀ k,O (n+k)=none:=fun k=>hU.fresh _ (Nat.le_add_right _ _)
 show W _ _ _ _ ⟨21,[],[(0,.agg (Ze a0))]⟩ (Zv O n []) _
 refine Zq [1] (Zc Zd [] ?_)
 simp only [push_cast,seval,↓reduceIte,Za,hN0,hN]
 refine Zm ?_
 refine Zm ?_
 obtain ⟨y2,hy2,h⟩:=bC h
 refine Zc Zd [] ?_
 simp only [push_cast,seval,↓reduceIte,Za,hN0,hN]
 refine (Zkq hy2).then ?_
 simp only [push_cast,seval,↓reduceIte,Za,hN0,hN]
 refine Zk [1,6] [true] ?_
 simp only [push_cast,seval,↓reduceIte]
 refine Zu (t:=(!y2)) rfl (fun c22 => ?_) (fun c22 => ?_)
 ·replace h:=Zs c22 h
  refine Zm ?_
  obtain ⟨y4,hy4,h⟩:=bC h
  refine Zc Zd [] ?_
  simp only [push_cast,seval,↓reduceIte,Za,hN0,hN]
  refine (Ze0 hy4).then ?_
  simp only [push_cast,seval,↓reduceIte,Za,hN0,hN]
  refine Zk [2] [false] ?_
  simp only [push_cast,seval,↓reduceIte]
  refine Z0 ?_
  try simp only [Zl,Zi]
  have h:=Option.some.inj h;subst h
  refine Zt (.inr rfl) hU [.val (.bool y4)] (by omega) ?_
  simp only [push_cast,seval,↓reduceIte,Za,Try.results6,hN0,hN]
 replace h:=Zr c22 h
 refine Zy ?_
 try simp only [Zl,Zi]
 refine Zk [1] [true] ?_
 simp only [push_cast,seval,↓reduceIte]
 refine Zm ?_
 obtain ⟨y6,hy6,h⟩:=bC h
 refine Zc Zd [] ?_
 simp only [push_cast,seval,↓reduceIte,Za,hN0,hN]
 refine (Zir hy6).then ?_
 simp only [push_cast,seval,↓reduceIte,Za,hN0,hN]
 refine Zk [1,3] [true,true] ?_
 simp only [push_cast,seval,↓reduceIte]
 obtain ⟨z11,hz11,h⟩:=bC h
 refine Yl (E':=⟨21,[],[(2,.val (.bool z11))]⟩) (O':=(Zv O n [none,none])) (n0:=(n+2)) ?_ ?_
 ·obtain ⟨y16,hy16,hz11⟩:=bC hz11
  obtain ⟨y17,hy17,hz11⟩:=bC hz11
  rcases Bool.eq_false_or_eq_true y17 with c20 | c20
  ·replace hz11:=Zs c20 hz11
   obtain ⟨y18,hy18,hz11⟩:=bC hz11
   rcases Bool.eq_false_or_eq_true y18 with c21 | c21
   ·replace hz11:=Zs c21 hz11
    try rw [c21] at c20
    obtain ⟨y19,hy19,hz11⟩:=bC hz11
    refine K8 Zd (by kernel_rfl) [some true,some true,some true] (by kernel_rfl) ?_
    simp only [push_cast,seval,↓reduceIte,Za,c20,c21,hN0,hN]
    refine PCall.of (Zcn hy16) ?_
    simp only [push_cast,seval,↓reduceIte,Za,c20,c21,hN0,hN]
    refine PCall.of (Zcm hy17) ?_
    simp only [push_cast,seval,↓reduceIte,Za,c20,c21,hN0,hN]
    refine PCall.of (Zj7 hy18) ?_
    simp only [push_cast,seval,↓reduceIte,Za,c20,c21,hN0,hN]
    refine PCall.of (Ze0 hy19) ?_
    simp only [push_cast,seval,↓reduceIte,Za,c20,c21,hN0,hN]
    have hz11:=Option.some.inj hz11;subst hz11
    refine And.intro rfl (Fit2.of (Zj hU rfl rfl ?_) (by omega))
    simp only [push_cast,seval,↓reduceIte,Za,c20,c21,hN0,hN]
   replace hz11:=Zr c21 hz11
   try rw [c21] at c20
   refine K8 Zd (by kernel_rfl) [some true,some true,some false] (by kernel_rfl) ?_
   simp only [push_cast,seval,↓reduceIte,Za,c20,c21,hN0,hN]
   refine PCall.of (Zcn hy16) ?_
   simp only [push_cast,seval,↓reduceIte,Za,c20,c21,hN0,hN]
   refine PCall.of (Zcm hy17) ?_
   simp only [push_cast,seval,↓reduceIte,Za,c20,c21,hN0,hN]
   refine PCall.of (Zj7 hy18) ?_
   simp only [push_cast,seval,↓reduceIte,Za,c20,c21,hN0,hN]
   have hz11:=Option.some.inj hz11;subst hz11
   refine And.intro rfl (Fit2.of (Zj hU rfl rfl ?_) (by omega))
   simp only [push_cast,seval,↓reduceIte,Za,c20,c21,hN0,hN]
  replace hz11:=Zr c20 hz11
  refine K8 Zd (by kernel_rfl) [some false,some false,some false] (by kernel_rfl) ?_
  simp only [push_cast,seval,↓reduceIte,Za,c20,hN0,hN]
  refine PCall.of (Zcn hy16) ?_
  simp only [push_cast,seval,↓reduceIte,Za,c20,hN0,hN]
  refine PCall.of (Zcm hy17) ?_
  simp only [push_cast,seval,↓reduceIte,Za,c20,hN0,hN]
  have hz11:=Option.some.inj hz11;subst hz11
  refine And.intro rfl (Fit2.of (Zj hU rfl rfl ?_) (by omega))
  simp only [push_cast,seval,↓reduceIte,Za,c20,hN0,hN]
 refine Z0 ?_
 try simp only [Zl,Zi]
 have h:=Option.some.inj h;subst h
 refine Zt (.inr rfl) hU [.val (.bool z11)] (by omega) ?_
 simp only [push_cast,seval,↓reduceIte,Za,Try.results6,hN0,hN]
end Go.Proofs.Ytbcgiaijjaocdaa
