/- Part ZM3 of this seat's mirrors: functions of the seat's program, and the plain functions that they are; each theorem bears its own conditions. -/
import Derived.Test.YtbcgiaijjaocdaaZE
import Derived.Test.YtbcgiaijjaocdaaZM1
namespace Go.Proofs.Ytbcgiaijjaocdaa
open Go.RowKit
set_option linter.unusedVariables false
set_option linter.unusedSimpArgs false
set_option maxRecDepth 100000
set_option maxHeartbeats 1000000
attribute [local push_cast] Ze G0 Z3 Zo Zbr Zs3 Zs2 Zts Ztr Zl Zi Zpi Zkg Zkf onW Xx Zds Zcc Zpj Zpk Zh5 evS wok Qx Op.operands Call.operands gop onK onP atK List.all_cons List.all_nil Bool.and_true Bool.true_and Bool.and_self Value.oneCell' List.take_zero List.take_succ_cons List.take_nil List.drop_zero List.drop_succ_cons List.drop_nil List.append_nil Nat.add_zero Nat.zero_add Uu Yf ev Jd Zff Zw5 Zrm Zrl Zw9 Zio Zeg Zhy Zdx Zm1 Zgj U6 Zki Zkh Zcd Zjh Zce Zke Zik Zs8 bLo bHi bMx Zei Zkd Zw7 Zii Zj4 Zga Za7 Zr6 Zxb Zjf Zxh Zef Z0d Jc Zim gone Zp9 Zk3 Zk2 pop TK.isAgg G.one G.under G.unders List.getD_cons_zero List.getD_cons_succ List.set_cons_zero List.set_cons_succ List.map_cons List.map_nil List.toList_toArray Array.toList_append Option.toArray_none Option.toArray_some Array.toList_map Option.map_some Option.map_none Option.bind_some Option.bind_none List.getElem?_cons_zero List.getElem?_cons_succ List.getElem?_nil List.nil_append List.cons_append List.replicate_succ List.replicate_zero List.length_cons List.length_nil and_true true_and and_false false_and Bool.true_eq_false Bool.false_eq_true forall_const false_implies implies_true IntKind.bits if_true if_false ite_true ite_false eq_self true_implies false_or or_false or_true true_or not_true_eq_false not_false_eq_true decide_true decide_false decide_eq_true_eq decide_eq_false_iff_not beq_iff_eq bne_iff_ne ne_eq Bool.not_eq_true Bool.not_eq_false beq_eq_false_iff_ne bne_eq_false_iff_eq beq_self_eq_true bne_self_eq_false Option.some.injEq exists_eq_left' exists_eq_left ge_iff_le gt_iff_lt decide_not Bool.not_true Bool.not_false imp_self Zxe cond_true cond_false Z5n Z5m Bool.not_not Bool.and_false Bool.false_and Bool.or_true Bool.true_or Bool.or_false Bool.false_or Ke V5 Jo Qs Yv Yj Option.join_some Nat.add_assoc Int.toNat_natCast eI eB eS eL Xg Zjg Zil Zs7 Zs5 Zs6 Z0l Z12 Zjk Zi1 Zt1 Ztz Zt0 Zv8 Zkb Zvn Zmc Zsr Zgw Zst List.length_append G.agg.injEq G.row.injEq G.ref.injEq G.val.injEq G.sl.injEq G.tup.injEq Value.int.injEq Value.bool.injEq Value.string.injEq List.cons.injEq exists_and_left exists_const List.flatten_cons List.flatten_nil Int.le_refl Nat.le_refl Q9 Yr Y2 Bool.not_eq_true' Bool.not_eq_false' Zve Zml Zyv Zyz Zyu Zyy Z35 Z30 List.size_toArray Zof Zqc G.ren G.rens Zrs Zgq Zt4 Zsw Zsx Zqo Zy0 Zfr G.fn.injEq Zrh Zri Zvd Z31 Zrg Zyx Z34 Z33 Zyw Zxi Z1p Option.join_none Ya Ud undef Zj6 Arr.len Arr.put_eq Zjj Znh Zkz Zi0 Zty Ztw Ztx onB Z0k Zr5 Zqj Zor Zos Zot Zou Zov Zow Zm8 Znk Zni Zk1 Zi2 Znj Zp8 Zp7 Zp6 Zp5 Z11 Z4v Zv7 Ztt Vb Zv4 Zoa Znl Zk0 Zxm Zqm Zih Zj3 Ze5 Zma Zox Zoy Zoz Zo0 Zmm Zmn Zmo Zmp Zmq Zmr Zms Zfc prT Zdz Z54 Zyk Zig Zyl Z55 Zym Zwn Zyn Z56 Zyo Z57 Zyp Z58 Zyq Z59 Zyr Z2w Zub Z2x Zuc Z2y Zud Z2z Zue Z20 Zuf Z21 Zug Z22 Zuh Z23 Zui Z24 Zuj Z25 Zuk Z26 Zul Z27 Zmk Zsl Zjp Z28 Zum Zai Zun Z29 Zuo Z3a Zup Z3b Zuq Z3c Zur Zh6 Zus Z3d Zut Z3e Zuu Z3f Zuv Zh7 Zuw Z3g Zux Zmj Zuy Z3h Zuz Z3i Zu0 V2 Zu1 Z3j Zu2 Zhd Zu3 Z3k Zu4 Z3l Zu5 Z3m Zu6 Z3n Zu7 Z3o Zu8 Z3p Zu9 Zwo Zoq Z3q Zva Zxx Zqq Zxy Zqr Zxz Zqs Zx0 Zqt Zx1 Zqu Zx2 Zqv Zx3 Zqw Zx4 Zqx Zx5 Zqy Zx6 Zqz Zx7 Zq0 Zx8 Zq1 Zx9 Zq2 Zya Zq3 Zyb Zq4 Zyc Zq5 Zyd Zq6 Zye Zq7 Zyf Zq8 Zyg Zq9 Zyh Zra Zyi Zrb Zyj Zrc Zb Yo Zlh Zlf Zkm Zky Zlj Zjb Zi6 Zi4 Zlb Zd9 Zd8 Zd0 Zd1 Zea Zdq Zdl Zdk Zd7 Zg Xt Zf Zh Xd Xn Yt Zbn Zbm Za9 Zbf Zbp Zax Zav Zau Zbk Zb1 Zb0 Zbx Zby Zb2 Zbl Zbi Zbh Zbz Zf3 Zf2 Zfj Zfq Zf4 Zex Zev Zeu Zf1 Zny Znx Zm5 Zne Znz Zlc Zk5 Zk4 Znu Z7 Zaz Zay Zap Zat Za0 Gu Gt Gs Zaw Zlg Zle Zkl Zkx Zli Zja Zi5 Zi3 Zla
theorem Zlz {a0:(List Int)} {r:(List Int)} {O:Objs} {n:Nat} (h:Gb a0=some r):GTo Try.prog 88 [.sl a0.length (fl (eI .u64) a0)] O n (.sl r.length (fl (eI .u64) r)) O n:=by
 unfold Gb at h
 refine Y3 Zd Try.call88 Try.func88 rfl (Nat.le_of_ble_eq_true rfl) (Nat.le_refl _) fun hU => ?_
 have hN0:O n=none:=hU.fresh _ (Nat.le_refl _)
 have hN:∀ k,O (n+k)=none:=fun k=>hU.fresh _ (Nat.le_add_right _ _)
 show W _ _ _ _ ⟨22,[],[(0,.sl a0.length (fl (eI .u64) a0))]⟩ (Zv O n []) _
 refine Zq [0] (Zc Zd [] ?_)
 simp only [push_cast,seval,↓reduceIte,Za,hN0,hN]
 refine Zq [0,3] (Zc Zd [] ?_)
 simp only [push_cast,seval,↓reduceIte,Za,hN0,hN]
 refine Zm ?_
 refine Zk [0,3] [] ?_
 simp only [push_cast,seval,↓reduceIte]
 obtain ⟨z7,hz7,h⟩:=bC h
 refine Yb (E':=⟨22,[],[(0,.sl a0.length (fl (eI .u64) a0)),(3,.val (.int .i64 z7))]⟩) (O':=(Zv O n [])) (n0:=n) ?_ ?_
 ·refine Yn hz7 (fun s0_=>⟨22,[],[(0,.sl a0.length (fl (eI .u64) a0)),(3,.val (.int .i64 s0_))]⟩) (fun s0_=>(Zv O n [])) (fun z7=>JX 0 n (⟨22,[],[(0,.sl a0.length (fl (eI .u64) a0)),(3,.val (.int .i64 z7))]⟩:Env) (Zv O n []) n) ?_
  intro s0_ x0_ hs0_
  unfold K7 at hs0_
  try dsimp only
  refine Zm ?_
  obtain ⟨z2,hz2,hs0_⟩:=bC hs0_
  refine Yl (E':=⟨22,[],[(0,.sl a0.length (fl (eI .u64) a0)),(3,.val (.int .i64 s0_)),(15,.val (.bool z2))]⟩) (O':=(Zv O n [])) (n0:=n) ?_ ?_
  ·rcases Bool.eq_false_or_eq_true (decide (0 < s0_)) with c5 | c5
   ·replace hz2:=Zs c5 hz2
    obtain ⟨x4,hx4,ax4,bx4,cx4,hz2⟩:=bE (f:=(eI .u64)) Zh7 (fun _=>rfl) (by decide) hz2
    refine Zc Zd [some true,some true,some true,some true,some true,some true] ?_
    simp only [push_cast,Nat.reduceAdd,Nat.reduceSub,Nat.reduceMul,Nat.reduceLeDiff,Nat.reduceLT,Nat.reduceEqDiff,↓reduceIte,reduceCtorEq,Int.reduceBEq,Int.reduceBNe,Nat.reduceBEq,Int.reduceLE,Int.reduceLT,Int.reduceEq,Int.reduceNe,Int.reduceNeg,Nat.reduceDiv,Nat.reduceMod,Nat.reducePow,Za,c5,ax4,bx4,cx4,hN0,hN]
    have hz2:=Option.some.inj hz2;subst hz2
    refine And.intro rfl (Fit2.of (Zj hU rfl rfl ?_) (by omega))
    simp only [push_cast,Nat.reduceAdd,Nat.reduceSub,Nat.reduceMul,Nat.reduceLeDiff,Nat.reduceLT,Nat.reduceEqDiff,↓reduceIte,reduceCtorEq,Int.reduceBEq,Int.reduceBNe,Nat.reduceBEq,Int.reduceLE,Int.reduceLT,Int.reduceEq,Int.reduceNe,Int.reduceNeg,Nat.reduceDiv,Nat.reduceMod,Nat.reducePow,Za,c5,ax4,bx4,cx4,hN0,hN]
   replace hz2:=Zr c5 hz2
   refine Zc Zd [some false,some false,some false,some false,some false,some false] ?_
   simp only [push_cast,seval,↓reduceIte,Za,c5,hN0,hN]
   have hz2:=Option.some.inj hz2;subst hz2
   refine And.intro rfl (Fit2.of (Zj hU rfl rfl ?_) (by omega))
   simp only [push_cast,seval,↓reduceIte,Za,c5,hN0,hN]
  refine Zu (t:=z2) rfl (fun c6 => ?_) (fun c6 => ?_)
  ·replace hs0_:=Zs c6 hs0_
   refine Zy ?_
   try simp only [Zl,Zi]
   refine Zk [0,3] [] ?_
   simp only [push_cast,seval,↓reduceIte]
   refine Z6 ?_
   refine Zc Zd [] ?_
   simp only [push_cast,seval,↓reduceIte,Za,hN0,hN]
   have hs0_:=Option.some.inj hs0_;subst hs0_
   refine And.intro rfl (Fit2.of (Zj hU rfl rfl ?_) (by omega))
   simp only [push_cast,seval,↓reduceIte,Za,hN0,hN]
  replace hs0_:=Zr c6 hs0_
  refine Yx ?_
  try simp only [Zl,Zi,↓reduceIte,Nat.reduceEqDiff]
  have hs0_:=Option.some.inj hs0_;subst hs0_
  refine And.intro (fun h=>by cases h) (And.intro rfl (Fit2.of (Zj hU rfl rfl ?_) (by omega)))
  simp only [push_cast,seval,↓reduceIte,Za,hN0,hN]
 try simp only [Zl,Zi,↓reduceIte,Nat.reduceEqDiff]
 refine Zk [0,3] [] ?_
 simp only [push_cast,seval,↓reduceIte]
 obtain ⟨l9,al9,bl9,cl9,gl9,h⟩:=bS3 (lo:=none) (hi:=(.i64,z7)) (f:=(eI .u64)) rfl rfl Zmk Zh7 (fun _=>rfl) h
 refine Zq [2] (Zc Zd [] ?_)
 simp only [push_cast,seval,↓reduceIte,Za,al9,bl9,cl9,gl9,hN0,hN]
 refine Z0 ?_
 try simp only [Zl,Zi]
 have h:=Option.some.inj h;subst h
 refine Zt (.inr rfl) hU [.sl l9.length (fl (eI .u64) l9)] (by omega) ?_
 simp only [push_cast,seval,↓reduceIte,Za,Try.results88,hN0,hN]
theorem Znc {a0:(List S_api_Tree)} {r:(List S_api_Tree)} {O:Objs} {n:Nat} (h:Zac a0=some r):GTo Try.prog 89 [.sl a0.length (fl Zb a0)] O n (.sl r.length (fl Zb r)) O n:=by
 unfold Zac at h
 refine Y3 Zd Try.call89 Try.func89 rfl (Nat.le_of_ble_eq_true rfl) (Nat.le_refl _) fun hU => ?_
 have hN0:O n=none:=hU.fresh _ (Nat.le_refl _)
 have hN:∀ k,O (n+k)=none:=fun k=>hU.fresh _ (Nat.le_add_right _ _)
 show W _ _ _ _ ⟨23,[],[(0,.sl a0.length (fl Zb a0))]⟩ (Zv O n []) _
 refine Zq [0] (Zc Zd [] ?_)
 simp only [push_cast,seval,↓reduceIte,Za,hN0,hN]
 refine Zq [0,3] (Zc Zd [] ?_)
 simp only [push_cast,seval,↓reduceIte,Za,hN0,hN]
 refine Zm ?_
 refine Zk [0,3] [] ?_
 simp only [push_cast,seval,↓reduceIte]
 obtain ⟨z10,hz10,h⟩:=bC h
 refine Yb (E':=⟨23,[],[(0,.sl a0.length (fl Zb a0)),(3,.val (.int .i64 z10))]⟩) (O':=(Zv O n [])) (n0:=n) ?_ ?_
 ·refine Yn hz10 (fun s0_=>⟨23,[],[(0,.sl a0.length (fl Zb a0)),(3,.val (.int .i64 s0_))]⟩) (fun s0_=>(Zv O n [])) (fun z10=>JX 0 n (⟨23,[],[(0,.sl a0.length (fl Zb a0)),(3,.val (.int .i64 z10))]⟩:Env) (Zv O n []) n) ?_
  intro s0_ x0_ hs0_
  unfold Vx at hs0_
  try dsimp only
  refine Zm ?_
  obtain ⟨z3,hz3,hs0_⟩:=bC hs0_
  refine Yl (E':=⟨23,[],[(0,.sl a0.length (fl Zb a0)),(3,.val (.int .i64 s0_)),(16,.val (.bool z3))]⟩) (O':=(Zv O n [])) (n0:=n) ?_ ?_
  ·rcases Bool.eq_false_or_eq_true (decide (0 < s0_)) with c8 | c8
   ·replace hz3:=Zs c8 hz3
    obtain ⟨x6,hx6,ax6,bx6,cx6,hz3⟩:=bE (f:=Zb) Zai (fun _=>rfl) (by decide) hz3
    have g7:=K4 (f:=Zb) (sz:=3) Zig (fun _=>rfl) (by decide) (by decide) hx6
    refine Zc Zd [some true,some true,some true,some true,some true,some true,some true] ?_
    simp only [push_cast,Nat.reduceAdd,Nat.reduceSub,Nat.reduceMul,Nat.reduceLeDiff,Nat.reduceLT,Nat.reduceEqDiff,↓reduceIte,reduceCtorEq,Int.reduceBEq,Int.reduceBNe,Nat.reduceBEq,Int.reduceLE,Int.reduceLT,Int.reduceEq,Int.reduceNe,Int.reduceNeg,Nat.reduceDiv,Nat.reduceMod,Nat.reducePow,Za,c8,ax6,bx6,cx6,g7,hN0,hN]
    have hz3:=Option.some.inj hz3;subst hz3
    refine And.intro rfl (Fit2.of (Zj hU rfl rfl ?_) (by omega))
    simp only [push_cast,Nat.reduceAdd,Nat.reduceSub,Nat.reduceMul,Nat.reduceLeDiff,Nat.reduceLT,Nat.reduceEqDiff,↓reduceIte,reduceCtorEq,Int.reduceBEq,Int.reduceBNe,Nat.reduceBEq,Int.reduceLE,Int.reduceLT,Int.reduceEq,Int.reduceNe,Int.reduceNeg,Nat.reduceDiv,Nat.reduceMod,Nat.reducePow,Za,c8,ax6,bx6,cx6,g7,hN0,hN]
   replace hz3:=Zr c8 hz3
   refine Zc Zd [some false,some false,some false,some false,some false,some false,some false] ?_
   simp only [push_cast,seval,↓reduceIte,Za,c8,hN0,hN]
   have hz3:=Option.some.inj hz3;subst hz3
   refine And.intro rfl (Fit2.of (Zj hU rfl rfl ?_) (by omega))
   simp only [push_cast,seval,↓reduceIte,Za,c8,hN0,hN]
  refine Zu (t:=z3) rfl (fun c9 => ?_) (fun c9 => ?_)
  ·replace hs0_:=Zs c9 hs0_
   refine Zy ?_
   try simp only [Zl,Zi]
   refine Zk [0,3] [] ?_
   simp only [push_cast,seval,↓reduceIte]
   refine Z6 ?_
   refine Zc Zd [] ?_
   simp only [push_cast,seval,↓reduceIte,Za,hN0,hN]
   have hs0_:=Option.some.inj hs0_;subst hs0_
   refine And.intro rfl (Fit2.of (Zj hU rfl rfl ?_) (by omega))
   simp only [push_cast,seval,↓reduceIte,Za,hN0,hN]
  replace hs0_:=Zr c9 hs0_
  refine Yx ?_
  try simp only [Zl,Zi,↓reduceIte,Nat.reduceEqDiff]
  have hs0_:=Option.some.inj hs0_;subst hs0_
  refine And.intro (fun h=>by cases h) (And.intro rfl (Fit2.of (Zj hU rfl rfl ?_) (by omega)))
  simp only [push_cast,seval,↓reduceIte,Za,hN0,hN]
 try simp only [Zl,Zi,↓reduceIte,Nat.reduceEqDiff]
 refine Zk [0,3] [] ?_
 simp only [push_cast,seval,↓reduceIte]
 obtain ⟨l12,al12,bl12,cl12,gl12,h⟩:=bS3 (lo:=none) (hi:=(.i64,z10)) (f:=Zb) rfl rfl Zjp Zai (fun _=>rfl) h
 refine Zq [2] (Zc Zd [] ?_)
 simp only [push_cast,seval,↓reduceIte,Za,al12,bl12,cl12,gl12,hN0,hN]
 refine Z0 ?_
 try simp only [Zl,Zi]
 have h:=Option.some.inj h;subst h
 refine Zt (.inr rfl) hU [.sl l12.length (fl Zb l12)] (by omega) ?_
 simp only [push_cast,seval,↓reduceIte,Za,Try.results89,hN0,hN]
theorem Zrr {Zcv:(S_api_Tree→Option S_api_Tree)} (Zpx:∀ {a0:S_api_Tree} {r:S_api_Tree} {O:Objs} {n:Nat},Zcv a0=some r→GTo Try.prog 53 [.agg (Zo a0)] O n (.agg (Zo r)) O n) {a0:S_api_Tree} {r:S_api_Tree} {O:Objs} {n:Nat} (h:Zee Zcv a0=some r):GTo Try.prog 53 [.agg (Zo a0)] O n (.agg (Zo r)) O n:=by
 unfold Zee at h
 refine Y3 Zd Try.call53 Try.func53 rfl (Nat.le_of_ble_eq_true rfl) (Nat.le_refl _) fun hU => ?_
 have hN0:O n=none:=hU.fresh _ (Nat.le_refl _)
 have hN:∀ k,O (n+k)=none:=fun k=>hU.fresh _ (Nat.le_add_right _ _)
 show W _ _ _ _ ⟨49,[],[(0,.agg (Zo a0))]⟩ (Zv O n []) _
 refine Zq [1,2] (Zc Zd [] ?_)
 simp only [push_cast,seval,↓reduceIte,Za,hN0,hN]
 refine Zm ?_
 refine Zq [1,2,10] (Zc Zd [] ?_)
 simp only [push_cast,seval,↓reduceIte,Za,hN0,hN]
 refine Zu (t:=(a0.Kind == 0)) rfl (fun c15 => ?_) (fun c15 => ?_)
 ·replace h:=Zs c15 h
  refine Zm ?_
  refine Zc Zd [] ?_
  simp only [push_cast,seval,↓reduceIte,Za,hN0,hN]
  refine Zk [2] [false,true] ?_
  simp only [push_cast,seval,↓reduceIte]
  refine Z0 ?_
  try simp only [Zl,Zi]
  have h:=Option.some.inj h;subst h
  refine Zt (.inr rfl) hU [.agg [.val (.int .i64 0),.val (.slice none 0 0),.val (.slice none 0 0)]] (by omega) ?_
  simp only [push_cast,seval,↓reduceIte,Za,Try.results53,hN0,hN]
 replace h:=Zr c15 h
 refine Zy ?_
 try simp only [Zl,Zi]
 refine Zk [1,2] [true,true] ?_
 simp only [push_cast,seval,↓reduceIte]
 refine Zq [1,2,3,4] (K8 Zd (by kernel_rfl) [] (by kernel_rfl) ?_)
 simp only [push_cast,seval,↓reduceIte,Za,hN0,hN]
 obtain ⟨z1,hz1,h⟩:=bC h
 refine Yl (E':=⟨49,[],[(1,.ref n 0),(2,.ref (n+1) 0),(3,.sl z1.1.length (fl (eI .u64) z1.1)),(4,.sl z1.2.length (fl Zb z1.2))]⟩) (O':=(Zv O n [some ⟨false,25,3,1,(Zo a0)⟩,some ⟨false,25,3,1,[.val (.int .i64 0),.val (.slice none 0 0),.val (.slice none 0 0)]⟩])) (n0:=(n+2)) ?_ ?_
 ·refine Zq [1,2,3,4,18] (Zc Zd [] ?_)
  simp only [push_cast,seval,↓reduceIte,Za,hN0,hN]
  refine Zu (t:=(a0.Kind == 1)) rfl (fun c4 => ?_) (fun c4 => ?_)
  ·replace hz1:=Zs c4 hz1
   obtain ⟨y2,hy2,hz1⟩:=bC hz1
   obtain ⟨y3,hy3,hz1⟩:=bC hz1
   refine Zc Zd [] ?_
   simp only [push_cast,seval,↓reduceIte,Za,hN0,hN]
   refine (Zlz hy2).then ?_
   simp only [push_cast,seval,↓reduceIte,Za,hN0,hN]
   refine (Znc hy3).then ?_
   simp only [push_cast,seval,↓reduceIte,Za,hN0,hN]
   have hz1:=Option.some.inj hz1;subst hz1
   refine And.intro rfl (Fit2.of (Zj hU rfl rfl ?_) (by omega))
   simp only [push_cast,seval,↓reduceIte,Za,hN0,hN]
  replace hz1:=Zr c4 hz1
  refine Zy ?_
  try simp only [Zl,Zi]
  have hz1:=Option.some.inj hz1;subst hz1
  refine And.intro rfl (Fit2.of (Zj hU rfl rfl ?_) (by omega))
  simp only [push_cast,seval,↓reduceIte,Za,hN0,hN]
 refine Zm ?_
 refine Zc Zd [] ?_
 simp only [push_cast,seval,↓reduceIte,Za,hN0,hN]
 refine Zk [2,4,5] [false,true,true] ?_
 simp only [push_cast,seval,↓reduceIte]
 obtain ⟨z5,hz5,h⟩:=bC h
 refine Yl (E':=⟨49,[],[(2,.ref (n+1) 0),(4,.sl z1.2.length (fl Zb z1.2)),(5,.ref (n+2) 0)]⟩) (O':=(Zv O n [none,some ⟨false,25,3,1,[.val (.int .i64 0),.val (.slice none 0 0),.val (.slice none 0 0)]⟩,some ⟨false,25,3,1,[.val (.int .i64 a0.Kind),.sl z1.1.length (fl (eI .u64) z1.1),.row (n+4) z5.length]⟩,none,some ⟨true,25,3,z5.length,fl Zb z5⟩,none])) (n0:=(n+6)) ?_ ?_
 ·refine Zq [2,4,5,29] (Zc Zd [] ?_)
  simp only [push_cast,seval,↓reduceIte,Za,hN0,hN]
  refine Zu (t:=(decide (0 < (z1.2.length:Int)))) rfl (fun c7 => ?_) (fun c7 => ?_)
  ·replace hz5:=Zs c7 hz5
   obtain ⟨l6,al6,bl6,cl6,el6,hz5⟩:=bM2 (c:=56) rfl hz5
   have nl6:Int.toNat (z1.2.length:Int)=List.length l6:=by rw [el6,List.length_replicate]
   have fl6:∀ O O' n,wkl O O' n (List.replicate (List.length l6) [.val (.int .i64 0),.val (.slice none 0 0),.val (.slice none 0 0)]).flatten (fl Zb l6)=True:=fun O O' n=>by rw [← nl6,el6];exact eq_true (Zwv (by simp only [push_cast,seval,↓reduceIte,Za]) _)
   clear el6
   refine Zc Zd [] ?_
   simp only [push_cast,seval,↓reduceIte,Za,al6,bl6,cl6,fl6,nl6,hN0,hN]
   have hz5:=Option.some.inj hz5;subst hz5
   refine And.intro rfl ?_
   refine Fit2.trans (E':=(⟨49,[],[(2,.ref (n+1) 0),(4,.sl z1.2.length (fl Zb z1.2)),(5,.ref (n+2) 0)]⟩:Env)) (O':=(Zv O n [none,some ⟨false,25,3,1,[.val (.int .i64 0),.val (.slice none 0 0),.val (.slice none 0 0)]⟩,some ⟨false,25,3,1,[.val (.int .i64 a0.Kind),.sl z1.1.length (fl (eI .u64) z1.1),.row (n+3) l6.length]⟩,some ⟨true,25,3,l6.length,fl Zb l6⟩])) (n':=(n+4)) (Fit2.of (Zj hU rfl rfl ?_) (by omega)) ?_
   ·simp only [push_cast,seval,↓reduceIte,Za,al6,bl6,cl6,fl6,nl6,hN0,hN]
   refine Jr (k:=4) (k':=6) hU [5,1,2,4] [0,1,2,0,3,0] rfl rfl rfl rfl ⟨rfl,rfl⟩ ?_
   simp only [push_cast,seval,↓reduceIte,Za,hN0,hN]
  replace hz5:=Zr c7 hz5
  refine Zy ?_
  try simp only [Zl,Zi]
  have hz5:=Option.some.inj hz5;subst hz5
  refine And.intro rfl ?_
  refine Fit2.trans (E':=(⟨49,[],[(2,.ref (n+1) 0),(4,.sl z1.2.length (fl Zb z1.2)),(5,.ref (n+2) 0)]⟩:Env)) (O':=(Zv O n [none,some ⟨false,25,3,1,[.val (.int .i64 0),.val (.slice none 0 0),.val (.slice none 0 0)]⟩,some ⟨false,25,3,1,[.val (.int .i64 a0.Kind),.sl z1.1.length (fl (eI .u64) z1.1),.val (.slice none 0 0)]⟩])) (n':=(n+3)) (Fit2.of (Zj hU rfl rfl ?_) (by omega)) ?_
  ·simp only [push_cast,seval,↓reduceIte,Za,hN0,hN]
  refine Fit2.trans (E':=(⟨49,[],[(2,.ref (n+1) 0),(4,.sl z1.2.length (fl Zb z1.2)),(5,.ref (n+2) 0)]⟩:Env)) (O':=(Zv O n [none,some ⟨false,25,3,1,[.val (.int .i64 0),.val (.slice none 0 0),.val (.slice none 0 0)]⟩,some ⟨false,25,3,1,[.val (.int .i64 a0.Kind),.sl z1.1.length (fl (eI .u64) z1.1),.row (n+3) 0]⟩,some ⟨true,25,3,0,[]⟩])) (n':=(n+4)) ?_ ?_
  ·have ha:=Ji (ba:=n) (E:=(⟨49,[],[(2,.ref (n+1) 0),(4,.sl z1.2.length (fl Zb z1.2)),(5,.ref (n+2) 0)]⟩:Env)) (O:=(Zv O n [none,some ⟨false,25,3,1,[.val (.int .i64 0),.val (.slice none 0 0),.val (.slice none 0 0)]⟩,some ⟨false,25,3,1,[.val (.int .i64 a0.Kind),.sl z1.1.length (fl (eI .u64) z1.1),.val (.slice none 0 0)]⟩])) (n:=(n+3)) (p:=(n+2)) (k:=2) (q:=⟨false,25,3,1,[.val (.int .i64 a0.Kind),.sl z1.1.length (fl (eI .u64) z1.1),.val (.slice none 0 0)]⟩) 25 3 (by simp only [Ke,V5,List.getElem?_cons_zero,List.getElem?_cons_succ,Option.join_some,Ya]) rfl (by omega)
   simp only [Yv,Yj,Jo,Qs,List.set_cons_zero,List.set_cons_succ,List.cons_append,List.nil_append,List.length_cons,List.length_nil,Nat.zero_add,Nat.reduceAdd,Nat.reduceLT,Nat.add_assoc] at ha
   exact ha
  refine Fit2.trans (E':=(⟨49,[],[(2,.ref (n+1) 0),(4,.sl z1.2.length (fl Zb z1.2)),(5,.ref (n+2) 0)]⟩:Env)) (O':=(Zv O n [none,some ⟨false,25,3,1,[.val (.int .i64 0),.val (.slice none 0 0),.val (.slice none 0 0)]⟩,some ⟨false,25,3,1,[.val (.int .i64 a0.Kind),.sl z1.1.length (fl (eI .u64) z1.1),.row (n+3) ([]:List S_api_Tree).length]⟩,some ⟨true,25,3,([]:List S_api_Tree).length,fl Zb ([]:List S_api_Tree)⟩])) (n':=(n+4)) (Fit2.of (Zj hU rfl rfl ?_) (by omega)) ?_
  ·simp only [push_cast,seval,↓reduceIte,Za,hN0,hN]
  refine Jr (k:=4) (k':=6) hU [5,1,2,4] [0,1,2,0,3,0] rfl rfl rfl rfl ⟨rfl,rfl⟩ ?_
  simp only [push_cast,seval,↓reduceIte,Za,hN0,hN]
 refine Zm ?_
 refine Zq [2,5,34,35,36] (Zc Zd [] ?_)
 simp only [push_cast,seval,↓reduceIte,Za,hN0,hN]
 refine Zk [2,5,34,35,36] [false,true,true,false,true,false] ?_
 simp only [push_cast,seval,↓reduceIte]
 obtain ⟨z14,hz14,h⟩:=bC h
 refine Yb (E':=⟨49,[],[(2,.ref (n+1) 0),(5,.ref (n+2) 0)]⟩) (O':=(Zv O n [none,some ⟨false,25,3,1,[.val (.int .i64 0),.val (.slice none 0 0),.val (.slice none 0 0)]⟩,some ⟨false,25,3,1,[.val (.int .i64 a0.Kind),.sl z1.1.length (fl (eI .u64) z1.1),.row (n+4) z14.length]⟩,none,some ⟨true,25,3,z14.length,fl Zb z14⟩,none])) (n0:=(n+6)) ?_ ?_
 ·refine Yn hz14 (fun s0_=>⟨49,[],[(2,.ref (n+1) 0),(5,.ref (n+2) 0),(34,.sl z1.2.length (fl Zb z1.2)),(35,.val (.int .i64 (z1.2.length:Int))),(36,.val (.int .i64 s0_.1))]⟩) (fun s0_=>(Zv O n [none,some ⟨false,25,3,1,[.val (.int .i64 0),.val (.slice none 0 0),.val (.slice none 0 0)]⟩,some ⟨false,25,3,1,[.val (.int .i64 a0.Kind),.sl z1.1.length (fl (eI .u64) z1.1),.row (n+4) s0_.2.length]⟩,none,some ⟨true,25,3,s0_.2.length,fl Zb s0_.2⟩,none])) (fun z14=>JX 0 n (⟨49,[],[(2,.ref (n+1) 0),(5,.ref (n+2) 0)]⟩:Env) (Zv O n [none,some ⟨false,25,3,1,[.val (.int .i64 0),.val (.slice none 0 0),.val (.slice none 0 0)]⟩,some ⟨false,25,3,1,[.val (.int .i64 a0.Kind),.sl z1.1.length (fl (eI .u64) z1.1),.row (n+4) z14.length]⟩,none,some ⟨true,25,3,z14.length,fl Zb z14⟩,none]) (n+6)) ?_
  intro s0_ x0_ hs0_
  unfold U4 at hs0_
  try dsimp only
  refine Zq [2,5,34,35,36,37] (Zc Zd [] ?_)
  simp only [push_cast,seval,↓reduceIte,Za,hN0,hN]
  refine Zm ?_
  refine Zu (t:=(decide (s0_.1 < (z1.2.length:Int)))) rfl (fun c13 => ?_) (fun c13 => ?_)
  ·replace hs0_:=Zs c13 hs0_
   refine Zy ?_
   try simp only [Zl,Zi]
   refine Zk [2,5,34,35,36] [false,true,true,false,true,false] ?_
   simp only [push_cast,seval,↓reduceIte]
   refine Zm ?_
   refine Z6 ?_
   refine Zm ?_
   obtain ⟨x9,hx9,ax9,bx9,cx9,hs0_⟩:=bE (f:=Zb) Zai (fun _=>rfl) (by decide) hs0_
   refine Zc Zd [] ?_
   simp only [push_cast,Nat.reduceAdd,Nat.reduceSub,Nat.reduceMul,Nat.reduceLeDiff,Nat.reduceLT,Nat.reduceEqDiff,↓reduceIte,reduceCtorEq,Int.reduceBEq,Int.reduceBNe,Nat.reduceBEq,Int.reduceLE,Int.reduceLT,Int.reduceEq,Int.reduceNe,Int.reduceNeg,Nat.reduceDiv,Nat.reduceMod,Nat.reducePow,Za,ax9,bx9,cx9,hN0,hN]
   refine Zk [2,5,6,7,34,35,36] [false,true,true,false,true,false,true] ?_
   simp only [push_cast,seval,↓reduceIte]
   obtain ⟨y10,hy10,hs0_⟩:=bC hs0_
   obtain ⟨x11,hx11,ax11,bx11,cx11,hs0_⟩:=bE (f:=Zb) Zai (fun _=>rfl) (by decide) hs0_
   have gu12:J4 (fl Zb s0_.2) [.val (.int .i64 y10.Kind),.sl y10.Words.length (fl (eI .u64) y10.Words),.sl y10.Kids.length (fl Zb y10.Kids)] (Int.toNat s0_.1 * 3)=some (fl Zb (Zg9 s0_.2 s0_.1 y10)):=(congrArg (fun c=>J4 (fl Zb s0_.2) c (Int.toNat s0_.1 * 3)) (show [.val (.int .i64 y10.Kind),.sl y10.Words.length (fl (eI .u64) y10.Words),.sl y10.Kids.length (fl Zb y10.Kids)]=Zb y10 from by simp only [Zb,Yo,eI,eB,eS,eL])).trans (Zm2 (f:=Zb) (ti:=⟨.bool,3,0,[],false⟩) (x:=y10) (fun _=>rfl) (Zeh hx11))
   refine Zhe Zd (by kernel_rfl) [false,false,false,false,false,false,true] [] (by kernel_rfl) ?_
   simp only [push_cast,Nat.reduceAdd,Nat.reduceSub,Nat.reduceMul,Nat.reduceLeDiff,Nat.reduceLT,Nat.reduceEqDiff,↓reduceIte,reduceCtorEq,Int.reduceBEq,Int.reduceBNe,Nat.reduceBEq,Int.reduceLE,Int.reduceLT,Int.reduceEq,Int.reduceNe,Int.reduceNeg,Nat.reduceDiv,Nat.reduceMod,Nat.reducePow,Za,ax11,bx11,cx11,gu12,hN0,hN]
   refine PCall.of (Zpx hy10) ?_
   simp only [push_cast,Nat.reduceAdd,Nat.reduceSub,Nat.reduceMul,Nat.reduceLeDiff,Nat.reduceLT,Nat.reduceEqDiff,↓reduceIte,reduceCtorEq,Int.reduceBEq,Int.reduceBNe,Nat.reduceBEq,Int.reduceLE,Int.reduceLT,Int.reduceEq,Int.reduceNe,Int.reduceNeg,Nat.reduceDiv,Nat.reduceMod,Nat.reducePow,Za,ax11,bx11,cx11,gu12,hN0,hN]
   refine Zk [2,5,34,35,36] [false,true,true,false,true,false,false] ?_
   simp only [push_cast,seval,↓reduceIte]
   refine Zc Zd [] ?_
   simp only [push_cast,seval,↓reduceIte,Za,hN0,hN]
   have hs0_:=Option.some.inj hs0_;subst hs0_
   refine And.intro rfl (Fit2.of (Zj hU rfl rfl ?_) (by omega))
   simp only [push_cast,seval,↓reduceIte,Za,hN0,hN]
  replace hs0_:=Zr c13 hs0_
  refine Yx ?_
  try simp only [Zl,Zi,↓reduceIte,Nat.reduceEqDiff]
  have hs0_:=Option.some.inj hs0_;subst hs0_
  refine And.intro (fun h=>by cases h) (And.intro rfl (Fit2.of (Zj hU rfl rfl ?_) (by omega)))
  simp only [push_cast,seval,↓reduceIte,Za,hN0,hN]
 try simp only [Zl,Zi,↓reduceIte,Nat.reduceEqDiff]
 refine Zk [2,5] [false,true,true,false,true,false] ?_
 simp only [push_cast,seval,↓reduceIte]
 refine Zm ?_
 refine Zc Zd [] ?_
 simp only [push_cast,seval,↓reduceIte,Za,hN0,hN]
 refine Zk [2] [false,true,false,false,true,false] ?_
 simp only [push_cast,seval,↓reduceIte]
 refine Z0 ?_
 try simp only [Zl,Zi]
 have h:=Option.some.inj h;subst h
 refine Zt (.inr rfl) hU [.agg [.val (.int .i64 a0.Kind),.sl z1.1.length (fl (eI .u64) z1.1),.row (n+4) z14.length]] (by omega) ?_
 simp only [push_cast,seval,↓reduceIte,Za,Try.results53,hN0,hN]
theorem Zob:∀ k,(∀ {a0:S_api_Tree} {r:S_api_Tree} {O:Objs} {n:Nat},(Va k) a0=some r→GTo Try.prog 53 [.agg (Zo a0)] O n (.agg (Zo r)) O n):=fun k=>by
 induction k with
 | zero=>exact @fun a0 r O n h=>(nomatch (show (none:Option _)=some _ from h))
 | succ k ih=>exact @fun a0 r O n h=>Zrr (ih)  h
theorem Zbv {a0:S_api_Tree} {r:S_api_Tree} {O:Objs} {n:Nat} (h:Zbb a0=some r):GTo Try.prog 53 [.agg (Zo a0)] O n (.agg (Zo r)) O n:=by
 obtain ⟨k,hk⟩:=Vs h
 exact (Zob k)  hk
theorem Zaf {a0 r:List Zp} {O:Objs} {n:Nat} (h:X4 a0=some r):GTo Try.prog 54 [.sl a0.length (fl Zg a0)] O n (.row n r.length) (Zv O n [some ⟨true,58,4,r.length,fl Zg r⟩]) (n+1):=by
 have h1:=Zw0 h
 have h2:=Zw1 h
 have h3:=Zsp h
 rw [List.nil_append] at h3
 subst h3
 simp only [List.length_nil,Nat.zero_add] at h1 h2
 clear h
 refine Y3 Zd Try.call54 Try.func54 rfl (Nat.le_of_ble_eq_true rfl) (by omega) fun hU => ?_
 have hN0:O n=none:=hU.fresh _ (Nat.le_refl _)
 have hN:∀ k,O (n+k)=none:=fun k=>hU.fresh _ (Nat.le_add_right _ _)
 show W _ _ _ _ ⟨8,[],[(0,.sl r.length (fl Zg r))]⟩ (Zv O n []) _
 refine Zq [0] (Zc Zd [] ?_)
 simp only [push_cast,seval,↓reduceIte,Za,hN0,hN]
 refine Z5k 0 r.length (fl Zg r) rfl (Nat.le_of_ble_eq_true rfl) (Ym Y5 _) fun A c hA => ?_
 refine Zq [0,4] (Zc Zd [] ?_)
 simp only [push_cast,seval,↓reduceIte,Za,hN0,hN]
 cases A with
 | none =>
  obtain rfl:r=[]:=List.eq_nil_of_length_eq_zero (hA rfl)
  refine Zu (t:=true) rfl (fun _ => ?_) (fun hc=>by cases hc)
  refine Zq [2] (Zc Zd [] ?_)
  simp only [push_cast,seval,↓reduceIte,Za,hN0,hN]
  refine Z0 ?_
  try simp only [Zl,Zi]
  refine Z1b (k:=1) (L3:=[some ⟨true,58,4,0,[]⟩]) (E2:=⟨8,[],[(2,.row n 0),(2,.val (.slice none 0 0))]⟩) (n3:=(n+1)) (.inr rfl) hU rfl [.row n 0] ?_ ?_
  ·have ha:=Zgs (ba:=n) (E:=⟨8,[],[(2,.val (.slice none 0 0))]⟩) (O:=(Zv O n [])) (n:=n) 2 58 4 rfl (by omega)
   simp only [Yj] at ha
   exact ha
  simp only [push_cast,seval,↓reduceIte,Za,Try.results54,hN0,hN]
 | some A =>
  refine Zu (t:=false) rfl (fun hc=>by cases hc) (fun _ => ?_)
  refine Zy ?_
  try simp only [Zl,Zi]
  refine And.intro rfl (And.intro (Nat.le_of_ble_eq_true rfl) ?_)
  refine Zm ?_
  refine Zc Zd [] ?_
  simp only [push_cast,seval,↓reduceIte,Za,h1,h2,hN0,hN]
  refine Z0 ?_
  try simp only [Zl,Zi]
  refine Z1a (.inr rfl) hU rfl [.row n r.length] (by omega) ?_
  simp only [push_cast,seval,↓reduceIte,Za,Try.results54,hN0,hN]
theorem Kt {a0:Zw} {r:Zw} {O:Objs} {n:Nat} {i0 j0_0 j0_1 j0_2:Nat} (hi0:i0 < n) (Zgb:j0_0 < n) (Zgc:j0_1 < n) (Zgd:j0_2 < n) (Zc8:i0≠j0_0) (Gk:i0≠j0_1) (Gl:i0≠j0_2) (Gh:j0_0≠j0_1) (Gi:j0_0≠j0_2) (Gj:j0_1≠j0_2) (ho0:O i0=some ⟨false,110,4,1,[.row j0_2 a0.out.length,.val (.int .i64 a0.kept),.row j0_0 a0.gone.length,.row j0_1 a0.come.length]⟩) (Zhh:O j0_0=some ⟨true,25,3,a0.gone.length,fl Zb a0.gone⟩) (Zhi:O j0_1=some ⟨true,25,3,a0.come.length,fl Zb a0.come⟩) (Zhj:O j0_2=some ⟨true,69,14,a0.out.length,fl Zf a0.out⟩) (h:Xb a0=some r):GTo Try.prog 87 [.ref i0 0] O n (.tup []) (Zv ((((O.upd j0_0 none).upd j0_1 none).upd j0_2 none).upd i0 (some ⟨false,110,4,1,[.row (n+2) r.out.length,.val (.int .i64 r.kept),.row n r.gone.length,.row (n+1) r.come.length]⟩)) n [some ⟨true,25,3,r.gone.length,fl Zb r.gone⟩,some ⟨true,25,3,r.come.length,fl Zb r.come⟩,some ⟨true,69,14,r.out.length,fl Zf r.out⟩]) (n+3):=by
 unfold Xb at h
 refine Y3 Zd Try.call87 Try.func87 rfl (Nat.le_of_ble_eq_true rfl) (by omega) fun hU => ?_
 have e0:=Vy (ba:=n) (E:=⟨73,[],Zff 0 [.ref i0 0]⟩) (O:=(Zv O n [])) (n:=n) (i:=i0) (j:=j0_0) (k:=2) (len:=a0.gone.length) (q:=⟨false,110,4,1,[.row j0_2 a0.out.length,.val (.int .i64 a0.kept),.row j0_0 a0.gone.length,.row j0_1 a0.come.length]⟩) (qj:=⟨true,25,3,a0.gone.length,fl Zb a0.gone⟩) (by rw [Yr _ hi0];first | exact ho0 | exact Ya _ _ _) rfl (by rw [Yr _ Zgb];exact Zhh) Zc8 (by omega)
 simp only [Y2 _ _ Zgb,Y2 _ _ hi0,Yv,Yj,Q9,Zco Zc8,List.set_cons_zero,List.set_cons_succ,List.cons_append,List.nil_append,List.length_cons,List.length_nil,Nat.zero_add,Nat.reduceAdd,Nat.add_assoc] at e0
 refine Jh e0 ?_
 have e1:=Vy (ba:=n) (E:=⟨73,[],Zff 0 [.ref i0 0]⟩) (O:=(Zv ((O.upd j0_0 none).upd i0 (some ⟨false,110,4,1,[.row j0_2 a0.out.length,.val (.int .i64 a0.kept),.row n a0.gone.length,.row j0_1 a0.come.length]⟩)) n [some ⟨true,25,3,a0.gone.length,fl Zb a0.gone⟩])) (n:=(n+1)) (i:=i0) (j:=j0_1) (k:=3) (len:=a0.come.length) (q:=⟨false,110,4,1,[.row j0_2 a0.out.length,.val (.int .i64 a0.kept),.row n a0.gone.length,.row j0_1 a0.come.length]⟩) (qj:=⟨true,25,3,a0.come.length,fl Zb a0.come⟩) (by rw [Yr _ hi0];first | exact ho0 | exact Ya _ _ _) rfl (by rw [Yr _ Zgc,Yu _ _ (Ne.symm Gk),Yu _ _ (Ne.symm Gh)];exact Zhi) Gk (by omega)
 simp only [Y2 _ _ Zgc,Y2 _ _ hi0,Yv,Yj,Q9,Zco Gk,List.set_cons_zero,List.set_cons_succ,List.cons_append,List.nil_append,List.length_cons,List.length_nil,Nat.zero_add,Nat.reduceAdd,Nat.add_assoc] at e1
 refine Jh e1 ?_
 have e2:=Vy (ba:=n) (E:=⟨73,[],Zff 0 [.ref i0 0]⟩) (O:=(Zv (((O.upd j0_0 none).upd j0_1 none).upd i0 (some ⟨false,110,4,1,[.row j0_2 a0.out.length,.val (.int .i64 a0.kept),.row n a0.gone.length,.row (n+1) a0.come.length]⟩)) n [some ⟨true,25,3,a0.gone.length,fl Zb a0.gone⟩,some ⟨true,25,3,a0.come.length,fl Zb a0.come⟩])) (n:=(n+2)) (i:=i0) (j:=j0_2) (k:=0) (len:=a0.out.length) (q:=⟨false,110,4,1,[.row j0_2 a0.out.length,.val (.int .i64 a0.kept),.row n a0.gone.length,.row (n+1) a0.come.length]⟩) (qj:=⟨true,69,14,a0.out.length,fl Zf a0.out⟩) (by rw [Yr _ hi0];first | exact ho0 | exact Ya _ _ _) rfl (by rw [Yr _ Zgd,Yu _ _ (Ne.symm Gl),Yu _ _ (Ne.symm Gj),Yu _ _ (Ne.symm Gi)];exact Zhj) Gl (by omega)
 simp only [Y2 _ _ Zgd,Y2 _ _ hi0,Yv,Yj,Q9,Zco Gl,List.set_cons_zero,List.set_cons_succ,List.cons_append,List.nil_append,List.length_cons,List.length_nil,Nat.zero_add,Nat.reduceAdd,Nat.add_assoc] at e2
 refine Jh e2 ?_
 have hU:=(Und.drop (Und.drop (Und.drop hU j0_0) j0_1) j0_2)
 have hk0:∀ k,i0 < n+k:=fun k=>by omega
 have hN0:∀ o,Objs.upd (((O.upd j0_0 none).upd j0_1 none).upd j0_2 none) i0 o n=none:=fun o=>Zan hU hi0 _ (Nat.le_refl _)
 have hN:∀ o k,Objs.upd (((O.upd j0_0 none).upd j0_1 none).upd j0_2 none) i0 o (n+k)=none:=fun o k=>Zan hU hi0 _ (Nat.le_add_right _ _)
 show W _ _ _ _ ⟨73,[],[(0,.ref i0 0)]⟩ (Zv ((((O.upd j0_0 none).upd j0_1 none).upd j0_2 none).upd i0 (some ⟨false,110,4,1,[.row (n+2) a0.out.length,.val (.int .i64 a0.kept),.row n a0.gone.length,.row (n+1) a0.come.length]⟩)) n [some ⟨true,25,3,a0.gone.length,fl Zb a0.gone⟩,some ⟨true,25,3,a0.come.length,fl Zb a0.come⟩,some ⟨true,69,14,a0.out.length,fl Zf a0.out⟩]) _
 obtain ⟨z1,hz1,h⟩:=bC h
 refine Yl (E':=⟨73,[],[(0,.ref i0 0)]⟩) (O':=(Zv ((((O.upd j0_0 none).upd j0_1 none).upd j0_2 none).upd i0 (some ⟨false,110,4,1,[.row (n+2) z1.length,.val (.int .i64 a0.kept),.row n a0.gone.length,.row (n+1) a0.come.length]⟩)) n [some ⟨true,25,3,a0.gone.length,fl Zb a0.gone⟩,some ⟨true,25,3,a0.come.length,fl Zb a0.come⟩,some ⟨true,69,14,z1.length,fl Zf z1⟩,none])) (n0:=(n+4)) ?_ ?_
 ·refine Zq [0,6] (Zc Zd [] ?_)
  simp only [push_cast,seval,↓reduceIte,Za,hi0,hk0,hN0,hN]
  refine Zu (t:=(decide (0 < a0.kept))) rfl (fun c5 => ?_) (fun c5 => ?_)
  ·replace hz1:=Zs c5 hz1
   obtain ⟨l2,pl2,ql2,el2,hz1⟩:=bA (k:=1) rfl hz1
   obtain ⟨x3,hx3,ax3,bx3,cx3,hz1⟩:=bE (f:=Zf) V2 (fun _=>rfl) (by decide) hz1
   have gu4:J4 (fl Zf a0.out++[.val (.int .i64 0),.val (.int .i64 0),.val (.slice none 0 0),.val (.int .i64 0),.val (.int .i64 0),.val (.slice none 0 0),.val (.slice none 0 0),.val (.int .i64 0),.val (.slice none 0 0),.val (.slice none 0 0),.val (.slice none 0 0),.val (.slice none 0 0),.val (.int .i64 0),.val (.slice none 0 0)]) [.val (.int .i64 0),.val (.int .i64 a0.kept),.val (.slice none 0 0),.val (.int .i64 0),.val (.int .i64 0),.val (.slice none 0 0),.val (.slice none 0 0),.val (.int .i64 0),.val (.slice none 0 0),.val (.slice none 0 0),.val (.slice none 0 0),.val (.slice none 0 0),.val (.int .i64 0),.val (.slice none 0 0)] (List.length a0.out * 14)=some (fl Zf a0.out++[.val (.int .i64 0),.val (.int .i64 a0.kept),.val (.slice none 0 0),.val (.int .i64 0),.val (.int .i64 0),.val (.slice none 0 0),.val (.slice none 0 0),.val (.int .i64 0),.val (.slice none 0 0),.val (.slice none 0 0),.val (.slice none 0 0),.val (.slice none 0 0),.val (.int .i64 0),.val (.slice none 0 0)]):=Zcq (f:=Zf) (sz:=14) (fun _=>rfl) rfl rfl
   refine Zc0 Zd (by kernel_rfl) [.low,.low,.low,.low,.low,.low,.low,.low,.low,.low,.pass,.bar,.shp,.fill true,.shp,.shp,.fill false] (fun i=>i < (n+3)) [0,1,2,3,4,5,6,7,8,9,10,11,12,13,14,15,16] [.low,.low,.low,.low,.low,.low,.low,.low,.low,.low,.pass,.bar,.shp,.fill true,.shp,.shp,.fill false] [] (by kernel_rfl) rfl ?_
   simp only [push_cast,Nat.reduceAdd,Nat.reduceSub,Nat.reduceMul,Nat.reduceLeDiff,Nat.reduceLT,Nat.reduceEqDiff,↓reduceIte,reduceCtorEq,Int.reduceBEq,Int.reduceBNe,Nat.reduceBEq,Int.reduceLE,Int.reduceLT,Int.reduceEq,Int.reduceNe,Int.reduceNeg,Nat.reduceDiv,Nat.reduceMod,Nat.reducePow,Za,pl2,ql2,el2,ax3,bx3,cx3,gu4,hi0,hk0,hN0,hN]
   repeat (with_reducible refine And.intro (by first | omega | exact Qa rfl | exact Xk | exact Js rfl rfl) ?_)
   have hz1:=Option.some.inj hz1;subst hz1
   refine And.intro rfl (Fit2.of (Xj hU rfl rfl ?_) (by omega))
   simp only [push_cast,Nat.reduceAdd,Nat.reduceSub,Nat.reduceMul,Nat.reduceLeDiff,Nat.reduceLT,Nat.reduceEqDiff,↓reduceIte,reduceCtorEq,Int.reduceBEq,Int.reduceBNe,Nat.reduceBEq,Int.reduceLE,Int.reduceLT,Int.reduceEq,Int.reduceNe,Int.reduceNeg,Nat.reduceDiv,Nat.reduceMod,Nat.reducePow,Za,pl2,ql2,el2,ax3,bx3,cx3,gu4,hi0,hk0,hN0,hN]
  replace hz1:=Zr c5 hz1
  refine Zy ?_
  try simp only [Zl,Zi]
  have hz1:=Option.some.inj hz1;subst hz1
  refine And.intro rfl (Fit2.of (Xj hU rfl rfl ?_) (by omega))
  simp only [push_cast,seval,↓reduceIte,Za,hi0,hk0,hN0,hN]
 obtain ⟨z6,hz6,h⟩:=bC h
 refine Yl (E':=⟨73,[],[(0,.ref i0 0)]⟩) (O':=(Zv ((((O.upd j0_0 none).upd j0_1 none).upd j0_2 none).upd i0 (some ⟨false,110,4,1,[.row (n+2) z6.1.length,.val (.int .i64 a0.kept),.sl z6.2.length (fl Zb z6.2),.row (n+1) a0.come.length]⟩)) n [none,some ⟨true,25,3,a0.come.length,fl Zb a0.come⟩,some ⟨true,69,14,z6.1.length,fl Zf z6.1⟩,none,none])) (n0:=(n+5)) ?_ ?_
 ·refine Zq [0,27] (Zc Zd [] ?_)
  simp only [push_cast,seval,↓reduceIte,Za,hi0,hk0,hN0,hN]
  refine Zu (t:=(decide (0 < (a0.gone.length:Int)))) rfl (fun c12 => ?_) (fun c12 => ?_)
  ·replace hz6:=Zs c12 hz6
   refine Zbw ⟨73,[],[(0,.ref i0 0)]⟩ (Zv ((((O.upd j0_0 none).upd j0_1 none).upd j0_2 none).upd i0 (some ⟨false,110,4,1,[.row (n+2) z1.length,.val (.int .i64 a0.kept),.sl a0.gone.length (fl Zb a0.gone),.row (n+1) a0.come.length]⟩)) n [none,some ⟨true,25,3,a0.come.length,fl Zb a0.come⟩,some ⟨true,69,14,z1.length,fl Zf z1⟩,none]) (Xj hU rfl rfl ?_) ?_
   ·simp only [push_cast,seval,↓reduceIte,Za,hi0,hk0,hN0,hN]
   obtain ⟨l9,pl9,ql9,el9,hz6⟩:=bA (k:=1) rfl hz6
   obtain ⟨x10,hx10,ax10,bx10,cx10,hz6⟩:=bE (f:=Zf) V2 (fun _=>rfl) (by decide) hz6
   have gu11:J4 (fl Zf z1++[.val (.int .i64 0),.val (.int .i64 0),.val (.slice none 0 0),.val (.int .i64 0),.val (.int .i64 0),.val (.slice none 0 0),.val (.slice none 0 0),.val (.int .i64 0),.val (.slice none 0 0),.val (.slice none 0 0),.val (.slice none 0 0),.val (.slice none 0 0),.val (.int .i64 0),.val (.slice none 0 0)]) [.val (.int .i64 1),.val (.int .i64 0),.sl a0.gone.length (fl Zb a0.gone),.val (.int .i64 0),.val (.int .i64 0),.val (.slice none 0 0),.val (.slice none 0 0),.val (.int .i64 0),.val (.slice none 0 0),.val (.slice none 0 0),.val (.slice none 0 0),.val (.slice none 0 0),.val (.int .i64 0),.val (.slice none 0 0)] (List.length z1 * 14)=some (fl Zf z1++[.val (.int .i64 1),.val (.int .i64 0),.sl a0.gone.length (fl Zb a0.gone),.val (.int .i64 0),.val (.int .i64 0),.val (.slice none 0 0),.val (.slice none 0 0),.val (.int .i64 0),.val (.slice none 0 0),.val (.slice none 0 0),.val (.slice none 0 0),.val (.slice none 0 0),.val (.int .i64 0),.val (.slice none 0 0)]):=Zcq (f:=Zf) (sz:=14) (fun _=>rfl) rfl rfl
   refine Zc0 Zd (by kernel_rfl) [.low,.low,.low,.low,.low,.low,.low,.low,.low,.low,.pass,.bar,.shp,.fill true,.shp,.shp,.fill false] (fun i=>i < (n+4)) [0,1,2,3,4,5,6,7,8,9,10,11,12,13,14,15,16] [.low,.low,.low,.low,.low,.low,.low,.low,.low,.low,.pass,.bar,.shp,.fill true,.shp,.shp,.fill false] [] (by kernel_rfl) rfl ?_
   simp only [push_cast,Nat.reduceAdd,Nat.reduceSub,Nat.reduceMul,Nat.reduceLeDiff,Nat.reduceLT,Nat.reduceEqDiff,↓reduceIte,reduceCtorEq,Int.reduceBEq,Int.reduceBNe,Nat.reduceBEq,Int.reduceLE,Int.reduceLT,Int.reduceEq,Int.reduceNe,Int.reduceNeg,Nat.reduceDiv,Nat.reduceMod,Nat.reducePow,Za,pl9,ql9,el9,ax10,bx10,cx10,gu11,hi0,hk0,hN0,hN]
   repeat (with_reducible refine And.intro (by first | omega | exact Qa rfl | exact Xk | exact Js rfl rfl) ?_)
   have hz6:=Option.some.inj hz6;subst hz6
   refine And.intro rfl (Fit2.of (Xj hU rfl rfl ?_) (by omega))
   simp only [push_cast,Nat.reduceAdd,Nat.reduceSub,Nat.reduceMul,Nat.reduceLeDiff,Nat.reduceLT,Nat.reduceEqDiff,↓reduceIte,reduceCtorEq,Int.reduceBEq,Int.reduceBNe,Nat.reduceBEq,Int.reduceLE,Int.reduceLT,Int.reduceEq,Int.reduceNe,Int.reduceNeg,Nat.reduceDiv,Nat.reduceMod,Nat.reducePow,Za,pl9,ql9,el9,ax10,bx10,cx10,gu11,hi0,hk0,hN0,hN]
  replace hz6:=Zr c12 hz6
  refine Zy ?_
  try simp only [Zl,Zi]
  have hz6:=Option.some.inj hz6;subst hz6
  refine And.intro rfl (Fit2.of (Xj hU rfl rfl ?_) (by omega))
  simp only [push_cast,seval,↓reduceIte,Za,hi0,hk0,hN0,hN]
 obtain ⟨z13,hz13,h⟩:=bC h
 refine Yl (E':=⟨73,[],[(0,.ref i0 0)]⟩) (O':=(Zv ((((O.upd j0_0 none).upd j0_1 none).upd j0_2 none).upd i0 (some ⟨false,110,4,1,[.row (n+2) z13.1.length,.val (.int .i64 a0.kept),.sl z6.2.length (fl Zb z6.2),.sl z13.2.length (fl Zb z13.2)]⟩)) n [none,none,some ⟨true,69,14,z13.1.length,fl Zf z13.1⟩,none,none,none])) (n0:=(n+6)) ?_ ?_
 ·refine Zq [0,48] (Zc Zd [] ?_)
  simp only [push_cast,seval,↓reduceIte,Za,hi0,hk0,hN0,hN]
  refine Zu (t:=(decide (0 < (a0.come.length:Int)))) rfl (fun c19 => ?_) (fun c19 => ?_)
  ·replace hz13:=Zs c19 hz13
   refine Zbw ⟨73,[],[(0,.ref i0 0)]⟩ (Zv ((((O.upd j0_0 none).upd j0_1 none).upd j0_2 none).upd i0 (some ⟨false,110,4,1,[.row (n+2) z6.1.length,.val (.int .i64 a0.kept),.sl z6.2.length (fl Zb z6.2),.sl a0.come.length (fl Zb a0.come)]⟩)) n [none,none,some ⟨true,69,14,z6.1.length,fl Zf z6.1⟩,none,none]) (Xj hU rfl rfl ?_) ?_
   ·simp only [push_cast,seval,↓reduceIte,Za,hi0,hk0,hN0,hN]
   obtain ⟨l16,pl16,ql16,el16,hz13⟩:=bA (k:=1) rfl hz13
   obtain ⟨x17,hx17,ax17,bx17,cx17,hz13⟩:=bE (f:=Zf) V2 (fun _=>rfl) (by decide) hz13
   have gu18:J4 (fl Zf z6.1++[.val (.int .i64 0),.val (.int .i64 0),.val (.slice none 0 0),.val (.int .i64 0),.val (.int .i64 0),.val (.slice none 0 0),.val (.slice none 0 0),.val (.int .i64 0),.val (.slice none 0 0),.val (.slice none 0 0),.val (.slice none 0 0),.val (.slice none 0 0),.val (.int .i64 0),.val (.slice none 0 0)]) [.val (.int .i64 2),.val (.int .i64 0),.sl a0.come.length (fl Zb a0.come),.val (.int .i64 0),.val (.int .i64 0),.val (.slice none 0 0),.val (.slice none 0 0),.val (.int .i64 0),.val (.slice none 0 0),.val (.slice none 0 0),.val (.slice none 0 0),.val (.slice none 0 0),.val (.int .i64 0),.val (.slice none 0 0)] (List.length z6.1 * 14)=some (fl Zf z6.1++[.val (.int .i64 2),.val (.int .i64 0),.sl a0.come.length (fl Zb a0.come),.val (.int .i64 0),.val (.int .i64 0),.val (.slice none 0 0),.val (.slice none 0 0),.val (.int .i64 0),.val (.slice none 0 0),.val (.slice none 0 0),.val (.slice none 0 0),.val (.slice none 0 0),.val (.int .i64 0),.val (.slice none 0 0)]):=Zcq (f:=Zf) (sz:=14) (fun _=>rfl) rfl rfl
   refine Zc0 Zd (by kernel_rfl) [.low,.low,.low,.low,.low,.low,.low,.low,.low,.low,.pass,.bar,.shp,.fill true,.shp,.shp,.fill false] (fun i=>i < (n+5)) [0,1,2,3,4,5,6,7,8,9,10,11,12,13,14,15,16] [.low,.low,.low,.low,.low,.low,.low,.low,.low,.low,.pass,.bar,.shp,.fill true,.shp,.shp,.fill false] [] (by kernel_rfl) rfl ?_
   simp only [push_cast,Nat.reduceAdd,Nat.reduceSub,Nat.reduceMul,Nat.reduceLeDiff,Nat.reduceLT,Nat.reduceEqDiff,↓reduceIte,reduceCtorEq,Int.reduceBEq,Int.reduceBNe,Nat.reduceBEq,Int.reduceLE,Int.reduceLT,Int.reduceEq,Int.reduceNe,Int.reduceNeg,Nat.reduceDiv,Nat.reduceMod,Nat.reducePow,Za,pl16,ql16,el16,ax17,bx17,cx17,gu18,hi0,hk0,hN0,hN]
   repeat (with_reducible refine And.intro (by first | omega | exact Qa rfl | exact Xk | exact Js rfl rfl) ?_)
   have hz13:=Option.some.inj hz13;subst hz13
   refine And.intro rfl (Fit2.of (Xj hU rfl rfl ?_) (by omega))
   simp only [push_cast,Nat.reduceAdd,Nat.reduceSub,Nat.reduceMul,Nat.reduceLeDiff,Nat.reduceLT,Nat.reduceEqDiff,↓reduceIte,reduceCtorEq,Int.reduceBEq,Int.reduceBNe,Nat.reduceBEq,Int.reduceLE,Int.reduceLT,Int.reduceEq,Int.reduceNe,Int.reduceNeg,Nat.reduceDiv,Nat.reduceMod,Nat.reducePow,Za,pl16,ql16,el16,ax17,bx17,cx17,gu18,hi0,hk0,hN0,hN]
  replace hz13:=Zr c19 hz13
  refine Zy ?_
  try simp only [Zl,Zi]
  have hz13:=Option.some.inj hz13;subst hz13
  refine And.intro rfl (Fit2.of (Xj hU rfl rfl ?_) (by omega))
  simp only [push_cast,seval,↓reduceIte,Za,hi0,hk0,hN0,hN]
 refine Zc Zd [] ?_
 simp only [push_cast,seval,↓reduceIte,Za,hi0,hk0,hN0,hN]
 have h:=Option.some.inj h;subst h
 refine Zgv (k:=3) (i:=i0) (q1:=⟨false,110,4,1,[.row (n+2) z13.1.length,.val (.int .i64 0),.row n ([]:List S_api_Tree).length,.row (n+1) ([]:List S_api_Tree).length]⟩) (L3:=[some ⟨true,25,3,([]:List S_api_Tree).length,fl Zb ([]:List S_api_Tree)⟩,some ⟨true,25,3,([]:List S_api_Tree).length,fl Zb ([]:List S_api_Tree)⟩,some ⟨true,69,14,z13.1.length,fl Zf z13.1⟩,none]) (E2:=(⟨73,[],[]⟩:Env)) (n3:=(n+4)) (.inl rfl) hU rfl [] ?_ ?_
 ·refine Fit2.trans (E':=(⟨73,[],[]⟩:Env)) (O':=(Zv ((((O.upd j0_0 none).upd j0_1 none).upd j0_2 none).upd i0 (some ⟨false,110,4,1,[.row (n+2) z13.1.length,.val (.int .i64 0),.val (.slice none 0 0),.val (.slice none 0 0)]⟩)) n [none,none,some ⟨true,69,14,z13.1.length,fl Zf z13.1⟩,none,none,none])) (n':=(n+6)) (Fit2.of (Xj hU rfl rfl ?_) (by omega)) ?_
  ·simp only [push_cast,seval,↓reduceIte,Za,hi0,hk0,hN0,hN]
  refine Fit2.trans (E':=(⟨73,[],[]⟩:Env)) (O':=(Zv ((((O.upd j0_0 none).upd j0_1 none).upd j0_2 none).upd i0 (some ⟨false,110,4,1,[.row (n+2) z13.1.length,.val (.int .i64 0),.row (n+6) 0,.val (.slice none 0 0)]⟩)) n [none,none,some ⟨true,69,14,z13.1.length,fl Zf z13.1⟩,none,none,none,some ⟨true,25,3,0,[]⟩])) (n':=(n+7)) ?_ ?_
  ·have ha:=Ji (ba:=n) (E:=(⟨73,[],[]⟩:Env)) (O:=(Zv ((((O.upd j0_0 none).upd j0_1 none).upd j0_2 none).upd i0 (some ⟨false,110,4,1,[.row (n+2) z13.1.length,.val (.int .i64 0),.val (.slice none 0 0),.val (.slice none 0 0)]⟩)) n [none,none,some ⟨true,69,14,z13.1.length,fl Zf z13.1⟩,none,none,none])) (n:=(n+6)) (p:=i0) (k:=2) (q:=⟨false,110,4,1,[.row (n+2) z13.1.length,.val (.int .i64 0),.val (.slice none 0 0),.val (.slice none 0 0)]⟩) 25 3 (by simp only [Ke,V5,List.getElem?_cons_zero,List.getElem?_cons_succ,Option.join_some,Ya,Yr,hi0,hk0,hN0,hN]) rfl (by omega)
   simp only [Yv,Yj,Jo,Qs,List.set_cons_zero,List.set_cons_succ,List.cons_append,List.nil_append,List.length_cons,List.length_nil,Nat.zero_add,Nat.reduceAdd,Nat.reduceLT,Nat.add_assoc,Y2,Q9,hi0,hk0,hN0,hN] at ha
   exact ha
  refine Fit2.trans (E':=(⟨73,[],[]⟩:Env)) (O':=(Zv ((((O.upd j0_0 none).upd j0_1 none).upd j0_2 none).upd i0 (some ⟨false,110,4,1,[.row (n+2) z13.1.length,.val (.int .i64 0),.row (n+6) ([]:List S_api_Tree).length,.val (.slice none 0 0)]⟩)) n [none,none,some ⟨true,69,14,z13.1.length,fl Zf z13.1⟩,none,none,none,some ⟨true,25,3,([]:List S_api_Tree).length,fl Zb ([]:List S_api_Tree)⟩])) (n':=(n+7)) (Fit2.of (Xj hU rfl rfl ?_) (by omega)) ?_
  ·simp only [push_cast,seval,↓reduceIte,Za,hi0,hk0,hN0,hN]
  refine Fit2.trans (E':=(⟨73,[],[]⟩:Env)) (O':=(Zv ((((O.upd j0_0 none).upd j0_1 none).upd j0_2 none).upd i0 (some ⟨false,110,4,1,[.row (n+2) z13.1.length,.val (.int .i64 0),.row (n+6) ([]:List S_api_Tree).length,.row (n+7) 0]⟩)) n [none,none,some ⟨true,69,14,z13.1.length,fl Zf z13.1⟩,none,none,none,some ⟨true,25,3,0,[]⟩,some ⟨true,25,3,0,[]⟩])) (n':=(n+8)) ?_ ?_
  ·have ha:=Ji (ba:=n) (E:=(⟨73,[],[]⟩:Env)) (O:=(Zv ((((O.upd j0_0 none).upd j0_1 none).upd j0_2 none).upd i0 (some ⟨false,110,4,1,[.row (n+2) z13.1.length,.val (.int .i64 0),.row (n+6) ([]:List S_api_Tree).length,.val (.slice none 0 0)]⟩)) n [none,none,some ⟨true,69,14,z13.1.length,fl Zf z13.1⟩,none,none,none,some ⟨true,25,3,([]:List S_api_Tree).length,fl Zb ([]:List S_api_Tree)⟩])) (n:=(n+7)) (p:=i0) (k:=3) (q:=⟨false,110,4,1,[.row (n+2) z13.1.length,.val (.int .i64 0),.row (n+6) ([]:List S_api_Tree).length,.val (.slice none 0 0)]⟩) 25 3 (by simp only [Ke,V5,List.getElem?_cons_zero,List.getElem?_cons_succ,Option.join_some,Ya,Yr,hi0,hk0,hN0,hN]) rfl (by omega)
   simp only [Yv,Yj,Jo,Qs,List.set_cons_zero,List.set_cons_succ,List.cons_append,List.nil_append,List.length_cons,List.length_nil,Nat.zero_add,Nat.reduceAdd,Nat.reduceLT,Nat.add_assoc,Y2,Q9,hi0,hk0,hN0,hN] at ha
   exact ha
  refine Fit2.trans (E':=(⟨73,[],[]⟩:Env)) (O':=(Zv ((((O.upd j0_0 none).upd j0_1 none).upd j0_2 none).upd i0 (some ⟨false,110,4,1,[.row (n+2) z13.1.length,.val (.int .i64 0),.row (n+6) ([]:List S_api_Tree).length,.row (n+7) ([]:List S_api_Tree).length]⟩)) n [none,none,some ⟨true,69,14,z13.1.length,fl Zf z13.1⟩,none,none,none,some ⟨true,25,3,([]:List S_api_Tree).length,fl Zb ([]:List S_api_Tree)⟩,some ⟨true,25,3,([]:List S_api_Tree).length,fl Zb ([]:List S_api_Tree)⟩])) (n':=(n+8)) (Fit2.of (Xj hU rfl rfl ?_) (by omega)) ?_
  ·simp only [push_cast,seval,↓reduceIte,Za,hi0,hk0,hN0,hN]
  refine Zah (k:=8) (k':=4) hU [3,3,2,3,3,3,0,1] [6,7,2,0] rfl rfl rfl rfl ⟨rfl,rfl⟩ ?_
  simp only [push_cast,seval,↓reduceIte,Za,hi0,hk0,hN0,hN]
 simp only [push_cast,seval,↓reduceIte,Za,Try.results87,hi0,hk0,hN0,hN]
theorem Zdv {a0:Zw} {a1:Int} {r:Zw} {O:Objs} {n:Nat} {i0 j0_0 j0_1 j0_2:Nat} (hi0:i0 < n) (Zgb:j0_0 < n) (Zgc:j0_1 < n) (Zgd:j0_2 < n) (Zc8:i0≠j0_0) (Gk:i0≠j0_1) (Gl:i0≠j0_2) (Gh:j0_0≠j0_1) (Gi:j0_0≠j0_2) (Gj:j0_1≠j0_2) (ho0:O i0=some ⟨false,110,4,1,[.row j0_2 a0.out.length,.val (.int .i64 a0.kept),.row j0_0 a0.gone.length,.row j0_1 a0.come.length]⟩) (Zhh:O j0_0=some ⟨true,25,3,a0.gone.length,fl Zb a0.gone⟩) (Zhi:O j0_1=some ⟨true,25,3,a0.come.length,fl Zb a0.come⟩) (Zhj:O j0_2=some ⟨true,69,14,a0.out.length,fl Zf a0.out⟩) (h:Q6 a0 a1=some r):GTo Try.prog 84 [.ref i0 0,.val (.int .i64 a1)] O n (.tup []) (Zv ((((O.upd j0_0 none).upd j0_1 none).upd j0_2 none).upd i0 (some ⟨false,110,4,1,[.row (n+2) r.out.length,.val (.int .i64 r.kept),.row n r.gone.length,.row (n+1) r.come.length]⟩)) n [some ⟨true,25,3,r.gone.length,fl Zb r.gone⟩,some ⟨true,25,3,r.come.length,fl Zb r.come⟩,some ⟨true,69,14,r.out.length,fl Zf r.out⟩]) (n+3):=by
 unfold Q6 at h
 refine Y3 Zd Try.call84 Try.func84 rfl (Nat.le_of_ble_eq_true rfl) (by omega) fun hU => ?_
 have e0:=Vy (ba:=n) (E:=⟨19,[],Zff 0 [.ref i0 0,.val (.int .i64 a1)]⟩) (O:=(Zv O n [])) (n:=n) (i:=i0) (j:=j0_0) (k:=2) (len:=a0.gone.length) (q:=⟨false,110,4,1,[.row j0_2 a0.out.length,.val (.int .i64 a0.kept),.row j0_0 a0.gone.length,.row j0_1 a0.come.length]⟩) (qj:=⟨true,25,3,a0.gone.length,fl Zb a0.gone⟩) (by rw [Yr _ hi0];first | exact ho0 | exact Ya _ _ _) rfl (by rw [Yr _ Zgb];exact Zhh) Zc8 (by omega)
 simp only [Y2 _ _ Zgb,Y2 _ _ hi0,Yv,Yj,Q9,Zco Zc8,List.set_cons_zero,List.set_cons_succ,List.cons_append,List.nil_append,List.length_cons,List.length_nil,Nat.zero_add,Nat.reduceAdd,Nat.add_assoc] at e0
 refine Jh e0 ?_
 have e1:=Vy (ba:=n) (E:=⟨19,[],Zff 0 [.ref i0 0,.val (.int .i64 a1)]⟩) (O:=(Zv ((O.upd j0_0 none).upd i0 (some ⟨false,110,4,1,[.row j0_2 a0.out.length,.val (.int .i64 a0.kept),.row n a0.gone.length,.row j0_1 a0.come.length]⟩)) n [some ⟨true,25,3,a0.gone.length,fl Zb a0.gone⟩])) (n:=(n+1)) (i:=i0) (j:=j0_1) (k:=3) (len:=a0.come.length) (q:=⟨false,110,4,1,[.row j0_2 a0.out.length,.val (.int .i64 a0.kept),.row n a0.gone.length,.row j0_1 a0.come.length]⟩) (qj:=⟨true,25,3,a0.come.length,fl Zb a0.come⟩) (by rw [Yr _ hi0];first | exact ho0 | exact Ya _ _ _) rfl (by rw [Yr _ Zgc,Yu _ _ (Ne.symm Gk),Yu _ _ (Ne.symm Gh)];exact Zhi) Gk (by omega)
 simp only [Y2 _ _ Zgc,Y2 _ _ hi0,Yv,Yj,Q9,Zco Gk,List.set_cons_zero,List.set_cons_succ,List.cons_append,List.nil_append,List.length_cons,List.length_nil,Nat.zero_add,Nat.reduceAdd,Nat.add_assoc] at e1
 refine Jh e1 ?_
 have e2:=Vy (ba:=n) (E:=⟨19,[],Zff 0 [.ref i0 0,.val (.int .i64 a1)]⟩) (O:=(Zv (((O.upd j0_0 none).upd j0_1 none).upd i0 (some ⟨false,110,4,1,[.row j0_2 a0.out.length,.val (.int .i64 a0.kept),.row n a0.gone.length,.row (n+1) a0.come.length]⟩)) n [some ⟨true,25,3,a0.gone.length,fl Zb a0.gone⟩,some ⟨true,25,3,a0.come.length,fl Zb a0.come⟩])) (n:=(n+2)) (i:=i0) (j:=j0_2) (k:=0) (len:=a0.out.length) (q:=⟨false,110,4,1,[.row j0_2 a0.out.length,.val (.int .i64 a0.kept),.row n a0.gone.length,.row (n+1) a0.come.length]⟩) (qj:=⟨true,69,14,a0.out.length,fl Zf a0.out⟩) (by rw [Yr _ hi0];first | exact ho0 | exact Ya _ _ _) rfl (by rw [Yr _ Zgd,Yu _ _ (Ne.symm Gl),Yu _ _ (Ne.symm Gj),Yu _ _ (Ne.symm Gi)];exact Zhj) Gl (by omega)
 simp only [Y2 _ _ Zgd,Y2 _ _ hi0,Yv,Yj,Q9,Zco Gl,List.set_cons_zero,List.set_cons_succ,List.cons_append,List.nil_append,List.length_cons,List.length_nil,Nat.zero_add,Nat.reduceAdd,Nat.add_assoc] at e2
 refine Jh e2 ?_
 have hU:=(Und.drop (Und.drop (Und.drop hU j0_0) j0_1) j0_2)
 have hk0:∀ k,i0 < n+k:=fun k=>by omega
 have hN0:∀ o,Objs.upd (((O.upd j0_0 none).upd j0_1 none).upd j0_2 none) i0 o n=none:=fun o=>Zan hU hi0 _ (Nat.le_refl _)
 have hN:∀ o k,Objs.upd (((O.upd j0_0 none).upd j0_1 none).upd j0_2 none) i0 o (n+k)=none:=fun o k=>Zan hU hi0 _ (Nat.le_add_right _ _)
 show W _ _ _ _ ⟨19,[],[(0,.ref i0 0),(1,.val (.int .i64 a1))]⟩ (Zv ((((O.upd j0_0 none).upd j0_1 none).upd j0_2 none).upd i0 (some ⟨false,110,4,1,[.row (n+2) a0.out.length,.val (.int .i64 a0.kept),.row n a0.gone.length,.row (n+1) a0.come.length]⟩)) n [some ⟨true,25,3,a0.gone.length,fl Zb a0.gone⟩,some ⟨true,25,3,a0.come.length,fl Zb a0.come⟩,some ⟨true,69,14,a0.out.length,fl Zf a0.out⟩]) _
 obtain ⟨z1,hz1,h⟩:=bC h
 refine Yl (E':=⟨19,[],[(0,.ref i0 0),(1,.val (.int .i64 a1))]⟩) (O':=(Zv ((((O.upd j0_0 none).upd j0_1 none).upd j0_2 none).upd i0 (some ⟨false,110,4,1,[.row (n+6) z1.1.length,.val (.int .i64 z1.2.2.2),.row (n+7) z1.2.1.length,.row (n+8) z1.2.2.1.length]⟩)) n [none,none,none,none,none,none,some ⟨true,69,14,z1.1.length,fl Zf z1.1⟩,some ⟨true,25,3,z1.2.1.length,fl Zb z1.2.1⟩,some ⟨true,25,3,z1.2.2.1.length,fl Zb z1.2.2.1⟩])) (n0:=(n+9)) ?_ ?_
 ·refine Zq [0,1,8] (Zc Zd [] ?_)
  simp only [push_cast,seval,↓reduceIte,Za,hi0,hk0,hN0,hN]
  refine Zu (t:=(a0.kept == 0)) rfl (fun c3 => ?_) (fun c3 => ?_)
  ·replace hz1:=Zs c3 hz1
   obtain ⟨y2,hy2,hz1⟩:=bC hz1
   refine Zc Zd [] ?_
   simp only [push_cast,seval,↓reduceIte,Za,hi0,hk0,hN0,hN]
   refine (Kt (i0:=i0) (j0_0:=n) (j0_1:=(n+1)) (j0_2:=(n+2)) (by omega) (by omega) (by omega) (by omega) (by omega) (by omega) (by omega) (by omega) (by omega) (by omega) (by simp only [push_cast,seval,↓reduceIte,Za,Xg,hi0,hk0,hN0,hN] <;> rfl) (by simp only [push_cast,seval,↓reduceIte,Za,Xg,hi0,hk0,hN0,hN] <;> rfl) (by simp only [push_cast,seval,↓reduceIte,Za,Xg,hi0,hk0,hN0,hN] <;> rfl) (by simp only [push_cast,seval,↓reduceIte,Za,Xg,hi0,hk0,hN0,hN] <;> rfl) hy2).then ?_
   simp only [push_cast,seval,↓reduceIte,Za,hi0,hk0,hN0,hN]
   have hz1:=Option.some.inj hz1;subst hz1
   refine And.intro rfl ?_
   refine Fit2.trans (E':=(⟨19,[],[(0,.ref i0 0),(1,.val (.int .i64 a1))]⟩:Env)) (O':=(Zv ((((O.upd j0_0 none).upd j0_1 none).upd j0_2 none).upd i0 (some ⟨false,110,4,1,[.row (n+5) y2.out.length,.val (.int .i64 y2.kept),.row (n+3) y2.gone.length,.row (n+4) y2.come.length]⟩)) n [none,none,none,some ⟨true,25,3,y2.gone.length,fl Zb y2.gone⟩,some ⟨true,25,3,y2.come.length,fl Zb y2.come⟩,some ⟨true,69,14,y2.out.length,fl Zf y2.out⟩])) (n':=(n+6)) (Fit2.of (Xj hU rfl rfl ?_) (by omega)) ?_
   ·simp only [push_cast,seval,↓reduceIte,Za,hi0,hk0,hN0,hN]
   refine Zah (k:=6) (k':=9) hU [5,5,5,7,8,6] [0,0,0,0,0,0,5,3,4] rfl rfl rfl rfl ⟨rfl,rfl⟩ ?_
   simp only [push_cast,seval,↓reduceIte,Za,hi0,hk0,hN0,hN]
  replace hz1:=Zr c3 hz1
  refine Zy ?_
  try simp only [Zl,Zi]
  have hz1:=Option.some.inj hz1;subst hz1
  refine And.intro rfl ?_
  refine Fit2.trans (E':=(⟨19,[],[(0,.ref i0 0),(1,.val (.int .i64 a1))]⟩:Env)) (O':=(Zv ((((O.upd j0_0 none).upd j0_1 none).upd j0_2 none).upd i0 (some ⟨false,110,4,1,[.row (n+2) a0.out.length,.val (.int .i64 a0.kept),.row n a0.gone.length,.row (n+1) a0.come.length]⟩)) n [some ⟨true,25,3,a0.gone.length,fl Zb a0.gone⟩,some ⟨true,25,3,a0.come.length,fl Zb a0.come⟩,some ⟨true,69,14,a0.out.length,fl Zf a0.out⟩])) (n':=(n+3)) (Fit2.of (Xj hU rfl rfl ?_) (by omega)) ?_
  ·simp only [push_cast,seval,↓reduceIte,Za,hi0,hk0,hN0,hN]
  refine Zah (k:=3) (k':=9) hU [7,8,6] [0,0,0,0,0,0,2,0,1] rfl rfl rfl rfl ⟨rfl,rfl⟩ ?_
  simp only [push_cast,seval,↓reduceIte,Za,hi0,hk0,hN0,hN]
 refine Zc Zd [] ?_
 simp only [push_cast,seval,↓reduceIte,Za,hi0,hk0,hN0,hN]
 have h:=Option.some.inj h;subst h
 refine Zgv (k:=3) (i:=i0) (q1:=⟨false,110,4,1,[.row (n+2) z1.1.length,.val (.int .i64 (IntKind.i64.wrap (z1.2.2.2+a1))),.row n z1.2.1.length,.row (n+1) z1.2.2.1.length]⟩) (L3:=[some ⟨true,25,3,z1.2.1.length,fl Zb z1.2.1⟩,some ⟨true,25,3,z1.2.2.1.length,fl Zb z1.2.2.1⟩,some ⟨true,69,14,z1.1.length,fl Zf z1.1⟩,none]) (E2:=(⟨19,[],[]⟩:Env)) (n3:=(n+4)) (.inl rfl) hU rfl [] ?_ ?_
 ·refine Fit2.trans (E':=(⟨19,[],[]⟩:Env)) (O':=(Zv ((((O.upd j0_0 none).upd j0_1 none).upd j0_2 none).upd i0 (some ⟨false,110,4,1,[.row (n+6) z1.1.length,.val (.int .i64 (IntKind.i64.wrap (z1.2.2.2+a1))),.row (n+7) z1.2.1.length,.row (n+8) z1.2.2.1.length]⟩)) n [none,none,none,none,none,none,some ⟨true,69,14,z1.1.length,fl Zf z1.1⟩,some ⟨true,25,3,z1.2.1.length,fl Zb z1.2.1⟩,some ⟨true,25,3,z1.2.2.1.length,fl Zb z1.2.2.1⟩])) (n':=(n+9)) (Fit2.of (Xj hU rfl rfl ?_) (by omega)) ?_
  ·simp only [push_cast,seval,↓reduceIte,Za,hi0,hk0,hN0,hN]
  refine Zah (k:=9) (k':=4) hU [3,3,3,3,3,3,2,0,1] [7,8,6,0] rfl rfl rfl rfl ⟨rfl,rfl⟩ ?_
  simp only [push_cast,seval,↓reduceIte,Za,hi0,hk0,hN0,hN]
 simp only [push_cast,seval,↓reduceIte,Za,Try.results84,hi0,hk0,hN0,hN]
theorem Zf6 {a0:Zw} {a2:(List S_api_Tree)} {r:Zw} {O:Objs} {n:Nat} {i0 j0_0 j0_1 j0_2:Nat} (hi0:i0 < n) (Zgb:j0_0 < n) (Zgc:j0_1 < n) (Zgd:j0_2 < n) (Zc8:i0≠j0_0) (Gk:i0≠j0_1) (Gl:i0≠j0_2) (Gh:j0_0≠j0_1) (Gi:j0_0≠j0_2) (Gj:j0_1≠j0_2) (ho0:O i0=some ⟨false,110,4,1,[.row j0_2 a0.out.length,.val (.int .i64 a0.kept),.row j0_0 a0.gone.length,.row j0_1 a0.come.length]⟩) (Zhh:O j0_0=some ⟨true,25,3,a0.gone.length,fl Zb a0.gone⟩) (Zhi:O j0_1=some ⟨true,25,3,a0.come.length,fl Zb a0.come⟩) (Zhj:O j0_2=some ⟨true,69,14,a0.out.length,fl Zf a0.out⟩) (h:Qt a0 a2=some r):GTo Try.prog 85 [.ref i0 0,.ref i0 2,.sl a2.length (fl Zb a2)] O n (.tup []) (Zv ((((O.upd j0_0 none).upd j0_1 none).upd j0_2 none).upd i0 (some ⟨false,110,4,1,[.row (n+2) r.out.length,.val (.int .i64 r.kept),.row n r.gone.length,.row (n+1) r.come.length]⟩)) n [some ⟨true,25,3,r.gone.length,fl Zb r.gone⟩,some ⟨true,25,3,r.come.length,fl Zb r.come⟩,some ⟨true,69,14,r.out.length,fl Zf r.out⟩]) (n+3):=by
 unfold Qt at h
 refine Y3 Zd Try.call85 Try.func85 rfl (Nat.le_of_ble_eq_true rfl) (by omega) fun hU => ?_
 have e0:=Vy (ba:=n) (E:=⟨32,[],Zff 0 [.ref i0 0,.ref i0 2,.sl a2.length (fl Zb a2)]⟩) (O:=(Zv O n [])) (n:=n) (i:=i0) (j:=j0_0) (k:=2) (len:=a0.gone.length) (q:=⟨false,110,4,1,[.row j0_2 a0.out.length,.val (.int .i64 a0.kept),.row j0_0 a0.gone.length,.row j0_1 a0.come.length]⟩) (qj:=⟨true,25,3,a0.gone.length,fl Zb a0.gone⟩) (by rw [Yr _ hi0];first | exact ho0 | exact Ya _ _ _) rfl (by rw [Yr _ Zgb];exact Zhh) Zc8 (by omega)
 simp only [Y2 _ _ Zgb,Y2 _ _ hi0,Yv,Yj,Q9,Zco Zc8,List.set_cons_zero,List.set_cons_succ,List.cons_append,List.nil_append,List.length_cons,List.length_nil,Nat.zero_add,Nat.reduceAdd,Nat.add_assoc] at e0
 refine Jh e0 ?_
 have e1:=Vy (ba:=n) (E:=⟨32,[],Zff 0 [.ref i0 0,.ref i0 2,.sl a2.length (fl Zb a2)]⟩) (O:=(Zv ((O.upd j0_0 none).upd i0 (some ⟨false,110,4,1,[.row j0_2 a0.out.length,.val (.int .i64 a0.kept),.row n a0.gone.length,.row j0_1 a0.come.length]⟩)) n [some ⟨true,25,3,a0.gone.length,fl Zb a0.gone⟩])) (n:=(n+1)) (i:=i0) (j:=j0_1) (k:=3) (len:=a0.come.length) (q:=⟨false,110,4,1,[.row j0_2 a0.out.length,.val (.int .i64 a0.kept),.row n a0.gone.length,.row j0_1 a0.come.length]⟩) (qj:=⟨true,25,3,a0.come.length,fl Zb a0.come⟩) (by rw [Yr _ hi0];first | exact ho0 | exact Ya _ _ _) rfl (by rw [Yr _ Zgc,Yu _ _ (Ne.symm Gk),Yu _ _ (Ne.symm Gh)];exact Zhi) Gk (by omega)
 simp only [Y2 _ _ Zgc,Y2 _ _ hi0,Yv,Yj,Q9,Zco Gk,List.set_cons_zero,List.set_cons_succ,List.cons_append,List.nil_append,List.length_cons,List.length_nil,Nat.zero_add,Nat.reduceAdd,Nat.add_assoc] at e1
 refine Jh e1 ?_
 have e2:=Vy (ba:=n) (E:=⟨32,[],Zff 0 [.ref i0 0,.ref i0 2,.sl a2.length (fl Zb a2)]⟩) (O:=(Zv (((O.upd j0_0 none).upd j0_1 none).upd i0 (some ⟨false,110,4,1,[.row j0_2 a0.out.length,.val (.int .i64 a0.kept),.row n a0.gone.length,.row (n+1) a0.come.length]⟩)) n [some ⟨true,25,3,a0.gone.length,fl Zb a0.gone⟩,some ⟨true,25,3,a0.come.length,fl Zb a0.come⟩])) (n:=(n+2)) (i:=i0) (j:=j0_2) (k:=0) (len:=a0.out.length) (q:=⟨false,110,4,1,[.row j0_2 a0.out.length,.val (.int .i64 a0.kept),.row n a0.gone.length,.row (n+1) a0.come.length]⟩) (qj:=⟨true,69,14,a0.out.length,fl Zf a0.out⟩) (by rw [Yr _ hi0];first | exact ho0 | exact Ya _ _ _) rfl (by rw [Yr _ Zgd,Yu _ _ (Ne.symm Gl),Yu _ _ (Ne.symm Gj),Yu _ _ (Ne.symm Gi)];exact Zhj) Gl (by omega)
 simp only [Y2 _ _ Zgd,Y2 _ _ hi0,Yv,Yj,Q9,Zco Gl,List.set_cons_zero,List.set_cons_succ,List.cons_append,List.nil_append,List.length_cons,List.length_nil,Nat.zero_add,Nat.reduceAdd,Nat.add_assoc] at e2
 refine Jh e2 ?_
 have hU:=(Und.drop (Und.drop (Und.drop hU j0_0) j0_1) j0_2)
 have hk0:∀ k,i0 < n+k:=fun k=>by omega
 have hN0:∀ o,Objs.upd (((O.upd j0_0 none).upd j0_1 none).upd j0_2 none) i0 o n=none:=fun o=>Zan hU hi0 _ (Nat.le_refl _)
 have hN:∀ o k,Objs.upd (((O.upd j0_0 none).upd j0_1 none).upd j0_2 none) i0 o (n+k)=none:=fun o k=>Zan hU hi0 _ (Nat.le_add_right _ _)
 show W _ _ _ _ ⟨32,[],[(0,.ref i0 0),(1,.ref i0 2),(2,.sl a2.length (fl Zb a2))]⟩ (Zv ((((O.upd j0_0 none).upd j0_1 none).upd j0_2 none).upd i0 (some ⟨false,110,4,1,[.row (n+2) a0.out.length,.val (.int .i64 a0.kept),.row n a0.gone.length,.row (n+1) a0.come.length]⟩)) n [some ⟨true,25,3,a0.gone.length,fl Zb a0.gone⟩,some ⟨true,25,3,a0.come.length,fl Zb a0.come⟩,some ⟨true,69,14,a0.out.length,fl Zf a0.out⟩]) _
 obtain ⟨z1,hz1,h⟩:=bC h
 refine Yl (E':=⟨32,[],[(1,.ref i0 2),(2,.sl a2.length (fl Zb a2))]⟩) (O':=(Zv ((((O.upd j0_0 none).upd j0_1 none).upd j0_2 none).upd i0 (some ⟨false,110,4,1,[.row (n+6) z1.1.length,.val (.int .i64 z1.2.2.2),.row (n+7) z1.2.1.length,.row (n+8) z1.2.2.1.length]⟩)) n [none,none,none,none,none,none,some ⟨true,69,14,z1.1.length,fl Zf z1.1⟩,some ⟨true,25,3,z1.2.1.length,fl Zb z1.2.1⟩,some ⟨true,25,3,z1.2.2.1.length,fl Zb z1.2.2.1⟩])) (n0:=(n+9)) ?_ ?_
 ·refine Zq [0,1,2,12] (Zc Zd [] ?_)
  simp only [push_cast,seval,↓reduceIte,Za,hi0,hk0,hN0,hN]
  refine Zu (t:=(decide (0 < a0.kept))) rfl (fun c3 => ?_) (fun c3 => ?_)
  ·replace hz1:=Zs c3 hz1
   obtain ⟨y2,hy2,hz1⟩:=bC hz1
   refine Zc Zd [] ?_
   simp only [push_cast,seval,↓reduceIte,Za,hi0,hk0,hN0,hN]
   refine (Kt (i0:=i0) (j0_0:=n) (j0_1:=(n+1)) (j0_2:=(n+2)) (by omega) (by omega) (by omega) (by omega) (by omega) (by omega) (by omega) (by omega) (by omega) (by omega) (by simp only [push_cast,seval,↓reduceIte,Za,Xg,hi0,hk0,hN0,hN] <;> rfl) (by simp only [push_cast,seval,↓reduceIte,Za,Xg,hi0,hk0,hN0,hN] <;> rfl) (by simp only [push_cast,seval,↓reduceIte,Za,Xg,hi0,hk0,hN0,hN] <;> rfl) (by simp only [push_cast,seval,↓reduceIte,Za,Xg,hi0,hk0,hN0,hN] <;> rfl) hy2).then ?_
   simp only [push_cast,seval,↓reduceIte,Za,hi0,hk0,hN0,hN]
   have hz1:=Option.some.inj hz1;subst hz1
   refine And.intro rfl ?_
   refine Fit2.trans (E':=(⟨32,[],[(1,.ref i0 2),(2,.sl a2.length (fl Zb a2))]⟩:Env)) (O':=(Zv ((((O.upd j0_0 none).upd j0_1 none).upd j0_2 none).upd i0 (some ⟨false,110,4,1,[.row (n+5) y2.out.length,.val (.int .i64 y2.kept),.row (n+3) y2.gone.length,.row (n+4) y2.come.length]⟩)) n [none,none,none,some ⟨true,25,3,y2.gone.length,fl Zb y2.gone⟩,some ⟨true,25,3,y2.come.length,fl Zb y2.come⟩,some ⟨true,69,14,y2.out.length,fl Zf y2.out⟩])) (n':=(n+6)) (Fit2.of (Xj hU rfl rfl ?_) (by omega)) ?_
   ·simp only [push_cast,seval,↓reduceIte,Za,hi0,hk0,hN0,hN]
   refine Zah (k:=6) (k':=9) hU [5,5,5,7,8,6] [0,0,0,0,0,0,5,3,4] rfl rfl rfl rfl ⟨rfl,rfl⟩ ?_
   simp only [push_cast,seval,↓reduceIte,Za,hi0,hk0,hN0,hN]
  replace hz1:=Zr c3 hz1
  refine Zy ?_
  try simp only [Zl,Zi]
  have hz1:=Option.some.inj hz1;subst hz1
  refine And.intro rfl ?_
  refine Fit2.trans (E':=(⟨32,[],[(1,.ref i0 2),(2,.sl a2.length (fl Zb a2))]⟩:Env)) (O':=(Zv ((((O.upd j0_0 none).upd j0_1 none).upd j0_2 none).upd i0 (some ⟨false,110,4,1,[.row (n+2) a0.out.length,.val (.int .i64 a0.kept),.row n a0.gone.length,.row (n+1) a0.come.length]⟩)) n [some ⟨true,25,3,a0.gone.length,fl Zb a0.gone⟩,some ⟨true,25,3,a0.come.length,fl Zb a0.come⟩,some ⟨true,69,14,a0.out.length,fl Zf a0.out⟩])) (n':=(n+3)) (Fit2.of (Xj hU rfl rfl ?_) (by omega)) ?_
  ·simp only [push_cast,seval,↓reduceIte,Za,hi0,hk0,hN0,hN]
  refine Zah (k:=3) (k':=9) hU [7,8,6] [0,0,0,0,0,0,2,0,1] rfl rfl rfl rfl ⟨rfl,rfl⟩ ?_
  simp only [push_cast,seval,↓reduceIte,Za,hi0,hk0,hN0,hN]
 refine Zq [1,15,16,17] (Zc Zd [] ?_)
 simp only [push_cast,seval,↓reduceIte,Za,hi0,hk0,hN0,hN]
 refine Zk [1,15,16,17] [false,false,false,false,false,false,true,true,true] ?_
 simp only [push_cast,seval,↓reduceIte]
 obtain ⟨z11,hz11,h⟩:=bC h
 refine Yb (E':=⟨32,[],[]⟩) (O':=(Zv ((((O.upd j0_0 none).upd j0_1 none).upd j0_2 none).upd i0 (some ⟨false,110,4,1,[.row (n+6) z1.1.length,.val (.int .i64 z1.2.2.2),.row (n+7) z11.length,.row (n+8) z1.2.2.1.length]⟩)) n [none,none,none,none,none,none,some ⟨true,69,14,z1.1.length,fl Zf z1.1⟩,some ⟨true,25,3,z11.length,fl Zb z11⟩,some ⟨true,25,3,z1.2.2.1.length,fl Zb z1.2.2.1⟩])) (n0:=(n+9)) ?_ ?_
 ·refine Yn hz11 (fun s0_=>⟨32,[],[(1,.ref i0 2),(15,.sl a2.length (fl Zb a2)),(16,.val (.int .i64 (a2.length:Int))),(17,.val (.int .i64 s0_.1))]⟩) (fun s0_=>(Zv ((((O.upd j0_0 none).upd j0_1 none).upd j0_2 none).upd i0 (some ⟨false,110,4,1,[.row (n+6) z1.1.length,.val (.int .i64 z1.2.2.2),.row (n+7) s0_.2.length,.row (n+8) z1.2.2.1.length]⟩)) n [none,none,none,none,none,none,some ⟨true,69,14,z1.1.length,fl Zf z1.1⟩,some ⟨true,25,3,s0_.2.length,fl Zb s0_.2⟩,some ⟨true,25,3,z1.2.2.1.length,fl Zb z1.2.2.1⟩])) (fun z11=>JX 0 n (⟨32,[],[]⟩:Env) (Zv ((((O.upd j0_0 none).upd j0_1 none).upd j0_2 none).upd i0 (some ⟨false,110,4,1,[.row (n+6) z1.1.length,.val (.int .i64 z1.2.2.2),.row (n+7) z11.length,.row (n+8) z1.2.2.1.length]⟩)) n [none,none,none,none,none,none,some ⟨true,69,14,z1.1.length,fl Zf z1.1⟩,some ⟨true,25,3,z11.length,fl Zb z11⟩,some ⟨true,25,3,z1.2.2.1.length,fl Zb z1.2.2.1⟩]) (n+9)) ?_
  intro s0_ x0_ hs0_
  unfold X5 at hs0_
  try dsimp only
  refine Zq [1,15,16,17,18] (Zc Zd [] ?_)
  simp only [push_cast,seval,↓reduceIte,Za,hi0,hk0,hN0,hN]
  refine Zm ?_
  refine Zu (t:=(decide (s0_.1 < (a2.length:Int)))) rfl (fun c10 => ?_) (fun c10 => ?_)
  ·replace hs0_:=Zs c10 hs0_
   refine Zy ?_
   try simp only [Zl,Zi]
   refine Zk [1,15,16,17] [false,false,false,false,false,false,true,true,true] ?_
   simp only [push_cast,seval,↓reduceIte]
   refine Zm ?_
   refine Z6 ?_
   refine Zm ?_
   obtain ⟨x5,hx5,ax5,bx5,cx5,hs0_⟩:=bE (f:=Zb) Zai (fun _=>rfl) (by decide) hs0_
   refine Zc Zd [] ?_
   simp only [push_cast,Nat.reduceAdd,Nat.reduceSub,Nat.reduceMul,Nat.reduceLeDiff,Nat.reduceLT,Nat.reduceEqDiff,↓reduceIte,reduceCtorEq,Int.reduceBEq,Int.reduceBNe,Nat.reduceBEq,Int.reduceLE,Int.reduceLT,Int.reduceEq,Int.reduceNe,Int.reduceNeg,Nat.reduceDiv,Nat.reduceMod,Nat.reducePow,Za,ax5,bx5,cx5,hi0,hk0,hN0,hN]
   refine Zk [1,7,15,16,17] [false,false,false,false,false,false,true,true,true,true] ?_
   simp only [push_cast,seval,↓reduceIte]
   obtain ⟨y6,hy6,hs0_⟩:=bC hs0_
   obtain ⟨l7,pl7,ql7,el7,hs0_⟩:=bA (k:=1) rfl hs0_
   obtain ⟨x8,hx8,ax8,bx8,cx8,hs0_⟩:=bE (f:=Zb) Zai (fun _=>rfl) (by decide) hs0_
   have gu9:J4 (fl Zb s0_.2++[.val (.int .i64 0),.val (.slice none 0 0),.val (.slice none 0 0)]) [.val (.int .i64 y6.Kind),.sl y6.Words.length (fl (eI .u64) y6.Words),.sl y6.Kids.length (fl Zb y6.Kids)] (List.length s0_.2 * 3)=some (fl Zb s0_.2++[.val (.int .i64 y6.Kind),.sl y6.Words.length (fl (eI .u64) y6.Words),.sl y6.Kids.length (fl Zb y6.Kids)]):=Zcq (f:=Zb) (sz:=3) (fun _=>rfl) rfl rfl
   refine Zc0 Zd (by kernel_rfl) [.low,.low,.low,.low,.low,.low,.pass,.bar,.shp,.fill true,.shp,.fill false] (fun i=>i < (n+10)) [0,1,2,3,4,5,6,7,8,9,10,11] [.low,.low,.low,.low,.low,.low,.pass,.bar,.shp,.fill true,.shp,.fill false] [] (by kernel_rfl) rfl ?_
   simp only [push_cast,Nat.reduceAdd,Nat.reduceSub,Nat.reduceMul,Nat.reduceLeDiff,Nat.reduceLT,Nat.reduceEqDiff,↓reduceIte,reduceCtorEq,Int.reduceBEq,Int.reduceBNe,Nat.reduceBEq,Int.reduceLE,Int.reduceLT,Int.reduceEq,Int.reduceNe,Int.reduceNeg,Nat.reduceDiv,Nat.reduceMod,Nat.reducePow,Za,pl7,ql7,el7,ax8,bx8,cx8,gu9,hi0,hk0,hN0,hN]
   repeat (with_reducible refine And.intro (by first | omega | exact Qa rfl | exact Xk | exact Js rfl rfl) ?_)
   first | refine PCallA.of (fun _ _=>Zbv hy6) ?_ | refine PCall.of (Zbv hy6) ?_
   simp only [push_cast,Nat.reduceAdd,Nat.reduceSub,Nat.reduceMul,Nat.reduceLeDiff,Nat.reduceLT,Nat.reduceEqDiff,↓reduceIte,reduceCtorEq,Int.reduceBEq,Int.reduceBNe,Nat.reduceBEq,Int.reduceLE,Int.reduceLT,Int.reduceEq,Int.reduceNe,Int.reduceNeg,Nat.reduceDiv,Nat.reduceMod,Nat.reducePow,Za,pl7,ql7,el7,ax8,bx8,cx8,gu9,hi0,hk0,hN0,hN]
   repeat (with_reducible refine And.intro (by first | omega | exact Qa rfl | exact Xk | exact Js rfl rfl) ?_)
   refine Zbw ⟨32,[],[(1,.ref i0 2),(15,.sl a2.length (fl Zb a2)),(16,.val (.int .i64 (a2.length:Int))),(17,.val (.int .i64 s0_.1))]⟩ (Zv ((((O.upd j0_0 none).upd j0_1 none).upd j0_2 none).upd i0 (some ⟨false,110,4,1,[.row (n+6) z1.1.length,.val (.int .i64 z1.2.2.2),.row (n+7) (s0_.2++[y6]).length,.row (n+8) z1.2.2.1.length]⟩)) n [none,none,none,none,none,none,some ⟨true,69,14,z1.1.length,fl Zf z1.1⟩,some ⟨true,25,3,(s0_.2++[y6]).length,fl Zb (s0_.2++[y6])⟩,some ⟨true,25,3,z1.2.2.1.length,fl Zb z1.2.2.1⟩,none,none]) (Xj hU rfl rfl ?_) ?_
   ·simp only [push_cast,Nat.reduceAdd,Nat.reduceSub,Nat.reduceMul,Nat.reduceLeDiff,Nat.reduceLT,Nat.reduceEqDiff,↓reduceIte,reduceCtorEq,Int.reduceBEq,Int.reduceBNe,Nat.reduceBEq,Int.reduceLE,Int.reduceLT,Int.reduceEq,Int.reduceNe,Int.reduceNeg,Nat.reduceDiv,Nat.reduceMod,Nat.reducePow,Za,pl7,ql7,el7,ax8,bx8,cx8,gu9,hi0,hk0,hN0,hN]
   refine Zc Zd [] ?_
   simp only [push_cast,seval,↓reduceIte,Za,hi0,hk0,hN0,hN]
   have hs0_:=Option.some.inj hs0_;subst hs0_
   refine And.intro rfl (Fit2.of (Xj hU rfl rfl ?_) (by omega))
   simp only [push_cast,seval,↓reduceIte,Za,hi0,hk0,hN0,hN]
  replace hs0_:=Zr c10 hs0_
  refine Yx ?_
  try simp only [Zl,Zi,↓reduceIte,Nat.reduceEqDiff]
  have hs0_:=Option.some.inj hs0_;subst hs0_
  refine And.intro (fun h=>by cases h) (And.intro rfl (Fit2.of (Xj hU rfl rfl ?_) (by omega)))
  simp only [push_cast,seval,↓reduceIte,Za,hi0,hk0,hN0,hN]
 try simp only [Zl,Zi,↓reduceIte,Nat.reduceEqDiff]
 have h:=Option.some.inj h;subst h
 refine Zgv (k:=3) (i:=i0) (q1:=⟨false,110,4,1,[.row (n+2) z1.1.length,.val (.int .i64 z1.2.2.2),.row n z11.length,.row (n+1) z1.2.2.1.length]⟩) (L3:=[some ⟨true,25,3,z11.length,fl Zb z11⟩,some ⟨true,25,3,z1.2.2.1.length,fl Zb z1.2.2.1⟩,some ⟨true,69,14,z1.1.length,fl Zf z1.1⟩,none]) (E2:=(⟨32,[],[]⟩:Env)) (n3:=(n+4)) (.inl rfl) hU rfl [] ?_ ?_
 ·refine Fit2.trans (E':=(⟨32,[],[]⟩:Env)) (O':=(Zv ((((O.upd j0_0 none).upd j0_1 none).upd j0_2 none).upd i0 (some ⟨false,110,4,1,[.row (n+6) z1.1.length,.val (.int .i64 z1.2.2.2),.row (n+7) z11.length,.row (n+8) z1.2.2.1.length]⟩)) n [none,none,none,none,none,none,some ⟨true,69,14,z1.1.length,fl Zf z1.1⟩,some ⟨true,25,3,z11.length,fl Zb z11⟩,some ⟨true,25,3,z1.2.2.1.length,fl Zb z1.2.2.1⟩])) (n':=(n+9)) (Fit2.of (Xj hU rfl rfl ?_) (by omega)) ?_
  ·simp only [push_cast,seval,↓reduceIte,Za,hi0,hk0,hN0,hN]
  refine Zah (k:=9) (k':=4) hU [3,3,3,3,3,3,2,0,1] [7,8,6,0] rfl rfl rfl rfl ⟨rfl,rfl⟩ ?_
  simp only [push_cast,seval,↓reduceIte,Za,hi0,hk0,hN0,hN]
 simp only [push_cast,seval,↓reduceIte,Za,Try.results85,hi0,hk0,hN0,hN]
theorem Zf7 {a0:Zw} {a2:(List S_api_Tree)} {r:Zw} {O:Objs} {n:Nat} {i0 j0_0 j0_1 j0_2:Nat} (hi0:i0 < n) (Zgb:j0_0 < n) (Zgc:j0_1 < n) (Zgd:j0_2 < n) (Zc8:i0≠j0_0) (Gk:i0≠j0_1) (Gl:i0≠j0_2) (Gh:j0_0≠j0_1) (Gi:j0_0≠j0_2) (Gj:j0_1≠j0_2) (ho0:O i0=some ⟨false,110,4,1,[.row j0_2 a0.out.length,.val (.int .i64 a0.kept),.row j0_0 a0.gone.length,.row j0_1 a0.come.length]⟩) (Zhh:O j0_0=some ⟨true,25,3,a0.gone.length,fl Zb a0.gone⟩) (Zhi:O j0_1=some ⟨true,25,3,a0.come.length,fl Zb a0.come⟩) (Zhj:O j0_2=some ⟨true,69,14,a0.out.length,fl Zf a0.out⟩) (h:Qu a0 a2=some r):GTo Try.prog 85 [.ref i0 0,.ref i0 3,.sl a2.length (fl Zb a2)] O n (.tup []) (Zv ((((O.upd j0_0 none).upd j0_1 none).upd j0_2 none).upd i0 (some ⟨false,110,4,1,[.row (n+2) r.out.length,.val (.int .i64 r.kept),.row n r.gone.length,.row (n+1) r.come.length]⟩)) n [some ⟨true,25,3,r.gone.length,fl Zb r.gone⟩,some ⟨true,25,3,r.come.length,fl Zb r.come⟩,some ⟨true,69,14,r.out.length,fl Zf r.out⟩]) (n+3):=by
 unfold Qu at h
 refine Y3 Zd Try.call85 Try.func85 rfl (Nat.le_of_ble_eq_true rfl) (by omega) fun hU => ?_
 have e0:=Vy (ba:=n) (E:=⟨32,[],Zff 0 [.ref i0 0,.ref i0 3,.sl a2.length (fl Zb a2)]⟩) (O:=(Zv O n [])) (n:=n) (i:=i0) (j:=j0_0) (k:=2) (len:=a0.gone.length) (q:=⟨false,110,4,1,[.row j0_2 a0.out.length,.val (.int .i64 a0.kept),.row j0_0 a0.gone.length,.row j0_1 a0.come.length]⟩) (qj:=⟨true,25,3,a0.gone.length,fl Zb a0.gone⟩) (by rw [Yr _ hi0];first | exact ho0 | exact Ya _ _ _) rfl (by rw [Yr _ Zgb];exact Zhh) Zc8 (by omega)
 simp only [Y2 _ _ Zgb,Y2 _ _ hi0,Yv,Yj,Q9,Zco Zc8,List.set_cons_zero,List.set_cons_succ,List.cons_append,List.nil_append,List.length_cons,List.length_nil,Nat.zero_add,Nat.reduceAdd,Nat.add_assoc] at e0
 refine Jh e0 ?_
 have e1:=Vy (ba:=n) (E:=⟨32,[],Zff 0 [.ref i0 0,.ref i0 3,.sl a2.length (fl Zb a2)]⟩) (O:=(Zv ((O.upd j0_0 none).upd i0 (some ⟨false,110,4,1,[.row j0_2 a0.out.length,.val (.int .i64 a0.kept),.row n a0.gone.length,.row j0_1 a0.come.length]⟩)) n [some ⟨true,25,3,a0.gone.length,fl Zb a0.gone⟩])) (n:=(n+1)) (i:=i0) (j:=j0_1) (k:=3) (len:=a0.come.length) (q:=⟨false,110,4,1,[.row j0_2 a0.out.length,.val (.int .i64 a0.kept),.row n a0.gone.length,.row j0_1 a0.come.length]⟩) (qj:=⟨true,25,3,a0.come.length,fl Zb a0.come⟩) (by rw [Yr _ hi0];first | exact ho0 | exact Ya _ _ _) rfl (by rw [Yr _ Zgc,Yu _ _ (Ne.symm Gk),Yu _ _ (Ne.symm Gh)];exact Zhi) Gk (by omega)
 simp only [Y2 _ _ Zgc,Y2 _ _ hi0,Yv,Yj,Q9,Zco Gk,List.set_cons_zero,List.set_cons_succ,List.cons_append,List.nil_append,List.length_cons,List.length_nil,Nat.zero_add,Nat.reduceAdd,Nat.add_assoc] at e1
 refine Jh e1 ?_
 have e2:=Vy (ba:=n) (E:=⟨32,[],Zff 0 [.ref i0 0,.ref i0 3,.sl a2.length (fl Zb a2)]⟩) (O:=(Zv (((O.upd j0_0 none).upd j0_1 none).upd i0 (some ⟨false,110,4,1,[.row j0_2 a0.out.length,.val (.int .i64 a0.kept),.row n a0.gone.length,.row (n+1) a0.come.length]⟩)) n [some ⟨true,25,3,a0.gone.length,fl Zb a0.gone⟩,some ⟨true,25,3,a0.come.length,fl Zb a0.come⟩])) (n:=(n+2)) (i:=i0) (j:=j0_2) (k:=0) (len:=a0.out.length) (q:=⟨false,110,4,1,[.row j0_2 a0.out.length,.val (.int .i64 a0.kept),.row n a0.gone.length,.row (n+1) a0.come.length]⟩) (qj:=⟨true,69,14,a0.out.length,fl Zf a0.out⟩) (by rw [Yr _ hi0];first | exact ho0 | exact Ya _ _ _) rfl (by rw [Yr _ Zgd,Yu _ _ (Ne.symm Gl),Yu _ _ (Ne.symm Gj),Yu _ _ (Ne.symm Gi)];exact Zhj) Gl (by omega)
 simp only [Y2 _ _ Zgd,Y2 _ _ hi0,Yv,Yj,Q9,Zco Gl,List.set_cons_zero,List.set_cons_succ,List.cons_append,List.nil_append,List.length_cons,List.length_nil,Nat.zero_add,Nat.reduceAdd,Nat.add_assoc] at e2
 refine Jh e2 ?_
 have hU:=(Und.drop (Und.drop (Und.drop hU j0_0) j0_1) j0_2)
 have hk0:∀ k,i0 < n+k:=fun k=>by omega
 have hN0:∀ o,Objs.upd (((O.upd j0_0 none).upd j0_1 none).upd j0_2 none) i0 o n=none:=fun o=>Zan hU hi0 _ (Nat.le_refl _)
 have hN:∀ o k,Objs.upd (((O.upd j0_0 none).upd j0_1 none).upd j0_2 none) i0 o (n+k)=none:=fun o k=>Zan hU hi0 _ (Nat.le_add_right _ _)
 show W _ _ _ _ ⟨32,[],[(0,.ref i0 0),(1,.ref i0 3),(2,.sl a2.length (fl Zb a2))]⟩ (Zv ((((O.upd j0_0 none).upd j0_1 none).upd j0_2 none).upd i0 (some ⟨false,110,4,1,[.row (n+2) a0.out.length,.val (.int .i64 a0.kept),.row n a0.gone.length,.row (n+1) a0.come.length]⟩)) n [some ⟨true,25,3,a0.gone.length,fl Zb a0.gone⟩,some ⟨true,25,3,a0.come.length,fl Zb a0.come⟩,some ⟨true,69,14,a0.out.length,fl Zf a0.out⟩]) _
 obtain ⟨z1,hz1,h⟩:=bC h
 refine Yl (E':=⟨32,[],[(1,.ref i0 3),(2,.sl a2.length (fl Zb a2))]⟩) (O':=(Zv ((((O.upd j0_0 none).upd j0_1 none).upd j0_2 none).upd i0 (some ⟨false,110,4,1,[.row (n+6) z1.1.length,.val (.int .i64 z1.2.2.2),.row (n+7) z1.2.1.length,.row (n+8) z1.2.2.1.length]⟩)) n [none,none,none,none,none,none,some ⟨true,69,14,z1.1.length,fl Zf z1.1⟩,some ⟨true,25,3,z1.2.1.length,fl Zb z1.2.1⟩,some ⟨true,25,3,z1.2.2.1.length,fl Zb z1.2.2.1⟩])) (n0:=(n+9)) ?_ ?_
 ·refine Zq [0,1,2,12] (Zc Zd [] ?_)
  simp only [push_cast,seval,↓reduceIte,Za,hi0,hk0,hN0,hN]
  refine Zu (t:=(decide (0 < a0.kept))) rfl (fun c3 => ?_) (fun c3 => ?_)
  ·replace hz1:=Zs c3 hz1
   obtain ⟨y2,hy2,hz1⟩:=bC hz1
   refine Zc Zd [] ?_
   simp only [push_cast,seval,↓reduceIte,Za,hi0,hk0,hN0,hN]
   refine (Kt (i0:=i0) (j0_0:=n) (j0_1:=(n+1)) (j0_2:=(n+2)) (by omega) (by omega) (by omega) (by omega) (by omega) (by omega) (by omega) (by omega) (by omega) (by omega) (by simp only [push_cast,seval,↓reduceIte,Za,Xg,hi0,hk0,hN0,hN] <;> rfl) (by simp only [push_cast,seval,↓reduceIte,Za,Xg,hi0,hk0,hN0,hN] <;> rfl) (by simp only [push_cast,seval,↓reduceIte,Za,Xg,hi0,hk0,hN0,hN] <;> rfl) (by simp only [push_cast,seval,↓reduceIte,Za,Xg,hi0,hk0,hN0,hN] <;> rfl) hy2).then ?_
   simp only [push_cast,seval,↓reduceIte,Za,hi0,hk0,hN0,hN]
   have hz1:=Option.some.inj hz1;subst hz1
   refine And.intro rfl ?_
   refine Fit2.trans (E':=(⟨32,[],[(1,.ref i0 3),(2,.sl a2.length (fl Zb a2))]⟩:Env)) (O':=(Zv ((((O.upd j0_0 none).upd j0_1 none).upd j0_2 none).upd i0 (some ⟨false,110,4,1,[.row (n+5) y2.out.length,.val (.int .i64 y2.kept),.row (n+3) y2.gone.length,.row (n+4) y2.come.length]⟩)) n [none,none,none,some ⟨true,25,3,y2.gone.length,fl Zb y2.gone⟩,some ⟨true,25,3,y2.come.length,fl Zb y2.come⟩,some ⟨true,69,14,y2.out.length,fl Zf y2.out⟩])) (n':=(n+6)) (Fit2.of (Xj hU rfl rfl ?_) (by omega)) ?_
   ·simp only [push_cast,seval,↓reduceIte,Za,hi0,hk0,hN0,hN]
   refine Zah (k:=6) (k':=9) hU [5,5,5,7,8,6] [0,0,0,0,0,0,5,3,4] rfl rfl rfl rfl ⟨rfl,rfl⟩ ?_
   simp only [push_cast,seval,↓reduceIte,Za,hi0,hk0,hN0,hN]
  replace hz1:=Zr c3 hz1
  refine Zy ?_
  try simp only [Zl,Zi]
  have hz1:=Option.some.inj hz1;subst hz1
  refine And.intro rfl ?_
  refine Fit2.trans (E':=(⟨32,[],[(1,.ref i0 3),(2,.sl a2.length (fl Zb a2))]⟩:Env)) (O':=(Zv ((((O.upd j0_0 none).upd j0_1 none).upd j0_2 none).upd i0 (some ⟨false,110,4,1,[.row (n+2) a0.out.length,.val (.int .i64 a0.kept),.row n a0.gone.length,.row (n+1) a0.come.length]⟩)) n [some ⟨true,25,3,a0.gone.length,fl Zb a0.gone⟩,some ⟨true,25,3,a0.come.length,fl Zb a0.come⟩,some ⟨true,69,14,a0.out.length,fl Zf a0.out⟩])) (n':=(n+3)) (Fit2.of (Xj hU rfl rfl ?_) (by omega)) ?_
  ·simp only [push_cast,seval,↓reduceIte,Za,hi0,hk0,hN0,hN]
  refine Zah (k:=3) (k':=9) hU [7,8,6] [0,0,0,0,0,0,2,0,1] rfl rfl rfl rfl ⟨rfl,rfl⟩ ?_
  simp only [push_cast,seval,↓reduceIte,Za,hi0,hk0,hN0,hN]
 refine Zq [1,15,16,17] (Zc Zd [] ?_)
 simp only [push_cast,seval,↓reduceIte,Za,hi0,hk0,hN0,hN]
 refine Zk [1,15,16,17] [false,false,false,false,false,false,true,true,true] ?_
 simp only [push_cast,seval,↓reduceIte]
 obtain ⟨z11,hz11,h⟩:=bC h
 refine Yb (E':=⟨32,[],[]⟩) (O':=(Zv ((((O.upd j0_0 none).upd j0_1 none).upd j0_2 none).upd i0 (some ⟨false,110,4,1,[.row (n+6) z1.1.length,.val (.int .i64 z1.2.2.2),.row (n+7) z1.2.1.length,.row (n+8) z11.length]⟩)) n [none,none,none,none,none,none,some ⟨true,69,14,z1.1.length,fl Zf z1.1⟩,some ⟨true,25,3,z1.2.1.length,fl Zb z1.2.1⟩,some ⟨true,25,3,z11.length,fl Zb z11⟩])) (n0:=(n+9)) ?_ ?_
 ·refine Yn hz11 (fun s0_=>⟨32,[],[(1,.ref i0 3),(15,.sl a2.length (fl Zb a2)),(16,.val (.int .i64 (a2.length:Int))),(17,.val (.int .i64 s0_.1))]⟩) (fun s0_=>(Zv ((((O.upd j0_0 none).upd j0_1 none).upd j0_2 none).upd i0 (some ⟨false,110,4,1,[.row (n+6) z1.1.length,.val (.int .i64 z1.2.2.2),.row (n+7) z1.2.1.length,.row (n+8) s0_.2.length]⟩)) n [none,none,none,none,none,none,some ⟨true,69,14,z1.1.length,fl Zf z1.1⟩,some ⟨true,25,3,z1.2.1.length,fl Zb z1.2.1⟩,some ⟨true,25,3,s0_.2.length,fl Zb s0_.2⟩])) (fun z11=>JX 0 n (⟨32,[],[]⟩:Env) (Zv ((((O.upd j0_0 none).upd j0_1 none).upd j0_2 none).upd i0 (some ⟨false,110,4,1,[.row (n+6) z1.1.length,.val (.int .i64 z1.2.2.2),.row (n+7) z1.2.1.length,.row (n+8) z11.length]⟩)) n [none,none,none,none,none,none,some ⟨true,69,14,z1.1.length,fl Zf z1.1⟩,some ⟨true,25,3,z1.2.1.length,fl Zb z1.2.1⟩,some ⟨true,25,3,z11.length,fl Zb z11⟩]) (n+9)) ?_
  intro s0_ x0_ hs0_
  unfold X6 at hs0_
  try dsimp only
  refine Zq [1,15,16,17,18] (Zc Zd [] ?_)
  simp only [push_cast,seval,↓reduceIte,Za,hi0,hk0,hN0,hN]
  refine Zm ?_
  refine Zu (t:=(decide (s0_.1 < (a2.length:Int)))) rfl (fun c10 => ?_) (fun c10 => ?_)
  ·replace hs0_:=Zs c10 hs0_
   refine Zy ?_
   try simp only [Zl,Zi]
   refine Zk [1,15,16,17] [false,false,false,false,false,false,true,true,true] ?_
   simp only [push_cast,seval,↓reduceIte]
   refine Zm ?_
   refine Z6 ?_
   refine Zm ?_
   obtain ⟨x5,hx5,ax5,bx5,cx5,hs0_⟩:=bE (f:=Zb) Zai (fun _=>rfl) (by decide) hs0_
   refine Zc Zd [] ?_
   simp only [push_cast,Nat.reduceAdd,Nat.reduceSub,Nat.reduceMul,Nat.reduceLeDiff,Nat.reduceLT,Nat.reduceEqDiff,↓reduceIte,reduceCtorEq,Int.reduceBEq,Int.reduceBNe,Nat.reduceBEq,Int.reduceLE,Int.reduceLT,Int.reduceEq,Int.reduceNe,Int.reduceNeg,Nat.reduceDiv,Nat.reduceMod,Nat.reducePow,Za,ax5,bx5,cx5,hi0,hk0,hN0,hN]
   refine Zk [1,7,15,16,17] [false,false,false,false,false,false,true,true,true,true] ?_
   simp only [push_cast,seval,↓reduceIte]
   obtain ⟨y6,hy6,hs0_⟩:=bC hs0_
   obtain ⟨l7,pl7,ql7,el7,hs0_⟩:=bA (k:=1) rfl hs0_
   obtain ⟨x8,hx8,ax8,bx8,cx8,hs0_⟩:=bE (f:=Zb) Zai (fun _=>rfl) (by decide) hs0_
   have gu9:J4 (fl Zb s0_.2++[.val (.int .i64 0),.val (.slice none 0 0),.val (.slice none 0 0)]) [.val (.int .i64 y6.Kind),.sl y6.Words.length (fl (eI .u64) y6.Words),.sl y6.Kids.length (fl Zb y6.Kids)] (List.length s0_.2 * 3)=some (fl Zb s0_.2++[.val (.int .i64 y6.Kind),.sl y6.Words.length (fl (eI .u64) y6.Words),.sl y6.Kids.length (fl Zb y6.Kids)]):=Zcq (f:=Zb) (sz:=3) (fun _=>rfl) rfl rfl
   refine Zc0 Zd (by kernel_rfl) [.low,.low,.low,.low,.low,.low,.pass,.bar,.shp,.fill true,.shp,.fill false] (fun i=>i < (n+10)) [0,1,2,3,4,5,6,7,8,9,10,11] [.low,.low,.low,.low,.low,.low,.pass,.bar,.shp,.fill true,.shp,.fill false] [] (by kernel_rfl) rfl ?_
   simp only [push_cast,Nat.reduceAdd,Nat.reduceSub,Nat.reduceMul,Nat.reduceLeDiff,Nat.reduceLT,Nat.reduceEqDiff,↓reduceIte,reduceCtorEq,Int.reduceBEq,Int.reduceBNe,Nat.reduceBEq,Int.reduceLE,Int.reduceLT,Int.reduceEq,Int.reduceNe,Int.reduceNeg,Nat.reduceDiv,Nat.reduceMod,Nat.reducePow,Za,pl7,ql7,el7,ax8,bx8,cx8,gu9,hi0,hk0,hN0,hN]
   repeat (with_reducible refine And.intro (by first | omega | exact Qa rfl | exact Xk | exact Js rfl rfl) ?_)
   first | refine PCallA.of (fun _ _=>Zbv hy6) ?_ | refine PCall.of (Zbv hy6) ?_
   simp only [push_cast,Nat.reduceAdd,Nat.reduceSub,Nat.reduceMul,Nat.reduceLeDiff,Nat.reduceLT,Nat.reduceEqDiff,↓reduceIte,reduceCtorEq,Int.reduceBEq,Int.reduceBNe,Nat.reduceBEq,Int.reduceLE,Int.reduceLT,Int.reduceEq,Int.reduceNe,Int.reduceNeg,Nat.reduceDiv,Nat.reduceMod,Nat.reducePow,Za,pl7,ql7,el7,ax8,bx8,cx8,gu9,hi0,hk0,hN0,hN]
   repeat (with_reducible refine And.intro (by first | omega | exact Qa rfl | exact Xk | exact Js rfl rfl) ?_)
   refine Zbw ⟨32,[],[(1,.ref i0 3),(15,.sl a2.length (fl Zb a2)),(16,.val (.int .i64 (a2.length:Int))),(17,.val (.int .i64 s0_.1))]⟩ (Zv ((((O.upd j0_0 none).upd j0_1 none).upd j0_2 none).upd i0 (some ⟨false,110,4,1,[.row (n+6) z1.1.length,.val (.int .i64 z1.2.2.2),.row (n+7) z1.2.1.length,.row (n+8) (s0_.2++[y6]).length]⟩)) n [none,none,none,none,none,none,some ⟨true,69,14,z1.1.length,fl Zf z1.1⟩,some ⟨true,25,3,z1.2.1.length,fl Zb z1.2.1⟩,some ⟨true,25,3,(s0_.2++[y6]).length,fl Zb (s0_.2++[y6])⟩,none,none]) (Xj hU rfl rfl ?_) ?_
   ·simp only [push_cast,Nat.reduceAdd,Nat.reduceSub,Nat.reduceMul,Nat.reduceLeDiff,Nat.reduceLT,Nat.reduceEqDiff,↓reduceIte,reduceCtorEq,Int.reduceBEq,Int.reduceBNe,Nat.reduceBEq,Int.reduceLE,Int.reduceLT,Int.reduceEq,Int.reduceNe,Int.reduceNeg,Nat.reduceDiv,Nat.reduceMod,Nat.reducePow,Za,pl7,ql7,el7,ax8,bx8,cx8,gu9,hi0,hk0,hN0,hN]
   refine Zc Zd [] ?_
   simp only [push_cast,seval,↓reduceIte,Za,hi0,hk0,hN0,hN]
   have hs0_:=Option.some.inj hs0_;subst hs0_
   refine And.intro rfl (Fit2.of (Xj hU rfl rfl ?_) (by omega))
   simp only [push_cast,seval,↓reduceIte,Za,hi0,hk0,hN0,hN]
  replace hs0_:=Zr c10 hs0_
  refine Yx ?_
  try simp only [Zl,Zi,↓reduceIte,Nat.reduceEqDiff]
  have hs0_:=Option.some.inj hs0_;subst hs0_
  refine And.intro (fun h=>by cases h) (And.intro rfl (Fit2.of (Xj hU rfl rfl ?_) (by omega)))
  simp only [push_cast,seval,↓reduceIte,Za,hi0,hk0,hN0,hN]
 try simp only [Zl,Zi,↓reduceIte,Nat.reduceEqDiff]
 have h:=Option.some.inj h;subst h
 refine Zgv (k:=3) (i:=i0) (q1:=⟨false,110,4,1,[.row (n+2) z1.1.length,.val (.int .i64 z1.2.2.2),.row n z1.2.1.length,.row (n+1) z11.length]⟩) (L3:=[some ⟨true,25,3,z1.2.1.length,fl Zb z1.2.1⟩,some ⟨true,25,3,z11.length,fl Zb z11⟩,some ⟨true,69,14,z1.1.length,fl Zf z1.1⟩,none]) (E2:=(⟨32,[],[]⟩:Env)) (n3:=(n+4)) (.inl rfl) hU rfl [] ?_ ?_
 ·refine Fit2.trans (E':=(⟨32,[],[]⟩:Env)) (O':=(Zv ((((O.upd j0_0 none).upd j0_1 none).upd j0_2 none).upd i0 (some ⟨false,110,4,1,[.row (n+6) z1.1.length,.val (.int .i64 z1.2.2.2),.row (n+7) z1.2.1.length,.row (n+8) z11.length]⟩)) n [none,none,none,none,none,none,some ⟨true,69,14,z1.1.length,fl Zf z1.1⟩,some ⟨true,25,3,z1.2.1.length,fl Zb z1.2.1⟩,some ⟨true,25,3,z11.length,fl Zb z11⟩])) (n':=(n+9)) (Fit2.of (Xj hU rfl rfl ?_) (by omega)) ?_
  ·simp only [push_cast,seval,↓reduceIte,Za,hi0,hk0,hN0,hN]
  refine Zah (k:=9) (k':=4) hU [3,3,3,3,3,3,2,0,1] [7,8,6,0] rfl rfl rfl rfl ⟨rfl,rfl⟩ ?_
  simp only [push_cast,seval,↓reduceIte,Za,hi0,hk0,hN0,hN]
 simp only [push_cast,seval,↓reduceIte,Za,Try.results85,hi0,hk0,hN0,hN]
theorem Zpw {a0:Int} {a1:S_api_Edit} {r:Bool} {O:Objs} {n:Nat} (h:Zb7 a0 a1=some r):GTo Try.prog 20 [.val (.int .i64 a0),.agg (Ze a1)] O n (.val (.bool r)) O n:=by
 unfold Zb7 at h
 refine Y3 Zd Try.call20 Try.func20 rfl (Nat.le_of_ble_eq_true rfl) (Nat.le_refl _) fun hU => ?_
 have hN0:O n=none:=hU.fresh _ (Nat.le_refl _)
 have hN:∀ k,O (n+k)=none:=fun k=>hU.fresh _ (Nat.le_add_right _ _)
 show W _ _ _ _ ⟨27,[],[(0,.val (.int .i64 a0)),(1,.agg (Ze a1))]⟩ (Zv O n []) _
 refine Zq [0,3] (Zc Zd [] ?_)
 simp only [push_cast,seval,↓reduceIte,Za,hN0,hN]
 refine Zq [4] (Zc Zd [none,none,none,none,none,none,none,none,none,none,none,none,none,none,none,none,none] ?_)
 simp only [push_cast,seval,↓reduceIte,Za,hN0,hN]
 repeat (with_reducible refine And.intro (by first | (intro h0;simp only [h0,and_self];done) | (intro h0;simp only [h0,Bool.not_false,Bool.not_true,Bool.true_and,Bool.and_true,true_and,and_true,and_self,imp_self,implies_true,bne_iff_ne,ne_eq,beq_iff_eq];done) | (intros;simp_all;done) | exact True.intro) ?_)
 refine Z0 ?_
 try simp only [Zl,Zi]
 have h:=Option.some.inj h;subst h
 refine Zt (.inr rfl) hU [.val (.bool (cond (a1.Kind == 0) true (cond (cond (a0 == 9) (a1.Kind == 2) false) ((IntKind.i64.wrap ((a1.Words.length:Int)+(a1.Kids.length:Int))) == 0) false)))] (by omega) ?_
 simp only [push_cast,seval,↓reduceIte,Za,Try.results20,hN0,hN]
theorem Zgn {a0:Zw} {a1:Int} {a2:S_api_Edit} {r:Zw} {O:Objs} {n:Nat} {i0 j0_0 j0_1 j0_2:Nat} (hi0:i0 < n) (Zgb:j0_0 < n) (Zgc:j0_1 < n) (Zgd:j0_2 < n) (Zc8:i0≠j0_0) (Gk:i0≠j0_1) (Gl:i0≠j0_2) (Gh:j0_0≠j0_1) (Gi:j0_0≠j0_2) (Gj:j0_1≠j0_2) (ho0:O i0=some ⟨false,110,4,1,[.row j0_2 a0.out.length,.val (.int .i64 a0.kept),.row j0_0 a0.gone.length,.row j0_1 a0.come.length]⟩) (Zhh:O j0_0=some ⟨true,25,3,a0.gone.length,fl Zb a0.gone⟩) (Zhi:O j0_1=some ⟨true,25,3,a0.come.length,fl Zb a0.come⟩) (Zhj:O j0_2=some ⟨true,69,14,a0.out.length,fl Zf a0.out⟩) (h:Q5 a0 a1 a2=some r):GTo Try.prog 86 [.ref i0 0,.val (.int .i64 a1),.agg (Ze a2)] O n (.tup []) (Zv ((((O.upd j0_0 none).upd j0_1 none).upd j0_2 none).upd i0 (some ⟨false,110,4,1,[.row (n+2) r.out.length,.val (.int .i64 r.kept),.row n r.gone.length,.row (n+1) r.come.length]⟩)) n [some ⟨true,25,3,r.gone.length,fl Zb r.gone⟩,some ⟨true,25,3,r.come.length,fl Zb r.come⟩,some ⟨true,69,14,r.out.length,fl Zf r.out⟩]) (n+3):=by
 unfold Q5 at h
 refine Y3 Zd Try.call86 Try.func86 rfl (Nat.le_of_ble_eq_true rfl) (by omega) fun hU => ?_
 have e0:=Vy (ba:=n) (E:=⟨25,[],Zff 0 [.ref i0 0,.val (.int .i64 a1),.agg [.val (.int .i64 a2.Kind),.val (.int .i64 a2.Old.Kind),.sl a2.Old.Words.length (fl (eI .u64) a2.Old.Words),.sl a2.Old.Kids.length (fl Zb a2.Old.Kids),.val (.int .i64 a2.New.Kind),.sl a2.New.Words.length (fl (eI .u64) a2.New.Words),.sl a2.New.Kids.length (fl Zb a2.New.Kids),.sl a2.Words.length (fl Zg a2.Words),.sl a2.Kids.length (fl Zh a2.Kids),.val (.int .i64 a2.List_),.sl a2.Ops.length (fl Zf a2.Ops)]]⟩) (O:=(Zv O n [])) (n:=n) (i:=i0) (j:=j0_0) (k:=2) (len:=a0.gone.length) (q:=⟨false,110,4,1,[.row j0_2 a0.out.length,.val (.int .i64 a0.kept),.row j0_0 a0.gone.length,.row j0_1 a0.come.length]⟩) (qj:=⟨true,25,3,a0.gone.length,fl Zb a0.gone⟩) (by rw [Yr _ hi0];first | exact ho0 | exact Ya _ _ _) rfl (by rw [Yr _ Zgb];exact Zhh) Zc8 (by omega)
 simp only [Y2 _ _ Zgb,Y2 _ _ hi0,Yv,Yj,Q9,Zco Zc8,List.set_cons_zero,List.set_cons_succ,List.cons_append,List.nil_append,List.length_cons,List.length_nil,Nat.zero_add,Nat.reduceAdd,Nat.add_assoc] at e0
 refine Jh e0 ?_
 have e1:=Vy (ba:=n) (E:=⟨25,[],Zff 0 [.ref i0 0,.val (.int .i64 a1),.agg [.val (.int .i64 a2.Kind),.val (.int .i64 a2.Old.Kind),.sl a2.Old.Words.length (fl (eI .u64) a2.Old.Words),.sl a2.Old.Kids.length (fl Zb a2.Old.Kids),.val (.int .i64 a2.New.Kind),.sl a2.New.Words.length (fl (eI .u64) a2.New.Words),.sl a2.New.Kids.length (fl Zb a2.New.Kids),.sl a2.Words.length (fl Zg a2.Words),.sl a2.Kids.length (fl Zh a2.Kids),.val (.int .i64 a2.List_),.sl a2.Ops.length (fl Zf a2.Ops)]]⟩) (O:=(Zv ((O.upd j0_0 none).upd i0 (some ⟨false,110,4,1,[.row j0_2 a0.out.length,.val (.int .i64 a0.kept),.row n a0.gone.length,.row j0_1 a0.come.length]⟩)) n [some ⟨true,25,3,a0.gone.length,fl Zb a0.gone⟩])) (n:=(n+1)) (i:=i0) (j:=j0_1) (k:=3) (len:=a0.come.length) (q:=⟨false,110,4,1,[.row j0_2 a0.out.length,.val (.int .i64 a0.kept),.row n a0.gone.length,.row j0_1 a0.come.length]⟩) (qj:=⟨true,25,3,a0.come.length,fl Zb a0.come⟩) (by rw [Yr _ hi0];first | exact ho0 | exact Ya _ _ _) rfl (by rw [Yr _ Zgc,Yu _ _ (Ne.symm Gk),Yu _ _ (Ne.symm Gh)];exact Zhi) Gk (by omega)
 simp only [Y2 _ _ Zgc,Y2 _ _ hi0,Yv,Yj,Q9,Zco Gk,List.set_cons_zero,List.set_cons_succ,List.cons_append,List.nil_append,List.length_cons,List.length_nil,Nat.zero_add,Nat.reduceAdd,Nat.add_assoc] at e1
 refine Jh e1 ?_
 have e2:=Vy (ba:=n) (E:=⟨25,[],Zff 0 [.ref i0 0,.val (.int .i64 a1),.agg [.val (.int .i64 a2.Kind),.val (.int .i64 a2.Old.Kind),.sl a2.Old.Words.length (fl (eI .u64) a2.Old.Words),.sl a2.Old.Kids.length (fl Zb a2.Old.Kids),.val (.int .i64 a2.New.Kind),.sl a2.New.Words.length (fl (eI .u64) a2.New.Words),.sl a2.New.Kids.length (fl Zb a2.New.Kids),.sl a2.Words.length (fl Zg a2.Words),.sl a2.Kids.length (fl Zh a2.Kids),.val (.int .i64 a2.List_),.sl a2.Ops.length (fl Zf a2.Ops)]]⟩) (O:=(Zv (((O.upd j0_0 none).upd j0_1 none).upd i0 (some ⟨false,110,4,1,[.row j0_2 a0.out.length,.val (.int .i64 a0.kept),.row n a0.gone.length,.row (n+1) a0.come.length]⟩)) n [some ⟨true,25,3,a0.gone.length,fl Zb a0.gone⟩,some ⟨true,25,3,a0.come.length,fl Zb a0.come⟩])) (n:=(n+2)) (i:=i0) (j:=j0_2) (k:=0) (len:=a0.out.length) (q:=⟨false,110,4,1,[.row j0_2 a0.out.length,.val (.int .i64 a0.kept),.row n a0.gone.length,.row (n+1) a0.come.length]⟩) (qj:=⟨true,69,14,a0.out.length,fl Zf a0.out⟩) (by rw [Yr _ hi0];first | exact ho0 | exact Ya _ _ _) rfl (by rw [Yr _ Zgd,Yu _ _ (Ne.symm Gl),Yu _ _ (Ne.symm Gj),Yu _ _ (Ne.symm Gi)];exact Zhj) Gl (by omega)
 simp only [Y2 _ _ Zgd,Y2 _ _ hi0,Yv,Yj,Q9,Zco Gl,List.set_cons_zero,List.set_cons_succ,List.cons_append,List.nil_append,List.length_cons,List.length_nil,Nat.zero_add,Nat.reduceAdd,Nat.add_assoc] at e2
 refine Jh e2 ?_
 have hU:=(Und.drop (Und.drop (Und.drop hU j0_0) j0_1) j0_2)
 have hk0:∀ k,i0 < n+k:=fun k=>by omega
 have hN0:∀ o,Objs.upd (((O.upd j0_0 none).upd j0_1 none).upd j0_2 none) i0 o n=none:=fun o=>Zan hU hi0 _ (Nat.le_refl _)
 have hN:∀ o k,Objs.upd (((O.upd j0_0 none).upd j0_1 none).upd j0_2 none) i0 o (n+k)=none:=fun o k=>Zan hU hi0 _ (Nat.le_add_right _ _)
 show W _ _ _ _ ⟨25,[],[(0,.ref i0 0),(1,.val (.int .i64 a1)),(2,.agg (Ze a2))]⟩ (Zv ((((O.upd j0_0 none).upd j0_1 none).upd j0_2 none).upd i0 (some ⟨false,110,4,1,[.row (n+2) a0.out.length,.val (.int .i64 a0.kept),.row n a0.gone.length,.row (n+1) a0.come.length]⟩)) n [some ⟨true,25,3,a0.gone.length,fl Zb a0.gone⟩,some ⟨true,25,3,a0.come.length,fl Zb a0.come⟩,some ⟨true,69,14,a0.out.length,fl Zf a0.out⟩]) _
 refine Zq [0,1,5] (Zc Zd [] ?_)
 simp only [push_cast,seval,↓reduceIte,Za,hi0,hk0,hN0,hN]
 refine Zm ?_
 refine Zm ?_
 obtain ⟨y2,hy2,h⟩:=bC h
 refine Zc Zd [] ?_
 simp only [push_cast,seval,↓reduceIte,Za,hi0,hk0,hN0,hN]
 refine (Zpw hy2).then ?_
 simp only [push_cast,seval,↓reduceIte,Za,hi0,hk0,hN0,hN]
 refine Zk [0,5,8] [true,true,true,true] ?_
 simp only [push_cast,seval,↓reduceIte]
 refine Zu (t:=y2) rfl (fun c10 => ?_) (fun c10 => ?_)
 ·replace h:=Zs c10 h
  refine Zm ?_
  obtain ⟨y4,hy4,h⟩:=bC h
  refine Zc Zd [] ?_
  simp only [push_cast,seval,↓reduceIte,Za,hi0,hk0,hN0,hN]
  refine (Zdv (i0:=i0) (j0_0:=n) (j0_1:=(n+1)) (j0_2:=(n+2)) (by omega) (by omega) (by omega) (by omega) (by omega) (by omega) (by omega) (by omega) (by omega) (by omega) (by simp only [push_cast,seval,↓reduceIte,Za,Xg,hi0,hk0,hN0,hN] <;> rfl) (by simp only [push_cast,seval,↓reduceIte,Za,Xg,hi0,hk0,hN0,hN] <;> rfl) (by simp only [push_cast,seval,↓reduceIte,Za,Xg,hi0,hk0,hN0,hN] <;> rfl) (by simp only [push_cast,seval,↓reduceIte,Za,Xg,hi0,hk0,hN0,hN] <;> rfl) hy4).then ?_
  simp only [push_cast,seval,↓reduceIte,Za,hi0,hk0,hN0,hN]
  refine Zk [] [false,false,false,false,true,true,true] ?_
  simp only [push_cast,seval,↓reduceIte]
  refine Z0 ?_
  try simp only [Zl,Zi]
  have h:=Option.some.inj h;subst h
  refine Zgv (k:=3) (i:=i0) (q1:=⟨false,110,4,1,[.row (n+2) y4.out.length,.val (.int .i64 y4.kept),.row n y4.gone.length,.row (n+1) y4.come.length]⟩) (L3:=[some ⟨true,25,3,y4.gone.length,fl Zb y4.gone⟩,some ⟨true,25,3,y4.come.length,fl Zb y4.come⟩,some ⟨true,69,14,y4.out.length,fl Zf y4.out⟩,none]) (E2:=(⟨25,[],[]⟩:Env)) (n3:=(n+4)) (.inr rfl) hU rfl [] ?_ ?_
  ·refine Fit2.trans (E':=(⟨25,[],[]⟩:Env)) (O':=(Zv ((((O.upd j0_0 none).upd j0_1 none).upd j0_2 none).upd i0 (some ⟨false,110,4,1,[.row (n+6) y4.out.length,.val (.int .i64 y4.kept),.row (n+4) y4.gone.length,.row (n+5) y4.come.length]⟩)) n [none,none,none,none,some ⟨true,25,3,y4.gone.length,fl Zb y4.gone⟩,some ⟨true,25,3,y4.come.length,fl Zb y4.come⟩,some ⟨true,69,14,y4.out.length,fl Zf y4.out⟩])) (n':=(n+7)) (Fit2.of (Xj hU rfl rfl ?_) (by omega)) ?_
   ·simp only [push_cast,seval,↓reduceIte,Za,hi0,hk0,hN0,hN]
   refine Zah (k:=7) (k':=4) hU [3,3,3,3,0,1,2] [4,5,6,0] rfl rfl rfl rfl ⟨rfl,rfl⟩ ?_
   simp only [push_cast,seval,↓reduceIte,Za,hi0,hk0,hN0,hN]
  simp only [push_cast,seval,↓reduceIte,Za,Try.results86,hi0,hk0,hN0,hN]
 replace h:=Zr c10 h
 refine Zy ?_
 try simp only [Zl,Zi]
 refine Zk [0,5] [true,true,true,true] ?_
 simp only [push_cast,seval,↓reduceIte]
 refine Zm ?_
 obtain ⟨y6,hy6,h⟩:=bC h
 refine Zc Zd [] ?_
 simp only [push_cast,seval,↓reduceIte,Za,hi0,hk0,hN0,hN]
 refine (Kt (i0:=i0) (j0_0:=n) (j0_1:=(n+1)) (j0_2:=(n+2)) (by omega) (by omega) (by omega) (by omega) (by omega) (by omega) (by omega) (by omega) (by omega) (by omega) (by simp only [push_cast,seval,↓reduceIte,Za,Xg,hi0,hk0,hN0,hN] <;> rfl) (by simp only [push_cast,seval,↓reduceIte,Za,Xg,hi0,hk0,hN0,hN] <;> rfl) (by simp only [push_cast,seval,↓reduceIte,Za,Xg,hi0,hk0,hN0,hN] <;> rfl) (by simp only [push_cast,seval,↓reduceIte,Za,Xg,hi0,hk0,hN0,hN] <;> rfl) hy6).then ?_
 simp only [push_cast,seval,↓reduceIte,Za,hi0,hk0,hN0,hN]
 refine Zk [0,5] [false,false,false,true,true,true,true] ?_
 simp only [push_cast,seval,↓reduceIte]
 obtain ⟨l7,pl7,ql7,el7,h⟩:=bA (k:=1) rfl h
 obtain ⟨x8,hx8,ax8,bx8,cx8,h⟩:=bE (f:=Zf) V2 (fun _=>rfl) (by decide) h
 have gu9:J4 (fl Zf y6.out++[.val (.int .i64 0),.val (.int .i64 0),.val (.slice none 0 0),.val (.int .i64 0),.val (.int .i64 0),.val (.slice none 0 0),.val (.slice none 0 0),.val (.int .i64 0),.val (.slice none 0 0),.val (.slice none 0 0),.val (.slice none 0 0),.val (.slice none 0 0),.val (.int .i64 0),.val (.slice none 0 0)]) [.val (.int .i64 3),.val (.int .i64 0),.val (.slice none 0 0),.val (.int .i64 a2.Kind),.val (.int .i64 a2.Old.Kind),.sl a2.Old.Words.length (fl (eI .u64) a2.Old.Words),.sl a2.Old.Kids.length (fl Zb a2.Old.Kids),.val (.int .i64 a2.New.Kind),.sl a2.New.Words.length (fl (eI .u64) a2.New.Words),.sl a2.New.Kids.length (fl Zb a2.New.Kids),.sl a2.Words.length (fl Zg a2.Words),.sl a2.Kids.length (fl Zh a2.Kids),.val (.int .i64 a2.List_),.sl a2.Ops.length (fl Zf a2.Ops)] (List.length y6.out * 14)=some (fl Zf y6.out++[.val (.int .i64 3),.val (.int .i64 0),.val (.slice none 0 0),.val (.int .i64 a2.Kind),.val (.int .i64 a2.Old.Kind),.sl a2.Old.Words.length (fl (eI .u64) a2.Old.Words),.sl a2.Old.Kids.length (fl Zb a2.Old.Kids),.val (.int .i64 a2.New.Kind),.sl a2.New.Words.length (fl (eI .u64) a2.New.Words),.sl a2.New.Kids.length (fl Zb a2.New.Kids),.sl a2.Words.length (fl Zg a2.Words),.sl a2.Kids.length (fl Zh a2.Kids),.val (.int .i64 a2.List_),.sl a2.Ops.length (fl Zf a2.Ops)]):=Zcq (f:=Zf) (sz:=14) (fun _=>rfl) rfl rfl
 refine Zc0 Zd (by kernel_rfl) [.low,.low,.low,.low,.low,.low,.low,.pass,.bar,.shp,.fill true,.shp,.shp,.fill false] (fun i=>i < (n+7)) [0,1,2,3,4,5,6,7,8,9,10,11,12,13] [.low,.low,.low,.low,.low,.low,.low,.pass,.bar,.shp,.fill true,.shp,.shp,.fill false] [] (by kernel_rfl) rfl ?_
 simp only [push_cast,Nat.reduceAdd,Nat.reduceSub,Nat.reduceMul,Nat.reduceLeDiff,Nat.reduceLT,Nat.reduceEqDiff,↓reduceIte,reduceCtorEq,Int.reduceBEq,Int.reduceBNe,Nat.reduceBEq,Int.reduceLE,Int.reduceLT,Int.reduceEq,Int.reduceNe,Int.reduceNeg,Nat.reduceDiv,Nat.reduceMod,Nat.reducePow,Za,pl7,ql7,el7,ax8,bx8,cx8,gu9,hi0,hk0,hN0,hN]
 repeat (with_reducible refine And.intro (by first | omega | exact Qa rfl | exact Xk | exact Js rfl rfl) ?_)
 have h:=Option.some.inj h;subst h
 refine Zgv (k:=3) (i:=i0) (q1:=⟨false,110,4,1,[.row (n+2) (y6.out++[(⟨3,0,([]:(List S_api_Tree)),a2⟩:S_api_Op)]).length,.val (.int .i64 y6.kept),.row n y6.gone.length,.row (n+1) y6.come.length]⟩) (L3:=[some ⟨true,25,3,y6.gone.length,fl Zb y6.gone⟩,some ⟨true,25,3,y6.come.length,fl Zb y6.come⟩,some ⟨true,69,14,(y6.out++[(⟨3,0,([]:(List S_api_Tree)),a2⟩:S_api_Op)]).length,fl Zf (y6.out++[(⟨3,0,([]:(List S_api_Tree)),a2⟩:S_api_Op)])⟩,none]) (E2:=(⟨25,[],[]⟩:Env)) (n3:=(n+4)) (.inl rfl) hU rfl [] ?_ ?_
 ·refine Fit2.trans (E':=(⟨25,[],[]⟩:Env)) (O':=(Zv ((((O.upd j0_0 none).upd j0_1 none).upd j0_2 none).upd i0 (some ⟨false,110,4,1,[.row (n+6) (y6.out++[(⟨3,0,([]:(List S_api_Tree)),a2⟩:S_api_Op)]).length,.val (.int .i64 y6.kept),.row (n+4) y6.gone.length,.row (n+5) y6.come.length]⟩)) n [none,none,none,none,some ⟨true,25,3,y6.gone.length,fl Zb y6.gone⟩,some ⟨true,25,3,y6.come.length,fl Zb y6.come⟩,some ⟨true,69,14,(y6.out++[(⟨3,0,([]:(List S_api_Tree)),a2⟩:S_api_Op)]).length,fl Zf (y6.out++[(⟨3,0,([]:(List S_api_Tree)),a2⟩:S_api_Op)])⟩,none])) (n':=(n+8)) (Fit2.of (Xj hU rfl rfl ?_) (by omega)) ?_
  ·simp only [push_cast,Nat.reduceAdd,Nat.reduceSub,Nat.reduceMul,Nat.reduceLeDiff,Nat.reduceLT,Nat.reduceEqDiff,↓reduceIte,reduceCtorEq,Int.reduceBEq,Int.reduceBNe,Nat.reduceBEq,Int.reduceLE,Int.reduceLT,Int.reduceEq,Int.reduceNe,Int.reduceNeg,Nat.reduceDiv,Nat.reduceMod,Nat.reducePow,Za,pl7,ql7,el7,ax8,bx8,cx8,gu9,hi0,hk0,hN0,hN]
  refine Zah (k:=8) (k':=4) hU [3,3,3,3,0,1,2,3] [4,5,6,0] rfl rfl rfl rfl ⟨rfl,rfl⟩ ?_
  simp only [push_cast,seval,↓reduceIte,Za,hi0,hk0,hN0,hN]
 simp only [push_cast,seval,↓reduceIte,Za,Try.results86,hi0,hk0,hN0,hN]
theorem Zod {X0:(S_api_Edit→Option S_api_Edit)} {Uo:(Int→(List S_api_Op)→Option (List S_api_Op))} (Zbu:∀ {a0:S_api_Edit} {r:S_api_Edit} {O:Objs} {n:Nat},X0 a0=some r→GTo Try.prog 18 [.agg (Ze a0)] O n (.agg (Ze r)) O n) (Zh1:∀ {a0:Int} {a1:(List S_api_Op)} {r:(List S_api_Op)} {O:Objs} {n:Nat},Uo a0 a1=some r→GTo Try.prog 51 [.val (.int .i64 a0),.sl a1.length (fl Zf a1)] O n (.sl r.length (fl Zf r)) O n) {a0:S_api_Edit} {r:S_api_Edit} {O:Objs} {n:Nat} (h:Zb4 X0 Uo a0=some r):GTo Try.prog 18 [.agg (Ze a0)] O n (.agg (Ze r)) O n:=by
 unfold Zb4 at h
 refine Y3 Zd Try.call18 Try.func18 rfl (Nat.le_of_ble_eq_true rfl) (Nat.le_refl _) fun hU => ?_
 have hN0:O n=none:=hU.fresh _ (Nat.le_refl _)
 have hN:∀ k,O (n+k)=none:=fun k=>hU.fresh _ (Nat.le_add_right _ _)
 show W _ _ _ _ ⟨54,[],[(0,.agg (Ze a0))]⟩ (Zv O n []) _
 refine Zq [1,2] (Zc Zd [] ?_)
 simp only [push_cast,seval,↓reduceIte,Za,hN0,hN]
 refine Zm ?_
 refine Zq [1,2,7] (Zc Zd [] ?_)
 simp only [push_cast,seval,↓reduceIte,Za,hN0,hN]
 refine Z6 ?_
 refine Zq [1,2,7,8] (Zc Zd [] ?_)
 simp only [push_cast,seval,↓reduceIte,Za,hN0,hN]
 refine Zu (t:=(a0.Kind == 1)) rfl (fun c17 => ?_) (fun c17 => ?_)
 ·replace h:=Zs c17 h
  refine Zm ?_
  obtain ⟨y3,hy3,h⟩:=bC h
  obtain ⟨y4,hy4,h⟩:=bC h
  refine Zhe Zd (by kernel_rfl) [false,false,false,false,false,false,false,true] [] (by kernel_rfl) ?_
  simp only [push_cast,seval,↓reduceIte,Za,hN0,hN]
  refine PCall.of (Zbv hy3) ?_
  simp only [push_cast,seval,↓reduceIte,Za,hN0,hN]
  refine PCall.of (Zbv hy4) ?_
  simp only [push_cast,seval,↓reduceIte,Za,hN0,hN]
  refine Zk [2] [false,true] ?_
  simp only [push_cast,seval,↓reduceIte]
  refine Z0 ?_
  try simp only [Zl,Zi]
  have h:=Option.some.inj h;subst h
  refine Zt (.inr rfl) hU [.agg [.val (.int .i64 1),.val (.int .i64 y3.Kind),.sl y3.Words.length (fl (eI .u64) y3.Words),.sl y3.Kids.length (fl Zb y3.Kids),.val (.int .i64 y4.Kind),.sl y4.Words.length (fl (eI .u64) y4.Words),.sl y4.Kids.length (fl Zb y4.Kids),.val (.slice none 0 0),.val (.slice none 0 0),.val (.int .i64 0),.val (.slice none 0 0)]] (by omega) ?_
  simp only [push_cast,seval,↓reduceIte,Za,Try.results18,hN0,hN]
 replace h:=Zr c17 h
 refine Zq [1,2,7,17] (Zc Zd [] ?_)
 simp only [push_cast,seval,↓reduceIte,Za,hN0,hN]
 refine Zu (t:=(a0.Kind == 2)) rfl (fun c16 => ?_) (fun c16 => ?_)
 ·replace h:=Zs c16 h
  refine Zm ?_
  obtain ⟨y6,hy6,h⟩:=bC h
  refine Zc Zd [] ?_
  simp only [push_cast,seval,↓reduceIte,Za,hN0,hN]
  refine (Zaf  hy6).then ?_
  simp only [push_cast,seval,↓reduceIte,Za,hN0,hN]
  refine Zk [1,2,3] [true,true,true,true] ?_
  simp only [push_cast,seval,↓reduceIte]
  refine Zm ?_
  refine Zq [2,3,24,25,26] (Zc Zd [] ?_)
  simp only [push_cast,seval,↓reduceIte,Za,hN0,hN]
  refine Zk [2,3,24,25,26] [false,true,true,true] ?_
  simp only [push_cast,seval,↓reduceIte]
  refine Jh (E':=(⟨54,[],[(2,.ref (n+1) 0),(3,.ref (n+3) 0),(24,.sl a0.Kids.length (fl Zh a0.Kids)),(25,.val (.int .i64 (a0.Kids.length:Int))),(26,.val (.int .i64 0))]⟩:Env)) (O':=(Zv O n [none,some ⟨false,30,11,1,[.val (.int .i64 0),.val (.int .i64 0),.val (.slice none 0 0),.val (.slice none 0 0),.val (.int .i64 0),.val (.slice none 0 0),.val (.slice none 0 0),.val (.slice none 0 0),.val (.slice none 0 0),.val (.int .i64 0),.val (.slice none 0 0)]⟩,some ⟨true,58,4,y6.length,fl Zg y6⟩,some ⟨false,30,11,1,[.val (.int .i64 2),.val (.int .i64 0),.val (.slice none 0 0),.val (.slice none 0 0),.val (.int .i64 0),.val (.slice none 0 0),.val (.slice none 0 0),.row (n+2) y6.length,.row (n+4) ([]:List S_api_KidEdit).length,.val (.int .i64 0),.val (.slice none 0 0)]⟩,some ⟨true,71,12,([]:List S_api_KidEdit).length,fl Zh ([]:List S_api_KidEdit)⟩,none])) (n':=(n+6)) ?_ ?_
  ·refine Fit2.trans (E':=(⟨54,[],[(2,.ref (n+1) 0),(3,.ref (n+3) 0),(24,.sl a0.Kids.length (fl Zh a0.Kids)),(25,.val (.int .i64 (a0.Kids.length:Int))),(26,.val (.int .i64 0))]⟩:Env)) (O':=(Zv O n [none,some ⟨false,30,11,1,[.val (.int .i64 0),.val (.int .i64 0),.val (.slice none 0 0),.val (.slice none 0 0),.val (.int .i64 0),.val (.slice none 0 0),.val (.slice none 0 0),.val (.slice none 0 0),.val (.slice none 0 0),.val (.int .i64 0),.val (.slice none 0 0)]⟩,some ⟨true,58,4,y6.length,fl Zg y6⟩,some ⟨false,30,11,1,[.val (.int .i64 2),.val (.int .i64 0),.val (.slice none 0 0),.val (.slice none 0 0),.val (.int .i64 0),.val (.slice none 0 0),.val (.slice none 0 0),.row (n+2) y6.length,.val (.slice none 0 0),.val (.int .i64 0),.val (.slice none 0 0)]⟩])) (n':=(n+4)) (Fit2.of (Zj hU rfl rfl ?_) (by omega)) ?_
   ·simp only [push_cast,seval,↓reduceIte,Za,hN0,hN]
   refine Fit2.trans (E':=(⟨54,[],[(2,.ref (n+1) 0),(3,.ref (n+3) 0),(24,.sl a0.Kids.length (fl Zh a0.Kids)),(25,.val (.int .i64 (a0.Kids.length:Int))),(26,.val (.int .i64 0))]⟩:Env)) (O':=(Zv O n [none,some ⟨false,30,11,1,[.val (.int .i64 0),.val (.int .i64 0),.val (.slice none 0 0),.val (.slice none 0 0),.val (.int .i64 0),.val (.slice none 0 0),.val (.slice none 0 0),.val (.slice none 0 0),.val (.slice none 0 0),.val (.int .i64 0),.val (.slice none 0 0)]⟩,some ⟨true,58,4,y6.length,fl Zg y6⟩,some ⟨false,30,11,1,[.val (.int .i64 2),.val (.int .i64 0),.val (.slice none 0 0),.val (.slice none 0 0),.val (.int .i64 0),.val (.slice none 0 0),.val (.slice none 0 0),.row (n+2) y6.length,.row (n+4) 0,.val (.int .i64 0),.val (.slice none 0 0)]⟩,some ⟨true,71,12,0,[]⟩])) (n':=(n+5)) ?_ ?_
   ·have ha:=Ji (ba:=n) (E:=(⟨54,[],[(2,.ref (n+1) 0),(3,.ref (n+3) 0),(24,.sl a0.Kids.length (fl Zh a0.Kids)),(25,.val (.int .i64 (a0.Kids.length:Int))),(26,.val (.int .i64 0))]⟩:Env)) (O:=(Zv O n [none,some ⟨false,30,11,1,[.val (.int .i64 0),.val (.int .i64 0),.val (.slice none 0 0),.val (.slice none 0 0),.val (.int .i64 0),.val (.slice none 0 0),.val (.slice none 0 0),.val (.slice none 0 0),.val (.slice none 0 0),.val (.int .i64 0),.val (.slice none 0 0)]⟩,some ⟨true,58,4,y6.length,fl Zg y6⟩,some ⟨false,30,11,1,[.val (.int .i64 2),.val (.int .i64 0),.val (.slice none 0 0),.val (.slice none 0 0),.val (.int .i64 0),.val (.slice none 0 0),.val (.slice none 0 0),.row (n+2) y6.length,.val (.slice none 0 0),.val (.int .i64 0),.val (.slice none 0 0)]⟩])) (n:=(n+4)) (p:=(n+3)) (k:=8) (q:=⟨false,30,11,1,[.val (.int .i64 2),.val (.int .i64 0),.val (.slice none 0 0),.val (.slice none 0 0),.val (.int .i64 0),.val (.slice none 0 0),.val (.slice none 0 0),.row (n+2) y6.length,.val (.slice none 0 0),.val (.int .i64 0),.val (.slice none 0 0)]⟩) 71 12 (by simp only [Ke,V5,List.getElem?_cons_zero,List.getElem?_cons_succ,Option.join_some,Ya]) rfl (by omega)
    simp only [Yv,Yj,Jo,Qs,List.set_cons_zero,List.set_cons_succ,List.cons_append,List.nil_append,List.length_cons,List.length_nil,Nat.zero_add,Nat.reduceAdd,Nat.reduceLT,Nat.add_assoc] at ha
    exact ha
   refine Fit2.trans (E':=(⟨54,[],[(2,.ref (n+1) 0),(3,.ref (n+3) 0),(24,.sl a0.Kids.length (fl Zh a0.Kids)),(25,.val (.int .i64 (a0.Kids.length:Int))),(26,.val (.int .i64 0))]⟩:Env)) (O':=(Zv O n [none,some ⟨false,30,11,1,[.val (.int .i64 0),.val (.int .i64 0),.val (.slice none 0 0),.val (.slice none 0 0),.val (.int .i64 0),.val (.slice none 0 0),.val (.slice none 0 0),.val (.slice none 0 0),.val (.slice none 0 0),.val (.int .i64 0),.val (.slice none 0 0)]⟩,some ⟨true,58,4,y6.length,fl Zg y6⟩,some ⟨false,30,11,1,[.val (.int .i64 2),.val (.int .i64 0),.val (.slice none 0 0),.val (.slice none 0 0),.val (.int .i64 0),.val (.slice none 0 0),.val (.slice none 0 0),.row (n+2) y6.length,.row (n+4) ([]:List S_api_KidEdit).length,.val (.int .i64 0),.val (.slice none 0 0)]⟩,some ⟨true,71,12,([]:List S_api_KidEdit).length,fl Zh ([]:List S_api_KidEdit)⟩])) (n':=(n+5)) (Fit2.of (Zj hU rfl rfl ?_) (by omega)) ?_
   ·simp only [push_cast,seval,↓reduceIte,Za,hN0,hN]
   refine Jr (k:=5) (k':=6) hU [5,1,2,3,4] [0,1,2,3,4,0] rfl rfl rfl rfl ⟨rfl,rfl⟩ ?_
   simp only [push_cast,seval,↓reduceIte,Za,hN0,hN]
  obtain ⟨z12,hz12,h⟩:=bC h
  refine Yb (E':=⟨54,[],[(2,.ref (n+1) 0),(3,.ref (n+3) 0)]⟩) (O':=(Zv O n [none,some ⟨false,30,11,1,[.val (.int .i64 0),.val (.int .i64 0),.val (.slice none 0 0),.val (.slice none 0 0),.val (.int .i64 0),.val (.slice none 0 0),.val (.slice none 0 0),.val (.slice none 0 0),.val (.slice none 0 0),.val (.int .i64 0),.val (.slice none 0 0)]⟩,some ⟨true,58,4,y6.length,fl Zg y6⟩,some ⟨false,30,11,1,[.val (.int .i64 2),.val (.int .i64 0),.val (.slice none 0 0),.val (.slice none 0 0),.val (.int .i64 0),.val (.slice none 0 0),.val (.slice none 0 0),.row (n+2) y6.length,.row (n+4) z12.length,.val (.int .i64 0),.val (.slice none 0 0)]⟩,some ⟨true,71,12,z12.length,fl Zh z12⟩,none])) (n0:=(n+6)) ?_ ?_
  ·refine Yn hz12 (fun s0_=>⟨54,[],[(2,.ref (n+1) 0),(3,.ref (n+3) 0),(24,.sl a0.Kids.length (fl Zh a0.Kids)),(25,.val (.int .i64 (a0.Kids.length:Int))),(26,.val (.int .i64 s0_.1))]⟩) (fun s0_=>(Zv O n [none,some ⟨false,30,11,1,[.val (.int .i64 0),.val (.int .i64 0),.val (.slice none 0 0),.val (.slice none 0 0),.val (.int .i64 0),.val (.slice none 0 0),.val (.slice none 0 0),.val (.slice none 0 0),.val (.slice none 0 0),.val (.int .i64 0),.val (.slice none 0 0)]⟩,some ⟨true,58,4,y6.length,fl Zg y6⟩,some ⟨false,30,11,1,[.val (.int .i64 2),.val (.int .i64 0),.val (.slice none 0 0),.val (.slice none 0 0),.val (.int .i64 0),.val (.slice none 0 0),.val (.slice none 0 0),.row (n+2) y6.length,.row (n+4) s0_.2.length,.val (.int .i64 0),.val (.slice none 0 0)]⟩,some ⟨true,71,12,s0_.2.length,fl Zh s0_.2⟩,none])) (fun z12=>JX 1 n (⟨54,[],[(2,.ref (n+1) 0),(3,.ref (n+3) 0)]⟩:Env) (Zv O n [none,some ⟨false,30,11,1,[.val (.int .i64 0),.val (.int .i64 0),.val (.slice none 0 0),.val (.slice none 0 0),.val (.int .i64 0),.val (.slice none 0 0),.val (.slice none 0 0),.val (.slice none 0 0),.val (.slice none 0 0),.val (.int .i64 0),.val (.slice none 0 0)]⟩,some ⟨true,58,4,y6.length,fl Zg y6⟩,some ⟨false,30,11,1,[.val (.int .i64 2),.val (.int .i64 0),.val (.slice none 0 0),.val (.slice none 0 0),.val (.int .i64 0),.val (.slice none 0 0),.val (.slice none 0 0),.row (n+2) y6.length,.row (n+4) z12.length,.val (.int .i64 0),.val (.slice none 0 0)]⟩,some ⟨true,71,12,z12.length,fl Zh z12⟩,none]) (n+6)) ?_
   intro s0_ x0_ hs0_
   unfold U3 at hs0_
   try dsimp only
   refine Zq [2,3,24,25,26,27] (Zc Zd [] ?_)
   simp only [push_cast,seval,↓reduceIte,Za,hN0,hN]
   refine Zm ?_
   refine Zu (t:=(decide (s0_.1 < (a0.Kids.length:Int)))) rfl (fun c11 => ?_) (fun c11 => ?_)
   ·replace hs0_:=Zs c11 hs0_
    refine Zy ?_
    try simp only [Zl,Zi]
    refine Zk [2,3,24,25,26] [false,true,true,true,true,false] ?_
    simp only [push_cast,seval,↓reduceIte]
    refine Zm ?_
    refine Z6 ?_
    refine Zm ?_
    obtain ⟨x8,hx8,ax8,bx8,cx8,hs0_⟩:=bE (f:=Zh) Zhd (fun _=>rfl) (by decide) hs0_
    refine Zc Zd [] ?_
    simp only [push_cast,Nat.reduceAdd,Nat.reduceSub,Nat.reduceMul,Nat.reduceLeDiff,Nat.reduceLT,Nat.reduceEqDiff,↓reduceIte,reduceCtorEq,Int.reduceBEq,Int.reduceBNe,Nat.reduceBEq,Int.reduceLE,Int.reduceLT,Int.reduceEq,Int.reduceNe,Int.reduceNeg,Nat.reduceDiv,Nat.reduceMod,Nat.reducePow,Za,ax8,bx8,cx8,hN0,hN]
    refine Zk [2,3,5,24,25,26] [false,true,true,true,true,false,true] ?_
    simp only [push_cast,seval,↓reduceIte]
    obtain ⟨y9,hy9,hs0_⟩:=bC hs0_
    obtain ⟨l10,pl10,ql10,el10,hs0_⟩:=bA (k:=1) rfl hs0_
    refine Zc0 Zd (by kernel_rfl) [.low,.low,.plain,.plain,.plain,.plain,.plain,.plain,.pass,.bar,.plain,.bar] (fun i=>i < (n+7)) [0,1,2,3,4,5,6,7,8,9,10,11] [.low,.low,.plain,.plain,.plain,.plain,.plain,.plain,.pass,.bar,.plain,.bar] [] (by kernel_rfl) rfl ?_
    simp only [push_cast,seval,↓reduceIte,Za,pl10,ql10,el10,hN0,hN]
    repeat (with_reducible refine And.intro (by first | omega | exact Qa rfl | exact Xk | exact Js rfl rfl) ?_)
    first | refine PCallA.of (fun _ _=>Zbu hy9) ?_ | refine PCall.of (Zbu hy9) ?_
    simp only [push_cast,seval,↓reduceIte,Za,pl10,ql10,el10,hN0,hN]
    repeat (with_reducible refine And.intro (by first | omega | exact Qa rfl | exact Xk | exact Js rfl rfl) ?_)
    refine Zbw ⟨54,[],[(2,.ref (n+1) 0),(3,.ref (n+3) 0),(24,.sl a0.Kids.length (fl Zh a0.Kids)),(25,.val (.int .i64 (a0.Kids.length:Int))),(26,.val (.int .i64 s0_.1))]⟩ (Zv O n [none,some ⟨false,30,11,1,[.val (.int .i64 0),.val (.int .i64 0),.val (.slice none 0 0),.val (.slice none 0 0),.val (.int .i64 0),.val (.slice none 0 0),.val (.slice none 0 0),.val (.slice none 0 0),.val (.slice none 0 0),.val (.int .i64 0),.val (.slice none 0 0)]⟩,some ⟨true,58,4,y6.length,fl Zg y6⟩,some ⟨false,30,11,1,[.val (.int .i64 2),.val (.int .i64 0),.val (.slice none 0 0),.val (.slice none 0 0),.val (.int .i64 0),.val (.slice none 0 0),.val (.slice none 0 0),.row (n+2) y6.length,.row (n+4) l10.length,.val (.int .i64 0),.val (.slice none 0 0)]⟩,some ⟨true,71,12,l10.length,fl Zh l10⟩,none,none,none]) (Zj hU rfl rfl ?_) ?_
    ·simp only [push_cast,seval,↓reduceIte,Za,pl10,ql10,el10,hN0,hN]
    refine Zc Zd [] ?_
    simp only [push_cast,seval,↓reduceIte,Za,hN0,hN]
    have hs0_:=Option.some.inj hs0_;subst hs0_
    refine And.intro rfl (Fit2.of (Zj hU rfl rfl ?_) (by omega))
    simp only [push_cast,seval,↓reduceIte,Za,hN0,hN]
   replace hs0_:=Zr c11 hs0_
   refine Yx ?_
   try simp only [Zl,Zi,↓reduceIte,Nat.reduceEqDiff]
   have hs0_:=Option.some.inj hs0_;subst hs0_
   refine And.intro (fun h=>by cases h) (And.intro rfl (Fit2.of (Zj hU rfl rfl ?_) (by omega)))
   simp only [push_cast,seval,↓reduceIte,Za,hN0,hN]
  try simp only [Zl,Zi,↓reduceIte,Nat.reduceEqDiff]
  refine Zk [2,3] [false,true,true,true,true,false] ?_
  simp only [push_cast,seval,↓reduceIte]
  refine Zm ?_
  refine Zc Zd [] ?_
  simp only [push_cast,seval,↓reduceIte,Za,hN0,hN]
  refine Zk [2] [false,true,true,false,true,false] ?_
  simp only [push_cast,seval,↓reduceIte]
  refine Z0 ?_
  try simp only [Zl,Zi]
  have h:=Option.some.inj h;subst h
  refine Zt (.inr rfl) hU [.agg [.val (.int .i64 2),.val (.int .i64 0),.val (.slice none 0 0),.val (.slice none 0 0),.val (.int .i64 0),.val (.slice none 0 0),.val (.slice none 0 0),.row (n+2) y6.length,.row (n+4) z12.length,.val (.int .i64 0),.val (.slice none 0 0)]] (by omega) ?_
  simp only [push_cast,seval,↓reduceIte,Za,Try.results18,hN0,hN]
 replace h:=Zr c16 h
 refine Zq [1,2,43] (Zc Zd [] ?_)
 simp only [push_cast,seval,↓reduceIte,Za,hN0,hN]
 refine Zu (t:=(a0.Kind == 3)) rfl (fun c15 => ?_) (fun c15 => ?_)
 ·replace h:=Zs c15 h
  refine Zm ?_
  obtain ⟨y14,hy14,h⟩:=bC h
  refine Zhe Zd (by kernel_rfl) [false,false,false,false,false,false,false,false,true] [] (by kernel_rfl) ?_
  simp only [push_cast,seval,↓reduceIte,Za,hN0,hN]
  refine PCall.of (Zh1 hy14) ?_
  simp only [push_cast,seval,↓reduceIte,Za,hN0,hN]
  refine Zk [2] [false,true] ?_
  simp only [push_cast,seval,↓reduceIte]
  refine Z0 ?_
  try simp only [Zl,Zi]
  have h:=Option.some.inj h;subst h
  refine Zt (.inr rfl) hU [.agg [.val (.int .i64 3),.val (.int .i64 0),.val (.slice none 0 0),.val (.slice none 0 0),.val (.int .i64 0),.val (.slice none 0 0),.val (.slice none 0 0),.val (.slice none 0 0),.val (.slice none 0 0),.val (.int .i64 a0.List_),.sl y14.length (fl Zf y14)]] (by omega) ?_
  simp only [push_cast,seval,↓reduceIte,Za,Try.results18,hN0,hN]
 replace h:=Zr c15 h
 refine Zy ?_
 try simp only [Zl,Zi]
 refine Zk [2] [false,true] ?_
 simp only [push_cast,seval,↓reduceIte]
 refine Zm ?_
 refine Zc Zd [] ?_
 simp only [push_cast,seval,↓reduceIte,Za,hN0,hN]
 refine Zk [2] [false,true] ?_
 simp only [push_cast,seval,↓reduceIte]
 refine Z0 ?_
 try simp only [Zl,Zi]
 have h:=Option.some.inj h;subst h
 refine Zt (.inr rfl) hU [.agg [.val (.int .i64 0),.val (.int .i64 0),.val (.slice none 0 0),.val (.slice none 0 0),.val (.int .i64 0),.val (.slice none 0 0),.val (.slice none 0 0),.val (.slice none 0 0),.val (.slice none 0 0),.val (.int .i64 0),.val (.slice none 0 0)]] (by omega) ?_
 simp only [push_cast,seval,↓reduceIte,Za,Try.results18,hN0,hN]
theorem Zp0 {X0:(S_api_Edit→Option S_api_Edit)} {Uo:(Int→(List S_api_Op)→Option (List S_api_Op))} (Zbu:∀ {a0:S_api_Edit} {r:S_api_Edit} {O:Objs} {n:Nat},X0 a0=some r→GTo Try.prog 18 [.agg (Ze a0)] O n (.agg (Ze r)) O n) (Zh1:∀ {a0:Int} {a1:(List S_api_Op)} {r:(List S_api_Op)} {O:Objs} {n:Nat},Uo a0 a1=some r→GTo Try.prog 51 [.val (.int .i64 a0),.sl a1.length (fl Zf a1)] O n (.sl r.length (fl Zf r)) O n) {a0:Int} {a1:(List S_api_Op)} {r:(List S_api_Op)} {O:Objs} {n:Nat} (h:Zbq X0 Uo a0 a1=some r):GTo Try.prog 51 [.val (.int .i64 a0),.sl a1.length (fl Zf a1)] O n (.sl r.length (fl Zf r)) O n:=by
 unfold Zbq at h
 refine Y3 Zd Try.call51 Try.func51 rfl (Nat.le_of_ble_eq_true rfl) (Nat.le_refl _) fun hU => ?_
 have hN0:O n=none:=hU.fresh _ (Nat.le_refl _)
 have hN:∀ k,O (n+k)=none:=fun k=>hU.fresh _ (Nat.le_add_right _ _)
 show W _ _ _ _ ⟨44,[],[(0,.val (.int .i64 a0)),(1,.sl a1.length (fl Zf a1))]⟩ (Zv O n []) _
 refine Zq [0,1] (Zc Zd [] ?_)
 simp only [push_cast,seval,↓reduceIte,Za,hN0,hN]
 refine Zq [0,1,5] (Zc Zd [] ?_)
 simp only [push_cast,seval,↓reduceIte,Za,hN0,hN]
 refine Zm ?_
 refine Zq [0,5,8,9,10] (Zc Zd [] ?_)
 simp only [push_cast,seval,↓reduceIte,Za,hN0,hN]
 refine Zk [0,5,8,9,10] [true] ?_
 simp only [push_cast,seval,↓reduceIte]
 refine Jh (E':=(⟨44,[],[(0,.val (.int .i64 a0)),(5,.ref n 0),(8,.sl a1.length (fl Zf a1)),(9,.val (.int .i64 (a1.length:Int))),(10,.val (.int .i64 0))]⟩:Env)) (O':=(Zv O n [some ⟨false,110,4,1,[.row (n+1) ([]:List S_api_Op).length,.val (.int .i64 0),.row (n+2) ([]:List S_api_Tree).length,.row (n+3) ([]:List S_api_Tree).length]⟩,some ⟨true,69,14,([]:List S_api_Op).length,fl Zf ([]:List S_api_Op)⟩,some ⟨true,25,3,([]:List S_api_Tree).length,fl Zb ([]:List S_api_Tree)⟩,some ⟨true,25,3,([]:List S_api_Tree).length,fl Zb ([]:List S_api_Tree)⟩,none])) (n':=(n+5)) ?_ ?_
 ·refine Fit2.trans (E':=(⟨44,[],[(0,.val (.int .i64 a0)),(5,.ref n 0),(8,.sl a1.length (fl Zf a1)),(9,.val (.int .i64 (a1.length:Int))),(10,.val (.int .i64 0))]⟩:Env)) (O':=(Zv O n [some ⟨false,110,4,1,[.val (.slice none 0 0),.val (.int .i64 0),.val (.slice none 0 0),.val (.slice none 0 0)]⟩])) (n':=(n+1)) (Fit2.of (Zj hU rfl rfl ?_) (by omega)) ?_
  ·simp only [push_cast,seval,↓reduceIte,Za,hN0,hN]
  refine Fit2.trans (E':=(⟨44,[],[(0,.val (.int .i64 a0)),(5,.ref n 0),(8,.sl a1.length (fl Zf a1)),(9,.val (.int .i64 (a1.length:Int))),(10,.val (.int .i64 0))]⟩:Env)) (O':=(Zv O n [some ⟨false,110,4,1,[.row (n+1) 0,.val (.int .i64 0),.val (.slice none 0 0),.val (.slice none 0 0)]⟩,some ⟨true,69,14,0,[]⟩])) (n':=(n+2)) ?_ ?_
  ·have ha:=Ji (ba:=n) (E:=(⟨44,[],[(0,.val (.int .i64 a0)),(5,.ref n 0),(8,.sl a1.length (fl Zf a1)),(9,.val (.int .i64 (a1.length:Int))),(10,.val (.int .i64 0))]⟩:Env)) (O:=(Zv O n [some ⟨false,110,4,1,[.val (.slice none 0 0),.val (.int .i64 0),.val (.slice none 0 0),.val (.slice none 0 0)]⟩])) (n:=(n+1)) (p:=n) (k:=0) (q:=⟨false,110,4,1,[.val (.slice none 0 0),.val (.int .i64 0),.val (.slice none 0 0),.val (.slice none 0 0)]⟩) 69 14 (by simp only [Ke,V5,List.getElem?_cons_zero,List.getElem?_cons_succ,Option.join_some,Ya]) rfl (by omega)
   simp only [Yv,Yj,Jo,Qs,List.set_cons_zero,List.set_cons_succ,List.cons_append,List.nil_append,List.length_cons,List.length_nil,Nat.zero_add,Nat.reduceAdd,Nat.reduceLT,Nat.add_assoc] at ha
   exact ha
  refine Fit2.trans (E':=(⟨44,[],[(0,.val (.int .i64 a0)),(5,.ref n 0),(8,.sl a1.length (fl Zf a1)),(9,.val (.int .i64 (a1.length:Int))),(10,.val (.int .i64 0))]⟩:Env)) (O':=(Zv O n [some ⟨false,110,4,1,[.row (n+1) ([]:List S_api_Op).length,.val (.int .i64 0),.val (.slice none 0 0),.val (.slice none 0 0)]⟩,some ⟨true,69,14,([]:List S_api_Op).length,fl Zf ([]:List S_api_Op)⟩])) (n':=(n+2)) (Fit2.of (Zj hU rfl rfl ?_) (by omega)) ?_
  ·simp only [push_cast,seval,↓reduceIte,Za,hN0,hN]
  refine Fit2.trans (E':=(⟨44,[],[(0,.val (.int .i64 a0)),(5,.ref n 0),(8,.sl a1.length (fl Zf a1)),(9,.val (.int .i64 (a1.length:Int))),(10,.val (.int .i64 0))]⟩:Env)) (O':=(Zv O n [some ⟨false,110,4,1,[.row (n+1) ([]:List S_api_Op).length,.val (.int .i64 0),.row (n+2) 0,.val (.slice none 0 0)]⟩,some ⟨true,69,14,([]:List S_api_Op).length,fl Zf ([]:List S_api_Op)⟩,some ⟨true,25,3,0,[]⟩])) (n':=(n+3)) ?_ ?_
  ·have ha:=Ji (ba:=n) (E:=(⟨44,[],[(0,.val (.int .i64 a0)),(5,.ref n 0),(8,.sl a1.length (fl Zf a1)),(9,.val (.int .i64 (a1.length:Int))),(10,.val (.int .i64 0))]⟩:Env)) (O:=(Zv O n [some ⟨false,110,4,1,[.row (n+1) ([]:List S_api_Op).length,.val (.int .i64 0),.val (.slice none 0 0),.val (.slice none 0 0)]⟩,some ⟨true,69,14,([]:List S_api_Op).length,fl Zf ([]:List S_api_Op)⟩])) (n:=(n+2)) (p:=n) (k:=2) (q:=⟨false,110,4,1,[.row (n+1) ([]:List S_api_Op).length,.val (.int .i64 0),.val (.slice none 0 0),.val (.slice none 0 0)]⟩) 25 3 (by simp only [Ke,V5,List.getElem?_cons_zero,List.getElem?_cons_succ,Option.join_some,Ya]) rfl (by omega)
   simp only [Yv,Yj,Jo,Qs,List.set_cons_zero,List.set_cons_succ,List.cons_append,List.nil_append,List.length_cons,List.length_nil,Nat.zero_add,Nat.reduceAdd,Nat.reduceLT,Nat.add_assoc] at ha
   exact ha
  refine Fit2.trans (E':=(⟨44,[],[(0,.val (.int .i64 a0)),(5,.ref n 0),(8,.sl a1.length (fl Zf a1)),(9,.val (.int .i64 (a1.length:Int))),(10,.val (.int .i64 0))]⟩:Env)) (O':=(Zv O n [some ⟨false,110,4,1,[.row (n+1) ([]:List S_api_Op).length,.val (.int .i64 0),.row (n+2) ([]:List S_api_Tree).length,.val (.slice none 0 0)]⟩,some ⟨true,69,14,([]:List S_api_Op).length,fl Zf ([]:List S_api_Op)⟩,some ⟨true,25,3,([]:List S_api_Tree).length,fl Zb ([]:List S_api_Tree)⟩])) (n':=(n+3)) (Fit2.of (Zj hU rfl rfl ?_) (by omega)) ?_
  ·simp only [push_cast,seval,↓reduceIte,Za,hN0,hN]
  refine Fit2.trans (E':=(⟨44,[],[(0,.val (.int .i64 a0)),(5,.ref n 0),(8,.sl a1.length (fl Zf a1)),(9,.val (.int .i64 (a1.length:Int))),(10,.val (.int .i64 0))]⟩:Env)) (O':=(Zv O n [some ⟨false,110,4,1,[.row (n+1) ([]:List S_api_Op).length,.val (.int .i64 0),.row (n+2) ([]:List S_api_Tree).length,.row (n+3) 0]⟩,some ⟨true,69,14,([]:List S_api_Op).length,fl Zf ([]:List S_api_Op)⟩,some ⟨true,25,3,0,[]⟩,some ⟨true,25,3,0,[]⟩])) (n':=(n+4)) ?_ ?_
  ·have ha:=Ji (ba:=n) (E:=(⟨44,[],[(0,.val (.int .i64 a0)),(5,.ref n 0),(8,.sl a1.length (fl Zf a1)),(9,.val (.int .i64 (a1.length:Int))),(10,.val (.int .i64 0))]⟩:Env)) (O:=(Zv O n [some ⟨false,110,4,1,[.row (n+1) ([]:List S_api_Op).length,.val (.int .i64 0),.row (n+2) ([]:List S_api_Tree).length,.val (.slice none 0 0)]⟩,some ⟨true,69,14,([]:List S_api_Op).length,fl Zf ([]:List S_api_Op)⟩,some ⟨true,25,3,([]:List S_api_Tree).length,fl Zb ([]:List S_api_Tree)⟩])) (n:=(n+3)) (p:=n) (k:=3) (q:=⟨false,110,4,1,[.row (n+1) ([]:List S_api_Op).length,.val (.int .i64 0),.row (n+2) ([]:List S_api_Tree).length,.val (.slice none 0 0)]⟩) 25 3 (by simp only [Ke,V5,List.getElem?_cons_zero,List.getElem?_cons_succ,Option.join_some,Ya]) rfl (by omega)
   simp only [Yv,Yj,Jo,Qs,List.set_cons_zero,List.set_cons_succ,List.cons_append,List.nil_append,List.length_cons,List.length_nil,Nat.zero_add,Nat.reduceAdd,Nat.reduceLT,Nat.add_assoc] at ha
   exact ha
  refine Fit2.trans (E':=(⟨44,[],[(0,.val (.int .i64 a0)),(5,.ref n 0),(8,.sl a1.length (fl Zf a1)),(9,.val (.int .i64 (a1.length:Int))),(10,.val (.int .i64 0))]⟩:Env)) (O':=(Zv O n [some ⟨false,110,4,1,[.row (n+1) ([]:List S_api_Op).length,.val (.int .i64 0),.row (n+2) ([]:List S_api_Tree).length,.row (n+3) ([]:List S_api_Tree).length]⟩,some ⟨true,69,14,([]:List S_api_Op).length,fl Zf ([]:List S_api_Op)⟩,some ⟨true,25,3,([]:List S_api_Tree).length,fl Zb ([]:List S_api_Tree)⟩,some ⟨true,25,3,([]:List S_api_Tree).length,fl Zb ([]:List S_api_Tree)⟩])) (n':=(n+4)) (Fit2.of (Zj hU rfl rfl ?_) (by omega)) ?_
  ·simp only [push_cast,seval,↓reduceIte,Za,hN0,hN]
  refine Jr (k:=4) (k':=5) hU [0,1,2,3] [0,1,2,3,0] rfl rfl rfl rfl ⟨rfl,rfl⟩ ?_
  simp only [push_cast,seval,↓reduceIte,Za,hN0,hN]
 obtain ⟨z14,hz14,h⟩:=bC h
 refine Yb (E':=⟨44,[],[(5,.ref n 0)]⟩) (O':=(Zv O n [some ⟨false,110,4,1,[.row (n+1) z14.2.1.length,.val (.int .i64 z14.1),.row (n+2) z14.2.2.1.length,.row (n+3) z14.2.2.2.length]⟩,some ⟨true,69,14,z14.2.1.length,fl Zf z14.2.1⟩,some ⟨true,25,3,z14.2.2.1.length,fl Zb z14.2.2.1⟩,some ⟨true,25,3,z14.2.2.2.length,fl Zb z14.2.2.2⟩,none])) (n0:=(n+5)) ?_ ?_
 ·refine Yn hz14 (fun s0_=>⟨44,[],[(0,.val (.int .i64 a0)),(5,.ref n 0),(8,.sl a1.length (fl Zf a1)),(9,.val (.int .i64 (a1.length:Int))),(10,.val (.int .i64 s0_.1))]⟩) (fun s0_=>(Zv O n [some ⟨false,110,4,1,[.row (n+1) s0_.2.2.1.length,.val (.int .i64 s0_.2.1),.row (n+2) s0_.2.2.2.1.length,.row (n+3) s0_.2.2.2.2.length]⟩,some ⟨true,69,14,s0_.2.2.1.length,fl Zf s0_.2.2.1⟩,some ⟨true,25,3,s0_.2.2.2.1.length,fl Zb s0_.2.2.2.1⟩,some ⟨true,25,3,s0_.2.2.2.2.length,fl Zb s0_.2.2.2.2⟩,none])) (fun z14=>JX 0 n (⟨44,[],[(5,.ref n 0)]⟩:Env) (Zv O n [some ⟨false,110,4,1,[.row (n+1) z14.2.1.length,.val (.int .i64 z14.1),.row (n+2) z14.2.2.1.length,.row (n+3) z14.2.2.2.length]⟩,some ⟨true,69,14,z14.2.1.length,fl Zf z14.2.1⟩,some ⟨true,25,3,z14.2.2.1.length,fl Zb z14.2.2.1⟩,some ⟨true,25,3,z14.2.2.2.length,fl Zb z14.2.2.2⟩,none]) (n+5)) ?_
  intro s0_ x0_ hs0_
  unfold K3 at hs0_
  try dsimp only
  refine Zq [0,5,8,9,10,11] (Zc Zd [] ?_)
  simp only [push_cast,seval,↓reduceIte,Za,hN0,hN]
  refine Zm ?_
  refine Zu (t:=(decide (s0_.1 < (a1.length:Int)))) rfl (fun c13 => ?_) (fun c13 => ?_)
  ·replace hs0_:=Zs c13 hs0_
   refine Zy ?_
   try simp only [Zl,Zi]
   refine Zk [0,5,8,9,10] [true,true,true,true,false] ?_
   simp only [push_cast,seval,↓reduceIte]
   obtain ⟨z1,hz1,hs0_⟩:=bC hs0_
   refine Yl (E':=⟨44,[],[(0,.val (.int .i64 a0)),(5,.ref n 0),(8,.sl a1.length (fl Zf a1)),(9,.val (.int .i64 (a1.length:Int))),(10,.val (.int .i64 s0_.1))]⟩) (O':=(Zv O n [some ⟨false,110,4,1,[.row (n+9) z1.2.1.length,.val (.int .i64 z1.1),.row (n+10) z1.2.2.1.length,.row (n+11) z1.2.2.2.length]⟩,none,none,none,none,none,none,none,none,some ⟨true,69,14,z1.2.1.length,fl Zf z1.2.1⟩,some ⟨true,25,3,z1.2.2.1.length,fl Zb z1.2.2.1⟩,some ⟨true,25,3,z1.2.2.2.length,fl Zb z1.2.2.2⟩,none])) (n0:=(n+13)) ?_ ?_
   ·refine Z6 ?_
    refine Zm ?_
    obtain ⟨x3,hx3,ax3,bx3,cx3,hz1⟩:=bE (f:=Zf) V2 (fun _=>rfl) (by decide) hz1
    refine Zc Zd [] ?_
    simp only [push_cast,Nat.reduceAdd,Nat.reduceSub,Nat.reduceMul,Nat.reduceLeDiff,Nat.reduceLT,Nat.reduceEqDiff,↓reduceIte,reduceCtorEq,Int.reduceBEq,Int.reduceBNe,Nat.reduceBEq,Int.reduceLE,Int.reduceLT,Int.reduceEq,Int.reduceNe,Int.reduceNeg,Nat.reduceDiv,Nat.reduceMod,Nat.reducePow,Za,ax3,bx3,cx3,hN0,hN]
    refine Zk [0,5,7,8,9,10] [true,true,true,true,false,true] ?_
    simp only [push_cast,seval,↓reduceIte]
    refine Zq [0,5,7,8,9,10,15] (Zc Zd [] ?_)
    simp only [push_cast,seval,↓reduceIte,Za,hN0,hN]
    refine Z6 ?_
    refine Zq [0,5,7,8,9,10,15,16] (Zc Zd [] ?_)
    simp only [push_cast,seval,↓reduceIte,Za,hN0,hN]
    refine Zu (t:=(x3.Kind == 0)) rfl (fun c12 => ?_) (fun c12 => ?_)
    ·replace hz1:=Zs c12 hz1
     obtain ⟨y4,hy4,hz1⟩:=bC hz1
     refine Zc Zd [] ?_
     simp only [push_cast,seval,↓reduceIte,Za,hN0,hN]
     refine (Zdv (i0:=n) (j0_0:=(n+2)) (j0_1:=(n+3)) (j0_2:=(n+1)) (by omega) (by omega) (by omega) (by omega) (by omega) (by omega) (by omega) (by omega) (by omega) (by omega) (by simp only [push_cast,seval,↓reduceIte,Za,Xg,hN0,hN] <;> rfl) (by simp only [push_cast,seval,↓reduceIte,Za,Xg,hN0,hN] <;> rfl) (by simp only [push_cast,seval,↓reduceIte,Za,Xg,hN0,hN] <;> rfl) (by simp only [push_cast,seval,↓reduceIte,Za,Xg,hN0,hN] <;> rfl) hy4).then ?_
     simp only [push_cast,seval,↓reduceIte,Za,hN0,hN]
     have hz1:=Option.some.inj hz1;subst hz1
     refine And.intro rfl ?_
     refine Fit2.trans (E':=(⟨44,[],[(0,.val (.int .i64 a0)),(5,.ref n 0),(8,.sl a1.length (fl Zf a1)),(9,.val (.int .i64 (a1.length:Int))),(10,.val (.int .i64 s0_.1))]⟩:Env)) (O':=(Zv O n [some ⟨false,110,4,1,[.row (n+8) y4.out.length,.val (.int .i64 y4.kept),.row (n+6) y4.gone.length,.row (n+7) y4.come.length]⟩,none,none,none,none,none,some ⟨true,25,3,y4.gone.length,fl Zb y4.gone⟩,some ⟨true,25,3,y4.come.length,fl Zb y4.come⟩,some ⟨true,69,14,y4.out.length,fl Zf y4.out⟩])) (n':=(n+9)) (Fit2.of (Zj hU rfl rfl ?_) (by omega)) ?_
     ·simp only [push_cast,seval,↓reduceIte,Za,hN0,hN]
     refine Jr (k:=9) (k':=13) hU [0,12,12,12,12,12,10,11,9] [0,0,0,0,0,0,0,0,0,8,6,7,0] rfl rfl rfl rfl ⟨rfl,rfl⟩ ?_
     simp only [push_cast,seval,↓reduceIte,Za,hN0,hN]
    replace hz1:=Zr c12 hz1
    refine Zq [0,5,7,8,9,10,15,21] (Zc Zd [] ?_)
    simp only [push_cast,seval,↓reduceIte,Za,hN0,hN]
    refine Zu (t:=(x3.Kind == 1)) rfl (fun c11 => ?_) (fun c11 => ?_)
    ·replace hz1:=Zs c11 hz1
     obtain ⟨y5,hy5,hz1⟩:=bC hz1
     refine Zc Zd [] ?_
     simp only [push_cast,seval,↓reduceIte,Za,hN0,hN]
     refine (Zf6 (i0:=n) (j0_0:=(n+2)) (j0_1:=(n+3)) (j0_2:=(n+1)) (by omega) (by omega) (by omega) (by omega) (by omega) (by omega) (by omega) (by omega) (by omega) (by omega) (by simp only [push_cast,seval,↓reduceIte,Za,Xg,hN0,hN] <;> rfl) (by simp only [push_cast,seval,↓reduceIte,Za,Xg,hN0,hN] <;> rfl) (by simp only [push_cast,seval,↓reduceIte,Za,Xg,hN0,hN] <;> rfl) (by simp only [push_cast,seval,↓reduceIte,Za,Xg,hN0,hN] <;> rfl) hy5).then ?_
     simp only [push_cast,seval,↓reduceIte,Za,hN0,hN]
     have hz1:=Option.some.inj hz1;subst hz1
     refine And.intro rfl ?_
     refine Fit2.trans (E':=(⟨44,[],[(0,.val (.int .i64 a0)),(5,.ref n 0),(8,.sl a1.length (fl Zf a1)),(9,.val (.int .i64 (a1.length:Int))),(10,.val (.int .i64 s0_.1))]⟩:Env)) (O':=(Zv O n [some ⟨false,110,4,1,[.row (n+8) y5.out.length,.val (.int .i64 y5.kept),.row (n+6) y5.gone.length,.row (n+7) y5.come.length]⟩,none,none,none,none,none,some ⟨true,25,3,y5.gone.length,fl Zb y5.gone⟩,some ⟨true,25,3,y5.come.length,fl Zb y5.come⟩,some ⟨true,69,14,y5.out.length,fl Zf y5.out⟩])) (n':=(n+9)) (Fit2.of (Zj hU rfl rfl ?_) (by omega)) ?_
     ·simp only [push_cast,seval,↓reduceIte,Za,hN0,hN]
     refine Jr (k:=9) (k':=13) hU [0,12,12,12,12,12,10,11,9] [0,0,0,0,0,0,0,0,0,8,6,7,0] rfl rfl rfl rfl ⟨rfl,rfl⟩ ?_
     simp only [push_cast,seval,↓reduceIte,Za,hN0,hN]
    replace hz1:=Zr c11 hz1
    refine Zq [0,5,7,8,9,10,15,27] (Zc Zd [] ?_)
    simp only [push_cast,seval,↓reduceIte,Za,hN0,hN]
    refine Zu (t:=(x3.Kind == 2)) rfl (fun c10 => ?_) (fun c10 => ?_)
    ·replace hz1:=Zs c10 hz1
     obtain ⟨y6,hy6,hz1⟩:=bC hz1
     refine Zc Zd [] ?_
     simp only [push_cast,seval,↓reduceIte,Za,hN0,hN]
     refine (Zf7 (i0:=n) (j0_0:=(n+2)) (j0_1:=(n+3)) (j0_2:=(n+1)) (by omega) (by omega) (by omega) (by omega) (by omega) (by omega) (by omega) (by omega) (by omega) (by omega) (by simp only [push_cast,seval,↓reduceIte,Za,Xg,hN0,hN] <;> rfl) (by simp only [push_cast,seval,↓reduceIte,Za,Xg,hN0,hN] <;> rfl) (by simp only [push_cast,seval,↓reduceIte,Za,Xg,hN0,hN] <;> rfl) (by simp only [push_cast,seval,↓reduceIte,Za,Xg,hN0,hN] <;> rfl) hy6).then ?_
     simp only [push_cast,seval,↓reduceIte,Za,hN0,hN]
     have hz1:=Option.some.inj hz1;subst hz1
     refine And.intro rfl ?_
     refine Fit2.trans (E':=(⟨44,[],[(0,.val (.int .i64 a0)),(5,.ref n 0),(8,.sl a1.length (fl Zf a1)),(9,.val (.int .i64 (a1.length:Int))),(10,.val (.int .i64 s0_.1))]⟩:Env)) (O':=(Zv O n [some ⟨false,110,4,1,[.row (n+8) y6.out.length,.val (.int .i64 y6.kept),.row (n+6) y6.gone.length,.row (n+7) y6.come.length]⟩,none,none,none,none,none,some ⟨true,25,3,y6.gone.length,fl Zb y6.gone⟩,some ⟨true,25,3,y6.come.length,fl Zb y6.come⟩,some ⟨true,69,14,y6.out.length,fl Zf y6.out⟩])) (n':=(n+9)) (Fit2.of (Zj hU rfl rfl ?_) (by omega)) ?_
     ·simp only [push_cast,seval,↓reduceIte,Za,hN0,hN]
     refine Jr (k:=9) (k':=13) hU [0,12,12,12,12,12,10,11,9] [0,0,0,0,0,0,0,0,0,8,6,7,0] rfl rfl rfl rfl ⟨rfl,rfl⟩ ?_
     simp only [push_cast,seval,↓reduceIte,Za,hN0,hN]
    replace hz1:=Zr c10 hz1
    refine Zq [0,5,7,8,9,10,33] (Zc Zd [] ?_)
    simp only [push_cast,seval,↓reduceIte,Za,hN0,hN]
    refine Zu (t:=(x3.Kind == 3)) rfl (fun c9 => ?_) (fun c9 => ?_)
    ·replace hz1:=Zs c9 hz1
     obtain ⟨y7,hy7,hz1⟩:=bC hz1
     obtain ⟨y8,hy8,hz1⟩:=bC hz1
     refine Zc Zd [] ?_
     simp only [push_cast,seval,↓reduceIte,Za,hN0,hN]
     refine (Zbu hy7).then ?_
     simp only [push_cast,seval,↓reduceIte,Za,hN0,hN]
     refine (Zgn (i0:=n) (j0_0:=(n+2)) (j0_1:=(n+3)) (j0_2:=(n+1)) (by omega) (by omega) (by omega) (by omega) (by omega) (by omega) (by omega) (by omega) (by omega) (by omega) (by simp only [push_cast,seval,↓reduceIte,Za,Xg,hN0,hN] <;> rfl) (by simp only [push_cast,seval,↓reduceIte,Za,Xg,hN0,hN] <;> rfl) (by simp only [push_cast,seval,↓reduceIte,Za,Xg,hN0,hN] <;> rfl) (by simp only [push_cast,seval,↓reduceIte,Za,Xg,hN0,hN] <;> rfl) hy8).then ?_
     simp only [push_cast,seval,↓reduceIte,Za,hN0,hN]
     have hz1:=Option.some.inj hz1;subst hz1
     refine And.intro rfl ?_
     refine Fit2.trans (E':=(⟨44,[],[(0,.val (.int .i64 a0)),(5,.ref n 0),(8,.sl a1.length (fl Zf a1)),(9,.val (.int .i64 (a1.length:Int))),(10,.val (.int .i64 s0_.1))]⟩:Env)) (O':=(Zv O n [some ⟨false,110,4,1,[.row (n+8) y8.out.length,.val (.int .i64 y8.kept),.row (n+6) y8.gone.length,.row (n+7) y8.come.length]⟩,none,none,none,none,none,some ⟨true,25,3,y8.gone.length,fl Zb y8.gone⟩,some ⟨true,25,3,y8.come.length,fl Zb y8.come⟩,some ⟨true,69,14,y8.out.length,fl Zf y8.out⟩])) (n':=(n+9)) (Fit2.of (Zj hU rfl rfl ?_) (by omega)) ?_
     ·simp only [push_cast,seval,↓reduceIte,Za,hN0,hN]
     refine Jr (k:=9) (k':=13) hU [0,12,12,12,12,12,10,11,9] [0,0,0,0,0,0,0,0,0,8,6,7,0] rfl rfl rfl rfl ⟨rfl,rfl⟩ ?_
     simp only [push_cast,seval,↓reduceIte,Za,hN0,hN]
    replace hz1:=Zr c9 hz1
    refine Zy ?_
    try simp only [Zl,Zi]
    have hz1:=Option.some.inj hz1;subst hz1
    refine And.intro rfl ?_
    refine Fit2.trans (E':=(⟨44,[],[(0,.val (.int .i64 a0)),(5,.ref n 0),(8,.sl a1.length (fl Zf a1)),(9,.val (.int .i64 (a1.length:Int))),(10,.val (.int .i64 s0_.1))]⟩:Env)) (O':=(Zv O n [some ⟨false,110,4,1,[.row (n+1) s0_.2.2.1.length,.val (.int .i64 s0_.2.1),.row (n+2) s0_.2.2.2.1.length,.row (n+3) s0_.2.2.2.2.length]⟩,some ⟨true,69,14,s0_.2.2.1.length,fl Zf s0_.2.2.1⟩,some ⟨true,25,3,s0_.2.2.2.1.length,fl Zb s0_.2.2.2.1⟩,some ⟨true,25,3,s0_.2.2.2.2.length,fl Zb s0_.2.2.2.2⟩,none,none])) (n':=(n+6)) (Fit2.of (Zj hU rfl rfl ?_) (by omega)) ?_
    ·simp only [push_cast,seval,↓reduceIte,Za,hN0,hN]
    refine Jr (k:=6) (k':=13) hU [0,9,10,11,12,12] [0,0,0,0,0,0,0,0,0,1,2,3,0] rfl rfl rfl rfl ⟨rfl,rfl⟩ ?_
    simp only [push_cast,seval,↓reduceIte,Za,hN0,hN]
   refine Zc Zd [] ?_
   simp only [push_cast,seval,↓reduceIte,Za,hN0,hN]
   have hs0_:=Option.some.inj hs0_;subst hs0_
   refine And.intro rfl ?_
   refine Fit2.trans (E':=(⟨44,[],[(0,.val (.int .i64 a0)),(5,.ref n 0),(8,.sl a1.length (fl Zf a1)),(9,.val (.int .i64 (a1.length:Int))),(10,.val (.int .i64 (IntKind.i64.wrap (s0_.1+1))))]⟩:Env)) (O':=(Zv O n [some ⟨false,110,4,1,[.row (n+9) z1.2.1.length,.val (.int .i64 z1.1),.row (n+10) z1.2.2.1.length,.row (n+11) z1.2.2.2.length]⟩,none,none,none,none,none,none,none,none,some ⟨true,69,14,z1.2.1.length,fl Zf z1.2.1⟩,some ⟨true,25,3,z1.2.2.1.length,fl Zb z1.2.2.1⟩,some ⟨true,25,3,z1.2.2.2.length,fl Zb z1.2.2.2⟩,none])) (n':=(n+13)) (Fit2.of (Zj hU rfl rfl ?_) (by omega)) ?_
   ·simp only [push_cast,seval,↓reduceIte,Za,hN0,hN]
   refine Jr (k:=13) (k':=5) hU [0,4,4,4,4,4,4,4,4,1,2,3,4] [0,9,10,11,0] rfl rfl rfl rfl ⟨rfl,rfl⟩ ?_
   simp only [push_cast,seval,↓reduceIte,Za,hN0,hN]
  replace hs0_:=Zr c13 hs0_
  refine Yx ?_
  try simp only [Zl,Zi,↓reduceIte,Nat.reduceEqDiff]
  have hs0_:=Option.some.inj hs0_;subst hs0_
  refine And.intro (fun h=>by cases h) (And.intro rfl (Fit2.of (Zj hU rfl rfl ?_) (by omega)))
  simp only [push_cast,seval,↓reduceIte,Za,hN0,hN]
 try simp only [Zl,Zi,↓reduceIte,Nat.reduceEqDiff]
 refine Zk [5] [true,true,true,true,false] ?_
 simp only [push_cast,seval,↓reduceIte]
 refine Zm ?_
 obtain ⟨y16,hy16,h⟩:=bC h
 refine Zc Zd [] ?_
 simp only [push_cast,seval,↓reduceIte,Za,hN0,hN]
 refine (Kt (i0:=n) (j0_0:=(n+2)) (j0_1:=(n+3)) (j0_2:=(n+1)) (by omega) (by omega) (by omega) (by omega) (by omega) (by omega) (by omega) (by omega) (by omega) (by omega) (by simp only [push_cast,seval,↓reduceIte,Za,Xg,hN0,hN] <;> rfl) (by simp only [push_cast,seval,↓reduceIte,Za,Xg,hN0,hN] <;> rfl) (by simp only [push_cast,seval,↓reduceIte,Za,Xg,hN0,hN] <;> rfl) (by simp only [push_cast,seval,↓reduceIte,Za,Xg,hN0,hN] <;> rfl) hy16).then ?_
 simp only [push_cast,seval,↓reduceIte,Za,hN0,hN]
 refine Zk [5] [true,false,false,false,false,true,true,true] ?_
 simp only [push_cast,seval,↓reduceIte]
 refine Zq [4] (Zc Zd [] ?_)
 simp only [push_cast,seval,↓reduceIte,Za,hN0,hN]
 refine Z0 ?_
 try simp only [Zl,Zi]
 have h:=Option.some.inj h;subst h
 refine Zt (.inr rfl) hU [.row (n+7) y16.out.length] (by omega) ?_
 simp only [push_cast,seval,↓reduceIte,Za,Try.results51,hN0,hN]
theorem Zlv:∀ k,(∀ {a0:S_api_Edit} {r:S_api_Edit} {O:Objs} {n:Nat},(Xe k).1 a0=some r→GTo Try.prog 18 [.agg (Ze a0)] O n (.agg (Ze r)) O n)∧(∀ {a0:Int} {a1:(List S_api_Op)} {r:(List S_api_Op)} {O:Objs} {n:Nat},(Xe k).2 a0 a1=some r→GTo Try.prog 51 [.val (.int .i64 a0),.sl a1.length (fl Zf a1)] O n (.sl r.length (fl Zf r)) O n):=fun k=>by
 induction k with
 | zero=>exact ⟨@fun a0 r O n h=>(nomatch (show (none:Option _)=some _ from h)),@fun a0 a1 r O n h=>(nomatch (show (none:Option _)=some _ from h))⟩
 | succ k ih=>exact ⟨@fun a0 r O n h=>Zod (ih.1) (ih.2)  h,@fun a0 a1 r O n h=>Zp0 (ih.1) (ih.2)  h⟩
theorem Zpv {a0:S_api_Edit} {r:S_api_Edit} {O:Objs} {n:Nat} (h:Zgl a0=some r):GTo Try.prog 18 [.agg (Ze a0)] O n (.agg (Ze r)) O n:=by
 obtain ⟨k,hk⟩:=Vs h
 exact (Zlv k).1  hk
theorem Zir {a0:S_api_Edit} {r:S_api_Edit} {O:Objs} {n:Nat} (h:Zal a0=some r):GTo Try.prog 28 [.agg (Ze a0)] O n (.agg (Ze r)) O n:=by
 unfold Zal at h
 refine Y3 Zd Try.call28 Try.func28 rfl (Nat.le_of_ble_eq_true rfl) (Nat.le_refl _) fun hU => ?_
 have hN0:O n=none:=hU.fresh _ (Nat.le_refl _)
 have hN:∀ k,O (n+k)=none:=fun k=>hU.fresh _ (Nat.le_add_right _ _)
 show W _ _ _ _ ⟨6,[],[(0,.agg (Ze a0))]⟩ (Zv O n []) _
 refine Zq [1,2] (Zc Zd [] ?_)
 simp only [push_cast,seval,↓reduceIte,Za,hN0,hN]
 refine Zm ?_
 obtain ⟨y3,hy3,h⟩:=bC h
 obtain ⟨y4,hy4,h⟩:=bC h
 refine Zc Zd [] ?_
 simp only [push_cast,seval,↓reduceIte,Za,hN0,hN]
 refine (Znb hy3).then ?_
 simp only [push_cast,seval,↓reduceIte,Za,hN0,hN]
 refine (Zpv hy4).then ?_
 simp only [push_cast,seval,↓reduceIte,Za,hN0,hN]
 refine Zk [2] [false,true] ?_
 simp only [push_cast,seval,↓reduceIte]
 refine Z0 ?_
 try simp only [Zl,Zi]
 have h:=Option.some.inj h;subst h
 refine Zt (.inr rfl) hU [.agg (Ze y4)] (by omega) ?_
 simp only [push_cast,seval,↓reduceIte,Za,Try.results28,hN0,hN]
theorem Ze0  {r:Bool} {O:Objs} {n:Nat} (h:J5=some r):GTo Try.prog 27 [] O n (.val (.bool r)) O n:=by
 unfold J5 at h
 refine Y3 Zd Try.call27 Try.func27 rfl (Nat.le_of_ble_eq_true rfl) (Nat.le_refl _) fun hU => ?_
 have hN0:O n=none:=hU.fresh _ (Nat.le_refl _)
 have hN:∀ k,O (n+k)=none:=fun k=>hU.fresh _ (Nat.le_add_right _ _)
 show W _ _ _ _ ⟨32,[],[]⟩ (Zv O n []) _
 refine Zq [] (Zc Zd [] ?_)
 simp only [push_cast,seval,↓reduceIte,Za,hN0,hN]
 refine Zm ?_
 refine Zc Zd [] ?_
 simp only [push_cast,seval,↓reduceIte,Za,hN0,hN]
 refine Zbw ⟨32,[],[(1,.row (n+1) ([(⟨10,([1]:List Int),([]:(List S_api_Tree))⟩:S_api_Tree)]:List S_api_Tree).length)]⟩ (Zv O n [none,some ⟨true,25,3,([(⟨10,([1]:List Int),([]:(List S_api_Tree))⟩:S_api_Tree)]:List S_api_Tree).length,fl Zb ([(⟨10,([1]:List Int),([]:(List S_api_Tree))⟩:S_api_Tree)]:List S_api_Tree)⟩]) (Zj hU rfl rfl ?_) ?_
 ·simp only [push_cast,seval,↓reduceIte,Za,hN0,hN]
 refine Zbw ⟨32,[],[(1,.sl ([(⟨10,([1]:List Int),([]:(List S_api_Tree))⟩:S_api_Tree)]:List S_api_Tree).length (fl Zb ([(⟨10,([1]:List Int),([]:(List S_api_Tree))⟩:S_api_Tree)]:List S_api_Tree)))]⟩ (Zv O n [none,none]) (Zj hU rfl rfl ?_) ?_
 ·simp only [push_cast,seval,↓reduceIte,Za,hN0,hN]
 refine Zm ?_
 obtain ⟨y2,hy2,h⟩:=bC h
 refine Zc Zd [] ?_
 simp only [push_cast,seval,↓reduceIte,Za,hN0,hN]
 refine GCalls.dropL (l':=[none,none,none]) hU rfl ?_ ((Zir hy2).then ?_)
 ·simp only [push_cast,seval,↓reduceIte,Za,hN0,hN]
 simp only [push_cast,seval,↓reduceIte,Za,hN0,hN]
 refine Zk [2] [false,false,false,true] ?_
 simp only [push_cast,seval,↓reduceIte]
 obtain ⟨z7,hz7,h⟩:=bC h
 refine Yl (E':=⟨32,[],[(0,.val (.bool z7))]⟩) (O':=(Zv O n [none,none,none,none])) (n0:=(n+4)) ?_ ?_
 ·rcases Bool.eq_false_or_eq_true ((y2.Ops.length:Int) == 2) with c16 | c16
  ·replace hz7:=Zs c16 hz7
   obtain ⟨x12,hx12,ax12,bx12,cx12,hz7⟩:=bE (f:=Zf) V2 (fun _=>rfl) (by decide) hz7
   have g13:=K4 (f:=Zf) (sz:=14) Zig (fun _=>rfl) (by decide) (by decide) hx12
   rcases Bool.eq_false_or_eq_true (x12.Kind == 1) with c17 | c17
   ·replace hz7:=Zs c17 hz7
    try rw [c17] at c16
    obtain ⟨x14,hx14,ax14,bx14,cx14,hz7⟩:=bE (f:=Zf) V2 (fun _=>rfl) (by decide) hz7
    have g15:=K4 (f:=Zf) (sz:=14) Zig (fun _=>rfl) (by decide) (by decide) hx14
    refine Zc Zd [some true,some true,some true,some true,some true,some true,some true,some true,some true,some true,some true,some true] ?_
    simp only [push_cast,Nat.reduceAdd,Nat.reduceSub,Nat.reduceMul,Nat.reduceLeDiff,Nat.reduceLT,Nat.reduceEqDiff,↓reduceIte,reduceCtorEq,Int.reduceBEq,Int.reduceBNe,Nat.reduceBEq,Int.reduceLE,Int.reduceLT,Int.reduceEq,Int.reduceNe,Int.reduceNeg,Nat.reduceDiv,Nat.reduceMod,Nat.reducePow,Za,c16,ax12,bx12,cx12,g13,c17,ax14,bx14,cx14,g15,hN0,hN]
    have hz7:=Option.some.inj hz7;subst hz7
    refine And.intro rfl (Fit2.of (Zj hU rfl rfl ?_) (by omega))
    simp only [push_cast,Nat.reduceAdd,Nat.reduceSub,Nat.reduceMul,Nat.reduceLeDiff,Nat.reduceLT,Nat.reduceEqDiff,↓reduceIte,reduceCtorEq,Int.reduceBEq,Int.reduceBNe,Nat.reduceBEq,Int.reduceLE,Int.reduceLT,Int.reduceEq,Int.reduceNe,Int.reduceNeg,Nat.reduceDiv,Nat.reduceMod,Nat.reducePow,Za,c16,ax12,bx12,cx12,g13,c17,ax14,bx14,cx14,g15,hN0,hN]
   replace hz7:=Zr c17 hz7
   try rw [c17] at c16
   refine Zc Zd [some true,some true,some true,some true,some true,some true,some false,some false,some false,some false,some false,some false] ?_
   simp only [push_cast,Nat.reduceAdd,Nat.reduceSub,Nat.reduceMul,Nat.reduceLeDiff,Nat.reduceLT,Nat.reduceEqDiff,↓reduceIte,reduceCtorEq,Int.reduceBEq,Int.reduceBNe,Nat.reduceBEq,Int.reduceLE,Int.reduceLT,Int.reduceEq,Int.reduceNe,Int.reduceNeg,Nat.reduceDiv,Nat.reduceMod,Nat.reducePow,Za,c16,ax12,bx12,cx12,g13,c17,hN0,hN]
   have hz7:=Option.some.inj hz7;subst hz7
   refine And.intro rfl (Fit2.of (Zj hU rfl rfl ?_) (by omega))
   simp only [push_cast,Nat.reduceAdd,Nat.reduceSub,Nat.reduceMul,Nat.reduceLeDiff,Nat.reduceLT,Nat.reduceEqDiff,↓reduceIte,reduceCtorEq,Int.reduceBEq,Int.reduceBNe,Nat.reduceBEq,Int.reduceLE,Int.reduceLT,Int.reduceEq,Int.reduceNe,Int.reduceNeg,Nat.reduceDiv,Nat.reduceMod,Nat.reducePow,Za,c16,ax12,bx12,cx12,g13,c17,hN0,hN]
  replace hz7:=Zr c16 hz7
  refine Zc Zd [some false,some false,some false,some false,some false,some false,some false,some false,some false,some false,some false,some false] ?_
  simp only [push_cast,seval,↓reduceIte,Za,c16,hN0,hN]
  have hz7:=Option.some.inj hz7;subst hz7
  refine And.intro rfl (Fit2.of (Zj hU rfl rfl ?_) (by omega))
  simp only [push_cast,seval,↓reduceIte,Za,c16,hN0,hN]
 refine Z0 ?_
 try simp only [Zl,Zi]
 have h:=Option.some.inj h;subst h
 refine Zt (.inr rfl) hU [.val (.bool z7)] (by omega) ?_
 simp only [push_cast,seval,↓reduceIte,Za,Try.results27,hN0,hN]
theorem Zix {Xw:(S_api_Edit→Option S_api_Edit)} (Zas:∀ {a0:S_api_Edit} {r:S_api_Edit} {O:Objs} {n:Nat},Xw a0=some r→GTo Try.prog 62 [.agg (Ze a0)] O n (.agg (Ze r)) O n) {a0:S_api_Edit} {r:S_api_Edit} {O:Objs} {n:Nat} (h:Vk Xw a0=some r):GTo Try.prog 62 [.agg (Ze a0)] O n (.agg (Ze r)) O n:=by
 unfold Vk at h
 refine Y3 Zd Try.call62 Try.func62 rfl (Nat.le_of_ble_eq_true rfl) (Nat.le_refl _) fun hU => ?_
 have hN0:O n=none:=hU.fresh _ (Nat.le_refl _)
 have hN:∀ k,O (n+k)=none:=fun k=>hU.fresh _ (Nat.le_add_right _ _)
 show W _ _ _ _ ⟨107,[],[(0,.agg (Ze a0))]⟩ (Zv O n []) _
 refine Zq [1,2] (Zc Zd [] ?_)
 simp only [push_cast,seval,↓reduceIte,Za,hN0,hN]
 refine Zm ?_
 refine Zc Zd [] ?_
 simp only [push_cast,seval,↓reduceIte,Za,hN0,hN]
 refine Zk [1,2,3] [true,true,true] ?_
 simp only [push_cast,seval,↓reduceIte]
 refine Zm ?_
 refine Zc Zd [] ?_
 simp only [push_cast,seval,↓reduceIte,Za,hN0,hN]
 refine Zk [1,2,3] [true,true,true] ?_
 simp only [push_cast,seval,↓reduceIte]
 refine Zm ?_
 refine Zc Zd [] ?_
 simp only [push_cast,seval,↓reduceIte,Za,hN0,hN]
 refine Zk [1,2,3] [true,true,true] ?_
 simp only [push_cast,seval,↓reduceIte]
 refine Zm ?_
 refine Zq [1,2,3,4] (Zc Zd [] ?_)
 simp only [push_cast,seval,↓reduceIte,Za,hN0,hN]
 refine Zk [1,2,3,4] [true,true,true] ?_
 simp only [push_cast,seval,↓reduceIte]
 refine Jh (E':=(⟨107,[],[(1,.ref n 0),(2,.ref (n+1) 0),(3,.ref (n+2) 0),(4,.val (.int .i64 0))]⟩:Env)) (O':=(Zv O n [some ⟨false,30,11,1,(Ze a0)⟩,some ⟨false,30,11,1,[.val (.int .i64 0),.val (.int .i64 0),.val (.slice none 0 0),.val (.slice none 0 0),.val (.int .i64 0),.val (.slice none 0 0),.val (.slice none 0 0),.val (.slice none 0 0),.val (.slice none 0 0),.val (.int .i64 0),.val (.slice none 0 0)]⟩,some ⟨false,30,11,1,[.val (.int .i64 a0.Kind),.val (.int .i64 a0.New.Kind),.sl a0.New.Words.length (fl (eI .u64) a0.New.Words),.sl a0.New.Kids.length (fl Zb a0.New.Kids),.val (.int .i64 a0.Old.Kind),.sl a0.Old.Words.length (fl (eI .u64) a0.Old.Words),.sl a0.Old.Kids.length (fl Zb a0.Old.Kids),.row (n+3) ([]:List Zp).length,.val (.slice none 0 0),.val (.int .i64 a0.List_),.val (.slice none 0 0)]⟩,some ⟨true,58,4,([]:List Zp).length,fl Zg ([]:List Zp)⟩,none])) (n':=(n+5)) ?_ ?_
 ·refine Fit2.trans (E':=(⟨107,[],[(1,.ref n 0),(2,.ref (n+1) 0),(3,.ref (n+2) 0),(4,.val (.int .i64 0))]⟩:Env)) (O':=(Zv O n [some ⟨false,30,11,1,(Ze a0)⟩,some ⟨false,30,11,1,[.val (.int .i64 0),.val (.int .i64 0),.val (.slice none 0 0),.val (.slice none 0 0),.val (.int .i64 0),.val (.slice none 0 0),.val (.slice none 0 0),.val (.slice none 0 0),.val (.slice none 0 0),.val (.int .i64 0),.val (.slice none 0 0)]⟩,some ⟨false,30,11,1,[.val (.int .i64 a0.Kind),.val (.int .i64 a0.New.Kind),.sl a0.New.Words.length (fl (eI .u64) a0.New.Words),.sl a0.New.Kids.length (fl Zb a0.New.Kids),.val (.int .i64 a0.Old.Kind),.sl a0.Old.Words.length (fl (eI .u64) a0.Old.Words),.sl a0.Old.Kids.length (fl Zb a0.Old.Kids),.val (.slice none 0 0),.val (.slice none 0 0),.val (.int .i64 a0.List_),.val (.slice none 0 0)]⟩])) (n':=(n+3)) (Fit2.of (Zj hU rfl rfl ?_) (by omega)) ?_
  ·simp only [push_cast,seval,↓reduceIte,Za,hN0,hN]
  refine Fit2.trans (E':=(⟨107,[],[(1,.ref n 0),(2,.ref (n+1) 0),(3,.ref (n+2) 0),(4,.val (.int .i64 0))]⟩:Env)) (O':=(Zv O n [some ⟨false,30,11,1,(Ze a0)⟩,some ⟨false,30,11,1,[.val (.int .i64 0),.val (.int .i64 0),.val (.slice none 0 0),.val (.slice none 0 0),.val (.int .i64 0),.val (.slice none 0 0),.val (.slice none 0 0),.val (.slice none 0 0),.val (.slice none 0 0),.val (.int .i64 0),.val (.slice none 0 0)]⟩,some ⟨false,30,11,1,[.val (.int .i64 a0.Kind),.val (.int .i64 a0.New.Kind),.sl a0.New.Words.length (fl (eI .u64) a0.New.Words),.sl a0.New.Kids.length (fl Zb a0.New.Kids),.val (.int .i64 a0.Old.Kind),.sl a0.Old.Words.length (fl (eI .u64) a0.Old.Words),.sl a0.Old.Kids.length (fl Zb a0.Old.Kids),.row (n+3) 0,.val (.slice none 0 0),.val (.int .i64 a0.List_),.val (.slice none 0 0)]⟩,some ⟨true,58,4,0,[]⟩])) (n':=(n+4)) ?_ ?_
  ·have ha:=Ji (ba:=n) (E:=(⟨107,[],[(1,.ref n 0),(2,.ref (n+1) 0),(3,.ref (n+2) 0),(4,.val (.int .i64 0))]⟩:Env)) (O:=(Zv O n [some ⟨false,30,11,1,[.val (.int .i64 a0.Kind),.val (.int .i64 a0.Old.Kind),.sl a0.Old.Words.length (fl (eI .u64) a0.Old.Words),.sl a0.Old.Kids.length (fl Zb a0.Old.Kids),.val (.int .i64 a0.New.Kind),.sl a0.New.Words.length (fl (eI .u64) a0.New.Words),.sl a0.New.Kids.length (fl Zb a0.New.Kids),.sl a0.Words.length (fl Zg a0.Words),.sl a0.Kids.length (fl Zh a0.Kids),.val (.int .i64 a0.List_),.sl a0.Ops.length (fl Zf a0.Ops)]⟩,some ⟨false,30,11,1,[.val (.int .i64 0),.val (.int .i64 0),.val (.slice none 0 0),.val (.slice none 0 0),.val (.int .i64 0),.val (.slice none 0 0),.val (.slice none 0 0),.val (.slice none 0 0),.val (.slice none 0 0),.val (.int .i64 0),.val (.slice none 0 0)]⟩,some ⟨false,30,11,1,[.val (.int .i64 a0.Kind),.val (.int .i64 a0.New.Kind),.sl a0.New.Words.length (fl (eI .u64) a0.New.Words),.sl a0.New.Kids.length (fl Zb a0.New.Kids),.val (.int .i64 a0.Old.Kind),.sl a0.Old.Words.length (fl (eI .u64) a0.Old.Words),.sl a0.Old.Kids.length (fl Zb a0.Old.Kids),.val (.slice none 0 0),.val (.slice none 0 0),.val (.int .i64 a0.List_),.val (.slice none 0 0)]⟩])) (n:=(n+3)) (p:=(n+2)) (k:=7) (q:=⟨false,30,11,1,[.val (.int .i64 a0.Kind),.val (.int .i64 a0.New.Kind),.sl a0.New.Words.length (fl (eI .u64) a0.New.Words),.sl a0.New.Kids.length (fl Zb a0.New.Kids),.val (.int .i64 a0.Old.Kind),.sl a0.Old.Words.length (fl (eI .u64) a0.Old.Words),.sl a0.Old.Kids.length (fl Zb a0.Old.Kids),.val (.slice none 0 0),.val (.slice none 0 0),.val (.int .i64 a0.List_),.val (.slice none 0 0)]⟩) 58 4 (by simp only [Ke,V5,List.getElem?_cons_zero,List.getElem?_cons_succ,Option.join_some,Ya]) rfl (by omega)
   simp only [Yv,Yj,Jo,Qs,List.set_cons_zero,List.set_cons_succ,List.cons_append,List.nil_append,List.length_cons,List.length_nil,Nat.zero_add,Nat.reduceAdd,Nat.reduceLT,Nat.add_assoc] at ha
   exact ha
  refine Fit2.trans (E':=(⟨107,[],[(1,.ref n 0),(2,.ref (n+1) 0),(3,.ref (n+2) 0),(4,.val (.int .i64 0))]⟩:Env)) (O':=(Zv O n [some ⟨false,30,11,1,(Ze a0)⟩,some ⟨false,30,11,1,[.val (.int .i64 0),.val (.int .i64 0),.val (.slice none 0 0),.val (.slice none 0 0),.val (.int .i64 0),.val (.slice none 0 0),.val (.slice none 0 0),.val (.slice none 0 0),.val (.slice none 0 0),.val (.int .i64 0),.val (.slice none 0 0)]⟩,some ⟨false,30,11,1,[.val (.int .i64 a0.Kind),.val (.int .i64 a0.New.Kind),.sl a0.New.Words.length (fl (eI .u64) a0.New.Words),.sl a0.New.Kids.length (fl Zb a0.New.Kids),.val (.int .i64 a0.Old.Kind),.sl a0.Old.Words.length (fl (eI .u64) a0.Old.Words),.sl a0.Old.Kids.length (fl Zb a0.Old.Kids),.row (n+3) ([]:List Zp).length,.val (.slice none 0 0),.val (.int .i64 a0.List_),.val (.slice none 0 0)]⟩,some ⟨true,58,4,([]:List Zp).length,fl Zg ([]:List Zp)⟩])) (n':=(n+4)) (Fit2.of (Zj hU rfl rfl ?_) (by omega)) ?_
  ·simp only [push_cast,seval,↓reduceIte,Za,hN0,hN]
  refine Jr (k:=4) (k':=5) hU [0,1,2,3] [0,1,2,3,0] rfl rfl rfl rfl ⟨rfl,rfl⟩ ?_
  simp only [push_cast,seval,↓reduceIte,Za,hN0,hN]
 obtain ⟨z5,hz5,h⟩:=bC h
 refine Yb (E':=⟨107,[],[(1,.ref n 0),(2,.ref (n+1) 0),(3,.ref (n+2) 0)]⟩) (O':=(Zv O n [some ⟨false,30,11,1,(Ze a0)⟩,some ⟨false,30,11,1,[.val (.int .i64 0),.val (.int .i64 0),.val (.slice none 0 0),.val (.slice none 0 0),.val (.int .i64 0),.val (.slice none 0 0),.val (.slice none 0 0),.val (.slice none 0 0),.val (.slice none 0 0),.val (.int .i64 0),.val (.slice none 0 0)]⟩,some ⟨false,30,11,1,[.val (.int .i64 a0.Kind),.val (.int .i64 a0.New.Kind),.sl a0.New.Words.length (fl (eI .u64) a0.New.Words),.sl a0.New.Kids.length (fl Zb a0.New.Kids),.val (.int .i64 a0.Old.Kind),.sl a0.Old.Words.length (fl (eI .u64) a0.Old.Words),.sl a0.Old.Kids.length (fl Zb a0.Old.Kids),.row (n+3) z5.length,.val (.slice none 0 0),.val (.int .i64 a0.List_),.val (.slice none 0 0)]⟩,some ⟨true,58,4,z5.length,fl Zg z5⟩,none])) (n0:=(n+5)) ?_ ?_
 ·refine Yn hz5 (fun s0_=>⟨107,[],[(1,.ref n 0),(2,.ref (n+1) 0),(3,.ref (n+2) 0),(4,.val (.int .i64 s0_.1))]⟩) (fun s0_=>(Zv O n [some ⟨false,30,11,1,(Ze a0)⟩,some ⟨false,30,11,1,[.val (.int .i64 0),.val (.int .i64 0),.val (.slice none 0 0),.val (.slice none 0 0),.val (.int .i64 0),.val (.slice none 0 0),.val (.slice none 0 0),.val (.slice none 0 0),.val (.slice none 0 0),.val (.int .i64 0),.val (.slice none 0 0)]⟩,some ⟨false,30,11,1,[.val (.int .i64 a0.Kind),.val (.int .i64 a0.New.Kind),.sl a0.New.Words.length (fl (eI .u64) a0.New.Words),.sl a0.New.Kids.length (fl Zb a0.New.Kids),.val (.int .i64 a0.Old.Kind),.sl a0.Old.Words.length (fl (eI .u64) a0.Old.Words),.sl a0.Old.Kids.length (fl Zb a0.Old.Kids),.row (n+3) s0_.2.length,.val (.slice none 0 0),.val (.int .i64 a0.List_),.val (.slice none 0 0)]⟩,some ⟨true,58,4,s0_.2.length,fl Zg s0_.2⟩,none])) (fun z5=>JX 0 n (⟨107,[],[(1,.ref n 0),(2,.ref (n+1) 0),(3,.ref (n+2) 0)]⟩:Env) (Zv O n [some ⟨false,30,11,1,(Ze a0)⟩,some ⟨false,30,11,1,[.val (.int .i64 0),.val (.int .i64 0),.val (.slice none 0 0),.val (.slice none 0 0),.val (.int .i64 0),.val (.slice none 0 0),.val (.slice none 0 0),.val (.slice none 0 0),.val (.slice none 0 0),.val (.int .i64 0),.val (.slice none 0 0)]⟩,some ⟨false,30,11,1,[.val (.int .i64 a0.Kind),.val (.int .i64 a0.New.Kind),.sl a0.New.Words.length (fl (eI .u64) a0.New.Words),.sl a0.New.Kids.length (fl Zb a0.New.Kids),.val (.int .i64 a0.Old.Kind),.sl a0.Old.Words.length (fl (eI .u64) a0.Old.Words),.sl a0.Old.Kids.length (fl Zb a0.Old.Kids),.row (n+3) z5.length,.val (.slice none 0 0),.val (.int .i64 a0.List_),.val (.slice none 0 0)]⟩,some ⟨true,58,4,z5.length,fl Zg z5⟩,none]) (n+5)) ?_
  intro s0_ x0_ hs0_
  unfold Jw at hs0_
  try dsimp only
  refine Zm ?_
  refine Zq [1,2,3,4,25] (Zc Zd [] ?_)
  simp only [push_cast,seval,↓reduceIte,Za,hN0,hN]
  refine Zu (t:=(decide (s0_.1 < (a0.Words.length:Int)))) rfl (fun c4 => ?_) (fun c4 => ?_)
  ·replace hs0_:=Zs c4 hs0_
   refine Zy ?_
   try simp only [Zl,Zi]
   refine Zk [1,2,3,4] [true,true,true,true,false] ?_
   simp only [push_cast,seval,↓reduceIte]
   refine Zm ?_
   refine Z6 ?_
   refine Zm ?_
   obtain ⟨x2,hx2,ax2,bx2,cx2,hs0_⟩:=bE (f:=Zg) Zmj (fun _=>rfl) (by decide) hs0_
   refine Zc Zd [] ?_
   simp only [push_cast,Nat.reduceAdd,Nat.reduceSub,Nat.reduceMul,Nat.reduceLeDiff,Nat.reduceLT,Nat.reduceEqDiff,↓reduceIte,reduceCtorEq,Int.reduceBEq,Int.reduceBNe,Nat.reduceBEq,Int.reduceLE,Int.reduceLT,Int.reduceEq,Int.reduceNe,Int.reduceNeg,Nat.reduceDiv,Nat.reduceMod,Nat.reducePow,Za,ax2,bx2,cx2,hN0,hN]
   refine Zk [1,2,3,4,5] [true,true,true,true,false,true] ?_
   simp only [push_cast,seval,↓reduceIte]
   refine Zq [1,2,3,4,5,6] (Zc Zd [] ?_)
   simp only [push_cast,seval,↓reduceIte,Za,hN0,hN]
   refine Zm ?_
   refine Zc Zd [] ?_
   simp only [push_cast,seval,↓reduceIte,Za,hN0,hN]
   refine Zk [1,2,3,4,5,6] [true,true,true,true,false,true] ?_
   simp only [push_cast,seval,↓reduceIte]
   refine Zm ?_
   refine Zc Zd [] ?_
   simp only [push_cast,seval,↓reduceIte,Za,hN0,hN]
   refine Zk [1,2,3,4,5] [true,true,true,true,false,true] ?_
   simp only [push_cast,seval,↓reduceIte]
   obtain ⟨l3,pl3,ql3,el3,hs0_⟩:=bA (k:=1) rfl hs0_
   refine Zc Zd [] ?_
   simp only [push_cast,seval,↓reduceIte,Za,pl3,ql3,el3,hN0,hN]
   refine Zbw ⟨107,[],[(1,.ref n 0),(2,.ref (n+1) 0),(3,.ref (n+2) 0),(4,.val (.int .i64 s0_.1))]⟩ (Zv O n [some ⟨false,30,11,1,(Ze a0)⟩,some ⟨false,30,11,1,[.val (.int .i64 0),.val (.int .i64 0),.val (.slice none 0 0),.val (.slice none 0 0),.val (.int .i64 0),.val (.slice none 0 0),.val (.slice none 0 0),.val (.slice none 0 0),.val (.slice none 0 0),.val (.int .i64 0),.val (.slice none 0 0)]⟩,some ⟨false,30,11,1,[.val (.int .i64 a0.Kind),.val (.int .i64 a0.New.Kind),.sl a0.New.Words.length (fl (eI .u64) a0.New.Words),.sl a0.New.Kids.length (fl Zb a0.New.Kids),.val (.int .i64 a0.Old.Kind),.sl a0.Old.Words.length (fl (eI .u64) a0.Old.Words),.sl a0.Old.Kids.length (fl Zb a0.Old.Kids),.row (n+3) l3.length,.val (.slice none 0 0),.val (.int .i64 a0.List_),.val (.slice none 0 0)]⟩,some ⟨true,58,4,l3.length,fl Zg l3⟩,none,none,none]) (Zj hU rfl rfl ?_) ?_
   ·simp only [push_cast,seval,↓reduceIte,Za,pl3,ql3,el3,hN0,hN]
   refine Zc Zd [] ?_
   simp only [push_cast,seval,↓reduceIte,Za,hN0,hN]
   have hs0_:=Option.some.inj hs0_;subst hs0_
   refine And.intro rfl (Fit2.of (Zj hU rfl rfl ?_) (by omega))
   simp only [push_cast,seval,↓reduceIte,Za,hN0,hN]
  replace hs0_:=Zr c4 hs0_
  refine Yx ?_
  try simp only [Zl,Zi,↓reduceIte,Nat.reduceEqDiff]
  have hs0_:=Option.some.inj hs0_;subst hs0_
  refine And.intro (fun h=>by cases h) (And.intro rfl (Fit2.of (Zj hU rfl rfl ?_) (by omega)))
  simp only [push_cast,seval,↓reduceIte,Za,hN0,hN]
 try simp only [Zl,Zi,↓reduceIte,Nat.reduceEqDiff]
 refine Zk [1,2,3] [true,true,true,true,false] ?_
 simp only [push_cast,seval,↓reduceIte]
 refine Zm ?_
 refine Zq [1,2,3,7] (Zc Zd [] ?_)
 simp only [push_cast,seval,↓reduceIte,Za,hN0,hN]
 refine Zk [1,2,3,7] [true,true,true,true,false] ?_
 simp only [push_cast,seval,↓reduceIte]
 refine Jh (E':=(⟨107,[],[(1,.ref n 0),(2,.ref (n+1) 0),(3,.ref (n+2) 0),(7,.val (.int .i64 0))]⟩:Env)) (O':=(Zv O n [some ⟨false,30,11,1,(Ze a0)⟩,some ⟨false,30,11,1,[.val (.int .i64 0),.val (.int .i64 0),.val (.slice none 0 0),.val (.slice none 0 0),.val (.int .i64 0),.val (.slice none 0 0),.val (.slice none 0 0),.val (.slice none 0 0),.val (.slice none 0 0),.val (.int .i64 0),.val (.slice none 0 0)]⟩,some ⟨false,30,11,1,[.val (.int .i64 a0.Kind),.val (.int .i64 a0.New.Kind),.sl a0.New.Words.length (fl (eI .u64) a0.New.Words),.sl a0.New.Kids.length (fl Zb a0.New.Kids),.val (.int .i64 a0.Old.Kind),.sl a0.Old.Words.length (fl (eI .u64) a0.Old.Words),.sl a0.Old.Kids.length (fl Zb a0.Old.Kids),.row (n+3) z5.length,.row (n+5) ([]:List S_api_KidEdit).length,.val (.int .i64 a0.List_),.val (.slice none 0 0)]⟩,some ⟨true,58,4,z5.length,fl Zg z5⟩,none,some ⟨true,71,12,([]:List S_api_KidEdit).length,fl Zh ([]:List S_api_KidEdit)⟩,none])) (n':=(n+7)) ?_ ?_
 ·refine Fit2.trans (E':=(⟨107,[],[(1,.ref n 0),(2,.ref (n+1) 0),(3,.ref (n+2) 0),(7,.val (.int .i64 0))]⟩:Env)) (O':=(Zv O n [some ⟨false,30,11,1,(Ze a0)⟩,some ⟨false,30,11,1,[.val (.int .i64 0),.val (.int .i64 0),.val (.slice none 0 0),.val (.slice none 0 0),.val (.int .i64 0),.val (.slice none 0 0),.val (.slice none 0 0),.val (.slice none 0 0),.val (.slice none 0 0),.val (.int .i64 0),.val (.slice none 0 0)]⟩,some ⟨false,30,11,1,[.val (.int .i64 a0.Kind),.val (.int .i64 a0.New.Kind),.sl a0.New.Words.length (fl (eI .u64) a0.New.Words),.sl a0.New.Kids.length (fl Zb a0.New.Kids),.val (.int .i64 a0.Old.Kind),.sl a0.Old.Words.length (fl (eI .u64) a0.Old.Words),.sl a0.Old.Kids.length (fl Zb a0.Old.Kids),.row (n+3) z5.length,.val (.slice none 0 0),.val (.int .i64 a0.List_),.val (.slice none 0 0)]⟩,some ⟨true,58,4,z5.length,fl Zg z5⟩,none])) (n':=(n+5)) (Fit2.of (Zj hU rfl rfl ?_) (by omega)) ?_
  ·simp only [push_cast,seval,↓reduceIte,Za,hN0,hN]
  refine Fit2.trans (E':=(⟨107,[],[(1,.ref n 0),(2,.ref (n+1) 0),(3,.ref (n+2) 0),(7,.val (.int .i64 0))]⟩:Env)) (O':=(Zv O n [some ⟨false,30,11,1,(Ze a0)⟩,some ⟨false,30,11,1,[.val (.int .i64 0),.val (.int .i64 0),.val (.slice none 0 0),.val (.slice none 0 0),.val (.int .i64 0),.val (.slice none 0 0),.val (.slice none 0 0),.val (.slice none 0 0),.val (.slice none 0 0),.val (.int .i64 0),.val (.slice none 0 0)]⟩,some ⟨false,30,11,1,[.val (.int .i64 a0.Kind),.val (.int .i64 a0.New.Kind),.sl a0.New.Words.length (fl (eI .u64) a0.New.Words),.sl a0.New.Kids.length (fl Zb a0.New.Kids),.val (.int .i64 a0.Old.Kind),.sl a0.Old.Words.length (fl (eI .u64) a0.Old.Words),.sl a0.Old.Kids.length (fl Zb a0.Old.Kids),.row (n+3) z5.length,.row (n+5) 0,.val (.int .i64 a0.List_),.val (.slice none 0 0)]⟩,some ⟨true,58,4,z5.length,fl Zg z5⟩,none,some ⟨true,71,12,0,[]⟩])) (n':=(n+6)) ?_ ?_
  ·have ha:=Ji (ba:=n) (E:=(⟨107,[],[(1,.ref n 0),(2,.ref (n+1) 0),(3,.ref (n+2) 0),(7,.val (.int .i64 0))]⟩:Env)) (O:=(Zv O n [some ⟨false,30,11,1,[.val (.int .i64 a0.Kind),.val (.int .i64 a0.Old.Kind),.sl a0.Old.Words.length (fl (eI .u64) a0.Old.Words),.sl a0.Old.Kids.length (fl Zb a0.Old.Kids),.val (.int .i64 a0.New.Kind),.sl a0.New.Words.length (fl (eI .u64) a0.New.Words),.sl a0.New.Kids.length (fl Zb a0.New.Kids),.sl a0.Words.length (fl Zg a0.Words),.sl a0.Kids.length (fl Zh a0.Kids),.val (.int .i64 a0.List_),.sl a0.Ops.length (fl Zf a0.Ops)]⟩,some ⟨false,30,11,1,[.val (.int .i64 0),.val (.int .i64 0),.val (.slice none 0 0),.val (.slice none 0 0),.val (.int .i64 0),.val (.slice none 0 0),.val (.slice none 0 0),.val (.slice none 0 0),.val (.slice none 0 0),.val (.int .i64 0),.val (.slice none 0 0)]⟩,some ⟨false,30,11,1,[.val (.int .i64 a0.Kind),.val (.int .i64 a0.New.Kind),.sl a0.New.Words.length (fl (eI .u64) a0.New.Words),.sl a0.New.Kids.length (fl Zb a0.New.Kids),.val (.int .i64 a0.Old.Kind),.sl a0.Old.Words.length (fl (eI .u64) a0.Old.Words),.sl a0.Old.Kids.length (fl Zb a0.Old.Kids),.row (n+3) z5.length,.val (.slice none 0 0),.val (.int .i64 a0.List_),.val (.slice none 0 0)]⟩,some ⟨true,58,4,z5.length,fl Zg z5⟩,none])) (n:=(n+5)) (p:=(n+2)) (k:=8) (q:=⟨false,30,11,1,[.val (.int .i64 a0.Kind),.val (.int .i64 a0.New.Kind),.sl a0.New.Words.length (fl (eI .u64) a0.New.Words),.sl a0.New.Kids.length (fl Zb a0.New.Kids),.val (.int .i64 a0.Old.Kind),.sl a0.Old.Words.length (fl (eI .u64) a0.Old.Words),.sl a0.Old.Kids.length (fl Zb a0.Old.Kids),.row (n+3) z5.length,.val (.slice none 0 0),.val (.int .i64 a0.List_),.val (.slice none 0 0)]⟩) 71 12 (by simp only [Ke,V5,List.getElem?_cons_zero,List.getElem?_cons_succ,Option.join_some,Ya]) rfl (by omega)
   simp only [Yv,Yj,Jo,Qs,List.set_cons_zero,List.set_cons_succ,List.cons_append,List.nil_append,List.length_cons,List.length_nil,Nat.zero_add,Nat.reduceAdd,Nat.reduceLT,Nat.add_assoc] at ha
   exact ha
  refine Fit2.trans (E':=(⟨107,[],[(1,.ref n 0),(2,.ref (n+1) 0),(3,.ref (n+2) 0),(7,.val (.int .i64 0))]⟩:Env)) (O':=(Zv O n [some ⟨false,30,11,1,(Ze a0)⟩,some ⟨false,30,11,1,[.val (.int .i64 0),.val (.int .i64 0),.val (.slice none 0 0),.val (.slice none 0 0),.val (.int .i64 0),.val (.slice none 0 0),.val (.slice none 0 0),.val (.slice none 0 0),.val (.slice none 0 0),.val (.int .i64 0),.val (.slice none 0 0)]⟩,some ⟨false,30,11,1,[.val (.int .i64 a0.Kind),.val (.int .i64 a0.New.Kind),.sl a0.New.Words.length (fl (eI .u64) a0.New.Words),.sl a0.New.Kids.length (fl Zb a0.New.Kids),.val (.int .i64 a0.Old.Kind),.sl a0.Old.Words.length (fl (eI .u64) a0.Old.Words),.sl a0.Old.Kids.length (fl Zb a0.Old.Kids),.row (n+3) z5.length,.row (n+5) ([]:List S_api_KidEdit).length,.val (.int .i64 a0.List_),.val (.slice none 0 0)]⟩,some ⟨true,58,4,z5.length,fl Zg z5⟩,none,some ⟨true,71,12,([]:List S_api_KidEdit).length,fl Zh ([]:List S_api_KidEdit)⟩])) (n':=(n+6)) (Fit2.of (Zj hU rfl rfl ?_) (by omega)) ?_
  ·simp only [push_cast,seval,↓reduceIte,Za,hN0,hN]
  refine Jr (k:=6) (k':=7) hU [0,1,2,3,6,5] [0,1,2,3,0,5,0] rfl rfl rfl rfl ⟨rfl,rfl⟩ ?_
  simp only [push_cast,seval,↓reduceIte,Za,hN0,hN]
 obtain ⟨z13,hz13,h⟩:=bC h
 refine Yb (E':=⟨107,[],[(1,.ref n 0),(2,.ref (n+1) 0),(3,.ref (n+2) 0)]⟩) (O':=(Zv O n [some ⟨false,30,11,1,(Ze a0)⟩,some ⟨false,30,11,1,[.val (.int .i64 0),.val (.int .i64 0),.val (.slice none 0 0),.val (.slice none 0 0),.val (.int .i64 0),.val (.slice none 0 0),.val (.slice none 0 0),.val (.slice none 0 0),.val (.slice none 0 0),.val (.int .i64 0),.val (.slice none 0 0)]⟩,some ⟨false,30,11,1,[.val (.int .i64 a0.Kind),.val (.int .i64 a0.New.Kind),.sl a0.New.Words.length (fl (eI .u64) a0.New.Words),.sl a0.New.Kids.length (fl Zb a0.New.Kids),.val (.int .i64 a0.Old.Kind),.sl a0.Old.Words.length (fl (eI .u64) a0.Old.Words),.sl a0.Old.Kids.length (fl Zb a0.Old.Kids),.row (n+3) z5.length,.row (n+5) z13.length,.val (.int .i64 a0.List_),.val (.slice none 0 0)]⟩,some ⟨true,58,4,z5.length,fl Zg z5⟩,none,some ⟨true,71,12,z13.length,fl Zh z13⟩,none])) (n0:=(n+7)) ?_ ?_
 ·refine Yn hz13 (fun s1_=>⟨107,[],[(1,.ref n 0),(2,.ref (n+1) 0),(3,.ref (n+2) 0),(7,.val (.int .i64 s1_.1))]⟩) (fun s1_=>(Zv O n [some ⟨false,30,11,1,(Ze a0)⟩,some ⟨false,30,11,1,[.val (.int .i64 0),.val (.int .i64 0),.val (.slice none 0 0),.val (.slice none 0 0),.val (.int .i64 0),.val (.slice none 0 0),.val (.slice none 0 0),.val (.slice none 0 0),.val (.slice none 0 0),.val (.int .i64 0),.val (.slice none 0 0)]⟩,some ⟨false,30,11,1,[.val (.int .i64 a0.Kind),.val (.int .i64 a0.New.Kind),.sl a0.New.Words.length (fl (eI .u64) a0.New.Words),.sl a0.New.Kids.length (fl Zb a0.New.Kids),.val (.int .i64 a0.Old.Kind),.sl a0.Old.Words.length (fl (eI .u64) a0.Old.Words),.sl a0.Old.Kids.length (fl Zb a0.Old.Kids),.row (n+3) z5.length,.row (n+5) s1_.2.length,.val (.int .i64 a0.List_),.val (.slice none 0 0)]⟩,some ⟨true,58,4,z5.length,fl Zg z5⟩,none,some ⟨true,71,12,s1_.2.length,fl Zh s1_.2⟩,none])) (fun z13=>JX 2 n (⟨107,[],[(1,.ref n 0),(2,.ref (n+1) 0),(3,.ref (n+2) 0)]⟩:Env) (Zv O n [some ⟨false,30,11,1,(Ze a0)⟩,some ⟨false,30,11,1,[.val (.int .i64 0),.val (.int .i64 0),.val (.slice none 0 0),.val (.slice none 0 0),.val (.int .i64 0),.val (.slice none 0 0),.val (.slice none 0 0),.val (.slice none 0 0),.val (.slice none 0 0),.val (.int .i64 0),.val (.slice none 0 0)]⟩,some ⟨false,30,11,1,[.val (.int .i64 a0.Kind),.val (.int .i64 a0.New.Kind),.sl a0.New.Words.length (fl (eI .u64) a0.New.Words),.sl a0.New.Kids.length (fl Zb a0.New.Kids),.val (.int .i64 a0.Old.Kind),.sl a0.Old.Words.length (fl (eI .u64) a0.Old.Words),.sl a0.Old.Kids.length (fl Zb a0.Old.Kids),.row (n+3) z5.length,.row (n+5) z13.length,.val (.int .i64 a0.List_),.val (.slice none 0 0)]⟩,some ⟨true,58,4,z5.length,fl Zg z5⟩,none,some ⟨true,71,12,z13.length,fl Zh z13⟩,none]) (n+7)) ?_
  intro s1_ x1_ hs1_
  unfold Jx at hs1_
  try dsimp only
  refine Zm ?_
  refine Zq [1,2,3,7,50] (Zc Zd [] ?_)
  simp only [push_cast,seval,↓reduceIte,Za,hN0,hN]
  refine Zu (t:=(decide (s1_.1 < (a0.Kids.length:Int)))) rfl (fun c12 => ?_) (fun c12 => ?_)
  ·replace hs1_:=Zs c12 hs1_
   refine Zy ?_
   try simp only [Zl,Zi]
   refine Zk [1,2,3,7] [true,true,true,true,false,true,false] ?_
   simp only [push_cast,seval,↓reduceIte]
   refine Zm ?_
   refine Z6 ?_
   obtain ⟨x6,hx6,ax6,bx6,cx6,hs1_⟩:=bE (f:=Zh) Zhd (fun _=>rfl) (by decide) hs1_
   have g7:=K4 (f:=Zh) (sz:=12) Zig (fun _=>rfl) (by decide) (by decide) hx6
   have g9:=J3 (f:=Zh) (off:=1) (sz:=12) Zh6 (fun _=>rfl) (by decide) (by decide) hx6
   obtain ⟨y10,hy10,hs1_⟩:=bC hs1_
   obtain ⟨l11,pl11,ql11,el11,hs1_⟩:=bA (k:=1) rfl hs1_
   refine Zc0 Zd (by kernel_rfl) [.low,.low,.plain,.plain,.plain,.plain,.plain,.plain,.plain,.plain,.plain,.plain,.plain,.plain,.plain,.plain,.pass,.bar,.plain,.bar] (fun i=>i < (n+7)) [0,1,2,3,4,5,6,7,8,9,10,11,12,13,14,15,16,17,18,19] [.low,.low,.plain,.plain,.plain,.plain,.plain,.plain,.plain,.plain,.plain,.plain,.plain,.plain,.plain,.plain,.pass,.bar,.plain,.bar] [] (by kernel_rfl) rfl ?_
   simp only [push_cast,Nat.reduceAdd,Nat.reduceSub,Nat.reduceMul,Nat.reduceLeDiff,Nat.reduceLT,Nat.reduceEqDiff,↓reduceIte,reduceCtorEq,Int.reduceBEq,Int.reduceBNe,Nat.reduceBEq,Int.reduceLE,Int.reduceLT,Int.reduceEq,Int.reduceNe,Int.reduceNeg,Nat.reduceDiv,Nat.reduceMod,Nat.reducePow,Za,ax6,bx6,cx6,g7,g9,pl11,ql11,el11,hN0,hN]
   repeat (with_reducible refine And.intro (by first | omega | exact Qa rfl | exact Xk | exact Js rfl rfl) ?_)
   first | refine PCallA.of (fun _ _=>Zas hy10) ?_ | refine PCall.of (Zas hy10) ?_
   simp only [push_cast,Nat.reduceAdd,Nat.reduceSub,Nat.reduceMul,Nat.reduceLeDiff,Nat.reduceLT,Nat.reduceEqDiff,↓reduceIte,reduceCtorEq,Int.reduceBEq,Int.reduceBNe,Nat.reduceBEq,Int.reduceLE,Int.reduceLT,Int.reduceEq,Int.reduceNe,Int.reduceNeg,Nat.reduceDiv,Nat.reduceMod,Nat.reducePow,Za,ax6,bx6,cx6,g7,g9,pl11,ql11,el11,hN0,hN]
   repeat (with_reducible refine And.intro (by first | omega | exact Qa rfl | exact Xk | exact Js rfl rfl) ?_)
   refine Zbw ⟨107,[],[(1,.ref n 0),(2,.ref (n+1) 0),(3,.ref (n+2) 0),(7,.val (.int .i64 s1_.1))]⟩ (Zv O n [some ⟨false,30,11,1,(Ze a0)⟩,some ⟨false,30,11,1,[.val (.int .i64 0),.val (.int .i64 0),.val (.slice none 0 0),.val (.slice none 0 0),.val (.int .i64 0),.val (.slice none 0 0),.val (.slice none 0 0),.val (.slice none 0 0),.val (.slice none 0 0),.val (.int .i64 0),.val (.slice none 0 0)]⟩,some ⟨false,30,11,1,[.val (.int .i64 a0.Kind),.val (.int .i64 a0.New.Kind),.sl a0.New.Words.length (fl (eI .u64) a0.New.Words),.sl a0.New.Kids.length (fl Zb a0.New.Kids),.val (.int .i64 a0.Old.Kind),.sl a0.Old.Words.length (fl (eI .u64) a0.Old.Words),.sl a0.Old.Kids.length (fl Zb a0.Old.Kids),.row (n+3) z5.length,.row (n+5) l11.length,.val (.int .i64 a0.List_),.val (.slice none 0 0)]⟩,some ⟨true,58,4,z5.length,fl Zg z5⟩,none,some ⟨true,71,12,l11.length,fl Zh l11⟩,none,none]) (Zj hU rfl rfl ?_) ?_
   ·simp only [push_cast,Nat.reduceAdd,Nat.reduceSub,Nat.reduceMul,Nat.reduceLeDiff,Nat.reduceLT,Nat.reduceEqDiff,↓reduceIte,reduceCtorEq,Int.reduceBEq,Int.reduceBNe,Nat.reduceBEq,Int.reduceLE,Int.reduceLT,Int.reduceEq,Int.reduceNe,Int.reduceNeg,Nat.reduceDiv,Nat.reduceMod,Nat.reducePow,Za,ax6,bx6,cx6,g7,g9,pl11,ql11,el11,hN0,hN]
   refine Zc Zd [] ?_
   simp only [push_cast,seval,↓reduceIte,Za,hN0,hN]
   have hs1_:=Option.some.inj hs1_;subst hs1_
   refine And.intro rfl (Fit2.of (Zj hU rfl rfl ?_) (by omega))
   simp only [push_cast,seval,↓reduceIte,Za,hN0,hN]
  replace hs1_:=Zr c12 hs1_
  refine Yx ?_
  try simp only [Zl,Zi,↓reduceIte,Nat.reduceEqDiff]
  have hs1_:=Option.some.inj hs1_;subst hs1_
  refine And.intro (fun h=>by cases h) (And.intro rfl (Fit2.of (Zj hU rfl rfl ?_) (by omega)))
  simp only [push_cast,seval,↓reduceIte,Za,hN0,hN]
 try simp only [Zl,Zi,↓reduceIte,Nat.reduceEqDiff]
 refine Zk [1,2,3] [true,true,true,true,false,true,false] ?_
 simp only [push_cast,seval,↓reduceIte]
 refine Zm ?_
 refine Zq [1,2,3,8] (Zc Zd [] ?_)
 simp only [push_cast,seval,↓reduceIte,Za,hN0,hN]
 refine Zk [1,2,3,8] [true,true,true,true,false,true,false] ?_
 simp only [push_cast,seval,↓reduceIte]
 refine Jh (E':=(⟨107,[],[(1,.ref n 0),(2,.ref (n+1) 0),(3,.ref (n+2) 0),(8,.val (.int .i64 0))]⟩:Env)) (O':=(Zv O n [some ⟨false,30,11,1,(Ze a0)⟩,some ⟨false,30,11,1,[.val (.int .i64 0),.val (.int .i64 0),.val (.slice none 0 0),.val (.slice none 0 0),.val (.int .i64 0),.val (.slice none 0 0),.val (.slice none 0 0),.val (.slice none 0 0),.val (.slice none 0 0),.val (.int .i64 0),.val (.slice none 0 0)]⟩,some ⟨false,30,11,1,[.val (.int .i64 a0.Kind),.val (.int .i64 a0.New.Kind),.sl a0.New.Words.length (fl (eI .u64) a0.New.Words),.sl a0.New.Kids.length (fl Zb a0.New.Kids),.val (.int .i64 a0.Old.Kind),.sl a0.Old.Words.length (fl (eI .u64) a0.Old.Words),.sl a0.Old.Kids.length (fl Zb a0.Old.Kids),.row (n+3) z5.length,.row (n+5) z13.length,.val (.int .i64 a0.List_),.row (n+7) ([]:List S_api_Op).length]⟩,some ⟨true,58,4,z5.length,fl Zg z5⟩,none,some ⟨true,71,12,z13.length,fl Zh z13⟩,none,some ⟨true,69,14,([]:List S_api_Op).length,fl Zf ([]:List S_api_Op)⟩,none])) (n':=(n+9)) ?_ ?_
 ·refine Fit2.trans (E':=(⟨107,[],[(1,.ref n 0),(2,.ref (n+1) 0),(3,.ref (n+2) 0),(8,.val (.int .i64 0))]⟩:Env)) (O':=(Zv O n [some ⟨false,30,11,1,(Ze a0)⟩,some ⟨false,30,11,1,[.val (.int .i64 0),.val (.int .i64 0),.val (.slice none 0 0),.val (.slice none 0 0),.val (.int .i64 0),.val (.slice none 0 0),.val (.slice none 0 0),.val (.slice none 0 0),.val (.slice none 0 0),.val (.int .i64 0),.val (.slice none 0 0)]⟩,some ⟨false,30,11,1,[.val (.int .i64 a0.Kind),.val (.int .i64 a0.New.Kind),.sl a0.New.Words.length (fl (eI .u64) a0.New.Words),.sl a0.New.Kids.length (fl Zb a0.New.Kids),.val (.int .i64 a0.Old.Kind),.sl a0.Old.Words.length (fl (eI .u64) a0.Old.Words),.sl a0.Old.Kids.length (fl Zb a0.Old.Kids),.row (n+3) z5.length,.row (n+5) z13.length,.val (.int .i64 a0.List_),.val (.slice none 0 0)]⟩,some ⟨true,58,4,z5.length,fl Zg z5⟩,none,some ⟨true,71,12,z13.length,fl Zh z13⟩,none])) (n':=(n+7)) (Fit2.of (Zj hU rfl rfl ?_) (by omega)) ?_
  ·simp only [push_cast,seval,↓reduceIte,Za,hN0,hN]
  refine Fit2.trans (E':=(⟨107,[],[(1,.ref n 0),(2,.ref (n+1) 0),(3,.ref (n+2) 0),(8,.val (.int .i64 0))]⟩:Env)) (O':=(Zv O n [some ⟨false,30,11,1,(Ze a0)⟩,some ⟨false,30,11,1,[.val (.int .i64 0),.val (.int .i64 0),.val (.slice none 0 0),.val (.slice none 0 0),.val (.int .i64 0),.val (.slice none 0 0),.val (.slice none 0 0),.val (.slice none 0 0),.val (.slice none 0 0),.val (.int .i64 0),.val (.slice none 0 0)]⟩,some ⟨false,30,11,1,[.val (.int .i64 a0.Kind),.val (.int .i64 a0.New.Kind),.sl a0.New.Words.length (fl (eI .u64) a0.New.Words),.sl a0.New.Kids.length (fl Zb a0.New.Kids),.val (.int .i64 a0.Old.Kind),.sl a0.Old.Words.length (fl (eI .u64) a0.Old.Words),.sl a0.Old.Kids.length (fl Zb a0.Old.Kids),.row (n+3) z5.length,.row (n+5) z13.length,.val (.int .i64 a0.List_),.row (n+7) 0]⟩,some ⟨true,58,4,z5.length,fl Zg z5⟩,none,some ⟨true,71,12,z13.length,fl Zh z13⟩,none,some ⟨true,69,14,0,[]⟩])) (n':=(n+8)) ?_ ?_
  ·have ha:=Ji (ba:=n) (E:=(⟨107,[],[(1,.ref n 0),(2,.ref (n+1) 0),(3,.ref (n+2) 0),(8,.val (.int .i64 0))]⟩:Env)) (O:=(Zv O n [some ⟨false,30,11,1,[.val (.int .i64 a0.Kind),.val (.int .i64 a0.Old.Kind),.sl a0.Old.Words.length (fl (eI .u64) a0.Old.Words),.sl a0.Old.Kids.length (fl Zb a0.Old.Kids),.val (.int .i64 a0.New.Kind),.sl a0.New.Words.length (fl (eI .u64) a0.New.Words),.sl a0.New.Kids.length (fl Zb a0.New.Kids),.sl a0.Words.length (fl Zg a0.Words),.sl a0.Kids.length (fl Zh a0.Kids),.val (.int .i64 a0.List_),.sl a0.Ops.length (fl Zf a0.Ops)]⟩,some ⟨false,30,11,1,[.val (.int .i64 0),.val (.int .i64 0),.val (.slice none 0 0),.val (.slice none 0 0),.val (.int .i64 0),.val (.slice none 0 0),.val (.slice none 0 0),.val (.slice none 0 0),.val (.slice none 0 0),.val (.int .i64 0),.val (.slice none 0 0)]⟩,some ⟨false,30,11,1,[.val (.int .i64 a0.Kind),.val (.int .i64 a0.New.Kind),.sl a0.New.Words.length (fl (eI .u64) a0.New.Words),.sl a0.New.Kids.length (fl Zb a0.New.Kids),.val (.int .i64 a0.Old.Kind),.sl a0.Old.Words.length (fl (eI .u64) a0.Old.Words),.sl a0.Old.Kids.length (fl Zb a0.Old.Kids),.row (n+3) z5.length,.row (n+5) z13.length,.val (.int .i64 a0.List_),.val (.slice none 0 0)]⟩,some ⟨true,58,4,z5.length,fl Zg z5⟩,none,some ⟨true,71,12,z13.length,fl Zh z13⟩,none])) (n:=(n+7)) (p:=(n+2)) (k:=10) (q:=⟨false,30,11,1,[.val (.int .i64 a0.Kind),.val (.int .i64 a0.New.Kind),.sl a0.New.Words.length (fl (eI .u64) a0.New.Words),.sl a0.New.Kids.length (fl Zb a0.New.Kids),.val (.int .i64 a0.Old.Kind),.sl a0.Old.Words.length (fl (eI .u64) a0.Old.Words),.sl a0.Old.Kids.length (fl Zb a0.Old.Kids),.row (n+3) z5.length,.row (n+5) z13.length,.val (.int .i64 a0.List_),.val (.slice none 0 0)]⟩) 69 14 (by simp only [Ke,V5,List.getElem?_cons_zero,List.getElem?_cons_succ,Option.join_some,Ya]) rfl (by omega)
   simp only [Yv,Yj,Jo,Qs,List.set_cons_zero,List.set_cons_succ,List.cons_append,List.nil_append,List.length_cons,List.length_nil,Nat.zero_add,Nat.reduceAdd,Nat.reduceLT,Nat.add_assoc] at ha
   exact ha
  refine Fit2.trans (E':=(⟨107,[],[(1,.ref n 0),(2,.ref (n+1) 0),(3,.ref (n+2) 0),(8,.val (.int .i64 0))]⟩:Env)) (O':=(Zv O n [some ⟨false,30,11,1,(Ze a0)⟩,some ⟨false,30,11,1,[.val (.int .i64 0),.val (.int .i64 0),.val (.slice none 0 0),.val (.slice none 0 0),.val (.int .i64 0),.val (.slice none 0 0),.val (.slice none 0 0),.val (.slice none 0 0),.val (.slice none 0 0),.val (.int .i64 0),.val (.slice none 0 0)]⟩,some ⟨false,30,11,1,[.val (.int .i64 a0.Kind),.val (.int .i64 a0.New.Kind),.sl a0.New.Words.length (fl (eI .u64) a0.New.Words),.sl a0.New.Kids.length (fl Zb a0.New.Kids),.val (.int .i64 a0.Old.Kind),.sl a0.Old.Words.length (fl (eI .u64) a0.Old.Words),.sl a0.Old.Kids.length (fl Zb a0.Old.Kids),.row (n+3) z5.length,.row (n+5) z13.length,.val (.int .i64 a0.List_),.row (n+7) ([]:List S_api_Op).length]⟩,some ⟨true,58,4,z5.length,fl Zg z5⟩,none,some ⟨true,71,12,z13.length,fl Zh z13⟩,none,some ⟨true,69,14,([]:List S_api_Op).length,fl Zf ([]:List S_api_Op)⟩])) (n':=(n+8)) (Fit2.of (Zj hU rfl rfl ?_) (by omega)) ?_
  ·simp only [push_cast,seval,↓reduceIte,Za,hN0,hN]
  refine Jr (k:=8) (k':=9) hU [0,1,2,3,8,5,8,7] [0,1,2,3,0,5,0,7,0] rfl rfl rfl rfl ⟨rfl,rfl⟩ ?_
  simp only [push_cast,seval,↓reduceIte,Za,hN0,hN]
 obtain ⟨z22,hz22,h⟩:=bC h
 refine Yb (E':=⟨107,[],[(2,.ref (n+1) 0),(3,.ref (n+2) 0)]⟩) (O':=(Zv O n [none,some ⟨false,30,11,1,[.val (.int .i64 0),.val (.int .i64 0),.val (.slice none 0 0),.val (.slice none 0 0),.val (.int .i64 0),.val (.slice none 0 0),.val (.slice none 0 0),.val (.slice none 0 0),.val (.slice none 0 0),.val (.int .i64 0),.val (.slice none 0 0)]⟩,some ⟨false,30,11,1,[.val (.int .i64 a0.Kind),.val (.int .i64 a0.New.Kind),.sl a0.New.Words.length (fl (eI .u64) a0.New.Words),.sl a0.New.Kids.length (fl Zb a0.New.Kids),.val (.int .i64 a0.Old.Kind),.sl a0.Old.Words.length (fl (eI .u64) a0.Old.Words),.sl a0.Old.Kids.length (fl Zb a0.Old.Kids),.row (n+3) z5.length,.row (n+5) z13.length,.val (.int .i64 a0.List_),.row (n+7) z22.length]⟩,some ⟨true,58,4,z5.length,fl Zg z5⟩,none,some ⟨true,71,12,z13.length,fl Zh z13⟩,none,some ⟨true,69,14,z22.length,fl Zf z22⟩,none])) (n0:=(n+9)) ?_ ?_
 ·refine Yn hz22 (fun s2_=>⟨107,[],[(1,.ref n 0),(2,.ref (n+1) 0),(3,.ref (n+2) 0),(8,.val (.int .i64 s2_.1))]⟩) (fun s2_=>(Zv O n [some ⟨false,30,11,1,(Ze a0)⟩,some ⟨false,30,11,1,[.val (.int .i64 0),.val (.int .i64 0),.val (.slice none 0 0),.val (.slice none 0 0),.val (.int .i64 0),.val (.slice none 0 0),.val (.slice none 0 0),.val (.slice none 0 0),.val (.slice none 0 0),.val (.int .i64 0),.val (.slice none 0 0)]⟩,some ⟨false,30,11,1,[.val (.int .i64 a0.Kind),.val (.int .i64 a0.New.Kind),.sl a0.New.Words.length (fl (eI .u64) a0.New.Words),.sl a0.New.Kids.length (fl Zb a0.New.Kids),.val (.int .i64 a0.Old.Kind),.sl a0.Old.Words.length (fl (eI .u64) a0.Old.Words),.sl a0.Old.Kids.length (fl Zb a0.Old.Kids),.row (n+3) z5.length,.row (n+5) z13.length,.val (.int .i64 a0.List_),.row (n+7) s2_.2.length]⟩,some ⟨true,58,4,z5.length,fl Zg z5⟩,none,some ⟨true,71,12,z13.length,fl Zh z13⟩,none,some ⟨true,69,14,s2_.2.length,fl Zf s2_.2⟩,none])) (fun z22=>JX 4 n (⟨107,[],[(2,.ref (n+1) 0),(3,.ref (n+2) 0)]⟩:Env) (Zv O n [none,some ⟨false,30,11,1,[.val (.int .i64 0),.val (.int .i64 0),.val (.slice none 0 0),.val (.slice none 0 0),.val (.int .i64 0),.val (.slice none 0 0),.val (.slice none 0 0),.val (.slice none 0 0),.val (.slice none 0 0),.val (.int .i64 0),.val (.slice none 0 0)]⟩,some ⟨false,30,11,1,[.val (.int .i64 a0.Kind),.val (.int .i64 a0.New.Kind),.sl a0.New.Words.length (fl (eI .u64) a0.New.Words),.sl a0.New.Kids.length (fl Zb a0.New.Kids),.val (.int .i64 a0.Old.Kind),.sl a0.Old.Words.length (fl (eI .u64) a0.Old.Words),.sl a0.Old.Kids.length (fl Zb a0.Old.Kids),.row (n+3) z5.length,.row (n+5) z13.length,.val (.int .i64 a0.List_),.row (n+7) z22.length]⟩,some ⟨true,58,4,z5.length,fl Zg z5⟩,none,some ⟨true,71,12,z13.length,fl Zh z13⟩,none,some ⟨true,69,14,z22.length,fl Zf z22⟩,none]) (n+9)) ?_
  intro s2_ x2_ hs2_
  unfold Jy at hs2_
  try dsimp only
  refine Zm ?_
  refine Zq [1,2,3,8,76] (Zc Zd [] ?_)
  simp only [push_cast,seval,↓reduceIte,Za,hN0,hN]
  refine Zu (t:=(decide (s2_.1 < (a0.Ops.length:Int)))) rfl (fun c21 => ?_) (fun c21 => ?_)
  ·replace hs2_:=Zs c21 hs2_
   refine Zy ?_
   try simp only [Zl,Zi]
   refine Zk [1,2,3,8] [true,true,true,true,false,true,false,true,false] ?_
   simp only [push_cast,seval,↓reduceIte]
   refine Zm ?_
   refine Z6 ?_
   refine Zm ?_
   obtain ⟨x15,hx15,ax15,bx15,cx15,hs2_⟩:=bE (f:=Zf) V2 (fun _=>rfl) (by decide) hs2_
   refine Zc Zd [] ?_
   simp only [push_cast,Nat.reduceAdd,Nat.reduceSub,Nat.reduceMul,Nat.reduceLeDiff,Nat.reduceLT,Nat.reduceEqDiff,↓reduceIte,reduceCtorEq,Int.reduceBEq,Int.reduceBNe,Nat.reduceBEq,Int.reduceLE,Int.reduceLT,Int.reduceEq,Int.reduceNe,Int.reduceNeg,Nat.reduceDiv,Nat.reduceMod,Nat.reducePow,Za,ax15,bx15,cx15,hN0,hN]
   refine Zk [1,2,3,8,9] [true,true,true,true,false,true,false,true,false,true] ?_
   simp only [push_cast,seval,↓reduceIte]
   obtain ⟨z16,hz16,hs2_⟩:=bC hs2_
   refine Yl (E':=⟨107,[],[(1,.ref n 0),(2,.ref (n+1) 0),(3,.ref (n+2) 0),(8,.val (.int .i64 s2_.1)),(9,.ref (n+9) 0)]⟩) (O':=(Zv O n [some ⟨false,30,11,1,(Ze a0)⟩,some ⟨false,30,11,1,[.val (.int .i64 0),.val (.int .i64 0),.val (.slice none 0 0),.val (.slice none 0 0),.val (.int .i64 0),.val (.slice none 0 0),.val (.slice none 0 0),.val (.slice none 0 0),.val (.slice none 0 0),.val (.int .i64 0),.val (.slice none 0 0)]⟩,some ⟨false,30,11,1,[.val (.int .i64 a0.Kind),.val (.int .i64 a0.New.Kind),.sl a0.New.Words.length (fl (eI .u64) a0.New.Words),.sl a0.New.Kids.length (fl Zb a0.New.Kids),.val (.int .i64 a0.Old.Kind),.sl a0.Old.Words.length (fl (eI .u64) a0.Old.Words),.sl a0.Old.Kids.length (fl Zb a0.Old.Kids),.row (n+3) z5.length,.row (n+5) z13.length,.val (.int .i64 a0.List_),.row (n+7) s2_.2.length]⟩,some ⟨true,58,4,z5.length,fl Zg z5⟩,none,some ⟨true,71,12,z13.length,fl Zh z13⟩,none,some ⟨true,69,14,s2_.2.length,fl Zf s2_.2⟩,none,some ⟨false,69,14,1,[.val (.int .i64 z16),.val (.int .i64 x15.N),.sl x15.L.length (fl Zb x15.L),.val (.int .i64 x15.E.Kind),.val (.int .i64 x15.E.Old.Kind),.sl x15.E.Old.Words.length (fl (eI .u64) x15.E.Old.Words),.sl x15.E.Old.Kids.length (fl Zb x15.E.Old.Kids),.val (.int .i64 x15.E.New.Kind),.sl x15.E.New.Words.length (fl (eI .u64) x15.E.New.Words),.sl x15.E.New.Kids.length (fl Zb x15.E.New.Kids),.sl x15.E.Words.length (fl Zg x15.E.Words),.sl x15.E.Kids.length (fl Zh x15.E.Kids),.val (.int .i64 x15.E.List_),.sl x15.E.Ops.length (fl Zf x15.E.Ops)]⟩])) (n0:=(n+10)) ?_ ?_
   ·refine Zq [1,2,3,8,9,91] (Zc Zd [none,none,none] ?_)
    simp only [push_cast,seval,↓reduceIte,Za,hN0,hN]
    repeat (with_reducible refine And.intro (by first | (intro h0;simp only [h0,and_self];done) | (intro h0;simp only [h0,Bool.not_false,Bool.not_true,Bool.true_and,Bool.and_true,true_and,and_true,and_self,imp_self,implies_true,bne_iff_ne,ne_eq,beq_iff_eq];done) | (intros;simp_all;done) | exact True.intro) ?_)
    refine Zu (t:=(cond (x15.Kind == 1) true (x15.Kind == 2))) rfl (fun c17 => ?_) (fun c17 => ?_)
    ·replace hz16:=Zs c17 hz16
     refine Zc Zd [] ?_
     simp only [push_cast,seval,↓reduceIte,Za,hN0,hN]
     have hz16:=Option.some.inj hz16;subst hz16
     refine And.intro rfl (Fit2.of (Zj hU rfl rfl ?_) (by omega))
     simp only [push_cast,seval,↓reduceIte,Za,hN0,hN]
    replace hz16:=Zr c17 hz16
    refine Zy ?_
    try simp only [Zl,Zi]
    have hz16:=Option.some.inj hz16;subst hz16
    refine And.intro rfl (Fit2.of (Zj hU rfl rfl ?_) (by omega))
    simp only [push_cast,seval,↓reduceIte,Za,hN0,hN]
   refine Zm ?_
   obtain ⟨y19,hy19,hs2_⟩:=bC hs2_
   refine Zc Zd [] ?_
   simp only [push_cast,seval,↓reduceIte,Za,hN0,hN]
   refine (Zas hy19).then ?_
   simp only [push_cast,seval,↓reduceIte,Za,hN0,hN]
   refine Zk [1,2,3,8,9] [true,true,true,true,false,true,false,true,false,true] ?_
   simp only [push_cast,seval,↓reduceIte]
   obtain ⟨l20,pl20,ql20,el20,hs2_⟩:=bA (k:=1) rfl hs2_
   refine Zc Zd [] ?_
   simp only [push_cast,seval,↓reduceIte,Za,pl20,ql20,el20,hN0,hN]
   refine Zbw ⟨107,[],[(1,.ref n 0),(2,.ref (n+1) 0),(3,.ref (n+2) 0),(8,.val (.int .i64 s2_.1))]⟩ (Zv O n [some ⟨false,30,11,1,(Ze a0)⟩,some ⟨false,30,11,1,[.val (.int .i64 0),.val (.int .i64 0),.val (.slice none 0 0),.val (.slice none 0 0),.val (.int .i64 0),.val (.slice none 0 0),.val (.slice none 0 0),.val (.slice none 0 0),.val (.slice none 0 0),.val (.int .i64 0),.val (.slice none 0 0)]⟩,some ⟨false,30,11,1,[.val (.int .i64 a0.Kind),.val (.int .i64 a0.New.Kind),.sl a0.New.Words.length (fl (eI .u64) a0.New.Words),.sl a0.New.Kids.length (fl Zb a0.New.Kids),.val (.int .i64 a0.Old.Kind),.sl a0.Old.Words.length (fl (eI .u64) a0.Old.Words),.sl a0.Old.Kids.length (fl Zb a0.Old.Kids),.row (n+3) z5.length,.row (n+5) z13.length,.val (.int .i64 a0.List_),.row (n+7) l20.length]⟩,some ⟨true,58,4,z5.length,fl Zg z5⟩,none,some ⟨true,71,12,z13.length,fl Zh z13⟩,none,some ⟨true,69,14,l20.length,fl Zf l20⟩,none,none,none]) (Zj hU rfl rfl ?_) ?_
   ·simp only [push_cast,seval,↓reduceIte,Za,pl20,ql20,el20,hN0,hN]
   refine Zc Zd [] ?_
   simp only [push_cast,seval,↓reduceIte,Za,hN0,hN]
   have hs2_:=Option.some.inj hs2_;subst hs2_
   refine And.intro rfl (Fit2.of (Zj hU rfl rfl ?_) (by omega))
   simp only [push_cast,seval,↓reduceIte,Za,hN0,hN]
  replace hs2_:=Zr c21 hs2_
  refine Yx ?_
  try simp only [Zl,Zi,↓reduceIte,Nat.reduceEqDiff]
  have hs2_:=Option.some.inj hs2_;subst hs2_
  refine And.intro (fun h=>by cases h) (And.intro rfl (Fit2.of (Zj hU rfl rfl ?_) (by omega)))
  simp only [push_cast,seval,↓reduceIte,Za,hN0,hN]
 try simp only [Zl,Zi,↓reduceIte,Nat.reduceEqDiff]
 refine Zk [2,3] [false,true,true,true,false,true,false,true,false] ?_
 simp only [push_cast,seval,↓reduceIte]
 refine Zm ?_
 refine Zc Zd [] ?_
 simp only [push_cast,seval,↓reduceIte,Za,hN0,hN]
 refine Zk [2] [false,true,false,true,false,true,false,true,false] ?_
 simp only [push_cast,seval,↓reduceIte]
 refine Z0 ?_
 try simp only [Zl,Zi]
 have h:=Option.some.inj h;subst h
 refine Zt (.inr rfl) hU [.agg [.val (.int .i64 a0.Kind),.val (.int .i64 a0.New.Kind),.sl a0.New.Words.length (fl (eI .u64) a0.New.Words),.sl a0.New.Kids.length (fl Zb a0.New.Kids),.val (.int .i64 a0.Old.Kind),.sl a0.Old.Words.length (fl (eI .u64) a0.Old.Words),.sl a0.Old.Kids.length (fl Zb a0.Old.Kids),.row (n+3) z5.length,.row (n+5) z13.length,.val (.int .i64 a0.List_),.row (n+7) z22.length]] (by omega) ?_
 simp only [push_cast,seval,↓reduceIte,Za,Try.results62,hN0,hN]
theorem Zhn:∀ k,(∀ {a0:S_api_Edit} {r:S_api_Edit} {O:Objs} {n:Nat},(Qk k) a0=some r→GTo Try.prog 62 [.agg (Ze a0)] O n (.agg (Ze r)) O n):=fun k=>by
 induction k with
 | zero=>exact @fun a0 r O n h=>(nomatch (show (none:Option _)=some _ from h))
 | succ k ih=>exact @fun a0 r O n h=>Zix (ih)  h
theorem Zjw {a0:S_api_Edit} {r:S_api_Edit} {O:Objs} {n:Nat} (h:Zck a0=some r):GTo Try.prog 62 [.agg (Ze a0)] O n (.agg (Ze r)) O n:=by
 obtain ⟨k,hk⟩:=Vs h
 exact (Zhn k)  hk
theorem Zkp {a0:(List Int)} {r:(List Int)} {O:Objs} {n:Nat} (h:Uh a0=some r):GTo Try.prog 63 [.sl a0.length (fl (eI .u64) a0)] O n (.sl r.length (fl (eI .u64) r)) O n:=by
 unfold Uh at h
 refine Y3 Zd Try.call63 Try.func63 rfl (Nat.le_of_ble_eq_true rfl) (Nat.le_refl _) fun hU => ?_
 have hN0:O n=none:=hU.fresh _ (Nat.le_refl _)
 have hN:∀ k,O (n+k)=none:=fun k=>hU.fresh _ (Nat.le_add_right _ _)
 show W _ _ _ _ ⟨24,[],[(0,.sl a0.length (fl (eI .u64) a0))]⟩ (Zv O n []) _
 refine Zq [0] (Zc Zd [] ?_)
 simp only [push_cast,seval,↓reduceIte,Za,hN0,hN]
 refine Zq [0,3] (Zc Zd [] ?_)
 simp only [push_cast,seval,↓reduceIte,Za,hN0,hN]
 refine Zm ?_
 refine Zk [0,3] [] ?_
 simp only [push_cast,seval,↓reduceIte]
 obtain ⟨z7,hz7,h⟩:=bC h
 refine Yb (E':=⟨24,[],[(0,.sl a0.length (fl (eI .u64) a0)),(3,.val (.int .i64 z7))]⟩) (O':=(Zv O n [])) (n0:=n) ?_ ?_
 ·refine Yn hz7 (fun s0_=>⟨24,[],[(0,.sl a0.length (fl (eI .u64) a0)),(3,.val (.int .i64 s0_))]⟩) (fun s0_=>(Zv O n [])) (fun z7=>JX 0 n (⟨24,[],[(0,.sl a0.length (fl (eI .u64) a0)),(3,.val (.int .i64 z7))]⟩:Env) (Zv O n []) n) ?_
  intro s0_ x0_ hs0_
  unfold Kp at hs0_
  try dsimp only
  refine Zm ?_
  obtain ⟨z2,hz2,hs0_⟩:=bC hs0_
  refine Yl (E':=⟨24,[],[(0,.sl a0.length (fl (eI .u64) a0)),(3,.val (.int .i64 s0_)),(16,.val (.bool z2))]⟩) (O':=(Zv O n [])) (n0:=n) ?_ ?_
  ·rcases Bool.eq_false_or_eq_true (decide (0 < s0_)) with c5 | c5
   ·replace hz2:=Zs c5 hz2
    obtain ⟨x4,hx4,ax4,bx4,cx4,hz2⟩:=bE (f:=(eI .u64)) Zh7 (fun _=>rfl) (by decide) hz2
    refine Zc Zd [some true,some true,some true,some true,some true,some true] ?_
    simp only [push_cast,Nat.reduceAdd,Nat.reduceSub,Nat.reduceMul,Nat.reduceLeDiff,Nat.reduceLT,Nat.reduceEqDiff,↓reduceIte,reduceCtorEq,Int.reduceBEq,Int.reduceBNe,Nat.reduceBEq,Int.reduceLE,Int.reduceLT,Int.reduceEq,Int.reduceNe,Int.reduceNeg,Nat.reduceDiv,Nat.reduceMod,Nat.reducePow,Za,c5,ax4,bx4,cx4,hN0,hN]
    have hz2:=Option.some.inj hz2;subst hz2
    refine And.intro rfl (Fit2.of (Zj hU rfl rfl ?_) (by omega))
    simp only [push_cast,Nat.reduceAdd,Nat.reduceSub,Nat.reduceMul,Nat.reduceLeDiff,Nat.reduceLT,Nat.reduceEqDiff,↓reduceIte,reduceCtorEq,Int.reduceBEq,Int.reduceBNe,Nat.reduceBEq,Int.reduceLE,Int.reduceLT,Int.reduceEq,Int.reduceNe,Int.reduceNeg,Nat.reduceDiv,Nat.reduceMod,Nat.reducePow,Za,c5,ax4,bx4,cx4,hN0,hN]
   replace hz2:=Zr c5 hz2
   refine Zc Zd [some false,some false,some false,some false,some false,some false] ?_
   simp only [push_cast,seval,↓reduceIte,Za,c5,hN0,hN]
   have hz2:=Option.some.inj hz2;subst hz2
   refine And.intro rfl (Fit2.of (Zj hU rfl rfl ?_) (by omega))
   simp only [push_cast,seval,↓reduceIte,Za,c5,hN0,hN]
  refine Zu (t:=z2) rfl (fun c6 => ?_) (fun c6 => ?_)
  ·replace hs0_:=Zs c6 hs0_
   refine Zy ?_
   try simp only [Zl,Zi]
   refine Zk [0,3] [] ?_
   simp only [push_cast,seval,↓reduceIte]
   refine Z6 ?_
   refine Zc Zd [] ?_
   simp only [push_cast,seval,↓reduceIte,Za,hN0,hN]
   have hs0_:=Option.some.inj hs0_;subst hs0_
   refine And.intro rfl (Fit2.of (Zj hU rfl rfl ?_) (by omega))
   simp only [push_cast,seval,↓reduceIte,Za,hN0,hN]
  replace hs0_:=Zr c6 hs0_
  refine Yx ?_
  try simp only [Zl,Zi,↓reduceIte,Nat.reduceEqDiff]
  have hs0_:=Option.some.inj hs0_;subst hs0_
  refine And.intro (fun h=>by cases h) (And.intro rfl (Fit2.of (Zj hU rfl rfl ?_) (by omega)))
  simp only [push_cast,seval,↓reduceIte,Za,hN0,hN]
 try simp only [Zl,Zi,↓reduceIte,Nat.reduceEqDiff]
 refine Zk [0,3] [] ?_
 simp only [push_cast,seval,↓reduceIte]
 refine Zq [0,3,4] (Zc Zd [] ?_)
 simp only [push_cast,seval,↓reduceIte,Za,hN0,hN]
 refine Zm ?_
 obtain ⟨l10,al10,bl10,cl10,gl10,h⟩:=bS (lo:=none) (hi:=(some (.i64,z7))) (f:=(eI .u64)) rfl rfl Zmk Zh7 (fun _=>rfl) h
 obtain ⟨l11,pl11,ql11,el11,h⟩:=bA0 (k:=l10.length) rfl h
 refine Zc Zd [] ?_
 simp only [push_cast,seval,↓reduceIte,Za,al10,bl10,cl10,gl10,pl11,ql11,el11,hN0,hN]
 refine Zbw ⟨24,[],[(2,.row n l11.length)]⟩ (Zv O n [some ⟨true,56,1,l11.length,fl (eI .u64) l11⟩]) (Zj hU rfl rfl ?_) ?_
 ·simp only [push_cast,seval,↓reduceIte,Za,al10,bl10,cl10,gl10,pl11,ql11,el11,hN0,hN]
 refine Z0 ?_
 try simp only [Zl,Zi]
 have h:=Option.some.inj h;subst h
 refine Zt (.inr rfl) hU [.row n l11.length] (by omega) ?_
 simp only [push_cast,seval,↓reduceIte,Za,Try.results63,hN0,hN]
theorem Zjx {Kz:(S_api_Tree→Option S_api_Tree)} (Zis:∀ {a0:S_api_Tree} {r:S_api_Tree} {O:Objs} {n:Nat},Kz a0=some r→GTo Try.prog 31 [.agg (Zo a0)] O n (.agg (Zo r)) O n) {a0:S_api_Tree} {r:S_api_Tree} {O:Objs} {n:Nat} (h:V7 Kz a0=some r):GTo Try.prog 31 [.agg (Zo a0)] O n (.agg (Zo r)) O n:=by
 unfold V7 at h
 refine Y3 Zd Try.call31 Try.func31 rfl (Nat.le_of_ble_eq_true rfl) (Nat.le_refl _) fun hU => ?_
 have hN0:O n=none:=hU.fresh _ (Nat.le_refl _)
 have hN:∀ k,O (n+k)=none:=fun k=>hU.fresh _ (Nat.le_add_right _ _)
 show W _ _ _ _ ⟨53,[],[(0,.agg (Zo a0))]⟩ (Zv O n []) _
 refine Zq [1,2] (Zc Zd [] ?_)
 simp only [push_cast,seval,↓reduceIte,Za,hN0,hN]
 refine Zm ?_
 refine Zq [1,2,10] (Zc Zd [] ?_)
 simp only [push_cast,seval,↓reduceIte,Za,hN0,hN]
 refine Zu (t:=(a0.Kind == 0)) rfl (fun c19 => ?_) (fun c19 => ?_)
 ·replace h:=Zs c19 h
  refine Zm ?_
  refine Zc Zd [] ?_
  simp only [push_cast,seval,↓reduceIte,Za,hN0,hN]
  refine Zk [2] [false,true] ?_
  simp only [push_cast,seval,↓reduceIte]
  refine Z0 ?_
  try simp only [Zl,Zi]
  have h:=Option.some.inj h;subst h
  refine Zt (.inr rfl) hU [.agg [.val (.int .i64 0),.val (.slice none 0 0),.val (.slice none 0 0)]] (by omega) ?_
  simp only [push_cast,seval,↓reduceIte,Za,Try.results31,hN0,hN]
 replace h:=Zr c19 h
 refine Zy ?_
 try simp only [Zl,Zi]
 refine Zk [1,2] [true,true] ?_
 simp only [push_cast,seval,↓reduceIte]
 refine Zq [1,2,3] (Zc Zd [] ?_)
 simp only [push_cast,seval,↓reduceIte,Za,hN0,hN]
 refine Zq [1,2,3,4] (Zc Zd [] ?_)
 simp only [push_cast,seval,↓reduceIte,Za,hN0,hN]
 refine Zm ?_
 refine Zq [1,2,3,4,5] (Zc Zd [] ?_)
 simp only [push_cast,seval,↓reduceIte,Za,hN0,hN]
 refine Zk [1,2,3,4,5] [true,true] ?_
 simp only [push_cast,seval,↓reduceIte]
 refine Jh (E':=(⟨53,[],[(1,.ref n 0),(2,.ref (n+1) 0),(3,.row (n+2) ([]:List S_api_Tree).length),(4,.val (.int .i64 0)),(5,.val (.int .i64 0))]⟩:Env)) (O':=(Zv O n [some ⟨false,25,3,1,(Zo a0)⟩,some ⟨false,25,3,1,[.val (.int .i64 0),.val (.slice none 0 0),.val (.slice none 0 0)]⟩,some ⟨true,25,3,([]:List S_api_Tree).length,fl Zb ([]:List S_api_Tree)⟩,none])) (n':=(n+4)) ?_ ?_
 ·refine Fit2.trans (E':=(⟨53,[],[(1,.ref n 0),(2,.ref (n+1) 0),(3,.val (.slice none 0 0)),(4,.val (.int .i64 0)),(5,.val (.int .i64 0))]⟩:Env)) (O':=(Zv O n [some ⟨false,25,3,1,(Zo a0)⟩,some ⟨false,25,3,1,[.val (.int .i64 0),.val (.slice none 0 0),.val (.slice none 0 0)]⟩])) (n':=(n+2)) (Fit2.of (Zj hU rfl rfl ?_) (by omega)) ?_
  ·simp only [push_cast,seval,↓reduceIte,Za,hN0,hN]
  refine Fit2.trans (E':=(⟨53,[],[(3,.row (n+2) 0),(1,.ref n 0),(2,.ref (n+1) 0),(3,.val (.slice none 0 0)),(4,.val (.int .i64 0)),(5,.val (.int .i64 0))]⟩:Env)) (O':=(Zv O n [some ⟨false,25,3,1,(Zo a0)⟩,some ⟨false,25,3,1,[.val (.int .i64 0),.val (.slice none 0 0),.val (.slice none 0 0)]⟩,some ⟨true,25,3,0,[]⟩])) (n':=(n+3)) ?_ ?_
  ·have ha:=Zgs (ba:=n) (E:=(⟨53,[],[(1,.ref n 0),(2,.ref (n+1) 0),(3,.val (.slice none 0 0)),(4,.val (.int .i64 0)),(5,.val (.int .i64 0))]⟩:Env)) (O:=(Zv O n [some ⟨false,25,3,1,[.val (.int .i64 a0.Kind),.sl a0.Words.length (fl (eI .u64) a0.Words),.sl a0.Kids.length (fl Zb a0.Kids)]⟩,some ⟨false,25,3,1,[.val (.int .i64 0),.val (.slice none 0 0),.val (.slice none 0 0)]⟩])) (n:=(n+2)) 3 25 3 rfl (by omega)
   simp only [Yv,Yj,Jo,Qs,List.set_cons_zero,List.set_cons_succ,List.cons_append,List.nil_append,List.length_cons,List.length_nil,Nat.zero_add,Nat.reduceAdd,Nat.reduceLT,Nat.add_assoc] at ha
   exact ha
  refine Fit2.trans (E':=(⟨53,[],[(1,.ref n 0),(2,.ref (n+1) 0),(3,.row (n+2) ([]:List S_api_Tree).length),(4,.val (.int .i64 0)),(5,.val (.int .i64 0))]⟩:Env)) (O':=(Zv O n [some ⟨false,25,3,1,(Zo a0)⟩,some ⟨false,25,3,1,[.val (.int .i64 0),.val (.slice none 0 0),.val (.slice none 0 0)]⟩,some ⟨true,25,3,([]:List S_api_Tree).length,fl Zb ([]:List S_api_Tree)⟩])) (n':=(n+3)) (Fit2.of (Zj hU rfl rfl ?_) (by omega)) ?_
  ·simp only [push_cast,seval,↓reduceIte,Za,hN0,hN]
  refine Jr (k:=3) (k':=4) hU [0,1,2] [0,1,2,0] rfl rfl rfl rfl ⟨rfl,rfl⟩ ?_
  simp only [push_cast,seval,↓reduceIte,Za,hN0,hN]
 obtain ⟨z10,hz10,h⟩:=bC h
 refine Yb (E':=⟨53,[],[(1,.ref n 0),(2,.ref (n+1) 0),(3,.row (n+2) z10.2.length),(4,.val (.int .i64 z10.1))]⟩) (O':=(Zv O n [some ⟨false,25,3,1,(Zo a0)⟩,some ⟨false,25,3,1,[.val (.int .i64 0),.val (.slice none 0 0),.val (.slice none 0 0)]⟩,some ⟨true,25,3,z10.2.length,fl Zb z10.2⟩,none])) (n0:=(n+4)) ?_ ?_
 ·refine Yn hz10 (fun s0_=>⟨53,[],[(1,.ref n 0),(2,.ref (n+1) 0),(3,.row (n+2) s0_.2.2.length),(4,.val (.int .i64 s0_.1)),(5,.val (.int .i64 s0_.2.1))]⟩) (fun s0_=>(Zv O n [some ⟨false,25,3,1,(Zo a0)⟩,some ⟨false,25,3,1,[.val (.int .i64 0),.val (.slice none 0 0),.val (.slice none 0 0)]⟩,some ⟨true,25,3,s0_.2.2.length,fl Zb s0_.2.2⟩,none])) (fun z10=>JX 0 n (⟨53,[],[(1,.ref n 0),(2,.ref (n+1) 0),(3,.row (n+2) z10.2.length),(4,.val (.int .i64 z10.1))]⟩:Env) (Zv O n [some ⟨false,25,3,1,(Zo a0)⟩,some ⟨false,25,3,1,[.val (.int .i64 0),.val (.slice none 0 0),.val (.slice none 0 0)]⟩,some ⟨true,25,3,z10.2.length,fl Zb z10.2⟩,none]) (n+4)) ?_
  intro s0_ x0_ hs0_
  unfold Qb at hs0_
  try dsimp only
  refine Zm ?_
  refine Zq [1,2,3,4,5,16] (Zc Zd [] ?_)
  simp only [push_cast,seval,↓reduceIte,Za,hN0,hN]
  refine Zu (t:=(decide (s0_.2.1 < (a0.Kids.length:Int)))) rfl (fun c9 => ?_) (fun c9 => ?_)
  ·replace hs0_:=Zs c9 hs0_
   refine Zy ?_
   try simp only [Zl,Zi]
   refine Zk [1,2,3,4,5] [true,true,true,false] ?_
   simp only [push_cast,seval,↓reduceIte]
   obtain ⟨z1,hz1,hs0_⟩:=bC hs0_
   refine Yl (E':=⟨53,[],[(1,.ref n 0),(2,.ref (n+1) 0),(3,.row (n+2) z1.2.length),(4,.val (.int .i64 z1.1)),(5,.val (.int .i64 s0_.2.1))]⟩) (O':=(Zv O n [some ⟨false,25,3,1,(Zo a0)⟩,some ⟨false,25,3,1,[.val (.int .i64 0),.val (.slice none 0 0),.val (.slice none 0 0)]⟩,some ⟨true,25,3,z1.2.length,fl Zb z1.2⟩,none,none,none])) (n0:=(n+6)) ?_ ?_
   ·refine Z6 ?_
    refine Zm ?_
    obtain ⟨x4,hx4,ax4,bx4,cx4,hz1⟩:=bE (f:=Zb) Zai (fun _=>rfl) (by decide) hz1
    obtain ⟨y5,hy5,hz1⟩:=bC hz1
    refine Zc Zd [] ?_
    simp only [push_cast,Nat.reduceAdd,Nat.reduceSub,Nat.reduceMul,Nat.reduceLeDiff,Nat.reduceLT,Nat.reduceEqDiff,↓reduceIte,reduceCtorEq,Int.reduceBEq,Int.reduceBNe,Nat.reduceBEq,Int.reduceLE,Int.reduceLT,Int.reduceEq,Int.reduceNe,Int.reduceNeg,Nat.reduceDiv,Nat.reduceMod,Nat.reducePow,Za,ax4,bx4,cx4,hN0,hN]
    refine (Zis hy5).then ?_
    simp only [push_cast,Nat.reduceAdd,Nat.reduceSub,Nat.reduceMul,Nat.reduceLeDiff,Nat.reduceLT,Nat.reduceEqDiff,↓reduceIte,reduceCtorEq,Int.reduceBEq,Int.reduceBNe,Nat.reduceBEq,Int.reduceLE,Int.reduceLT,Int.reduceEq,Int.reduceNe,Int.reduceNeg,Nat.reduceDiv,Nat.reduceMod,Nat.reducePow,Za,ax4,bx4,cx4,hN0,hN]
    refine Zk [1,2,3,4,5,6] [true,true,true,false,true] ?_
    simp only [push_cast,seval,↓reduceIte]
    refine Zm ?_
    obtain ⟨l7,pl7,ql7,el7,hz1⟩:=bA (k:=1) rfl hz1
    refine Zc Zd [] ?_
    simp only [push_cast,seval,↓reduceIte,Za,pl7,ql7,el7,hN0,hN]
    refine Zbw ⟨53,[],[(1,.ref n 0),(2,.ref (n+1) 0),(3,.row (n+2) l7.length),(4,.val (.int .i64 s0_.1)),(5,.val (.int .i64 s0_.2.1)),(6,.ref (n+4) 0)]⟩ (Zv O n [some ⟨false,25,3,1,(Zo a0)⟩,some ⟨false,25,3,1,[.val (.int .i64 0),.val (.slice none 0 0),.val (.slice none 0 0)]⟩,some ⟨true,25,3,l7.length,fl Zb l7⟩,none,some ⟨false,25,3,1,(Zo y5)⟩,none]) (Zj hU rfl rfl ?_) ?_
    ·simp only [push_cast,seval,↓reduceIte,Za,pl7,ql7,el7,hN0,hN]
    refine Zq [1,2,3,4,5,31] (Zc Zd [] ?_)
    simp only [push_cast,seval,↓reduceIte,Za,hN0,hN]
    refine Zu (t:=(y5.Kind != 0)) rfl (fun c8 => ?_) (fun c8 => ?_)
    ·replace hz1:=Zs c8 hz1
     refine Zc Zd [] ?_
     simp only [push_cast,seval,↓reduceIte,Za,hN0,hN]
     have hz1:=Option.some.inj hz1;subst hz1
     refine And.intro rfl (Fit2.of (Zj hU rfl rfl ?_) (by omega))
     simp only [push_cast,seval,↓reduceIte,Za,hN0,hN]
    replace hz1:=Zr c8 hz1
    refine Zy ?_
    try simp only [Zl,Zi]
    have hz1:=Option.some.inj hz1;subst hz1
    refine And.intro rfl (Fit2.of (Zj hU rfl rfl ?_) (by omega))
    simp only [push_cast,seval,↓reduceIte,Za,hN0,hN]
   refine Zc Zd [] ?_
   simp only [push_cast,seval,↓reduceIte,Za,hN0,hN]
   have hs0_:=Option.some.inj hs0_;subst hs0_
   refine And.intro rfl (Fit2.of (Zj hU rfl rfl ?_) (by omega))
   simp only [push_cast,seval,↓reduceIte,Za,hN0,hN]
  replace hs0_:=Zr c9 hs0_
  refine Yx ?_
  try simp only [Zl,Zi,↓reduceIte,Nat.reduceEqDiff]
  have hs0_:=Option.some.inj hs0_;subst hs0_
  refine And.intro (fun h=>by cases h) (And.intro rfl (Fit2.of (Zj hU rfl rfl ?_) (by omega)))
  simp only [push_cast,seval,↓reduceIte,Za,hN0,hN]
 try simp only [Zl,Zi,↓reduceIte,Nat.reduceEqDiff]
 refine Zk [1,2,3,4] [true,true,true,false] ?_
 simp only [push_cast,seval,↓reduceIte]
 refine Zm ?_
 refine Zq [1,2,3,4,36] (Zc Zd [] ?_)
 simp only [push_cast,seval,↓reduceIte,Za,hN0,hN]
 refine Zu (t:=(a0.Kind == 1)) rfl (fun c18 => ?_) (fun c18 => ?_)
 ·replace h:=Zs c18 h
  refine Zbw ⟨53,[],[(1,.ref n 0),(2,.ref (n+1) 0),(3,.sl z10.2.length (fl Zb z10.2)),(4,.val (.int .i64 z10.1))]⟩ (Zv O n [some ⟨false,25,3,1,(Zo a0)⟩,some ⟨false,25,3,1,[.val (.int .i64 0),.val (.slice none 0 0),.val (.slice none 0 0)]⟩,none,none]) (Zj hU rfl rfl ?_) ?_
  ·simp only [push_cast,seval,↓reduceIte,Za,hN0,hN]
  refine Zm ?_
  obtain ⟨y14,hy14,h⟩:=bC h
  obtain ⟨l15,al15,bl15,cl15,gl15,h⟩:=bS (lo:=none) (hi:=(some (.i64,z10.1))) (f:=Zb) rfl rfl Zjp Zai (fun _=>rfl) h
  refine Zhe Zd (by kernel_rfl) [false,false,false,false,false,false,false,true] [] (by kernel_rfl) ?_
  simp only [push_cast,seval,↓reduceIte,Za,al15,bl15,cl15,gl15,hN0,hN]
  refine PCall.of (Zkp hy14) ?_
  simp only [push_cast,seval,↓reduceIte,Za,al15,bl15,cl15,gl15,hN0,hN]
  refine Zk [2] [false,true,false,false] ?_
  simp only [push_cast,seval,↓reduceIte]
  refine Z0 ?_
  try simp only [Zl,Zi]
  have h:=Option.some.inj h;subst h
  refine Zt (.inr rfl) hU [.agg [.val (.int .i64 1),.sl y14.length (fl (eI .u64) y14),.sl l15.length (fl Zb l15)]] (by omega) ?_
  simp only [push_cast,seval,↓reduceIte,Za,Try.results31,hN0,hN]
 replace h:=Zr c18 h
 refine Zy ?_
 try simp only [Zl,Zi]
 refine Zk [1,2,3] [true,true,true,false] ?_
 simp only [push_cast,seval,↓reduceIte]
 refine Zq [1,2,3,7] (Zc Zd [] ?_)
 simp only [push_cast,seval,↓reduceIte,Za,hN0,hN]
 refine Zm ?_
 obtain ⟨l17,pl17,ql17,el17,h⟩:=bA0 (k:=a0.Words.length) rfl h
 refine Zc Zd [] ?_
 simp only [push_cast,seval,↓reduceIte,Za,pl17,ql17,el17,hN0,hN]
 refine Zbw ⟨53,[],[(1,.ref n 0),(2,.ref (n+1) 0),(3,.row (n+2) z10.2.length),(7,.row (n+4) l17.length)]⟩ (Zv O n [some ⟨false,25,3,1,(Zo a0)⟩,some ⟨false,25,3,1,[.val (.int .i64 0),.val (.slice none 0 0),.val (.slice none 0 0)]⟩,some ⟨true,25,3,z10.2.length,fl Zb z10.2⟩,none,some ⟨true,56,1,l17.length,fl (eI .u64) l17⟩]) (Zj hU rfl rfl ?_) ?_
 ·simp only [push_cast,seval,↓reduceIte,Za,pl17,ql17,el17,hN0,hN]
 refine Zm ?_
 refine Zc Zd [] ?_
 simp only [push_cast,seval,↓reduceIte,Za,hN0,hN]
 refine Zk [2] [false,true,true,false,true] ?_
 simp only [push_cast,seval,↓reduceIte]
 refine Z0 ?_
 try simp only [Zl,Zi]
 have h:=Option.some.inj h;subst h
 refine Zt (.inr rfl) hU [.agg [.val (.int .i64 a0.Kind),.row (n+4) l17.length,.row (n+2) z10.2.length]] (by omega) ?_
 simp only [push_cast,seval,↓reduceIte,Za,Try.results31,hN0,hN]
theorem Zia:∀ k,(∀ {a0:S_api_Tree} {r:S_api_Tree} {O:Objs} {n:Nat},(Xh k) a0=some r→GTo Try.prog 31 [.agg (Zo a0)] O n (.agg (Zo r)) O n):=fun k=>by
 induction k with
 | zero=>exact @fun a0 r O n h=>(nomatch (show (none:Option _)=some _ from h))
 | succ k ih=>exact @fun a0 r O n h=>Zjx (ih)  h
theorem Zcl {a0:S_api_Tree} {r:S_api_Tree} {O:Objs} {n:Nat} (h:Uf a0=some r):GTo Try.prog 31 [.agg (Zo a0)] O n (.agg (Zo r)) O n:=by
 obtain ⟨k,hk⟩:=Vs h
 exact (Zia k)  hk
theorem Zjv {a0:(List S_api_Tree)} {r:(List S_api_Tree)} {O:Objs} {n:Nat} (h:Vw a0=some r):GTo Try.prog 114 [.sl a0.length (fl Zb a0)] O n (.sl r.length (fl Zb r)) O n:=by
 unfold Vw at h
 refine Y3 Zd Try.call114 Try.func114 rfl (Nat.le_of_ble_eq_true rfl) (Nat.le_refl _) fun hU => ?_
 have hN0:O n=none:=hU.fresh _ (Nat.le_refl _)
 have hN:∀ k,O (n+k)=none:=fun k=>hU.fresh _ (Nat.le_add_right _ _)
 show W _ _ _ _ ⟨20,[],[(0,.sl a0.length (fl Zb a0))]⟩ (Zv O n []) _
 refine Zq [0] (Zc Zd [] ?_)
 simp only [push_cast,seval,↓reduceIte,Za,hN0,hN]
 refine Zq [0,3] (Zc Zd [] ?_)
 simp only [push_cast,seval,↓reduceIte,Za,hN0,hN]
 refine Zm ?_
 refine Zq [0,3,4] (Zc Zd [] ?_)
 simp only [push_cast,seval,↓reduceIte,Za,hN0,hN]
 refine Zk [0,3,4] [] ?_
 simp only [push_cast,seval,↓reduceIte]
 refine Jh (E':=(⟨20,[],[(0,.sl a0.length (fl Zb a0)),(3,.row n ([]:List S_api_Tree).length),(4,.val (.int .i64 0))]⟩:Env)) (O':=(Zv O n [some ⟨true,25,3,([]:List S_api_Tree).length,fl Zb ([]:List S_api_Tree)⟩,none])) (n':=(n+2)) ?_ ?_
 ·refine Fit2.trans (E':=(⟨20,[],[(0,.sl a0.length (fl Zb a0)),(3,.val (.slice none 0 0)),(4,.val (.int .i64 0))]⟩:Env)) (O':=(Zv O n [])) (n':=n) (Fit2.of (Zj hU rfl rfl ?_) (by omega)) ?_
  ·simp only [push_cast,seval,↓reduceIte,Za,hN0,hN]
  refine Fit2.trans (E':=(⟨20,[],[(3,.row n 0),(0,.sl a0.length (fl Zb a0)),(3,.val (.slice none 0 0)),(4,.val (.int .i64 0))]⟩:Env)) (O':=(Zv O n [some ⟨true,25,3,0,[]⟩])) (n':=(n+1)) ?_ ?_
  ·have ha:=Zgs (ba:=n) (E:=(⟨20,[],[(0,.sl a0.length (fl Zb a0)),(3,.val (.slice none 0 0)),(4,.val (.int .i64 0))]⟩:Env)) (O:=(Zv O n [])) (n:=n) 3 25 3 rfl (by omega)
   simp only [Yv,Yj,Jo,Qs,List.set_cons_zero,List.set_cons_succ,List.cons_append,List.nil_append,List.length_cons,List.length_nil,Nat.zero_add,Nat.reduceAdd,Nat.reduceLT,Nat.add_assoc] at ha
   exact ha
  refine Fit2.trans (E':=(⟨20,[],[(0,.sl a0.length (fl Zb a0)),(3,.row n ([]:List S_api_Tree).length),(4,.val (.int .i64 0))]⟩:Env)) (O':=(Zv O n [some ⟨true,25,3,([]:List S_api_Tree).length,fl Zb ([]:List S_api_Tree)⟩])) (n':=(n+1)) (Fit2.of (Zj hU rfl rfl ?_) (by omega)) ?_
  ·simp only [push_cast,seval,↓reduceIte,Za,hN0,hN]
  refine Jr (k:=1) (k':=2) hU [0] [0,0] rfl rfl rfl rfl ⟨rfl,rfl⟩ ?_
  simp only [push_cast,seval,↓reduceIte,Za,hN0,hN]
 obtain ⟨z5,hz5,h⟩:=bC h
 refine Yb (E':=⟨20,[],[(3,.row n z5.length)]⟩) (O':=(Zv O n [some ⟨true,25,3,z5.length,fl Zb z5⟩,none])) (n0:=(n+2)) ?_ ?_
 ·refine Yn hz5 (fun s0_=>⟨20,[],[(0,.sl a0.length (fl Zb a0)),(3,.row n s0_.2.length),(4,.val (.int .i64 s0_.1))]⟩) (fun s0_=>(Zv O n [some ⟨true,25,3,s0_.2.length,fl Zb s0_.2⟩,none])) (fun z5=>JX 0 n (⟨20,[],[(3,.row n z5.length)]⟩:Env) (Zv O n [some ⟨true,25,3,z5.length,fl Zb z5⟩,none]) (n+2)) ?_
  intro s0_ x0_ hs0_
  unfold Vz at hs0_
  try dsimp only
  refine Zm ?_
  refine Zq [0,3,4,8] (Zc Zd [] ?_)
  simp only [push_cast,seval,↓reduceIte,Za,hN0,hN]
  refine Zu (t:=(decide (s0_.1 < (a0.length:Int)))) rfl (fun c4 => ?_) (fun c4 => ?_)
  ·replace hs0_:=Zs c4 hs0_
   refine Zy ?_
   try simp only [Zl,Zi]
   refine Zk [0,3,4] [true,false] ?_
   simp only [push_cast,seval,↓reduceIte]
   refine Zm ?_
   refine Z6 ?_
   obtain ⟨x1,hx1,ax1,bx1,cx1,hs0_⟩:=bE (f:=Zb) Zai (fun _=>rfl) (by decide) hs0_
   obtain ⟨y2,hy2,hs0_⟩:=bC hs0_
   obtain ⟨l3,pl3,ql3,el3,hs0_⟩:=bA (k:=1) rfl hs0_
   refine Zc Zd [] ?_
   simp only [push_cast,Nat.reduceAdd,Nat.reduceSub,Nat.reduceMul,Nat.reduceLeDiff,Nat.reduceLT,Nat.reduceEqDiff,↓reduceIte,reduceCtorEq,Int.reduceBEq,Int.reduceBNe,Nat.reduceBEq,Int.reduceLE,Int.reduceLT,Int.reduceEq,Int.reduceNe,Int.reduceNeg,Nat.reduceDiv,Nat.reduceMod,Nat.reducePow,Za,ax1,bx1,cx1,pl3,ql3,el3,hN0,hN]
   refine (Zcl hy2).then ?_
   simp only [push_cast,Nat.reduceAdd,Nat.reduceSub,Nat.reduceMul,Nat.reduceLeDiff,Nat.reduceLT,Nat.reduceEqDiff,↓reduceIte,reduceCtorEq,Int.reduceBEq,Int.reduceBNe,Nat.reduceBEq,Int.reduceLE,Int.reduceLT,Int.reduceEq,Int.reduceNe,Int.reduceNeg,Nat.reduceDiv,Nat.reduceMod,Nat.reducePow,Za,ax1,bx1,cx1,pl3,ql3,el3,hN0,hN]
   refine Zbw ⟨20,[],[(0,.sl a0.length (fl Zb a0)),(3,.row n l3.length),(4,.val (.int .i64 s0_.1))]⟩ (Zv O n [some ⟨true,25,3,l3.length,fl Zb l3⟩,none,none]) (Zj hU rfl rfl ?_) ?_
   ·simp only [push_cast,Nat.reduceAdd,Nat.reduceSub,Nat.reduceMul,Nat.reduceLeDiff,Nat.reduceLT,Nat.reduceEqDiff,↓reduceIte,reduceCtorEq,Int.reduceBEq,Int.reduceBNe,Nat.reduceBEq,Int.reduceLE,Int.reduceLT,Int.reduceEq,Int.reduceNe,Int.reduceNeg,Nat.reduceDiv,Nat.reduceMod,Nat.reducePow,Za,ax1,bx1,cx1,pl3,ql3,el3,hN0,hN]
   refine Zc Zd [] ?_
   simp only [push_cast,seval,↓reduceIte,Za,hN0,hN]
   have hs0_:=Option.some.inj hs0_;subst hs0_
   refine And.intro rfl (Fit2.of (Zj hU rfl rfl ?_) (by omega))
   simp only [push_cast,seval,↓reduceIte,Za,hN0,hN]
  replace hs0_:=Zr c4 hs0_
  refine Yx ?_
  try simp only [Zl,Zi,↓reduceIte,Nat.reduceEqDiff]
  have hs0_:=Option.some.inj hs0_;subst hs0_
  refine And.intro (fun h=>by cases h) (And.intro rfl (Fit2.of (Zj hU rfl rfl ?_) (by omega)))
  simp only [push_cast,seval,↓reduceIte,Za,hN0,hN]
 try simp only [Zl,Zi,↓reduceIte,Nat.reduceEqDiff]
 refine Zk [3] [true,false] ?_
 simp only [push_cast,seval,↓reduceIte]
 refine Zq [2] (Zc Zd [] ?_)
 simp only [push_cast,seval,↓reduceIte,Za,hN0,hN]
 refine Z0 ?_
 try simp only [Zl,Zi]
 have h:=Option.some.inj h;subst h
 refine Zt (.inr rfl) hU [.row n z5.length] (by omega) ?_
 simp only [push_cast,seval,↓reduceIte,Za,Try.results114,hN0,hN]
theorem Zgg {a0:(List S_api_Op)} {a1:Int} {a2:Int} {r:((List S_api_Tree)×Int)} {O:Objs} {n:Nat} (h:Ve a0 a1 a2=some r):GTo Try.prog 90 [.sl a0.length (fl Zf a0),.val (.int .i64 a1),.val (.int .i64 a2)] O n (.tup [.sl r.1.length (fl Zb r.1),.val (.int .i64 r.2)]) O n:=by
 unfold Ve at h
 refine Y3 Zd Try.call90 Try.func90 rfl (Nat.le_of_ble_eq_true rfl) (Nat.le_refl _) fun hU => ?_
 have hN0:O n=none:=hU.fresh _ (Nat.le_refl _)
 have hN:∀ k,O (n+k)=none:=fun k=>hU.fresh _ (Nat.le_add_right _ _)
 show W _ _ _ _ ⟨50,[],[(0,.sl a0.length (fl Zf a0)),(1,.val (.int .i64 a1)),(2,.val (.int .i64 a2))]⟩ (Zv O n []) _
 refine Zq [0,1,2] (Zc Zd [] ?_)
 simp only [push_cast,seval,↓reduceIte,Za,hN0,hN]
 refine Zq [0,1,2,8] (Zc Zd [] ?_)
 simp only [push_cast,seval,↓reduceIte,Za,hN0,hN]
 refine Zq [0,2,8,9] (Zc Zd [] ?_)
 simp only [push_cast,seval,↓reduceIte,Za,hN0,hN]
 refine Zm ?_
 refine Zk [0,2,8,9] [] ?_
 simp only [push_cast,seval,↓reduceIte]
 refine Jh (E':=(⟨50,[],[(0,.sl a0.length (fl Zf a0)),(2,.val (.int .i64 a2)),(8,.row n ([]:List S_api_Tree).length),(9,.val (.int .i64 a1))]⟩:Env)) (O':=(Zv O n [some ⟨true,25,3,([]:List S_api_Tree).length,fl Zb ([]:List S_api_Tree)⟩,none])) (n':=(n+2)) ?_ ?_
 ·refine Fit2.trans (E':=(⟨50,[],[(0,.sl a0.length (fl Zf a0)),(2,.val (.int .i64 a2)),(8,.val (.slice none 0 0)),(9,.val (.int .i64 a1))]⟩:Env)) (O':=(Zv O n [])) (n':=n) (Fit2.of (Zj hU rfl rfl ?_) (by omega)) ?_
  ·simp only [push_cast,seval,↓reduceIte,Za,hN0,hN]
  refine Fit2.trans (E':=(⟨50,[],[(8,.row n 0),(0,.sl a0.length (fl Zf a0)),(2,.val (.int .i64 a2)),(8,.val (.slice none 0 0)),(9,.val (.int .i64 a1))]⟩:Env)) (O':=(Zv O n [some ⟨true,25,3,0,[]⟩])) (n':=(n+1)) ?_ ?_
  ·have ha:=Zgs (ba:=n) (E:=(⟨50,[],[(0,.sl a0.length (fl Zf a0)),(2,.val (.int .i64 a2)),(8,.val (.slice none 0 0)),(9,.val (.int .i64 a1))]⟩:Env)) (O:=(Zv O n [])) (n:=n) 8 25 3 rfl (by omega)
   simp only [Yv,Yj,Jo,Qs,List.set_cons_zero,List.set_cons_succ,List.cons_append,List.nil_append,List.length_cons,List.length_nil,Nat.zero_add,Nat.reduceAdd,Nat.reduceLT,Nat.add_assoc] at ha
   exact ha
  refine Fit2.trans (E':=(⟨50,[],[(0,.sl a0.length (fl Zf a0)),(2,.val (.int .i64 a2)),(8,.row n ([]:List S_api_Tree).length),(9,.val (.int .i64 a1))]⟩:Env)) (O':=(Zv O n [some ⟨true,25,3,([]:List S_api_Tree).length,fl Zb ([]:List S_api_Tree)⟩])) (n':=(n+1)) (Fit2.of (Zj hU rfl rfl ?_) (by omega)) ?_
  ·simp only [push_cast,seval,↓reduceIte,Za,hN0,hN]
  refine Jr (k:=1) (k':=2) hU [0] [0,0] rfl rfl rfl rfl ⟨rfl,rfl⟩ ?_
  simp only [push_cast,seval,↓reduceIte,Za,hN0,hN]
 obtain ⟨z27,hz27,h⟩:=bC h
 refine Yb (E':=⟨50,[],[(8,.row n z27.2.length),(9,.val (.int .i64 z27.1))]⟩) (O':=(Zv O n [some ⟨true,25,3,z27.2.length,fl Zb z27.2⟩,none])) (n0:=(n+2)) ?_ ?_
 ·refine Yn hz27 (fun s0_=>⟨50,[],[(0,.sl a0.length (fl Zf a0)),(2,.val (.int .i64 a2)),(8,.row n s0_.2.length),(9,.val (.int .i64 s0_.1))]⟩) (fun s0_=>(Zv O n [some ⟨true,25,3,s0_.2.length,fl Zb s0_.2⟩,none])) (fun z27=>JX 0 n (⟨50,[],[(8,.row n z27.2.length),(9,.val (.int .i64 z27.1))]⟩:Env) (Zv O n [some ⟨true,25,3,z27.2.length,fl Zb z27.2⟩,none]) (n+2)) ?_
  intro s0_ x0_ hs0_
  unfold X2 at hs0_
  try dsimp only
  refine Zm ?_
  obtain ⟨z5,hz5,hs0_⟩:=bC hs0_
  refine Yl (E':=⟨50,[],[(0,.sl a0.length (fl Zf a0)),(2,.val (.int .i64 a2)),(8,.row n s0_.2.length),(9,.val (.int .i64 s0_.1)),(30,.val (.bool z5))]⟩) (O':=(Zv O n [some ⟨true,25,3,s0_.2.length,fl Zb s0_.2⟩,none])) (n0:=(n+2)) ?_ ?_
  ·rcases Bool.eq_false_or_eq_true (decide (s0_.1 < (a0.length:Int))) with c14 | c14
   ·replace hz5:=Zs c14 hz5
    obtain ⟨x10,hx10,ax10,bx10,cx10,hz5⟩:=bE (f:=Zf) V2 (fun _=>rfl) (by decide) hz5
    have g11:=K4 (f:=Zf) (sz:=14) Zig (fun _=>rfl) (by decide) (by decide) hx10
    rcases Bool.eq_false_or_eq_true (x10.Kind == 1) with c15 | c15
    ·replace hz5:=Zs c15 hz5
     try rw [c15] at c14
     refine Zc Zd [some true,some true,some true,some true,some true,some true,some true,some false,some false,some false,some false,some false,some false,some true] ?_
     simp only [push_cast,Nat.reduceAdd,Nat.reduceSub,Nat.reduceMul,Nat.reduceLeDiff,Nat.reduceLT,Nat.reduceEqDiff,↓reduceIte,reduceCtorEq,Int.reduceBEq,Int.reduceBNe,Nat.reduceBEq,Int.reduceLE,Int.reduceLT,Int.reduceEq,Int.reduceNe,Int.reduceNeg,Nat.reduceDiv,Nat.reduceMod,Nat.reducePow,Za,c14,ax10,bx10,cx10,g11,c15,hN0,hN]
     have hz5:=Option.some.inj hz5;subst hz5
     refine And.intro rfl (Fit2.of (Zj hU rfl rfl ?_) (by omega))
     simp only [push_cast,Nat.reduceAdd,Nat.reduceSub,Nat.reduceMul,Nat.reduceLeDiff,Nat.reduceLT,Nat.reduceEqDiff,↓reduceIte,reduceCtorEq,Int.reduceBEq,Int.reduceBNe,Nat.reduceBEq,Int.reduceLE,Int.reduceLT,Int.reduceEq,Int.reduceNe,Int.reduceNeg,Nat.reduceDiv,Nat.reduceMod,Nat.reducePow,Za,c14,ax10,bx10,cx10,g11,c15,hN0,hN]
    replace hz5:=Zr c15 hz5
    try rw [c15] at c14
    have g13:=K4 (f:=Zf) (sz:=14) Zig (fun _=>rfl) (by decide) (by decide) hx10
    refine Zc Zd [some true,some true,some true,some true,some true,some true,some true,some true,some true,some true,some true,some true,some true,some true] ?_
    simp only [push_cast,Nat.reduceAdd,Nat.reduceSub,Nat.reduceMul,Nat.reduceLeDiff,Nat.reduceLT,Nat.reduceEqDiff,↓reduceIte,reduceCtorEq,Int.reduceBEq,Int.reduceBNe,Nat.reduceBEq,Int.reduceLE,Int.reduceLT,Int.reduceEq,Int.reduceNe,Int.reduceNeg,Nat.reduceDiv,Nat.reduceMod,Nat.reducePow,Za,c14,ax10,bx10,cx10,g11,c15,g13,hN0,hN]
    have hz5:=Option.some.inj hz5;subst hz5
    refine And.intro rfl (Fit2.of (Zj hU rfl rfl ?_) (by omega))
    simp only [push_cast,Nat.reduceAdd,Nat.reduceSub,Nat.reduceMul,Nat.reduceLeDiff,Nat.reduceLT,Nat.reduceEqDiff,↓reduceIte,reduceCtorEq,Int.reduceBEq,Int.reduceBNe,Nat.reduceBEq,Int.reduceLE,Int.reduceLT,Int.reduceEq,Int.reduceNe,Int.reduceNeg,Nat.reduceDiv,Nat.reduceMod,Nat.reducePow,Za,c14,ax10,bx10,cx10,g11,c15,g13,hN0,hN]
   replace hz5:=Zr c14 hz5
   refine Zc Zd [some false,some false,some false,some false,some false,some false,some false,some false,some false,some false,some false,some false,some false,some false] ?_
   simp only [push_cast,seval,↓reduceIte,Za,c14,hN0,hN]
   have hz5:=Option.some.inj hz5;subst hz5
   refine And.intro rfl (Fit2.of (Zj hU rfl rfl ?_) (by omega))
   simp only [push_cast,seval,↓reduceIte,Za,c14,hN0,hN]
  refine Zu (t:=z5) rfl (fun c26 => ?_) (fun c26 => ?_)
  ·replace hs0_:=Zs c26 hs0_
   refine Zy ?_
   try simp only [Zl,Zi]
   refine Zk [0,2,8,9] [true,false] ?_
   simp only [push_cast,seval,↓reduceIte]
   refine Z6 ?_
   obtain ⟨z16,hz16,hs0_⟩:=bC hs0_
   refine Yl (E':=⟨50,[],[(0,.sl a0.length (fl Zf a0)),(2,.val (.int .i64 a2)),(8,.row n z16.length),(9,.val (.int .i64 s0_.1))]⟩) (O':=(Zv O n [some ⟨true,25,3,z16.length,fl Zb z16⟩,none])) (n0:=(n+2)) ?_ ?_
   ·obtain ⟨x19,hx19,ax19,bx19,cx19,hz16⟩:=bE (f:=Zf) V2 (fun _=>rfl) (by decide) hz16
    have g20:=K4 (f:=Zf) (sz:=14) Zig (fun _=>rfl) (by decide) (by decide) hx19
    refine Zq [0,2,8,9,37] (Zc Zd [] ?_)
    simp only [push_cast,Nat.reduceAdd,Nat.reduceSub,Nat.reduceMul,Nat.reduceLeDiff,Nat.reduceLT,Nat.reduceEqDiff,↓reduceIte,reduceCtorEq,Int.reduceBEq,Int.reduceBNe,Nat.reduceBEq,Int.reduceLE,Int.reduceLT,Int.reduceEq,Int.reduceNe,Int.reduceNeg,Nat.reduceDiv,Nat.reduceMod,Nat.reducePow,Za,ax19,bx19,cx19,g20,hN0,hN]
    refine Zu (t:=(x19.Kind == a2)) rfl (fun c25 => ?_) (fun c25 => ?_)
    ·replace hz16:=Zs c25 hz16
     obtain ⟨x21,hx21,ax21,bx21,cx21,hz16⟩:=bE (f:=Zf) V2 (fun _=>rfl) (by decide) hz16
     have g22:=J3 (f:=Zf) (off:=2) (sz:=14) Zsl (fun _=>rfl) (by decide) (by decide) hx21
     obtain ⟨y23,hy23,hz16⟩:=bC hz16
     obtain ⟨l24,pl24,ql24,el24,hz16⟩:=bA (k:=y23.length) rfl hz16
     refine Zc Zd [] ?_
     simp only [push_cast,Nat.reduceAdd,Nat.reduceSub,Nat.reduceMul,Nat.reduceLeDiff,Nat.reduceLT,Nat.reduceEqDiff,↓reduceIte,reduceCtorEq,Int.reduceBEq,Int.reduceBNe,Nat.reduceBEq,Int.reduceLE,Int.reduceLT,Int.reduceEq,Int.reduceNe,Int.reduceNeg,Nat.reduceDiv,Nat.reduceMod,Nat.reducePow,Za,ax21,bx21,cx21,g22,pl24,ql24,el24,hN0,hN]
     refine (Zjv hy23).then ?_
     simp only [push_cast,Nat.reduceAdd,Nat.reduceSub,Nat.reduceMul,Nat.reduceLeDiff,Nat.reduceLT,Nat.reduceEqDiff,↓reduceIte,reduceCtorEq,Int.reduceBEq,Int.reduceBNe,Nat.reduceBEq,Int.reduceLE,Int.reduceLT,Int.reduceEq,Int.reduceNe,Int.reduceNeg,Nat.reduceDiv,Nat.reduceMod,Nat.reducePow,Za,ax21,bx21,cx21,g22,pl24,ql24,el24,hN0,hN]
     have hz16:=Option.some.inj hz16;subst hz16
     refine And.intro rfl (Fit2.of (Zj hU rfl rfl ?_) (by omega))
     simp only [push_cast,Nat.reduceAdd,Nat.reduceSub,Nat.reduceMul,Nat.reduceLeDiff,Nat.reduceLT,Nat.reduceEqDiff,↓reduceIte,reduceCtorEq,Int.reduceBEq,Int.reduceBNe,Nat.reduceBEq,Int.reduceLE,Int.reduceLT,Int.reduceEq,Int.reduceNe,Int.reduceNeg,Nat.reduceDiv,Nat.reduceMod,Nat.reducePow,Za,ax21,bx21,cx21,g22,pl24,ql24,el24,hN0,hN]
    replace hz16:=Zr c25 hz16
    refine Zy ?_
    try simp only [Zl,Zi]
    have hz16:=Option.some.inj hz16;subst hz16
    refine And.intro rfl (Fit2.of (Zj hU rfl rfl ?_) (by omega))
    simp only [push_cast,seval,↓reduceIte,Za,hN0,hN]
   refine Zc Zd [] ?_
   simp only [push_cast,seval,↓reduceIte,Za,hN0,hN]
   have hs0_:=Option.some.inj hs0_;subst hs0_
   refine And.intro rfl (Fit2.of (Zj hU rfl rfl ?_) (by omega))
   simp only [push_cast,seval,↓reduceIte,Za,hN0,hN]
  replace hs0_:=Zr c26 hs0_
  refine Yx ?_
  try simp only [Zl,Zi,↓reduceIte,Nat.reduceEqDiff]
  have hs0_:=Option.some.inj hs0_;subst hs0_
  refine And.intro (fun h=>by cases h) (And.intro rfl (Fit2.of (Zj hU rfl rfl ?_) (by omega)))
  simp only [push_cast,seval,↓reduceIte,Za,hN0,hN]
 try simp only [Zl,Zi,↓reduceIte,Nat.reduceEqDiff]
 refine Zk [8,9] [true,false] ?_
 simp only [push_cast,seval,↓reduceIte]
 refine Zq [6,7] (Zc Zd [] ?_)
 simp only [push_cast,seval,↓reduceIte,Za,hN0,hN]
 refine Z0 ?_
 try simp only [Zl,Zi]
 have h:=Option.some.inj h;subst h
 refine Zt (.inr rfl) hU [.row n z27.2.length,.val (.int .i64 z27.1)] (by omega) ?_
 simp only [push_cast,seval,↓reduceIte,Za,Try.results90,hN0,hN]
theorem Zkt {a0:Int} {a1:S_api_Edit} {r:Bool} {O:Objs} {n:Nat} (h:Kw a0 a1=some r):GTo Try.prog 91 [.val (.int .i64 a0),.agg (Ze a1)] O n (.val (.bool r)) O n:=by
 unfold Kw at h
 refine Y3 Zd Try.call91 Try.func91 rfl (Nat.le_of_ble_eq_true rfl) (Nat.le_refl _) fun hU => ?_
 have hN0:O n=none:=hU.fresh _ (Nat.le_refl _)
 have hN:∀ k,O (n+k)=none:=fun k=>hU.fresh _ (Nat.le_add_right _ _)
 show W _ _ _ _ ⟨29,[],[(0,.val (.int .i64 a0)),(1,.agg (Ze a1))]⟩ (Zv O n []) _
 refine Zq [0,3] (Zc Zd [] ?_)
 simp only [push_cast,seval,↓reduceIte,Za,hN0,hN]
 refine Zq [4] (Zc Zd [none,none,none,none,none,none,none,none,none,none,none,none,none,none,none,none,none,none,none] ?_)
 simp only [push_cast,seval,↓reduceIte,Za,hN0,hN]
 repeat (with_reducible refine And.intro (by first | (intro h0;simp only [h0,and_self];done) | (intro h0;simp only [h0,Bool.not_false,Bool.not_true,Bool.true_and,Bool.and_true,true_and,and_true,and_self,imp_self,implies_true,bne_iff_ne,ne_eq,beq_iff_eq];done) | (intros;simp_all;done) | exact True.intro) ?_)
 refine Z0 ?_
 try simp only [Zl,Zi]
 have h:=Option.some.inj h;subst h
 refine Zt (.inr rfl) hU [.val (.bool (cond (a1.Kind == 0) true (cond (cond (cond (a1.Kind == 2) (a0 == 9) false) ((a1.Words.length:Int) == 0) false) ((a1.Kids.length:Int) == 0) false)))] (by omega) ?_
 simp only [push_cast,seval,↓reduceIte,Za,Try.results91,hN0,hN]
theorem Zj0 {Y4:(S_api_Edit→Option S_api_Edit)} {Q8:(Int→(List S_api_Op)→Option (List S_api_Op))} (Un:∀ {a0:S_api_Edit} {r:S_api_Edit} {O:Objs} {n:Nat},Y4 a0=some r→GTo Try.prog 19 [.agg (Ze a0)] O n (.agg (Ze r)) O n) (Ze3:∀ {a0:Int} {a1:(List S_api_Op)} {r:(List S_api_Op)} {O:Objs} {n:Nat},Q8 a0 a1=some r→GTo Try.prog 55 [.val (.int .i64 a0),.sl a1.length (fl Zf a1)] O n (.sl r.length (fl Zf r)) O n) {a0:S_api_Edit} {r:S_api_Edit} {O:Objs} {n:Nat} (h:V9 Y4 Q8 a0=some r):GTo Try.prog 19 [.agg (Ze a0)] O n (.agg (Ze r)) O n:=by
 unfold V9 at h
 refine Y3 Zd Try.call19 Try.func19 rfl (Nat.le_of_ble_eq_true rfl) (Nat.le_refl _) fun hU => ?_
 have hN0:O n=none:=hU.fresh _ (Nat.le_refl _)
 have hN:∀ k,O (n+k)=none:=fun k=>hU.fresh _ (Nat.le_add_right _ _)
 show W _ _ _ _ ⟨63,[],[(0,.agg (Ze a0))]⟩ (Zv O n []) _
 refine Zq [1,2] (Zc Zd [] ?_)
 simp only [push_cast,seval,↓reduceIte,Za,hN0,hN]
 refine Zm ?_
 refine Zq [1,2,6] (Zc Zd [] ?_)
 simp only [push_cast,seval,↓reduceIte,Za,hN0,hN]
 refine Z6 ?_
 refine Zq [1,2,6,7] (Zc Zd [] ?_)
 simp only [push_cast,seval,↓reduceIte,Za,hN0,hN]
 refine Zu (t:=(a0.Kind == 1)) rfl (fun c19 => ?_) (fun c19 => ?_)
 ·replace h:=Zs c19 h
  refine Zm ?_
  obtain ⟨y3,hy3,h⟩:=bC h
  obtain ⟨y4,hy4,h⟩:=bC h
  refine Zhe Zd (by kernel_rfl) [false,false,false,false,false,false,false,true] [] (by kernel_rfl) ?_
  simp only [push_cast,seval,↓reduceIte,Za,hN0,hN]
  refine PCall.of (Zcl hy3) ?_
  simp only [push_cast,seval,↓reduceIte,Za,hN0,hN]
  refine PCall.of (Zcl hy4) ?_
  simp only [push_cast,seval,↓reduceIte,Za,hN0,hN]
  refine Zk [2] [false,true] ?_
  simp only [push_cast,seval,↓reduceIte]
  refine Z0 ?_
  try simp only [Zl,Zi]
  have h:=Option.some.inj h;subst h
  refine Zt (.inr rfl) hU [.agg [.val (.int .i64 1),.val (.int .i64 y3.Kind),.sl y3.Words.length (fl (eI .u64) y3.Words),.sl y3.Kids.length (fl Zb y3.Kids),.val (.int .i64 y4.Kind),.sl y4.Words.length (fl (eI .u64) y4.Words),.sl y4.Kids.length (fl Zb y4.Kids),.val (.slice none 0 0),.val (.slice none 0 0),.val (.int .i64 0),.val (.slice none 0 0)]] (by omega) ?_
  simp only [push_cast,seval,↓reduceIte,Za,Try.results19,hN0,hN]
 replace h:=Zr c19 h
 refine Zq [1,2,6,16] (Zc Zd [] ?_)
 simp only [push_cast,seval,↓reduceIte,Za,hN0,hN]
 refine Zu (t:=(a0.Kind == 2)) rfl (fun c18 => ?_) (fun c18 => ?_)
 ·replace h:=Zs c18 h
  refine Zm ?_
  refine Zc Zd [] ?_
  simp only [push_cast,seval,↓reduceIte,Za,hN0,hN]
  refine Zk [1,2,3] [true,true,true] ?_
  simp only [push_cast,seval,↓reduceIte]
  refine Zm ?_
  obtain ⟨l6,pl6,ql6,el6,h⟩:=bA0 (k:=a0.Words.length) rfl h
  refine Zc Zd [] ?_
  simp only [push_cast,seval,↓reduceIte,Za,pl6,ql6,el6,hN0,hN]
  refine Zbw ⟨63,[],[(1,.ref n 0),(2,.ref (n+1) 0),(3,.ref (n+2) 0)]⟩ (Zv O n [some ⟨false,30,11,1,(Ze a0)⟩,some ⟨false,30,11,1,[.val (.int .i64 0),.val (.int .i64 0),.val (.slice none 0 0),.val (.slice none 0 0),.val (.int .i64 0),.val (.slice none 0 0),.val (.slice none 0 0),.val (.slice none 0 0),.val (.slice none 0 0),.val (.int .i64 0),.val (.slice none 0 0)]⟩,some ⟨false,30,11,1,[.val (.int .i64 2),.val (.int .i64 0),.val (.slice none 0 0),.val (.slice none 0 0),.val (.int .i64 0),.val (.slice none 0 0),.val (.slice none 0 0),.row (n+3) l6.length,.val (.slice none 0 0),.val (.int .i64 0),.val (.slice none 0 0)]⟩,some ⟨true,58,4,l6.length,fl Zg l6⟩]) (Zj hU rfl rfl ?_) ?_
  ·simp only [push_cast,seval,↓reduceIte,Za,pl6,ql6,el6,hN0,hN]
  refine Zm ?_
  refine Zq [1,2,3,4] (Zc Zd [] ?_)
  simp only [push_cast,seval,↓reduceIte,Za,hN0,hN]
  refine Zk [1,2,3,4] [true,true,true,true] ?_
  simp only [push_cast,seval,↓reduceIte]
  refine Jh (E':=(⟨63,[],[(1,.ref n 0),(2,.ref (n+1) 0),(3,.ref (n+2) 0),(4,.val (.int .i64 0))]⟩:Env)) (O':=(Zv O n [some ⟨false,30,11,1,(Ze a0)⟩,some ⟨false,30,11,1,[.val (.int .i64 0),.val (.int .i64 0),.val (.slice none 0 0),.val (.slice none 0 0),.val (.int .i64 0),.val (.slice none 0 0),.val (.slice none 0 0),.val (.slice none 0 0),.val (.slice none 0 0),.val (.int .i64 0),.val (.slice none 0 0)]⟩,some ⟨false,30,11,1,[.val (.int .i64 2),.val (.int .i64 0),.val (.slice none 0 0),.val (.slice none 0 0),.val (.int .i64 0),.val (.slice none 0 0),.val (.slice none 0 0),.row (n+3) l6.length,.row (n+4) ([]:List S_api_KidEdit).length,.val (.int .i64 0),.val (.slice none 0 0)]⟩,some ⟨true,58,4,l6.length,fl Zg l6⟩,some ⟨true,71,12,([]:List S_api_KidEdit).length,fl Zh ([]:List S_api_KidEdit)⟩,none])) (n':=(n+6)) ?_ ?_
  ·refine Fit2.trans (E':=(⟨63,[],[(1,.ref n 0),(2,.ref (n+1) 0),(3,.ref (n+2) 0),(4,.val (.int .i64 0))]⟩:Env)) (O':=(Zv O n [some ⟨false,30,11,1,(Ze a0)⟩,some ⟨false,30,11,1,[.val (.int .i64 0),.val (.int .i64 0),.val (.slice none 0 0),.val (.slice none 0 0),.val (.int .i64 0),.val (.slice none 0 0),.val (.slice none 0 0),.val (.slice none 0 0),.val (.slice none 0 0),.val (.int .i64 0),.val (.slice none 0 0)]⟩,some ⟨false,30,11,1,[.val (.int .i64 2),.val (.int .i64 0),.val (.slice none 0 0),.val (.slice none 0 0),.val (.int .i64 0),.val (.slice none 0 0),.val (.slice none 0 0),.row (n+3) l6.length,.val (.slice none 0 0),.val (.int .i64 0),.val (.slice none 0 0)]⟩,some ⟨true,58,4,l6.length,fl Zg l6⟩])) (n':=(n+4)) (Fit2.of (Zj hU rfl rfl ?_) (by omega)) ?_
   ·simp only [push_cast,seval,↓reduceIte,Za,hN0,hN]
   refine Fit2.trans (E':=(⟨63,[],[(1,.ref n 0),(2,.ref (n+1) 0),(3,.ref (n+2) 0),(4,.val (.int .i64 0))]⟩:Env)) (O':=(Zv O n [some ⟨false,30,11,1,(Ze a0)⟩,some ⟨false,30,11,1,[.val (.int .i64 0),.val (.int .i64 0),.val (.slice none 0 0),.val (.slice none 0 0),.val (.int .i64 0),.val (.slice none 0 0),.val (.slice none 0 0),.val (.slice none 0 0),.val (.slice none 0 0),.val (.int .i64 0),.val (.slice none 0 0)]⟩,some ⟨false,30,11,1,[.val (.int .i64 2),.val (.int .i64 0),.val (.slice none 0 0),.val (.slice none 0 0),.val (.int .i64 0),.val (.slice none 0 0),.val (.slice none 0 0),.row (n+3) l6.length,.row (n+4) 0,.val (.int .i64 0),.val (.slice none 0 0)]⟩,some ⟨true,58,4,l6.length,fl Zg l6⟩,some ⟨true,71,12,0,[]⟩])) (n':=(n+5)) ?_ ?_
   ·have ha:=Ji (ba:=n) (E:=(⟨63,[],[(1,.ref n 0),(2,.ref (n+1) 0),(3,.ref (n+2) 0),(4,.val (.int .i64 0))]⟩:Env)) (O:=(Zv O n [some ⟨false,30,11,1,[.val (.int .i64 a0.Kind),.val (.int .i64 a0.Old.Kind),.sl a0.Old.Words.length (fl (eI .u64) a0.Old.Words),.sl a0.Old.Kids.length (fl Zb a0.Old.Kids),.val (.int .i64 a0.New.Kind),.sl a0.New.Words.length (fl (eI .u64) a0.New.Words),.sl a0.New.Kids.length (fl Zb a0.New.Kids),.sl a0.Words.length (fl Zg a0.Words),.sl a0.Kids.length (fl Zh a0.Kids),.val (.int .i64 a0.List_),.sl a0.Ops.length (fl Zf a0.Ops)]⟩,some ⟨false,30,11,1,[.val (.int .i64 0),.val (.int .i64 0),.val (.slice none 0 0),.val (.slice none 0 0),.val (.int .i64 0),.val (.slice none 0 0),.val (.slice none 0 0),.val (.slice none 0 0),.val (.slice none 0 0),.val (.int .i64 0),.val (.slice none 0 0)]⟩,some ⟨false,30,11,1,[.val (.int .i64 2),.val (.int .i64 0),.val (.slice none 0 0),.val (.slice none 0 0),.val (.int .i64 0),.val (.slice none 0 0),.val (.slice none 0 0),.row (n+3) l6.length,.val (.slice none 0 0),.val (.int .i64 0),.val (.slice none 0 0)]⟩,some ⟨true,58,4,l6.length,fl Zg l6⟩])) (n:=(n+4)) (p:=(n+2)) (k:=8) (q:=⟨false,30,11,1,[.val (.int .i64 2),.val (.int .i64 0),.val (.slice none 0 0),.val (.slice none 0 0),.val (.int .i64 0),.val (.slice none 0 0),.val (.slice none 0 0),.row (n+3) l6.length,.val (.slice none 0 0),.val (.int .i64 0),.val (.slice none 0 0)]⟩) 71 12 (by simp only [Ke,V5,List.getElem?_cons_zero,List.getElem?_cons_succ,Option.join_some,Ya]) rfl (by omega)
    simp only [Yv,Yj,Jo,Qs,List.set_cons_zero,List.set_cons_succ,List.cons_append,List.nil_append,List.length_cons,List.length_nil,Nat.zero_add,Nat.reduceAdd,Nat.reduceLT,Nat.add_assoc] at ha
    exact ha
   refine Fit2.trans (E':=(⟨63,[],[(1,.ref n 0),(2,.ref (n+1) 0),(3,.ref (n+2) 0),(4,.val (.int .i64 0))]⟩:Env)) (O':=(Zv O n [some ⟨false,30,11,1,(Ze a0)⟩,some ⟨false,30,11,1,[.val (.int .i64 0),.val (.int .i64 0),.val (.slice none 0 0),.val (.slice none 0 0),.val (.int .i64 0),.val (.slice none 0 0),.val (.slice none 0 0),.val (.slice none 0 0),.val (.slice none 0 0),.val (.int .i64 0),.val (.slice none 0 0)]⟩,some ⟨false,30,11,1,[.val (.int .i64 2),.val (.int .i64 0),.val (.slice none 0 0),.val (.slice none 0 0),.val (.int .i64 0),.val (.slice none 0 0),.val (.slice none 0 0),.row (n+3) l6.length,.row (n+4) ([]:List S_api_KidEdit).length,.val (.int .i64 0),.val (.slice none 0 0)]⟩,some ⟨true,58,4,l6.length,fl Zg l6⟩,some ⟨true,71,12,([]:List S_api_KidEdit).length,fl Zh ([]:List S_api_KidEdit)⟩])) (n':=(n+5)) (Fit2.of (Zj hU rfl rfl ?_) (by omega)) ?_
   ·simp only [push_cast,seval,↓reduceIte,Za,hN0,hN]
   refine Jr (k:=5) (k':=6) hU [0,1,2,3,4] [0,1,2,3,4,0] rfl rfl rfl rfl ⟨rfl,rfl⟩ ?_
   simp only [push_cast,seval,↓reduceIte,Za,hN0,hN]
  obtain ⟨z14,hz14,h⟩:=bC h
  refine Yb (E':=⟨63,[],[(2,.ref (n+1) 0),(3,.ref (n+2) 0)]⟩) (O':=(Zv O n [none,some ⟨false,30,11,1,[.val (.int .i64 0),.val (.int .i64 0),.val (.slice none 0 0),.val (.slice none 0 0),.val (.int .i64 0),.val (.slice none 0 0),.val (.slice none 0 0),.val (.slice none 0 0),.val (.slice none 0 0),.val (.int .i64 0),.val (.slice none 0 0)]⟩,some ⟨false,30,11,1,[.val (.int .i64 2),.val (.int .i64 0),.val (.slice none 0 0),.val (.slice none 0 0),.val (.int .i64 0),.val (.slice none 0 0),.val (.slice none 0 0),.row (n+3) l6.length,.row (n+4) z14.length,.val (.int .i64 0),.val (.slice none 0 0)]⟩,some ⟨true,58,4,l6.length,fl Zg l6⟩,some ⟨true,71,12,z14.length,fl Zh z14⟩,none])) (n0:=(n+6)) ?_ ?_
  ·refine Yn hz14 (fun s0_=>⟨63,[],[(1,.ref n 0),(2,.ref (n+1) 0),(3,.ref (n+2) 0),(4,.val (.int .i64 s0_.1))]⟩) (fun s0_=>(Zv O n [some ⟨false,30,11,1,(Ze a0)⟩,some ⟨false,30,11,1,[.val (.int .i64 0),.val (.int .i64 0),.val (.slice none 0 0),.val (.slice none 0 0),.val (.int .i64 0),.val (.slice none 0 0),.val (.slice none 0 0),.val (.slice none 0 0),.val (.slice none 0 0),.val (.int .i64 0),.val (.slice none 0 0)]⟩,some ⟨false,30,11,1,[.val (.int .i64 2),.val (.int .i64 0),.val (.slice none 0 0),.val (.slice none 0 0),.val (.int .i64 0),.val (.slice none 0 0),.val (.slice none 0 0),.row (n+3) l6.length,.row (n+4) s0_.2.length,.val (.int .i64 0),.val (.slice none 0 0)]⟩,some ⟨true,58,4,l6.length,fl Zg l6⟩,some ⟨true,71,12,s0_.2.length,fl Zh s0_.2⟩,none])) (fun z14=>JX 1 n (⟨63,[],[(2,.ref (n+1) 0),(3,.ref (n+2) 0)]⟩:Env) (Zv O n [none,some ⟨false,30,11,1,[.val (.int .i64 0),.val (.int .i64 0),.val (.slice none 0 0),.val (.slice none 0 0),.val (.int .i64 0),.val (.slice none 0 0),.val (.slice none 0 0),.val (.slice none 0 0),.val (.slice none 0 0),.val (.int .i64 0),.val (.slice none 0 0)]⟩,some ⟨false,30,11,1,[.val (.int .i64 2),.val (.int .i64 0),.val (.slice none 0 0),.val (.slice none 0 0),.val (.int .i64 0),.val (.slice none 0 0),.val (.slice none 0 0),.row (n+3) l6.length,.row (n+4) z14.length,.val (.int .i64 0),.val (.slice none 0 0)]⟩,some ⟨true,58,4,l6.length,fl Zg l6⟩,some ⟨true,71,12,z14.length,fl Zh z14⟩,none]) (n+6)) ?_
   intro s0_ x0_ hs0_
   unfold Ki at hs0_
   try dsimp only
   refine Zm ?_
   refine Zq [1,2,3,4,29] (Zc Zd [] ?_)
   simp only [push_cast,seval,↓reduceIte,Za,hN0,hN]
   refine Zu (t:=(decide (s0_.1 < (a0.Kids.length:Int)))) rfl (fun c13 => ?_) (fun c13 => ?_)
   ·replace hs0_:=Zs c13 hs0_
    refine Zy ?_
    try simp only [Zl,Zi]
    refine Zk [1,2,3,4] [true,true,true,true,true,false] ?_
    simp only [push_cast,seval,↓reduceIte]
    refine Zm ?_
    refine Z6 ?_
    obtain ⟨x7,hx7,ax7,bx7,cx7,hs0_⟩:=bE (f:=Zh) Zhd (fun _=>rfl) (by decide) hs0_
    have g8:=K4 (f:=Zh) (sz:=12) Zig (fun _=>rfl) (by decide) (by decide) hx7
    have g10:=J3 (f:=Zh) (off:=1) (sz:=12) Zh6 (fun _=>rfl) (by decide) (by decide) hx7
    obtain ⟨y11,hy11,hs0_⟩:=bC hs0_
    obtain ⟨l12,pl12,ql12,el12,hs0_⟩:=bA (k:=1) rfl hs0_
    refine Zc0 Zd (by kernel_rfl) [.low,.low,.plain,.plain,.plain,.plain,.plain,.plain,.plain,.plain,.plain,.plain,.plain,.plain,.plain,.plain,.pass,.bar,.plain,.bar] (fun i=>i < (n+6)) [0,1,2,3,4,5,6,7,8,9,10,11,12,13,14,15,16,17,18,19] [.low,.low,.plain,.plain,.plain,.plain,.plain,.plain,.plain,.plain,.plain,.plain,.plain,.plain,.plain,.plain,.pass,.bar,.plain,.bar] [] (by kernel_rfl) rfl ?_
    simp only [push_cast,Nat.reduceAdd,Nat.reduceSub,Nat.reduceMul,Nat.reduceLeDiff,Nat.reduceLT,Nat.reduceEqDiff,↓reduceIte,reduceCtorEq,Int.reduceBEq,Int.reduceBNe,Nat.reduceBEq,Int.reduceLE,Int.reduceLT,Int.reduceEq,Int.reduceNe,Int.reduceNeg,Nat.reduceDiv,Nat.reduceMod,Nat.reducePow,Za,ax7,bx7,cx7,g8,g10,pl12,ql12,el12,hN0,hN]
    repeat (with_reducible refine And.intro (by first | omega | exact Qa rfl | exact Xk | exact Js rfl rfl) ?_)
    first | refine PCallA.of (fun _ _=>Un hy11) ?_ | refine PCall.of (Un hy11) ?_
    simp only [push_cast,Nat.reduceAdd,Nat.reduceSub,Nat.reduceMul,Nat.reduceLeDiff,Nat.reduceLT,Nat.reduceEqDiff,↓reduceIte,reduceCtorEq,Int.reduceBEq,Int.reduceBNe,Nat.reduceBEq,Int.reduceLE,Int.reduceLT,Int.reduceEq,Int.reduceNe,Int.reduceNeg,Nat.reduceDiv,Nat.reduceMod,Nat.reducePow,Za,ax7,bx7,cx7,g8,g10,pl12,ql12,el12,hN0,hN]
    repeat (with_reducible refine And.intro (by first | omega | exact Qa rfl | exact Xk | exact Js rfl rfl) ?_)
    refine Zbw ⟨63,[],[(1,.ref n 0),(2,.ref (n+1) 0),(3,.ref (n+2) 0),(4,.val (.int .i64 s0_.1))]⟩ (Zv O n [some ⟨false,30,11,1,(Ze a0)⟩,some ⟨false,30,11,1,[.val (.int .i64 0),.val (.int .i64 0),.val (.slice none 0 0),.val (.slice none 0 0),.val (.int .i64 0),.val (.slice none 0 0),.val (.slice none 0 0),.val (.slice none 0 0),.val (.slice none 0 0),.val (.int .i64 0),.val (.slice none 0 0)]⟩,some ⟨false,30,11,1,[.val (.int .i64 2),.val (.int .i64 0),.val (.slice none 0 0),.val (.slice none 0 0),.val (.int .i64 0),.val (.slice none 0 0),.val (.slice none 0 0),.row (n+3) l6.length,.row (n+4) l12.length,.val (.int .i64 0),.val (.slice none 0 0)]⟩,some ⟨true,58,4,l6.length,fl Zg l6⟩,some ⟨true,71,12,l12.length,fl Zh l12⟩,none,none]) (Zj hU rfl rfl ?_) ?_
    ·simp only [push_cast,Nat.reduceAdd,Nat.reduceSub,Nat.reduceMul,Nat.reduceLeDiff,Nat.reduceLT,Nat.reduceEqDiff,↓reduceIte,reduceCtorEq,Int.reduceBEq,Int.reduceBNe,Nat.reduceBEq,Int.reduceLE,Int.reduceLT,Int.reduceEq,Int.reduceNe,Int.reduceNeg,Nat.reduceDiv,Nat.reduceMod,Nat.reducePow,Za,ax7,bx7,cx7,g8,g10,pl12,ql12,el12,hN0,hN]
    refine Zc Zd [] ?_
    simp only [push_cast,seval,↓reduceIte,Za,hN0,hN]
    have hs0_:=Option.some.inj hs0_;subst hs0_
    refine And.intro rfl (Fit2.of (Zj hU rfl rfl ?_) (by omega))
    simp only [push_cast,seval,↓reduceIte,Za,hN0,hN]
   replace hs0_:=Zr c13 hs0_
   refine Yx ?_
   try simp only [Zl,Zi,↓reduceIte,Nat.reduceEqDiff]
   have hs0_:=Option.some.inj hs0_;subst hs0_
   refine And.intro (fun h=>by cases h) (And.intro rfl (Fit2.of (Zj hU rfl rfl ?_) (by omega)))
   simp only [push_cast,seval,↓reduceIte,Za,hN0,hN]
  try simp only [Zl,Zi,↓reduceIte,Nat.reduceEqDiff]
  refine Zk [2,3] [false,true,true,true,true,false] ?_
  simp only [push_cast,seval,↓reduceIte]
  refine Zm ?_
  refine Zc Zd [] ?_
  simp only [push_cast,seval,↓reduceIte,Za,hN0,hN]
  refine Zk [2] [false,true,false,true,true,false] ?_
  simp only [push_cast,seval,↓reduceIte]
  refine Z0 ?_
  try simp only [Zl,Zi]
  have h:=Option.some.inj h;subst h
  refine Zt (.inr rfl) hU [.agg [.val (.int .i64 2),.val (.int .i64 0),.val (.slice none 0 0),.val (.slice none 0 0),.val (.int .i64 0),.val (.slice none 0 0),.val (.slice none 0 0),.row (n+3) l6.length,.row (n+4) z14.length,.val (.int .i64 0),.val (.slice none 0 0)]] (by omega) ?_
  simp only [push_cast,seval,↓reduceIte,Za,Try.results19,hN0,hN]
 replace h:=Zr c18 h
 refine Zq [1,2,52] (Zc Zd [] ?_)
 simp only [push_cast,seval,↓reduceIte,Za,hN0,hN]
 refine Zu (t:=(a0.Kind == 3)) rfl (fun c17 => ?_) (fun c17 => ?_)
 ·replace h:=Zs c17 h
  refine Zm ?_
  obtain ⟨y16,hy16,h⟩:=bC h
  refine Zhe Zd (by kernel_rfl) [false,false,false,false,false,false,false,false,true] [] (by kernel_rfl) ?_
  simp only [push_cast,seval,↓reduceIte,Za,hN0,hN]
  refine PCall.of (Ze3 hy16) ?_
  simp only [push_cast,seval,↓reduceIte,Za,hN0,hN]
  refine Zk [2] [false,true] ?_
  simp only [push_cast,seval,↓reduceIte]
  refine Z0 ?_
  try simp only [Zl,Zi]
  have h:=Option.some.inj h;subst h
  refine Zt (.inr rfl) hU [.agg [.val (.int .i64 3),.val (.int .i64 0),.val (.slice none 0 0),.val (.slice none 0 0),.val (.int .i64 0),.val (.slice none 0 0),.val (.slice none 0 0),.val (.slice none 0 0),.val (.slice none 0 0),.val (.int .i64 a0.List_),.sl y16.length (fl Zf y16)]] (by omega) ?_
  simp only [push_cast,seval,↓reduceIte,Za,Try.results19,hN0,hN]
 replace h:=Zr c17 h
 refine Zy ?_
 try simp only [Zl,Zi]
 refine Zk [2] [false,true] ?_
 simp only [push_cast,seval,↓reduceIte]
 refine Zm ?_
 refine Zc Zd [] ?_
 simp only [push_cast,seval,↓reduceIte,Za,hN0,hN]
 refine Zk [2] [false,true] ?_
 simp only [push_cast,seval,↓reduceIte]
 refine Z0 ?_
 try simp only [Zl,Zi]
 have h:=Option.some.inj h;subst h
 refine Zt (.inr rfl) hU [.agg [.val (.int .i64 0),.val (.int .i64 0),.val (.slice none 0 0),.val (.slice none 0 0),.val (.int .i64 0),.val (.slice none 0 0),.val (.slice none 0 0),.val (.slice none 0 0),.val (.slice none 0 0),.val (.int .i64 0),.val (.slice none 0 0)]] (by omega) ?_
 simp only [push_cast,seval,↓reduceIte,Za,Try.results19,hN0,hN]
theorem Zku {Y4:(S_api_Edit→Option S_api_Edit)} {Q8:(Int→(List S_api_Op)→Option (List S_api_Op))} (Un:∀ {a0:S_api_Edit} {r:S_api_Edit} {O:Objs} {n:Nat},Y4 a0=some r→GTo Try.prog 19 [.agg (Ze a0)] O n (.agg (Ze r)) O n) (Ze3:∀ {a0:Int} {a1:(List S_api_Op)} {r:(List S_api_Op)} {O:Objs} {n:Nat},Q8 a0 a1=some r→GTo Try.prog 55 [.val (.int .i64 a0),.sl a1.length (fl Zf a1)] O n (.sl r.length (fl Zf r)) O n) {a0:Int} {a1:(List S_api_Op)} {r:(List S_api_Op)} {O:Objs} {n:Nat} (h:Vd Y4 Q8 a0 a1=some r):GTo Try.prog 55 [.val (.int .i64 a0),.sl a1.length (fl Zf a1)] O n (.sl r.length (fl Zf r)) O n:=by
 unfold Vd at h
 refine Y3 Zd Try.call55 Try.func55 rfl (Nat.le_of_ble_eq_true rfl) (Nat.le_refl _) fun hU => ?_
 have hN0:O n=none:=hU.fresh _ (Nat.le_refl _)
 have hN:∀ k,O (n+k)=none:=fun k=>hU.fresh _ (Nat.le_add_right _ _)
 show W _ _ _ _ ⟨114,[],[(0,.val (.int .i64 a0)),(1,.sl a1.length (fl Zf a1))]⟩ (Zv O n []) _
 refine Zq [0,1] (Zc Zd [] ?_)
 simp only [push_cast,seval,↓reduceIte,Za,hN0,hN]
 refine Zq [0,1,5] (Zc Zd [] ?_)
 simp only [push_cast,seval,↓reduceIte,Za,hN0,hN]
 refine Zm ?_
 refine Zq [0,1,5,6] (Zc Zd [] ?_)
 simp only [push_cast,seval,↓reduceIte,Za,hN0,hN]
 refine Zk [0,1,5,6] [] ?_
 simp only [push_cast,seval,↓reduceIte]
 refine Jh (E':=(⟨114,[],[(0,.val (.int .i64 a0)),(1,.sl a1.length (fl Zf a1)),(5,.row n ([]:List S_api_Op).length),(6,.val (.int .i64 0))]⟩:Env)) (O':=(Zv O n [some ⟨true,69,14,([]:List S_api_Op).length,fl Zf ([]:List S_api_Op)⟩,none])) (n':=(n+2)) ?_ ?_
 ·refine Fit2.trans (E':=(⟨114,[],[(0,.val (.int .i64 a0)),(1,.sl a1.length (fl Zf a1)),(5,.val (.slice none 0 0)),(6,.val (.int .i64 0))]⟩:Env)) (O':=(Zv O n [])) (n':=n) (Fit2.of (Zj hU rfl rfl ?_) (by omega)) ?_
  ·simp only [push_cast,seval,↓reduceIte,Za,hN0,hN]
  refine Fit2.trans (E':=(⟨114,[],[(5,.row n 0),(0,.val (.int .i64 a0)),(1,.sl a1.length (fl Zf a1)),(5,.val (.slice none 0 0)),(6,.val (.int .i64 0))]⟩:Env)) (O':=(Zv O n [some ⟨true,69,14,0,[]⟩])) (n':=(n+1)) ?_ ?_
  ·have ha:=Zgs (ba:=n) (E:=(⟨114,[],[(0,.val (.int .i64 a0)),(1,.sl a1.length (fl Zf a1)),(5,.val (.slice none 0 0)),(6,.val (.int .i64 0))]⟩:Env)) (O:=(Zv O n [])) (n:=n) 5 69 14 rfl (by omega)
   simp only [Yv,Yj,Jo,Qs,List.set_cons_zero,List.set_cons_succ,List.cons_append,List.nil_append,List.length_cons,List.length_nil,Nat.zero_add,Nat.reduceAdd,Nat.reduceLT,Nat.add_assoc] at ha
   exact ha
  refine Fit2.trans (E':=(⟨114,[],[(0,.val (.int .i64 a0)),(1,.sl a1.length (fl Zf a1)),(5,.row n ([]:List S_api_Op).length),(6,.val (.int .i64 0))]⟩:Env)) (O':=(Zv O n [some ⟨true,69,14,([]:List S_api_Op).length,fl Zf ([]:List S_api_Op)⟩])) (n':=(n+1)) (Fit2.of (Zj hU rfl rfl ?_) (by omega)) ?_
  ·simp only [push_cast,seval,↓reduceIte,Za,hN0,hN]
  refine Jr (k:=1) (k':=2) hU [0] [0,0] rfl rfl rfl rfl ⟨rfl,rfl⟩ ?_
  simp only [push_cast,seval,↓reduceIte,Za,hN0,hN]
 obtain ⟨z48,hz48,h⟩:=bC h
 refine U0 (J:=(Xc (fun z48=>JR n (⟨114,[],[(4,.sl z48.length (fl Zf z48))]⟩:Env) (Zv O n []) n) (fun z48=>JX 0 n (⟨114,[],[(5,.row n z48.length)]⟩:Env) (Zv O n [some ⟨true,69,14,z48.length,fl Zf z48⟩,none]) (n+2)))) (z:=z48) ?_ fun hw => ?_
 ·refine Yn hz48 (fun s0_=>⟨114,[],[(0,.val (.int .i64 a0)),(1,.sl a1.length (fl Zf a1)),(5,.row n s0_.2.length),(6,.val (.int .i64 s0_.1))]⟩) (fun s0_=>(Zv O n [some ⟨true,69,14,s0_.2.length,fl Zf s0_.2⟩,none])) (Xc (fun z48=>JR n (⟨114,[],[(4,.sl z48.length (fl Zf z48))]⟩:Env) (Zv O n []) n) (fun z48=>JX 0 n (⟨114,[],[(5,.row n z48.length)]⟩:Env) (Zv O n [some ⟨true,69,14,z48.length,fl Zf z48⟩,none]) (n+2))) ?_
  intro s0_ x0_ hs0_
  unfold Xa at hs0_
  try dsimp only
  refine Zm ?_
  refine Zq [0,1,5,6,16] (Zc Zd [] ?_)
  simp only [push_cast,seval,↓reduceIte,Za,hN0,hN]
  refine Zu (t:=(decide (s0_.1 < (a1.length:Int)))) rfl (fun c47 => ?_) (fun c47 => ?_)
  ·replace hs0_:=Zs c47 hs0_
   refine Zy ?_
   try simp only [Zl,Zi]
   refine Zk [0,1,5,6] [true,false] ?_
   simp only [push_cast,seval,↓reduceIte]
   obtain ⟨z1,hz1,hs0_⟩:=bC hs0_
   refine Z5b (J:=(Xc (fun z1=>JN n (⟨114,[],[(0,.val (.int .i64 a0)),(1,.sl a1.length (fl Zf a1)),(5,.row n z1.2.length),(6,.val (.int .i64 z1.1))]⟩:Env) (Zv O n [some ⟨true,69,14,z1.2.length,fl Zf z1.2⟩,none,none,none,none,none]) (n+6)) (fun z1=>JR n (⟨114,[],[(4,.row n z1.length)]⟩:Env) (Zv O n [some ⟨true,69,14,z1.length,fl Zf z1⟩,none]) (n+2)))) (z:=z1) ?_ fun hw => ?_
   ·refine Z6 ?_
    refine Zm ?_
    obtain ⟨y3,hy3,hz1⟩:=bC hz1
    refine Zc Zd [] ?_
    simp only [push_cast,seval,↓reduceIte,Za,hN0,hN]
    refine (Zgg hy3).then ?_
    simp only [push_cast,seval,↓reduceIte,Za,hN0,hN]
    refine Zk [0,1,5,6,7,8] [true,false] ?_
    simp only [push_cast,seval,↓reduceIte]
    refine Zm ?_
    obtain ⟨y5,hy5,hz1⟩:=bC hz1
    refine Zc Zd [] ?_
    simp only [push_cast,seval,↓reduceIte,Za,hN0,hN]
    refine (Zgg hy5).then ?_
    simp only [push_cast,seval,↓reduceIte,Za,hN0,hN]
    refine Zk [0,1,5,7,8,9] [true,false] ?_
    simp only [push_cast,seval,↓reduceIte]
    obtain ⟨z6,hz6,hz1⟩:=bC hz1
    refine Yl (E':=⟨114,[],[(0,.val (.int .i64 a0)),(1,.sl a1.length (fl Zf a1)),(5,.row n z6.length),(8,.val (.int .i64 y3.2)),(9,.sl y5.1.length (fl Zb y5.1))]⟩) (O':=(Zv O n [some ⟨true,69,14,z6.length,fl Zf z6⟩,none,none])) (n0:=(n+3)) ?_ ?_
    ·refine Zq [0,1,5,7,8,9,33] (Zc Zd [] ?_)
     simp only [push_cast,seval,↓reduceIte,Za,hN0,hN]
     refine Zu (t:=(decide (0 < (y3.1.length:Int)))) rfl (fun c8 => ?_) (fun c8 => ?_)
     ·replace hz6:=Zs c8 hz6
      obtain ⟨l7,pl7,ql7,el7,hz6⟩:=bA (k:=1) rfl hz6
      refine Zc Zd [] ?_
      simp only [push_cast,seval,↓reduceIte,Za,pl7,ql7,el7,hN0,hN]
      have hz6:=Option.some.inj hz6;subst hz6
      refine And.intro rfl (Fit2.of (Zj hU rfl rfl ?_) (by omega))
      simp only [push_cast,seval,↓reduceIte,Za,pl7,ql7,el7,hN0,hN]
     replace hz6:=Zr c8 hz6
     refine Zy ?_
     try simp only [Zl,Zi]
     have hz6:=Option.some.inj hz6;subst hz6
     refine And.intro rfl (Fit2.of (Zj hU rfl rfl ?_) (by omega))
     simp only [push_cast,seval,↓reduceIte,Za,hN0,hN]
    obtain ⟨z9,hz9,hz1⟩:=bC hz1
    refine Yl (E':=⟨114,[],[(0,.val (.int .i64 a0)),(1,.sl a1.length (fl Zf a1)),(5,.row n z9.length),(8,.val (.int .i64 y3.2))]⟩) (O':=(Zv O n [some ⟨true,69,14,z9.length,fl Zf z9⟩,none,none,none])) (n0:=(n+4)) ?_ ?_
    ·refine Zq [0,1,5,8,9,41] (Zc Zd [] ?_)
     simp only [push_cast,seval,↓reduceIte,Za,hN0,hN]
     refine Zu (t:=(decide (0 < (y5.1.length:Int)))) rfl (fun c11 => ?_) (fun c11 => ?_)
     ·replace hz9:=Zs c11 hz9
      obtain ⟨l10,pl10,ql10,el10,hz9⟩:=bA (k:=1) rfl hz9
      refine Zc Zd [] ?_
      simp only [push_cast,seval,↓reduceIte,Za,pl10,ql10,el10,hN0,hN]
      have hz9:=Option.some.inj hz9;subst hz9
      refine And.intro rfl (Fit2.of (Zj hU rfl rfl ?_) (by omega))
      simp only [push_cast,seval,↓reduceIte,Za,pl10,ql10,el10,hN0,hN]
     replace hz9:=Zr c11 hz9
     refine Zy ?_
     try simp only [Zl,Zi]
     have hz9:=Option.some.inj hz9;subst hz9
     refine And.intro rfl (Fit2.of (Zj hU rfl rfl ?_) (by omega))
     simp only [push_cast,seval,↓reduceIte,Za,hN0,hN]
    refine Zq [0,1,5,6] (Zc Zd [] ?_)
    simp only [push_cast,seval,↓reduceIte,Za,hN0,hN]
    refine Zm ?_
    refine Zq [0,1,5,6,51] (Zc Zd [] ?_)
    simp only [push_cast,seval,↓reduceIte,Za,hN0,hN]
    refine Zu (t:=(decide ((a1.length:Int)≤y3.2))) rfl (fun c46 => ?_) (fun c46 => ?_)
    ·replace hz1:=Zs c46 hz1
     refine Zq [4] (Zc Zd [] ?_)
     simp only [push_cast,seval,↓reduceIte,Za,hN0,hN]
     refine Z0 ?_
     try simp only [Zl,Zi]
     have hz1:=Option.some.inj hz1;subst hz1
     refine And.intro rfl (Fit2.of (Zj hU rfl rfl ?_) (by omega))
     simp only [push_cast,seval,↓reduceIte,Za,hN0,hN]
    replace hz1:=Zr c46 hz1
    refine Zy ?_
    try simp only [Zl,Zi]
    refine Zk [0,1,5,6] [true,false,false,false] ?_
    simp only [push_cast,seval,↓reduceIte]
    refine Zm ?_
    obtain ⟨x14,hx14,ax14,bx14,cx14,hz1⟩:=bE (f:=Zf) V2 (fun _=>rfl) (by decide) hz1
    have g15:=J3 (f:=Zf) (off:=1) (sz:=14) Zig (fun _=>rfl) (by decide) (by decide) hx14
    refine Zc Zd [] ?_
    simp only [push_cast,Nat.reduceAdd,Nat.reduceSub,Nat.reduceMul,Nat.reduceLeDiff,Nat.reduceLT,Nat.reduceEqDiff,↓reduceIte,reduceCtorEq,Int.reduceBEq,Int.reduceBNe,Nat.reduceBEq,Int.reduceLE,Int.reduceLT,Int.reduceEq,Int.reduceNe,Int.reduceNeg,Nat.reduceDiv,Nat.reduceMod,Nat.reducePow,Za,ax14,bx14,cx14,g15,hN0,hN]
    refine Zk [0,1,5,6,11] [true,false,false,false,true] ?_
    simp only [push_cast,seval,↓reduceIte]
    obtain ⟨z16,hz16,hz1⟩:=bC hz1
    refine Yl (E':=⟨114,[],[(0,.val (.int .i64 a0)),(1,.sl a1.length (fl Zf a1)),(5,.row n z9.length),(6,.val (.int .i64 y3.2)),(11,.ref (n+4) 0)]⟩) (O':=(Zv O n [some ⟨true,69,14,z9.length,fl Zf z9⟩,none,none,none,some ⟨false,69,14,1,[.val (.int .i64 z16.1),.val (.int .i64 z16.2.1),.val (.slice none 0 0),.val (.int .i64 z16.2.2.1),.val (.int .i64 z16.2.2.2.1),.sl z16.2.2.2.2.1.length (fl (eI .u64) z16.2.2.2.2.1),.sl z16.2.2.2.2.2.1.length (fl Zb z16.2.2.2.2.2.1),.val (.int .i64 z16.2.2.2.2.2.2.1),.sl z16.2.2.2.2.2.2.2.1.length (fl (eI .u64) z16.2.2.2.2.2.2.2.1),.sl z16.2.2.2.2.2.2.2.2.1.length (fl Zb z16.2.2.2.2.2.2.2.2.1),.sl z16.2.2.2.2.2.2.2.2.2.1.length (fl Zg z16.2.2.2.2.2.2.2.2.2.1),.sl z16.2.2.2.2.2.2.2.2.2.2.1.length (fl Zh z16.2.2.2.2.2.2.2.2.2.2.1),.val (.int .i64 z16.2.2.2.2.2.2.2.2.2.2.2.1),.sl z16.2.2.2.2.2.2.2.2.2.2.2.2.length (fl Zf z16.2.2.2.2.2.2.2.2.2.2.2.2)]⟩])) (n0:=(n+5)) ?_ ?_
    ·obtain ⟨x19,hx19,ax19,bx19,cx19,hz16⟩:=bE (f:=Zf) V2 (fun _=>rfl) (by decide) hz16
     have g20:=K4 (f:=Zf) (sz:=14) Zig (fun _=>rfl) (by decide) (by decide) hx19
     refine Zq [0,1,5,6,11,64] (Zc Zd [] ?_)
     simp only [push_cast,Nat.reduceAdd,Nat.reduceSub,Nat.reduceMul,Nat.reduceLeDiff,Nat.reduceLT,Nat.reduceEqDiff,↓reduceIte,reduceCtorEq,Int.reduceBEq,Int.reduceBNe,Nat.reduceBEq,Int.reduceLE,Int.reduceLT,Int.reduceEq,Int.reduceNe,Int.reduceNeg,Nat.reduceDiv,Nat.reduceMod,Nat.reducePow,Za,ax19,bx19,cx19,g20,hN0,hN]
     refine Zu (t:=(x19.Kind == 3)) rfl (fun c30 => ?_) (fun c30 => ?_)
     ·replace hz16:=Zs c30 hz16
      refine Zm ?_
      obtain ⟨x24,hx24,ax24,bx24,cx24,hz16⟩:=bE (f:=Zf) V2 (fun _=>rfl) (by decide) hz16
      have g25:=J3 (f:=Zf) (off:=3) (sz:=14) Zh6 (fun _=>rfl) (by decide) (by decide) hx24
      obtain ⟨y26,hy26,hz16⟩:=bC hz16
      refine Zc Zd [] ?_
      simp only [push_cast,Nat.reduceAdd,Nat.reduceSub,Nat.reduceMul,Nat.reduceLeDiff,Nat.reduceLT,Nat.reduceEqDiff,↓reduceIte,reduceCtorEq,Int.reduceBEq,Int.reduceBNe,Nat.reduceBEq,Int.reduceLE,Int.reduceLT,Int.reduceEq,Int.reduceNe,Int.reduceNeg,Nat.reduceDiv,Nat.reduceMod,Nat.reducePow,Za,ax24,bx24,cx24,g25,hN0,hN]
      refine (Un hy26).then ?_
      simp only [push_cast,Nat.reduceAdd,Nat.reduceSub,Nat.reduceMul,Nat.reduceLeDiff,Nat.reduceLT,Nat.reduceEqDiff,↓reduceIte,reduceCtorEq,Int.reduceBEq,Int.reduceBNe,Nat.reduceBEq,Int.reduceLE,Int.reduceLT,Int.reduceEq,Int.reduceNe,Int.reduceNeg,Nat.reduceDiv,Nat.reduceMod,Nat.reducePow,Za,ax24,bx24,cx24,g25,hN0,hN]
      refine Zk [0,1,5,6,11] [true,false,false,false,true] ?_
      simp only [push_cast,seval,↓reduceIte]
      refine Zm ?_
      obtain ⟨y28,hy28,hz16⟩:=bC hz16
      refine Zc Zd [] ?_
      simp only [push_cast,seval,↓reduceIte,Za,hN0,hN]
      refine (Zkt hy28).then ?_
      simp only [push_cast,seval,↓reduceIte,Za,hN0,hN]
      refine Zk [0,1,5,6,11,75] [true,false,false,false,true] ?_
      simp only [push_cast,seval,↓reduceIte]
      refine Zu (t:=y28) rfl (fun c29 => ?_) (fun c29 => ?_)
      ·replace hz16:=Zs c29 hz16
       refine Zc Zd [] ?_
       simp only [push_cast,seval,↓reduceIte,Za,hN0,hN]
       have hz16:=Option.some.inj hz16;subst hz16
       refine And.intro rfl (Fit2.of (Zj hU rfl rfl ?_) (by omega))
       simp only [push_cast,seval,↓reduceIte,Za,hN0,hN]
      replace hz16:=Zr c29 hz16
      refine Zy ?_
      try simp only [Zl,Zi]
      have hz16:=Option.some.inj hz16;subst hz16
      refine And.intro rfl (Fit2.of (Zj hU rfl rfl ?_) (by omega))
      simp only [push_cast,seval,↓reduceIte,Za,hN0,hN]
     replace hz16:=Zr c30 hz16
     refine Zy ?_
     try simp only [Zl,Zi]
     have hz16:=Option.some.inj hz16;subst hz16
     refine And.intro rfl (Fit2.of (Zj hU rfl rfl ?_) (by omega))
     simp only [push_cast,seval,↓reduceIte,Za,hN0,hN]
    refine Zq [0,1,5,6,11,12] (Zc Zd [] ?_)
    simp only [push_cast,seval,↓reduceIte,Za,hN0,hN]
    obtain ⟨z33,hz33,hz1⟩:=bC hz1
    refine Yl (E':=⟨114,[],[(0,.val (.int .i64 a0)),(1,.sl a1.length (fl Zf a1)),(5,.row n z9.length),(6,.val (.int .i64 y3.2)),(11,.ref (n+4) 0),(12,.val (.int .i64 (z9.length:Int))),(94,.val (.bool z33))]⟩) (O':=(Zv O n [some ⟨true,69,14,z9.length,fl Zf z9⟩,none,none,none,some ⟨false,69,14,1,[.val (.int .i64 z16.1),.val (.int .i64 z16.2.1),.val (.slice none 0 0),.val (.int .i64 z16.2.2.1),.val (.int .i64 z16.2.2.2.1),.sl z16.2.2.2.2.1.length (fl (eI .u64) z16.2.2.2.2.1),.sl z16.2.2.2.2.2.1.length (fl Zb z16.2.2.2.2.2.1),.val (.int .i64 z16.2.2.2.2.2.2.1),.sl z16.2.2.2.2.2.2.2.1.length (fl (eI .u64) z16.2.2.2.2.2.2.2.1),.sl z16.2.2.2.2.2.2.2.2.1.length (fl Zb z16.2.2.2.2.2.2.2.2.1),.sl z16.2.2.2.2.2.2.2.2.2.1.length (fl Zg z16.2.2.2.2.2.2.2.2.2.1),.sl z16.2.2.2.2.2.2.2.2.2.2.1.length (fl Zh z16.2.2.2.2.2.2.2.2.2.2.1),.val (.int .i64 z16.2.2.2.2.2.2.2.2.2.2.2.1),.sl z16.2.2.2.2.2.2.2.2.2.2.2.2.length (fl Zf z16.2.2.2.2.2.2.2.2.2.2.2.2)]⟩])) (n0:=(n+5)) ?_ ?_
    ·rcases Bool.eq_false_or_eq_true (z16.1 == 0) with c38 | c38
     ·replace hz33:=Zs c38 hz33
      rcases Bool.eq_false_or_eq_true (decide (0 < (z9.length:Int))) with c39 | c39
      ·replace hz33:=Zs c39 hz33
       try rw [c39] at c38
       obtain ⟨x36,hx36,ax36,bx36,cx36,hz33⟩:=bE (f:=Zf) V2 (fun _=>rfl) (by decide) hz33
       have g37:=K4 (f:=Zf) (sz:=14) Zig (fun _=>rfl) (by decide) (by decide) hx36
       refine Zc Zd [none,none,some true,some true,some true,some true,some true,some true,some true] ?_
       simp only [push_cast,Nat.reduceAdd,Nat.reduceSub,Nat.reduceMul,Nat.reduceLeDiff,Nat.reduceLT,Nat.reduceEqDiff,↓reduceIte,reduceCtorEq,Int.reduceBEq,Int.reduceBNe,Nat.reduceBEq,Int.reduceLE,Int.reduceLT,Int.reduceEq,Int.reduceNe,Int.reduceNeg,Nat.reduceDiv,Nat.reduceMod,Nat.reducePow,Za,c38,c39,ax36,bx36,cx36,g37,hN0,hN]
       repeat (with_reducible refine And.intro (by first | (intro h0;simp only [h0,and_self];done) | (intro h0;simp only [h0,Bool.not_false,Bool.not_true,Bool.true_and,Bool.and_true,true_and,and_true,and_self,imp_self,implies_true,bne_iff_ne,ne_eq,beq_iff_eq];done) | (intros;simp_all;done) | exact True.intro) ?_)
       have hz33:=Option.some.inj hz33;subst hz33
       refine And.intro rfl (Fit2.of (Zj hU rfl rfl ?_) (by omega))
       simp only [push_cast,Nat.reduceAdd,Nat.reduceSub,Nat.reduceMul,Nat.reduceLeDiff,Nat.reduceLT,Nat.reduceEqDiff,↓reduceIte,reduceCtorEq,Int.reduceBEq,Int.reduceBNe,Nat.reduceBEq,Int.reduceLE,Int.reduceLT,Int.reduceEq,Int.reduceNe,Int.reduceNeg,Nat.reduceDiv,Nat.reduceMod,Nat.reducePow,Za,c38,c39,ax36,bx36,cx36,g37,hN0,hN]
      replace hz33:=Zr c39 hz33
      try rw [c39] at c38
      refine Zc Zd [none,none,some false,some false,some false,some false,some false,some false,some false] ?_
      simp only [push_cast,seval,↓reduceIte,Za,c38,c39,hN0,hN]
      repeat (with_reducible refine And.intro (by first | (intro h0;simp only [h0,and_self];done) | (intro h0;simp only [h0,Bool.not_false,Bool.not_true,Bool.true_and,Bool.and_true,true_and,and_true,and_self,imp_self,implies_true,bne_iff_ne,ne_eq,beq_iff_eq];done) | (intros;simp_all;done) | exact True.intro) ?_)
      have hz33:=Option.some.inj hz33;subst hz33
      refine And.intro rfl (Fit2.of (Zj hU rfl rfl ?_) (by omega))
      simp only [push_cast,seval,↓reduceIte,Za,c38,c39,hN0,hN]
     replace hz33:=Zr c38 hz33
     refine Zc Zd [none,none,some false,some false,some false,some false,some false,some false,some false] ?_
     simp only [push_cast,seval,↓reduceIte,Za,c38,hN0,hN]
     repeat (with_reducible refine And.intro (by first | (intro h0;simp only [h0,and_self];done) | (intro h0;simp only [h0,Bool.not_false,Bool.not_true,Bool.true_and,Bool.and_true,true_and,and_true,and_self,imp_self,implies_true,bne_iff_ne,ne_eq,beq_iff_eq];done) | (intros;simp_all;done) | exact True.intro) ?_)
     have hz33:=Option.some.inj hz33;subst hz33
     refine And.intro rfl (Fit2.of (Zj hU rfl rfl ?_) (by omega))
     simp only [push_cast,seval,↓reduceIte,Za,c38,hN0,hN]
    refine Zu (t:=z33) rfl (fun c45 => ?_) (fun c45 => ?_)
    ·replace hz1:=Zs c45 hz1
     obtain ⟨x40,hx40,ax40,bx40,cx40,hz1⟩:=bE (f:=Zf) V2 (fun _=>rfl) (by decide) hz1
     have g41:=J3 (f:=Zf) (off:=1) (sz:=14) Zig (fun _=>rfl) (by decide) (by decide) hx40
     have gu43:J4 (fl Zf z9) [.val (.int .i64 (IntKind.i64.wrap (x40.N+z16.2.1)))] (Int.toNat (IntKind.i64.wrap ((z9.length:Int) - 1)) * 14+1)=some (fl Zf (Zg9 z9 (IntKind.i64.wrap ((z9.length:Int) - 1)) (⟨x40.Kind,(IntKind.i64.wrap (x40.N+z16.2.1)),x40.L,x40.E⟩:S_api_Op))):=Zxd (f:=Zf) (sz:=14) (fun _=>rfl) (Nat.le_of_ble_eq_true rfl) hx40 (by simp only [Zf,Xn,Zb,Yo,Xt,Xd,Zg,Zh,Yt,eI,eB,eS,eL,List.take_zero,List.take_succ_cons,List.drop_zero,List.drop_succ_cons,List.cons_append,List.nil_append,List.length_cons,List.length_nil,Nat.zero_add,Nat.reduceAdd])
     refine Zhe Zd (by kernel_rfl) [false,false,false,false,false,false,false,false,false,false,false,false,false,false,true] [] (by kernel_rfl) ?_
     simp only [push_cast,Nat.reduceAdd,Nat.reduceSub,Nat.reduceMul,Nat.reduceLeDiff,Nat.reduceLT,Nat.reduceEqDiff,↓reduceIte,reduceCtorEq,Int.reduceBEq,Int.reduceBNe,Nat.reduceBEq,Int.reduceLE,Int.reduceLT,Int.reduceEq,Int.reduceNe,Int.reduceNeg,Nat.reduceDiv,Nat.reduceMod,Nat.reducePow,Za,ax40,bx40,cx40,g41,gu43,hN0,hN]
     have hz1:=Option.some.inj hz1;subst hz1
     refine And.intro rfl (Fit2.of (Zj hU rfl rfl ?_) (by omega))
     simp only [push_cast,Nat.reduceAdd,Nat.reduceSub,Nat.reduceMul,Nat.reduceLeDiff,Nat.reduceLT,Nat.reduceEqDiff,↓reduceIte,reduceCtorEq,Int.reduceBEq,Int.reduceBNe,Nat.reduceBEq,Int.reduceLE,Int.reduceLT,Int.reduceEq,Int.reduceNe,Int.reduceNeg,Nat.reduceDiv,Nat.reduceMod,Nat.reducePow,Za,ax40,bx40,cx40,g41,gu43,hN0,hN]
    replace hz1:=Zr c45 hz1
    obtain ⟨l44,pl44,ql44,el44,hz1⟩:=bA (k:=1) rfl hz1
    refine Zc Zd [] ?_
    simp only [push_cast,seval,↓reduceIte,Za,pl44,ql44,el44,hN0,hN]
    have hz1:=Option.some.inj hz1;subst hz1
    refine And.intro rfl (Fit2.of (Zj hU rfl rfl ?_) (by omega))
    simp only [push_cast,seval,↓reduceIte,Za,pl44,ql44,el44,hN0,hN]
   rcases z1 with z1 | z1
   ·dsimp only [Xc] at hw hs0_
    refine Yl hw ?_
    refine Zc Zd [] ?_
    simp only [push_cast,seval,↓reduceIte,Za,hN0,hN]
    have hs0_:=Option.some.inj hs0_;subst hs0_
    refine And.intro rfl (Fit2.of (Zj hU rfl rfl ?_) (by omega))
    simp only [push_cast,seval,↓reduceIte,Za,hN0,hN]
   dsimp only [Xc] at hw hs0_
   refine Z0w hw ?_
   try simp only [Zl,Zi]
   have hs0_:=Option.some.inj hs0_;subst hs0_
   refine And.intro (fun h=>by cases h) (And.intro rfl (Fit2.of (Zj hU rfl rfl ?_) (by omega)))
   simp only [push_cast,seval,↓reduceIte,Za,hN0,hN]
  replace hs0_:=Zr c47 hs0_
  refine Yx ?_
  try simp only [Zl,Zi,↓reduceIte,Nat.reduceEqDiff]
  have hs0_:=Option.some.inj hs0_;subst hs0_
  refine And.intro (fun h=>by cases h) (And.intro rfl (Fit2.of (Zj hU rfl rfl ?_) (by omega)))
  simp only [push_cast,seval,↓reduceIte,Za,hN0,hN]
 rcases z48 with z48 | z48
 ·dsimp only [Xc] at hw h
  refine Q0 hw ?_
  try simp only [Zl,Zi,↓reduceIte,Nat.reduceEqDiff]
  have h:=Option.some.inj h;subst h
  refine Zt (.inr rfl) hU [.sl z48.length (fl Zf z48)] (by omega) ?_
  simp only [push_cast,seval,↓reduceIte,Za,Try.results55,hN0,hN]
 dsimp only [Xc] at hw h
 refine Yb hw ?_
 try simp only [Zl,Zi,↓reduceIte,Nat.reduceEqDiff]
 refine Zk [5] [true,false] ?_
 simp only [push_cast,seval,↓reduceIte]
 refine Zq [4] (Zc Zd [] ?_)
 simp only [push_cast,seval,↓reduceIte,Za,hN0,hN]
 refine Z0 ?_
 try simp only [Zl,Zi]
 have h:=Option.some.inj h;subst h
 refine Zt (.inr rfl) hU [.row n z48.length] (by omega) ?_
 simp only [push_cast,seval,↓reduceIte,Za,Try.results55,hN0,hN]
theorem Zid:∀ k,(∀ {a0:S_api_Edit} {r:S_api_Edit} {O:Objs} {n:Nat},(Ys k).1 a0=some r→GTo Try.prog 19 [.agg (Ze a0)] O n (.agg (Ze r)) O n)∧(∀ {a0:Int} {a1:(List S_api_Op)} {r:(List S_api_Op)} {O:Objs} {n:Nat},(Ys k).2 a0 a1=some r→GTo Try.prog 55 [.val (.int .i64 a0),.sl a1.length (fl Zf a1)] O n (.sl r.length (fl Zf r)) O n):=fun k=>by
 induction k with
 | zero=>exact ⟨@fun a0 r O n h=>(nomatch (show (none:Option _)=some _ from h)),@fun a0 a1 r O n h=>(nomatch (show (none:Option _)=some _ from h))⟩
 | succ k ih=>exact ⟨@fun a0 r O n h=>Zj0 (ih.1) (ih.2)  h,@fun a0 a1 r O n h=>Zku (ih.1) (ih.2)  h⟩
theorem Zks {a0:S_api_Edit} {r:S_api_Edit} {O:Objs} {n:Nat} (h:Zdc a0=some r):GTo Try.prog 19 [.agg (Ze a0)] O n (.agg (Ze r)) O n:=by
 obtain ⟨k,hk⟩:=Vs h
 exact (Zid k).1  hk
theorem Zcn {a0:S_api_Edit} {r:S_api_Edit} {O:Objs} {n:Nat} (h:Uj a0=some r):GTo Try.prog 29 [.agg (Ze a0)] O n (.agg (Ze r)) O n:=by
 unfold Uj at h
 refine Y3 Zd Try.call29 Try.func29 rfl (Nat.le_of_ble_eq_true rfl) (Nat.le_refl _) fun hU => ?_
 have hN0:O n=none:=hU.fresh _ (Nat.le_refl _)
 have hN:∀ k,O (n+k)=none:=fun k=>hU.fresh _ (Nat.le_add_right _ _)
 show W _ _ _ _ ⟨6,[],[(0,.agg (Ze a0))]⟩ (Zv O n []) _
 refine Zq [1,2] (Zc Zd [] ?_)
 simp only [push_cast,seval,↓reduceIte,Za,hN0,hN]
 refine Zm ?_
 obtain ⟨y3,hy3,h⟩:=bC h
 obtain ⟨y4,hy4,h⟩:=bC h
 refine Zc Zd [] ?_
 simp only [push_cast,seval,↓reduceIte,Za,hN0,hN]
 refine (Zjw hy3).then ?_
 simp only [push_cast,seval,↓reduceIte,Za,hN0,hN]
 refine (Zks hy4).then ?_
 simp only [push_cast,seval,↓reduceIte,Za,hN0,hN]
 refine Zk [2] [false,true] ?_
 simp only [push_cast,seval,↓reduceIte]
 refine Z0 ?_
 try simp only [Zl,Zi]
 have h:=Option.some.inj h;subst h
 refine Zt (.inr rfl) hU [.agg (Ze y4)] (by omega) ?_
 simp only [push_cast,seval,↓reduceIte,Za,Try.results29,hN0,hN]
end Go.Proofs.Ytbcgiaijjaocdaa
