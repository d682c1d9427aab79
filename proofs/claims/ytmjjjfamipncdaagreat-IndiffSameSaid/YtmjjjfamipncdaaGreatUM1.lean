/- Part UM1 of this seat's mirrors: functions of the seat's program, and the plain functions that they are; each theorem bears its own conditions. -/
import Derived.Test.YtmjjjfamipncdaaGreatUD
namespace Go.Proofs.YtmjjjfamipncdaaGreat
open Go.RowKit
set_option linter.unusedVariables false
set_option linter.unusedSimpArgs false
set_option maxRecDepth 100000
set_option maxHeartbeats 4000000
attribute [local push_cast] Xu Yx Zn J3 Zx Yk Zi Zh Ze Xn Zbs Zab Znd Zi8 Zd4 Zd8 Zd3 Zd7 Zg8 Zg3 Zd6 Zg7 Zg6 Zg5 Zd5 Zg2 Zcw evS wok Q0 Op.operands Call.operands gop atK List.all_cons List.all_nil Bool.true_and Bool.and_self Value.oneCell' List.take_zero List.take_succ_cons List.take_nil List.drop_zero List.drop_succ_cons List.drop_nil List.append_nil Nat.add_zero Nat.zero_add K7 Yc ev Qy Znt Zkf Zke Zkk Zki Zkj Zkg Zkh Zkd Zow Zp7 Ztp Zel Gt Zek Zam Zdx Zcn Za9 Zc0 Zch Zcd Zbc Zcg Zcf Zce Zbb Zcc Zba Zbd Zaa Zh8 Zcm Uc Zdp Ud Zfr Zej Zsk bLo bHi bMx Gu Zfq Zu7 Zeh Zgc Zbu K0 Zo2 Zu8 Zdo Zbr Zu9 Gs Zx6 Zgi Zgm Zgh Zgl Zk2 Zky Zkx Zd1 Zgj Zk1 Zk0 Zkz Zgk Zkt Zkw Zks Zkv Zqh Zqe Zqd Zku Zqf Zqg Zfs Zmz pop TK.isAgg Zk5 Zk9 Zk4 Zk8 Zgr Zqr Zqn Zk7 Zqq Zqp Zqo Zk6 Zqm G.under G.unders List.getD_cons_zero List.getD_cons_succ List.set_cons_zero List.set_cons_succ List.map_cons List.map_nil List.toList_toArray Array.toList_append Option.toArray_none Option.toArray_some Option.map_some Option.map_none Option.bind_some Option.bind_none List.getElem?_cons_zero List.getElem?_cons_succ List.getElem?_nil List.nil_append List.cons_append List.replicate_succ List.replicate_zero List.length_cons List.length_nil and_true true_and and_false false_and Bool.true_eq_false Bool.false_eq_true forall_const implies_true IntKind.bits ite_true ite_false eq_self or_false not_false_eq_true decide_true decide_eq_true_eq decide_eq_false_iff_not beq_iff_eq bne_iff_ne ne_eq beq_eq_false_iff_ne bne_eq_false_iff_eq beq_self_eq_true bne_self_eq_false Option.some.injEq exists_eq_left' ge_iff_le gt_iff_lt Bool.not_true Bool.not_false imp_self cond_true cond_false Z7q Z7p Bool.and_false Bool.false_and Uz Zdn Zbm Zog Gn K2 Option.join_some Nat.add_assoc Int.toNat_natCast eI eL Zde Zcl Zbe Zko Zkm Zkn Zyu Z01 Zlg Zjq Zlh Zle Zlf Zub Ziz Zr5 Ziw Zoo Zdu List.length_append G.agg.injEq G.tup.injEq List.flatten_cons List.flatten_nil Int.le_refl Nat.le_refl Bool.not_eq_true' Bool.not_eq_false' Zmx Zdc Zr0 Yal Zuz Z1y Zoa Znl G.ren G.rens Zqu Zf2 Zy8 Zkb Zkc Zpy Zuy Yan Z3k Zrz Zyk Z38 Option.join_none Kz undef Zge Arr.put_eq Zv5 Z6c Zcq Z08 Zld Zlb Zlc onB Zyt Zov Kx Zd2 Zgw Zgv Zgu Zgt Z00 Z0z Zve Zso Vm Zt2 Zm0 Zyy Znn Zfp Zga Zca Zc3 Z6t Zrq Z1r Zrr Z6u Zrs Z1s Zrt Z6v Zru Z6w Zrv Z6x Zrw Z6y Zrx Zwh Zlr Zwi Zls Zwj Zlt Zwk Zlu Zwl Zlv Zwm Zlw Zwn Zlx Zwo Zly Zwp Zlz Zwq Zl0 Zwr Zl1 Zws Zl2 Zwt Zl3 Zwu Zl4 Uv Zcz Zsh Zir Zwv Zl5 Zdb Zl6 Zww Zl7 Zwx Zl8 Zwy Zl9 Zwz Zma Zw0 Zmb Zw1 Zmc Zw2 Zis Zw3 Zmd Zw4 Zme Ug Zmf Zw5 Zmg Zw6 Zmh Zw7 Zmi Zuq Zmj Zw8 Zmk Zw9 Zml Zxa Zmm Zxb Zmn Zxc Zmo Zxd Zmp Zxe Zmq Zxf Zmr Zxg Zms Zxh Zmt Zxi Zmu Zxj Zmv Zxk Zmw Zq0 Zha Zoe Zhb Zq1 Zhc Zq2 Zhd Zq3 Zhe Zq4 Zhf Zq5 Zhg Zq6 Zhh Zq7 Zhi Zq8 Zhj Zq9 Zhk Zra Zhl Zrb Zhm Zrc Zhn Zrd Zho Zre Zhp Zrf Zhq Zrg Zhr Zrh Zhs Zri Zht Zrj Zhu Zrk Zhv Zrl Zhw Zjy Zhx Zrm Zhy Zrn Zhz Zro Zh0 Zrp Zh1 Za7 Z2v Z20 Zfh Zno Zr Zci Zaj Zr1 Zb3 Zz Q1 Zy Yu Jn
theorem Zpg {a0:Int} {a1:Int} {r:Za1} {O:Objs} {n:Nat}  (h:Zae a0 a1=some r):GTo Tryz.prog 16 [.val (.int .i64 a0),.val (.int .i64 a1)] O n (.ref n 0) (Z3 O n [some ⟨false,69,4,1,[.row (n+1) r.L.length,.val (.int .i64 r.Size),.val (.int .i64 r.Most),.val (.int .i64 r.Used)]⟩,some ⟨true,26,1,r.L.length,fl (eL (eI .u64)) r.L⟩]) (n+2):=by
 unfold Zae at h
 refine Ye Zc Tryz.call16 Tryz.func16 rfl (Nat.le_of_ble_eq_true rfl) (by omega) fun hU => ?_
 have hN0:O n=none:=hU.fresh _ (Nat.le_refl _)
 have hN:∀ k,O (n+k)=none:=fun k=>hU.fresh _ (Nat.le_add_right _ _)
 show W _ _ _ _ ⟨15,[],[(0,.val (.int .i64 a0)),(1,.val (.int .i64 a1))]⟩ (Z3 O n []) _
 refine Zk [0,1] (Zb Zc [] ?_)
 simp only [push_cast,seval,Za,hN0,hN]
 obtain ⟨z1,hz1,h⟩:=bC h
 refine Yr (E':=⟨15,[],[(0,.val (.int .i64 z1)),(1,.val (.int .i64 a1))]⟩) (O':=(Z3 O n [])) (n0:=n) ?_ ?_
 ·refine Zk [0,1,6] (Zb Zc [] ?_)
  simp only [push_cast,seval,Za,hN0,hN]
  refine Zo (t:=(decide (a0 < 1))) rfl (fun c2 => ?_) (fun c2 => ?_)
  ·replace hz1:=Zw c2 hz1
   refine Zb Zc [] ?_
   simp only [push_cast,seval,Za,hN0,hN]
   have hz1:=Option.some.inj hz1;subst hz1
   refine And.intro rfl (Fit2.of (Zm hU rfl rfl ?_) (by omega))
   simp only [push_cast,seval,Za,hN0,hN]
  replace hz1:=Zv c2 hz1
  refine Zt ?_
  try simp only [Zh,Ze]
  have hz1:=Option.some.inj hz1;subst hz1
  refine And.intro rfl (Fit2.of (Zm hU rfl rfl ?_) (by omega))
  simp only [push_cast,seval,Za,hN0,hN]
 obtain ⟨z3,hz3,h⟩:=bC h
 refine Yr (E':=⟨15,[],[(0,.val (.int .i64 z1)),(1,.val (.int .i64 z3))]⟩) (O':=(Z3 O n [])) (n0:=n) ?_ ?_
 ·refine Zk [0,1,8] (Zb Zc [] ?_)
  simp only [push_cast,seval,Za,hN0,hN]
  refine Zo (t:=(decide (a1 < 0))) rfl (fun c4 => ?_) (fun c4 => ?_)
  ·replace hz3:=Zw c4 hz3
   refine Zb Zc [] ?_
   simp only [push_cast,seval,Za,hN0,hN]
   have hz3:=Option.some.inj hz3;subst hz3
   refine And.intro rfl (Fit2.of (Zm hU rfl rfl ?_) (by omega))
   simp only [push_cast,seval,Za,hN0,hN]
  replace hz3:=Zv c4 hz3
  refine Zt ?_
  try simp only [Zh,Ze]
  have hz3:=Option.some.inj hz3;subst hz3
  refine And.intro rfl (Fit2.of (Zm hU rfl rfl ?_) (by omega))
  simp only [push_cast,seval,Za,hN0,hN]
 obtain ⟨z5,hz5,h⟩:=bC h
 refine Yr (E':=⟨15,[],[(0,.val (.int .i64 z1)),(1,.val (.int .i64 z5))]⟩) (O':=(Z3 O n [])) (n0:=n) ?_ ?_
 ·refine Zk [0,1,10] (Zb Zc [] ?_)
  simp only [push_cast,seval,Za,hN0,hN]
  refine Zo (t:=(decide (131072 < z3))) rfl (fun c6 => ?_) (fun c6 => ?_)
  ·replace hz5:=Zw c6 hz5
   refine Zb Zc [] ?_
   simp only [push_cast,seval,Za,hN0,hN]
   have hz5:=Option.some.inj hz5;subst hz5
   refine And.intro rfl (Fit2.of (Zm hU rfl rfl ?_) (by omega))
   simp only [push_cast,seval,Za,hN0,hN]
  replace hz5:=Zv c6 hz5
  refine Zt ?_
  try simp only [Zh,Ze]
  have hz5:=Option.some.inj hz5;subst hz5
  refine And.intro rfl (Fit2.of (Zm hU rfl rfl ?_) (by omega))
  simp only [push_cast,seval,Za,hN0,hN]
 refine Zk [4] (Zb Zc [] ?_)
 simp only [push_cast,seval,Za,hN0,hN]
 refine Zu ?_
 try simp only [Zh,Ze]
 have h:=Option.some.inj h;subst h
 refine Ztg (k:=2) (L3:=[some ⟨false,69,4,1,[.row (n+1) ([]:List (List Int)).length,.val (.int .i64 z1),.val (.int .i64 z5),.val (.int .i64 0)]⟩,some ⟨true,26,1,([]:List (List Int)).length,fl (eL (eI .u64)) ([]:List (List Int))⟩,none]) (E2:=(⟨15,[],[(4,.ref n 0)]⟩:Env)) (n3:=(n+3)) (.inr rfl) hU rfl [.ref n 0] ?_ ?_
 ·refine Fit2.trans (E':=(⟨15,[],[(4,.ref n 0)]⟩:Env)) (O':=(Z3 O n [some ⟨false,69,4,1,[.val (.slice none 0 0),.val (.int .i64 z1),.val (.int .i64 z5),.val (.int .i64 0)]⟩])) (n':=(n+1)) (Fit2.of (Zm hU rfl rfl ?_) (by omega)) ?_
  ·simp only [push_cast,seval,Za,hN0,hN]
  refine Fit2.trans (Zeb (p:=n) (k:=0) (q:=⟨false,69,4,1,[.val (.slice none 0 0),.val (.int .i64 z1),.val (.int .i64 z5),.val (.int .i64 0)]⟩) 26 1 (by simp only [Zdn,List.getElem?_cons_zero,List.getElem?_cons_succ,Option.join_some,List.length_nil]) rfl (by omega)) ?_
  simp only [Gn,K2,Zog,List.set_cons_zero,List.set_cons_succ,List.cons_append,List.nil_append,List.length_cons,List.length_nil,Nat.zero_add,Nat.reduceAdd,Nat.reduceLT,Nat.add_assoc]
  refine Zil (k:=2) (k':=3) hU [0,1] [0,1,0] rfl rfl rfl rfl ⟨rfl,rfl⟩ ?_
  simp only [push_cast,seval,Za,hN0,hN]
 simp only [push_cast,seval,Za,Tryz.results16,hN0,hN]
theorem Kw {a0:Int} {r:Int} {O:Objs} {n:Nat} (h:Xa a0=some r):GTo Tryz.prog 56 [.val (.int .i64 a0)] O n (.val (.int .i64 r)) O n:=by
 unfold Xa at h
 refine Ye Zc Tryz.call56 Tryz.func56 rfl (Nat.le_of_ble_eq_true rfl) (Nat.le_refl _) fun hU => ?_
 have hN0:O n=none:=hU.fresh _ (Nat.le_refl _)
 have hN:∀ k,O (n+k)=none:=fun k=>hU.fresh _ (Nat.le_add_right _ _)
 show W _ _ _ _ ⟨16,[],[(0,.val (.int .i64 a0))]⟩ (Z3 O n []) _
 refine Zk [0] (Zb Zc [] ?_)
 simp only [push_cast,seval,Za,hN0,hN]
 refine Zf ?_
 refine Zk [3] (Zb Zc [] ?_)
 simp only [push_cast,seval,Za,hN0,hN]
 refine Yo ?_
 refine Zk [3,4] (Zb Zc [] ?_)
 simp only [push_cast,seval,Za,hN0,hN]
 refine Zo (t:=(a0 == 0)) rfl (fun c6 => ?_) (fun c6 => ?_)
 ·replace h:=Zw c6 h
  refine Zk [2] (Zb Zc [] ?_)
  simp only [push_cast,seval,Za,hN0,hN]
  refine Zu ?_
  try simp only [Zh,Ze]
  have h:=Option.some.inj h;subst h
  refine Zl (.inr rfl) hU [.val (.int .i64 0)] (by omega) ?_
  simp only [push_cast,seval,Za,Tryz.results56,hN0,hN]
 replace h:=Zv c6 h
 refine Zk [3,6] (Zb Zc [] ?_)
 simp only [push_cast,seval,Za,hN0,hN]
 refine Zo (t:=(a0 == 1)) rfl (fun c5 => ?_) (fun c5 => ?_)
 ·replace h:=Zw c5 h
  refine Zk [2] (Zb Zc [] ?_)
  simp only [push_cast,seval,Za,hN0,hN]
  refine Zu ?_
  try simp only [Zh,Ze]
  have h:=Option.some.inj h;subst h
  refine Zl (.inr rfl) hU [.val (.int .i64 1)] (by omega) ?_
  simp only [push_cast,seval,Za,Tryz.results56,hN0,hN]
 replace h:=Zv c5 h
 refine Zk [3,8] (Zb Zc [] ?_)
 simp only [push_cast,seval,Za,hN0,hN]
 refine Zo (t:=(a0 == 2)) rfl (fun c4 => ?_) (fun c4 => ?_)
 ·replace h:=Zw c4 h
  refine Zk [2] (Zb Zc [] ?_)
  simp only [push_cast,seval,Za,hN0,hN]
  refine Zu ?_
  try simp only [Zh,Ze]
  have h:=Option.some.inj h;subst h
  refine Zl (.inr rfl) hU [.val (.int .i64 8)] (by omega) ?_
  simp only [push_cast,seval,Za,Tryz.results56,hN0,hN]
 replace h:=Zv c4 h
 refine Zk [3,10] (Zb Zc [] ?_)
 simp only [push_cast,seval,Za,hN0,hN]
 refine Zo (t:=(a0 == 3)) rfl (fun c3 => ?_) (fun c3 => ?_)
 ·replace h:=Zw c3 h
  refine Zk [2] (Zb Zc [] ?_)
  simp only [push_cast,seval,Za,hN0,hN]
  refine Zu ?_
  try simp only [Zh,Ze]
  have h:=Option.some.inj h;subst h
  refine Zl (.inr rfl) hU [.val (.int .i64 16)] (by omega) ?_
  simp only [push_cast,seval,Za,Tryz.results56,hN0,hN]
 replace h:=Zv c3 h
 refine Zk [3,12] (Zb Zc [] ?_)
 simp only [push_cast,seval,Za,hN0,hN]
 refine Zo (t:=(a0 == 4)) rfl (fun c2 => ?_) (fun c2 => ?_)
 ·replace h:=Zw c2 h
  refine Zk [2] (Zb Zc [] ?_)
  simp only [push_cast,seval,Za,hN0,hN]
  refine Zu ?_
  try simp only [Zh,Ze]
  have h:=Option.some.inj h;subst h
  refine Zl (.inr rfl) hU [.val (.int .i64 32)] (by omega) ?_
  simp only [push_cast,seval,Za,Tryz.results56,hN0,hN]
 replace h:=Zv c2 h
 refine Zk [14] (Zb Zc [] ?_)
 simp only [push_cast,seval,Za,hN0,hN]
 refine Zo (t:=(a0 == 5)) rfl (fun c1 => ?_) (fun c1 => ?_)
 ·replace h:=Zw c1 h
  refine Zk [2] (Zb Zc [] ?_)
  simp only [push_cast,seval,Za,hN0,hN]
  refine Zu ?_
  try simp only [Zh,Ze]
  have h:=Option.some.inj h;subst h
  refine Zl (.inr rfl) hU [.val (.int .i64 64)] (by omega) ?_
  simp only [push_cast,seval,Za,Tryz.results56,hN0,hN]
 replace h:=Zv c1 h
 refine Zt ?_
 try simp only [Zh,Ze]
 refine Zg [] [] ?_
 simp only [push_cast,seval]
 refine Zk [2] (Zb Zc [] ?_)
 simp only [push_cast,seval,Za,hN0,hN]
 refine Zu ?_
 try simp only [Zh,Ze]
 have h:=Option.some.inj h;subst h
 refine Zl (.inr rfl) hU [.val (.int .i64 (-1))] (by omega) ?_
 simp only [push_cast,seval,Za,Tryz.results56,hN0,hN]
theorem Za4 {a0:Int} {a1:Int} {r:Bool} {O:Objs} {n:Nat} (h:Jp a0 a1=some r):GTo Tryz.prog 31 [.val (.int .i64 a0),.val (.int .u64 a1)] O n (.val (.bool r)) O n:=by
 unfold Jp at h
 refine Ye Zc Tryz.call31 Tryz.func31 rfl (Nat.le_of_ble_eq_true rfl) (Nat.le_refl _) fun hU => ?_
 have hN0:O n=none:=hU.fresh _ (Nat.le_refl _)
 have hN:∀ k,O (n+k)=none:=fun k=>hU.fresh _ (Nat.le_add_right _ _)
 show W _ _ _ _ ⟨20,[],[(0,.val (.int .i64 a0)),(1,.val (.int .u64 a1))]⟩ (Z3 O n []) _
 refine Zk [0,1] (Zb Zc [] ?_)
 simp only [push_cast,seval,Za,hN0,hN]
 refine Zf ?_
 obtain ⟨y2,hy2,h⟩:=bC h
 refine Zb Zc [] ?_
 simp only [push_cast,seval,Za,hN0,hN]
 refine (Kw hy2).then ?_
 simp only [push_cast,seval,Za,hN0,hN]
 refine Zg [1,5] [] ?_
 simp only [push_cast,seval]
 refine Zf ?_
 refine Zk [1,5,10] (Zb Zc [] ?_)
 simp only [push_cast,seval,Za,hN0,hN]
 refine Zo (t:=(decide (y2 < 0))) rfl (fun c5 => ?_) (fun c5 => ?_)
 ·replace h:=Zw c5 h
  refine Zk [4] (Zb Zc [] ?_)
  simp only [push_cast,seval,Za,hN0,hN]
  refine Zu ?_
  try simp only [Zh,Ze]
  have h:=Option.some.inj h;subst h
  refine Zl (.inr rfl) hU [.val (.bool false)] (by omega) ?_
  simp only [push_cast,seval,Za,Tryz.results31,hN0,hN]
 replace h:=Zv c5 h
 refine Zt ?_
 try simp only [Zh,Ze]
 refine Zg [1,5] [] ?_
 simp only [push_cast,seval]
 refine Zf ?_
 refine Zk [1,5,6] (Zb Zc [] ?_)
 simp only [push_cast,seval,Za,hN0,hN]
 refine Zg [1,5,6] [] ?_
 simp only [push_cast,seval]
 obtain ⟨z4,hz4,h⟩:=bC h
 refine Xx (E':=⟨20,[],[(1,.val (.int .u64 z4))]⟩) (O':=(Z3 O n [])) (n0:=n) ?_ ?_
 ·refine Qt hz4 (fun s0_=>⟨20,[],[(1,.val (.int .u64 s0_.1)),(5,.val (.int .i64 y2)),(6,.val (.int .i64 s0_.2))]⟩) (fun s0_=>(Z3 O n [])) (fun z4=>JX 0 n (⟨20,[],[(1,.val (.int .u64 z4))]⟩:Env) (Z3 O n []) n) ?_
  intro s0_ x0_ hs0_
  unfold X5 at hs0_
  try dsimp only
  refine Zf ?_
  refine Zk [1,5,6,13] (Zb Zc [] ?_)
  simp only [push_cast,seval,Za,hN0,hN]
  refine Zo (t:=(decide (s0_.2 < y2))) rfl (fun c3 => ?_) (fun c3 => ?_)
  ·replace hs0_:=Zw c3 hs0_
   refine Zt ?_
   try simp only [Zh,Ze]
   refine Zg [1,5,6] [] ?_
   simp only [push_cast,seval]
   refine Zf ?_
   refine Yo ?_
   refine Zb Zc [] ?_
   simp only [push_cast,seval,Za,hN0,hN]
   refine Zg [1,5,6] [] ?_
   simp only [push_cast,seval]
   refine Zb Zc [] ?_
   simp only [push_cast,seval,Za,hN0,hN]
   have hs0_:=Option.some.inj hs0_;subst hs0_
   refine And.intro rfl (Fit2.of (Zm hU rfl rfl ?_) (by omega))
   simp only [push_cast,seval,Za,hN0,hN]
  replace hs0_:=Zv c3 hs0_
  refine Q7 ?_
  try simp only [Zh,Ze,↓reduceIte,Nat.reduceEqDiff]
  have hs0_:=Option.some.inj hs0_;subst hs0_
  refine And.intro (fun h=>by cases h) (And.intro rfl (Fit2.of (Zm hU rfl rfl ?_) (by omega)))
  simp only [push_cast,seval,Za,hN0,hN]
 try simp only [Zh,Ze,↓reduceIte,Nat.reduceEqDiff]
 refine Zg [1] [] ?_
 simp only [push_cast,seval]
 refine Zk [4] (Zb Zc [] ?_)
 simp only [push_cast,seval,Za,hN0,hN]
 refine Zu ?_
 try simp only [Zh,Ze]
 have h:=Option.some.inj h;subst h
 refine Zl (.inr rfl) hU [.val (.bool (z4 == 0))] (by omega) ?_
 simp only [push_cast,seval,Za,Tryz.results31,hN0,hN]
theorem Zjn {J8:(Zj→Int→Option Bool)} (Zi3:∀ {a0:Zj} {a1:Int} {r:Bool} {O:Objs} {n:Nat},J8 a0 a1=some r→GTo Tryz.prog 15 [.agg (Zn a0),.val (.int .i64 a1)] O n (.val (.bool r)) O n) {a0:Zj} {a1:Int} {r:Bool} {O:Objs} {n:Nat} (h:K6 J8 a0 a1=some r):GTo Tryz.prog 15 [.agg (Zn a0),.val (.int .i64 a1)] O n (.val (.bool r)) O n:=by
 unfold K6 at h
 refine Ye Zc Tryz.call15 Tryz.func15 rfl (Nat.le_of_ble_eq_true rfl) (Nat.le_refl _) fun hU => ?_
 have hN0:O n=none:=hU.fresh _ (Nat.le_refl _)
 have hN:∀ k,O (n+k)=none:=fun k=>hU.fresh _ (Nat.le_add_right _ _)
 show W _ _ _ _ ⟨132,[],[(0,.agg (Zn a0)),(1,.val (.int .i64 a1))]⟩ (Z3 O n []) _
 refine Zk [1,2] (Zb Zc [] ?_)
 simp only [push_cast,seval,Za,hN0,hN]
 refine Zf ?_
 refine Zk [1,2,10] (Zb Zc [] ?_)
 simp only [push_cast,seval,Za,hN0,hN]
 refine Zo (t:=(a0.Kind == 0)) rfl (fun c32 => ?_) (fun c32 => ?_)
 ·replace h:=Zw c32 h
  refine Zk [4] (Zb Zc [none,none,none,none] ?_)
  simp only [push_cast,seval,Za,hN0,hN]
  repeat (with_reducible refine And.intro (by first | (intro h0;simp only [h0,and_self];done) | (intro h0;simp only [h0,Bool.not_false,Bool.not_true,Bool.true_and,true_and,and_true,and_self,imp_self,implies_true,ne_eq,beq_iff_eq];done) | (intros;simp_all;done) | exact True.intro) ?_)
  refine Zu ?_
  try simp only [Zh,Ze]
  have h:=Option.some.inj h;subst h
  refine Zl (.inr rfl) hU [.val (.bool (cond ((a0.Words.length:Int) == 0) ((a0.Kids.length:Int) == 0) false))] (by omega) ?_
  simp only [push_cast,seval,Za,Tryz.results15,hN0,hN]
 replace h:=Zv c32 h
 refine Zt ?_
 try simp only [Zh,Ze]
 refine Zg [1,2] [true] ?_
 simp only [push_cast,seval]
 refine Zf ?_
 refine Zk [1,2,23] (Zb Zc [] ?_)
 simp only [push_cast,seval,Za,hN0,hN]
 refine Zo (t:=(a0.Kind == 10)) rfl (fun c31 => ?_) (fun c31 => ?_)
 ·replace h:=Zw c31 h
  refine Zk [4] (Zb Zc [none,none,none,none] ?_)
  simp only [push_cast,seval,Za,hN0,hN]
  repeat (with_reducible refine And.intro (by first | (intro h0;simp only [h0,and_self];done) | (intro h0;simp only [h0,Bool.not_false,Bool.not_true,Bool.true_and,true_and,and_true,and_self,imp_self,implies_true,ne_eq,beq_iff_eq];done) | (intros;simp_all;done) | exact True.intro) ?_)
  refine Zu ?_
  try simp only [Zh,Ze]
  have h:=Option.some.inj h;subst h
  refine Zl (.inr rfl) hU [.val (.bool (cond ((a0.Words.length:Int) == 1) ((a0.Kids.length:Int) == 0) false))] (by omega) ?_
  simp only [push_cast,seval,Za,Tryz.results15,hN0,hN]
 replace h:=Zv c31 h
 refine Zt ?_
 try simp only [Zh,Ze]
 refine Zg [1,2] [true] ?_
 simp only [push_cast,seval]
 refine Zf ?_
 refine Zk [1,2,68] (Zb Zc [none,none,none,none,none,none,none,none,none,none,none,none,none,none,none,none,none,none,none,none,none,none] ?_)
 simp only [push_cast,seval,Za,hN0,hN]
 repeat (with_reducible refine And.intro (by first | (intro h0;simp only [h0,and_self];done) | (intro h0;simp only [h0,Bool.not_false,Bool.not_true,Bool.true_and,true_and,and_true,and_self,imp_self,implies_true,ne_eq,beq_iff_eq];done) | (intros;simp_all;done) | exact True.intro) ?_)
 refine Zo (t:=(cond (cond (cond (cond (cond (decide (a0.Kind < 0)) true (decide (10 < a0.Kind))) true (a1 == 0)) true (decide (65536≤(a0.Words.length:Int)))) true (cond (a0.Kind == 1) (decide (65536≤(a0.Kids.length:Int))) false)) true (decide (1048576≤(a0.Kids.length:Int))))) rfl (fun c30 => ?_) (fun c30 => ?_)
 ·replace h:=Zw c30 h
  refine Zk [4] (Zb Zc [] ?_)
  simp only [push_cast,seval,Za,hN0,hN]
  refine Zu ?_
  try simp only [Zh,Ze]
  have h:=Option.some.inj h;subst h
  refine Zl (.inr rfl) hU [.val (.bool false)] (by omega) ?_
  simp only [push_cast,seval,Za,Tryz.results15,hN0,hN]
 replace h:=Zv c30 h
 refine Zt ?_
 try simp only [Zh,Ze]
 refine Zg [1,2] [true] ?_
 simp only [push_cast,seval]
 refine Zf ?_
 refine Zk [1,2,77] (Zb Zc [none,none,none,none] ?_)
 simp only [push_cast,seval,Za,hN0,hN]
 repeat (with_reducible refine And.intro (by first | (intro h0;simp only [h0,and_self];done) | (intro h0;simp only [h0,Bool.not_false,Bool.not_true,Bool.true_and,true_and,and_true,and_self,imp_self,implies_true,ne_eq,beq_iff_eq];done) | (intros;simp_all;done) | exact True.intro) ?_)
 refine Zo (t:=(cond (decide (1 < a0.Kind)) (decide (0 < (a0.Words.length:Int))) false)) rfl (fun c29 => ?_) (fun c29 => ?_)
 ·replace h:=Zw c29 h
  refine Zk [4] (Zb Zc [] ?_)
  simp only [push_cast,seval,Za,hN0,hN]
  refine Zu ?_
  try simp only [Zh,Ze]
  have h:=Option.some.inj h;subst h
  refine Zl (.inr rfl) hU [.val (.bool false)] (by omega) ?_
  simp only [push_cast,seval,Za,Tryz.results15,hN0,hN]
 replace h:=Zv c29 h
 refine Zt ?_
 try simp only [Zh,Ze]
 refine Zg [1,2] [true] ?_
 simp only [push_cast,seval]
 refine Zf ?_
 refine Zk [1,2,5] (Zb Zc [] ?_)
 simp only [push_cast,seval,Za,hN0,hN]
 refine Zg [1,2,5] [true] ?_
 simp only [push_cast,seval]
 obtain ⟨z28,hz28,h⟩:=bC h
 refine Znp (J:=(Gh (fun z28=>JR n (⟨132,[],[(4,.val (.bool false))]⟩:Env) (Z3 O n [none]) (n+1)) (fun z28=>JX 0 n (⟨132,[],[]⟩:Env) (Z3 O n [none]) (n+1)))) (z:=z28) ?_ fun hw => ?_
 ·refine Qt hz28 (fun s0_=>⟨132,[],[(1,.val (.int .i64 a1)),(2,.ref n 0),(5,.val (.int .i64 s0_))]⟩) (fun s0_=>(Z3 O n [some ⟨false,29,3,1,(Zn a0)⟩])) (Gh (fun z28=>JR n (⟨132,[],[(4,.val (.bool false))]⟩:Env) (Z3 O n [none]) (n+1)) (fun z28=>JX 0 n (⟨132,[],[]⟩:Env) (Z3 O n [none]) (n+1))) ?_
  intro s0_ x0_ hs0_
  unfold Jx at hs0_
  try dsimp only
  refine Zf ?_
  refine Zk [1,2,5,82] (Zb Zc [] ?_)
  simp only [push_cast,seval,Za,hN0,hN]
  refine Zo (t:=(decide (s0_ < (a0.Kids.length:Int)))) rfl (fun c27 => ?_) (fun c27 => ?_)
  ·replace hs0_:=Zw c27 hs0_
   refine Zt ?_
   try simp only [Zh,Ze]
   refine Zg [1,2,5] [true] ?_
   simp only [push_cast,seval]
   refine Zf ?_
   refine Yo ?_
   refine Zf ?_
   obtain ⟨x2,hx2,ax2,bx2,cx2,hs0_⟩:=bE (f:=Zr) Zdb (fun _=>rfl) (by decide) hs0_
   refine Zb Zc [] ?_
   simp only [push_cast,Nat.reduceAdd,Nat.reduceSub,Nat.reduceMul,Nat.reduceLeDiff,Nat.reduceLT,Nat.reduceEqDiff,↓reduceIte,reduceCtorEq,Int.reduceBEq,Int.reduceBNe,Nat.reduceBEq,Int.reduceLE,Int.reduceLT,Int.reduceEq,Int.reduceNe,Int.reduceNeg,Nat.reduceDiv,Nat.reduceMod,Nat.reducePow,Za,ax2,bx2,cx2,hN0,hN]
   refine Zg [1,2,5,6] [true,true] ?_
   simp only [push_cast,seval]
   refine Zf ?_
   refine Zf ?_
   obtain ⟨y4,hy4,hs0_⟩:=bC hs0_
   refine Zb Zc [] ?_
   simp only [push_cast,seval,Za,hN0,hN]
   refine (Zi3 hy4).then ?_
   simp only [push_cast,seval,Za,hN0,hN]
   refine Zg [1,2,5,6,94] [true,true] ?_
   simp only [push_cast,seval]
   refine Zo (t:=(!y4)) rfl (fun c26 => ?_) (fun c26 => ?_)
   ·replace hs0_:=Zw c26 hs0_
    refine Zk [4] (Zb Zc [] ?_)
    simp only [push_cast,seval,Za,hN0,hN]
    refine Zu ?_
    try simp only [Zh,Ze]
    have hs0_:=Option.some.inj hs0_;subst hs0_
    refine And.intro (fun h=>by cases h) (And.intro rfl (Fit2.of (Zm hU rfl rfl ?_) (by omega)))
    simp only [push_cast,seval,Za,hN0,hN]
   replace hs0_:=Zv c26 hs0_
   refine Zt ?_
   try simp only [Zh,Ze]
   refine Zg [1,2,5,6] [true,true] ?_
   simp only [push_cast,seval]
   refine Zk [1,2,5,6,7] (Zb Zc [none,none,none] ?_)
   simp only [push_cast,seval,Za,hN0,hN]
   repeat (with_reducible refine And.intro (by first | (intro h0;simp only [h0,and_self];done) | (intro h0;simp only [h0,Bool.not_false,Bool.not_true,Bool.true_and,true_and,and_true,and_self,imp_self,implies_true,ne_eq,beq_iff_eq];done) | (intros;simp_all;done) | exact True.intro) ?_)
   obtain ⟨z9,hz9,hs0_⟩:=bC hs0_
   refine Yr (E':=⟨132,[],[(1,.val (.int .i64 a1)),(2,.ref n 0),(5,.val (.int .i64 s0_)),(131,.val (.bool z9))]⟩) (O':=(Z3 O n [some ⟨false,29,3,1,(Zn a0)⟩,none])) (n0:=(n+2)) ?_ ?_
   ·rcases Bool.eq_false_or_eq_true ((cond (decide (2≤a0.Kind)) (decide (a0.Kind≤7)) false) != (x2.Kind == 10)) with Gj | Gj
    ·replace hz9:=Zw Gj hz9
     refine Y8 Zc (by kernel_rfl) (Zqj (Z0v [])) (by kernel_rfl) ?_
     simp only [push_cast,seval,Za,Gj,hN0,hN]
     repeat (with_reducible refine And.intro (by first | (intro h0;simp only [h0,and_self];done) | (intro h0;simp only [h0,Bool.not_false,Bool.not_true,Bool.true_and,true_and,and_true,and_self,imp_self,implies_true,ne_eq,beq_iff_eq];done) | (intros;simp_all;done) | exact True.intro) ?_)
     have hz9:=Option.some.inj hz9;subst hz9
     refine And.intro rfl (Fit2.of (Zm hU rfl rfl ?_) (by omega))
     simp only [push_cast,seval,Za,Gj,hN0,hN]
    replace hz9:=Zv Gj hz9
    rcases Bool.eq_false_or_eq_true (a0.Kind == 9) with c19 | c19
    ·replace hz9:=Zw c19 hz9
     try rw [c19] at Gj
     try simp only [Bool.cond_true,Bool.cond_false,Bool.true_bne,Bool.false_bne,Bool.not_eq_true',Bool.not_eq_false'] at Gj
     rcases Bool.eq_false_or_eq_true (x2.Kind != 1) with c20 | c20
     ·replace hz9:=Zw c20 hz9
      try rw [c20] at Gj
      try rw [c20] at c19
      try simp only [Bool.cond_true,Bool.cond_false,Bool.true_bne,Bool.false_bne,Bool.not_eq_true',Bool.not_eq_false'] at Gj
      refine Y8 Zc (by kernel_rfl) (Zqj (Z0v [])) (by kernel_rfl) ?_
      simp only [push_cast,seval,Za,Gj,c19,c20,hN0,hN]
      repeat (with_reducible refine And.intro (by first | (intro h0;simp only [h0,and_self];done) | (intro h0;simp only [h0,Bool.not_false,Bool.not_true,Bool.true_and,true_and,and_true,and_self,imp_self,implies_true,ne_eq,beq_iff_eq];done) | (intros;simp_all;done) | exact True.intro) ?_)
      have hz9:=Option.some.inj hz9;subst hz9
      refine And.intro rfl (Fit2.of (Zm hU rfl rfl ?_) (by omega))
      simp only [push_cast,seval,Za,Gj,c19,c20,hN0,hN]
     replace hz9:=Zv c20 hz9
     try rw [c20] at Gj
     try rw [c20] at c19
     try simp only [Bool.cond_true,Bool.cond_false,Bool.true_bne,Bool.false_bne,Bool.not_eq_true',Bool.not_eq_false'] at Gj
     rcases Bool.eq_false_or_eq_true (decide (2≤a0.Kind)) with c21 | c21
     ·replace hz9:=Zw c21 hz9
      try rw [c21] at Gj
      try rw [c21] at c19
      try rw [c21] at c20
      try simp only [Bool.cond_true,Bool.cond_false,Bool.true_bne,Bool.false_bne,Bool.not_eq_true',Bool.not_eq_false'] at Gj
      rcases Bool.eq_false_or_eq_true (decide (a0.Kind≤7)) with c22 | c22
      ·replace hz9:=Zw c22 hz9
       try rw [c22] at Gj
       try rw [c22] at c19
       try rw [c22] at c20
       try rw [c22] at c21
       try simp only [Bool.cond_true,Bool.cond_false,Bool.true_bne,Bool.false_bne,Bool.not_eq_true',Bool.not_eq_false'] at Gj
       obtain ⟨x14,hx14,ax14,bx14,cx14,hz9⟩:=bE (f:=(eI .u64)) Ug (fun _=>rfl) (by decide) hz9
       obtain ⟨y15,hy15,hz9⟩:=bC hz9
       refine Y8 Zc (by kernel_rfl) (Zqj (Z4i [])) (by kernel_rfl) ?_
       simp only [push_cast,Nat.reduceAdd,Nat.reduceSub,Nat.reduceMul,Nat.reduceLeDiff,Nat.reduceLT,Nat.reduceEqDiff,↓reduceIte,reduceCtorEq,Int.reduceBEq,Int.reduceBNe,Nat.reduceBEq,Int.reduceLE,Int.reduceLT,Int.reduceEq,Int.reduceNe,Int.reduceNeg,Nat.reduceDiv,Nat.reduceMod,Nat.reducePow,Za,Gj,c19,c20,c21,c22,ax14,bx14,cx14,hN0,hN]
       repeat (with_reducible refine And.intro (by first | (intro h0;simp only [h0,and_self];done) | (intro h0;simp only [h0,Bool.not_false,Bool.not_true,Bool.true_and,true_and,and_true,and_self,imp_self,implies_true,ne_eq,beq_iff_eq];done) | (intros;simp_all;done) | exact True.intro) ?_)
       refine PCall.of (Za4 hy15) ?_
       simp only [push_cast,Nat.reduceAdd,Nat.reduceSub,Nat.reduceMul,Nat.reduceLeDiff,Nat.reduceLT,Nat.reduceEqDiff,↓reduceIte,reduceCtorEq,Int.reduceBEq,Int.reduceBNe,Nat.reduceBEq,Int.reduceLE,Int.reduceLT,Int.reduceEq,Int.reduceNe,Int.reduceNeg,Nat.reduceDiv,Nat.reduceMod,Nat.reducePow,Za,Gj,c19,c20,c21,c22,ax14,bx14,cx14,hN0,hN]
       repeat (with_reducible refine And.intro (by first | (intro h0;simp only [h0,and_self];done) | (intro h0;simp only [h0,Bool.not_false,Bool.not_true,Bool.true_and,true_and,and_true,and_self,imp_self,implies_true,ne_eq,beq_iff_eq];done) | (intros;simp_all;done) | exact True.intro) ?_)
       have hz9:=Option.some.inj hz9;subst hz9
       refine And.intro rfl (Fit2.of (Zm hU rfl rfl ?_) (by omega))
       simp only [push_cast,Nat.reduceAdd,Nat.reduceSub,Nat.reduceMul,Nat.reduceLeDiff,Nat.reduceLT,Nat.reduceEqDiff,↓reduceIte,reduceCtorEq,Int.reduceBEq,Int.reduceBNe,Nat.reduceBEq,Int.reduceLE,Int.reduceLT,Int.reduceEq,Int.reduceNe,Int.reduceNeg,Nat.reduceDiv,Nat.reduceMod,Nat.reducePow,Za,Gj,c19,c20,c21,c22,ax14,bx14,cx14,hN0,hN]
      replace hz9:=Zv c22 hz9
      try rw [c22] at Gj
      try rw [c22] at c19
      try rw [c22] at c20
      try rw [c22] at c21
      try simp only [Bool.cond_true,Bool.cond_false,Bool.true_bne,Bool.false_bne,Bool.not_eq_true',Bool.not_eq_false'] at Gj
      refine Y8 Zc (by kernel_rfl) (Zqj (Qc::Qc::Ybj [Qc])) (by kernel_rfl) ?_
      simp only [push_cast,seval,Za,Gj,c19,c20,c21,c22,hN0,hN]
      repeat (with_reducible refine And.intro (by first | (intro h0;simp only [h0,and_self];done) | (intro h0;simp only [h0,Bool.not_false,Bool.not_true,Bool.true_and,true_and,and_true,and_self,imp_self,implies_true,ne_eq,beq_iff_eq];done) | (intros;simp_all;done) | exact True.intro) ?_)
      have hz9:=Option.some.inj hz9;subst hz9
      refine And.intro rfl (Fit2.of (Zm hU rfl rfl ?_) (by omega))
      simp only [push_cast,seval,Za,Gj,c19,c20,c21,c22,hN0,hN]
     replace hz9:=Zv c21 hz9
     try rw [c21] at Gj
     try rw [c21] at c19
     try rw [c21] at c20
     try simp only [Bool.cond_true,Bool.cond_false,Bool.true_bne,Bool.false_bne,Bool.not_eq_true',Bool.not_eq_false'] at Gj
     refine Y8 Zc (by kernel_rfl) (Zqj (Qc::Qc::Ybj [Qc])) (by kernel_rfl) ?_
     simp only [push_cast,seval,Za,Gj,c19,c20,c21,hN0,hN]
     repeat (with_reducible refine And.intro (by first | (intro h0;simp only [h0,and_self];done) | (intro h0;simp only [h0,Bool.not_false,Bool.not_true,Bool.true_and,true_and,and_true,and_self,imp_self,implies_true,ne_eq,beq_iff_eq];done) | (intros;simp_all;done) | exact True.intro) ?_)
     have hz9:=Option.some.inj hz9;subst hz9
     refine And.intro rfl (Fit2.of (Zm hU rfl rfl ?_) (by omega))
     simp only [push_cast,seval,Za,Gj,c19,c20,c21,hN0,hN]
    replace hz9:=Zv c19 hz9
    try rw [c19] at Gj
    try simp only [Bool.cond_true,Bool.cond_false,Bool.true_bne,Bool.false_bne,Bool.not_eq_true',Bool.not_eq_false'] at Gj
    rcases Bool.eq_false_or_eq_true (decide (2≤a0.Kind)) with c23 | c23
    ·replace hz9:=Zw c23 hz9
     try rw [c23] at Gj
     try rw [c23] at c19
     try simp only [Bool.cond_true,Bool.cond_false,Bool.true_bne,Bool.false_bne,Bool.not_eq_true',Bool.not_eq_false'] at Gj
     rcases Bool.eq_false_or_eq_true (decide (a0.Kind≤7)) with c24 | c24
     ·replace hz9:=Zw c24 hz9
      try rw [c24] at Gj
      try rw [c24] at c19
      try rw [c24] at c23
      try simp only [Bool.cond_true,Bool.cond_false,Bool.true_bne,Bool.false_bne,Bool.not_eq_true',Bool.not_eq_false'] at Gj
      obtain ⟨x16,hx16,ax16,bx16,cx16,hz9⟩:=bE (f:=(eI .u64)) Ug (fun _=>rfl) (by decide) hz9
      obtain ⟨y17,hy17,hz9⟩:=bC hz9
      refine Y8 Zc (by kernel_rfl) (Zqj (Z4i [])) (by kernel_rfl) ?_
      simp only [push_cast,Nat.reduceAdd,Nat.reduceSub,Nat.reduceMul,Nat.reduceLeDiff,Nat.reduceLT,Nat.reduceEqDiff,↓reduceIte,reduceCtorEq,Int.reduceBEq,Int.reduceBNe,Nat.reduceBEq,Int.reduceLE,Int.reduceLT,Int.reduceEq,Int.reduceNe,Int.reduceNeg,Nat.reduceDiv,Nat.reduceMod,Nat.reducePow,Za,Gj,c19,c23,c24,ax16,bx16,cx16,hN0,hN]
      repeat (with_reducible refine And.intro (by first | (intro h0;simp only [h0,and_self];done) | (intro h0;simp only [h0,Bool.not_false,Bool.not_true,Bool.true_and,true_and,and_true,and_self,imp_self,implies_true,ne_eq,beq_iff_eq];done) | (intros;simp_all;done) | exact True.intro) ?_)
      refine PCall.of (Za4 hy17) ?_
      simp only [push_cast,Nat.reduceAdd,Nat.reduceSub,Nat.reduceMul,Nat.reduceLeDiff,Nat.reduceLT,Nat.reduceEqDiff,↓reduceIte,reduceCtorEq,Int.reduceBEq,Int.reduceBNe,Nat.reduceBEq,Int.reduceLE,Int.reduceLT,Int.reduceEq,Int.reduceNe,Int.reduceNeg,Nat.reduceDiv,Nat.reduceMod,Nat.reducePow,Za,Gj,c19,c23,c24,ax16,bx16,cx16,hN0,hN]
      repeat (with_reducible refine And.intro (by first | (intro h0;simp only [h0,and_self];done) | (intro h0;simp only [h0,Bool.not_false,Bool.not_true,Bool.true_and,true_and,and_true,and_self,imp_self,implies_true,ne_eq,beq_iff_eq];done) | (intros;simp_all;done) | exact True.intro) ?_)
      have hz9:=Option.some.inj hz9;subst hz9
      refine And.intro rfl (Fit2.of (Zm hU rfl rfl ?_) (by omega))
      simp only [push_cast,Nat.reduceAdd,Nat.reduceSub,Nat.reduceMul,Nat.reduceLeDiff,Nat.reduceLT,Nat.reduceEqDiff,↓reduceIte,reduceCtorEq,Int.reduceBEq,Int.reduceBNe,Nat.reduceBEq,Int.reduceLE,Int.reduceLT,Int.reduceEq,Int.reduceNe,Int.reduceNeg,Nat.reduceDiv,Nat.reduceMod,Nat.reducePow,Za,Gj,c19,c23,c24,ax16,bx16,cx16,hN0,hN]
     replace hz9:=Zv c24 hz9
     try rw [c24] at Gj
     try rw [c24] at c19
     try rw [c24] at c23
     try simp only [Bool.cond_true,Bool.cond_false,Bool.true_bne,Bool.false_bne,Bool.not_eq_true',Bool.not_eq_false'] at Gj
     refine Y8 Zc (by kernel_rfl) (Zqj (Qc::Qc::Ybj [Qc])) (by kernel_rfl) ?_
     simp only [push_cast,seval,Za,Gj,c19,c23,c24,hN0,hN]
     repeat (with_reducible refine And.intro (by first | (intro h0;simp only [h0,and_self];done) | (intro h0;simp only [h0,Bool.not_false,Bool.not_true,Bool.true_and,true_and,and_true,and_self,imp_self,implies_true,ne_eq,beq_iff_eq];done) | (intros;simp_all;done) | exact True.intro) ?_)
     have hz9:=Option.some.inj hz9;subst hz9
     refine And.intro rfl (Fit2.of (Zm hU rfl rfl ?_) (by omega))
     simp only [push_cast,seval,Za,Gj,c19,c23,c24,hN0,hN]
    replace hz9:=Zv c23 hz9
    try rw [c23] at Gj
    try rw [c23] at c19
    try simp only [Bool.cond_true,Bool.cond_false,Bool.true_bne,Bool.false_bne,Bool.not_eq_true',Bool.not_eq_false'] at Gj
    refine Y8 Zc (by kernel_rfl) (Zqj (Qc::Qc::Ybj [Qc])) (by kernel_rfl) ?_
    simp only [push_cast,seval,Za,Gj,c19,c23,hN0,hN]
    repeat (with_reducible refine And.intro (by first | (intro h0;simp only [h0,and_self];done) | (intro h0;simp only [h0,Bool.not_false,Bool.not_true,Bool.true_and,true_and,and_true,and_self,imp_self,implies_true,ne_eq,beq_iff_eq];done) | (intros;simp_all;done) | exact True.intro) ?_)
    have hz9:=Option.some.inj hz9;subst hz9
    refine And.intro rfl (Fit2.of (Zm hU rfl rfl ?_) (by omega))
    simp only [push_cast,seval,Za,Gj,c19,c23,hN0,hN]
   refine Zo (t:=z9) rfl (fun c25 => ?_) (fun c25 => ?_)
   ·replace hs0_:=Zw c25 hs0_
    refine Zk [4] (Zb Zc [] ?_)
    simp only [push_cast,seval,Za,hN0,hN]
    refine Zu ?_
    try simp only [Zh,Ze]
    have hs0_:=Option.some.inj hs0_;subst hs0_
    refine And.intro (fun h=>by cases h) (And.intro rfl (Fit2.of (Zm hU rfl rfl ?_) (by omega)))
    simp only [push_cast,seval,Za,hN0,hN]
   replace hs0_:=Zv c25 hs0_
   refine Zt ?_
   try simp only [Zh,Ze]
   refine Zg [1,2,5] [true,false] ?_
   simp only [push_cast,seval]
   refine Zb Zc [] ?_
   simp only [push_cast,seval,Za,hN0,hN]
   have hs0_:=Option.some.inj hs0_;subst hs0_
   refine And.intro rfl (Fit2.of (Zm hU rfl rfl ?_) (by omega))
   simp only [push_cast,seval,Za,hN0,hN]
  replace hs0_:=Zv c27 hs0_
  refine Q7 ?_
  try simp only [Zh,Ze,↓reduceIte,Nat.reduceEqDiff]
  have hs0_:=Option.some.inj hs0_;subst hs0_
  refine And.intro (fun h=>by cases h) (And.intro rfl (Fit2.of (Zm hU rfl rfl ?_) (by omega)))
  simp only [push_cast,seval,Za,hN0,hN]
 rcases z28 with z28 | z28
 ·dsimp only [Gh] at hw h
  refine Zea hw ?_
  try simp only [Zh,Ze,↓reduceIte,Nat.reduceEqDiff]
  have h:=Option.some.inj h;subst h
  refine Zl (.inr rfl) hU [.val (.bool false)] (by omega) ?_
  simp only [push_cast,seval,Za,Tryz.results15,hN0,hN]
 dsimp only [Gh] at hw h
 refine Xx hw ?_
 try simp only [Zh,Ze,↓reduceIte,Nat.reduceEqDiff]
 refine Zg [] [false] ?_
 simp only [push_cast,seval]
 refine Zk [4] (Zb Zc [] ?_)
 simp only [push_cast,seval,Za,hN0,hN]
 refine Zu ?_
 try simp only [Zh,Ze]
 have h:=Option.some.inj h;subst h
 refine Zl (.inr rfl) hU [.val (.bool true)] (by omega) ?_
 simp only [push_cast,seval,Za,Tryz.results15,hN0,hN]
theorem Zib:∀ k,(∀ {a0:Zj} {a1:Int} {r:Bool} {O:Objs} {n:Nat},(Qz k) a0 a1=some r→GTo Tryz.prog 15 [.agg (Zn a0),.val (.int .i64 a1)] O n (.val (.bool r)) O n):=fun k=>by
 induction k with
 | zero=>exact @fun a0 a1 r O n h=>(nomatch (show (none:Option _)=some _ from h))
 | succ k ih=>exact @fun a0 a1 r O n h=>Zjn (ih)  h
theorem Zap {a0:Zj} {a1:Int} {r:Bool} {O:Objs} {n:Nat} (h:Za2 a0 a1=some r):GTo Tryz.prog 15 [.agg (Zn a0),.val (.int .i64 a1)] O n (.val (.bool r)) O n:=by
 obtain ⟨k,hk⟩:=Zjd h
 exact (Zib k)  hk
theorem Zn7 {a0:(List Int)} {r:(List Int)} {O:Objs} {n:Nat} (h:Vz a0=some r):GTo Tryz.prog 39 [.sl a0.length (fl (eI .u64) a0)] O n (.sl r.length (fl (eI .u64) r)) O n:=by
 unfold Vz at h
 refine Ye Zc Tryz.call39 Tryz.func39 rfl (Nat.le_of_ble_eq_true rfl) (Nat.le_refl _) fun hU => ?_
 have hN0:O n=none:=hU.fresh _ (Nat.le_refl _)
 have hN:∀ k,O (n+k)=none:=fun k=>hU.fresh _ (Nat.le_add_right _ _)
 show W _ _ _ _ ⟨24,[],[(0,.sl a0.length (fl (eI .u64) a0))]⟩ (Z3 O n []) _
 refine Zk [0] (Zb Zc [] ?_)
 simp only [push_cast,seval,Za,hN0,hN]
 refine Zk [0,3] (Zb Zc [] ?_)
 simp only [push_cast,seval,Za,hN0,hN]
 refine Zf ?_
 refine Zg [0,3] [] ?_
 simp only [push_cast,seval]
 obtain ⟨z7,hz7,h⟩:=bC h
 refine Xx (E':=⟨24,[],[(0,.sl a0.length (fl (eI .u64) a0)),(3,.val (.int .i64 z7))]⟩) (O':=(Z3 O n [])) (n0:=n) ?_ ?_
 ·refine Qt hz7 (fun s0_=>⟨24,[],[(0,.sl a0.length (fl (eI .u64) a0)),(3,.val (.int .i64 s0_))]⟩) (fun s0_=>(Z3 O n [])) (fun z7=>JX 0 n (⟨24,[],[(0,.sl a0.length (fl (eI .u64) a0)),(3,.val (.int .i64 z7))]⟩:Env) (Z3 O n []) n) ?_
  intro s0_ x0_ hs0_
  unfold Kg at hs0_
  try dsimp only
  refine Zf ?_
  obtain ⟨z2,hz2,hs0_⟩:=bC hs0_
  refine Yr (E':=⟨24,[],[(0,.sl a0.length (fl (eI .u64) a0)),(3,.val (.int .i64 s0_)),(16,.val (.bool z2))]⟩) (O':=(Z3 O n [])) (n0:=n) ?_ ?_
  ·rcases Bool.eq_false_or_eq_true (decide (0 < s0_)) with c5 | c5
   ·replace hz2:=Zw c5 hz2
    obtain ⟨x4,hx4,ax4,bx4,cx4,hz2⟩:=bE (f:=(eI .u64)) Ug (fun _=>rfl) (by decide) hz2
    refine Zb Zc (Yfu []) ?_
    simp only [push_cast,Nat.reduceAdd,Nat.reduceSub,Nat.reduceMul,Nat.reduceLeDiff,Nat.reduceLT,Nat.reduceEqDiff,↓reduceIte,reduceCtorEq,Int.reduceBEq,Int.reduceBNe,Nat.reduceBEq,Int.reduceLE,Int.reduceLT,Int.reduceEq,Int.reduceNe,Int.reduceNeg,Nat.reduceDiv,Nat.reduceMod,Nat.reducePow,Za,c5,ax4,bx4,cx4,hN0,hN]
    have hz2:=Option.some.inj hz2;subst hz2
    refine And.intro rfl (Fit2.of (Zm hU rfl rfl ?_) (by omega))
    simp only [push_cast,Nat.reduceAdd,Nat.reduceSub,Nat.reduceMul,Nat.reduceLeDiff,Nat.reduceLT,Nat.reduceEqDiff,↓reduceIte,reduceCtorEq,Int.reduceBEq,Int.reduceBNe,Nat.reduceBEq,Int.reduceLE,Int.reduceLT,Int.reduceEq,Int.reduceNe,Int.reduceNeg,Nat.reduceDiv,Nat.reduceMod,Nat.reducePow,Za,c5,ax4,bx4,cx4,hN0,hN]
   replace hz2:=Zv c5 hz2
   refine Zb Zc (Ybi []) ?_
   simp only [push_cast,seval,Za,c5,hN0,hN]
   have hz2:=Option.some.inj hz2;subst hz2
   refine And.intro rfl (Fit2.of (Zm hU rfl rfl ?_) (by omega))
   simp only [push_cast,seval,Za,c5,hN0,hN]
  refine Zo (t:=z2) rfl (fun c6 => ?_) (fun c6 => ?_)
  ·replace hs0_:=Zw c6 hs0_
   refine Zt ?_
   try simp only [Zh,Ze]
   refine Zg [0,3] [] ?_
   simp only [push_cast,seval]
   refine Yo ?_
   refine Zb Zc [] ?_
   simp only [push_cast,seval,Za,hN0,hN]
   have hs0_:=Option.some.inj hs0_;subst hs0_
   refine And.intro rfl (Fit2.of (Zm hU rfl rfl ?_) (by omega))
   simp only [push_cast,seval,Za,hN0,hN]
  replace hs0_:=Zv c6 hs0_
  refine Q7 ?_
  try simp only [Zh,Ze,↓reduceIte,Nat.reduceEqDiff]
  have hs0_:=Option.some.inj hs0_;subst hs0_
  refine And.intro (fun h=>by cases h) (And.intro rfl (Fit2.of (Zm hU rfl rfl ?_) (by omega)))
  simp only [push_cast,seval,Za,hN0,hN]
 try simp only [Zh,Ze,↓reduceIte,Nat.reduceEqDiff]
 refine Zg [0,3] [] ?_
 simp only [push_cast,seval]
 refine Zk [0,3,4] (Zb Zc [] ?_)
 simp only [push_cast,seval,Za,hN0,hN]
 refine Zf ?_
 obtain ⟨l10,al10,bl10,cl10,gl10,h⟩:=bS (lo:=none) (hi:=(some (.i64,z7))) (f:=(eI .u64)) rfl rfl Zcz Ug (fun _=>rfl) h
 obtain ⟨l11,pl11,ql11,el11,h⟩:=bA0 (k:=l10.length) rfl h
 refine Zb Zc [] ?_
 simp only [push_cast,seval,Za,al10,bl10,cl10,gl10,pl11,ql11,el11,hN0,hN]
 refine Za8 ⟨24,[],[(2,.row n l11.length)]⟩ (Z3 O n [some ⟨true,49,1,l11.length,fl (eI .u64) l11⟩]) (Zm hU rfl rfl ?_) ?_
 ·simp only [push_cast,seval,Za,al10,bl10,cl10,gl10,pl11,ql11,el11,hN0,hN]
 refine Zu ?_
 try simp only [Zh,Ze]
 have h:=Option.some.inj h;subst h
 refine Zl (.inr rfl) hU [.row n l11.length] (by omega) ?_
 simp only [push_cast,seval,Za,Tryz.results39,hN0,hN]
theorem Zm8 {Ko:(Zj→Option Zj)} (Zjl:∀ {a0:Zj} {r:Zj} {O:Objs} {n:Nat},Ko a0=some r→GTo Tryz.prog 19 [.agg (Zn a0)] O n (.agg (Zn r)) O n) {a0:Zj} {r:Zj} {O:Objs} {n:Nat} (h:Vt Ko a0=some r):GTo Tryz.prog 19 [.agg (Zn a0)] O n (.agg (Zn r)) O n:=by
 unfold Vt at h
 refine Ye Zc Tryz.call19 Tryz.func19 rfl (Nat.le_of_ble_eq_true rfl) (Nat.le_refl _) fun hU => ?_
 have hN0:O n=none:=hU.fresh _ (Nat.le_refl _)
 have hN:∀ k,O (n+k)=none:=fun k=>hU.fresh _ (Nat.le_add_right _ _)
 show W _ _ _ _ ⟨53,[],[(0,.agg (Zn a0))]⟩ (Z3 O n []) _
 refine Zk [1,2] (Zb Zc [] ?_)
 simp only [push_cast,seval,Za,hN0,hN]
 refine Zf ?_
 refine Zk [1,2,10] (Zb Zc [] ?_)
 simp only [push_cast,seval,Za,hN0,hN]
 refine Zo (t:=(a0.Kind == 0)) rfl (fun c19 => ?_) (fun c19 => ?_)
 ·replace h:=Zw c19 h
  refine Zf ?_
  refine Zb Zc [] ?_
  simp only [push_cast,seval,Za,hN0,hN]
  refine Zg [2] [false,true] ?_
  simp only [push_cast,seval]
  refine Zu ?_
  try simp only [Zh,Ze]
  have h:=Option.some.inj h;subst h
  refine Zl (.inr rfl) hU [.agg [.val (.int .i64 0),.val (.slice none 0 0),.val (.slice none 0 0)]] (by omega) ?_
  simp only [push_cast,seval,Za,Tryz.results19,hN0,hN]
 replace h:=Zv c19 h
 refine Zt ?_
 try simp only [Zh,Ze]
 refine Zg [1,2] [true,true] ?_
 simp only [push_cast,seval]
 refine Zk [1,2,3] (Zb Zc [] ?_)
 simp only [push_cast,seval,Za,hN0,hN]
 refine Zk [1,2,3,4] (Zb Zc [] ?_)
 simp only [push_cast,seval,Za,hN0,hN]
 refine Zf ?_
 refine Zk [1,2,3,4,5] (Zb Zc [] ?_)
 simp only [push_cast,seval,Za,hN0,hN]
 refine Zg [1,2,3,4,5] [true,true] ?_
 simp only [push_cast,seval]
 refine Zh5 (E':=(⟨53,[],[(1,.ref n 0),(2,.ref (n+1) 0),(3,.row (n+2) ([]:List Zj).length),(4,.val (.int .i64 0)),(5,.val (.int .i64 0))]⟩:Env)) (O':=(Z3 O n [some ⟨false,29,3,1,(Zn a0)⟩,some ⟨false,29,3,1,[.val (.int .i64 0),.val (.slice none 0 0),.val (.slice none 0 0)]⟩,some ⟨true,29,3,([]:List Zj).length,fl Zr ([]:List Zj)⟩,none])) (n':=(n+4)) ?_ ?_
 ·refine Fit2.trans (E':=(⟨53,[],[(1,.ref n 0),(2,.ref (n+1) 0),(3,.val (.slice none 0 0)),(4,.val (.int .i64 0)),(5,.val (.int .i64 0))]⟩:Env)) (O':=(Z3 O n [some ⟨false,29,3,1,(Zn a0)⟩,some ⟨false,29,3,1,[.val (.int .i64 0),.val (.slice none 0 0),.val (.slice none 0 0)]⟩])) (n':=(n+2)) (Fit2.of (Zm hU rfl rfl ?_) (by omega)) ?_
  ·simp only [push_cast,seval,Za,hN0,hN]
  refine Fit2.trans (Zj7 3 29 3 rfl (by omega)) ?_
  simp only [Gn,K2,Zbm,List.set_cons_zero,List.set_cons_succ,List.cons_append,List.nil_append,List.length_cons,List.length_nil,Nat.zero_add,Nat.reduceAdd,Nat.reduceLT,Nat.add_assoc]
  refine Fit2.trans (E':=(⟨53,[],[(1,.ref n 0),(2,.ref (n+1) 0),(3,.row (n+2) ([]:List Zj).length),(4,.val (.int .i64 0)),(5,.val (.int .i64 0))]⟩:Env)) (O':=(Z3 O n [some ⟨false,29,3,1,(Zn a0)⟩,some ⟨false,29,3,1,[.val (.int .i64 0),.val (.slice none 0 0),.val (.slice none 0 0)]⟩,some ⟨true,29,3,([]:List Zj).length,fl Zr ([]:List Zj)⟩])) (n':=(n+3)) (Fit2.of (Zm hU rfl rfl ?_) (by omega)) ?_
  ·simp only [push_cast,seval,Za,hN0,hN]
  refine Zil (k:=3) (k':=4) hU [0,1,2] [0,1,2,0] rfl rfl rfl rfl ⟨rfl,rfl⟩ ?_
  simp only [push_cast,seval,Za,hN0,hN]
 obtain ⟨z10,hz10,h⟩:=bC h
 refine Xx (E':=⟨53,[],[(1,.ref n 0),(2,.ref (n+1) 0),(3,.row (n+2) z10.2.length),(4,.val (.int .i64 z10.1))]⟩) (O':=(Z3 O n [some ⟨false,29,3,1,(Zn a0)⟩,some ⟨false,29,3,1,[.val (.int .i64 0),.val (.slice none 0 0),.val (.slice none 0 0)]⟩,some ⟨true,29,3,z10.2.length,fl Zr z10.2⟩,none])) (n0:=(n+4)) ?_ ?_
 ·refine Qt hz10 (fun s0_=>⟨53,[],[(1,.ref n 0),(2,.ref (n+1) 0),(3,.row (n+2) s0_.2.2.length),(4,.val (.int .i64 s0_.1)),(5,.val (.int .i64 s0_.2.1))]⟩) (fun s0_=>(Z3 O n [some ⟨false,29,3,1,(Zn a0)⟩,some ⟨false,29,3,1,[.val (.int .i64 0),.val (.slice none 0 0),.val (.slice none 0 0)]⟩,some ⟨true,29,3,s0_.2.2.length,fl Zr s0_.2.2⟩,none])) (fun z10=>JX 0 n (⟨53,[],[(1,.ref n 0),(2,.ref (n+1) 0),(3,.row (n+2) z10.2.length),(4,.val (.int .i64 z10.1))]⟩:Env) (Z3 O n [some ⟨false,29,3,1,(Zn a0)⟩,some ⟨false,29,3,1,[.val (.int .i64 0),.val (.slice none 0 0),.val (.slice none 0 0)]⟩,some ⟨true,29,3,z10.2.length,fl Zr z10.2⟩,none]) (n+4)) ?_
  intro s0_ x0_ hs0_
  unfold Qn at hs0_
  try dsimp only
  refine Zf ?_
  refine Zk [1,2,3,4,5,16] (Zb Zc [] ?_)
  simp only [push_cast,seval,Za,hN0,hN]
  refine Zo (t:=(decide (s0_.2.1 < (a0.Kids.length:Int)))) rfl (fun c9 => ?_) (fun c9 => ?_)
  ·replace hs0_:=Zw c9 hs0_
   refine Zt ?_
   try simp only [Zh,Ze]
   refine Zg [1,2,3,4,5] [true,true,true,false] ?_
   simp only [push_cast,seval]
   obtain ⟨z1,hz1,hs0_⟩:=bC hs0_
   refine Yr (E':=⟨53,[],[(1,.ref n 0),(2,.ref (n+1) 0),(3,.row (n+2) z1.2.length),(4,.val (.int .i64 z1.1)),(5,.val (.int .i64 s0_.2.1))]⟩) (O':=(Z3 O n [some ⟨false,29,3,1,(Zn a0)⟩,some ⟨false,29,3,1,[.val (.int .i64 0),.val (.slice none 0 0),.val (.slice none 0 0)]⟩,some ⟨true,29,3,z1.2.length,fl Zr z1.2⟩,none,none,none])) (n0:=(n+6)) ?_ ?_
   ·refine Yo ?_
    refine Zf ?_
    obtain ⟨x4,hx4,ax4,bx4,cx4,hz1⟩:=bE (f:=Zr) Zdb (fun _=>rfl) (by decide) hz1
    obtain ⟨y5,hy5,hz1⟩:=bC hz1
    refine Zb Zc [] ?_
    simp only [push_cast,Nat.reduceAdd,Nat.reduceSub,Nat.reduceMul,Nat.reduceLeDiff,Nat.reduceLT,Nat.reduceEqDiff,↓reduceIte,reduceCtorEq,Int.reduceBEq,Int.reduceBNe,Nat.reduceBEq,Int.reduceLE,Int.reduceLT,Int.reduceEq,Int.reduceNe,Int.reduceNeg,Nat.reduceDiv,Nat.reduceMod,Nat.reducePow,Za,ax4,bx4,cx4,hN0,hN]
    refine (Zjl hy5).then ?_
    simp only [push_cast,Nat.reduceAdd,Nat.reduceSub,Nat.reduceMul,Nat.reduceLeDiff,Nat.reduceLT,Nat.reduceEqDiff,↓reduceIte,reduceCtorEq,Int.reduceBEq,Int.reduceBNe,Nat.reduceBEq,Int.reduceLE,Int.reduceLT,Int.reduceEq,Int.reduceNe,Int.reduceNeg,Nat.reduceDiv,Nat.reduceMod,Nat.reducePow,Za,ax4,bx4,cx4,hN0,hN]
    refine Zg [1,2,3,4,5,6] [true,true,true,false,true] ?_
    simp only [push_cast,seval]
    refine Zf ?_
    obtain ⟨l7,pl7,ql7,el7,hz1⟩:=bA (k:=1) rfl hz1
    refine Zb Zc [] ?_
    simp only [push_cast,seval,Za,pl7,ql7,el7,hN0,hN]
    refine Za8 ⟨53,[],[(1,.ref n 0),(2,.ref (n+1) 0),(3,.row (n+2) l7.length),(4,.val (.int .i64 s0_.1)),(5,.val (.int .i64 s0_.2.1)),(6,.ref (n+4) 0)]⟩ (Z3 O n [some ⟨false,29,3,1,(Zn a0)⟩,some ⟨false,29,3,1,[.val (.int .i64 0),.val (.slice none 0 0),.val (.slice none 0 0)]⟩,some ⟨true,29,3,l7.length,fl Zr l7⟩,none,some ⟨false,29,3,1,(Zn y5)⟩,none]) (Zm hU rfl rfl ?_) ?_
    ·simp only [push_cast,seval,Za,pl7,ql7,el7,hN0,hN]
    refine Zk [1,2,3,4,5,31] (Zb Zc [] ?_)
    simp only [push_cast,seval,Za,hN0,hN]
    refine Zo (t:=(y5.Kind != 0)) rfl (fun c8 => ?_) (fun c8 => ?_)
    ·replace hz1:=Zw c8 hz1
     refine Zb Zc [] ?_
     simp only [push_cast,seval,Za,hN0,hN]
     have hz1:=Option.some.inj hz1;subst hz1
     refine And.intro rfl (Fit2.of (Zm hU rfl rfl ?_) (by omega))
     simp only [push_cast,seval,Za,hN0,hN]
    replace hz1:=Zv c8 hz1
    refine Zt ?_
    try simp only [Zh,Ze]
    have hz1:=Option.some.inj hz1;subst hz1
    refine And.intro rfl (Fit2.of (Zm hU rfl rfl ?_) (by omega))
    simp only [push_cast,seval,Za,hN0,hN]
   refine Zb Zc [] ?_
   simp only [push_cast,seval,Za,hN0,hN]
   have hs0_:=Option.some.inj hs0_;subst hs0_
   refine And.intro rfl (Fit2.of (Zm hU rfl rfl ?_) (by omega))
   simp only [push_cast,seval,Za,hN0,hN]
  replace hs0_:=Zv c9 hs0_
  refine Q7 ?_
  try simp only [Zh,Ze,↓reduceIte,Nat.reduceEqDiff]
  have hs0_:=Option.some.inj hs0_;subst hs0_
  refine And.intro (fun h=>by cases h) (And.intro rfl (Fit2.of (Zm hU rfl rfl ?_) (by omega)))
  simp only [push_cast,seval,Za,hN0,hN]
 try simp only [Zh,Ze,↓reduceIte,Nat.reduceEqDiff]
 refine Zg [1,2,3,4] [true,true,true,false] ?_
 simp only [push_cast,seval]
 refine Zf ?_
 refine Zk [1,2,3,4,36] (Zb Zc [] ?_)
 simp only [push_cast,seval,Za,hN0,hN]
 refine Zo (t:=(a0.Kind == 1)) rfl (fun Gj => ?_) (fun Gj => ?_)
 ·replace h:=Zw Gj h
  refine Za8 ⟨53,[],[(1,.ref n 0),(2,.ref (n+1) 0),(3,.sl z10.2.length (fl Zr z10.2)),(4,.val (.int .i64 z10.1))]⟩ (Z3 O n [some ⟨false,29,3,1,(Zn a0)⟩,some ⟨false,29,3,1,[.val (.int .i64 0),.val (.slice none 0 0),.val (.slice none 0 0)]⟩,none,none]) (Zm hU rfl rfl ?_) ?_
  ·simp only [push_cast,seval,Za,hN0,hN]
  refine Zf ?_
  obtain ⟨y14,hy14,h⟩:=bC h
  obtain ⟨l15,al15,bl15,cl15,gl15,h⟩:=bS (lo:=none) (hi:=(some (.i64,z10.1))) (f:=Zr) rfl rfl Zir Zdb (fun _=>rfl) h
  refine Zst Zc (by kernel_rfl) [false,false,false,false,false,false,false,true] [] (by kernel_rfl) ?_
  simp only [push_cast,seval,Za,al15,bl15,cl15,gl15,hN0,hN]
  refine PCall.of (Zn7 hy14) ?_
  simp only [push_cast,seval,Za,al15,bl15,cl15,gl15,hN0,hN]
  refine Zg [2] [false,true,false,false] ?_
  simp only [push_cast,seval]
  refine Zu ?_
  try simp only [Zh,Ze]
  have h:=Option.some.inj h;subst h
  refine Zl (.inr rfl) hU [.agg [.val (.int .i64 1),.sl y14.length (fl (eI .u64) y14),.sl l15.length (fl Zr l15)]] (by omega) ?_
  simp only [push_cast,seval,Za,Tryz.results19,hN0,hN]
 replace h:=Zv Gj h
 refine Zt ?_
 try simp only [Zh,Ze]
 refine Zg [1,2,3] [true,true,true,false] ?_
 simp only [push_cast,seval]
 refine Zk [1,2,3,7] (Zb Zc [] ?_)
 simp only [push_cast,seval,Za,hN0,hN]
 refine Zf ?_
 obtain ⟨l17,pl17,ql17,el17,h⟩:=bA0 (k:=a0.Words.length) rfl h
 refine Zb Zc [] ?_
 simp only [push_cast,seval,Za,pl17,ql17,el17,hN0,hN]
 refine Za8 ⟨53,[],[(1,.ref n 0),(2,.ref (n+1) 0),(3,.row (n+2) z10.2.length),(7,.row (n+4) l17.length)]⟩ (Z3 O n [some ⟨false,29,3,1,(Zn a0)⟩,some ⟨false,29,3,1,[.val (.int .i64 0),.val (.slice none 0 0),.val (.slice none 0 0)]⟩,some ⟨true,29,3,z10.2.length,fl Zr z10.2⟩,none,some ⟨true,49,1,l17.length,fl (eI .u64) l17⟩]) (Zm hU rfl rfl ?_) ?_
 ·simp only [push_cast,seval,Za,pl17,ql17,el17,hN0,hN]
 refine Zf ?_
 refine Zb Zc [] ?_
 simp only [push_cast,seval,Za,hN0,hN]
 refine Zg [2] [false,true,true,false,true] ?_
 simp only [push_cast,seval]
 refine Zu ?_
 try simp only [Zh,Ze]
 have h:=Option.some.inj h;subst h
 refine Zl (.inr rfl) hU [.agg [.val (.int .i64 a0.Kind),.row (n+4) l17.length,.row (n+2) z10.2.length]] (by omega) ?_
 simp only [push_cast,seval,Za,Tryz.results19,hN0,hN]
theorem Zi0:∀ k,(∀ {a0:Zj} {r:Zj} {O:Objs} {n:Nat},(Xo k) a0=some r→GTo Tryz.prog 19 [.agg (Zn a0)] O n (.agg (Zn r)) O n):=fun k=>by
 induction k with
 | zero=>exact @fun a0 r O n h=>(nomatch (show (none:Option _)=some _ from h))
 | succ k ih=>exact @fun a0 r O n h=>Zm8 (ih)  h
theorem Zn6 {a0:Zj} {r:Zj} {O:Objs} {n:Nat} (h:Zfe a0=some r):GTo Tryz.prog 19 [.agg (Zn a0)] O n (.agg (Zn r)) O n:=by
 obtain ⟨k,hk⟩:=Zjd h
 exact (Zi0 k)  hk
theorem Zm5 {a0:Zj} {r:(Int×Int)} {O:Objs} {n:Nat} (h:U1 a0=some r):GTo Tryz.prog 36 [.agg (Zn a0)] O n (.tup [.val (.int .i64 r.1),.val (.int .i64 r.2)]) O n:=by
 unfold U1 at h
 refine Ye Zc Tryz.call36 Tryz.func36 rfl (Nat.le_of_ble_eq_true rfl) (Nat.le_refl _) fun hU => ?_
 have hN0:O n=none:=hU.fresh _ (Nat.le_refl _)
 have hN:∀ k,O (n+k)=none:=fun k=>hU.fresh _ (Nat.le_add_right _ _)
 show W _ _ _ _ ⟨48,[],[(0,.agg (Zn a0))]⟩ (Z3 O n []) _
 refine Zk [1] (Zb Zc [] ?_)
 simp only [push_cast,seval,Za,hN0,hN]
 refine Zk [1,4,5] (Zb Zc [] ?_)
 simp only [push_cast,seval,Za,hN0,hN]
 refine Zf ?_
 refine Zk [1,4,5,6] (Zb Zc [] ?_)
 simp only [push_cast,seval,Za,hN0,hN]
 refine Zg [1,4,5,6] [true] ?_
 simp only [push_cast,seval]
 obtain ⟨z18,hz18,h⟩:=bC h
 refine Xx (E':=⟨48,[],[(4,.val (.int .i64 z18.1)),(5,.val (.int .i64 z18.2))]⟩) (O':=(Z3 O n [none])) (n0:=(n+1)) ?_ ?_
 ·refine Qt hz18 (fun s0_=>⟨48,[],[(1,.ref n 0),(4,.val (.int .i64 s0_.1)),(5,.val (.int .i64 s0_.2.1)),(6,.val (.int .i64 s0_.2.2))]⟩) (fun s0_=>(Z3 O n [some ⟨false,29,3,1,(Zn a0)⟩])) (fun z18=>JX 0 n (⟨48,[],[(4,.val (.int .i64 z18.1)),(5,.val (.int .i64 z18.2))]⟩:Env) (Z3 O n [none]) (n+1)) ?_
  intro s0_ x0_ hs0_
  unfold Jz at hs0_
  try dsimp only
  refine Zf ?_
  refine Zk [1,4,5,6,11] (Zb Zc [] ?_)
  simp only [push_cast,seval,Za,hN0,hN]
  refine Zo (t:=(decide (s0_.2.2 < (a0.Kids.length:Int)))) rfl (fun c17 => ?_) (fun c17 => ?_)
  ·replace hs0_:=Zw c17 hs0_
   refine Zt ?_
   try simp only [Zh,Ze]
   refine Zg [1,4,5,6] [true] ?_
   simp only [push_cast,seval]
   obtain ⟨z1,hz1,hs0_⟩:=bC hs0_
   refine Yr (E':=⟨48,[],[(1,.ref n 0),(4,.val (.int .i64 z1.1)),(5,.val (.int .i64 z1.2)),(6,.val (.int .i64 s0_.2.2))]⟩) (O':=(Z3 O n [some ⟨false,29,3,1,(Zn a0)⟩])) (n0:=(n+1)) ?_ ?_
   ·refine Yo ?_
    obtain ⟨z2,hz2,hz1⟩:=bC hz1
    refine Yr (E':=⟨48,[],[(1,.ref n 0),(4,.val (.int .i64 z2)),(5,.val (.int .i64 s0_.2.1)),(6,.val (.int .i64 s0_.2.2))]⟩) (O':=(Z3 O n [some ⟨false,29,3,1,(Zn a0)⟩])) (n0:=(n+1)) ?_ ?_
    ·obtain ⟨x5,hx5,ax5,bx5,cx5,hz2⟩:=bE (f:=Zr) Zdb (fun _=>rfl) (by decide) hz2
     have g6:=Zdw (f:=Zr) (off:=1) (sz:=3) Uv (fun _=>rfl) (by decide) (by decide) hx5
     refine Zk [1,4,5,6,22] (Zb Zc [] ?_)
     simp only [push_cast,Nat.reduceAdd,Nat.reduceSub,Nat.reduceMul,Nat.reduceLeDiff,Nat.reduceLT,Nat.reduceEqDiff,↓reduceIte,reduceCtorEq,Int.reduceBEq,Int.reduceBNe,Nat.reduceBEq,Int.reduceLE,Int.reduceLT,Int.reduceEq,Int.reduceNe,Int.reduceNeg,Nat.reduceDiv,Nat.reduceMod,Nat.reducePow,Za,ax5,bx5,cx5,g6,hN0,hN]
     refine Zo (t:=(decide (s0_.1 < (x5.Words.length:Int)))) rfl (fun c9 => ?_) (fun c9 => ?_)
     ·replace hz2:=Zw c9 hz2
      obtain ⟨x7,hx7,ax7,bx7,cx7,hz2⟩:=bE (f:=Zr) Zdb (fun _=>rfl) (by decide) hz2
      have g8:=Zdw (f:=Zr) (off:=1) (sz:=3) Uv (fun _=>rfl) (by decide) (by decide) hx7
      refine Zb Zc [] ?_
      simp only [push_cast,Nat.reduceAdd,Nat.reduceSub,Nat.reduceMul,Nat.reduceLeDiff,Nat.reduceLT,Nat.reduceEqDiff,↓reduceIte,reduceCtorEq,Int.reduceBEq,Int.reduceBNe,Nat.reduceBEq,Int.reduceLE,Int.reduceLT,Int.reduceEq,Int.reduceNe,Int.reduceNeg,Nat.reduceDiv,Nat.reduceMod,Nat.reducePow,Za,ax7,bx7,cx7,g8,hN0,hN]
      have hz2:=Option.some.inj hz2;subst hz2
      refine And.intro rfl (Fit2.of (Zm hU rfl rfl ?_) (by omega))
      simp only [push_cast,Nat.reduceAdd,Nat.reduceSub,Nat.reduceMul,Nat.reduceLeDiff,Nat.reduceLT,Nat.reduceEqDiff,↓reduceIte,reduceCtorEq,Int.reduceBEq,Int.reduceBNe,Nat.reduceBEq,Int.reduceLE,Int.reduceLT,Int.reduceEq,Int.reduceNe,Int.reduceNeg,Nat.reduceDiv,Nat.reduceMod,Nat.reducePow,Za,ax7,bx7,cx7,g8,hN0,hN]
     replace hz2:=Zv c9 hz2
     refine Zt ?_
     try simp only [Zh,Ze]
     have hz2:=Option.some.inj hz2;subst hz2
     refine And.intro rfl (Fit2.of (Zm hU rfl rfl ?_) (by omega))
     simp only [push_cast,seval,Za,hN0,hN]
    obtain ⟨x12,hx12,ax12,bx12,cx12,hz1⟩:=bE (f:=Zr) Zdb (fun _=>rfl) (by decide) hz1
    have g13:=Zdw (f:=Zr) (off:=2) (sz:=3) Zsh (fun _=>rfl) (by decide) (by decide) hx12
    refine Zk [1,4,5,6,38] (Zb Zc [] ?_)
    simp only [push_cast,Nat.reduceAdd,Nat.reduceSub,Nat.reduceMul,Nat.reduceLeDiff,Nat.reduceLT,Nat.reduceEqDiff,↓reduceIte,reduceCtorEq,Int.reduceBEq,Int.reduceBNe,Nat.reduceBEq,Int.reduceLE,Int.reduceLT,Int.reduceEq,Int.reduceNe,Int.reduceNeg,Nat.reduceDiv,Nat.reduceMod,Nat.reducePow,Za,ax12,bx12,cx12,g13,hN0,hN]
    refine Zo (t:=(decide (s0_.2.1 < (x12.Kids.length:Int)))) rfl (fun c16 => ?_) (fun c16 => ?_)
    ·replace hz1:=Zw c16 hz1
     obtain ⟨x14,hx14,ax14,bx14,cx14,hz1⟩:=bE (f:=Zr) Zdb (fun _=>rfl) (by decide) hz1
     have g15:=Zdw (f:=Zr) (off:=2) (sz:=3) Zsh (fun _=>rfl) (by decide) (by decide) hx14
     refine Zb Zc [] ?_
     simp only [push_cast,Nat.reduceAdd,Nat.reduceSub,Nat.reduceMul,Nat.reduceLeDiff,Nat.reduceLT,Nat.reduceEqDiff,↓reduceIte,reduceCtorEq,Int.reduceBEq,Int.reduceBNe,Nat.reduceBEq,Int.reduceLE,Int.reduceLT,Int.reduceEq,Int.reduceNe,Int.reduceNeg,Nat.reduceDiv,Nat.reduceMod,Nat.reducePow,Za,ax14,bx14,cx14,g15,hN0,hN]
     have hz1:=Option.some.inj hz1;subst hz1
     refine And.intro rfl (Fit2.of (Zm hU rfl rfl ?_) (by omega))
     simp only [push_cast,Nat.reduceAdd,Nat.reduceSub,Nat.reduceMul,Nat.reduceLeDiff,Nat.reduceLT,Nat.reduceEqDiff,↓reduceIte,reduceCtorEq,Int.reduceBEq,Int.reduceBNe,Nat.reduceBEq,Int.reduceLE,Int.reduceLT,Int.reduceEq,Int.reduceNe,Int.reduceNeg,Nat.reduceDiv,Nat.reduceMod,Nat.reducePow,Za,ax14,bx14,cx14,g15,hN0,hN]
    replace hz1:=Zv c16 hz1
    refine Zt ?_
    try simp only [Zh,Ze]
    have hz1:=Option.some.inj hz1;subst hz1
    refine And.intro rfl (Fit2.of (Zm hU rfl rfl ?_) (by omega))
    simp only [push_cast,seval,Za,hN0,hN]
   refine Zb Zc [] ?_
   simp only [push_cast,seval,Za,hN0,hN]
   have hs0_:=Option.some.inj hs0_;subst hs0_
   refine And.intro rfl (Fit2.of (Zm hU rfl rfl ?_) (by omega))
   simp only [push_cast,seval,Za,hN0,hN]
  replace hs0_:=Zv c17 hs0_
  refine Q7 ?_
  try simp only [Zh,Ze,↓reduceIte,Nat.reduceEqDiff]
  have hs0_:=Option.some.inj hs0_;subst hs0_
  refine And.intro (fun h=>by cases h) (And.intro rfl (Fit2.of (Zm hU rfl rfl ?_) (by omega)))
  simp only [push_cast,seval,Za,hN0,hN]
 try simp only [Zh,Ze,↓reduceIte,Nat.reduceEqDiff]
 refine Zg [4,5] [false] ?_
 simp only [push_cast,seval]
 refine Zk [2,3] (Zb Zc [] ?_)
 simp only [push_cast,seval,Za,hN0,hN]
 refine Zu ?_
 try simp only [Zh,Ze]
 have h:=Option.some.inj h;subst h
 refine Zl (.inr rfl) hU [.val (.int .i64 z18.1),.val (.int .i64 z18.2)] (by omega) ?_
 simp only [push_cast,seval,Za,Tryz.results36,hN0,hN]
theorem Zn5 {a0:Int} {a1:Int} {r:Int} {O:Objs} {n:Nat} (h:Vy a0 a1=some r):GTo Tryz.prog 61 [.val (.int .i64 a0),.val (.int .i64 a1)] O n (.val (.int .i64 r)) O n:=by
 unfold Vy at h
 refine Ye Zc Tryz.call61 Tryz.func61 rfl (Nat.le_of_ble_eq_true rfl) (Nat.le_refl _) fun hU => ?_
 have hN0:O n=none:=hU.fresh _ (Nat.le_refl _)
 have hN:∀ k,O (n+k)=none:=fun k=>hU.fresh _ (Nat.le_add_right _ _)
 show W _ _ _ _ ⟨31,[],[(0,.val (.int .i64 a0)),(1,.val (.int .i64 a1))]⟩ (Z3 O n []) _
 refine Zk [0,1] (Zb Zc [] ?_)
 simp only [push_cast,seval,Za,hN0,hN]
 refine Zf ?_
 refine Zf ?_
 obtain ⟨y2,hy2,h⟩:=bC h
 refine Zb Zc [none,none,none,none] ?_
 simp only [push_cast,seval,Za,hN0,hN]
 repeat (with_reducible refine And.intro (by first | (intro h0;simp only [h0];done) | (intro h0;simp only [h0,true_and,and_true,imp_self,implies_true,ne_eq];done) | (intros;simp_all;done) | exact True.intro) ?_)
 refine (Kw hy2).then ?_
 simp only [push_cast,seval,Za,hN0,hN]
 repeat (with_reducible refine And.intro (by first | (intro h0;simp only [h0];done) | (intro h0;simp only [h0,true_and,and_true,imp_self,implies_true,ne_eq];done) | (intros;simp_all;done) | exact True.intro) ?_)
 refine Zg [0,1,16] [] ?_
 simp only [push_cast,seval]
 refine Zo (t:=(cond (cond (decide (y2 < 1)) true (decide (a1 < 0))) true (decide (1099511627776 < a1)))) rfl (fun c14 => ?_) (fun c14 => ?_)
 ·replace h:=Zw c14 h
  refine Zk [4] (Zb Zc [] ?_)
  simp only [push_cast,seval,Za,hN0,hN]
  refine Zu ?_
  try simp only [Zh,Ze]
  have h:=Option.some.inj h;subst h
  refine Zl (.inr rfl) hU [.val (.int .i64 0)] (by omega) ?_
  simp only [push_cast,seval,Za,Tryz.results61,hN0,hN]
 replace h:=Zv c14 h
 refine Zt ?_
 try simp only [Zh,Ze]
 refine Zg [0,1] [] ?_
 simp only [push_cast,seval]
 refine Zf ?_
 obtain ⟨y5,hy5,h⟩:=bC h
 obtain ⟨pu6,h⟩:=bG h
 refine Zb Zc [] ?_
 simp only [push_cast,seval,Za,pu6,hN0,hN]
 refine (Kw hy5).then ?_
 simp only [push_cast,seval,Za,pu6,hN0,hN]
 refine Zg [1,5] [] ?_
 simp only [push_cast,seval]
 refine Zf ?_
 obtain ⟨pu8,h⟩:=bG h
 refine Zk [1,5,23] (Zb Zc [] ?_)
 simp only [push_cast,seval,Za,pu8,hN0,hN]
 refine Zo (t:=(decide (0 < (Int.tmod a1 (IntKind.i64.wrap (Int.tdiv 64 y5)))))) rfl (fun U7 => ?_) (fun U7 => ?_)
 ·replace h:=Zw U7 h
  obtain ⟨pu10,h⟩:=bG h
  refine Zk [4] (Zb Zc [] ?_)
  simp only [push_cast,seval,Za,pu10,hN0,hN]
  refine Zu ?_
  try simp only [Zh,Ze]
  have h:=Option.some.inj h;subst h
  refine Zl (.inr rfl) hU [.val (.int .i64 (IntKind.i64.wrap ((IntKind.i64.wrap (Int.tdiv a1 (IntKind.i64.wrap (Int.tdiv 64 y5))))+1)))] (by omega) ?_
  simp only [push_cast,seval,Za,Tryz.results61,hN0,hN]
 replace h:=Zv U7 h
 refine Zt ?_
 try simp only [Zh,Ze]
 refine Zg [1,5] [] ?_
 simp only [push_cast,seval]
 obtain ⟨pu12,h⟩:=bG h
 refine Zk [4] (Zb Zc [] ?_)
 simp only [push_cast,seval,Za,pu12,hN0,hN]
 refine Zu ?_
 try simp only [Zh,Ze]
 have h:=Option.some.inj h;subst h
 refine Zl (.inr rfl) hU [.val (.int .i64 (IntKind.i64.wrap (Int.tdiv a1 (IntKind.i64.wrap (Int.tdiv 64 y5)))))] (by omega) ?_
 simp only [push_cast,seval,Za,Tryz.results61,hN0,hN]
theorem Zpf {a0:Int} {a1:(List Int)} {r:((List Int)×Bool)} {O:Objs} {n:Nat} (h:Uq a0 a1=some r):GTo Tryz.prog 38 [.val (.int .i64 a0),.sl a1.length (fl (eI .u64) a1)] O n (.tup [.sl r.1.length (fl (eI .u64) r.1),.val (.bool r.2)]) O n:=by
 unfold Uq at h
 refine Ye Zc Tryz.call38 Tryz.func38 rfl (Nat.le_of_ble_eq_true rfl) (Nat.le_refl _) fun hU => ?_
 have hN0:O n=none:=hU.fresh _ (Nat.le_refl _)
 have hN:∀ k,O (n+k)=none:=fun k=>hU.fresh _ (Nat.le_add_right _ _)
 show W _ _ _ _ ⟨62,[],[(0,.val (.int .i64 a0)),(1,.sl a1.length (fl (eI .u64) a1))]⟩ (Z3 O n []) _
 refine Zk [0,1] (Zb Zc [] ?_)
 simp only [push_cast,seval,Za,hN0,hN]
 refine Zf ?_
 obtain ⟨y2,hy2,h⟩:=bC h
 refine Zb Zc [] ?_
 simp only [push_cast,seval,Za,hN0,hN]
 refine (Kw hy2).then ?_
 simp only [push_cast,seval,Za,hN0,hN]
 refine Zg [0,1,6] [] ?_
 simp only [push_cast,seval]
 refine Zf ?_
 refine Zk [0,1,6,14] (Zb Zc [] ?_)
 simp only [push_cast,seval,Za,hN0,hN]
 refine Zo (t:=(decide (y2 < 0))) rfl (fun c21 => ?_) (fun c21 => ?_)
 ·replace h:=Zw c21 h
  refine Zk [4,5] (Zb Zc [] ?_)
  simp only [push_cast,seval,Za,hN0,hN]
  refine Zu ?_
  try simp only [Zh,Ze]
  have h:=Option.some.inj h;subst h
  refine Zl (.inr rfl) hU [.val (.slice none 0 0),.val (.bool false)] (by omega) ?_
  simp only [push_cast,seval,Za,Tryz.results38,hN0,hN]
 replace h:=Zv c21 h
 refine Zt ?_
 try simp only [Zh,Ze]
 refine Zg [0,1,6] [] ?_
 simp only [push_cast,seval]
 refine Zf ?_
 obtain ⟨y5,hy5,h⟩:=bC h
 obtain ⟨l6,al6,bl6,cl6,el6,h⟩:=bM2 (c:=8) rfl h
 have nl6:Int.toNat y5=List.length l6:=by rw [el6,List.length_replicate]
 have fl6:(List.replicate (List.length l6) [.val (.int .u64 0)]).flatten=fl (eI .u64) l6:=by rw [← nl6,el6];exact (Zx0 (f:=(eI .u64)) _ _).symm
 clear el6
 refine Zb Zc [] ?_
 simp only [push_cast,seval,Za,al6,bl6,cl6,fl6,nl6,hN0,hN]
 refine (Zn5 hy5).then ?_
 simp only [push_cast,seval,Za,al6,bl6,cl6,fl6,nl6,hN0,hN]
 refine Za8 ⟨62,[],[(0,.val (.int .i64 a0)),(1,.sl a1.length (fl (eI .u64) a1)),(6,.val (.int .i64 y2)),(7,.row n l6.length)]⟩ (Z3 O n [some ⟨true,49,1,l6.length,fl (eI .u64) l6⟩]) (Zm hU rfl rfl ?_) ?_
 ·simp only [push_cast,seval,Za,al6,bl6,cl6,fl6,nl6,hN0,hN]
 refine Zf ?_
 refine Zk [0,1,6,7,8] (Zb Zc [] ?_)
 simp only [push_cast,seval,Za,hN0,hN]
 refine Zg [0,1,6,7,8] [true] ?_
 simp only [push_cast,seval]
 obtain ⟨z20,hz20,h⟩:=bC h
 refine Znp (J:=(Gh (fun z20=>JR n (⟨62,[],[(4,.val (.slice none 0 0)),(5,.val (.bool false))]⟩:Env) (Z3 O n [none]) (n+1)) (fun z20=>JX 0 n (⟨62,[],[(7,.row n z20.length)]⟩:Env) (Z3 O n [some ⟨true,49,1,z20.length,fl (eI .u64) z20⟩]) (n+1)))) (z:=z20) ?_ fun hw => ?_
 ·refine Qt hz20 (fun s0_=>⟨62,[],[(0,.val (.int .i64 a0)),(1,.sl a1.length (fl (eI .u64) a1)),(6,.val (.int .i64 y2)),(7,.row n s0_.2.length),(8,.val (.int .i64 s0_.1))]⟩) (fun s0_=>(Z3 O n [some ⟨true,49,1,s0_.2.length,fl (eI .u64) s0_.2⟩])) (Gh (fun z20=>JR n (⟨62,[],[(4,.val (.slice none 0 0)),(5,.val (.bool false))]⟩:Env) (Z3 O n [none]) (n+1)) (fun z20=>JX 0 n (⟨62,[],[(7,.row n z20.length)]⟩:Env) (Z3 O n [some ⟨true,49,1,z20.length,fl (eI .u64) z20⟩]) (n+1))) ?_
  intro s0_ x0_ hs0_
  unfold Y6 at hs0_
  try dsimp only
  refine Zf ?_
  refine Zk [0,1,6,7,8,23] (Zb Zc [] ?_)
  simp only [push_cast,seval,Za,hN0,hN]
  refine Zo (t:=(decide (s0_.1 < (a1.length:Int)))) rfl (fun c19 => ?_) (fun c19 => ?_)
  ·replace hs0_:=Zw c19 hs0_
   refine Zt ?_
   try simp only [Zh,Ze]
   refine Zg [0,1,6,7,8] [true] ?_
   simp only [push_cast,seval]
   obtain ⟨z7,hz7,hs0_⟩:=bC hs0_
   refine Z7c (J:=(Gh (fun z7=>JN n (⟨62,[],[(0,.val (.int .i64 a0)),(1,.sl a1.length (fl (eI .u64) a1)),(6,.val (.int .i64 y2)),(7,.row n z7.length),(8,.val (.int .i64 s0_.1))]⟩:Env) (Z3 O n [some ⟨true,49,1,z7.length,fl (eI .u64) z7⟩]) (n+1)) (fun z7=>JR n (⟨62,[],[(4,.val (.slice none 0 0)),(5,.val (.bool false))]⟩:Env) (Z3 O n [none]) (n+1)))) (z:=z7) ?_ fun hw => ?_
   ·refine Yo ?_
    obtain ⟨x9,hx9,ax9,bx9,cx9,hz7⟩:=bE (f:=(eI .u64)) Ug (fun _=>rfl) (by decide) hz7
    refine Zk [0,1,6,7,8,9] (Zb Zc [] ?_)
    simp only [push_cast,Nat.reduceAdd,Nat.reduceSub,Nat.reduceMul,Nat.reduceLeDiff,Nat.reduceLT,Nat.reduceEqDiff,↓reduceIte,reduceCtorEq,Int.reduceBEq,Int.reduceBNe,Nat.reduceBEq,Int.reduceLE,Int.reduceLT,Int.reduceEq,Int.reduceNe,Int.reduceNeg,Nat.reduceDiv,Nat.reduceMod,Nat.reducePow,Za,ax9,bx9,cx9,hN0,hN]
    refine Zf ?_
    refine Zf ?_
    obtain ⟨y11,hy11,hz7⟩:=bC hz7
    refine Zb Zc [] ?_
    simp only [push_cast,seval,Za,hN0,hN]
    refine (Za4 hy11).then ?_
    simp only [push_cast,seval,Za,hN0,hN]
    refine Zg [0,1,6,7,8,9,33] [true] ?_
    simp only [push_cast,seval]
    refine Zo (t:=(!y11)) rfl (fun Gj => ?_) (fun Gj => ?_)
    ·replace hz7:=Zw Gj hz7
     refine Zk [4,5] (Zb Zc [] ?_)
     simp only [push_cast,seval,Za,hN0,hN]
     refine Zu ?_
     try simp only [Zh,Ze]
     have hz7:=Option.some.inj hz7;subst hz7
     refine And.intro rfl (Fit2.of (Zm hU rfl rfl ?_) (by omega))
     simp only [push_cast,seval,Za,hN0,hN]
    replace hz7:=Zv Gj hz7
    refine Zt ?_
    try simp only [Zh,Ze]
    refine Zg [0,1,6,7,8,9] [true] ?_
    simp only [push_cast,seval]
    refine Zf ?_
    refine Zk [0,1,6,7,8,9,10] (Zb Zc [] ?_)
    simp only [push_cast,seval,Za,hN0,hN]
    refine Zg [0,1,6,7,8,9,10] [true] ?_
    simp only [push_cast,seval]
    obtain ⟨z13,hz13,hz7⟩:=bC hz7
    refine Xx (E':=⟨62,[],[(0,.val (.int .i64 a0)),(1,.sl a1.length (fl (eI .u64) a1)),(6,.val (.int .i64 y2)),(7,.row n s0_.2.length),(8,.val (.int .i64 s0_.1)),(9,.val (.int .u64 z13))]⟩) (O':=(Z3 O n [some ⟨true,49,1,s0_.2.length,fl (eI .u64) s0_.2⟩])) (n0:=(n+1)) ?_ ?_
    ·refine Qt hz13 (fun s1_=>⟨62,[],[(0,.val (.int .i64 a0)),(1,.sl a1.length (fl (eI .u64) a1)),(6,.val (.int .i64 y2)),(7,.row n s0_.2.length),(8,.val (.int .i64 s0_.1)),(9,.val (.int .u64 s1_.1)),(10,.val (.int .i64 s1_.2))]⟩) (fun s1_=>(Z3 O n [some ⟨true,49,1,s0_.2.length,fl (eI .u64) s0_.2⟩])) (fun z13=>JX 2 n (⟨62,[],[(0,.val (.int .i64 a0)),(1,.sl a1.length (fl (eI .u64) a1)),(6,.val (.int .i64 y2)),(7,.row n s0_.2.length),(8,.val (.int .i64 s0_.1)),(9,.val (.int .u64 z13))]⟩:Env) (Z3 O n [some ⟨true,49,1,s0_.2.length,fl (eI .u64) s0_.2⟩]) (n+1)) ?_
     intro s1_ x1_ hs1_
     unfold Uh at hs1_
     try dsimp only
     refine Zf ?_
     refine Zk [0,1,6,7,8,9,10,39] (Zb Zc [] ?_)
     simp only [push_cast,seval,Za,hN0,hN]
     refine Zo (t:=(decide (s1_.2 < (Int.tmod (IntKind.i64.wrap (s0_.1 * y2)) 64)))) rfl (fun Ux => ?_) (fun Ux => ?_)
     ·replace hs1_:=Zw Ux hs1_
      refine Zt ?_
      try simp only [Zh,Ze]
      refine Zg [0,1,6,7,8,9,10] [true] ?_
      simp only [push_cast,seval]
      refine Zf ?_
      refine Yo ?_
      refine Zb Zc [] ?_
      simp only [push_cast,seval,Za,hN0,hN]
      refine Zg [0,1,6,7,8,9,10] [true] ?_
      simp only [push_cast,seval]
      refine Zb Zc [] ?_
      simp only [push_cast,seval,Za,hN0,hN]
      have hs1_:=Option.some.inj hs1_;subst hs1_
      refine And.intro rfl (Fit2.of (Zm hU rfl rfl ?_) (by omega))
      simp only [push_cast,seval,Za,hN0,hN]
     replace hs1_:=Zv Ux hs1_
     refine Q7 ?_
     try simp only [Zh,Ze,↓reduceIte,Nat.reduceEqDiff]
     have hs1_:=Option.some.inj hs1_;subst hs1_
     refine And.intro (fun h=>by cases h) (And.intro rfl (Fit2.of (Zm hU rfl rfl ?_) (by omega)))
     simp only [push_cast,seval,Za,hN0,hN]
    try simp only [Zh,Ze,↓reduceIte,Nat.reduceEqDiff]
    refine Zg [0,1,6,7,8,9] [true] ?_
    simp only [push_cast,seval]
    refine Zk [0,1,6,7,8,9,45] (Zb Zc [] ?_)
    simp only [push_cast,seval,Za,hN0,hN]
    refine Zo (t:=(decide (0 < y2))) rfl (fun c17 => ?_) (fun c17 => ?_)
    ·replace hz7:=Zw c17 hz7
     obtain ⟨x14,hx14,ax14,bx14,cx14,hz7⟩:=bE (f:=(eI .u64)) Ug (fun _=>rfl) (by decide) hz7
     have gu16:Uj (fl (eI .u64) s0_.2) [.val (.int .u64 (IntKind.u64.wrap (x14+z13)))] (Int.toNat (IntKind.i64.wrap (Int.tdiv (IntKind.i64.wrap (s0_.1 * y2)) 64)) * 1)=some (fl (eI .u64) (Xs s0_.2 (IntKind.i64.wrap (Int.tdiv (IntKind.i64.wrap (s0_.1 * y2)) 64)) (IntKind.u64.wrap (x14+z13)))):=Zgd (f:=(eI .u64)) (ti:=⟨.bool,1,0,[],false⟩) (x:=(IntKind.u64.wrap (x14+z13))) (fun _=>rfl) (Zbt hx14)
     refine Zb Zc [] ?_
     simp only [push_cast,Nat.reduceAdd,Nat.reduceSub,Nat.reduceMul,Nat.reduceLeDiff,Nat.reduceLT,Nat.reduceEqDiff,↓reduceIte,reduceCtorEq,Int.reduceBEq,Int.reduceBNe,Nat.reduceBEq,Int.reduceLE,Int.reduceLT,Int.reduceEq,Int.reduceNe,Int.reduceNeg,Nat.reduceDiv,Nat.reduceMod,Nat.reducePow,Za,ax14,bx14,cx14,gu16,hN0,hN]
     have hz7:=Option.some.inj hz7;subst hz7
     refine And.intro rfl (Fit2.of (Zm hU rfl rfl ?_) (by omega))
     simp only [push_cast,Nat.reduceAdd,Nat.reduceSub,Nat.reduceMul,Nat.reduceLeDiff,Nat.reduceLT,Nat.reduceEqDiff,↓reduceIte,reduceCtorEq,Int.reduceBEq,Int.reduceBNe,Nat.reduceBEq,Int.reduceLE,Int.reduceLT,Int.reduceEq,Int.reduceNe,Int.reduceNeg,Nat.reduceDiv,Nat.reduceMod,Nat.reducePow,Za,ax14,bx14,cx14,gu16,hN0,hN]
    replace hz7:=Zv c17 hz7
    refine Zt ?_
    try simp only [Zh,Ze]
    have hz7:=Option.some.inj hz7;subst hz7
    refine And.intro rfl (Fit2.of (Zm hU rfl rfl ?_) (by omega))
    simp only [push_cast,seval,Za,hN0,hN]
   rcases z7 with z7 | z7
   ·dsimp only [Gh] at hw hs0_
    refine Yr hw ?_
    refine Zb Zc [] ?_
    simp only [push_cast,seval,Za,hN0,hN]
    have hs0_:=Option.some.inj hs0_;subst hs0_
    refine And.intro rfl (Fit2.of (Zm hU rfl rfl ?_) (by omega))
    simp only [push_cast,seval,Za,hN0,hN]
   dsimp only [Gh] at hw hs0_
   refine Z18 hw ?_
   try simp only [Zh,Ze]
   have hs0_:=Option.some.inj hs0_;subst hs0_
   refine And.intro (fun h=>by cases h) (And.intro rfl (Fit2.of (Zm hU rfl rfl ?_) (by omega)))
   simp only [push_cast,seval,Za,hN0,hN]
  replace hs0_:=Zv c19 hs0_
  refine Q7 ?_
  try simp only [Zh,Ze,↓reduceIte,Nat.reduceEqDiff]
  have hs0_:=Option.some.inj hs0_;subst hs0_
  refine And.intro (fun h=>by cases h) (And.intro rfl (Fit2.of (Zm hU rfl rfl ?_) (by omega)))
  simp only [push_cast,seval,Za,hN0,hN]
 rcases z20 with z20 | z20
 ·dsimp only [Gh] at hw h
  refine Zea hw ?_
  try simp only [Zh,Ze,↓reduceIte,Nat.reduceEqDiff]
  have h:=Option.some.inj h;subst h
  refine Zl (.inr rfl) hU [.val (.slice none 0 0),.val (.bool false)] (by omega) ?_
  simp only [push_cast,seval,Za,Tryz.results38,hN0,hN]
 dsimp only [Gh] at hw h
 refine Xx hw ?_
 try simp only [Zh,Ze,↓reduceIte,Nat.reduceEqDiff]
 refine Zg [7] [true] ?_
 simp only [push_cast,seval]
 refine Zk [4,5] (Zb Zc [] ?_)
 simp only [push_cast,seval,Za,hN0,hN]
 refine Zu ?_
 try simp only [Zh,Ze]
 have h:=Option.some.inj h;subst h
 refine Zl (.inr rfl) hU [.row n z20.length,.val (.bool true)] (by omega) ?_
 simp only [push_cast,seval,Za,Tryz.results38,hN0,hN]
theorem Zes {a0:Int} {a1:Int} {a2:Int} {a3:Int} {r:Int} {O:Objs} {n:Nat} (h:Gm a0 a1 a2 a3=some r):GTo Tryz.prog 59 [.val (.int .i64 a0),.val (.int .i64 a1),.val (.int .u64 a2),.val (.int .u64 a3)] O n (.val (.int .u64 r)) O n:=by
 unfold Gm at h
 refine Ye Zc Tryz.call59 Tryz.func59 rfl (Nat.le_of_ble_eq_true rfl) (Nat.le_refl _) fun hU => ?_
 have hN0:O n=none:=hU.fresh _ (Nat.le_refl _)
 have hN:∀ k,O (n+k)=none:=fun k=>hU.fresh _ (Nat.le_add_right _ _)
 show W _ _ _ _ ⟨26,[],[(0,.val (.int .i64 a0)),(1,.val (.int .i64 a1)),(2,.val (.int .u64 a2)),(3,.val (.int .u64 a3))]⟩ (Z3 O n []) _
 refine Zk [0,1,2,3] (Zb Zc [] ?_)
 simp only [push_cast,seval,Za,hN0,hN]
 refine Zk [2,3,9] (Zb Zc [] ?_)
 simp only [push_cast,seval,Za,hN0,hN]
 obtain ⟨z1,hz1,h⟩:=bC h
 refine Yr (E':=⟨26,[],[(2,.val (.int .u64 a2)),(3,.val (.int .u64 a3)),(9,.val (.int .i64 z1))]⟩) (O':=(Z3 O n [])) (n0:=n) ?_ ?_
 ·refine Zk [2,3,9,15] (Zb Zc [] ?_)
  simp only [push_cast,seval,Za,hN0,hN]
  refine Zo (t:=(decide ((IntKind.i64.wrap ((IntKind.i64.wrap (a1 - a0)) - 1)) < 0))) rfl (fun c2 => ?_) (fun c2 => ?_)
  ·replace hz1:=Zw c2 hz1
   refine Zb Zc [] ?_
   simp only [push_cast,seval,Za,hN0,hN]
   have hz1:=Option.some.inj hz1;subst hz1
   refine And.intro rfl (Fit2.of (Zm hU rfl rfl ?_) (by omega))
   simp only [push_cast,seval,Za,hN0,hN]
  replace hz1:=Zv c2 hz1
  refine Zt ?_
  try simp only [Zh,Ze]
  have hz1:=Option.some.inj hz1;subst hz1
  refine And.intro rfl (Fit2.of (Zm hU rfl rfl ?_) (by omega))
  simp only [push_cast,seval,Za,hN0,hN]
 refine Zk [8] (Zb Zc [] ?_)
 simp only [push_cast,seval,Za,hN0,hN]
 refine Zu ?_
 try simp only [Zh,Ze]
 have h:=Option.some.inj h;subst h
 refine Zl (.inr rfl) hU [.val (.int .u64 (IntKind.u64.wrap ((IntKind.u64.wrap ((IntKind.u64.wrap (IntKind.i64.wrap (4 * z1)))+a2))+(IntKind.u64.wrap (a3 * 4294967296)))))] (by omega) ?_
 simp only [push_cast,seval,Za,Tryz.results59,hN0,hN]
theorem Uy {a0 r:List Int} {O:Objs} {n:Nat} (h:Xh a0=some r):GTo Tryz.prog 80 [.sl a0.length (fl (eI .u64) a0)] O n (.row n r.length) (Z3 O n [some ⟨true,49,1,r.length,fl (eI .u64) r⟩]) (n+1):=by
 have h1:=Zxr h
 have h2:=Zxs h
 have h3:=Zsw h
 rw [List.nil_append] at h3
 subst h3
 simp only [List.length_nil,Nat.zero_add] at h1 h2
 clear h
 refine Ye Zc Tryz.call80 Tryz.func80 rfl (Nat.le_of_ble_eq_true rfl) (by omega) fun hU => ?_
 have hN0:O n=none:=hU.fresh _ (Nat.le_refl _)
 have hN:∀ k,O (n+k)=none:=fun k=>hU.fresh _ (Nat.le_add_right _ _)
 show W _ _ _ _ ⟨8,[],[(0,.sl r.length (fl (eI .u64) r))]⟩ (Z3 O n []) _
 refine Zk [0] (Zb Zc [] ?_)
 simp only [push_cast,seval,Za,hN0,hN]
 refine Z7b 0 r.length (fl (eI .u64) r) rfl (Nat.le_of_ble_eq_true rfl) (X6 Zgy _) fun A c hA => ?_
 refine Zk [0,4] (Zb Zc [] ?_)
 simp only [push_cast,seval,Za,hN0,hN]
 cases A with
 | none =>
  obtain rfl:r=[]:=List.eq_nil_of_length_eq_zero (hA rfl)
  refine Zo (t:=true) rfl (fun _ => ?_) (fun hc=>by cases hc)
  refine Zk [2] (Zb Zc [] ?_)
  simp only [push_cast,seval,Za,hN0,hN]
  refine Zu ?_
  try simp only [Zh,Ze]
  refine Ztg (k:=1) (L3:=[some ⟨true,49,1,0,[]⟩]) (E2:=⟨8,[],[(2,.row n 0),(2,.val (.slice none 0 0))]⟩) (n3:=(n+1)) (.inr rfl) hU rfl [.row n 0] ?_ ?_
  ·have ha:=Zj7 (ba:=n) (E:=⟨8,[],[(2,.val (.slice none 0 0))]⟩) (O:=(Z3 O n [])) (n:=n) 2 49 1 rfl (by omega)
   simp only [K2] at ha
   exact ha
  simp only [push_cast,seval,Za,Tryz.results80,hN0,hN]
 | some A =>
  refine Zo (t:=false) rfl (fun hc=>by cases hc) (fun _ => ?_)
  refine Zt ?_
  try simp only [Zh,Ze]
  refine And.intro rfl (And.intro (Nat.le_of_ble_eq_true rfl) ?_)
  refine Zf ?_
  refine Zb Zc [] ?_
  simp only [push_cast,seval,Za,h1,h2,hN0,hN]
  refine Zu ?_
  try simp only [Zh,Ze]
  refine Zz2 (.inr rfl) hU rfl [.row n r.length] (by omega) ?_
  simp only [push_cast,seval,Za,Tryz.results80,hN0,hN]
theorem Zcp {a0 r:List Int} {O:Objs} {n:Nat} (h:Xh a0=some r):GTo Tryz.prog 80 [.sl a0.length (fl (eI .u64) a0)] O n (.sl r.length (fl (eI .u64) r)) O n:=by
 refine GTo.freeze (Uy h) fun hU => ?_
 have hN0:O n=none:=hU.fresh _ (Nat.le_refl _)
 have hN:∀ k,O (n+k)=none:=fun k=>hU.fresh _ (Nat.le_add_right _ _)
 simp only [push_cast,seval,Za,hN0,hN]
theorem Zt7 {a0:(List (List Int))} {r:(List (List Int))} {O:Objs} {n:Nat} (h:Zau a0=some r):GTo Tryz.prog 50 [.sl a0.length (fl (eL (eI .u64)) a0)] O n (.sl r.length (fl (eL (eI .u64)) r)) O n:=by
 unfold Zau at h
 refine Ye Zc Tryz.call50 Tryz.func50 rfl (Nat.le_of_ble_eq_true rfl) (Nat.le_refl _) fun hU => ?_
 have hN0:O n=none:=hU.fresh _ (Nat.le_refl _)
 have hN:∀ k,O (n+k)=none:=fun k=>hU.fresh _ (Nat.le_add_right _ _)
 show W _ _ _ _ ⟨23,[],[(0,.sl a0.length (fl (eL (eI .u64)) a0))]⟩ (Z3 O n []) _
 refine Zk [0] (Zb Zc [] ?_)
 simp only [push_cast,seval,Za,hN0,hN]
 refine Zf ?_
 obtain ⟨l2,al2,bl2,cl2,el2,h⟩:=bM2 (c:=24) rfl h
 have nl2:Int.toNat (a0.length:Int)=List.length l2:=by rw [el2,List.length_replicate]
 have fl2:∀ O O' n,wkl O O' n (List.replicate (List.length l2) [G.val (.slice none 0 0)]).flatten (fl (eL (eI .u64)) l2)=True:=fun O O' n=>by rw [← nl2,el2];exact eq_true (Z1z _ _)
 clear el2
 refine Zb Zc [] ?_
 simp only [push_cast,seval,Za,al2,bl2,cl2,fl2,nl2,hN0,hN]
 refine Za8 ⟨23,[],[(0,.sl a0.length (fl (eL (eI .u64)) a0)),(3,.row n l2.length)]⟩ (Z3 O n [some ⟨true,26,1,l2.length,fl (eL (eI .u64)) l2⟩]) (Zm hU rfl rfl ?_) ?_
 ·simp only [push_cast,seval,Za,al2,bl2,cl2,fl2,nl2,hN0,hN]
 refine Zf ?_
 refine Zk [3,9,10,11] (Zb Zc [] ?_)
 simp only [push_cast,seval,Za,hN0,hN]
 refine Zg [3,9,10,11] [true] ?_
 simp only [push_cast,seval]
 obtain ⟨z9,hz9,h⟩:=bC h
 refine Xx (E':=⟨23,[],[(3,.row n z9.length)]⟩) (O':=(Z3 O n [some ⟨true,26,1,z9.length,fl (eL (eI .u64)) z9⟩])) (n0:=(n+1)) ?_ ?_
 ·refine Qt hz9 (fun s0_=>⟨23,[],[(3,.row n s0_.2.length),(9,.sl a0.length (fl (eL (eI .u64)) a0)),(10,.val (.int .i64 (a0.length:Int))),(11,.val (.int .i64 s0_.1))]⟩) (fun s0_=>(Z3 O n [some ⟨true,26,1,s0_.2.length,fl (eL (eI .u64)) s0_.2⟩])) (fun z9=>JX 0 n (⟨23,[],[(3,.row n z9.length)]⟩:Env) (Z3 O n [some ⟨true,26,1,z9.length,fl (eL (eI .u64)) z9⟩]) (n+1)) ?_
  intro s0_ x0_ hs0_
  unfold K3 at hs0_
  try dsimp only
  refine Zk [3,9,10,11,12] (Zb Zc [] ?_)
  simp only [push_cast,seval,Za,hN0,hN]
  refine Zf ?_
  refine Zo (t:=(decide (s0_.1 < (a0.length:Int)))) rfl (fun c8 => ?_) (fun c8 => ?_)
  ·replace hs0_:=Zw c8 hs0_
   refine Zt ?_
   try simp only [Zh,Ze]
   refine Zg [3,9,10,11] [true] ?_
   simp only [push_cast,seval]
   refine Zf ?_
   refine Yo ?_
   obtain ⟨x4,hx4,ax4,bx4,cx4,hs0_⟩:=bE (f:=(eL (eI .u64))) Uv (fun _=>rfl) (by decide) hs0_
   refine Zk [3,4,5,9,10,11] (Zb Zc [] ?_)
   simp only [push_cast,Nat.reduceAdd,Nat.reduceSub,Nat.reduceMul,Nat.reduceLeDiff,Nat.reduceLT,Nat.reduceEqDiff,↓reduceIte,reduceCtorEq,Int.reduceBEq,Int.reduceBNe,Nat.reduceBEq,Int.reduceLE,Int.reduceLT,Int.reduceEq,Int.reduceNe,Int.reduceNeg,Nat.reduceDiv,Nat.reduceMod,Nat.reducePow,Za,ax4,bx4,cx4,hN0,hN]
   obtain ⟨y5,hy5,hs0_⟩:=bC hs0_
   obtain ⟨x6,hx6,ax6,bx6,cx6,hs0_⟩:=bE (f:=(eL (eI .u64))) Uv (fun _=>rfl) (by decide) hs0_
   have gu7:Uj (fl (eL (eI .u64)) s0_.2) [.sl y5.length (fl (eI .u64) y5)] (Int.toNat s0_.1 * 1)=some (fl (eL (eI .u64)) (Xs s0_.2 s0_.1 y5)):=Zgd (f:=(eL (eI .u64))) (ti:=⟨.bool,1,0,[],false⟩) (x:=y5) (fun _=>rfl) (Zbt hx6)
   refine Zb Zc [] ?_
   simp only [push_cast,Nat.reduceAdd,Nat.reduceSub,Nat.reduceMul,Nat.reduceLeDiff,Nat.reduceLT,Nat.reduceEqDiff,↓reduceIte,reduceCtorEq,Int.reduceBEq,Int.reduceBNe,Nat.reduceBEq,Int.reduceLE,Int.reduceLT,Int.reduceEq,Int.reduceNe,Int.reduceNeg,Nat.reduceDiv,Nat.reduceMod,Nat.reducePow,Za,ax6,bx6,cx6,gu7,hN0,hN]
   refine (Zcp hy5).then ?_
   simp only [push_cast,Nat.reduceAdd,Nat.reduceSub,Nat.reduceMul,Nat.reduceLeDiff,Nat.reduceLT,Nat.reduceEqDiff,↓reduceIte,reduceCtorEq,Int.reduceBEq,Int.reduceBNe,Nat.reduceBEq,Int.reduceLE,Int.reduceLT,Int.reduceEq,Int.reduceNe,Int.reduceNeg,Nat.reduceDiv,Nat.reduceMod,Nat.reducePow,Za,ax6,bx6,cx6,gu7,hN0,hN]
   refine Zg [3,9,10,11] [true] ?_
   simp only [push_cast,seval]
   refine Zb Zc [] ?_
   simp only [push_cast,seval,Za,hN0,hN]
   have hs0_:=Option.some.inj hs0_;subst hs0_
   refine And.intro rfl (Fit2.of (Zm hU rfl rfl ?_) (by omega))
   simp only [push_cast,seval,Za,hN0,hN]
  replace hs0_:=Zv c8 hs0_
  refine Q7 ?_
  try simp only [Zh,Ze,↓reduceIte,Nat.reduceEqDiff]
  have hs0_:=Option.some.inj hs0_;subst hs0_
  refine And.intro (fun h=>by cases h) (And.intro rfl (Fit2.of (Zm hU rfl rfl ?_) (by omega)))
  simp only [push_cast,seval,Za,hN0,hN]
 try simp only [Zh,Ze,↓reduceIte,Nat.reduceEqDiff]
 refine Zg [3] [true] ?_
 simp only [push_cast,seval]
 refine Zk [2] (Zb Zc [] ?_)
 simp only [push_cast,seval,Za,hN0,hN]
 refine Zu ?_
 try simp only [Zh,Ze]
 have h:=Option.some.inj h;subst h
 refine Zl (.inr rfl) hU [.row n z9.length] (by omega) ?_
 simp only [push_cast,seval,Za,Tryz.results50,hN0,hN]
theorem Z0w {a0:(List (List Int))} {r:(Option Zp)} {O:Objs} {n:Nat} (h:Zeq a0=some r):GTo Tryz.prog 23 [.sl a0.length (fl (eL (eI .u64)) a0)] O n ((gP Zz r)) O n:=by
 unfold Zeq at h
 refine Ye Zc Tryz.call23 Tryz.func23 rfl (Nat.le_of_ble_eq_true rfl) (Nat.le_refl _) fun hU => ?_
 have hN0:O n=none:=hU.fresh _ (Nat.le_refl _)
 have hN:∀ k,O (n+k)=none:=fun k=>hU.fresh _ (Nat.le_add_right _ _)
 show W _ _ _ _ ⟨7,[],[(0,.sl a0.length (fl (eL (eI .u64)) a0))]⟩ (Z3 O n []) _
 refine Zk [0] (Zb Zc [] ?_)
 simp only [push_cast,seval,Za,hN0,hN]
 refine Zf ?_
 obtain ⟨y2,hy2,h⟩:=bC h
 refine Zb Zc [] ?_
 simp only [push_cast,seval,Za,hN0,hN]
 refine (Zt7 hy2).then ?_
 simp only [push_cast,seval,Za,hN0,hN]
 refine Zg [2] [true] ?_
 simp only [push_cast,seval]
 refine Zu ?_
 try simp only [Zh,Ze]
 have h:=Option.some.inj h;subst h
 refine Zl (.inr rfl) hU [.ref n 0] (by omega) ?_
 simp only [push_cast,seval,Za,Tryz.results23,hN0,hN]
theorem Zm2 {a0:Yd} {r:Yd} {O:Objs} {n:Nat} (h:K9 a0=some r):GTo Tryz.prog 4 [.agg (Yx a0)] O n (.agg (Yx r)) O n:=by
 unfold K9 at h
 refine Ye Zc Tryz.call4 Tryz.func4 rfl (Nat.le_of_ble_eq_true rfl) (Nat.le_refl _) fun hU => ?_
 have hN0:O n=none:=hU.fresh _ (Nat.le_refl _)
 have hN:∀ k,O (n+k)=none:=fun k=>hU.fresh _ (Nat.le_add_right _ _)
 show W _ _ _ _ ⟨8,[],[(0,.agg (Yx a0))]⟩ (Z3 O n []) _
 refine Zk [1,2] (Zb Zc [] ?_)
 simp only [push_cast,seval,Za,hN0,hN]
 obtain ⟨z1,hz1,h⟩:=bC h
 refine Yr (E':=⟨8,[],[(1,.ref n 0),(2,.ref (n+1) 0)]⟩) (O':=(Z3 O n [some ⟨false,24,4,1,[.val (.int .i64 a0.Depth),.val (.int .i64 z1),.val (.int .i64 a0.MaxD),.val (.int .i64 a0.MaxOut)]⟩,some ⟨false,24,4,1,[.val (.int .i64 0),.val (.int .i64 0),.val (.int .i64 0),.val (.int .i64 0)]⟩])) (n0:=(n+2)) ?_ ?_
 ·refine Zk [1,2,5] (Zb Zc [] ?_)
  simp only [push_cast,seval,Za,hN0,hN]
  refine Zo (t:=(decide (3000 < a0.Weight))) rfl (fun c2 => ?_) (fun c2 => ?_)
  ·replace hz1:=Zw c2 hz1
   refine Zb Zc [] ?_
   simp only [push_cast,seval,Za,hN0,hN]
   have hz1:=Option.some.inj hz1;subst hz1
   refine And.intro rfl (Fit2.of (Zm hU rfl rfl ?_) (by omega))
   simp only [push_cast,seval,Za,hN0,hN]
  replace hz1:=Zv c2 hz1
  refine Zt ?_
  try simp only [Zh,Ze]
  have hz1:=Option.some.inj hz1;subst hz1
  refine And.intro rfl (Fit2.of (Zm hU rfl rfl ?_) (by omega))
  simp only [push_cast,seval,Za,hN0,hN]
 refine Zf ?_
 refine Zb Zc [] ?_
 simp only [push_cast,seval,Za,hN0,hN]
 refine Zg [2] [false,true] ?_
 simp only [push_cast,seval]
 refine Zu ?_
 try simp only [Zh,Ze]
 have h:=Option.some.inj h;subst h
 refine Zl (.inr rfl) hU [.agg [.val (.int .i64 a0.Depth),.val (.int .i64 z1),.val (.int .i64 a0.MaxD),.val (.int .i64 a0.MaxOut)]] (by omega) ?_
 simp only [push_cast,seval,Za,Tryz.results4,hN0,hN]
theorem V5 {a0:Int} {a1:Int} {r:Int} {O:Objs} {n:Nat} (h:Qd a0 a1=some r):GTo Tryz.prog 24 [.val (.int .i64 a0),.val (.int .i64 a1)] O n (.val (.int .i64 r)) O n:=by
 unfold Qd at h
 refine Ye Zc Tryz.call24 Tryz.func24 rfl (Nat.le_of_ble_eq_true rfl) (Nat.le_refl _) fun hU => ?_
 have hN0:O n=none:=hU.fresh _ (Nat.le_refl _)
 have hN:∀ k,O (n+k)=none:=fun k=>hU.fresh _ (Nat.le_add_right _ _)
 show W _ _ _ _ ⟨12,[],[(0,.val (.int .i64 a0)),(1,.val (.int .i64 a1))]⟩ (Z3 O n []) _
 refine Zk [0,1] (Zb Zc [] ?_)
 simp only [push_cast,seval,Za,hN0,hN]
 refine Zf ?_
 refine Zk [0,1,6] (Zb Zc [] ?_)
 simp only [push_cast,seval,Za,hN0,hN]
 refine Zo (t:=(decide (a0 < 0))) rfl (fun c2 => ?_) (fun c2 => ?_)
 ·replace h:=Zw c2 h
  refine Zk [4] (Zb Zc [] ?_)
  simp only [push_cast,seval,Za,hN0,hN]
  refine Zu ?_
  try simp only [Zh,Ze]
  have h:=Option.some.inj h;subst h
  refine Zl (.inr rfl) hU [.val (.int .i64 0)] (by omega) ?_
  simp only [push_cast,seval,Za,Tryz.results24,hN0,hN]
 replace h:=Zv c2 h
 refine Zt ?_
 try simp only [Zh,Ze]
 refine Zg [0,1] [] ?_
 simp only [push_cast,seval]
 refine Zf ?_
 refine Zk [0,1,9] (Zb Zc [] ?_)
 simp only [push_cast,seval,Za,hN0,hN]
 refine Zo (t:=(decide (a1 < a0))) rfl (fun c1 => ?_) (fun c1 => ?_)
 ·replace h:=Zw c1 h
  refine Zk [4] (Zb Zc [] ?_)
  simp only [push_cast,seval,Za,hN0,hN]
  refine Zu ?_
  try simp only [Zh,Ze]
  have h:=Option.some.inj h;subst h
  refine Zl (.inr rfl) hU [.val (.int .i64 a1)] (by omega) ?_
  simp only [push_cast,seval,Za,Tryz.results24,hN0,hN]
 replace h:=Zv c1 h
 refine Zt ?_
 try simp only [Zh,Ze]
 refine Zg [0] [] ?_
 simp only [push_cast,seval]
 refine Zk [4] (Zb Zc [] ?_)
 simp only [push_cast,seval,Za,hN0,hN]
 refine Zu ?_
 try simp only [Zh,Ze]
 have h:=Option.some.inj h;subst h
 refine Zl (.inr rfl) hU [.val (.int .i64 a0)] (by omega) ?_
 simp only [push_cast,seval,Za,Tryz.results24,hN0,hN]
theorem Zjj {a0:Yd} {r:Yd} {O:Objs} {n:Nat} (h:Kt a0=some r):GTo Tryz.prog 11 [.agg (Yx a0)] O n (.agg (Yx r)) O n:=by
 unfold Kt at h
 refine Ye Zc Tryz.call11 Tryz.func11 rfl (Nat.le_of_ble_eq_true rfl) (Nat.le_refl _) fun hU => ?_
 have hN0:O n=none:=hU.fresh _ (Nat.le_refl _)
 have hN:∀ k,O (n+k)=none:=fun k=>hU.fresh _ (Nat.le_add_right _ _)
 show W _ _ _ _ ⟨16,[],[(0,.agg (Yx a0))]⟩ (Z3 O n []) _
 refine Zk [1,2] (Zb Zc [] ?_)
 simp only [push_cast,seval,Za,hN0,hN]
 refine Zf ?_
 obtain ⟨y5,hy5,h⟩:=bC h
 obtain ⟨y6,hy6,h⟩:=bC h
 obtain ⟨y7,hy7,h⟩:=bC h
 obtain ⟨y8,hy8,h⟩:=bC h
 refine Zst Zc (by kernel_rfl) [false,false,false,false,false,false,false,false,false,false,false,false,false,true] [] (by kernel_rfl) ?_
 simp only [push_cast,seval,Za,hN0,hN]
 refine PCall.of (V5 hy5) ?_
 simp only [push_cast,seval,Za,hN0,hN]
 refine PCall.of (V5 hy6) ?_
 simp only [push_cast,seval,Za,hN0,hN]
 refine PCall.of (V5 hy7) ?_
 simp only [push_cast,seval,Za,hN0,hN]
 refine PCall.of (V5 hy8) ?_
 simp only [push_cast,seval,Za,hN0,hN]
 refine Zg [2] [false,true] ?_
 simp only [push_cast,seval]
 refine Zu ?_
 try simp only [Zh,Ze]
 have h:=Option.some.inj h;subst h
 refine Zl (.inr rfl) hU [.agg [.val (.int .i64 y5),.val (.int .i64 y6),.val (.int .i64 y7),.val (.int .i64 y8)]] (by omega) ?_
 simp only [push_cast,seval,Za,Tryz.results11,hN0,hN]
theorem V4 {a0:(List (List Int))} {a1:Int} {a2:Int} {r:Bool} {O:Objs} {n:Nat} (h:Jf a0 a1 a2=some r):GTo Tryz.prog 51 [.sl a0.length (fl (eL (eI .u64)) a0),.val (.int .i64 a1),.val (.int .i64 a2)] O n (.val (.bool r)) O n:=by
 unfold Jf at h
 refine Ye Zc Tryz.call51 Tryz.func51 rfl (Nat.le_of_ble_eq_true rfl) (Nat.le_refl _) fun hU => ?_
 have hN0:O n=none:=hU.fresh _ (Nat.le_refl _)
 have hN:∀ k,O (n+k)=none:=fun k=>hU.fresh _ (Nat.le_add_right _ _)
 show W _ _ _ _ ⟨28,[],[(0,.sl a0.length (fl (eL (eI .u64)) a0)),(1,.val (.int .i64 a1)),(2,.val (.int .i64 a2))]⟩ (Z3 O n []) _
 refine Zk [0,1,2] (Zb Zc [] ?_)
 simp only [push_cast,seval,Za,hN0,hN]
 obtain ⟨z2,hz2,h⟩:=bC h
 refine Yr (E':=⟨28,[],[(6,.val (.bool z2))]⟩) (O':=(Z3 O n [])) (n0:=n) ?_ ?_
 ·rcases Bool.eq_false_or_eq_true (decide (0≤a1)) with c5 | c5
  ·replace hz2:=Zw c5 hz2
   rcases Bool.eq_false_or_eq_true (decide (a1 < (a0.length:Int))) with c6 | c6
   ·replace hz2:=Zw c6 hz2
    try rw [c6] at c5
    rcases Bool.eq_false_or_eq_true (decide (0≤a2)) with c7 | c7
    ·replace hz2:=Zw c7 hz2
     try rw [c7] at c5
     try rw [c7] at c6
     obtain ⟨x4,hx4,ax4,bx4,cx4,hz2⟩:=bE (f:=(eL (eI .u64))) Uv (fun _=>rfl) (by decide) hz2
     refine Zb Zc (Ybk (Yet [])) ?_
     simp only [push_cast,Nat.reduceAdd,Nat.reduceSub,Nat.reduceMul,Nat.reduceLeDiff,Nat.reduceLT,Nat.reduceEqDiff,↓reduceIte,reduceCtorEq,Int.reduceBEq,Int.reduceBNe,Nat.reduceBEq,Int.reduceLE,Int.reduceLT,Int.reduceEq,Int.reduceNe,Int.reduceNeg,Nat.reduceDiv,Nat.reduceMod,Nat.reducePow,Za,c5,c6,c7,ax4,bx4,cx4,hN0,hN]
     repeat (with_reducible refine And.intro (by first | (intro h0;simp only [h0];done) | (intro h0;simp only [h0,true_and,and_true,imp_self,implies_true,ne_eq];done) | (intros;simp_all;done) | exact True.intro) ?_)
     have hz2:=Option.some.inj hz2;subst hz2
     refine And.intro rfl (Fit2.of (Zm hU rfl rfl ?_) (by omega))
     simp only [push_cast,Nat.reduceAdd,Nat.reduceSub,Nat.reduceMul,Nat.reduceLeDiff,Nat.reduceLT,Nat.reduceEqDiff,↓reduceIte,reduceCtorEq,Int.reduceBEq,Int.reduceBNe,Nat.reduceBEq,Int.reduceLE,Int.reduceLT,Int.reduceEq,Int.reduceNe,Int.reduceNeg,Nat.reduceDiv,Nat.reduceMod,Nat.reducePow,Za,c5,c6,c7,ax4,bx4,cx4,hN0,hN]
    replace hz2:=Zv c7 hz2
    try rw [c7] at c5
    try rw [c7] at c6
    refine Zb Zc (Ybk (Z80 [])) ?_
    simp only [push_cast,seval,Za,c5,c6,c7,hN0,hN]
    repeat (with_reducible refine And.intro (by first | (intro h0;simp only [h0];done) | (intro h0;simp only [h0,true_and,and_true,imp_self,implies_true,ne_eq];done) | (intros;simp_all;done) | exact True.intro) ?_)
    have hz2:=Option.some.inj hz2;subst hz2
    refine And.intro rfl (Fit2.of (Zm hU rfl rfl ?_) (by omega))
    simp only [push_cast,seval,Za,c5,c6,c7,hN0,hN]
   replace hz2:=Zv c6 hz2
   try rw [c6] at c5
   refine Zb Zc (Ybk (Z80 [])) ?_
   simp only [push_cast,seval,Za,c5,c6,hN0,hN]
   repeat (with_reducible refine And.intro (by first | (intro h0;simp only [h0];done) | (intro h0;simp only [h0,true_and,and_true,imp_self,implies_true,ne_eq];done) | (intros;simp_all;done) | exact True.intro) ?_)
   have hz2:=Option.some.inj hz2;subst hz2
   refine And.intro rfl (Fit2.of (Zm hU rfl rfl ?_) (by omega))
   simp only [push_cast,seval,Za,c5,c6,hN0,hN]
  replace hz2:=Zv c5 hz2
  refine Zb Zc (Ybk (Z80 [])) ?_
  simp only [push_cast,seval,Za,c5,hN0,hN]
  repeat (with_reducible refine And.intro (by first | (intro h0;simp only [h0];done) | (intro h0;simp only [h0,true_and,and_true,imp_self,implies_true,ne_eq];done) | (intros;simp_all;done) | exact True.intro) ?_)
  have hz2:=Option.some.inj hz2;subst hz2
  refine And.intro rfl (Fit2.of (Zm hU rfl rfl ?_) (by omega))
  simp only [push_cast,seval,Za,c5,hN0,hN]
 refine Zu ?_
 try simp only [Zh,Ze]
 have h:=Option.some.inj h;subst h
 refine Zl (.inr rfl) hU [.val (.bool z2)] (by omega) ?_
 simp only [push_cast,seval,Za,Tryz.results51,hN0,hN]
theorem Xv {a0:Int} {a1:Int} {a2:Int} {r:Int} {O:Objs} {n:Nat} (h:Z7 a0 a1 a2=some r):GTo Tryz.prog 54 [.val (.int .u64 a0),.val (.int .i64 a1),.val (.int .i64 a2)] O n (.val (.int .i64 r)) O n:=by
 unfold Z7 at h
 refine Ye Zc Tryz.call54 Tryz.func54 rfl (Nat.le_of_ble_eq_true rfl) (Nat.le_refl _) fun hU => ?_
 have hN0:O n=none:=hU.fresh _ (Nat.le_refl _)
 have hN:∀ k,O (n+k)=none:=fun k=>hU.fresh _ (Nat.le_add_right _ _)
 show W _ _ _ _ ⟨34,[],[(0,.val (.int .u64 a0)),(1,.val (.int .i64 a1)),(2,.val (.int .i64 a2))]⟩ (Z3 O n []) _
 refine Zk [0,1,2] (Zb Zc [] ?_)
 simp only [push_cast,seval,Za,hN0,hN]
 refine Zf ?_
 refine Zk [0,1,2,7] (Zb Zc [] ?_)
 simp only [push_cast,seval,Za,hN0,hN]
 refine Zg [0,1,2,7] [] ?_
 simp only [push_cast,seval]
 obtain ⟨z2,hz2,h⟩:=bC h
 refine Xx (E':=⟨34,[],[(0,.val (.int .u64 z2)),(2,.val (.int .i64 a2))]⟩) (O':=(Z3 O n [])) (n0:=n) ?_ ?_
 ·refine Qt hz2 (fun s0_=>⟨34,[],[(0,.val (.int .u64 s0_.1)),(1,.val (.int .i64 a1)),(2,.val (.int .i64 a2)),(7,.val (.int .i64 s0_.2))]⟩) (fun s0_=>(Z3 O n [])) (fun z2=>JX 0 n (⟨34,[],[(0,.val (.int .u64 z2)),(2,.val (.int .i64 a2))]⟩:Env) (Z3 O n []) n) ?_
  intro s0_ x0_ hs0_
  unfold Vj at hs0_
  try dsimp only
  refine Zf ?_
  refine Zk [0,1,2,7,13] (Zb Zc [] ?_)
  simp only [push_cast,seval,Za,hN0,hN]
  refine Zo (t:=(decide (s0_.2 < a1))) rfl (fun c1 => ?_) (fun c1 => ?_)
  ·replace hs0_:=Zw c1 hs0_
   refine Zt ?_
   try simp only [Zh,Ze]
   refine Zg [0,1,2,7] [] ?_
   simp only [push_cast,seval]
   refine Zf ?_
   refine Yo ?_
   refine Zb Zc [] ?_
   simp only [push_cast,seval,Za,hN0,hN]
   refine Zg [0,1,2,7] [] ?_
   simp only [push_cast,seval]
   refine Zb Zc [] ?_
   simp only [push_cast,seval,Za,hN0,hN]
   have hs0_:=Option.some.inj hs0_;subst hs0_
   refine And.intro rfl (Fit2.of (Zm hU rfl rfl ?_) (by omega))
   simp only [push_cast,seval,Za,hN0,hN]
  replace hs0_:=Zv c1 hs0_
  refine Q7 ?_
  try simp only [Zh,Ze,↓reduceIte,Nat.reduceEqDiff]
  have hs0_:=Option.some.inj hs0_;subst hs0_
  refine And.intro (fun h=>by cases h) (And.intro rfl (Fit2.of (Zm hU rfl rfl ?_) (by omega)))
  simp only [push_cast,seval,Za,hN0,hN]
 try simp only [Zh,Ze,↓reduceIte,Nat.reduceEqDiff]
 refine Zg [0,2] [] ?_
 simp only [push_cast,seval]
 refine Zk [0,2,8,9] (Zb Zc [] ?_)
 simp only [push_cast,seval,Za,hN0,hN]
 refine Zf ?_
 refine Zk [0,2,8,9,10] (Zb Zc [] ?_)
 simp only [push_cast,seval,Za,hN0,hN]
 refine Zg [0,2,8,9,10] [] ?_
 simp only [push_cast,seval]
 obtain ⟨z6,hz6,h⟩:=bC h
 refine Xx (E':=⟨34,[],[(8,.val (.int .i64 z6))]⟩) (O':=(Z3 O n [])) (n0:=n) ?_ ?_
 ·refine Qt hz6 (fun s1_=>⟨34,[],[(0,.val (.int .u64 s1_.1)),(2,.val (.int .i64 a2)),(8,.val (.int .i64 s1_.2.1)),(9,.val (.int .i64 s1_.2.2.1)),(10,.val (.int .i64 s1_.2.2.2))]⟩) (fun s1_=>(Z3 O n [])) (fun z6=>JX 2 n (⟨34,[],[(8,.val (.int .i64 z6))]⟩:Env) (Z3 O n []) n) ?_
  intro s1_ x1_ hs1_
  unfold Vk at hs1_
  try dsimp only
  refine Zf ?_
  refine Zk [0,2,8,9,10,20] (Zb Zc [] ?_)
  simp only [push_cast,seval,Za,hN0,hN]
  refine Zo (t:=(decide (s1_.2.2.2 < a2))) rfl (fun c5 => ?_) (fun c5 => ?_)
  ·replace hs1_:=Zw c5 hs1_
   refine Zt ?_
   try simp only [Zh,Ze]
   refine Zg [0,2,8,9,10] [] ?_
   simp only [push_cast,seval]
   refine Zf ?_
   refine Yo ?_
   obtain ⟨z3,hz3,hs1_⟩:=bC hs1_
   refine Yr (E':=⟨34,[],[(0,.val (.int .u64 s1_.1)),(2,.val (.int .i64 a2)),(8,.val (.int .i64 z3)),(9,.val (.int .i64 s1_.2.2.1)),(10,.val (.int .i64 s1_.2.2.2))]⟩) (O':=(Z3 O n [])) (n0:=n) ?_ ?_
   ·refine Zk [0,2,8,9,10,25] (Zb Zc [] ?_)
    simp only [push_cast,seval,Za,hN0,hN]
    refine Zo (t:=((Int.tmod s1_.1 2) == 1)) rfl (fun c4 => ?_) (fun c4 => ?_)
    ·replace hz3:=Zw c4 hz3
     refine Zb Zc [] ?_
     simp only [push_cast,seval,Za,hN0,hN]
     have hz3:=Option.some.inj hz3;subst hz3
     refine And.intro rfl (Fit2.of (Zm hU rfl rfl ?_) (by omega))
     simp only [push_cast,seval,Za,hN0,hN]
    replace hz3:=Zv c4 hz3
    refine Zt ?_
    try simp only [Zh,Ze]
    have hz3:=Option.some.inj hz3;subst hz3
    refine And.intro rfl (Fit2.of (Zm hU rfl rfl ?_) (by omega))
    simp only [push_cast,seval,Za,hN0,hN]
   refine Zk [0,2,8,9,10] (Zb Zc [] ?_)
   simp only [push_cast,seval,Za,hN0,hN]
   refine Zb Zc [] ?_
   simp only [push_cast,seval,Za,hN0,hN]
   refine Zg [0,2,8,9,10] [] ?_
   simp only [push_cast,seval]
   refine Zb Zc [] ?_
   simp only [push_cast,seval,Za,hN0,hN]
   have hs1_:=Option.some.inj hs1_;subst hs1_
   refine And.intro rfl (Fit2.of (Zm hU rfl rfl ?_) (by omega))
   simp only [push_cast,seval,Za,hN0,hN]
  replace hs1_:=Zv c5 hs1_
  refine Q7 ?_
  try simp only [Zh,Ze,↓reduceIte,Nat.reduceEqDiff]
  have hs1_:=Option.some.inj hs1_;subst hs1_
  refine And.intro (fun h=>by cases h) (And.intro rfl (Fit2.of (Zm hU rfl rfl ?_) (by omega)))
  simp only [push_cast,seval,Za,hN0,hN]
 try simp only [Zh,Ze,↓reduceIte,Nat.reduceEqDiff]
 refine Zg [8] [] ?_
 simp only [push_cast,seval]
 refine Zk [6] (Zb Zc [] ?_)
 simp only [push_cast,seval,Za,hN0,hN]
 refine Zu ?_
 try simp only [Zh,Ze]
 have h:=Option.some.inj h;subst h
 refine Zl (.inr rfl) hU [.val (.int .i64 z6)] (by omega) ?_
 simp only [push_cast,seval,Za,Tryz.results54,hN0,hN]
theorem Qr {a0:Int} {r:Z4} {O:Objs} {n:Nat} (h:Xd a0=some r):GTo Tryz.prog 26 [.val (.int .u64 a0)] O n (.agg (Yk r)) O n:=by
 unfold Xd at h
 refine Ye Zc Tryz.call26 Tryz.func26 rfl (Nat.le_of_ble_eq_true rfl) (Nat.le_refl _) fun hU => ?_
 have hN0:O n=none:=hU.fresh _ (Nat.le_refl _)
 have hN:∀ k,O (n+k)=none:=fun k=>hU.fresh _ (Nat.le_add_right _ _)
 show W _ _ _ _ ⟨42,[],[(0,.val (.int .u64 a0))]⟩ (Z3 O n []) _
 refine Zk [0,2] (Zb Zc [] ?_)
 simp only [push_cast,seval,Za,hN0,hN]
 refine Zf ?_
 refine Zk [0,2,5] (Zb Zc [] ?_)
 simp only [push_cast,seval,Za,hN0,hN]
 refine Zo (t:=(a0 == 0)) rfl (fun c24 => ?_) (fun c24 => ?_)
 ·replace h:=Zw c24 h
  refine Zf ?_
  refine Zb Zc [] ?_
  simp only [push_cast,seval,Za,hN0,hN]
  refine Zg [2] [true] ?_
  simp only [push_cast,seval]
  refine Zu ?_
  try simp only [Zh,Ze]
  have h:=Option.some.inj h;subst h
  refine Zl (.inr rfl) hU [.agg [.val (.int .i64 0),.val (.int .i64 0),.val (.int .i64 0),.val (.int .i64 0),.val (.int .i64 0),.val (.int .i64 0),.val (.int .i64 0),.val (.bool false)]] (by omega) ?_
  simp only [push_cast,seval,Za,Tryz.results26,hN0,hN]
 replace h:=Zv c24 h
 refine Zt ?_
 try simp only [Zh,Ze]
 refine Zg [0,2] [true] ?_
 simp only [push_cast,seval]
 refine Zf ?_
 obtain ⟨y2,hy2,h⟩:=bC h
 refine Zb Zc [] ?_
 simp only [push_cast,seval,Za,hN0,hN]
 refine (Xv hy2).then ?_
 simp only [push_cast,seval,Za,hN0,hN]
 refine Zg [0,2,3] [true] ?_
 simp only [push_cast,seval]
 obtain ⟨z3,hz3,h⟩:=bC h
 refine Yr (E':=⟨42,[],[(0,.val (.int .u64 a0)),(2,.ref n 0),(3,.val (.int .i64 z3))]⟩) (O':=(Z3 O n [some ⟨false,79,8,1,[.val (.int .i64 0),.val (.int .i64 0),.val (.int .i64 0),.val (.int .i64 0),.val (.int .i64 0),.val (.int .i64 0),.val (.int .i64 0),.val (.bool false)]⟩])) (n0:=(n+1)) ?_ ?_
 ·refine Zk [0,2,3,10] (Zb Zc [] ?_)
  simp only [push_cast,seval,Za,hN0,hN]
  refine Zo (t:=(decide (536870912≤y2))) rfl (fun c4 => ?_) (fun c4 => ?_)
  ·replace hz3:=Zw c4 hz3
   refine Zb Zc [] ?_
   simp only [push_cast,seval,Za,hN0,hN]
   have hz3:=Option.some.inj hz3;subst hz3
   refine And.intro rfl (Fit2.of (Zm hU rfl rfl ?_) (by omega))
   simp only [push_cast,seval,Za,hN0,hN]
  replace hz3:=Zv c4 hz3
  refine Zt ?_
  try simp only [Zh,Ze]
  have hz3:=Option.some.inj hz3;subst hz3
  refine And.intro rfl (Fit2.of (Zm hU rfl rfl ?_) (by omega))
  simp only [push_cast,seval,Za,hN0,hN]
 refine Zf ?_
 refine Zf ?_
 obtain ⟨y6,hy6,h⟩:=bC h
 refine Zb Zc [] ?_
 simp only [push_cast,seval,Za,hN0,hN]
 refine (Xv hy6).then ?_
 simp only [push_cast,seval,Za,hN0,hN]
 refine Zg [0,2,3,14] [true] ?_
 simp only [push_cast,seval]
 refine Yo ?_
 refine Zk [0,2,3,14,15] (Zb Zc [] ?_)
 simp only [push_cast,seval,Za,hN0,hN]
 refine Zo (t:=(y6 == 0)) rfl (fun c23 => ?_) (fun c23 => ?_)
 ·replace h:=Zw c23 h
  refine Zf ?_
  obtain ⟨y9,hy9,h⟩:=bC h
  obtain ⟨y10,hy10,h⟩:=bC h
  refine Zb Zc [] ?_
  simp only [push_cast,seval,Za,hN0,hN]
  refine (Xv hy9).then ?_
  simp only [push_cast,seval,Za,hN0,hN]
  refine (Xv hy10).then ?_
  simp only [push_cast,seval,Za,hN0,hN]
  refine Zg [2] [true] ?_
  simp only [push_cast,seval]
  refine Zu ?_
  try simp only [Zh,Ze]
  have h:=Option.some.inj h;subst h
  refine Zl (.inr rfl) hU [.agg [.val (.int .i64 1),.val (.int .i64 z3),.val (.int .i64 y9),.val (.int .i64 y10),.val (.int .i64 0),.val (.int .i64 0),.val (.int .i64 0),.val (.bool false)]] (by omega) ?_
  simp only [push_cast,seval,Za,Tryz.results26,hN0,hN]
 replace h:=Zv c23 h
 refine Zk [0,2,3,14,23] (Zb Zc [] ?_)
 simp only [push_cast,seval,Za,hN0,hN]
 refine Zo (t:=(y6 == 1)) rfl (fun c22 => ?_) (fun c22 => ?_)
 ·replace h:=Zw c22 h
  refine Zf ?_
  obtain ⟨y13,hy13,h⟩:=bC h
  obtain ⟨y14,hy14,h⟩:=bC h
  refine Zb Zc [] ?_
  simp only [push_cast,seval,Za,hN0,hN]
  refine (Xv hy13).then ?_
  simp only [push_cast,seval,Za,hN0,hN]
  refine (Xv hy14).then ?_
  simp only [push_cast,seval,Za,hN0,hN]
  refine Zg [2] [true] ?_
  simp only [push_cast,seval]
  refine Zu ?_
  try simp only [Zh,Ze]
  have h:=Option.some.inj h;subst h
  refine Zl (.inr rfl) hU [.agg [.val (.int .i64 2),.val (.int .i64 z3),.val (.int .i64 0),.val (.int .i64 0),.val (.int .i64 y13),.val (.int .i64 y14),.val (.int .i64 0),.val (.bool false)]] (by omega) ?_
  simp only [push_cast,seval,Za,Tryz.results26,hN0,hN]
 replace h:=Zv c22 h
 refine Zk [0,2,31] (Zb Zc [] ?_)
 simp only [push_cast,seval,Za,hN0,hN]
 refine Zo (t:=(y6 == 2)) rfl (fun c21 => ?_) (fun c21 => ?_)
 ·replace h:=Zw c21 h
  refine Zf ?_
  obtain ⟨y18,hy18,h⟩:=bC h
  obtain ⟨y19,hy19,h⟩:=bC h
  obtain ⟨y20,hy20,h⟩:=bC h
  refine Zb Zc [] ?_
  simp only [push_cast,seval,Za,hN0,hN]
  refine (Xv hy18).then ?_
  simp only [push_cast,seval,Za,hN0,hN]
  refine (Xv hy19).then ?_
  simp only [push_cast,seval,Za,hN0,hN]
  refine (Xv hy20).then ?_
  simp only [push_cast,seval,Za,hN0,hN]
  refine Zg [2] [true] ?_
  simp only [push_cast,seval]
  refine Zu ?_
  try simp only [Zh,Ze]
  have h:=Option.some.inj h;subst h
  refine Zl (.inr rfl) hU [.agg [.val (.int .i64 3),.val (.int .i64 y18),.val (.int .i64 0),.val (.int .i64 0),.val (.int .i64 0),.val (.int .i64 0),.val (.int .i64 y19),.val (.bool (y20 == 1))]] (by omega) ?_
  simp only [push_cast,seval,Za,Tryz.results26,hN0,hN]
 replace h:=Zv c21 h
 refine Zt ?_
 try simp only [Zh,Ze]
 refine Zg [2] [true] ?_
 simp only [push_cast,seval]
 refine Zf ?_
 refine Zb Zc [] ?_
 simp only [push_cast,seval,Za,hN0,hN]
 refine Zg [2] [true] ?_
 simp only [push_cast,seval]
 refine Zu ?_
 try simp only [Zh,Ze]
 have h:=Option.some.inj h;subst h
 refine Zl (.inr rfl) hU [.agg [.val (.int .i64 4),.val (.int .i64 0),.val (.int .i64 0),.val (.int .i64 0),.val (.int .i64 0),.val (.int .i64 0),.val (.int .i64 0),.val (.bool false)]] (by omega) ?_
 simp only [push_cast,seval,Za,Tryz.results26,hN0,hN]
theorem Zdk {a0:Z4} {r:Int} {O:Objs} {n:Nat} (h:Ja a0=some r):GTo Tryz.prog 52 [.agg (Yk a0)] O n (.val (.int .i64 r)) O n:=by
 unfold Ja at h
 refine Ye Zc Tryz.call52 Tryz.func52 rfl (Nat.le_of_ble_eq_true rfl) (Nat.le_refl _) fun hU => ?_
 have hN0:O n=none:=hU.fresh _ (Nat.le_refl _)
 have hN:∀ k,O (n+k)=none:=fun k=>hU.fresh _ (Nat.le_add_right _ _)
 show W _ _ _ _ ⟨14,[],[(0,.agg (Yk a0))]⟩ (Z3 O n []) _
 refine Zk [1] (Zb Zc [] ?_)
 simp only [push_cast,seval,Za,hN0,hN]
 refine Zf ?_
 refine Zk [1,5] (Zb Zc [] ?_)
 simp only [push_cast,seval,Za,hN0,hN]
 refine Zo (t:=(a0.Kind == 4)) rfl (fun c2 => ?_) (fun c2 => ?_)
 ·replace h:=Zw c2 h
  refine Zk [2] (Zb Zc [] ?_)
  simp only [push_cast,seval,Za,hN0,hN]
  refine Zu ?_
  try simp only [Zh,Ze]
  have h:=Option.some.inj h;subst h
  refine Zl (.inr rfl) hU [.val (.int .i64 9)] (by omega) ?_
  simp only [push_cast,seval,Za,Tryz.results52,hN0,hN]
 replace h:=Zv c2 h
 refine Zt ?_
 try simp only [Zh,Ze]
 refine Zg [1] [true] ?_
 simp only [push_cast,seval]
 refine Zf ?_
 refine Zk [13] (Zb Zc [none,none,none] ?_)
 simp only [push_cast,seval,Za,hN0,hN]
 repeat (with_reducible refine And.intro (by first | (intro h0;simp only [h0];done) | (intro h0;simp only [h0,true_and,and_true,imp_self,implies_true,bne_iff_ne,ne_eq];done) | (intros;simp_all;done) | exact True.intro) ?_)
 refine Zo (t:=(cond (a0.Kind != 1) (a0.Kind != 2) false)) rfl (fun c1 => ?_) (fun c1 => ?_)
 ·replace h:=Zw c1 h
  refine Zk [2] (Zb Zc [] ?_)
  simp only [push_cast,seval,Za,hN0,hN]
  refine Zu ?_
  try simp only [Zh,Ze]
  have h:=Option.some.inj h;subst h
  refine Zl (.inr rfl) hU [.val (.int .i64 8)] (by omega) ?_
  simp only [push_cast,seval,Za,Tryz.results52,hN0,hN]
 replace h:=Zv c1 h
 refine Zt ?_
 try simp only [Zh,Ze]
 refine Zg [] [false] ?_
 simp only [push_cast,seval]
 refine Zk [2] (Zb Zc [] ?_)
 simp only [push_cast,seval,Za,hN0,hN]
 refine Zu ?_
 try simp only [Zh,Ze]
 have h:=Option.some.inj h;subst h
 refine Zl (.inr rfl) hU [.val (.int .i64 0)] (by omega) ?_
 simp only [push_cast,seval,Za,Tryz.results52,hN0,hN]
attribute [local push_cast] Bool.and_true Zlk Zli Zih Zff Zlj Zuh
theorem Zm4 {a0:Z4} {r:Int} {O:Objs} {n:Nat} (h:Vb a0=some r):GTo Tryz.prog 81 [.agg (Yk a0)] O n (.val (.int .i64 r)) O n:=by
 unfold Vb at h
 refine Ye Zc Tryz.call81 Tryz.func81 rfl (Nat.le_of_ble_eq_true rfl) (Nat.le_refl _) fun hU => ?_
 have hN0:O n=none:=hU.fresh _ (Nat.le_refl _)
 have hN:∀ k,O (n+k)=none:=fun k=>hU.fresh _ (Nat.le_add_right _ _)
 show W _ _ _ _ ⟨65,[],[(0,.agg (Yk a0))]⟩ (Z3 O n []) _
 refine Zk [1] (Zb Zc [] ?_)
 simp only [push_cast,seval,Za,hN0,hN]
 refine Zf ?_
 refine Zk [1,6] (Zb Zc [] ?_)
 simp only [push_cast,seval,Za,hN0,hN]
 refine Zo (t:=(a0.Kind == 1)) rfl (fun c17 => ?_) (fun c17 => ?_)
 ·replace h:=Zw c17 h
  refine Zk [2] (Zb Zc [] ?_)
  simp only [push_cast,seval,Za,hN0,hN]
  refine Zu ?_
  try simp only [Zh,Ze]
  have h:=Option.some.inj h;subst h
  refine Zl (.inr rfl) hU [.val (.int .i64 (IntKind.i64.wrap (a0.Data+a0.Ptrs)))] (by omega) ?_
  simp only [push_cast,seval,Za,Tryz.results81,hN0,hN]
 replace h:=Zv c17 h
 refine Zt ?_
 try simp only [Zh,Ze]
 refine Zg [1] [true] ?_
 simp only [push_cast,seval]
 refine Zf ?_
 refine Zk [1,14] (Zb Zc [] ?_)
 simp only [push_cast,seval,Za,hN0,hN]
 refine Zo (t:=(a0.Kind != 2)) rfl (fun c16 => ?_) (fun c16 => ?_)
 ·replace h:=Zw c16 h
  refine Zk [2] (Zb Zc [] ?_)
  simp only [push_cast,seval,Za,hN0,hN]
  refine Zu ?_
  try simp only [Zh,Ze]
  have h:=Option.some.inj h;subst h
  refine Zl (.inr rfl) hU [.val (.int .i64 (-1))] (by omega) ?_
  simp only [push_cast,seval,Za,Tryz.results81,hN0,hN]
 replace h:=Zv c16 h
 refine Zt ?_
 try simp only [Zh,Ze]
 refine Zg [1] [true] ?_
 simp only [push_cast,seval]
 refine Zf ?_
 refine Zk [1,17] (Zb Zc [] ?_)
 simp only [push_cast,seval,Za,hN0,hN]
 refine Zo (t:=(a0.Code == 7)) rfl (fun Vn => ?_) (fun Vn => ?_)
 ·replace h:=Zw Vn h
  refine Zk [2] (Zb Zc [] ?_)
  simp only [push_cast,seval,Za,hN0,hN]
  refine Zu ?_
  try simp only [Zh,Ze]
  have h:=Option.some.inj h;subst h
  refine Zl (.inr rfl) hU [.val (.int .i64 (IntKind.i64.wrap (a0.Count+1)))] (by omega) ?_
  simp only [push_cast,seval,Za,Tryz.results81,hN0,hN]
 replace h:=Zv Vn h
 refine Zt ?_
 try simp only [Zh,Ze]
 refine Zg [1] [true] ?_
 simp only [push_cast,seval]
 refine Zf ?_
 refine Zk [1,38] (Zb Zc [none,none,none,none,none,none,none,none,none] ?_)
 simp only [push_cast,seval,Za,hN0,hN]
 repeat (with_reducible refine And.intro (by first | (intro h0;simp only [h0];done) | (intro h0;simp only [h0,true_and,and_true,imp_self,implies_true,ne_eq];done) | (intros;simp_all;done) | exact True.intro) ?_)
 refine Zo (t:=(cond (cond (cond (decide (a0.Code < 0)) true (decide (6 < a0.Code))) true (decide (a0.Count < 0))) true (decide (536870912≤a0.Count)))) rfl (fun c14 => ?_) (fun c14 => ?_)
 ·replace h:=Zw c14 h
  refine Zk [2] (Zb Zc [] ?_)
  simp only [push_cast,seval,Za,hN0,hN]
  refine Zu ?_
  try simp only [Zh,Ze]
  have h:=Option.some.inj h;subst h
  refine Zl (.inr rfl) hU [.val (.int .i64 (-1))] (by omega) ?_
  simp only [push_cast,seval,Za,Tryz.results81,hN0,hN]
 replace h:=Zv c14 h
 refine Zt ?_
 try simp only [Zh,Ze]
 refine Zg [1] [true] ?_
 simp only [push_cast,seval]
 refine Zk [1,3] (Zb Zc [] ?_)
 simp only [push_cast,seval,Za,hN0,hN]
 obtain ⟨z1,hz1,h⟩:=bC h
 refine Z7c (J:=(Gh (fun z1=>JN n (⟨65,[],[(1,.ref n 0),(3,.val (.int .i64 z1))]⟩:Env) (Z3 O n [some ⟨false,79,8,1,(Yk a0)⟩]) (n+1)) (fun z1=>JR n (⟨65,[],[(2,.val (.int .i64 0))]⟩:Env) (Z3 O n [none]) (n+1)))) (z:=z1) ?_ fun hw => ?_
 ·refine Zk [1,3,40] (Zb Zc [] ?_)
  simp only [push_cast,seval,Za,hN0,hN]
  refine Yo ?_
  refine Zk [1,3,40,41] (Zb Zc [] ?_)
  simp only [push_cast,seval,Za,hN0,hN]
  refine Zo (t:=(a0.Code == 0)) rfl (fun c6 => ?_) (fun c6 => ?_)
  ·replace hz1:=Zw c6 hz1
   refine Zk [2] (Zb Zc [] ?_)
   simp only [push_cast,seval,Za,hN0,hN]
   refine Zu ?_
   try simp only [Zh,Ze]
   have hz1:=Option.some.inj hz1;subst hz1
   refine And.intro rfl (Fit2.of (Zm hU rfl rfl ?_) (by omega))
   simp only [push_cast,seval,Za,hN0,hN]
  replace hz1:=Zv c6 hz1
  refine Zk [1,3,40,43] (Zb Zc [] ?_)
  simp only [push_cast,seval,Za,hN0,hN]
  refine Zo (t:=(a0.Code == 1)) rfl (fun c5 => ?_) (fun c5 => ?_)
  ·replace hz1:=Zw c5 hz1
   refine Zb Zc [] ?_
   simp only [push_cast,seval,Za,hN0,hN]
   have hz1:=Option.some.inj hz1;subst hz1
   refine And.intro rfl (Fit2.of (Zm hU rfl rfl ?_) (by omega))
   simp only [push_cast,seval,Za,hN0,hN]
  replace hz1:=Zv c5 hz1
  refine Zk [1,3,40,45] (Zb Zc [] ?_)
  simp only [push_cast,seval,Za,hN0,hN]
  refine Zo (t:=(a0.Code == 2)) rfl (fun c4 => ?_) (fun c4 => ?_)
  ·replace hz1:=Zw c4 hz1
   refine Zb Zc [] ?_
   simp only [push_cast,seval,Za,hN0,hN]
   have hz1:=Option.some.inj hz1;subst hz1
   refine And.intro rfl (Fit2.of (Zm hU rfl rfl ?_) (by omega))
   simp only [push_cast,seval,Za,hN0,hN]
  replace hz1:=Zv c4 hz1
  refine Zk [1,3,40,47] (Zb Zc [] ?_)
  simp only [push_cast,seval,Za,hN0,hN]
  refine Zo (t:=(a0.Code == 3)) rfl (fun c3 => ?_) (fun c3 => ?_)
  ·replace hz1:=Zw c3 hz1
   refine Zb Zc [] ?_
   simp only [push_cast,seval,Za,hN0,hN]
   have hz1:=Option.some.inj hz1;subst hz1
   refine And.intro rfl (Fit2.of (Zm hU rfl rfl ?_) (by omega))
   simp only [push_cast,seval,Za,hN0,hN]
  replace hz1:=Zv c3 hz1
  refine Zk [1,3,49] (Zb Zc [] ?_)
  simp only [push_cast,seval,Za,hN0,hN]
  refine Zo (t:=(a0.Code == 4)) rfl (fun c2 => ?_) (fun c2 => ?_)
  ·replace hz1:=Zw c2 hz1
   refine Zb Zc [] ?_
   simp only [push_cast,seval,Za,hN0,hN]
   have hz1:=Option.some.inj hz1;subst hz1
   refine And.intro rfl (Fit2.of (Zm hU rfl rfl ?_) (by omega))
   simp only [push_cast,seval,Za,hN0,hN]
  replace hz1:=Zv c2 hz1
  refine Zt ?_
  try simp only [Zh,Ze]
  have hz1:=Option.some.inj hz1;subst hz1
  refine And.intro rfl (Fit2.of (Zm hU rfl rfl ?_) (by omega))
  simp only [push_cast,seval,Za,hN0,hN]
 rcases z1 with z1 | z1
 ·dsimp only [Gh] at hw h
  refine Yr hw ?_
  refine Zf ?_
  obtain ⟨pu8,h⟩:=bG h
  refine Zk [1,3,55] (Zb Zc [] ?_)
  simp only [push_cast,seval,Za,pu8,hN0,hN]
  refine Zo (t:=(decide (0 < (Int.tmod a0.Count z1)))) rfl (fun U7 => ?_) (fun U7 => ?_)
  ·replace h:=Zw U7 h
   obtain ⟨pu10,h⟩:=bG h
   refine Zk [2] (Zb Zc [] ?_)
   simp only [push_cast,seval,Za,pu10,hN0,hN]
   refine Zu ?_
   try simp only [Zh,Ze]
   have h:=Option.some.inj h;subst h
   refine Zl (.inr rfl) hU [.val (.int .i64 (IntKind.i64.wrap ((IntKind.i64.wrap (Int.tdiv a0.Count z1))+1)))] (by omega) ?_
   simp only [push_cast,seval,Za,Tryz.results81,hN0,hN]
  replace h:=Zv U7 h
  refine Zt ?_
  try simp only [Zh,Ze]
  refine Zg [1,3] [true] ?_
  simp only [push_cast,seval]
  obtain ⟨pu12,h⟩:=bG h
  refine Zk [2] (Zb Zc [] ?_)
  simp only [push_cast,seval,Za,pu12,hN0,hN]
  refine Zu ?_
  try simp only [Zh,Ze]
  have h:=Option.some.inj h;subst h
  refine Zl (.inr rfl) hU [.val (.int .i64 (IntKind.i64.wrap (Int.tdiv a0.Count z1)))] (by omega) ?_
  simp only [push_cast,seval,Za,Tryz.results81,hN0,hN]
 dsimp only [Gh] at hw h
 refine Z18 hw ?_
 try simp only [Zh,Ze]
 have h:=Option.some.inj h;subst h
 refine Zl (.inr rfl) hU [.val (.int .i64 0)] (by omega) ?_
 simp only [push_cast,seval,Za,Tryz.results81,hN0,hN]
theorem Zdl {a0:(List (List Int))} {a1:Ya} {r:(Ya×Int)} {O:Objs} {n:Nat} (h:Jb a0 a1=some r):GTo Tryz.prog 53 [.sl a0.length (fl (eL (eI .u64)) a0),.agg [.val (.int .i64 a1.P.Kind),.val (.int .i64 a1.P.Off),.val (.int .i64 a1.P.Data),.val (.int .i64 a1.P.Ptrs),.val (.int .i64 a1.P.Code),.val (.int .i64 a1.P.Count),.val (.int .i64 a1.P.Segment),.val (.bool a1.P.Double),.val (.int .i64 a1.Segment),.val (.int .i64 a1.At)]] O n (.tup [.agg [.val (.int .i64 r.1.P.Kind),.val (.int .i64 r.1.P.Off),.val (.int .i64 r.1.P.Data),.val (.int .i64 r.1.P.Ptrs),.val (.int .i64 r.1.P.Code),.val (.int .i64 r.1.P.Count),.val (.int .i64 r.1.P.Segment),.val (.bool r.1.P.Double),.val (.int .i64 r.1.Segment),.val (.int .i64 r.1.At)],.val (.int .i64 r.2)]) O n:=by
 unfold Jb at h
 refine Ye Zc Tryz.call53 Tryz.func53 rfl (Nat.le_of_ble_eq_true rfl) (Nat.le_refl _) fun hU => ?_
 have hN0:O n=none:=hU.fresh _ (Nat.le_refl _)
 have hN:∀ k,O (n+k)=none:=fun k=>hU.fresh _ (Nat.le_add_right _ _)
 show W _ _ _ _ ⟨53,[],[(0,.sl a0.length (fl (eL (eI .u64)) a0)),(1,.agg [.val (.int .i64 a1.P.Kind),.val (.int .i64 a1.P.Off),.val (.int .i64 a1.P.Data),.val (.int .i64 a1.P.Ptrs),.val (.int .i64 a1.P.Code),.val (.int .i64 a1.P.Count),.val (.int .i64 a1.P.Segment),.val (.bool a1.P.Double),.val (.int .i64 a1.Segment),.val (.int .i64 a1.At)])]⟩ (Z3 O n []) _
 refine Zk [0,3,4] (Zb Zc [] ?_)
 simp only [push_cast,seval,Za,hN0,hN]
 refine Zf ?_
 obtain ⟨y2,hy2,h⟩:=bC h
 refine Zb Zc [] ?_
 simp only [push_cast,seval,Za,hN0,hN]
 refine (Zm4 hy2).then ?_
 simp only [push_cast,seval,Za,hN0,hN]
 refine Zg [0,3,4,6] [true,true] ?_
 simp only [push_cast,seval]
 refine Zf ?_
 obtain ⟨z5,hz5,h⟩:=bC h
 refine Yr (E':=⟨53,[],[(3,.ref n 0),(4,.ref (n+1) 0),(48,.val (.bool z5))]⟩) (O':=(Z3 O n [some ⟨false,81,10,1,[.val (.int .i64 a1.P.Kind),.val (.int .i64 a1.P.Off),.val (.int .i64 a1.P.Data),.val (.int .i64 a1.P.Ptrs),.val (.int .i64 a1.P.Code),.val (.int .i64 a1.P.Count),.val (.int .i64 a1.P.Segment),.val (.bool a1.P.Double),.val (.int .i64 a1.Segment),.val (.int .i64 a1.At)]⟩,some ⟨false,81,10,1,[.val (.int .i64 0),.val (.int .i64 0),.val (.int .i64 0),.val (.int .i64 0),.val (.int .i64 0),.val (.int .i64 0),.val (.int .i64 0),.val (.bool false),.val (.int .i64 0),.val (.int .i64 0)]⟩])) (n0:=(n+2)) ?_ ?_
 ·rcases Bool.eq_false_or_eq_true (decide (a1.Segment < 0)) with Gi | Gi
  ·replace hz5:=Zw Gi hz5
   refine Y8 Zc (by kernel_rfl) (Zqj (Z8y [])) (by kernel_rfl) ?_
   simp only [push_cast,seval,Za,Gi,hN0,hN]
   repeat (with_reducible refine And.intro (by first | (intro h0;simp only [h0];done) | (intro h0;simp only [h0,Bool.not_true,true_and,and_true,imp_self,implies_true,ne_eq];done) | (intros;simp_all;done) | exact True.intro) ?_)
   have hz5:=Option.some.inj hz5;subst hz5
   refine And.intro rfl (Fit2.of (Zm hU rfl rfl ?_) (by omega))
   simp only [push_cast,seval,Za,Gi,hN0,hN]
  replace hz5:=Zv Gi hz5
  rcases Bool.eq_false_or_eq_true (decide ((a0.length:Int)≤a1.Segment)) with Kl | Kl
  ·replace hz5:=Zw Kl hz5
   try rw [Kl] at Gi
   refine Y8 Zc (by kernel_rfl) (Zqj (Z8y [])) (by kernel_rfl) ?_
   simp only [push_cast,seval,Za,Gi,Kl,hN0,hN]
   repeat (with_reducible refine And.intro (by first | (intro h0;simp only [h0];done) | (intro h0;simp only [h0,Bool.not_true,true_and,and_true,imp_self,implies_true,ne_eq];done) | (intros;simp_all;done) | exact True.intro) ?_)
   have hz5:=Option.some.inj hz5;subst hz5
   refine And.intro rfl (Fit2.of (Zm hU rfl rfl ?_) (by omega))
   simp only [push_cast,seval,Za,Gi,Kl,hN0,hN]
  replace hz5:=Zv Kl hz5
  try rw [Kl] at Gi
  rcases Bool.eq_false_or_eq_true (decide (a1.At < 0)) with Ux | Ux
  ·replace hz5:=Zw Ux hz5
   try rw [Ux] at Gi
   try rw [Ux] at Kl
   refine Y8 Zc (by kernel_rfl) (Zqj (Z8y [])) (by kernel_rfl) ?_
   simp only [push_cast,seval,Za,Gi,Kl,Ux,hN0,hN]
   repeat (with_reducible refine And.intro (by first | (intro h0;simp only [h0];done) | (intro h0;simp only [h0,Bool.not_true,true_and,and_true,imp_self,implies_true,ne_eq];done) | (intros;simp_all;done) | exact True.intro) ?_)
   have hz5:=Option.some.inj hz5;subst hz5
   refine And.intro rfl (Fit2.of (Zm hU rfl rfl ?_) (by omega))
   simp only [push_cast,seval,Za,Gi,Kl,Ux,hN0,hN]
  replace hz5:=Zv Ux hz5
  try rw [Ux] at Gi
  try rw [Ux] at Kl
  obtain ⟨x8,hx8,ax8,bx8,cx8,hz5⟩:=bE (f:=(eL (eI .u64))) Uv (fun _=>rfl) (by decide) hz5
  rcases Bool.eq_false_or_eq_true (decide ((x8.length:Int) < a1.At)) with U7 | U7
  ·replace hz5:=Zw U7 hz5
   try rw [U7] at Gi
   try rw [U7] at Kl
   try rw [U7] at Ux
   refine Y8 Zc (by kernel_rfl) (Zqj (Yi3 (Yc1 []))) (by kernel_rfl) ?_
   simp only [push_cast,Nat.reduceAdd,Nat.reduceSub,Nat.reduceMul,Nat.reduceLeDiff,Nat.reduceLT,Nat.reduceEqDiff,↓reduceIte,reduceCtorEq,Int.reduceBEq,Int.reduceBNe,Nat.reduceBEq,Int.reduceLE,Int.reduceLT,Int.reduceEq,Int.reduceNe,Int.reduceNeg,Nat.reduceDiv,Nat.reduceMod,Nat.reducePow,Za,Gi,Kl,Ux,ax8,bx8,cx8,U7,hN0,hN]
   repeat (with_reducible refine And.intro (by first | (intro h0;simp only [h0];done) | (intro h0;simp only [h0,Bool.not_true,true_and,and_true,imp_self,implies_true,ne_eq];done) | (intros;simp_all;done) | exact True.intro) ?_)
   have hz5:=Option.some.inj hz5;subst hz5
   refine And.intro rfl (Fit2.of (Zm hU rfl rfl ?_) (by omega))
   simp only [push_cast,Nat.reduceAdd,Nat.reduceSub,Nat.reduceMul,Nat.reduceLeDiff,Nat.reduceLT,Nat.reduceEqDiff,↓reduceIte,reduceCtorEq,Int.reduceBEq,Int.reduceBNe,Nat.reduceBEq,Int.reduceLE,Int.reduceLT,Int.reduceEq,Int.reduceNe,Int.reduceNeg,Nat.reduceDiv,Nat.reduceMod,Nat.reducePow,Za,Gi,Kl,Ux,ax8,bx8,cx8,U7,hN0,hN]
  replace hz5:=Zv U7 hz5
  try rw [U7] at Gi
  try rw [U7] at Kl
  try rw [U7] at Ux
  refine Y8 Zc (by kernel_rfl) (Zqj (Yfs [])) (by kernel_rfl) ?_
  simp only [push_cast,Nat.reduceAdd,Nat.reduceSub,Nat.reduceMul,Nat.reduceLeDiff,Nat.reduceLT,Nat.reduceEqDiff,↓reduceIte,reduceCtorEq,Int.reduceBEq,Int.reduceBNe,Nat.reduceBEq,Int.reduceLE,Int.reduceLT,Int.reduceEq,Int.reduceNe,Int.reduceNeg,Nat.reduceDiv,Nat.reduceMod,Nat.reducePow,Za,Gi,Kl,Ux,ax8,bx8,cx8,U7,hN0,hN]
  repeat (with_reducible refine And.intro (by first | (intro h0;simp only [h0];done) | (intro h0;simp only [h0,Bool.not_true,true_and,and_true,imp_self,implies_true,ne_eq];done) | (intros;simp_all;done) | exact True.intro) ?_)
  have hz5:=Option.some.inj hz5;subst hz5
  refine And.intro rfl (Fit2.of (Zm hU rfl rfl ?_) (by omega))
  simp only [push_cast,Nat.reduceAdd,Nat.reduceSub,Nat.reduceMul,Nat.reduceLeDiff,Nat.reduceLT,Nat.reduceEqDiff,↓reduceIte,reduceCtorEq,Int.reduceBEq,Int.reduceBNe,Nat.reduceBEq,Int.reduceLE,Int.reduceLT,Int.reduceEq,Int.reduceNe,Int.reduceNeg,Nat.reduceDiv,Nat.reduceMod,Nat.reducePow,Za,Gi,Kl,Ux,ax8,bx8,cx8,U7,hN0,hN]
 refine Zo (t:=z5) rfl (fun c14 => ?_) (fun c14 => ?_)
 ·replace h:=Zw c14 h
  refine Zf ?_
  refine Zb Zc [] ?_
  simp only [push_cast,seval,Za,hN0,hN]
  refine Zg [4,5] [false,true] ?_
  simp only [push_cast,seval]
  refine Zu ?_
  try simp only [Zh,Ze]
  have h:=Option.some.inj h;subst h
  refine Zl (.inr rfl) hU [.agg [.val (.int .i64 0),.val (.int .i64 0),.val (.int .i64 0),.val (.int .i64 0),.val (.int .i64 0),.val (.int .i64 0),.val (.int .i64 0),.val (.bool false),.val (.int .i64 0),.val (.int .i64 0)],.val (.int .i64 7)] (by omega) ?_
  simp only [push_cast,seval,Za,Tryz.results53,hN0,hN]
 replace h:=Zv c14 h
 refine Zt ?_
 try simp only [Zh,Ze]
 refine Zg [3,4] [true,true] ?_
 simp only [push_cast,seval]
 refine Zf ?_
 refine Zb Zc [] ?_
 simp only [push_cast,seval,Za,hN0,hN]
 refine Zg [3,4] [true,true] ?_
 simp only [push_cast,seval]
 refine Zf ?_
 refine Zb Zc [] ?_
 simp only [push_cast,seval,Za,hN0,hN]
 refine Zg [4,5] [false,true] ?_
 simp only [push_cast,seval]
 refine Zu ?_
 try simp only [Zh,Ze]
 have h:=Option.some.inj h;subst h
 refine Zl (.inr rfl) hU [.agg [.val (.int .i64 a1.P.Kind),.val (.int .i64 0),.val (.int .i64 a1.P.Data),.val (.int .i64 a1.P.Ptrs),.val (.int .i64 a1.P.Code),.val (.int .i64 a1.P.Count),.val (.int .i64 a1.P.Segment),.val (.bool a1.P.Double),.val (.int .i64 a1.Segment),.val (.int .i64 a1.At)],.val (.int .i64 0)] (by omega) ?_
 simp only [push_cast,seval,Za,Tryz.results53,hN0,hN]
theorem Zji {a0:(List (List Int))} {a1:Int} {a2:Int} {r:(Ya×Int)} {O:Objs} {n:Nat} (h:Jt a0 a1 a2=some r):GTo Tryz.prog 25 [.sl a0.length (fl (eL (eI .u64)) a0),.val (.int .i64 a1),.val (.int .i64 a2)] O n (.tup [.agg [.val (.int .i64 r.1.P.Kind),.val (.int .i64 r.1.P.Off),.val (.int .i64 r.1.P.Data),.val (.int .i64 r.1.P.Ptrs),.val (.int .i64 r.1.P.Code),.val (.int .i64 r.1.P.Count),.val (.int .i64 r.1.P.Segment),.val (.bool r.1.P.Double),.val (.int .i64 r.1.Segment),.val (.int .i64 r.1.At)],.val (.int .i64 r.2)]) O n:=by
 unfold Jt at h
 refine Ye Zc Tryz.call25 Tryz.func25 rfl (Nat.le_of_ble_eq_true rfl) (Nat.le_refl _) fun hU => ?_
 have hN0:O n=none:=hU.fresh _ (Nat.le_refl _)
 have hN:∀ k,O (n+k)=none:=fun k=>hU.fresh _ (Nat.le_add_right _ _)
 show W _ _ _ _ ⟨147,[],[(0,.sl a0.length (fl (eL (eI .u64)) a0)),(1,.val (.int .i64 a1)),(2,.val (.int .i64 a2))]⟩ (Z3 O n []) _
 refine Zk [0,1,2,6] (Zb Zc [] ?_)
 simp only [push_cast,seval,Za,hN0,hN]
 refine Zf ?_
 refine Zf ?_
 obtain ⟨y2,hy2,h⟩:=bC h
 refine Zb Zc [] ?_
 simp only [push_cast,seval,Za,hN0,hN]
 refine (V4 hy2).then ?_
 simp only [push_cast,seval,Za,hN0,hN]
 refine Zg [0,1,2,6,17] [true] ?_
 simp only [push_cast,seval]
 refine Zo (t:=(!y2)) rfl (fun c47 => ?_) (fun c47 => ?_)
 ·replace h:=Zw c47 h
  refine Zf ?_
  refine Zb Zc [] ?_
  simp only [push_cast,seval,Za,hN0,hN]
  refine Zg [6,7] [true] ?_
  simp only [push_cast,seval]
  refine Zu ?_
  try simp only [Zh,Ze]
  have h:=Option.some.inj h;subst h
  refine Zl (.inr rfl) hU [.agg [.val (.int .i64 0),.val (.int .i64 0),.val (.int .i64 0),.val (.int .i64 0),.val (.int .i64 0),.val (.int .i64 0),.val (.int .i64 0),.val (.bool false),.val (.int .i64 0),.val (.int .i64 0)],.val (.int .i64 7)] (by omega) ?_
  simp only [push_cast,seval,Za,Tryz.results25,hN0,hN]
 replace h:=Zv c47 h
 refine Zt ?_
 try simp only [Zh,Ze]
 refine Zg [0,1,2,6] [true] ?_
 simp only [push_cast,seval]
 refine Zf ?_
 obtain ⟨x6,hx6,ax6,bx6,cx6,h⟩:=bE (f:=(eL (eI .u64))) Uv (fun _=>rfl) (by decide) h
 obtain ⟨x7,hx7,ax7,bx7,cx7,h⟩:=bE (f:=(eI .u64)) Ug (fun _=>rfl) (by decide) h
 obtain ⟨y8,hy8,h⟩:=bC h
 refine Zb Zc [] ?_
 simp only [push_cast,Nat.reduceAdd,Nat.reduceSub,Nat.reduceMul,Nat.reduceLeDiff,Nat.reduceLT,Nat.reduceEqDiff,↓reduceIte,reduceCtorEq,Int.reduceBEq,Int.reduceBNe,Nat.reduceBEq,Int.reduceLE,Int.reduceLT,Int.reduceEq,Int.reduceNe,Int.reduceNeg,Nat.reduceDiv,Nat.reduceMod,Nat.reducePow,Za,ax6,bx6,cx6,ax7,bx7,cx7,hN0,hN]
 refine (Qr hy8).then ?_
 simp only [push_cast,Nat.reduceAdd,Nat.reduceSub,Nat.reduceMul,Nat.reduceLeDiff,Nat.reduceLT,Nat.reduceEqDiff,↓reduceIte,reduceCtorEq,Int.reduceBEq,Int.reduceBNe,Nat.reduceBEq,Int.reduceLE,Int.reduceLT,Int.reduceEq,Int.reduceNe,Int.reduceNeg,Nat.reduceDiv,Nat.reduceMod,Nat.reducePow,Za,ax6,bx6,cx6,ax7,bx7,cx7,hN0,hN]
 refine Zg [0,1,2,6,8] [true,true] ?_
 simp only [push_cast,seval]
 refine Zf ?_
 refine Zk [0,1,2,6,8,29] (Zb Zc [] ?_)
 simp only [push_cast,seval,Za,hN0,hN]
 refine Zo (t:=(y8.Kind == 0)) rfl (fun c46 => ?_) (fun c46 => ?_)
 ·replace h:=Zw c46 h
  refine Zf ?_
  refine Zb Zc [] ?_
  simp only [push_cast,seval,Za,hN0,hN]
  refine Zg [6,7] [true,false] ?_
  simp only [push_cast,seval]
  refine Zu ?_
  try simp only [Zh,Ze]
  have h:=Option.some.inj h;subst h
  refine Zl (.inr rfl) hU [.agg [.val (.int .i64 0),.val (.int .i64 0),.val (.int .i64 0),.val (.int .i64 0),.val (.int .i64 0),.val (.int .i64 0),.val (.int .i64 0),.val (.bool false),.val (.int .i64 0),.val (.int .i64 0)],.val (.int .i64 0)] (by omega) ?_
  simp only [push_cast,seval,Za,Tryz.results25,hN0,hN]
 replace h:=Zv c46 h
 refine Zt ?_
 try simp only [Zh,Ze]
 refine Zg [0,1,2,6,8] [true,true] ?_
 simp only [push_cast,seval]
 refine Zf ?_
 refine Zk [0,1,2,6,8,37] (Zb Zc [none,none] ?_)
 simp only [push_cast,seval,Za,hN0,hN]
 repeat (with_reducible refine And.intro (by first | (intro h0;simp only [h0];done) | (intro h0;simp only [h0,Bool.not_false,Bool.not_true,true_and,and_true,imp_self,implies_true,bne_iff_ne,ne_eq,beq_iff_eq];done) | (intros;simp_all;done) | exact True.intro) ?_)
 refine Zo (t:=(cond (y8.Kind == 3) y8.Double false)) rfl (fun c45 => ?_) (fun c45 => ?_)
 ·replace h:=Zw c45 h
  refine Zf ?_
  obtain ⟨z11,hz11,h⟩:=bC h
  refine Yr (E':=⟨147,[],[(0,.sl a0.length (fl (eL (eI .u64)) a0)),(6,.ref n 0),(8,.ref (n+1) 0),(54,.val (.bool z11))]⟩) (O':=(Z3 O n [some ⟨false,81,10,1,[.val (.int .i64 0),.val (.int .i64 0),.val (.int .i64 0),.val (.int .i64 0),.val (.int .i64 0),.val (.int .i64 0),.val (.int .i64 0),.val (.bool false),.val (.int .i64 0),.val (.int .i64 0)]⟩,some ⟨false,79,8,1,(Yk y8)⟩])) (n0:=(n+2)) ?_ ?_
  ·obtain ⟨y14,hy14,hz11⟩:=bC hz11
   rcases Bool.eq_false_or_eq_true y14 with c16 | c16
   ·replace hz11:=Zw c16 hz11
    obtain ⟨y15,hy15,hz11⟩:=bC hz11
    refine Zb Zc (Yi2 []) ?_
    simp only [push_cast,seval,Za,c16,hN0,hN]
    refine (V4 hy14).then ?_
    simp only [push_cast,seval,Za,c16,hN0,hN]
    refine (V4 hy15).then ?_
    simp only [push_cast,seval,Za,c16,hN0,hN]
    have hz11:=Option.some.inj hz11;subst hz11
    refine And.intro rfl (Fit2.of (Zm hU rfl rfl ?_) (by omega))
    simp only [push_cast,seval,Za,c16,hN0,hN]
   replace hz11:=Zv c16 hz11
   refine Zb Zc (Yi1 []) ?_
   simp only [push_cast,seval,Za,c16,hN0,hN]
   refine (V4 hy14).then ?_
   simp only [push_cast,seval,Za,c16,hN0,hN]
   have hz11:=Option.some.inj hz11;subst hz11
   refine And.intro rfl (Fit2.of (Zm hU rfl rfl ?_) (by omega))
   simp only [push_cast,seval,Za,c16,hN0,hN]
  refine Zo (t:=z11) rfl (fun c31 => ?_) (fun c31 => ?_)
  ·replace h:=Zw c31 h
   refine Zf ?_
   refine Zb Zc [] ?_
   simp only [push_cast,seval,Za,hN0,hN]
   refine Zg [6,7] [true,false] ?_
   simp only [push_cast,seval]
   refine Zu ?_
   try simp only [Zh,Ze]
   have h:=Option.some.inj h;subst h
   refine Zl (.inr rfl) hU [.agg [.val (.int .i64 0),.val (.int .i64 0),.val (.int .i64 0),.val (.int .i64 0),.val (.int .i64 0),.val (.int .i64 0),.val (.int .i64 0),.val (.bool false),.val (.int .i64 0),.val (.int .i64 0)],.val (.int .i64 7)] (by omega) ?_
   simp only [push_cast,seval,Za,Tryz.results25,hN0,hN]
  replace h:=Zv c31 h
  refine Zt ?_
  try simp only [Zh,Ze]
  refine Zg [0,6,8] [true,true] ?_
  simp only [push_cast,seval]
  obtain ⟨x17,hx17,ax17,bx17,cx17,h⟩:=bE (f:=(eL (eI .u64))) Uv (fun _=>rfl) (by decide) h
  obtain ⟨x18,hx18,ax18,bx18,cx18,h⟩:=bE (f:=(eI .u64)) Ug (fun _=>rfl) (by decide) h
  obtain ⟨y19,hy19,h⟩:=bC h
  obtain ⟨x21,hx21,ax21,bx21,cx21,h⟩:=bE (f:=(eI .u64)) Ug (fun _=>rfl) (by decide) h
  obtain ⟨y22,hy22,h⟩:=bC h
  refine Yr (E':=⟨147,[],[(0,.sl a0.length (fl (eL (eI .u64)) a0)),(6,.ref n 0),(9,.ref (n+2) 0),(10,.ref (n+3) 0)]⟩) (O':=(Z3 O n [some ⟨false,81,10,1,[.val (.int .i64 0),.val (.int .i64 0),.val (.int .i64 0),.val (.int .i64 0),.val (.int .i64 0),.val (.int .i64 0),.val (.int .i64 0),.val (.bool false),.val (.int .i64 0),.val (.int .i64 0)]⟩,none,some ⟨false,79,8,1,(Yk y19)⟩,some ⟨false,79,8,1,(Yk y22)⟩])) (n0:=(n+4)) ?_ ?_
  ·refine Z3n Zc (by kernel_rfl) [.low,.low,.low,.low,.low,.low,.low,.low,.low,.low,.low,.low,.low,.low,.low,.low,.low,.low,.low,.low,.low,.pass,.pass,.pass,.pass] (fun i=>i < (n+2)) 21 22 [0,1,2,3,4,5,6,7,8,9,10,11,12,13,14,15,16,17,18,19,20] [23,24] [.low,.low,.low,.low,.low,.low,.low,.low,.low,.low,.low,.low,.low,.low,.low,.low,.low,.low,.low,.low,.low] [.pass,.pass,.pass,.pass] [.pass,.pass,.pass,.pass] [] (by kernel_rfl) rfl rfl rfl ?_
   simp only [push_cast,Nat.reduceAdd,Nat.reduceSub,Nat.reduceMul,Nat.reduceLeDiff,Nat.reduceLT,Nat.reduceEqDiff,↓reduceIte,reduceCtorEq,Int.reduceBEq,Int.reduceBNe,Nat.reduceBEq,Int.reduceLE,Int.reduceLT,Int.reduceEq,Int.reduceNe,Int.reduceNeg,Nat.reduceDiv,Nat.reduceMod,Nat.reducePow,Za,ax17,bx17,cx17,ax18,bx18,cx18,ax21,bx21,cx21,hN0,hN]
   repeat (with_reducible refine And.intro (by omega) ?_)
   first | refine PCallA.of (fun _ _=>Qr hy19) ?_ | refine PCall.of (Qr hy19) ?_
   simp only [push_cast,Nat.reduceAdd,Nat.reduceSub,Nat.reduceMul,Nat.reduceLeDiff,Nat.reduceLT,Nat.reduceEqDiff,↓reduceIte,reduceCtorEq,Int.reduceBEq,Int.reduceBNe,Nat.reduceBEq,Int.reduceLE,Int.reduceLT,Int.reduceEq,Int.reduceNe,Int.reduceNeg,Nat.reduceDiv,Nat.reduceMod,Nat.reducePow,Za,ax17,bx17,cx17,ax18,bx18,cx18,ax21,bx21,cx21,hN0,hN]
   repeat (with_reducible refine And.intro (by omega) ?_)
   first | refine PCallA.of (fun _ _=>Qr hy22) ?_ | refine PCall.of (Qr hy22) ?_
   simp only [push_cast,Nat.reduceAdd,Nat.reduceSub,Nat.reduceMul,Nat.reduceLeDiff,Nat.reduceLT,Nat.reduceEqDiff,↓reduceIte,reduceCtorEq,Int.reduceBEq,Int.reduceBNe,Nat.reduceBEq,Int.reduceLE,Int.reduceLT,Int.reduceEq,Int.reduceNe,Int.reduceNeg,Nat.reduceDiv,Nat.reduceMod,Nat.reducePow,Za,ax17,bx17,cx17,ax18,bx18,cx18,ax21,bx21,cx21,hN0,hN]
   repeat (with_reducible refine And.intro (by omega) ?_)
   refine And.intro ?_ ?_
   ·simp only [push_cast,Nat.reduceAdd,Nat.reduceSub,Nat.reduceMul,Nat.reduceLeDiff,Nat.reduceLT,Nat.reduceEqDiff,↓reduceIte,reduceCtorEq,Int.reduceBEq,Int.reduceBNe,Nat.reduceBEq,Int.reduceLE,Int.reduceLT,Int.reduceEq,Int.reduceNe,Int.reduceNeg,Nat.reduceDiv,Nat.reduceMod,Nat.reducePow,Za,ax17,bx17,cx17,ax18,bx18,cx18,ax21,bx21,cx21,hN0,hN]
    repeat (with_reducible refine And.intro (by first | exact Xb rfl | exact Yw) ?_)
    refine And.intro rfl (Fit2.of (Zm hU rfl rfl ?_) (by omega))
    simp only [push_cast,Nat.reduceAdd,Nat.reduceSub,Nat.reduceMul,Nat.reduceLeDiff,Nat.reduceLT,Nat.reduceEqDiff,↓reduceIte,reduceCtorEq,Int.reduceBEq,Int.reduceBNe,Nat.reduceBEq,Int.reduceLE,Int.reduceLT,Int.reduceEq,Int.reduceNe,Int.reduceNeg,Nat.reduceDiv,Nat.reduceMod,Nat.reducePow,Za,ax17,bx17,cx17,ax18,bx18,cx18,ax21,bx21,cx21,hN0,hN]
   simp only [push_cast,Nat.reduceAdd,Nat.reduceSub,Nat.reduceMul,Nat.reduceLeDiff,Nat.reduceLT,Nat.reduceEqDiff,↓reduceIte,reduceCtorEq,Int.reduceBEq,Int.reduceBNe,Nat.reduceBEq,Int.reduceLE,Int.reduceLT,Int.reduceEq,Int.reduceNe,Int.reduceNeg,Nat.reduceDiv,Nat.reduceMod,Nat.reducePow,Za,ax17,bx17,cx17,ax18,bx18,cx18,ax21,bx21,cx21,hN0,hN]
   repeat (with_reducible refine And.intro (by first | exact Xb rfl | exact Yw) ?_)
   refine And.intro rfl ?_
   refine Fit2.trans (E':=(⟨147,[],[(0,.sl a0.length (fl (eL (eI .u64)) a0)),(6,.ref n 0),(9,.ref (n+3) 0),(10,.ref (n+2) 0)]⟩:Env)) (O':=(Z3 O n [some ⟨false,81,10,1,[.val (.int .i64 0),.val (.int .i64 0),.val (.int .i64 0),.val (.int .i64 0),.val (.int .i64 0),.val (.int .i64 0),.val (.int .i64 0),.val (.bool false),.val (.int .i64 0),.val (.int .i64 0)]⟩,none,some ⟨false,79,8,1,(Yk y22)⟩,some ⟨false,79,8,1,(Yk y19)⟩])) (n':=(n+4)) (Fit2.of (Zm hU rfl rfl ?_) (by omega)) ?_
   ·simp only [push_cast,Nat.reduceAdd,Nat.reduceSub,Nat.reduceMul,Nat.reduceLeDiff,Nat.reduceLT,Nat.reduceEqDiff,↓reduceIte,reduceCtorEq,Int.reduceBEq,Int.reduceBNe,Nat.reduceBEq,Int.reduceLE,Int.reduceLT,Int.reduceEq,Int.reduceNe,Int.reduceNeg,Nat.reduceDiv,Nat.reduceMod,Nat.reducePow,Za,ax17,bx17,cx17,ax18,bx18,cx18,ax21,bx21,cx21,hN0,hN]
   refine Zil (k:=4) (k':=4) hU [0,1,3,2] [0,1,3,2] rfl rfl rfl rfl ⟨rfl,rfl⟩ ?_
   simp only [push_cast,seval,Za,hN0,hN]
  refine Zf ?_
  refine Zk [0,6,9,10,83] (Zb Zc [none,none] ?_)
  simp only [push_cast,seval,Za,hN0,hN]
  repeat (with_reducible refine And.intro (by first | (intro h0;simp only [h0];done) | (intro h0;simp only [h0,Bool.not_false,Bool.not_true,true_and,and_true,imp_self,implies_true,bne_iff_ne,ne_eq,beq_iff_eq];done) | (intros;simp_all;done) | exact True.intro) ?_)
  refine Zo (t:=(cond (y19.Kind != 3) true y19.Double)) rfl (fun c30 => ?_) (fun c30 => ?_)
  ·replace h:=Zw c30 h
   refine Zf ?_
   refine Zb Zc [] ?_
   simp only [push_cast,seval,Za,hN0,hN]
   refine Zg [6,7] [true,false,false,false] ?_
   simp only [push_cast,seval]
   refine Zu ?_
   try simp only [Zh,Ze]
   have h:=Option.some.inj h;subst h
   refine Zl (.inr rfl) hU [.agg [.val (.int .i64 0),.val (.int .i64 0),.val (.int .i64 0),.val (.int .i64 0),.val (.int .i64 0),.val (.int .i64 0),.val (.int .i64 0),.val (.bool false),.val (.int .i64 0),.val (.int .i64 0)],.val (.int .i64 8)] (by omega) ?_
   simp only [push_cast,seval,Za,Tryz.results25,hN0,hN]
  replace h:=Zv c30 h
  refine Zt ?_
  try simp only [Zh,Ze]
  refine Zg [0,6,9,10] [true,false,true,true] ?_
  simp only [push_cast,seval]
  refine Zf ?_
  obtain ⟨y24,hy24,h⟩:=bC h
  refine Zb Zc [] ?_
  simp only [push_cast,seval,Za,hN0,hN]
  refine (Zdk hy24).then ?_
  simp only [push_cast,seval,Za,hN0,hN]
  refine Zg [0,6,9,10,11] [true,false,true,true] ?_
  simp only [push_cast,seval]
  obtain ⟨z25,hz25,h⟩:=bC h
  refine Yr (E':=⟨147,[],[(0,.sl a0.length (fl (eL (eI .u64)) a0)),(6,.ref n 0),(9,.ref (n+2) 0),(10,.ref (n+3) 0),(11,.val (.int .i64 z25))]⟩) (O':=(Z3 O n [some ⟨false,81,10,1,[.val (.int .i64 0),.val (.int .i64 0),.val (.int .i64 0),.val (.int .i64 0),.val (.int .i64 0),.val (.int .i64 0),.val (.int .i64 0),.val (.bool false),.val (.int .i64 0),.val (.int .i64 0)]⟩,none,some ⟨false,79,8,1,(Yk y19)⟩,some ⟨false,79,8,1,(Yk y22)⟩])) (n0:=(n+4)) ?_ ?_
  ·refine Zk [0,6,9,10,11,93] (Zb Zc [none,none,none] ?_)
   simp only [push_cast,seval,Za,hN0,hN]
   repeat (with_reducible refine And.intro (by first | (intro h0;simp only [h0];done) | (intro h0;simp only [h0,Bool.not_false,Bool.not_true,true_and,and_true,imp_self,implies_true,bne_iff_ne,ne_eq,beq_iff_eq];done) | (intros;simp_all;done) | exact True.intro) ?_)
   refine Zo (t:=(cond (y24 == 0) (y22.Off != 0) false)) rfl (fun c26 => ?_) (fun c26 => ?_)
   ·replace hz25:=Zw c26 hz25
    refine Zb Zc [] ?_
    simp only [push_cast,seval,Za,hN0,hN]
    have hz25:=Option.some.inj hz25;subst hz25
    refine And.intro rfl (Fit2.of (Zm hU rfl rfl ?_) (by omega))
    simp only [push_cast,seval,Za,hN0,hN]
   replace hz25:=Zv c26 hz25
   refine Zt ?_
   try simp only [Zh,Ze]
   have hz25:=Option.some.inj hz25;subst hz25
   refine And.intro rfl (Fit2.of (Zm hU rfl rfl ?_) (by omega))
   simp only [push_cast,seval,Za,hN0,hN]
  refine Zf ?_
  refine Zk [0,6,9,10,11,95] (Zb Zc [] ?_)
  simp only [push_cast,seval,Za,hN0,hN]
  refine Zo (t:=(z25 != 0)) rfl (fun c29 => ?_) (fun c29 => ?_)
  ·replace h:=Zw c29 h
   refine Zf ?_
   refine Zb Zc [] ?_
   simp only [push_cast,seval,Za,hN0,hN]
   refine Zg [6,7] [true,false,false,false] ?_
   simp only [push_cast,seval]
   refine Zu ?_
   try simp only [Zh,Ze]
   have h:=Option.some.inj h;subst h
   refine Zl (.inr rfl) hU [.agg [.val (.int .i64 0),.val (.int .i64 0),.val (.int .i64 0),.val (.int .i64 0),.val (.int .i64 0),.val (.int .i64 0),.val (.int .i64 0),.val (.bool false),.val (.int .i64 0),.val (.int .i64 0)],.val (.int .i64 z25)] (by omega) ?_
   simp only [push_cast,seval,Za,Tryz.results25,hN0,hN]
  replace h:=Zv c29 h
  refine Zt ?_
  try simp only [Zh,Ze]
  refine Zg [0,6,9,10] [true,false,true,true] ?_
  simp only [push_cast,seval]
  refine Zf ?_
  obtain ⟨y28,hy28,h⟩:=bC h
  refine Zb Zc [] ?_
  simp only [push_cast,seval,Za,hN0,hN]
  refine (Zdl hy28).then ?_
  simp only [push_cast,seval,Za,hN0,hN]
  refine Zg [6,7] [true,false,false,false] ?_
  simp only [push_cast,seval]
  refine Zu ?_
  try simp only [Zh,Ze]
  have h:=Option.some.inj h;subst h
  refine Zl (.inr rfl) hU [.agg [.val (.int .i64 y28.1.P.Kind),.val (.int .i64 y28.1.P.Off),.val (.int .i64 y28.1.P.Data),.val (.int .i64 y28.1.P.Ptrs),.val (.int .i64 y28.1.P.Code),.val (.int .i64 y28.1.P.Count),.val (.int .i64 y28.1.P.Segment),.val (.bool y28.1.P.Double),.val (.int .i64 y28.1.Segment),.val (.int .i64 y28.1.At)],.val (.int .i64 y28.2)] (by omega) ?_
  simp only [push_cast,seval,Za,Tryz.results25,hN0,hN]
 replace h:=Zv c45 h
 refine Zt ?_
 try simp only [Zh,Ze]
 refine Zg [0,1,2,6,8] [true,true] ?_
 simp only [push_cast,seval]
 obtain ⟨z32,hz32,h⟩:=bC h
 refine Z7c (J:=(Gh (fun z32=>JN n (⟨147,[],[(0,.sl a0.length (fl (eL (eI .u64)) a0)),(1,.val (.int .i64 z32.1)),(2,.val (.int .i64 z32.2.1)),(6,.ref n 0),(8,.ref (n+1) 0)]⟩:Env) (Z3 O n [some ⟨false,81,10,1,[.val (.int .i64 0),.val (.int .i64 0),.val (.int .i64 0),.val (.int .i64 0),.val (.int .i64 0),.val (.int .i64 0),.val (.int .i64 0),.val (.bool false),.val (.int .i64 0),.val (.int .i64 0)]⟩,some ⟨false,79,8,1,[.val (.int .i64 z32.2.2.1),.val (.int .i64 z32.2.2.2.1),.val (.int .i64 z32.2.2.2.2.1),.val (.int .i64 z32.2.2.2.2.2.1),.val (.int .i64 z32.2.2.2.2.2.2.1),.val (.int .i64 z32.2.2.2.2.2.2.2.1),.val (.int .i64 z32.2.2.2.2.2.2.2.2.1),.val (.bool z32.2.2.2.2.2.2.2.2.2)]⟩]) (n+2)) (fun z32=>JR n (⟨147,[],[(6,.ref n 0),(7,.val (.int .i64 7))]⟩:Env) (Z3 O n [some ⟨false,81,10,1,[.val (.int .i64 0),.val (.int .i64 0),.val (.int .i64 0),.val (.int .i64 0),.val (.int .i64 0),.val (.int .i64 0),.val (.int .i64 0),.val (.bool false),.val (.int .i64 0),.val (.int .i64 0)]⟩,none]) (n+2)))) (z:=z32) ?_ fun hw => ?_
 ·refine Zk [0,1,2,6,8,110] (Zb Zc [] ?_)
  simp only [push_cast,seval,Za,hN0,hN]
  refine Zo (t:=(y8.Kind == 3)) rfl (fun c39 => ?_) (fun c39 => ?_)
  ·replace hz32:=Zw c39 hz32
   refine Zk [0,1,6,8] (Zb Zc [] ?_)
   simp only [push_cast,seval,Za,hN0,hN]
   refine Zk [0,1,2,6,8] (Zb Zc [] ?_)
   simp only [push_cast,seval,Za,hN0,hN]
   refine Zf ?_
   refine Zf ?_
   obtain ⟨y34,hy34,hz32⟩:=bC hz32
   refine Zb Zc [] ?_
   simp only [push_cast,seval,Za,hN0,hN]
   refine (V4 hy34).then ?_
   simp only [push_cast,seval,Za,hN0,hN]
   refine Zg [0,1,2,6,8,119] [true,true] ?_
   simp only [push_cast,seval]
   refine Zo (t:=(!y34)) rfl (fun c38 => ?_) (fun c38 => ?_)
   ·replace hz32:=Zw c38 hz32
    refine Zf ?_
    refine Zb Zc [] ?_
    simp only [push_cast,seval,Za,hN0,hN]
    refine Zg [6,7] [true,false] ?_
    simp only [push_cast,seval]
    refine Zu ?_
    try simp only [Zh,Ze]
    have hz32:=Option.some.inj hz32;subst hz32
    refine And.intro rfl (Fit2.of (Zm hU rfl rfl ?_) (by omega))
    simp only [push_cast,seval,Za,hN0,hN]
   replace hz32:=Zv c38 hz32
   refine Zt ?_
   try simp only [Zh,Ze]
   refine Zg [0,1,2,6,8] [true,true] ?_
   simp only [push_cast,seval]
   obtain ⟨x35,hx35,ax35,bx35,cx35,hz32⟩:=bE (f:=(eL (eI .u64))) Uv (fun _=>rfl) (by decide) hz32
   obtain ⟨x36,hx36,ax36,bx36,cx36,hz32⟩:=bE (f:=(eI .u64)) Ug (fun _=>rfl) (by decide) hz32
   obtain ⟨y37,hy37,hz32⟩:=bC hz32
   refine Zb Zc [] ?_
   simp only [push_cast,Nat.reduceAdd,Nat.reduceSub,Nat.reduceMul,Nat.reduceLeDiff,Nat.reduceLT,Nat.reduceEqDiff,↓reduceIte,reduceCtorEq,Int.reduceBEq,Int.reduceBNe,Nat.reduceBEq,Int.reduceLE,Int.reduceLT,Int.reduceEq,Int.reduceNe,Int.reduceNeg,Nat.reduceDiv,Nat.reduceMod,Nat.reducePow,Za,ax35,bx35,cx35,ax36,bx36,cx36,hN0,hN]
   refine (Qr hy37).then ?_
   simp only [push_cast,Nat.reduceAdd,Nat.reduceSub,Nat.reduceMul,Nat.reduceLeDiff,Nat.reduceLT,Nat.reduceEqDiff,↓reduceIte,reduceCtorEq,Int.reduceBEq,Int.reduceBNe,Nat.reduceBEq,Int.reduceLE,Int.reduceLT,Int.reduceEq,Int.reduceNe,Int.reduceNeg,Nat.reduceDiv,Nat.reduceMod,Nat.reducePow,Za,ax35,bx35,cx35,ax36,bx36,cx36,hN0,hN]
   have hz32:=Option.some.inj hz32;subst hz32
   refine And.intro rfl (Fit2.of (Zm hU rfl rfl ?_) (by omega))
   simp only [push_cast,Nat.reduceAdd,Nat.reduceSub,Nat.reduceMul,Nat.reduceLeDiff,Nat.reduceLT,Nat.reduceEqDiff,↓reduceIte,reduceCtorEq,Int.reduceBEq,Int.reduceBNe,Nat.reduceBEq,Int.reduceLE,Int.reduceLT,Int.reduceEq,Int.reduceNe,Int.reduceNeg,Nat.reduceDiv,Nat.reduceMod,Nat.reducePow,Za,ax35,bx35,cx35,ax36,bx36,cx36,hN0,hN]
  replace hz32:=Zv c39 hz32
  refine Zt ?_
  try simp only [Zh,Ze]
  have hz32:=Option.some.inj hz32;subst hz32
  refine And.intro rfl (Fit2.of (Zm hU rfl rfl ?_) (by omega))
  simp only [push_cast,seval,Za,hN0,hN]
 rcases z32 with z32 | z32
 ·dsimp only [Gh] at hw h
  refine Yr hw ?_
  refine Zf ?_
  obtain ⟨y41,hy41,h⟩:=bC h
  refine Zb Zc [] ?_
  simp only [push_cast,seval,Za,hN0,hN]
  refine (Zdk hy41).then ?_
  simp only [push_cast,seval,Za,hN0,hN]
  refine Zg [0,1,2,6,8,12] [true,true] ?_
  simp only [push_cast,seval]
  refine Zf ?_
  refine Zk [0,1,2,6,8,12,132] (Zb Zc [] ?_)
  simp only [push_cast,seval,Za,hN0,hN]
  refine Zo (t:=(y41 != 0)) rfl (fun c44 => ?_) (fun c44 => ?_)
  ·replace h:=Zw c44 h
   refine Zf ?_
   refine Zb Zc [] ?_
   simp only [push_cast,seval,Za,hN0,hN]
   refine Zg [6,7] [true,false] ?_
   simp only [push_cast,seval]
   refine Zu ?_
   try simp only [Zh,Ze]
   have h:=Option.some.inj h;subst h
   refine Zl (.inr rfl) hU [.agg [.val (.int .i64 0),.val (.int .i64 0),.val (.int .i64 0),.val (.int .i64 0),.val (.int .i64 0),.val (.int .i64 0),.val (.int .i64 0),.val (.bool false),.val (.int .i64 0),.val (.int .i64 0)],.val (.int .i64 y41)] (by omega) ?_
   simp only [push_cast,seval,Za,Tryz.results25,hN0,hN]
  replace h:=Zv c44 h
  refine Zt ?_
  try simp only [Zh,Ze]
  refine Zg [0,1,2,6,8] [true,true] ?_
  simp only [push_cast,seval]
  refine Zf ?_
  obtain ⟨y43,hy43,h⟩:=bC h
  refine Zb Zc [] ?_
  simp only [push_cast,seval,Za,hN0,hN]
  refine (Zdl hy43).then ?_
  simp only [push_cast,seval,Za,hN0,hN]
  refine Zg [6,7] [true,false] ?_
  simp only [push_cast,seval]
  refine Zu ?_
  try simp only [Zh,Ze]
  have h:=Option.some.inj h;subst h
  refine Zl (.inr rfl) hU [.agg [.val (.int .i64 y43.1.P.Kind),.val (.int .i64 y43.1.P.Off),.val (.int .i64 y43.1.P.Data),.val (.int .i64 y43.1.P.Ptrs),.val (.int .i64 y43.1.P.Code),.val (.int .i64 y43.1.P.Count),.val (.int .i64 y43.1.P.Segment),.val (.bool y43.1.P.Double),.val (.int .i64 y43.1.Segment),.val (.int .i64 y43.1.At)],.val (.int .i64 y43.2)] (by omega) ?_
  simp only [push_cast,seval,Za,Tryz.results25,hN0,hN]
 dsimp only [Gh] at hw h
 refine Z18 hw ?_
 try simp only [Zh,Ze]
 have h:=Option.some.inj h;subst h
 refine Zl (.inr rfl) hU [.agg [.val (.int .i64 0),.val (.int .i64 0),.val (.int .i64 0),.val (.int .i64 0),.val (.int .i64 0),.val (.int .i64 0),.val (.int .i64 0),.val (.bool false),.val (.int .i64 0),.val (.int .i64 0)],.val (.int .i64 7)] (by omega) ?_
 simp only [push_cast,seval,Za,Tryz.results25,hN0,hN]
theorem Zco {a0:(List (List Int))} {a1:Int} {a2:Int} {r:(Zs×Int)} {O:Objs} {n:Nat} (h:Kq a0 a1 a2=some r):GTo Tryz.prog 12 [.sl a0.length (fl (eL (eI .u64)) a0),.val (.int .i64 a1),.val (.int .i64 a2)] O n (.tup [.agg (Zx r.1),.val (.int .i64 r.2)]) O n:=by
 unfold Kq at h
 refine Ye Zc Tryz.call12 Tryz.func12 rfl (Nat.le_of_ble_eq_true rfl) (Nat.le_refl _) fun hU => ?_
 have hN0:O n=none:=hU.fresh _ (Nat.le_refl _)
 have hN:∀ k,O (n+k)=none:=fun k=>hU.fresh _ (Nat.le_add_right _ _)
 show W _ _ _ _ ⟨110,[],[(0,.sl a0.length (fl (eL (eI .u64)) a0)),(1,.val (.int .i64 a1)),(2,.val (.int .i64 a2))]⟩ (Z3 O n []) _
 refine Zk [0,1,2,6] (Zb Zc [] ?_)
 simp only [push_cast,seval,Za,hN0,hN]
 refine Zf ?_
 obtain ⟨y2,hy2,h⟩:=bC h
 refine Zb Zc [] ?_
 simp only [push_cast,seval,Za,hN0,hN]
 refine (Zji hy2).then ?_
 simp only [push_cast,seval,Za,hN0,hN]
 refine Zg [0,6,8,9] [true,true] ?_
 simp only [push_cast,seval]
 refine Zf ?_
 refine Zk [0,6,8,9,26] (Zb Zc [none,none,none,none] ?_)
 simp only [push_cast,seval,Za,hN0,hN]
 repeat (with_reducible refine And.intro (by first | (intro h0;simp only [h0,and_self];done) | (intro h0;simp only [h0,true_and,and_true,and_self,imp_self,implies_true,bne_iff_ne,ne_eq];done) | (intros;simp_all;done) | exact True.intro) ?_)
 refine Zo (t:=(cond (y2.2 != 0) true (y2.1.P.Kind == 0))) rfl (fun Ux => ?_) (fun Ux => ?_)
 ·replace h:=Zw Ux h
  refine Zf ?_
  refine Zb Zc [] ?_
  simp only [push_cast,seval,Za,hN0,hN]
  refine Zg [6,7] [true,false] ?_
  simp only [push_cast,seval]
  refine Zu ?_
  try simp only [Zh,Ze]
  have h:=Option.some.inj h;subst h
  refine Zl (.inr rfl) hU [.agg [.val (.int .i64 0),.val (.int .i64 0),.val (.int .i64 0),.val (.int .i64 0),.val (.int .i64 0),.val (.int .i64 0),.val (.int .u64 0)],.val (.int .i64 y2.2)] (by omega) ?_
  simp only [push_cast,seval,Za,Tryz.results12,hN0,hN]
 replace h:=Zv Ux h
 refine Zt ?_
 try simp only [Zh,Ze]
 refine Zg [0,6,8] [true,true] ?_
 simp only [push_cast,seval]
 refine Zf ?_
 refine Zk [0,6,8,32] (Zb Zc [] ?_)
 simp only [push_cast,seval,Za,hN0,hN]
 refine Zo (t:=(y2.1.P.Kind == 1)) rfl (fun Kl => ?_) (fun Kl => ?_)
 ·replace h:=Zw Kl h
  refine Zf ?_
  refine Zb Zc [] ?_
  simp only [push_cast,seval,Za,hN0,hN]
  refine Zg [6,7] [true,false] ?_
  simp only [push_cast,seval]
  refine Zu ?_
  try simp only [Zh,Ze]
  have h:=Option.some.inj h;subst h
  refine Zl (.inr rfl) hU [.agg [.val (.int .i64 1),.val (.int .i64 y2.1.Segment),.val (.int .i64 y2.1.At),.val (.int .i64 y2.1.P.Data),.val (.int .i64 y2.1.P.Ptrs),.val (.int .i64 0),.val (.int .u64 0)],.val (.int .i64 0)] (by omega) ?_
  simp only [push_cast,seval,Za,Tryz.results12,hN0,hN]
 replace h:=Zv Kl h
 refine Zt ?_
 try simp only [Zh,Ze]
 refine Zg [0,6,8] [true,true] ?_
 simp only [push_cast,seval]
 refine Zf ?_
 refine Zk [0,6,8,47] (Zb Zc [] ?_)
 simp only [push_cast,seval,Za,hN0,hN]
 refine Zo (t:=(decide (y2.1.P.Code < 7))) rfl (fun Gi => ?_) (fun Gi => ?_)
 ·replace h:=Zw Gi h
  refine Zf ?_
  refine Zb Zc [] ?_
  simp only [push_cast,seval,Za,hN0,hN]
  refine Zg [6,7] [true,false] ?_
  simp only [push_cast,seval]
  refine Zu ?_
  try simp only [Zh,Ze]
  have h:=Option.some.inj h;subst h
  refine Zl (.inr rfl) hU [.agg [.val (.int .i64 (IntKind.i64.wrap (2+y2.1.P.Code))),.val (.int .i64 y2.1.Segment),.val (.int .i64 y2.1.At),.val (.int .i64 0),.val (.int .i64 0),.val (.int .i64 y2.1.P.Count),.val (.int .u64 0)],.val (.int .i64 0)] (by omega) ?_
  simp only [push_cast,seval,Za,Tryz.results12,hN0,hN]
 replace h:=Zv Gi h
 refine Zt ?_
 try simp only [Zh,Ze]
 refine Zg [0,6,8] [true,true] ?_
 simp only [push_cast,seval]
 obtain ⟨x5,hx5,ax5,bx5,cx5,h⟩:=bE (f:=(eL (eI .u64))) Uv (fun _=>rfl) (by decide) h
 obtain ⟨x6,hx6,ax6,bx6,cx6,h⟩:=bE (f:=(eI .u64)) Ug (fun _=>rfl) (by decide) h
 refine Zk [6,8,10] (Y8 Zc (by kernel_rfl) [] (by kernel_rfl) ?_)
 simp only [push_cast,Nat.reduceAdd,Nat.reduceSub,Nat.reduceMul,Nat.reduceLeDiff,Nat.reduceLT,Nat.reduceEqDiff,↓reduceIte,reduceCtorEq,Int.reduceBEq,Int.reduceBNe,Nat.reduceBEq,Int.reduceLE,Int.reduceLT,Int.reduceEq,Int.reduceNe,Int.reduceNeg,Nat.reduceDiv,Nat.reduceMod,Nat.reducePow,Za,ax5,bx5,cx5,ax6,bx6,cx6,hN0,hN]
 refine Zf ?_
 obtain ⟨y8,hy8,h⟩:=bC h
 refine Zb Zc [] ?_
 simp only [push_cast,seval,Za,hN0,hN]
 refine (Qr hy8).then ?_
 simp only [push_cast,seval,Za,hN0,hN]
 refine Zg [6,8,10,11] [true,true,true] ?_
 simp only [push_cast,seval]
 refine Zf ?_
 refine Zk [6,8,11,96] (Zb Zc [none,none,none,none,none,none,none,none,none,none,none,none,none,none,none,none,none,none] ?_)
 simp only [push_cast,seval,Za,hN0,hN]
 repeat (with_reducible refine And.intro (by first | (intro h0;simp only [h0,and_self];done) | (intro h0;simp only [h0,true_and,and_true,and_self,imp_self,implies_true,bne_iff_ne,ne_eq];done) | (intros;simp_all;done) | exact True.intro) ?_)
 refine Zo (t:=(cond (cond (cond (x6 != 0) (y8.Kind != 1) false) true (decide (y8.Off < 0))) true (decide (y2.1.P.Count < (IntKind.i64.wrap (y8.Off * (IntKind.i64.wrap (y8.Data+y8.Ptrs)))))))) rfl (fun c9 => ?_) (fun c9 => ?_)
 ·replace h:=Zw c9 h
  refine Zf ?_
  refine Zb Zc [] ?_
  simp only [push_cast,seval,Za,hN0,hN]
  refine Zg [6,7] [true,false,false] ?_
  simp only [push_cast,seval]
  refine Zu ?_
  try simp only [Zh,Ze]
  have h:=Option.some.inj h;subst h
  refine Zl (.inr rfl) hU [.agg [.val (.int .i64 0),.val (.int .i64 0),.val (.int .i64 0),.val (.int .i64 0),.val (.int .i64 0),.val (.int .i64 0),.val (.int .u64 0)],.val (.int .i64 8)] (by omega) ?_
  simp only [push_cast,seval,Za,Tryz.results12,hN0,hN]
 replace h:=Zv c9 h
 refine Zt ?_
 try simp only [Zh,Ze]
 refine Zg [6,8,11] [true,true,true] ?_
 simp only [push_cast,seval]
 refine Zf ?_
 refine Zb Zc [] ?_
 simp only [push_cast,seval,Za,hN0,hN]
 refine Zg [6,7] [true,false,false] ?_
 simp only [push_cast,seval]
 refine Zu ?_
 try simp only [Zh,Ze]
 have h:=Option.some.inj h;subst h
 refine Zl (.inr rfl) hU [.agg [.val (.int .i64 9),.val (.int .i64 y2.1.Segment),.val (.int .i64 (IntKind.i64.wrap (y2.1.At+1))),.val (.int .i64 y8.Data),.val (.int .i64 y8.Ptrs),.val (.int .i64 y8.Off),.val (.int .u64 0)],.val (.int .i64 0)] (by omega) ?_
 simp only [push_cast,seval,Za,Tryz.results12,hN0,hN]
theorem Jk {a0:Zs} {a1:(List (List Int))} {r:(List Int)} {O:Objs} {n:Nat} (h:X8 a0 a1=some r):GTo Tryz.prog 27 [.agg (Zx a0),.sl a1.length (fl (eL (eI .u64)) a1)] O n (.sl r.length (fl (eI .u64) r)) O n:=by
 unfold X8 at h
 refine Ye Zc Tryz.call27 Tryz.func27 rfl (Nat.le_of_ble_eq_true rfl) (Nat.le_refl _) fun hU => ?_
 have hN0:O n=none:=hU.fresh _ (Nat.le_refl _)
 have hN:∀ k,O (n+k)=none:=fun k=>hU.fresh _ (Nat.le_add_right _ _)
 show W _ _ _ _ ⟨30,[],[(0,.agg (Zx a0)),(1,.sl a1.length (fl (eL (eI .u64)) a1))]⟩ (Z3 O n []) _
 refine Zk [1,2] (Zb Zc [] ?_)
 simp only [push_cast,seval,Za,hN0,hN]
 refine Zf ?_
 refine Zk [1,2,8] (Zb Zc [] ?_)
 simp only [push_cast,seval,Za,hN0,hN]
 refine Zo (t:=(a0.Kind == 10)) rfl (fun c8 => ?_) (fun c8 => ?_)
 ·replace h:=Zw c8 h
  refine Zf ?_
  refine Zb Zc [] ?_
  simp only [push_cast,seval,Za,hN0,hN]
  refine Za8 ⟨30,[],[(4,.row (n+1) ([a0.N]:List Int).length)]⟩ (Z3 O n [none,some ⟨true,49,1,([a0.N]:List Int).length,fl (eI .u64) ([a0.N]:List Int)⟩]) (Zm hU rfl rfl ?_) ?_
  ·simp only [push_cast,seval,Za,hN0,hN]
  refine Zu ?_
  try simp only [Zh,Ze]
  have h:=Option.some.inj h;subst h
  refine Zl (.inr rfl) hU [.row (n+1) ([a0.N]:List Int).length] (by omega) ?_
  simp only [push_cast,seval,Za,Tryz.results27,hN0,hN]
 replace h:=Zv c8 h
 refine Zt ?_
 try simp only [Zh,Ze]
 refine Zg [1,2] [true] ?_
 simp only [push_cast,seval]
 refine Zf ?_
 refine Zk [1,2,14] (Zb Zc [] ?_)
 simp only [push_cast,seval,Za,hN0,hN]
 refine Zo (t:=(a0.Kind != 1)) rfl (fun c7 => ?_) (fun c7 => ?_)
 ·replace h:=Zw c7 h
  refine Zk [4] (Zb Zc [] ?_)
  simp only [push_cast,seval,Za,hN0,hN]
  refine Zu ?_
  try simp only [Zh,Ze]
  have h:=Option.some.inj h;subst h
  refine Zl (.inr rfl) hU [.val (.slice none 0 0)] (by omega) ?_
  simp only [push_cast,seval,Za,Tryz.results27,hN0,hN]
 replace h:=Zv c7 h
 refine Zt ?_
 try simp only [Zh,Ze]
 refine Zg [1,2] [true] ?_
 simp only [push_cast,seval]
 refine Zk [1,2,5] (Zb Zc [] ?_)
 simp only [push_cast,seval,Za,hN0,hN]
 refine Zf ?_
 obtain ⟨x4,hx4,ax4,bx4,cx4,h⟩:=bE (f:=(eL (eI .u64))) Uv (fun _=>rfl) (by decide) h
 obtain ⟨l5,al5,bl5,cl5,gl5,h⟩:=bS (lo:=(some (.i64,a0.At))) (hi:=(some (.i64,(IntKind.i64.wrap (a0.At+a0.Data))))) (f:=(eI .u64)) rfl rfl Zcz Ug (fun _=>rfl) h
 obtain ⟨l6,pl6,ql6,el6,h⟩:=bA0 (k:=l5.length) rfl h
 refine Zst Zc (by kernel_rfl) [false,false,false,false,false,false,false,false,false,false,false,false,false,false,true,false] [] (by kernel_rfl) ?_
 simp only [push_cast,Nat.reduceAdd,Nat.reduceSub,Nat.reduceMul,Nat.reduceLeDiff,Nat.reduceLT,Nat.reduceEqDiff,↓reduceIte,reduceCtorEq,Int.reduceBEq,Int.reduceBNe,Nat.reduceBEq,Int.reduceLE,Int.reduceLT,Int.reduceEq,Int.reduceNe,Int.reduceNeg,Nat.reduceDiv,Nat.reduceMod,Nat.reducePow,Za,ax4,bx4,cx4,al5,bl5,cl5,gl5,pl6,ql6,el6,hN0,hN]
 refine Za8 ⟨30,[],[(4,.row (n+1) l6.length)]⟩ (Z3 O n [none,some ⟨true,49,1,l6.length,fl (eI .u64) l6⟩]) (Zm hU rfl rfl ?_) ?_
 ·simp only [push_cast,Nat.reduceAdd,Nat.reduceSub,Nat.reduceMul,Nat.reduceLeDiff,Nat.reduceLT,Nat.reduceEqDiff,↓reduceIte,reduceCtorEq,Int.reduceBEq,Int.reduceBNe,Nat.reduceBEq,Int.reduceLE,Int.reduceLT,Int.reduceEq,Int.reduceNe,Int.reduceNeg,Nat.reduceDiv,Nat.reduceMod,Nat.reducePow,Za,ax4,bx4,cx4,al5,bl5,cl5,gl5,pl6,ql6,el6,hN0,hN]
 refine Zu ?_
 try simp only [Zh,Ze]
 have h:=Option.some.inj h;subst h
 refine Zl (.inr rfl) hU [.row (n+1) l6.length] (by omega) ?_
 simp only [push_cast,seval,Za,Tryz.results27,hN0,hN]
theorem U5 {a0:Zs} {r:Int} {O:Objs} {n:Nat} (h:Qf a0=some r):GTo Tryz.prog 28 [.agg (Zx a0)] O n (.val (.int .i64 r)) O n:=by
 unfold Qf at h
 refine Ye Zc Tryz.call28 Tryz.func28 rfl (Nat.le_of_ble_eq_true rfl) (Nat.le_refl _) fun hU => ?_
 have hN0:O n=none:=hU.fresh _ (Nat.le_refl _)
 have hN:∀ k,O (n+k)=none:=fun k=>hU.fresh _ (Nat.le_add_right _ _)
 show W _ _ _ _ ⟨10,[],[(0,.agg (Zx a0))]⟩ (Z3 O n []) _
 refine Zk [1] (Zb Zc [] ?_)
 simp only [push_cast,seval,Za,hN0,hN]
 refine Zf ?_
 refine Zk [1,5] (Zb Zc [] ?_)
 simp only [push_cast,seval,Za,hN0,hN]
 refine Zo (t:=(a0.Kind == 1)) rfl (fun c1 => ?_) (fun c1 => ?_)
 ·replace h:=Zw c1 h
  refine Zk [2] (Zb Zc [] ?_)
  simp only [push_cast,seval,Za,hN0,hN]
  refine Zu ?_
  try simp only [Zh,Ze]
  have h:=Option.some.inj h;subst h
  refine Zl (.inr rfl) hU [.val (.int .i64 a0.Ptrs)] (by omega) ?_
  simp only [push_cast,seval,Za,Tryz.results28,hN0,hN]
 replace h:=Zv c1 h
 refine Zt ?_
 try simp only [Zh,Ze]
 refine Zg [1] [true] ?_
 simp only [push_cast,seval]
 refine Zk [2] (Zb Zc [] ?_)
 simp only [push_cast,seval,Za,hN0,hN]
 refine Zu ?_
 try simp only [Zh,Ze]
 have h:=Option.some.inj h;subst h
 refine Zl (.inr rfl) hU [.val (.int .i64 a0.Count)] (by omega) ?_
 simp only [push_cast,seval,Za,Tryz.results28,hN0,hN]
theorem Zpd {a0:(List Int)} {a1:Int} {r:Int} {O:Objs} {n:Nat} (h:Uo a0 a1=some r):GTo Tryz.prog 82 [.sl a0.length (fl (eI .u64) a0),.val (.int .i64 a1)] O n (.val (.int .u64 r)) O n:=by
 unfold Uo at h
 refine Ye Zc Tryz.call82 Tryz.func82 rfl (Nat.le_of_ble_eq_true rfl) (Nat.le_refl _) fun hU => ?_
 have hN0:O n=none:=hU.fresh _ (Nat.le_refl _)
 have hN:∀ k,O (n+k)=none:=fun k=>hU.fresh _ (Nat.le_add_right _ _)
 show W _ _ _ _ ⟨31,[],[(0,.sl a0.length (fl (eI .u64) a0)),(1,.val (.int .i64 a1))]⟩ (Z3 O n []) _
 refine Zk [0,1] (Zb Zc [] ?_)
 simp only [push_cast,seval,Za,hN0,hN]
 refine Zf ?_
 refine Zk [0,1,15] (Zb Zc [none,none,none,none,none] ?_)
 simp only [push_cast,seval,Za,hN0,hN]
 repeat (with_reducible refine And.intro (by first | (intro h0;simp only [h0,and_self];done) | (intro h0;simp only [h0,true_and,and_true,and_self,imp_self,implies_true,ne_eq];done) | (intros;simp_all;done) | exact True.intro) ?_)
 refine Zo (t:=(cond (decide (a1 < 0)) true (decide ((a0.length:Int)≤(IntKind.i64.wrap (Int.tdiv a1 64)))))) rfl (fun c5 => ?_) (fun c5 => ?_)
 ·replace h:=Zw c5 h
  refine Zk [4] (Zb Zc [] ?_)
  simp only [push_cast,seval,Za,hN0,hN]
  refine Zu ?_
  try simp only [Zh,Ze]
  have h:=Option.some.inj h;subst h
  refine Zl (.inr rfl) hU [.val (.int .u64 0)] (by omega) ?_
  simp only [push_cast,seval,Za,Tryz.results82,hN0,hN]
 replace h:=Zv c5 h
 refine Zt ?_
 try simp only [Zh,Ze]
 refine Zg [0,1] [] ?_
 simp only [push_cast,seval]
 obtain ⟨x2,hx2,ax2,bx2,cx2,h⟩:=bE (f:=(eI .u64)) Ug (fun _=>rfl) (by decide) h
 refine Zk [1,5] (Zb Zc [] ?_)
 simp only [push_cast,Nat.reduceAdd,Nat.reduceSub,Nat.reduceMul,Nat.reduceLeDiff,Nat.reduceLT,Nat.reduceEqDiff,↓reduceIte,reduceCtorEq,Int.reduceBEq,Int.reduceBNe,Nat.reduceBEq,Int.reduceLE,Int.reduceLT,Int.reduceEq,Int.reduceNe,Int.reduceNeg,Nat.reduceDiv,Nat.reduceMod,Nat.reducePow,Za,ax2,bx2,cx2,hN0,hN]
 refine Zf ?_
 refine Zk [1,5,6] (Zb Zc [] ?_)
 simp only [push_cast,seval,Za,hN0,hN]
 refine Zg [1,5,6] [] ?_
 simp only [push_cast,seval]
 obtain ⟨z4,hz4,h⟩:=bC h
 refine Xx (E':=⟨31,[],[(5,.val (.int .u64 z4))]⟩) (O':=(Z3 O n [])) (n0:=n) ?_ ?_
 ·refine Qt hz4 (fun s0_=>⟨31,[],[(1,.val (.int .i64 a1)),(5,.val (.int .u64 s0_.1)),(6,.val (.int .i64 s0_.2))]⟩) (fun s0_=>(Z3 O n [])) (fun z4=>JX 0 n (⟨31,[],[(5,.val (.int .u64 z4))]⟩:Env) (Z3 O n []) n) ?_
  intro s0_ x0_ hs0_
  unfold Jr at hs0_
  try dsimp only
  refine Zf ?_
  refine Zk [1,5,6,24] (Zb Zc [] ?_)
  simp only [push_cast,seval,Za,hN0,hN]
  refine Zo (t:=(decide (s0_.2 < (Int.tmod a1 64)))) rfl (fun c3 => ?_) (fun c3 => ?_)
  ·replace hs0_:=Zw c3 hs0_
   refine Zt ?_
   try simp only [Zh,Ze]
   refine Zg [1,5,6] [] ?_
   simp only [push_cast,seval]
   refine Zf ?_
   refine Yo ?_
   refine Zb Zc [] ?_
   simp only [push_cast,seval,Za,hN0,hN]
   refine Zg [1,5,6] [] ?_
   simp only [push_cast,seval]
   refine Zb Zc [] ?_
   simp only [push_cast,seval,Za,hN0,hN]
   have hs0_:=Option.some.inj hs0_;subst hs0_
   refine And.intro rfl (Fit2.of (Zm hU rfl rfl ?_) (by omega))
   simp only [push_cast,seval,Za,hN0,hN]
  replace hs0_:=Zv c3 hs0_
  refine Q7 ?_
  try simp only [Zh,Ze,↓reduceIte,Nat.reduceEqDiff]
  have hs0_:=Option.some.inj hs0_;subst hs0_
  refine And.intro (fun h=>by cases h) (And.intro rfl (Fit2.of (Zm hU rfl rfl ?_) (by omega)))
  simp only [push_cast,seval,Za,hN0,hN]
 try simp only [Zh,Ze,↓reduceIte,Nat.reduceEqDiff]
 refine Zg [5] [] ?_
 simp only [push_cast,seval]
 refine Zk [4] (Zb Zc [] ?_)
 simp only [push_cast,seval,Za,hN0,hN]
 refine Zu ?_
 try simp only [Zh,Ze]
 have h:=Option.some.inj h;subst h
 refine Zl (.inr rfl) hU [.val (.int .u64 (Int.tmod z4 2))] (by omega) ?_
 simp only [push_cast,seval,Za,Tryz.results82,hN0,hN]
theorem Zpe {a0:(List Int)} {a1:Int} {a2:Int} {r:Int} {O:Objs} {n:Nat} (h:Up a0 a1 a2=some r):GTo Tryz.prog 55 [.sl a0.length (fl (eI .u64) a0),.val (.int .i64 a1),.val (.int .i64 a2)] O n (.val (.int .u64 r)) O n:=by
 unfold Up at h
 refine Ye Zc Tryz.call55 Tryz.func55 rfl (Nat.le_of_ble_eq_true rfl) (Nat.le_refl _) fun hU => ?_
 have hN0:O n=none:=hU.fresh _ (Nat.le_refl _)
 have hN:∀ k,O (n+k)=none:=fun k=>hU.fresh _ (Nat.le_add_right _ _)
 show W _ _ _ _ ⟨39,[],[(0,.sl a0.length (fl (eI .u64) a0)),(1,.val (.int .i64 a1)),(2,.val (.int .i64 a2))]⟩ (Z3 O n []) _
 refine Zk [0,1,2] (Zb Zc [] ?_)
 simp only [push_cast,seval,Za,hN0,hN]
 refine Zf ?_
 obtain ⟨y2,hy2,h⟩:=bC h
 refine Zb Zc [] ?_
 simp only [push_cast,seval,Za,hN0,hN]
 refine (Kw hy2).then ?_
 simp only [push_cast,seval,Za,hN0,hN]
 refine Zg [0,2,7] [] ?_
 simp only [push_cast,seval]
 refine Zf ?_
 refine Zk [0,2,7,21] (Zb Zc [none,none,none,none] ?_)
 simp only [push_cast,seval,Za,hN0,hN]
 repeat (with_reducible refine And.intro (by first | (intro h0;simp only [h0];done) | (intro h0;simp only [h0,true_and,and_true,imp_self,implies_true,ne_eq];done) | (intros;simp_all;done) | exact True.intro) ?_)
 refine Zo (t:=(cond (cond (decide (y2 < 1)) true (decide (a2 < 0))) true (decide (1099511627776 < a2)))) rfl (fun c6 => ?_) (fun c6 => ?_)
 ·replace h:=Zw c6 h
  refine Zk [6] (Zb Zc [] ?_)
  simp only [push_cast,seval,Za,hN0,hN]
  refine Zu ?_
  try simp only [Zh,Ze]
  have h:=Option.some.inj h;subst h
  refine Zl (.inr rfl) hU [.val (.int .u64 0)] (by omega) ?_
  simp only [push_cast,seval,Za,Tryz.results55,hN0,hN]
 replace h:=Zv c6 h
 refine Zt ?_
 try simp only [Zh,Ze]
 refine Zg [0,2,7] [] ?_
 simp only [push_cast,seval]
 refine Zk [0,2,7,8] (Zb Zc [] ?_)
 simp only [push_cast,seval,Za,hN0,hN]
 refine Zf ?_
 refine Zk [0,2,7,8,9] (Zb Zc [] ?_)
 simp only [push_cast,seval,Za,hN0,hN]
 refine Zg [0,2,7,8,9] [] ?_
 simp only [push_cast,seval]
 obtain ⟨z5,hz5,h⟩:=bC h
 refine Xx (E':=⟨39,[],[(8,.val (.int .u64 z5))]⟩) (O':=(Z3 O n [])) (n0:=n) ?_ ?_
 ·refine Qt hz5 (fun s0_=>⟨39,[],[(0,.sl a0.length (fl (eI .u64) a0)),(2,.val (.int .i64 a2)),(7,.val (.int .i64 y2)),(8,.val (.int .u64 s0_.1)),(9,.val (.int .i64 s0_.2))]⟩) (fun s0_=>(Z3 O n [])) (fun z5=>JX 0 n (⟨39,[],[(8,.val (.int .u64 z5))]⟩:Env) (Z3 O n []) n) ?_
  intro s0_ x0_ hs0_
  unfold Js at hs0_
  try dsimp only
  refine Zf ?_
  refine Zk [0,2,7,8,9,25] (Zb Zc [] ?_)
  simp only [push_cast,seval,Za,hN0,hN]
  refine Zo (t:=(decide (0≤s0_.2))) rfl (fun c4 => ?_) (fun c4 => ?_)
  ·replace hs0_:=Zw c4 hs0_
   refine Zt ?_
   try simp only [Zh,Ze]
   refine Zg [0,2,7,8,9] [] ?_
   simp only [push_cast,seval]
   refine Zf ?_
   refine Yo ?_
   obtain ⟨y3,hy3,hs0_⟩:=bC hs0_
   refine Zb Zc [] ?_
   simp only [push_cast,seval,Za,hN0,hN]
   refine (Zpd hy3).then ?_
   simp only [push_cast,seval,Za,hN0,hN]
   refine Zg [0,2,7,8,9] [] ?_
   simp only [push_cast,seval]
   refine Zb Zc [] ?_
   simp only [push_cast,seval,Za,hN0,hN]
   have hs0_:=Option.some.inj hs0_;subst hs0_
   refine And.intro rfl (Fit2.of (Zm hU rfl rfl ?_) (by omega))
   simp only [push_cast,seval,Za,hN0,hN]
  replace hs0_:=Zv c4 hs0_
  refine Q7 ?_
  try simp only [Zh,Ze,↓reduceIte,Nat.reduceEqDiff]
  have hs0_:=Option.some.inj hs0_;subst hs0_
  refine And.intro (fun h=>by cases h) (And.intro rfl (Fit2.of (Zm hU rfl rfl ?_) (by omega)))
  simp only [push_cast,seval,Za,hN0,hN]
 try simp only [Zh,Ze,↓reduceIte,Nat.reduceEqDiff]
 refine Zg [8] [] ?_
 simp only [push_cast,seval]
 refine Zk [6] (Zb Zc [] ?_)
 simp only [push_cast,seval,Za,hN0,hN]
 refine Zu ?_
 try simp only [Zh,Ze]
 have h:=Option.some.inj h;subst h
 refine Zl (.inr rfl) hU [.val (.int .u64 z5)] (by omega) ?_
 simp only [push_cast,seval,Za,Tryz.results55,hN0,hN]
theorem Zcb {a0:Zs} {a1:(List (List Int))} {a2:Int} {r:(Zs×Int)} {O:Objs} {n:Nat} (h:Jg a0 a1 a2=some r):GTo Tryz.prog 29 [.agg (Zx a0),.sl a1.length (fl (eL (eI .u64)) a1),.val (.int .i64 a2)] O n (.tup [.agg (Zx r.1),.val (.int .i64 r.2)]) O n:=by
 unfold Jg at h
 refine Ye Zc Tryz.call29 Tryz.func29 rfl (Nat.le_of_ble_eq_true rfl) (Nat.le_refl _) fun hU => ?_
 have hN0:O n=none:=hU.fresh _ (Nat.le_refl _)
 have hN:∀ k,O (n+k)=none:=fun k=>hU.fresh _ (Nat.le_add_right _ _)
 show W _ _ _ _ ⟨80,[],[(0,.agg (Zx a0)),(1,.sl a1.length (fl (eL (eI .u64)) a1)),(2,.val (.int .i64 a2))]⟩ (Z3 O n []) _
 refine Zk [1,2,3,6] (Zb Zc [] ?_)
 simp only [push_cast,seval,Za,hN0,hN]
 refine Zf ?_
 obtain ⟨z2,hz2,h⟩:=bC h
 refine Yr (E':=⟨80,[],[(1,.sl a1.length (fl (eL (eI .u64)) a1)),(2,.val (.int .i64 a2)),(3,.ref n 0),(6,.ref (n+1) 0),(15,.val (.bool z2))]⟩) (O':=(Z3 O n [some ⟨false,51,7,1,(Zx a0)⟩,some ⟨false,51,7,1,[.val (.int .i64 0),.val (.int .i64 0),.val (.int .i64 0),.val (.int .i64 0),.val (.int .i64 0),.val (.int .i64 0),.val (.int .u64 0)]⟩])) (n0:=(n+2)) ?_ ?_
 ·rcases Bool.eq_false_or_eq_true (decide (a2 < 0)) with c5 | c5
  ·replace hz2:=Zw c5 hz2
   refine Zb Zc (Z2y []) ?_
   simp only [push_cast,seval,Za,c5,hN0,hN]
   have hz2:=Option.some.inj hz2;subst hz2
   refine And.intro rfl (Fit2.of (Zm hU rfl rfl ?_) (by omega))
   simp only [push_cast,seval,Za,c5,hN0,hN]
  replace hz2:=Zv c5 hz2
  obtain ⟨y4,hy4,hz2⟩:=bC hz2
  refine Zb Zc (Zyn []) ?_
  simp only [push_cast,seval,Za,c5,hN0,hN]
  refine (U5 hy4).then ?_
  simp only [push_cast,seval,Za,c5,hN0,hN]
  have hz2:=Option.some.inj hz2;subst hz2
  refine And.intro rfl (Fit2.of (Zm hU rfl rfl ?_) (by omega))
  simp only [push_cast,seval,Za,c5,hN0,hN]
 refine Zo (t:=z2) rfl (fun c19 => ?_) (fun c19 => ?_)
 ·replace h:=Zw c19 h
  refine Zf ?_
  refine Zb Zc [] ?_
  simp only [push_cast,seval,Za,hN0,hN]
  refine Zg [6,7] [false,true] ?_
  simp only [push_cast,seval]
  refine Zu ?_
  try simp only [Zh,Ze]
  have h:=Option.some.inj h;subst h
  refine Zl (.inr rfl) hU [.agg [.val (.int .i64 0),.val (.int .i64 0),.val (.int .i64 0),.val (.int .i64 0),.val (.int .i64 0),.val (.int .i64 0),.val (.int .u64 0)],.val (.int .i64 0)] (by omega) ?_
  simp only [push_cast,seval,Za,Tryz.results29,hN0,hN]
 replace h:=Zv c19 h
 refine Zt ?_
 try simp only [Zh,Ze]
 refine Zg [1,2,3,6] [true,true] ?_
 simp only [push_cast,seval]
 refine Zf ?_
 refine Zk [1,2,3,6,19] (Zb Zc [] ?_)
 simp only [push_cast,seval,Za,hN0,hN]
 refine Zo (t:=(a0.Kind == 1)) rfl (fun Gj => ?_) (fun Gj => ?_)
 ·replace h:=Zw Gj h
  refine Zf ?_
  obtain ⟨y7,hy7,h⟩:=bC h
  refine Zb Zc [] ?_
  simp only [push_cast,seval,Za,hN0,hN]
  refine (Zco hy7).then ?_
  simp only [push_cast,seval,Za,hN0,hN]
  refine Zg [6,7] [false,true] ?_
  simp only [push_cast,seval]
  refine Zu ?_
  try simp only [Zh,Ze]
  have h:=Option.some.inj h;subst h
  refine Zl (.inr rfl) hU [.agg (Zx y7.1),.val (.int .i64 y7.2)] (by omega) ?_
  simp only [push_cast,seval,Za,Tryz.results29,hN0,hN]
 replace h:=Zv Gj h
 refine Zt ?_
 try simp only [Zh,Ze]
 refine Zg [1,2,3,6] [true,true] ?_
 simp only [push_cast,seval]
 refine Zf ?_
 refine Zk [1,2,3,6,35] (Zb Zc [] ?_)
 simp only [push_cast,seval,Za,hN0,hN]
 refine Zo (t:=(a0.Kind == 8)) rfl (fun c17 => ?_) (fun c17 => ?_)
 ·replace h:=Zw c17 h
  refine Zf ?_
  obtain ⟨y9,hy9,h⟩:=bC h
  refine Zb Zc [] ?_
  simp only [push_cast,seval,Za,hN0,hN]
  refine (Zco hy9).then ?_
  simp only [push_cast,seval,Za,hN0,hN]
  refine Zg [6,7] [false,true] ?_
  simp only [push_cast,seval]
  refine Zu ?_
  try simp only [Zh,Ze]
  have h:=Option.some.inj h;subst h
  refine Zl (.inr rfl) hU [.agg (Zx y9.1),.val (.int .i64 y9.2)] (by omega) ?_
  simp only [push_cast,seval,Za,Tryz.results29,hN0,hN]
 replace h:=Zv c17 h
 refine Zt ?_
 try simp only [Zh,Ze]
 refine Zg [1,2,3,6] [true,true] ?_
 simp only [push_cast,seval]
 refine Zf ?_
 refine Zk [1,2,3,6,48] (Zb Zc [] ?_)
 simp only [push_cast,seval,Za,hN0,hN]
 refine Zo (t:=(a0.Kind == 9)) rfl (fun c16 => ?_) (fun c16 => ?_)
 ·replace h:=Zw c16 h
  refine Zf ?_
  refine Zb Zc [] ?_
  simp only [push_cast,seval,Za,hN0,hN]
  refine Zg [6,7] [false,true] ?_
  simp only [push_cast,seval]
  refine Zu ?_
  try simp only [Zh,Ze]
  have h:=Option.some.inj h;subst h
  refine Zl (.inr rfl) hU [.agg [.val (.int .i64 1),.val (.int .i64 a0.S),.val (.int .i64 (IntKind.i64.wrap (a0.At+(IntKind.i64.wrap (a2 * (IntKind.i64.wrap (a0.Data+a0.Ptrs))))))),.val (.int .i64 a0.Data),.val (.int .i64 a0.Ptrs),.val (.int .i64 0),.val (.int .u64 0)],.val (.int .i64 0)] (by omega) ?_
  simp only [push_cast,seval,Za,Tryz.results29,hN0,hN]
 replace h:=Zv c16 h
 refine Zt ?_
 try simp only [Zh,Ze]
 refine Zg [1,2,3,6] [true,true] ?_
 simp only [push_cast,seval]
 refine Zf ?_
 obtain ⟨x13,hx13,ax13,bx13,cx13,h⟩:=bE (f:=(eL (eI .u64))) Uv (fun _=>rfl) (by decide) h
 obtain ⟨l14,al14,bl14,cl14,gl14,h⟩:=bS (lo:=(some (.i64,a0.At))) (hi:=none) (f:=(eI .u64)) rfl rfl Zcz Ug (fun _=>rfl) h
 obtain ⟨y15,hy15,h⟩:=bC h
 refine Zst Zc (by kernel_rfl) [false,false,false,false,false,false,false,false,false,false,false,false,false,false,true,false] [] (by kernel_rfl) ?_
 simp only [push_cast,Nat.reduceAdd,Nat.reduceSub,Nat.reduceMul,Nat.reduceLeDiff,Nat.reduceLT,Nat.reduceEqDiff,↓reduceIte,reduceCtorEq,Int.reduceBEq,Int.reduceBNe,Nat.reduceBEq,Int.reduceLE,Int.reduceLT,Int.reduceEq,Int.reduceNe,Int.reduceNeg,Nat.reduceDiv,Nat.reduceMod,Nat.reducePow,Za,ax13,bx13,cx13,al14,bl14,cl14,gl14,hN0,hN]
 refine PCall.of (Zpe hy15) ?_
 simp only [push_cast,Nat.reduceAdd,Nat.reduceSub,Nat.reduceMul,Nat.reduceLeDiff,Nat.reduceLT,Nat.reduceEqDiff,↓reduceIte,reduceCtorEq,Int.reduceBEq,Int.reduceBNe,Nat.reduceBEq,Int.reduceLE,Int.reduceLT,Int.reduceEq,Int.reduceNe,Int.reduceNeg,Nat.reduceDiv,Nat.reduceMod,Nat.reducePow,Za,ax13,bx13,cx13,al14,bl14,cl14,gl14,hN0,hN]
 refine Zg [6,7] [false,true] ?_
 simp only [push_cast,seval]
 refine Zu ?_
 try simp only [Zh,Ze]
 have h:=Option.some.inj h;subst h
 refine Zl (.inr rfl) hU [.agg [.val (.int .i64 10),.val (.int .i64 0),.val (.int .i64 0),.val (.int .i64 0),.val (.int .i64 0),.val (.int .i64 0),.val (.int .u64 y15)],.val (.int .i64 0)] (by omega) ?_
 simp only [push_cast,seval,Za,Tryz.results29,hN0,hN]
theorem Zif {Yn:((List (List Int))→Zs→Int→Int→Option (Zj×Int×Int))} {X1:((List (List Int))→Zs→Int→Int→Option (Zj×Int×Int))} (Ut:∀ {a0:(List (List Int))} {a1:Zs} {a2:Int} {a3:Int} {r:(Zj×Int×Int)} {O:Objs} {n:Nat},Yn a0 a1 a2 a3=some r→GTo Tryz.prog 13 [.sl a0.length (fl (eL (eI .u64)) a0),.agg (Zx a1),.val (.int .i64 a2),.val (.int .i64 a3)] O n (.tup [.agg (Zn r.1),.val (.int .i64 r.2.1),.val (.int .i64 r.2.2)]) O n) (Zc9:∀ {a0:(List (List Int))} {a1:Zs} {a2:Int} {a3:Int} {r:(Zj×Int×Int)} {O:Objs} {n:Nat},X1 a0 a1 a2 a3=some r→GTo Tryz.prog 30 [.sl a0.length (fl (eL (eI .u64)) a0),.agg (Zx a1),.val (.int .i64 a2),.val (.int .i64 a3)] O n (.tup [.agg (Zn r.1),.val (.int .i64 r.2.1),.val (.int .i64 r.2.2)]) O n) {a0:(List (List Int))} {a1:Zs} {a2:Int} {a3:Int} {r:(Zj×Int×Int)} {O:Objs} {n:Nat} (h:Jd Yn X1 a0 a1 a2 a3=some r):GTo Tryz.prog 13 [.sl a0.length (fl (eL (eI .u64)) a0),.agg (Zx a1),.val (.int .i64 a2),.val (.int .i64 a3)] O n (.tup [.agg (Zn r.1),.val (.int .i64 r.2.1),.val (.int .i64 r.2.2)]) O n:=by
 unfold Jd at h
 refine Ye Zc Tryz.call13 Tryz.func13 rfl (Nat.le_of_ble_eq_true rfl) (Nat.le_refl _) fun hU => ?_
 have hN0:O n=none:=hU.fresh _ (Nat.le_refl _)
 have hN:∀ k,O (n+k)=none:=fun k=>hU.fresh _ (Nat.le_add_right _ _)
 show W _ _ _ _ ⟨149,[],[(0,.sl a0.length (fl (eL (eI .u64)) a0)),(1,.agg (Zx a1)),(2,.val (.int .i64 a2)),(3,.val (.int .i64 a3))]⟩ (Z3 O n []) _
 refine Zk [0,2,3,5,8] (Zb Zc [] ?_)
 simp only [push_cast,seval,Za,hN0,hN]
 refine Zf ?_
 obtain ⟨y2,hy2,h⟩:=bC h
 refine Zbo Zc (by kernel_rfl) [.low,.low,.low,.plain,.low,.plain,.pass,.bar] (fun i=>i < (n+2)) [0,1,2,3,4,5,6,7] [.low,.low,.low,.plain,.low,.plain,.pass,.bar] [] (by kernel_rfl) rfl ?_
 simp only [push_cast,seval,Za,hN0,hN]
 repeat (with_reducible refine And.intro (by first | omega | exact Xb rfl | exact Yw | exact X7 rfl | exact Qm rfl rfl | exact Y9 rfl | exact Y2 rfl) ?_)
 first | refine PCallA.of (fun _ _=>Jk hy2) ?_ | refine PCall.of (Jk hy2) ?_
 simp only [push_cast,seval,Za,hN0,hN]
 repeat (with_reducible refine And.intro (by first | omega | exact Xb rfl | exact Yw | exact X7 rfl | exact Qm rfl rfl | exact Y9 rfl | exact Y2 rfl) ?_)
 refine Zg [0,2,3,5,8,11] [true,true,true] ?_
 simp only [push_cast,seval]
 refine Zf ?_
 refine Zk [0,2,3,5,8,11,25] (Zb Zc [] ?_)
 simp only [push_cast,seval,Za,hN0,hN]
 refine Zo (t:=(a1.Kind == 0)) rfl (fun c27 => ?_) (fun c27 => ?_)
 ·replace h:=Zw c27 h
  refine Zf ?_
  refine Zb Zc [] ?_
  simp only [push_cast,seval,Za,hN0,hN]
  refine Zg [8,9,10] [false,true,false] ?_
  simp only [push_cast,seval]
  refine Zu ?_
  try simp only [Zh,Ze]
  have h:=Option.some.inj h;subst h
  refine Zl (.inr rfl) hU [.agg [.val (.int .i64 a1.Kind),.sl y2.length (fl (eI .u64) y2),.val (.slice none 0 0)],.val (.int .i64 a3),.val (.int .i64 0)] (by omega) ?_
  simp only [push_cast,seval,Za,Tryz.results13,hN0,hN]
 replace h:=Zv c27 h
 refine Zt ?_
 try simp only [Zh,Ze]
 refine Zg [0,2,3,5,8,11] [true,true,true] ?_
 simp only [push_cast,seval]
 refine Zf ?_
 refine Zk [0,2,3,5,8,11,43] (Zb Zc [none,none,none,none,none,none,none,none,none,none,none,none] ?_)
 simp only [push_cast,seval,Za,hN0,hN]
 repeat (with_reducible refine And.intro (by first | (intro h0;simp only [h0,and_self];done) | (intro h0;simp only [h0,Bool.not_true,Bool.and_true,true_and,and_true,and_self,imp_self,implies_true,ne_eq,beq_iff_eq];done) | (intros;simp_all;done) | exact True.intro) ?_)
 refine Zo (t:=(cond (decide (a2 < 1)) true (cond (cond (a1.Kind == 9) (decide (0 < a1.Count)) false) (decide (a2 < 2)) false))) rfl (fun c26 => ?_) (fun c26 => ?_)
 ·replace h:=Zw c26 h
  refine Zf ?_
  refine Zb Zc [] ?_
  simp only [push_cast,seval,Za,hN0,hN]
  refine Zg [8,9,10] [false,true,false] ?_
  simp only [push_cast,seval]
  refine Zu ?_
  try simp only [Zh,Ze]
  have h:=Option.some.inj h;subst h
  refine Zl (.inr rfl) hU [.agg [.val (.int .i64 a1.Kind),.sl y2.length (fl (eI .u64) y2),.val (.slice none 0 0)],.val (.int .i64 a3),.val (.int .i64 3)] (by omega) ?_
  simp only [push_cast,seval,Za,Tryz.results13,hN0,hN]
 replace h:=Zv c26 h
 refine Zt ?_
 try simp only [Zh,Ze]
 refine Zg [0,2,3,5,8,11] [true,true,true] ?_
 simp only [push_cast,seval]
 refine Zf ?_
 obtain ⟨y4,hy4,h⟩:=bC h
 refine Zb Zc [] ?_
 simp only [push_cast,seval,Za,hN0,hN]
 refine (U5 hy4).then ?_
 simp only [push_cast,seval,Za,hN0,hN]
 refine Zg [0,2,3,5,8,11,12] [true,true,true] ?_
 simp only [push_cast,seval]
 obtain ⟨z5,hz5,h⟩:=bC h
 refine Yr (E':=⟨149,[],[(0,.sl a0.length (fl (eL (eI .u64)) a0)),(2,.val (.int .i64 a2)),(3,.val (.int .i64 a3)),(5,.ref n 0),(8,.ref (n+1) 0),(11,.ref (n+2) 0),(12,.val (.int .i64 z5))]⟩) (O':=(Z3 O n [some ⟨false,51,7,1,(Zx a1)⟩,some ⟨false,29,3,1,[.val (.int .i64 0),.val (.slice none 0 0),.val (.slice none 0 0)]⟩,some ⟨false,29,3,1,[.val (.int .i64 a1.Kind),.sl y2.length (fl (eI .u64) y2),.val (.slice none 0 0)]⟩])) (n0:=(n+3)) ?_ ?_
 ·refine Zk [0,2,3,5,8,11,12,51] (Zb Zc [] ?_)
  simp only [push_cast,seval,Za,hN0,hN]
  refine Zo (t:=(a1.Kind == 1)) rfl (fun c6 => ?_) (fun c6 => ?_)
  ·replace hz5:=Zw c6 hz5
   refine Zb Zc [] ?_
   simp only [push_cast,seval,Za,hN0,hN]
   have hz5:=Option.some.inj hz5;subst hz5
   refine And.intro rfl (Fit2.of (Zm hU rfl rfl ?_) (by omega))
   simp only [push_cast,seval,Za,hN0,hN]
  replace hz5:=Zv c6 hz5
  refine Zt ?_
  try simp only [Zh,Ze]
  have hz5:=Option.some.inj hz5;subst hz5
  refine And.intro rfl (Fit2.of (Zm hU rfl rfl ?_) (by omega))
  simp only [push_cast,seval,Za,hN0,hN]
 obtain ⟨z7,hz7,h⟩:=bC h
 refine Yr (E':=⟨149,[],[(0,.sl a0.length (fl (eL (eI .u64)) a0)),(2,.val (.int .i64 a2)),(3,.val (.int .i64 a3)),(5,.ref n 0),(8,.ref (n+1) 0),(11,.ref (n+2) 0),(12,.val (.int .i64 z7))]⟩) (O':=(Z3 O n [some ⟨false,51,7,1,(Zx a1)⟩,some ⟨false,29,3,1,[.val (.int .i64 0),.val (.slice none 0 0),.val (.slice none 0 0)]⟩,some ⟨false,29,3,1,[.val (.int .i64 a1.Kind),.sl y2.length (fl (eI .u64) y2),.val (.slice none 0 0)]⟩])) (n0:=(n+3)) ?_ ?_
 ·refine Zk [0,2,3,5,8,11,12,60] (Zb Zc [] ?_)
  simp only [push_cast,seval,Za,hN0,hN]
  refine Zo (t:=(a1.Kind == 9)) rfl (fun c8 => ?_) (fun c8 => ?_)
  ·replace hz7:=Zw c8 hz7
   refine Zb Zc [] ?_
   simp only [push_cast,seval,Za,hN0,hN]
   have hz7:=Option.some.inj hz7;subst hz7
   refine And.intro rfl (Fit2.of (Zm hU rfl rfl ?_) (by omega))
   simp only [push_cast,seval,Za,hN0,hN]
  replace hz7:=Zv c8 hz7
  refine Zt ?_
  try simp only [Zh,Ze]
  have hz7:=Option.some.inj hz7;subst hz7
  refine And.intro rfl (Fit2.of (Zm hU rfl rfl ?_) (by omega))
  simp only [push_cast,seval,Za,hN0,hN]
 refine Zf ?_
 refine Zk [0,2,3,5,8,11,12,73] (Zb Zc [] ?_)
 simp only [push_cast,seval,Za,hN0,hN]
 refine Zo (t:=(decide (a3 < z7))) rfl (fun c25 => ?_) (fun c25 => ?_)
 ·replace h:=Zw c25 h
  refine Zf ?_
  refine Zb Zc [] ?_
  simp only [push_cast,seval,Za,hN0,hN]
  refine Zg [8,9,10] [false,true,false] ?_
  simp only [push_cast,seval]
  refine Zu ?_
  try simp only [Zh,Ze]
  have h:=Option.some.inj h;subst h
  refine Zl (.inr rfl) hU [.agg [.val (.int .i64 a1.Kind),.sl y2.length (fl (eI .u64) y2),.val (.slice none 0 0)],.val (.int .i64 a3),.val (.int .i64 3)] (by omega) ?_
  simp only [push_cast,seval,Za,Tryz.results13,hN0,hN]
 replace h:=Zv c25 h
 refine Zt ?_
 try simp only [Zh,Ze]
 refine Zg [0,2,3,5,8,11,12] [true,true,true] ?_
 simp only [push_cast,seval]
 refine Zk [0,2,3,5,8,11] (Zb Zc [] ?_)
 simp only [push_cast,seval,Za,hN0,hN]
 refine Zf ?_
 refine Zk [0,2,3,5,8,11,13] (Zb Zc [] ?_)
 simp only [push_cast,seval,Za,hN0,hN]
 refine Zg [0,2,3,5,8,11,13] [true,true,true] ?_
 simp only [push_cast,seval]
 refine Zh5 (E':=(⟨149,[],[(0,.sl a0.length (fl (eL (eI .u64)) a0)),(2,.val (.int .i64 a2)),(3,.val (.int .i64 (IntKind.i64.wrap (a3 - z7)))),(5,.ref n 0),(8,.ref (n+1) 0),(11,.ref (n+2) 0),(13,.val (.int .i64 0))]⟩:Env)) (O':=(Z3 O n [some ⟨false,51,7,1,(Zx a1)⟩,some ⟨false,29,3,1,[.val (.int .i64 0),.val (.slice none 0 0),.val (.slice none 0 0)]⟩,some ⟨false,29,3,1,[.val (.int .i64 a1.Kind),.sl y2.length (fl (eI .u64) y2),.row (n+3) ([]:List Zj).length]⟩,some ⟨true,29,3,([]:List Zj).length,fl Zr ([]:List Zj)⟩,none])) (n':=(n+5)) ?_ ?_
 ·refine Fit2.trans (E':=(⟨149,[],[(0,.sl a0.length (fl (eL (eI .u64)) a0)),(2,.val (.int .i64 a2)),(3,.val (.int .i64 (IntKind.i64.wrap (a3 - z7)))),(5,.ref n 0),(8,.ref (n+1) 0),(11,.ref (n+2) 0),(13,.val (.int .i64 0))]⟩:Env)) (O':=(Z3 O n [some ⟨false,51,7,1,(Zx a1)⟩,some ⟨false,29,3,1,[.val (.int .i64 0),.val (.slice none 0 0),.val (.slice none 0 0)]⟩,some ⟨false,29,3,1,[.val (.int .i64 a1.Kind),.sl y2.length (fl (eI .u64) y2),.val (.slice none 0 0)]⟩])) (n':=(n+3)) (Fit2.of (Zm hU rfl rfl ?_) (by omega)) ?_
  ·simp only [push_cast,seval,Za,hN0,hN]
  refine Fit2.trans (Zeb (p:=(n+2)) (k:=2) (q:=⟨false,29,3,1,[.val (.int .i64 a1.Kind),.sl y2.length (fl (eI .u64) y2),.val (.slice none 0 0)]⟩) 29 3 (by simp only [Uz,Zdn,List.getElem?_cons_zero,List.getElem?_cons_succ,Option.join_some,List.length_nil]) rfl (by omega)) ?_
  simp only [Gn,K2,Zbm,List.set_cons_zero,List.set_cons_succ,List.cons_append,List.nil_append,List.length_cons,List.length_nil,Nat.zero_add,Nat.reduceAdd,Nat.reduceLT,Nat.add_assoc]
  refine Zil (k:=4) (k':=5) hU [0,1,2,3] [0,1,2,3,0] rfl rfl rfl rfl ⟨rfl,rfl⟩ ?_
  simp only [push_cast,seval,Za,hN0,hN]
 obtain ⟨z24,hz24,h⟩:=bC h
 refine Znp (J:=(Gh (fun z24=>JR n (⟨149,[],[(8,.ref (n+1) 0),(9,.val (.int .i64 z24.1)),(10,.val (.int .i64 z24.2.1))]⟩:Env) (Z3 O n [none,some ⟨false,29,3,1,[.val (.int .i64 a1.Kind),.sl y2.length (fl (eI .u64) y2),.sl z24.2.2.length (fl Zr z24.2.2)]⟩,none]) (n+3)) (fun z24=>JX 0 n (⟨149,[],[(3,.val (.int .i64 z24.1)),(8,.ref (n+1) 0),(11,.ref (n+2) 0)]⟩:Env) (Z3 O n [none,some ⟨false,29,3,1,[.val (.int .i64 0),.val (.slice none 0 0),.val (.slice none 0 0)]⟩,some ⟨false,29,3,1,[.val (.int .i64 a1.Kind),.sl y2.length (fl (eI .u64) y2),.row (n+3) z24.2.length]⟩,some ⟨true,29,3,z24.2.length,fl Zr z24.2⟩,none]) (n+5)))) (z:=z24) ?_ fun hw => ?_
 ·refine Qt hz24 (fun s0_=>⟨149,[],[(0,.sl a0.length (fl (eL (eI .u64)) a0)),(2,.val (.int .i64 a2)),(3,.val (.int .i64 s0_.1)),(5,.ref n 0),(8,.ref (n+1) 0),(11,.ref (n+2) 0),(13,.val (.int .i64 s0_.2.1))]⟩) (fun s0_=>(Z3 O n [some ⟨false,51,7,1,(Zx a1)⟩,some ⟨false,29,3,1,[.val (.int .i64 0),.val (.slice none 0 0),.val (.slice none 0 0)]⟩,some ⟨false,29,3,1,[.val (.int .i64 a1.Kind),.sl y2.length (fl (eI .u64) y2),.row (n+3) s0_.2.2.length]⟩,some ⟨true,29,3,s0_.2.2.length,fl Zr s0_.2.2⟩,none])) (Gh (fun z24=>JR n (⟨149,[],[(8,.ref (n+1) 0),(9,.val (.int .i64 z24.1)),(10,.val (.int .i64 z24.2.1))]⟩:Env) (Z3 O n [none,some ⟨false,29,3,1,[.val (.int .i64 a1.Kind),.sl y2.length (fl (eI .u64) y2),.sl z24.2.2.length (fl Zr z24.2.2)]⟩,none]) (n+3)) (fun z24=>JX 0 n (⟨149,[],[(3,.val (.int .i64 z24.1)),(8,.ref (n+1) 0),(11,.ref (n+2) 0)]⟩:Env) (Z3 O n [none,some ⟨false,29,3,1,[.val (.int .i64 0),.val (.slice none 0 0),.val (.slice none 0 0)]⟩,some ⟨false,29,3,1,[.val (.int .i64 a1.Kind),.sl y2.length (fl (eI .u64) y2),.row (n+3) z24.2.length]⟩,some ⟨true,29,3,z24.2.length,fl Zr z24.2⟩,none]) (n+5))) ?_
  intro s0_ x0_ hs0_
  unfold Je at hs0_
  try dsimp only
  refine Zf ?_
  refine Zf ?_
  obtain ⟨y10,hy10,hs0_⟩:=bC hs0_
  refine Zb Zc [] ?_
  simp only [push_cast,seval,Za,hN0,hN]
  refine (U5 hy10).then ?_
  simp only [push_cast,seval,Za,hN0,hN]
  refine Zg [0,2,3,5,8,11,13,82] [true,true,true,true,false] ?_
  simp only [push_cast,seval]
  refine Zo (t:=(decide (s0_.2.1 < y10))) rfl (fun c23 => ?_) (fun c23 => ?_)
  ·replace hs0_:=Zw c23 hs0_
   refine Zt ?_
   try simp only [Zh,Ze]
   refine Zg [0,2,3,5,8,11,13] [true,true,true,true,false] ?_
   simp only [push_cast,seval]
   refine Zf ?_
   refine Yo ?_
   refine Zf ?_
   obtain ⟨y12,hy12,hs0_⟩:=bC hs0_
   refine Zb Zc [] ?_
   simp only [push_cast,seval,Za,hN0,hN]
   refine (Zcb hy12).then ?_
   simp only [push_cast,seval,Za,hN0,hN]
   refine Zg [0,2,3,5,8,11,13,14,15] [true,true,true,true,false,true] ?_
   simp only [push_cast,seval]
   refine Zf ?_
   refine Zk [0,2,3,5,8,11,13,14,15,93] (Zb Zc [] ?_)
   simp only [push_cast,seval,Za,hN0,hN]
   refine Zo (t:=(y12.2 != 0)) rfl (fun c22 => ?_) (fun c22 => ?_)
   ·replace hs0_:=Zw c22 hs0_
    refine Zf ?_
    refine Zb Zc [] ?_
    simp only [push_cast,seval,Za,hN0,hN]
    refine Zg [8,9,10] [false,true,false,true,false,false] ?_
    simp only [push_cast,seval]
    refine Zu ?_
    try simp only [Zh,Ze]
    have hs0_:=Option.some.inj hs0_;subst hs0_
    refine And.intro (fun h=>by cases h) (And.intro rfl (Fit2.of (Zm hU rfl rfl ?_) (by omega)))
    simp only [push_cast,seval,Za,hN0,hN]
   replace hs0_:=Zv c22 hs0_
   refine Zt ?_
   try simp only [Zh,Ze]
   refine Zg [0,2,3,5,8,11,13,14,15] [true,true,true,true,false,true] ?_
   simp only [push_cast,seval]
   refine Zf ?_
   obtain ⟨y14,hy14,hs0_⟩:=bC hs0_
   refine Zbo Zc (by kernel_rfl) [.low,.low,.low,.plain,.low,.plain,.pass,.bar] (fun i=>i < (n+6)) [0,1,2,3,4,5,6,7] [.low,.low,.low,.plain,.low,.plain,.pass,.bar] [] (by kernel_rfl) rfl ?_
   simp only [push_cast,seval,Za,hN0,hN]
   repeat (with_reducible refine And.intro (by first | omega | exact Xb rfl | exact Yw | exact X7 rfl | exact Qm rfl rfl | exact Y9 rfl | exact Y2 rfl) ?_)
   first | refine PCallA.of (fun _ _=>Jk hy14) ?_ | refine PCall.of (Jk hy14) ?_
   simp only [push_cast,seval,Za,hN0,hN]
   repeat (with_reducible refine And.intro (by first | omega | exact Xb rfl | exact Yw | exact X7 rfl | exact Qm rfl rfl | exact Y9 rfl | exact Y2 rfl) ?_)
   refine Zg [0,2,3,5,8,11,13,14,15,16] [true,true,true,true,false,true,true] ?_
   simp only [push_cast,seval]
   obtain ⟨z15,hz15,hs0_⟩:=bC hs0_
   refine Yr (E':=⟨149,[],[(0,.sl a0.length (fl (eL (eI .u64)) a0)),(2,.val (.int .i64 a2)),(3,.val (.int .i64 z15.1)),(5,.ref n 0),(8,.ref (n+1) 0),(11,.ref (n+2) 0),(13,.val (.int .i64 s0_.2.1)),(15,.val (.int .i64 z15.2.1)),(16,.ref (n+6) 0)]⟩) (O':=(Z3 O n [some ⟨false,51,7,1,(Zx a1)⟩,some ⟨false,29,3,1,[.val (.int .i64 0),.val (.slice none 0 0),.val (.slice none 0 0)]⟩,some ⟨false,29,3,1,[.val (.int .i64 a1.Kind),.sl y2.length (fl (eI .u64) y2),.row (n+3) s0_.2.2.length]⟩,some ⟨true,29,3,s0_.2.2.length,fl Zr s0_.2.2⟩,none,none,some ⟨false,29,3,1,[.val (.int .i64 z15.2.2.1),.sl z15.2.2.2.1.length (fl (eI .u64) z15.2.2.2.1),.sl z15.2.2.2.2.length (fl Zr z15.2.2.2.2)]⟩])) (n0:=(n+7)) ?_ ?_
   ·refine Yo ?_
    refine Zk [0,2,3,5,8,11,13,14,15,16,103] (Zb Zc [] ?_)
    simp only [push_cast,seval,Za,hN0,hN]
    refine Zo (t:=(a1.Kind == 9)) rfl (fun c19 => ?_) (fun c19 => ?_)
    ·replace hz15:=Zw c19 hz15
     obtain ⟨y16,hy16,hz15⟩:=bC hz15
     refine Zb Zc [] ?_
     simp only [push_cast,seval,Za,hN0,hN]
     refine (Zc9 hy16).then ?_
     simp only [push_cast,seval,Za,hN0,hN]
     have hz15:=Option.some.inj hz15;subst hz15
     refine And.intro rfl (Fit2.of (Zm hU rfl rfl ?_) (by omega))
     simp only [push_cast,seval,Za,hN0,hN]
    replace hz15:=Zv c19 hz15
    refine Zk [0,2,3,5,8,11,13,14,15,16,117] (Zb Zc [none,none,none] ?_)
    simp only [push_cast,seval,Za,hN0,hN]
    repeat (with_reducible refine And.intro (by first | (intro h0;simp only [h0,and_self];done) | (intro h0;simp only [h0,Bool.not_true,Bool.and_true,true_and,and_true,and_self,imp_self,implies_true,ne_eq,beq_iff_eq];done) | (intros;simp_all;done) | exact True.intro) ?_)
    refine Zo (t:=(cond (a1.Kind == 1) true (a1.Kind == 8))) rfl (fun Gj => ?_) (fun Gj => ?_)
    ·replace hz15:=Zw Gj hz15
     obtain ⟨y17,hy17,hz15⟩:=bC hz15
     refine Zb Zc [] ?_
     simp only [push_cast,seval,Za,hN0,hN]
     refine (Ut hy17).then ?_
     simp only [push_cast,seval,Za,hN0,hN]
     have hz15:=Option.some.inj hz15;subst hz15
     refine And.intro rfl (Fit2.of (Zm hU rfl rfl ?_) (by omega))
     simp only [push_cast,seval,Za,hN0,hN]
    replace hz15:=Zv Gj hz15
    refine Zt ?_
    try simp only [Zh,Ze]
    have hz15:=Option.some.inj hz15;subst hz15
    refine And.intro rfl (Fit2.of (Zm hU rfl rfl ?_) (by omega))
    simp only [push_cast,seval,Za,hN0,hN]
   refine Zf ?_
   refine Zk [0,2,3,5,8,11,13,15,16,137] (Zb Zc [] ?_)
   simp only [push_cast,seval,Za,hN0,hN]
   refine Zo (t:=(z15.2.1 != 0)) rfl (fun c21 => ?_) (fun c21 => ?_)
   ·replace hs0_:=Zw c21 hs0_
    refine Zf ?_
    refine Zb Zc [] ?_
    simp only [push_cast,seval,Za,hN0,hN]
    refine Zg [8,9,10] [false,true,false,true,false,false,false] ?_
    simp only [push_cast,seval]
    refine Zu ?_
    try simp only [Zh,Ze]
    have hs0_:=Option.some.inj hs0_;subst hs0_
    refine And.intro (fun h=>by cases h) (And.intro rfl (Fit2.of (Zm hU rfl rfl ?_) (by omega)))
    simp only [push_cast,seval,Za,hN0,hN]
   replace hs0_:=Zv c21 hs0_
   refine Zt ?_
   try simp only [Zh,Ze]
   refine Zg [0,2,3,5,8,11,13,16] [true,true,true,true,false,false,true] ?_
   simp only [push_cast,seval]
   obtain ⟨l20,pl20,ql20,el20,hs0_⟩:=bA (k:=1) rfl hs0_
   refine Zb Zc [] ?_
   simp only [push_cast,seval,Za,pl20,ql20,el20,hN0,hN]
   refine Za8 ⟨149,[],[(0,.sl a0.length (fl (eL (eI .u64)) a0)),(2,.val (.int .i64 a2)),(3,.val (.int .i64 z15.1)),(5,.ref n 0),(8,.ref (n+1) 0),(11,.ref (n+2) 0),(13,.val (.int .i64 s0_.2.1))]⟩ (Z3 O n [some ⟨false,51,7,1,(Zx a1)⟩,some ⟨false,29,3,1,[.val (.int .i64 0),.val (.slice none 0 0),.val (.slice none 0 0)]⟩,some ⟨false,29,3,1,[.val (.int .i64 a1.Kind),.sl y2.length (fl (eI .u64) y2),.row (n+3) l20.length]⟩,some ⟨true,29,3,l20.length,fl Zr l20⟩,none,none,none,none]) (Zm hU rfl rfl ?_) ?_
   ·simp only [push_cast,seval,Za,pl20,ql20,el20,hN0,hN]
   refine Zb Zc [] ?_
   simp only [push_cast,seval,Za,hN0,hN]
   have hs0_:=Option.some.inj hs0_;subst hs0_
   refine And.intro rfl (Fit2.of (Zm hU rfl rfl ?_) (by omega))
   simp only [push_cast,seval,Za,hN0,hN]
  replace hs0_:=Zv c23 hs0_
  refine Q7 ?_
  try simp only [Zh,Ze,↓reduceIte,Nat.reduceEqDiff]
  have hs0_:=Option.some.inj hs0_;subst hs0_
  refine And.intro (fun h=>by cases h) (And.intro rfl (Fit2.of (Zm hU rfl rfl ?_) (by omega)))
  simp only [push_cast,seval,Za,hN0,hN]
 rcases z24 with z24 | z24
 ·dsimp only [Gh] at hw h
  refine Zea hw ?_
  try simp only [Zh,Ze,↓reduceIte,Nat.reduceEqDiff]
  have h:=Option.some.inj h;subst h
  refine Zl (.inr rfl) hU [.agg [.val (.int .i64 a1.Kind),.sl y2.length (fl (eI .u64) y2),.sl z24.2.2.length (fl Zr z24.2.2)],.val (.int .i64 z24.1),.val (.int .i64 z24.2.1)] (by omega) ?_
  simp only [push_cast,seval,Za,Tryz.results13,hN0,hN]
 dsimp only [Gh] at hw h
 refine Xx hw ?_
 try simp only [Zh,Ze,↓reduceIte,Nat.reduceEqDiff]
 refine Zg [3,8,11] [false,true,true,true,false] ?_
 simp only [push_cast,seval]
 refine Zf ?_
 refine Zb Zc [] ?_
 simp only [push_cast,seval,Za,hN0,hN]
 refine Zg [8,9,10] [false,true,false,true,false] ?_
 simp only [push_cast,seval]
 refine Zu ?_
 try simp only [Zh,Ze]
 have h:=Option.some.inj h;subst h
 refine Zl (.inr rfl) hU [.agg [.val (.int .i64 a1.Kind),.sl y2.length (fl (eI .u64) y2),.row (n+3) z24.2.length],.val (.int .i64 z24.1),.val (.int .i64 0)] (by omega) ?_
 simp only [push_cast,seval,Za,Tryz.results13,hN0,hN]
theorem Zm9 {Yn:((List (List Int))→Zs→Int→Int→Option (Zj×Int×Int))} {X1:((List (List Int))→Zs→Int→Int→Option (Zj×Int×Int))} (Ut:∀ {a0:(List (List Int))} {a1:Zs} {a2:Int} {a3:Int} {r:(Zj×Int×Int)} {O:Objs} {n:Nat},Yn a0 a1 a2 a3=some r→GTo Tryz.prog 13 [.sl a0.length (fl (eL (eI .u64)) a0),.agg (Zx a1),.val (.int .i64 a2),.val (.int .i64 a3)] O n (.tup [.agg (Zn r.1),.val (.int .i64 r.2.1),.val (.int .i64 r.2.2)]) O n) (Zc9:∀ {a0:(List (List Int))} {a1:Zs} {a2:Int} {a3:Int} {r:(Zj×Int×Int)} {O:Objs} {n:Nat},X1 a0 a1 a2 a3=some r→GTo Tryz.prog 30 [.sl a0.length (fl (eL (eI .u64)) a0),.agg (Zx a1),.val (.int .i64 a2),.val (.int .i64 a3)] O n (.tup [.agg (Zn r.1),.val (.int .i64 r.2.1),.val (.int .i64 r.2.2)]) O n) {a0:(List (List Int))} {a1:Zs} {a2:Int} {a3:Int} {r:(Zj×Int×Int)} {O:Objs} {n:Nat} (h:Kk Yn X1 a0 a1 a2 a3=some r):GTo Tryz.prog 30 [.sl a0.length (fl (eL (eI .u64)) a0),.agg (Zx a1),.val (.int .i64 a2),.val (.int .i64 a3)] O n (.tup [.agg (Zn r.1),.val (.int .i64 r.2.1),.val (.int .i64 r.2.2)]) O n:=by
 unfold Kk at h
 refine Ye Zc Tryz.call30 Tryz.func30 rfl (Nat.le_of_ble_eq_true rfl) (Nat.le_refl _) fun hU => ?_
 have hN0:O n=none:=hU.fresh _ (Nat.le_refl _)
 have hN:∀ k,O (n+k)=none:=fun k=>hU.fresh _ (Nat.le_add_right _ _)
 show W _ _ _ _ ⟨63,[],[(0,.sl a0.length (fl (eL (eI .u64)) a0)),(1,.agg (Zx a1)),(2,.val (.int .i64 a2)),(3,.val (.int .i64 a3))]⟩ (Z3 O n []) _
 refine Zk [0,2,3,5,8] (Zb Zc [] ?_)
 simp only [push_cast,seval,Za,hN0,hN]
 refine Zf ?_
 obtain ⟨y2,hy2,h⟩:=bC h
 refine Zb Zc [] ?_
 simp only [push_cast,seval,Za,hN0,hN]
 refine (Jk hy2).then ?_
 simp only [push_cast,seval,Za,hN0,hN]
 refine Zg [0,2,3,5,8,11] [true,true,true] ?_
 simp only [push_cast,seval]
 refine Zf ?_
 refine Zk [0,2,3,5,8,11,12] (Zb Zc [] ?_)
 simp only [push_cast,seval,Za,hN0,hN]
 refine Zg [0,2,3,5,8,11,12] [true,true,true] ?_
 simp only [push_cast,seval]
 refine Zh5 (E':=(⟨63,[],[(0,.sl a0.length (fl (eL (eI .u64)) a0)),(2,.val (.int .i64 a2)),(3,.val (.int .i64 a3)),(5,.ref n 0),(8,.ref (n+1) 0),(11,.ref (n+2) 0),(12,.val (.int .i64 0))]⟩:Env)) (O':=(Z3 O n [some ⟨false,51,7,1,(Zx a1)⟩,some ⟨false,29,3,1,[.val (.int .i64 0),.val (.slice none 0 0),.val (.slice none 0 0)]⟩,some ⟨false,29,3,1,[.val (.int .i64 1),.sl y2.length (fl (eI .u64) y2),.row (n+3) ([]:List Zj).length]⟩,some ⟨true,29,3,([]:List Zj).length,fl Zr ([]:List Zj)⟩,none])) (n':=(n+5)) ?_ ?_
 ·refine Fit2.trans (E':=(⟨63,[],[(0,.sl a0.length (fl (eL (eI .u64)) a0)),(2,.val (.int .i64 a2)),(3,.val (.int .i64 a3)),(5,.ref n 0),(8,.ref (n+1) 0),(11,.ref (n+2) 0),(12,.val (.int .i64 0))]⟩:Env)) (O':=(Z3 O n [some ⟨false,51,7,1,(Zx a1)⟩,some ⟨false,29,3,1,[.val (.int .i64 0),.val (.slice none 0 0),.val (.slice none 0 0)]⟩,some ⟨false,29,3,1,[.val (.int .i64 1),.sl y2.length (fl (eI .u64) y2),.val (.slice none 0 0)]⟩])) (n':=(n+3)) (Fit2.of (Zm hU rfl rfl ?_) (by omega)) ?_
  ·simp only [push_cast,seval,Za,hN0,hN]
  refine Fit2.trans (Zeb (p:=(n+2)) (k:=2) (q:=⟨false,29,3,1,[.val (.int .i64 1),.sl y2.length (fl (eI .u64) y2),.val (.slice none 0 0)]⟩) 29 3 (by simp only [Uz,Zdn,List.getElem?_cons_zero,List.getElem?_cons_succ,Option.join_some,List.length_nil]) rfl (by omega)) ?_
  simp only [Gn,K2,Zbm,List.set_cons_zero,List.set_cons_succ,List.cons_append,List.nil_append,List.length_cons,List.length_nil,Nat.zero_add,Nat.reduceAdd,Nat.reduceLT,Nat.add_assoc]
  refine Zil (k:=4) (k':=5) hU [0,1,2,3] [0,1,2,3,0] rfl rfl rfl rfl ⟨rfl,rfl⟩ ?_
  simp only [push_cast,seval,Za,hN0,hN]
 obtain ⟨z11,hz11,h⟩:=bC h
 refine Znp (J:=(Gh (fun z11=>JR n (⟨63,[],[(8,.ref (n+1) 0),(9,.val (.int .i64 z11.1)),(10,.val (.int .i64 z11.2.1))]⟩:Env) (Z3 O n [none,some ⟨false,29,3,1,[.val (.int .i64 1),.sl y2.length (fl (eI .u64) y2),.sl z11.2.2.length (fl Zr z11.2.2)]⟩,none]) (n+3)) (fun z11=>JX 0 n (⟨63,[],[(3,.val (.int .i64 z11.1)),(8,.ref (n+1) 0),(11,.ref (n+2) 0)]⟩:Env) (Z3 O n [none,some ⟨false,29,3,1,[.val (.int .i64 0),.val (.slice none 0 0),.val (.slice none 0 0)]⟩,some ⟨false,29,3,1,[.val (.int .i64 1),.sl y2.length (fl (eI .u64) y2),.row (n+3) z11.2.length]⟩,some ⟨true,29,3,z11.2.length,fl Zr z11.2⟩,none]) (n+5)))) (z:=z11) ?_ fun hw => ?_
 ·refine Qt hz11 (fun s0_=>⟨63,[],[(0,.sl a0.length (fl (eL (eI .u64)) a0)),(2,.val (.int .i64 a2)),(3,.val (.int .i64 s0_.1)),(5,.ref n 0),(8,.ref (n+1) 0),(11,.ref (n+2) 0),(12,.val (.int .i64 s0_.2.1))]⟩) (fun s0_=>(Z3 O n [some ⟨false,51,7,1,(Zx a1)⟩,some ⟨false,29,3,1,[.val (.int .i64 0),.val (.slice none 0 0),.val (.slice none 0 0)]⟩,some ⟨false,29,3,1,[.val (.int .i64 1),.sl y2.length (fl (eI .u64) y2),.row (n+3) s0_.2.2.length]⟩,some ⟨true,29,3,s0_.2.2.length,fl Zr s0_.2.2⟩,none])) (Gh (fun z11=>JR n (⟨63,[],[(8,.ref (n+1) 0),(9,.val (.int .i64 z11.1)),(10,.val (.int .i64 z11.2.1))]⟩:Env) (Z3 O n [none,some ⟨false,29,3,1,[.val (.int .i64 1),.sl y2.length (fl (eI .u64) y2),.sl z11.2.2.length (fl Zr z11.2.2)]⟩,none]) (n+3)) (fun z11=>JX 0 n (⟨63,[],[(3,.val (.int .i64 z11.1)),(8,.ref (n+1) 0),(11,.ref (n+2) 0)]⟩:Env) (Z3 O n [none,some ⟨false,29,3,1,[.val (.int .i64 0),.val (.slice none 0 0),.val (.slice none 0 0)]⟩,some ⟨false,29,3,1,[.val (.int .i64 1),.sl y2.length (fl (eI .u64) y2),.row (n+3) z11.2.length]⟩,some ⟨true,29,3,z11.2.length,fl Zr z11.2⟩,none]) (n+5))) ?_
  intro s0_ x0_ hs0_
  unfold Kb at hs0_
  try dsimp only
  refine Zf ?_
  refine Zk [0,2,3,5,8,11,12,25] (Zb Zc [] ?_)
  simp only [push_cast,seval,Za,hN0,hN]
  refine Zo (t:=(decide (s0_.2.1 < a1.Ptrs))) rfl (fun Gi => ?_) (fun Gi => ?_)
  ·replace hs0_:=Zw Gi hs0_
   refine Zt ?_
   try simp only [Zh,Ze]
   refine Zg [0,2,3,5,8,11,12] [true,true,true,true,false] ?_
   simp only [push_cast,seval]
   refine Zf ?_
   refine Yo ?_
   refine Zf ?_
   obtain ⟨y4,hy4,hs0_⟩:=bC hs0_
   refine Zb Zc [] ?_
   simp only [push_cast,seval,Za,hN0,hN]
   refine (Zcb hy4).then ?_
   simp only [push_cast,seval,Za,hN0,hN]
   refine Zg [0,2,3,5,8,11,12,13,14] [true,true,true,true,false,true] ?_
   simp only [push_cast,seval]
   refine Zf ?_
   refine Zk [0,2,3,5,8,11,12,13,14,36] (Zb Zc [] ?_)
   simp only [push_cast,seval,Za,hN0,hN]
   refine Zo (t:=(y4.2 != 0)) rfl (fun c9 => ?_) (fun c9 => ?_)
   ·replace hs0_:=Zw c9 hs0_
    refine Zf ?_
    refine Zb Zc [] ?_
    simp only [push_cast,seval,Za,hN0,hN]
    refine Zg [8,9,10] [false,true,false,true,false,false] ?_
    simp only [push_cast,seval]
    refine Zu ?_
    try simp only [Zh,Ze]
    have hs0_:=Option.some.inj hs0_;subst hs0_
    refine And.intro (fun h=>by cases h) (And.intro rfl (Fit2.of (Zm hU rfl rfl ?_) (by omega)))
    simp only [push_cast,seval,Za,hN0,hN]
   replace hs0_:=Zv c9 hs0_
   refine Zt ?_
   try simp only [Zh,Ze]
   refine Zg [0,2,3,5,8,11,12,13] [true,true,true,true,false,true] ?_
   simp only [push_cast,seval]
   refine Zf ?_
   obtain ⟨y6,hy6,hs0_⟩:=bC hs0_
   refine Zb Zc [] ?_
   simp only [push_cast,seval,Za,hN0,hN]
   refine (Ut hy6).then ?_
   simp only [push_cast,seval,Za,hN0,hN]
   refine Zg [0,2,5,8,11,12,15,16,17] [true,true,true,true,false,false,true] ?_
   simp only [push_cast,seval]
   refine Zf ?_
   refine Zk [0,2,5,8,11,12,15,16,17,50] (Zb Zc [] ?_)
   simp only [push_cast,seval,Za,hN0,hN]
   refine Zo (t:=(y6.2.2 != 0)) rfl (fun c8 => ?_) (fun c8 => ?_)
   ·replace hs0_:=Zw c8 hs0_
    refine Zf ?_
    refine Zb Zc [] ?_
    simp only [push_cast,seval,Za,hN0,hN]
    refine Zg [8,9,10] [false,true,false,true,false,false,false] ?_
    simp only [push_cast,seval]
    refine Zu ?_
    try simp only [Zh,Ze]
    have hs0_:=Option.some.inj hs0_;subst hs0_
    refine And.intro (fun h=>by cases h) (And.intro rfl (Fit2.of (Zm hU rfl rfl ?_) (by omega)))
    simp only [push_cast,seval,Za,hN0,hN]
   replace hs0_:=Zv c8 hs0_
   refine Zt ?_
   try simp only [Zh,Ze]
   refine Zg [0,2,5,8,11,12,15,16] [true,true,true,true,false,false,true] ?_
   simp only [push_cast,seval]
   refine Zk [0,2,3,5,8,11,12,15] (Zb Zc [] ?_)
   simp only [push_cast,seval,Za,hN0,hN]
   obtain ⟨l7,pl7,ql7,el7,hs0_⟩:=bA (k:=1) rfl hs0_
   refine Zb Zc [] ?_
   simp only [push_cast,seval,Za,pl7,ql7,el7,hN0,hN]
   refine Za8 ⟨63,[],[(0,.sl a0.length (fl (eL (eI .u64)) a0)),(2,.val (.int .i64 a2)),(3,.val (.int .i64 y6.2.1)),(5,.ref n 0),(8,.ref (n+1) 0),(11,.ref (n+2) 0),(12,.val (.int .i64 s0_.2.1))]⟩ (Z3 O n [some ⟨false,51,7,1,(Zx a1)⟩,some ⟨false,29,3,1,[.val (.int .i64 0),.val (.slice none 0 0),.val (.slice none 0 0)]⟩,some ⟨false,29,3,1,[.val (.int .i64 1),.sl y2.length (fl (eI .u64) y2),.row (n+3) l7.length]⟩,some ⟨true,29,3,l7.length,fl Zr l7⟩,none,none,none,none]) (Zm hU rfl rfl ?_) ?_
   ·simp only [push_cast,seval,Za,pl7,ql7,el7,hN0,hN]
   refine Zb Zc [] ?_
   simp only [push_cast,seval,Za,hN0,hN]
   have hs0_:=Option.some.inj hs0_;subst hs0_
   refine And.intro rfl (Fit2.of (Zm hU rfl rfl ?_) (by omega))
   simp only [push_cast,seval,Za,hN0,hN]
  replace hs0_:=Zv Gi hs0_
  refine Q7 ?_
  try simp only [Zh,Ze,↓reduceIte,Nat.reduceEqDiff]
  have hs0_:=Option.some.inj hs0_;subst hs0_
  refine And.intro (fun h=>by cases h) (And.intro rfl (Fit2.of (Zm hU rfl rfl ?_) (by omega)))
  simp only [push_cast,seval,Za,hN0,hN]
 rcases z11 with z11 | z11
 ·dsimp only [Gh] at hw h
  refine Zea hw ?_
  try simp only [Zh,Ze,↓reduceIte,Nat.reduceEqDiff]
  have h:=Option.some.inj h;subst h
  refine Zl (.inr rfl) hU [.agg [.val (.int .i64 1),.sl y2.length (fl (eI .u64) y2),.sl z11.2.2.length (fl Zr z11.2.2)],.val (.int .i64 z11.1),.val (.int .i64 z11.2.1)] (by omega) ?_
  simp only [push_cast,seval,Za,Tryz.results30,hN0,hN]
 dsimp only [Gh] at hw h
 refine Xx hw ?_
 try simp only [Zh,Ze,↓reduceIte,Nat.reduceEqDiff]
 refine Zg [3,8,11] [false,true,true,true,false] ?_
 simp only [push_cast,seval]
 refine Zf ?_
 refine Zb Zc [] ?_
 simp only [push_cast,seval,Za,hN0,hN]
 refine Zg [8,9,10] [false,true,false,true,false] ?_
 simp only [push_cast,seval]
 refine Zu ?_
 try simp only [Zh,Ze]
 have h:=Option.some.inj h;subst h
 refine Zl (.inr rfl) hU [.agg [.val (.int .i64 1),.sl y2.length (fl (eI .u64) y2),.row (n+3) z11.2.length],.val (.int .i64 z11.1),.val (.int .i64 0)] (by omega) ?_
 simp only [push_cast,seval,Za,Tryz.results30,hN0,hN]
theorem Zfu:∀ k,(∀ {a0:(List (List Int))} {a1:Zs} {a2:Int} {a3:Int} {r:(Zj×Int×Int)} {O:Objs} {n:Nat},(Yi k).1 a0 a1 a2 a3=some r→GTo Tryz.prog 13 [.sl a0.length (fl (eL (eI .u64)) a0),.agg (Zx a1),.val (.int .i64 a2),.val (.int .i64 a3)] O n (.tup [.agg (Zn r.1),.val (.int .i64 r.2.1),.val (.int .i64 r.2.2)]) O n)∧(∀ {a0:(List (List Int))} {a1:Zs} {a2:Int} {a3:Int} {r:(Zj×Int×Int)} {O:Objs} {n:Nat},(Yi k).2 a0 a1 a2 a3=some r→GTo Tryz.prog 30 [.sl a0.length (fl (eL (eI .u64)) a0),.agg (Zx a1),.val (.int .i64 a2),.val (.int .i64 a3)] O n (.tup [.agg (Zn r.1),.val (.int .i64 r.2.1),.val (.int .i64 r.2.2)]) O n):=fun k=>by
 induction k with
 | zero=>exact ⟨@fun a0 a1 a2 a3 r O n h=>(nomatch (show (none:Option _)=some _ from h)),@fun a0 a1 a2 a3 r O n h=>(nomatch (show (none:Option _)=some _ from h))⟩
 | succ k ih=>exact ⟨@fun a0 a1 a2 a3 r O n h=>Zif (ih.1) (ih.2)  h,@fun a0 a1 a2 a3 r O n h=>Zm9 (ih.1) (ih.2)  h⟩
theorem Zi2 {a0:(List (List Int))} {a1:Zs} {a2:Int} {a3:Int} {r:(Zj×Int×Int)} {O:Objs} {n:Nat} (h:Gz a0 a1 a2 a3=some r):GTo Tryz.prog 13 [.sl a0.length (fl (eL (eI .u64)) a0),.agg (Zx a1),.val (.int .i64 a2),.val (.int .i64 a3)] O n (.tup [.agg (Zn r.1),.val (.int .i64 r.2.1),.val (.int .i64 r.2.2)]) O n:=by
 obtain ⟨k,hk⟩:=Zjd h
 exact (Zfu k).1  hk
theorem Zjk {a0:(List (List Int))} {a1:Yd} {r:(Zj×Int×Int)} {O:Objs} {n:Nat} (h:Ju a0 a1=some r):GTo Tryz.prog 5 [.sl a0.length (fl (eL (eI .u64)) a0),.agg (Yx a1)] O n (.tup [.agg (Zn r.1),.val (.int .i64 r.2.1),.val (.int .i64 r.2.2)]) O n:=by
 unfold Ju at h
 refine Ye Zc Tryz.call5 Tryz.func5 rfl (Nat.le_of_ble_eq_true rfl) (Nat.le_refl _) fun hU => ?_
 have hN0:O n=none:=hU.fresh _ (Nat.le_refl _)
 have hN:∀ k,O (n+k)=none:=fun k=>hU.fresh _ (Nat.le_add_right _ _)
 show W _ _ _ _ ⟨43,[],[(0,.sl a0.length (fl (eL (eI .u64)) a0)),(1,.agg (Yx a1))]⟩ (Z3 O n []) _
 refine Zk [0,3,4] (Zb Zc [] ?_)
 simp only [push_cast,seval,Za,hN0,hN]
 refine Zf ?_
 obtain ⟨y2,hy2,h⟩:=bC h
 refine Zb Zc [] ?_
 simp only [push_cast,seval,Za,hN0,hN]
 refine (Zjj hy2).then ?_
 simp only [push_cast,seval,Za,hN0,hN]
 refine Zg [0,3,4] [true,true] ?_
 simp only [push_cast,seval]
 refine Zf ?_
 obtain ⟨y4,hy4,h⟩:=bC h
 refine Zb Zc [] ?_
 simp only [push_cast,seval,Za,hN0,hN]
 refine (Zco hy4).then ?_
 simp only [push_cast,seval,Za,hN0,hN]
 refine Zg [0,3,4,7,8] [true,true,true] ?_
 simp only [push_cast,seval]
 refine Zf ?_
 refine Zk [0,3,4,7,8,20] (Zb Zc [] ?_)
 simp only [push_cast,seval,Za,hN0,hN]
 refine Zo (t:=(y4.2 != 0)) rfl (fun c8 => ?_) (fun c8 => ?_)
 ·replace h:=Zw c8 h
  refine Zf ?_
  refine Zb Zc [] ?_
  simp only [push_cast,seval,Za,hN0,hN]
  refine Zg [4,5,6] [false,true,false] ?_
  simp only [push_cast,seval]
  refine Zu ?_
  try simp only [Zh,Ze]
  have h:=Option.some.inj h;subst h
  refine Zl (.inr rfl) hU [.agg [.val (.int .i64 0),.val (.slice none 0 0),.val (.slice none 0 0)],.val (.int .i64 0),.val (.int .i64 y4.2)] (by omega) ?_
  simp only [push_cast,seval,Za,Tryz.results5,hN0,hN]
 replace h:=Zv c8 h
 refine Zt ?_
 try simp only [Zh,Ze]
 refine Zg [0,3,4,7] [true,true,true] ?_
 simp only [push_cast,seval]
 refine Zf ?_
 obtain ⟨y6,hy6,h⟩:=bC h
 refine Zb Zc [] ?_
 simp only [push_cast,seval,Za,hN0,hN]
 refine (Zi2 hy6).then ?_
 simp only [push_cast,seval,Za,hN0,hN]
 refine Zg [3,4,9,10,11] [true,true,false,true] ?_
 simp only [push_cast,seval]
 refine Zf ?_
 refine Zk [3,4,9,10,11,35] (Zb Zc [] ?_)
 simp only [push_cast,seval,Za,hN0,hN]
 refine Zo (t:=(y6.2.2 != 0)) rfl (fun c7 => ?_) (fun c7 => ?_)
 ·replace h:=Zw c7 h
  refine Zf ?_
  refine Zb Zc [] ?_
  simp only [push_cast,seval,Za,hN0,hN]
  refine Zg [4,5,6] [false,true,false,false] ?_
  simp only [push_cast,seval]
  refine Zu ?_
  try simp only [Zh,Ze]
  have h:=Option.some.inj h;subst h
  refine Zl (.inr rfl) hU [.agg [.val (.int .i64 0),.val (.slice none 0 0),.val (.slice none 0 0)],.val (.int .i64 0),.val (.int .i64 y6.2.2)] (by omega) ?_
  simp only [push_cast,seval,Za,Tryz.results5,hN0,hN]
 replace h:=Zv c7 h
 refine Zt ?_
 try simp only [Zh,Ze]
 refine Zg [3,4,9,10] [true,true,false,true] ?_
 simp only [push_cast,seval]
 refine Zf ?_
 refine Zbo Zc (by kernel_rfl) [.plain,.low,.low,.plain,.low,.pass,.plain,.plain] (fun i=>i≠n+1) [0,1,2,3,4,5,6,7] [.plain,.low,.low,.plain,.low,.pass,.plain,.plain] [] (by kernel_rfl) rfl ?_
 simp only [push_cast,seval,Za,hN0,hN]
 repeat (with_reducible refine And.intro (by first | omega | exact Xb rfl | exact Yw | exact X7 rfl | exact Qm rfl rfl | exact Y9 rfl | exact Y2 rfl) ?_)
 refine Zg [4,5,6] [false,true,false,false] ?_
 simp only [push_cast,seval]
 refine Zu ?_
 try simp only [Zh,Ze]
 have h:=Option.some.inj h;subst h
 refine Zl (.inr rfl) hU [.agg (Zn y6.1),.val (.int .i64 (IntKind.i64.wrap (y2.Weight - y6.2.1))),.val (.int .i64 0)] (by omega) ?_
 simp only [push_cast,seval,Za,Tryz.results5,hN0,hN]
theorem Zie {Jm:(Zj→Int→Int→Option Int)} (Zgp:∀ {a0:Zj} {a1:Int} {a2:Int} {r:Int} {O:Objs} {n:Nat},Jm a0 a1 a2=some r→GTo Tryz.prog 14 [.agg (Zn a0),.val (.int .i64 a1),.val (.int .i64 a2)] O n (.val (.int .i64 r)) O n) {a0:Zj} {a1:Int} {a2:Int} {r:Int} {O:Objs} {n:Nat} (h:X4 Jm a0 a1 a2=some r):GTo Tryz.prog 14 [.agg (Zn a0),.val (.int .i64 a1),.val (.int .i64 a2)] O n (.val (.int .i64 r)) O n:=by
 unfold X4 at h
 refine Ye Zc Tryz.call14 Tryz.func14 rfl (Nat.le_of_ble_eq_true rfl) (Nat.le_refl _) fun hU => ?_
 have hN0:O n=none:=hU.fresh _ (Nat.le_refl _)
 have hN:∀ k,O (n+k)=none:=fun k=>hU.fresh _ (Nat.le_add_right _ _)
 show W _ _ _ _ ⟨41,[],[(0,.agg (Zn a0)),(1,.val (.int .i64 a1)),(2,.val (.int .i64 a2))]⟩ (Z3 O n []) _
 refine Zk [1,2,3] (Zb Zc [] ?_)
 simp only [push_cast,seval,Za,hN0,hN]
 refine Zk [1,2,3] (Zb Zc [] ?_)
 simp only [push_cast,seval,Za,hN0,hN]
 refine Zf ?_
 refine Zk [1,2,3,19] (Zb Zc [none,none] ?_)
 simp only [push_cast,seval,Za,hN0,hN]
 repeat (with_reducible refine And.intro (by first | (intro h0;simp only [h0];done) | (intro h0;simp only [h0,true_and,and_true,imp_self,implies_true,ne_eq,beq_iff_eq];done) | (intros;simp_all;done) | exact True.intro) ?_)
 refine Zo (t:=(cond (a1 == 0) true (decide ((IntKind.i64.wrap ((IntKind.i64.wrap (a2 - 1)) - (a0.Words.length:Int))) < 0)))) rfl (fun c5 => ?_) (fun c5 => ?_)
 ·replace h:=Zw c5 h
  refine Zk [6] (Zb Zc [] ?_)
  simp only [push_cast,seval,Za,hN0,hN]
  refine Zu ?_
  try simp only [Zh,Ze]
  have h:=Option.some.inj h;subst h
  refine Zl (.inr rfl) hU [.val (.int .i64 (-1))] (by omega) ?_
  simp only [push_cast,seval,Za,Tryz.results14,hN0,hN]
 replace h:=Zv c5 h
 refine Zt ?_
 try simp only [Zh,Ze]
 refine Zg [1,2,3] [true] ?_
 simp only [push_cast,seval]
 refine Zf ?_
 refine Zk [1,2,3,7] (Zb Zc [] ?_)
 simp only [push_cast,seval,Za,hN0,hN]
 refine Zg [1,2,3,7] [true] ?_
 simp only [push_cast,seval]
 obtain ⟨z4,hz4,h⟩:=bC h
 refine Xx (E':=⟨41,[],[(2,.val (.int .i64 z4))]⟩) (O':=(Z3 O n [none])) (n0:=(n+1)) ?_ ?_
 ·refine Qt hz4 (fun s0_=>⟨41,[],[(1,.val (.int .i64 a1)),(2,.val (.int .i64 s0_.1)),(3,.ref n 0),(7,.val (.int .i64 s0_.2))]⟩) (fun s0_=>(Z3 O n [some ⟨false,29,3,1,(Zn a0)⟩])) (fun z4=>JX 0 n (⟨41,[],[(2,.val (.int .i64 z4))]⟩:Env) (Z3 O n [none]) (n+1)) ?_
  intro s0_ x0_ hs0_
  unfold Xy at hs0_
  try dsimp only
  refine Zf ?_
  refine Zk [1,2,3,7,28] (Zb Zc [none,none] ?_)
  simp only [push_cast,seval,Za,hN0,hN]
  repeat (with_reducible refine And.intro (by first | (intro h0;simp only [h0];done) | (intro h0;simp only [h0,true_and,and_true,imp_self,implies_true,ne_eq,beq_iff_eq];done) | (intros;simp_all;done) | exact True.intro) ?_)
  refine Zo (t:=(cond (decide (s0_.2 < (a0.Kids.length:Int))) (decide (0≤s0_.1)) false)) rfl (fun c3 => ?_) (fun c3 => ?_)
  ·replace hs0_:=Zw c3 hs0_
   refine Zt ?_
   try simp only [Zh,Ze]
   refine Zg [1,2,3,7] [true] ?_
   simp only [push_cast,seval]
   refine Zf ?_
   refine Yo ?_
   obtain ⟨x1,hx1,ax1,bx1,cx1,hs0_⟩:=bE (f:=Zr) Zdb (fun _=>rfl) (by decide) hs0_
   obtain ⟨y2,hy2,hs0_⟩:=bC hs0_
   refine Zb Zc [] ?_
   simp only [push_cast,Nat.reduceAdd,Nat.reduceSub,Nat.reduceMul,Nat.reduceLeDiff,Nat.reduceLT,Nat.reduceEqDiff,↓reduceIte,reduceCtorEq,Int.reduceBEq,Int.reduceBNe,Nat.reduceBEq,Int.reduceLE,Int.reduceLT,Int.reduceEq,Int.reduceNe,Int.reduceNeg,Nat.reduceDiv,Nat.reduceMod,Nat.reducePow,Za,ax1,bx1,cx1,hN0,hN]
   refine (Zgp hy2).then ?_
   simp only [push_cast,Nat.reduceAdd,Nat.reduceSub,Nat.reduceMul,Nat.reduceLeDiff,Nat.reduceLT,Nat.reduceEqDiff,↓reduceIte,reduceCtorEq,Int.reduceBEq,Int.reduceBNe,Nat.reduceBEq,Int.reduceLE,Int.reduceLT,Int.reduceEq,Int.reduceNe,Int.reduceNeg,Nat.reduceDiv,Nat.reduceMod,Nat.reducePow,Za,ax1,bx1,cx1,hN0,hN]
   refine Zg [1,2,3,7] [true] ?_
   simp only [push_cast,seval]
   refine Zb Zc [] ?_
   simp only [push_cast,seval,Za,hN0,hN]
   have hs0_:=Option.some.inj hs0_;subst hs0_
   refine And.intro rfl (Fit2.of (Zm hU rfl rfl ?_) (by omega))
   simp only [push_cast,seval,Za,hN0,hN]
  replace hs0_:=Zv c3 hs0_
  refine Q7 ?_
  try simp only [Zh,Ze,↓reduceIte,Nat.reduceEqDiff]
  have hs0_:=Option.some.inj hs0_;subst hs0_
  refine And.intro (fun h=>by cases h) (And.intro rfl (Fit2.of (Zm hU rfl rfl ?_) (by omega)))
  simp only [push_cast,seval,Za,hN0,hN]
 try simp only [Zh,Ze,↓reduceIte,Nat.reduceEqDiff]
 refine Zg [2] [false] ?_
 simp only [push_cast,seval]
 refine Zk [6] (Zb Zc [] ?_)
 simp only [push_cast,seval,Za,hN0,hN]
 refine Zu ?_
 try simp only [Zh,Ze]
 have h:=Option.some.inj h;subst h
 refine Zl (.inr rfl) hU [.val (.int .i64 z4)] (by omega) ?_
 simp only [push_cast,seval,Za,Tryz.results14,hN0,hN]
theorem Zft:∀ k,(∀ {a0:Zj} {a1:Int} {a2:Int} {r:Int} {O:Objs} {n:Nat},(Yh k) a0 a1 a2=some r→GTo Tryz.prog 14 [.agg (Zn a0),.val (.int .i64 a1),.val (.int .i64 a2)] O n (.val (.int .i64 r)) O n):=fun k=>by
 induction k with
 | zero=>exact @fun a0 a1 a2 r O n h=>(nomatch (show (none:Option _)=some _ from h))
 | succ k ih=>exact @fun a0 a1 a2 r O n h=>Zie (ih)  h
theorem Zi1 {a0:Zj} {a1:Int} {a2:Int} {r:Int} {O:Objs} {n:Nat} (h:Gy a0 a1 a2=some r):GTo Tryz.prog 14 [.agg (Zn a0),.val (.int .i64 a1),.val (.int .i64 a2)] O n (.val (.int .i64 r)) O n:=by
 obtain ⟨k,hk⟩:=Zjd h
 exact (Zft k)  hk
theorem Zm3 {a0:Zj} {r:Bool} {O:Objs} {n:Nat} (h:Va a0=some r):GTo Tryz.prog 6 [.agg (Zn a0)] O n (.val (.bool r)) O n:=by
 unfold Va at h
 refine Ye Zc Tryz.call6 Tryz.func6 rfl (Nat.le_of_ble_eq_true rfl) (Nat.le_refl _) fun hU => ?_
 have hN0:O n=none:=hU.fresh _ (Nat.le_refl _)
 have hN:∀ k,O (n+k)=none:=fun k=>hU.fresh _ (Nat.le_add_right _ _)
 show W _ _ _ _ ⟨6,[],[(0,.agg (Zn a0))]⟩ (Z3 O n []) _
 refine Zk [1] (Zb Zc [] ?_)
 simp only [push_cast,seval,Za,hN0,hN]
 refine Zf ?_
 obtain ⟨y2,hy2,h⟩:=bC h
 refine Zb Zc [] ?_
 simp only [push_cast,seval,Za,hN0,hN]
 refine (Zi1 hy2).then ?_
 simp only [push_cast,seval,Za,hN0,hN]
 refine Zg [2] [false] ?_
 simp only [push_cast,seval]
 refine Zu ?_
 try simp only [Zh,Ze]
 have h:=Option.some.inj h;subst h
 refine Zl (.inr rfl) hU [.val (.bool (decide (0≤y2)))] (by omega) ?_
 simp only [push_cast,seval,Za,Tryz.results6,hN0,hN]
end Go.Proofs.YtmjjjfamipncdaaGreat
