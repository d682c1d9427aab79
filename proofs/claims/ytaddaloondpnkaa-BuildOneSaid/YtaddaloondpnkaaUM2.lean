/- Part UM2 of this seat's mirrors: functions of the seat's program, and the plain functions that they are; each theorem bears its own conditions. -/
import Derived.Test.YtaddaloondpnkaaUM1
namespace Go.Proofs.Ytaddaloondpnkaa
open Go.RowKit
set_option linter.unusedVariables false
set_option linter.unusedSimpArgs false
set_option maxRecDepth 100000
set_option maxHeartbeats 4000000
attribute [local push_cast] Zf Z3 Zhy Zhx Ziw Ziv Zj Zh Zel Zai Zah onW Yp Gl Us Zkz Zh2 Zcx Zc1 Zcw Zc0 Zfm Zfi Zcz Zfl Zfk Zfj Zcy Zfg Zaw evS wok Xj Op.operands Call.operands gop onK onP atK List.all_cons List.all_nil Bool.and_true Bool.true_and Bool.and_self Value.oneCell' List.take_zero List.take_succ_cons List.take_nil List.drop_zero List.drop_succ_cons List.drop_nil List.append_nil Nat.add_zero Nat.zero_add Jr Z8 ev Xi Zg1 Zhr Zhq Zhw Zhu Zhv Zhs Zht Zhp Zmq Zov Zql Zdr Vw Zdv Ut Zci Zbl Ul Uq Zag Zac Uo Zaf Zae Zad Un Zaa Um Up Vp Zab Zg3 Zaj Jw Zc6 Jx Zek Zdq Zpr Gd bHi bMx Vy Zei Zrc Zdp Zgd G0 Q6 Zmf Zrh Zc5 Gu Zrj Vv Ztw Zeq Zeu Zep Zet Zii Zie Zic Zck Zer Zih Zig Zif Zes Zh8 Zib Zh7 Zia Zm2 Zmz Zmy Zh9 Zm0 Zm1 Zid Zem Zkr Ze8 Zau Zat pop TK.isAgg Zip Zit Zio Zis Ze2 Znc Zm8 Zir Znb Zna Zm9 Ziq Zm7 G.under G.unders List.getD_cons_zero List.getD_cons_succ List.set_cons_zero List.set_cons_succ List.map_cons List.map_nil List.toList_toArray Array.toList_append Option.toArray_none Option.toArray_some Array.toList_map Option.map_some Option.map_none Option.bind_some Option.bind_none List.getElem?_cons_zero List.getElem?_cons_succ List.getElem?_nil List.nil_append List.cons_append List.replicate_succ List.replicate_zero List.length_cons List.length_nil and_true true_and and_false false_and Bool.true_eq_false Bool.false_eq_true forall_const false_implies implies_true IntKind.bits if_true if_false ite_true ite_false eq_self true_implies false_or or_false or_true true_or not_true_eq_false not_false_eq_true decide_true decide_false decide_eq_true_eq decide_eq_false_iff_not beq_iff_eq bne_iff_ne ne_eq Bool.not_eq_true Bool.not_eq_false beq_eq_false_iff_ne bne_eq_false_iff_eq beq_self_eq_true bne_self_eq_false Option.some.injEq exists_eq_left' exists_eq_left ge_iff_le gt_iff_lt decide_not Bool.not_true Bool.not_false imp_self Zms cond_true cond_false Zx7 Zx6 Bool.not_not Bool.and_false Bool.false_and Bool.or_true Bool.true_or Bool.or_false Bool.false_or Vc Zc3 Gy Ui Jk X8 Option.join_some Nat.add_assoc Int.toNat_natCast eI eB eS eL Ke Za3 Uu Zh1 Zhz Zh0 Zt2 Zvr Zba U1 Zi2 Zi0 Zi1 Zqq Zkq Zon Zhg Zmb Vf Zkw List.length_append G.agg.injEq G.row.injEq G.ref.injEq G.val.injEq G.sl.injEq G.tup.injEq Value.int.injEq Value.bool.injEq Value.string.injEq List.cons.injEq exists_and_left exists_const List.flatten_cons List.flatten_nil Int.le_refl Nat.le_refl Gb Yy Jt Bool.not_eq_true' Bool.not_eq_false' Zkj Zby Zoe Zoi Zod Zoh Ztt Zto List.size_toArray Zmc Zlm G.ren G.rens Zpb Zbu Zi5 Zhn Zho Zfh Zoj Zdt G.fn.injEq Zdn Zf9 Zki Ztp Zf8 Zog Zts Ztr Ztq Zof Zm3 Zrp Option.join_none Zs Jn undef Zgh Arr.len Arr.put_eq Za9 Zco Zaq U0 Ziz Zix Ziy onB Zt1 Zme Ya Zcf Zd5 Zd6 Zd7 Zd8 Zd9 Zea Zcm Zcr Zcp Zas U2 Zcq Ze7 Ze6 Ze5 Ze4 Zt3 Zvq Zqp Zp1 Kc Zqm Zk9 Zcs Zar Zr4 Zln Zdo Zgc Gi Zdl Zeb Zec Zed Zee Zb1 Zb2 Zb3 Zb4 Zb5 Zb6 Zb7 Zb8 Zb9 Zca Zcb Zcc Zcd Zbi prT Zga Zyz Zn3 Zt7 Zn4 Zy0 Zn5 Zy1 Zn6 Zy2 Zn7 Zy3 Zn8 Zy4 Zn9 Zy5 Zoa Zsg Zjc Zsh Zjd Zsi Zje Zsj Zjf Zsk Zjg Zsl Zjh Zsm Zji Zsn Zjj Zso Zjk Zsp Zjl Zsq Zjm Zdx Zbw Zsr Zgm Zss Zjn Vo Zjo Zst Zgn Zsu Zjp Zsv Zjq Zsw Zjr Zsx Zjs Zsy Zjt Zsz Zju Zs0 Zjv Zs1 Zjw U8 Zjx Zs2 Zjy Zs3 Zjz Zs4 Zj0 Zs5 Zj1 Zs6 Zj2 Zs7 Zj3 Zs8 Zj4 Zs9 Zj5 Zta Zj6 Ztb Zj7 Ztc Zj8 Ztd Zj9 Zte Zka Ztf Zkb Ztg Zkc Zth Zkd Zti Zke Ztj Zkf Ztk Zkg Zni Zfn Znj Zfo Znk Zfp Znl Zfq Znm Zfr Znn Zfs Zno Zft Znp Zfu Znq Zfv Znr Zfw Zns Zfx Znt Zfy Znu Zfz Znv Zf0 Znw Zf1 Znx Zf2 Zny Zf3 Znz Zf4 Zn0 Zf5 Zn1 Zf6 Zn2 Zf7 Zo Gc Zaz Zal Zap Za2 Ga U6 U4 Jj K2 K1 Kx Kz K3 J8 J6 J5 K0 Xk X0 Xz Xw Xx X1 Xp Xo Xn Xy Zg Ys Qy Qx Qr Qu Q0 Qk Qj Qi Qv Za0 Zay Zak Zao Za1 U9 U5 U3 Zax Ur Jg
theorem Gx {a0:Zc} {r:(Int×Int)} {O:Objs} {n:Nat} (h:Ko a0=some r):GTo Try.prog 87 [.agg (Zf a0)] O n (.tup [.val (.int .i64 r.1),.val (.int .i64 r.2)]) O n:=by
 unfold Ko at h
 refine Yt Zd Try.call87 Try.func87 rfl (Nat.le_of_ble_eq_true rfl) (Nat.le_refl _) fun hU => ?_
 have hN0:O n=none:=hU.fresh _ (Nat.le_refl _)
 have hN:∀ k,O (n+k)=none:=fun k=>hU.fresh _ (Nat.le_add_right _ _)
 show W _ _ _ _ ⟨28,[],[(0,.agg (Zf a0))]⟩ (Zu O n []) _
 refine Zl [1] (Zb Zd [] ?_)
 simp only [push_cast,seval,↓reduceIte,Za,hN0,hN]
 refine Zl [1,4,5] (Zb Zd [] ?_)
 simp only [push_cast,seval,↓reduceIte,Za,hN0,hN]
 refine Zk ?_
 refine Zl [4,5,9,10,11] (Zb Zd [] ?_)
 simp only [push_cast,seval,↓reduceIte,Za,hN0,hN]
 refine Zm [4,5,9,10,11] [false] ?_
 simp only [push_cast,seval,↓reduceIte]
 obtain ⟨z4,hz4,h⟩:=bC h
 refine X9 (E':=⟨28,[],[(4,.val (.int .i64 z4.1)),(5,.val (.int .i64 z4.2))]⟩) (O':=(Zu O n [none])) (n0:=(n+1)) ?_ ?_
 ·refine Jc hz4 (fun s0_=>⟨28,[],[(4,.val (.int .i64 s0_.1)),(5,.val (.int .i64 s0_.2.1)),(9,.sl a0.Kids.length (fl Zg a0.Kids)),(10,.val (.int .i64 (a0.Kids.length:Int))),(11,.val (.int .i64 s0_.2.2))]⟩) (fun s0_=>(Zu O n [none])) (fun z4=>JX 0 n (⟨28,[],[(4,.val (.int .i64 z4.1)),(5,.val (.int .i64 z4.2))]⟩:Env) (Zu O n [none]) (n+1)) ?_
  intro s0_ x0_ hs0_
  unfold V1 at hs0_
  try dsimp only
  refine Zl [4,5,9,10,11,12] (Zb Zd [] ?_)
  simp only [push_cast,seval,↓reduceIte,Za,hN0,hN]
  refine Zk ?_
  refine Zq (t:=(decide (s0_.2.2 < (a0.Kids.length:Int)))) rfl (fun c3 => ?_) (fun c3 => ?_)
  ·replace hs0_:=Yd c3 hs0_
   refine Z0 ?_
   try simp only [Zj,Zh]
   refine Zm [4,5,9,10,11] [false] ?_
   simp only [push_cast,seval,↓reduceIte]
   refine Zk ?_
   refine Yk ?_
   refine Zk ?_
   obtain ⟨x2,hx2,ax2,bx2,cx2,hs0_⟩:=bE (f:=Zg) Vo (fun _=>rfl) (by decide) hs0_
   refine Zb Zd [] ?_
   simp only [push_cast,Nat.reduceAdd,Nat.reduceSub,Nat.reduceMul,Nat.reduceLeDiff,Nat.reduceLT,Nat.reduceEqDiff,↓reduceIte,reduceCtorEq,Int.reduceBEq,Int.reduceBNe,Nat.reduceBEq,Int.reduceLE,Int.reduceLT,Int.reduceEq,Int.reduceNe,Int.reduceNeg,Nat.reduceDiv,Nat.reduceMod,Nat.reducePow,Za,ax2,bx2,cx2,hN0,hN]
   refine Zm [4,5,7,9,10,11] [false,true] ?_
   simp only [push_cast,seval,↓reduceIte]
   refine Gz Zd (by kernel_rfl) [] (by kernel_rfl) ?_
   simp only [push_cast,seval,↓reduceIte,Za,hN0,hN]
   refine Zm [4,5,9,10,11] [false,false] ?_
   simp only [push_cast,seval,↓reduceIte]
   refine Zb Zd [] ?_
   simp only [push_cast,seval,↓reduceIte,Za,hN0,hN]
   have hs0_:=Option.some.inj hs0_;subst hs0_
   refine And.intro rfl (Fit2.of (Zp hU rfl rfl ?_) (by omega))
   simp only [push_cast,seval,↓reduceIte,Za,hN0,hN]
  replace hs0_:=Yc c3 hs0_
  refine Jf ?_
  try simp only [Zj,Zh,↓reduceIte,Nat.reduceEqDiff]
  have hs0_:=Option.some.inj hs0_;subst hs0_
  refine And.intro (fun h=>by cases h) (And.intro rfl (Fit2.of (Zp hU rfl rfl ?_) (by omega)))
  simp only [push_cast,seval,↓reduceIte,Za,hN0,hN]
 try simp only [Zj,Zh,↓reduceIte,Nat.reduceEqDiff]
 refine Zm [4,5] [false] ?_
 simp only [push_cast,seval,↓reduceIte]
 refine Zl [2,3] (Zb Zd [] ?_)
 simp only [push_cast,seval,↓reduceIte,Za,hN0,hN]
 refine Zy ?_
 try simp only [Zj,Zh]
 have h:=Option.some.inj h;subst h
 refine Zt (.inr rfl) hU [.val (.int .i64 z4.1),.val (.int .i64 z4.2)] (by omega) ?_
 simp only [push_cast,seval,↓reduceIte,Za,Try.results87,hN0,hN]
theorem Zrv {a0:Zc} {r:Zw} {O:Objs} {n:Nat} (h:Zc7 a0=some r):GTo Try.prog 49 [.agg (Zf a0)] O n (.agg (Z3 r)) O n:=by
 unfold Zc7 at h
 refine Yt Zd Try.call49 Try.func49 rfl (Nat.le_of_ble_eq_true rfl) (Nat.le_refl _) fun hU => ?_
 have hN0:O n=none:=hU.fresh _ (Nat.le_refl _)
 have hN:∀ k,O (n+k)=none:=fun k=>hU.fresh _ (Nat.le_add_right _ _)
 show W _ _ _ _ ⟨38,[],[(0,.agg (Zf a0))]⟩ (Zu O n []) _
 refine Zl [1,2] (Zb Zd [] ?_)
 simp only [push_cast,seval,↓reduceIte,Za,hN0,hN]
 refine Zk ?_
 refine Zl [1,2,6] (Zb Zd [] ?_)
 simp only [push_cast,seval,↓reduceIte,Za,hN0,hN]
 refine Yk ?_
 refine Zl [1,2,6,7] (Zb Zd [] ?_)
 simp only [push_cast,seval,↓reduceIte,Za,hN0,hN]
 refine Zq (t:=(a0.Kind == 1)) rfl (fun c4 => ?_) (fun c4 => ?_)
 ·replace h:=Yd c4 h
  refine Zk ?_
  refine Zb Zd [] ?_
  simp only [push_cast,seval,↓reduceIte,Za,hN0,hN]
  refine Zm [2] [false,true] ?_
  simp only [push_cast,seval,↓reduceIte]
  refine Zy ?_
  try simp only [Zj,Zh]
  have h:=Option.some.inj h;subst h
  refine Zt (.inr rfl) hU [.agg [.val (.int .i64 1),.val (.int .i64 0),.val (.int .i64 (a0.Words.length:Int)),.val (.int .i64 (a0.Kids.length:Int)),.val (.int .i64 0),.val (.int .i64 0),.val (.int .i64 0),.val (.bool false)]] (by omega) ?_
  simp only [push_cast,seval,↓reduceIte,Za,Try.results49,hN0,hN]
 replace h:=Yc c4 h
 refine Zl [1,2,16] (Zb Zd [] ?_)
 simp only [push_cast,seval,↓reduceIte,Za,hN0,hN]
 refine Zq (t:=(a0.Kind == 9)) rfl (fun c3 => ?_) (fun c3 => ?_)
 ·replace h:=Yd c3 h
  refine Zk ?_
  obtain ⟨y2,hy2,h⟩:=bC h
  refine Zb Zd [] ?_
  simp only [push_cast,seval,↓reduceIte,Za,hN0,hN]
  refine (Gx hy2).then ?_
  simp only [push_cast,seval,↓reduceIte,Za,hN0,hN]
  refine Zm [1,2,3,4] [true,true] ?_
  simp only [push_cast,seval,↓reduceIte]
  refine Zk ?_
  refine Zb Zd [] ?_
  simp only [push_cast,seval,↓reduceIte,Za,hN0,hN]
  refine Zm [2] [false,true] ?_
  simp only [push_cast,seval,↓reduceIte]
  refine Zy ?_
  try simp only [Zj,Zh]
  have h:=Option.some.inj h;subst h
  refine Zt (.inr rfl) hU [.agg [.val (.int .i64 2),.val (.int .i64 0),.val (.int .i64 0),.val (.int .i64 0),.val (.int .i64 7),.val (.int .i64 (IntKind.i64.wrap ((a0.Kids.length:Int) * (IntKind.i64.wrap (y2.1+y2.2))))),.val (.int .i64 0),.val (.bool false)]] (by omega) ?_
  simp only [push_cast,seval,↓reduceIte,Za,Try.results49,hN0,hN]
 replace h:=Yc c3 h
 refine Z0 ?_
 try simp only [Zj,Zh]
 refine Zm [1,2] [true,true] ?_
 simp only [push_cast,seval,↓reduceIte]
 refine Zk ?_
 refine Zb Zd [] ?_
 simp only [push_cast,seval,↓reduceIte,Za,hN0,hN]
 refine Zm [2] [false,true] ?_
 simp only [push_cast,seval,↓reduceIte]
 refine Zy ?_
 try simp only [Zj,Zh]
 have h:=Option.some.inj h;subst h
 refine Zt (.inr rfl) hU [.agg [.val (.int .i64 2),.val (.int .i64 0),.val (.int .i64 0),.val (.int .i64 0),.val (.int .i64 (IntKind.i64.wrap (a0.Kind - 2))),.val (.int .i64 (a0.Kids.length:Int)),.val (.int .i64 0),.val (.bool false)]] (by omega) ?_
 simp only [push_cast,seval,↓reduceIte,Za,Try.results49,hN0,hN]
theorem Zo0 {a0:Zc} {a1:Int} {r:Int} {O:Objs} {n:Nat} (h:Vn a0 a1=some r):GTo Try.prog 125 [.agg (Zf a0),.val (.int .i64 a1)] O n (.val (.int .u64 r)) O n:=by
 unfold Vn at h
 refine Yt Zd Try.call125 Try.func125 rfl (Nat.le_of_ble_eq_true rfl) (Nat.le_refl _) fun hU => ?_
 have hN0:O n=none:=hU.fresh _ (Nat.le_refl _)
 have hN:∀ k,O (n+k)=none:=fun k=>hU.fresh _ (Nat.le_add_right _ _)
 show W _ _ _ _ ⟨19,[],[(0,.agg (Zf a0)),(1,.val (.int .i64 a1))]⟩ (Zu O n []) _
 refine Zl [1,2] (Zb Zd [] ?_)
 simp only [push_cast,seval,↓reduceIte,Za,hN0,hN]
 refine Zk ?_
 refine Zl [1,2,13] (Zb Zd [none,none,none,none,none] ?_)
 simp only [push_cast,seval,↓reduceIte,Za,hN0,hN]
 repeat (with_reducible refine And.intro (by first | (intro h0;simp only [h0,and_self];done) | (intro h0;simp only [h0,Bool.not_false,Bool.not_true,Bool.true_and,Bool.and_true,true_and,and_true,and_self,imp_self,implies_true,bne_iff_ne,ne_eq,beq_iff_eq];done) | (intros;simp_all;done) | exact True.intro) ?_)
 refine Zq (t:=(cond (decide (a1 < 0)) true (decide ((a0.Words.length:Int)≤a1)))) rfl (fun c3 => ?_) (fun c3 => ?_)
 ·replace h:=Yd c3 h
  refine Zl [4] (Zb Zd [] ?_)
  simp only [push_cast,seval,↓reduceIte,Za,hN0,hN]
  refine Zy ?_
  try simp only [Zj,Zh]
  have h:=Option.some.inj h;subst h
  refine Zt (.inr rfl) hU [.val (.int .u64 0)] (by omega) ?_
  simp only [push_cast,seval,↓reduceIte,Za,Try.results125,hN0,hN]
 replace h:=Yc c3 h
 refine Z0 ?_
 try simp only [Zj,Zh]
 refine Zm [1,2] [true] ?_
 simp only [push_cast,seval,↓reduceIte]
 obtain ⟨x2,hx2,ax2,bx2,cx2,h⟩:=bE (f:=(eI .u64)) U8 (fun _=>rfl) (by decide) h
 refine Zl [4] (Zb Zd [] ?_)
 simp only [push_cast,Nat.reduceAdd,Nat.reduceSub,Nat.reduceMul,Nat.reduceLeDiff,Nat.reduceLT,Nat.reduceEqDiff,↓reduceIte,reduceCtorEq,Int.reduceBEq,Int.reduceBNe,Nat.reduceBEq,Int.reduceLE,Int.reduceLT,Int.reduceEq,Int.reduceNe,Int.reduceNeg,Nat.reduceDiv,Nat.reduceMod,Nat.reducePow,Za,ax2,bx2,cx2,hN0,hN]
 refine Zy ?_
 try simp only [Zj,Zh]
 have h:=Option.some.inj h;subst h
 refine Zt (.inr rfl) hU [.val (.int .u64 x2)] (by omega) ?_
 simp only [push_cast,seval,↓reduceIte,Za,Try.results125,hN0,hN]
theorem Zo3 {a0:Int} {a1:Int} {r:Int} {O:Objs} {n:Nat} (h:Za7 a0 a1=some r):GTo Try.prog 103 [.val (.int .i64 a0),.val (.int .i64 a1)] O n (.val (.int .i64 r)) O n:=by
 unfold Za7 at h
 refine Yt Zd Try.call103 Try.func103 rfl (Nat.le_of_ble_eq_true rfl) (Nat.le_refl _) fun hU => ?_
 have hN0:O n=none:=hU.fresh _ (Nat.le_refl _)
 have hN:∀ k,O (n+k)=none:=fun k=>hU.fresh _ (Nat.le_add_right _ _)
 show W _ _ _ _ ⟨27,[],[(0,.val (.int .i64 a0)),(1,.val (.int .i64 a1))]⟩ (Zu O n []) _
 refine Zl [0,1] (Zb Zd [] ?_)
 simp only [push_cast,seval,↓reduceIte,Za,hN0,hN]
 refine Zk ?_
 obtain ⟨y2,hy2,h⟩:=bC h
 refine Zb Zd [] ?_
 simp only [push_cast,seval,↓reduceIte,Za,hN0,hN]
 refine (Zgv hy2).then ?_
 simp only [push_cast,seval,↓reduceIte,Za,hN0,hN]
 refine Zm [1,5,6] [] ?_
 simp only [push_cast,seval,↓reduceIte]
 refine Zk ?_
 refine Zl [1,5,21] (Zb Zd [none,none,none,none] ?_)
 simp only [push_cast,seval,↓reduceIte,Za,hN0,hN]
 repeat (with_reducible refine And.intro (by first | (intro h0;simp only [h0,and_self];done) | (intro h0;simp only [h0,Bool.not_false,Bool.not_true,Bool.true_and,Bool.and_true,true_and,and_true,and_self,imp_self,implies_true,bne_iff_ne,ne_eq,beq_iff_eq];done) | (intros;simp_all;done) | exact True.intro) ?_)
 refine Zq (t:=(cond (cond (!y2.2) true (decide (a1 < 0))) true (decide (1099511627776 < a1)))) rfl (fun c3 => ?_) (fun c3 => ?_)
 ·replace h:=Yd c3 h
  refine Zl [4] (Zb Zd [] ?_)
  simp only [push_cast,seval,↓reduceIte,Za,hN0,hN]
  refine Zy ?_
  try simp only [Zj,Zh]
  have h:=Option.some.inj h;subst h
  refine Zt (.inr rfl) hU [.val (.int .i64 0)] (by omega) ?_
  simp only [push_cast,seval,↓reduceIte,Za,Try.results103,hN0,hN]
 replace h:=Yc c3 h
 refine Z0 ?_
 try simp only [Zj,Zh]
 refine Zm [1,5] [] ?_
 simp only [push_cast,seval,↓reduceIte]
 refine Zl [4] (Zb Zd [] ?_)
 simp only [push_cast,seval,↓reduceIte,Za,hN0,hN]
 refine Zy ?_
 try simp only [Zj,Zh]
 have h:=Option.some.inj h;subst h
 refine Zt (.inr rfl) hU [.val (.int .i64 (IntKind.i64.wrap (Int.tdiv (IntKind.i64.wrap ((IntKind.i64.wrap (a1 * y2.1))+63)) 64)))] (by omega) ?_
 simp only [push_cast,seval,↓reduceIte,Za,Try.results103,hN0,hN]
theorem Zqh {a0:Int} {a1:(List Int)} {r:((List Int)×Bool)} {O:Objs} {n:Nat} (h:Ux a0 a1=some r):GTo Try.prog 126 [.val (.int .i64 a0),.sl a1.length (fl (eI .u64) a1)] O n (.tup [.sl r.1.length (fl (eI .u64) r.1),.val (.bool r.2)]) O n:=by
 unfold Ux at h
 refine Yt Zd Try.call126 Try.func126 rfl (Nat.le_of_ble_eq_true rfl) (Nat.le_refl _) fun hU => ?_
 have hN0:O n=none:=hU.fresh _ (Nat.le_refl _)
 have hN:∀ k,O (n+k)=none:=fun k=>hU.fresh _ (Nat.le_add_right _ _)
 show W _ _ _ _ ⟨68,[],[(0,.val (.int .i64 a0)),(1,.sl a1.length (fl (eI .u64) a1))]⟩ (Zu O n []) _
 refine Zl [0,1] (Zb Zd [] ?_)
 simp only [push_cast,seval,↓reduceIte,Za,hN0,hN]
 refine Zk ?_
 obtain ⟨y2,hy2,h⟩:=bC h
 refine Zb Zd [] ?_
 simp only [push_cast,seval,↓reduceIte,Za,hN0,hN]
 refine (Zgv hy2).then ?_
 simp only [push_cast,seval,↓reduceIte,Za,hN0,hN]
 refine Zm [0,1,6,7] [] ?_
 simp only [push_cast,seval,↓reduceIte]
 refine Zk ?_
 refine Zl [0,1,6,7,19,20,21] (Zb Zd [] ?_)
 simp only [push_cast,seval,↓reduceIte,Za,hN0,hN]
 refine Zm [0,1,6,7,19,20,21] [] ?_
 simp only [push_cast,seval,↓reduceIte]
 obtain ⟨z8,hz8,h⟩:=bC h
 refine X9 (E':=⟨68,[],[(0,.val (.int .i64 a0)),(1,.sl a1.length (fl (eI .u64) a1)),(6,.val (.int .i64 y2.1)),(7,.val (.bool z8))]⟩) (O':=(Zu O n [])) (n0:=n) ?_ ?_
 ·refine Jc hz8 (fun s0_=>⟨68,[],[(0,.val (.int .i64 a0)),(1,.sl a1.length (fl (eI .u64) a1)),(6,.val (.int .i64 y2.1)),(7,.val (.bool s0_.1)),(19,.sl a1.length (fl (eI .u64) a1)),(20,.val (.int .i64 (a1.length:Int))),(21,.val (.int .i64 s0_.2))]⟩) (fun s0_=>(Zu O n [])) (fun z8=>JX 0 n (⟨68,[],[(0,.val (.int .i64 a0)),(1,.sl a1.length (fl (eI .u64) a1)),(6,.val (.int .i64 y2.1)),(7,.val (.bool z8))]⟩:Env) (Zu O n []) n) ?_
  intro s0_ x0_ hs0_
  unfold V8 at hs0_
  try dsimp only
  refine Zl [0,1,6,7,19,20,21,22] (Zb Zd [] ?_)
  simp only [push_cast,seval,↓reduceIte,Za,hN0,hN]
  refine Zk ?_
  refine Zq (t:=(decide (s0_.2 < (a1.length:Int)))) rfl (fun c7 => ?_) (fun c7 => ?_)
  ·replace hs0_:=Yd c7 hs0_
   refine Z0 ?_
   try simp only [Zj,Zh]
   refine Zm [0,1,6,7,19,20,21] [] ?_
   simp only [push_cast,seval,↓reduceIte]
   refine Zk ?_
   refine Yk ?_
   obtain ⟨x4,hx4,ax4,bx4,cx4,hs0_⟩:=bE (f:=(eI .u64)) U8 (fun _=>rfl) (by decide) hs0_
   refine Zl [0,1,6,7,9,19,20,21] (Zb Zd [] ?_)
   simp only [push_cast,Nat.reduceAdd,Nat.reduceSub,Nat.reduceMul,Nat.reduceLeDiff,Nat.reduceLT,Nat.reduceEqDiff,↓reduceIte,reduceCtorEq,Int.reduceBEq,Int.reduceBNe,Nat.reduceBEq,Int.reduceLE,Int.reduceLT,Int.reduceEq,Int.reduceNe,Int.reduceNeg,Nat.reduceDiv,Nat.reduceMod,Nat.reducePow,Za,ax4,bx4,cx4,hN0,hN]
   rcases Bool.eq_false_or_eq_true s0_.1 with c6 | c6
   ·replace hs0_:=Yd c6 hs0_
    obtain ⟨y5,hy5,hs0_⟩:=bC hs0_
    refine Zb Zd (Z15 []) ?_
    simp only [push_cast,seval,↓reduceIte,Za,c6,hN0,hN]
    refine (Zo2 hy5).then ?_
    simp only [push_cast,seval,↓reduceIte,Za,c6,hN0,hN]
    refine Zm [0,1,6,7,19,20,21] [] ?_
    simp only [push_cast,seval,↓reduceIte]
    refine Zb Zd [] ?_
    simp only [push_cast,seval,↓reduceIte,Za,hN0,hN]
    have hs0_:=Option.some.inj hs0_;subst hs0_
    refine And.intro rfl (Fit2.of (Zp hU rfl rfl ?_) (by omega))
    simp only [push_cast,seval,↓reduceIte,Za,c6,hN0,hN]
   replace hs0_:=Yc c6 hs0_
   refine Zb Zd (Z5t []) ?_
   simp only [push_cast,seval,↓reduceIte,Za,c6,hN0,hN]
   refine Zm [0,1,6,7,19,20,21] [] ?_
   simp only [push_cast,seval,↓reduceIte]
   refine Zb Zd [] ?_
   simp only [push_cast,seval,↓reduceIte,Za,hN0,hN]
   have hs0_:=Option.some.inj hs0_;subst hs0_
   refine And.intro rfl (Fit2.of (Zp hU rfl rfl ?_) (by omega))
   simp only [push_cast,seval,↓reduceIte,Za,hN0,hN]
  replace hs0_:=Yc c7 hs0_
  refine Jf ?_
  try simp only [Zj,Zh,↓reduceIte,Nat.reduceEqDiff]
  have hs0_:=Option.some.inj hs0_;subst hs0_
  refine And.intro (fun h=>by cases h) (And.intro rfl (Fit2.of (Zp hU rfl rfl ?_) (by omega)))
  simp only [push_cast,seval,↓reduceIte,Za,hN0,hN]
 try simp only [Zj,Zh,↓reduceIte,Nat.reduceEqDiff]
 refine Zm [0,1,6,7] [] ?_
 simp only [push_cast,seval,↓reduceIte]
 refine Zk ?_
 refine Zl [0,1,6,33] (Zb Zd [] ?_)
 simp only [push_cast,seval,↓reduceIte,Za,hN0,hN]
 refine Zq (t:=(!z8)) rfl (fun c26 => ?_) (fun c26 => ?_)
 ·replace h:=Yd c26 h
  refine Zl [4,5] (Zb Zd [] ?_)
  simp only [push_cast,seval,↓reduceIte,Za,hN0,hN]
  refine Zy ?_
  try simp only [Zj,Zh]
  have h:=Option.some.inj h;subst h
  refine Zt (.inr rfl) hU [.val (.slice none 0 0),.val (.bool false)] (by omega) ?_
  simp only [push_cast,seval,↓reduceIte,Za,Try.results126,hN0,hN]
 replace h:=Yc c26 h
 refine Z0 ?_
 try simp only [Zj,Zh]
 refine Zm [0,1,6] [] ?_
 simp only [push_cast,seval,↓reduceIte]
 refine Zk ?_
 obtain ⟨y11,hy11,h⟩:=bC h
 obtain ⟨l12,al12,bl12,cl12,el12,h⟩:=bM2 (c:=8) rfl h
 have nl12:Int.toNat y11=List.length l12:=by rw [el12,List.length_replicate]
 have fl12:(List.replicate (List.length l12) [.val (.int .u64 0)]).flatten=fl (eI .u64) l12:=by rw [← nl12,el12];exact (Zop (f:=(eI .u64)) _ _).symm
 clear el12
 refine Zb Zd [] ?_
 simp only [push_cast,seval,↓reduceIte,Za,al12,bl12,cl12,fl12,nl12,hN0,hN]
 refine (Zo3 hy11).then ?_
 simp only [push_cast,seval,↓reduceIte,Za,al12,bl12,cl12,fl12,nl12,hN0,hN]
 refine Zgb ⟨68,[],[(1,.sl a1.length (fl (eI .u64) a1)),(6,.val (.int .i64 y2.1)),(10,.row n l12.length)]⟩ (Zu O n [some ⟨true,58,1,l12.length,fl (eI .u64) l12⟩]) (Zp hU rfl rfl ?_) ?_
 ·simp only [push_cast,seval,↓reduceIte,Za,al12,bl12,cl12,fl12,nl12,hN0,hN]
 refine Zk ?_
 refine Zl [1,6,10,40] (Zb Zd [] ?_)
 simp only [push_cast,seval,↓reduceIte,Za,hN0,hN]
 refine Zq (t:=(y2.1 == 0)) rfl (fun c25 => ?_) (fun c25 => ?_)
 ·replace h:=Yd c25 h
  refine Zl [4,5] (Zb Zd [] ?_)
  simp only [push_cast,seval,↓reduceIte,Za,hN0,hN]
  refine Zy ?_
  try simp only [Zj,Zh]
  have h:=Option.some.inj h;subst h
  refine Zt (.inr rfl) hU [.row n l12.length,.val (.bool true)] (by omega) ?_
  simp only [push_cast,seval,↓reduceIte,Za,Try.results126,hN0,hN]
 replace h:=Yc c25 h
 refine Z0 ?_
 try simp only [Zj,Zh]
 refine Zm [1,6,10] [true] ?_
 simp only [push_cast,seval,↓reduceIte]
 obtain ⟨pu14,h⟩:=bG h
 refine Zl [1,6,10,11] (Zb Zd [] ?_)
 simp only [push_cast,seval,↓reduceIte,Za,pu14,hN0,hN]
 refine Zk ?_
 refine Zl [6,10,11,44,45,46] (Zb Zd [] ?_)
 simp only [push_cast,seval,↓reduceIte,Za,hN0,hN]
 refine Zm [6,10,11,44,45,46] [true] ?_
 simp only [push_cast,seval,↓reduceIte]
 obtain ⟨z24,hz24,h⟩:=bC h
 refine X9 (E':=⟨68,[],[(10,.row n z24.length)]⟩) (O':=(Zu O n [some ⟨true,58,1,z24.length,fl (eI .u64) z24⟩])) (n0:=(n+1)) ?_ ?_
 ·refine Jc hz24 (fun s1_=>⟨68,[],[(6,.val (.int .i64 y2.1)),(10,.row n s1_.2.length),(11,.val (.int .i64 (IntKind.i64.wrap (Int.tdiv 64 y2.1)))),(44,.sl a1.length (fl (eI .u64) a1)),(45,.val (.int .i64 (a1.length:Int))),(46,.val (.int .i64 s1_.1))]⟩) (fun s1_=>(Zu O n [some ⟨true,58,1,s1_.2.length,fl (eI .u64) s1_.2⟩])) (fun z24=>JX 2 n (⟨68,[],[(10,.row n z24.length)]⟩:Env) (Zu O n [some ⟨true,58,1,z24.length,fl (eI .u64) z24⟩]) (n+1)) ?_
  intro s1_ x1_ hs1_
  unfold Ky at hs1_
  try dsimp only
  refine Zl [6,10,11,44,45,46,47] (Zb Zd [] ?_)
  simp only [push_cast,seval,↓reduceIte,Za,hN0,hN]
  refine Zk ?_
  refine Zq (t:=(decide (s1_.1 < (a1.length:Int)))) rfl (fun c23 => ?_) (fun c23 => ?_)
  ·replace hs1_:=Yd c23 hs1_
   refine Z0 ?_
   try simp only [Zj,Zh]
   refine Zm [6,10,11,44,45,46] [true] ?_
   simp only [push_cast,seval,↓reduceIte]
   refine Zk ?_
   refine Yk ?_
   obtain ⟨x16,hx16,ax16,bx16,cx16,hs1_⟩:=bE (f:=(eI .u64)) U8 (fun _=>rfl) (by decide) hs1_
   refine Zl [6,10,11,12,13,44,45,46] (Zb Zd [] ?_)
   simp only [push_cast,Nat.reduceAdd,Nat.reduceSub,Nat.reduceMul,Nat.reduceLeDiff,Nat.reduceLT,Nat.reduceEqDiff,↓reduceIte,reduceCtorEq,Int.reduceBEq,Int.reduceBNe,Nat.reduceBEq,Int.reduceLE,Int.reduceLT,Int.reduceEq,Int.reduceNe,Int.reduceNeg,Nat.reduceDiv,Nat.reduceMod,Nat.reducePow,Za,ax16,bx16,cx16,hN0,hN]
   obtain ⟨pu17,hs1_⟩:=bG hs1_
   obtain ⟨x18,hx18,ax18,bx18,cx18,hs1_⟩:=bE (f:=(eI .u64)) U8 (fun _=>rfl) (by decide) hs1_
   obtain ⟨pu19,hs1_⟩:=bG hs1_
   obtain ⟨pu20,hs1_⟩:=bG hs1_
   have gu22:Q8 (fl (eI .u64) s1_.2) [.val (.int .u64 (IntKind.u64.wrap (Ug .u64 x18 (IntKind.u64.wrap (x16 * 2 ^ min (Int.toNat (IntKind.i64.wrap ((Int.tmod s1_.1 (IntKind.i64.wrap (Int.tdiv 64 y2.1))) * y2.1))) 64)))))] (Int.toNat (IntKind.i64.wrap (Int.tdiv s1_.1 (IntKind.i64.wrap (Int.tdiv 64 y2.1)))) * 1)=some (fl (eI .u64) (Z9 s1_.2 (IntKind.i64.wrap (Int.tdiv s1_.1 (IntKind.i64.wrap (Int.tdiv 64 y2.1)))) (IntKind.u64.wrap (Ug .u64 x18 (IntKind.u64.wrap (x16 * 2 ^ min (Int.toNat (IntKind.i64.wrap ((Int.tmod s1_.1 (IntKind.i64.wrap (Int.tdiv 64 y2.1))) * y2.1))) 64)))))):=Za5 (f:=(eI .u64)) (ti:=⟨.bool,1,0,[],false⟩) (x:=(IntKind.u64.wrap (Ug .u64 x18 (IntKind.u64.wrap (x16 * 2 ^ min (Int.toNat (IntKind.i64.wrap ((Int.tmod s1_.1 (IntKind.i64.wrap (Int.tdiv 64 y2.1))) * y2.1))) 64))))) (fun _=>rfl) (Vx hx18)
   refine Zls Zd (by kernel_rfl) [false,false,false,false,false,false,false,false,false,false,false,false,false,false,false,true] [] (by kernel_rfl) ?_
   simp only [push_cast,Nat.reduceAdd,Nat.reduceSub,Nat.reduceMul,Nat.reduceLeDiff,Nat.reduceLT,Nat.reduceEqDiff,↓reduceIte,reduceCtorEq,Int.reduceBEq,Int.reduceBNe,Nat.reduceBEq,Int.reduceLE,Int.reduceLT,Int.reduceEq,Int.reduceNe,Int.reduceNeg,Nat.reduceDiv,Nat.reduceMod,Nat.reducePow,Za,pu17,ax18,bx18,cx18,pu19,pu20,gu22,hN0,hN]
   refine Zm [6,10,11,44,45,46] [true] ?_
   simp only [push_cast,seval,↓reduceIte]
   refine Zb Zd [] ?_
   simp only [push_cast,seval,↓reduceIte,Za,hN0,hN]
   have hs1_:=Option.some.inj hs1_;subst hs1_
   refine And.intro rfl (Fit2.of (Zp hU rfl rfl ?_) (by omega))
   simp only [push_cast,seval,↓reduceIte,Za,hN0,hN]
  replace hs1_:=Yc c23 hs1_
  refine Jf ?_
  try simp only [Zj,Zh,↓reduceIte,Nat.reduceEqDiff]
  have hs1_:=Option.some.inj hs1_;subst hs1_
  refine And.intro (fun h=>by cases h) (And.intro rfl (Fit2.of (Zp hU rfl rfl ?_) (by omega)))
  simp only [push_cast,seval,↓reduceIte,Za,hN0,hN]
 try simp only [Zj,Zh,↓reduceIte,Nat.reduceEqDiff]
 refine Zm [10] [true] ?_
 simp only [push_cast,seval,↓reduceIte]
 refine Zl [4,5] (Zb Zd [] ?_)
 simp only [push_cast,seval,↓reduceIte,Za,hN0,hN]
 refine Zy ?_
 try simp only [Zj,Zh]
 have h:=Option.some.inj h;subst h
 refine Zt (.inr rfl) hU [.row n z24.length,.val (.bool true)] (by omega) ?_
 simp only [push_cast,seval,↓reduceIte,Za,Try.results126,hN0,hN]
theorem Zpx {a0:Zc} {r:(List Int)} {O:Objs} {n:Nat} (h:G3 a0=some r):GTo Try.prog 94 [.agg (Zf a0)] O n (.sl r.length (fl (eI .u64) r)) O n:=by
 unfold G3 at h
 refine Yt Zd Try.call94 Try.func94 rfl (Nat.le_of_ble_eq_true rfl) (Nat.le_refl _) fun hU => ?_
 have hN0:O n=none:=hU.fresh _ (Nat.le_refl _)
 have hN:∀ k,O (n+k)=none:=fun k=>hU.fresh _ (Nat.le_add_right _ _)
 show W _ _ _ _ ⟨30,[],[(0,.agg (Zf a0))]⟩ (Zu O n []) _
 refine Zl [1] (Zb Zd [] ?_)
 simp only [push_cast,seval,↓reduceIte,Za,hN0,hN]
 refine Zl [1,3] (Zb Zd [] ?_)
 simp only [push_cast,seval,↓reduceIte,Za,hN0,hN]
 refine Zk ?_
 refine Zl [1,3,9,10,11] (Zb Zd [] ?_)
 simp only [push_cast,seval,↓reduceIte,Za,hN0,hN]
 refine Zm [1,3,9,10,11] [true] ?_
 simp only [push_cast,seval,↓reduceIte]
 refine Gn (E':=(⟨30,[],[(1,.ref n 0),(3,.row (n+1) ([]:List Int).length),(9,.sl a0.Kids.length (fl Zg a0.Kids)),(10,.val (.int .i64 (a0.Kids.length:Int))),(11,.val (.int .i64 0))]⟩:Env)) (O':=(Zu O n [some ⟨false,25,3,1,(Zf a0)⟩,some ⟨true,58,1,([]:List Int).length,fl (eI .u64) ([]:List Int)⟩,none])) (n':=(n+3)) ?_ ?_
 ·refine Fit2.trans (E':=(⟨30,[],[(1,.ref n 0),(3,.val (.slice none 0 0)),(9,.sl a0.Kids.length (fl Zg a0.Kids)),(10,.val (.int .i64 (a0.Kids.length:Int))),(11,.val (.int .i64 0))]⟩:Env)) (O':=(Zu O n [some ⟨false,25,3,1,(Zf a0)⟩])) (n':=(n+1)) (Fit2.of (Zp hU rfl rfl ?_) (by omega)) ?_
  ·simp only [push_cast,seval,↓reduceIte,Za,hN0,hN]
  refine Fit2.trans (Zlt 3 58 1 rfl (by omega)) ?_
  simp only [Jk,X8,Gy,Ui,List.set_cons_zero,List.set_cons_succ,List.cons_append,List.nil_append,List.length_cons,List.length_nil,Nat.zero_add,Nat.reduceAdd,Nat.reduceLT,Nat.add_assoc]
  refine Fit2.trans (E':=(⟨30,[],[(1,.ref n 0),(3,.row (n+1) ([]:List Int).length),(9,.sl a0.Kids.length (fl Zg a0.Kids)),(10,.val (.int .i64 (a0.Kids.length:Int))),(11,.val (.int .i64 0))]⟩:Env)) (O':=(Zu O n [some ⟨false,25,3,1,(Zf a0)⟩,some ⟨true,58,1,([]:List Int).length,fl (eI .u64) ([]:List Int)⟩])) (n':=(n+2)) (Fit2.of (Zp hU rfl rfl ?_) (by omega)) ?_
  ·simp only [push_cast,seval,↓reduceIte,Za,hN0,hN]
  refine Zl6 (k:=2) (k':=3) hU [0,1] [0,1,0] rfl rfl rfl rfl ⟨rfl,rfl⟩ ?_
  simp only [push_cast,seval,↓reduceIte,Za,hN0,hN]
 obtain ⟨z6,hz6,h⟩:=bC h
 refine X9 (E':=⟨30,[],[(1,.ref n 0),(3,.row (n+1) z6.length)]⟩) (O':=(Zu O n [some ⟨false,25,3,1,(Zf a0)⟩,some ⟨true,58,1,z6.length,fl (eI .u64) z6⟩,none])) (n0:=(n+3)) ?_ ?_
 ·refine Jc hz6 (fun s0_=>⟨30,[],[(1,.ref n 0),(3,.row (n+1) s0_.2.length),(9,.sl a0.Kids.length (fl Zg a0.Kids)),(10,.val (.int .i64 (a0.Kids.length:Int))),(11,.val (.int .i64 s0_.1))]⟩) (fun s0_=>(Zu O n [some ⟨false,25,3,1,(Zf a0)⟩,some ⟨true,58,1,s0_.2.length,fl (eI .u64) s0_.2⟩,none])) (fun z6=>JX 0 n (⟨30,[],[(1,.ref n 0),(3,.row (n+1) z6.length)]⟩:Env) (Zu O n [some ⟨false,25,3,1,(Zf a0)⟩,some ⟨true,58,1,z6.length,fl (eI .u64) z6⟩,none]) (n+3)) ?_
  intro s0_ x0_ hs0_
  unfold J0 at hs0_
  try dsimp only
  refine Zl [1,3,9,10,11,12] (Zb Zd [] ?_)
  simp only [push_cast,seval,↓reduceIte,Za,hN0,hN]
  refine Zk ?_
  refine Zq (t:=(decide (s0_.1 < (a0.Kids.length:Int)))) rfl (fun c5 => ?_) (fun c5 => ?_)
  ·replace hs0_:=Yd c5 hs0_
   refine Z0 ?_
   try simp only [Zj,Zh]
   refine Zm [1,3,9,10,11] [true,true,false] ?_
   simp only [push_cast,seval,↓reduceIte]
   refine Zk ?_
   refine Yk ?_
   refine Zk ?_
   obtain ⟨x2,hx2,ax2,bx2,cx2,hs0_⟩:=bE (f:=Zg) Vo (fun _=>rfl) (by decide) hs0_
   refine Zb Zd [] ?_
   simp only [push_cast,Nat.reduceAdd,Nat.reduceSub,Nat.reduceMul,Nat.reduceLeDiff,Nat.reduceLT,Nat.reduceEqDiff,↓reduceIte,reduceCtorEq,Int.reduceBEq,Int.reduceBNe,Nat.reduceBEq,Int.reduceLE,Int.reduceLT,Int.reduceEq,Int.reduceNe,Int.reduceNeg,Nat.reduceDiv,Nat.reduceMod,Nat.reducePow,Za,ax2,bx2,cx2,hN0,hN]
   refine Zm [1,3,5,9,10,11] [true,true,false,true] ?_
   simp only [push_cast,seval,↓reduceIte]
   obtain ⟨y3,hy3,hs0_⟩:=bC hs0_
   obtain ⟨l4,pl4,ql4,el4,hs0_⟩:=bA (k:=1) rfl hs0_
   refine Zb Zd [] ?_
   simp only [push_cast,seval,↓reduceIte,Za,pl4,ql4,el4,hN0,hN]
   refine (Zo0 hy3).then ?_
   simp only [push_cast,seval,↓reduceIte,Za,pl4,ql4,el4,hN0,hN]
   refine Zgb ⟨30,[],[(1,.ref n 0),(3,.row (n+1) l4.length),(9,.sl a0.Kids.length (fl Zg a0.Kids)),(10,.val (.int .i64 (a0.Kids.length:Int))),(11,.val (.int .i64 s0_.1))]⟩ (Zu O n [some ⟨false,25,3,1,(Zf a0)⟩,some ⟨true,58,1,l4.length,fl (eI .u64) l4⟩,none,none,none]) (Zp hU rfl rfl ?_) ?_
   ·simp only [push_cast,seval,↓reduceIte,Za,pl4,ql4,el4,hN0,hN]
   refine Zb Zd [] ?_
   simp only [push_cast,seval,↓reduceIte,Za,hN0,hN]
   have hs0_:=Option.some.inj hs0_;subst hs0_
   refine And.intro rfl (Fit2.of (Zp hU rfl rfl ?_) (by omega))
   simp only [push_cast,seval,↓reduceIte,Za,hN0,hN]
  replace hs0_:=Yc c5 hs0_
  refine Jf ?_
  try simp only [Zj,Zh,↓reduceIte,Nat.reduceEqDiff]
  have hs0_:=Option.some.inj hs0_;subst hs0_
  refine And.intro (fun h=>by cases h) (And.intro rfl (Fit2.of (Zp hU rfl rfl ?_) (by omega)))
  simp only [push_cast,seval,↓reduceIte,Za,hN0,hN]
 try simp only [Zj,Zh,↓reduceIte,Nat.reduceEqDiff]
 refine Zm [1,3] [true,true,false] ?_
 simp only [push_cast,seval,↓reduceIte]
 refine Zgb ⟨30,[],[(1,.ref n 0),(3,.sl z6.length (fl (eI .u64) z6))]⟩ (Zu O n [some ⟨false,25,3,1,(Zf a0)⟩,none,none]) (Zp hU rfl rfl ?_) ?_
 ·simp only [push_cast,seval,↓reduceIte,Za,hN0,hN]
 refine Zk ?_
 obtain ⟨y8,hy8,h⟩:=bC h
 refine Zb Zd [] ?_
 simp only [push_cast,seval,↓reduceIte,Za,hN0,hN]
 refine (Zqh hy8).then ?_
 simp only [push_cast,seval,↓reduceIte,Za,hN0,hN]
 refine Zm [6] [false,false,false] ?_
 simp only [push_cast,seval,↓reduceIte]
 refine Zl [2] (Zb Zd [] ?_)
 simp only [push_cast,seval,↓reduceIte,Za,hN0,hN]
 refine Zy ?_
 try simp only [Zj,Zh]
 have h:=Option.some.inj h;subst h
 refine Zt (.inr rfl) hU [.sl y8.1.length (fl (eI .u64) y8.1)] (by omega) ?_
 simp only [push_cast,seval,↓reduceIte,Za,Try.results94,hN0,hN]
theorem Zyn {a0:Zw} {r:Int} {O:Objs} {n:Nat} (h:Zg8 a0=some r):GTo Try.prog 104 [.agg (Z3 a0)] O n (.val (.int .u64 r)) O n:=by
 unfold Zg8 at h
 refine Yt Zd Try.call104 Try.func104 rfl (Nat.le_of_ble_eq_true rfl) (Nat.le_refl _) fun hU => ?_
 have hN0:O n=none:=hU.fresh _ (Nat.le_refl _)
 have hN:∀ k,O (n+k)=none:=fun k=>hU.fresh _ (Nat.le_add_right _ _)
 show W _ _ _ _ ⟨58,[],[(0,.agg (Z3 a0))]⟩ (Zu O n []) _
 refine Zl [1] (Zb Zd [] ?_)
 simp only [push_cast,seval,↓reduceIte,Za,hN0,hN]
 refine Zk ?_
 refine Zl [1,5] (Zb Zd [] ?_)
 simp only [push_cast,seval,↓reduceIte,Za,hN0,hN]
 refine Yk ?_
 refine Zl [1,5,6] (Zb Zd [] ?_)
 simp only [push_cast,seval,↓reduceIte,Za,hN0,hN]
 refine Zq (t:=(a0.Kind == 1)) rfl (fun c5 => ?_) (fun c5 => ?_)
 ·replace h:=Yd c5 h
  refine Zl [2] (Zb Zd [] ?_)
  simp only [push_cast,seval,↓reduceIte,Za,hN0,hN]
  refine Zy ?_
  try simp only [Zj,Zh]
  have h:=Option.some.inj h;subst h
  refine Zt (.inr rfl) hU [.val (.int .u64 (IntKind.u64.wrap (Ug .u64 (IntKind.u64.wrap (Ug .u64 (IntKind.u64.wrap (IntKind.u32.wrap ((IntKind.u32.wrap a0.Off) * 2 ^ min (Int.toNat 2) 32))) (IntKind.u64.wrap ((IntKind.u64.wrap a0.Data) * 2 ^ min (Int.toNat 32) 64)))) (IntKind.u64.wrap ((IntKind.u64.wrap a0.Ptrs) * 2 ^ min (Int.toNat 48) 64)))))] (by omega) ?_
  simp only [push_cast,seval,↓reduceIte,Za,Try.results104,hN0,hN]
 replace h:=Yc c5 h
 refine Zl [1,5,23] (Zb Zd [] ?_)
 simp only [push_cast,seval,↓reduceIte,Za,hN0,hN]
 refine Zq (t:=(a0.Kind == 2)) rfl (fun c4 => ?_) (fun c4 => ?_)
 ·replace h:=Yd c4 h
  refine Zl [2] (Zb Zd [] ?_)
  simp only [push_cast,seval,↓reduceIte,Za,hN0,hN]
  refine Zy ?_
  try simp only [Zj,Zh]
  have h:=Option.some.inj h;subst h
  refine Zt (.inr rfl) hU [.val (.int .u64 (IntKind.u64.wrap (Ug .u64 (IntKind.u64.wrap (Ug .u64 (IntKind.u64.wrap (Ug .u64 1 (IntKind.u64.wrap (IntKind.u32.wrap ((IntKind.u32.wrap a0.Off) * 2 ^ min (Int.toNat 2) 32))))) (IntKind.u64.wrap ((IntKind.u64.wrap a0.Code) * 2 ^ min (Int.toNat 32) 64)))) (IntKind.u64.wrap ((IntKind.u64.wrap a0.Count) * 2 ^ min (Int.toNat 35) 64)))))] (by omega) ?_
  simp only [push_cast,seval,↓reduceIte,Za,Try.results104,hN0,hN]
 replace h:=Yc c4 h
 refine Zl [1,41] (Zb Zd [] ?_)
 simp only [push_cast,seval,↓reduceIte,Za,hN0,hN]
 refine Zq (t:=(a0.Kind == 3)) rfl (fun c3 => ?_) (fun c3 => ?_)
 ·replace h:=Yd c3 h
  refine Zl [1,3] (Zb Zd [] ?_)
  simp only [push_cast,seval,↓reduceIte,Za,hN0,hN]
  obtain ⟨z1,hz1,h⟩:=bC h
  refine Q5 (E':=⟨58,[],[(3,.val (.int .u64 z1))]⟩) (O':=(Zu O n [none])) (n0:=(n+1)) ?_ ?_
  ·refine Zl [3,54] (Zb Zd [] ?_)
   simp only [push_cast,seval,↓reduceIte,Za,hN0,hN]
   refine Zq (t:=a0.Double) rfl (fun c2 => ?_) (fun c2 => ?_)
   ·replace hz1:=Yd c2 hz1
    refine Zb Zd [] ?_
    simp only [push_cast,seval,↓reduceIte,Za,hN0,hN]
    have hz1:=Option.some.inj hz1;subst hz1
    refine And.intro rfl (Fit2.of (Zp hU rfl rfl ?_) (by omega))
    simp only [push_cast,seval,↓reduceIte,Za,hN0,hN]
   replace hz1:=Yc c2 hz1
   refine Z0 ?_
   try simp only [Zj,Zh]
   have hz1:=Option.some.inj hz1;subst hz1
   refine And.intro rfl (Fit2.of (Zp hU rfl rfl ?_) (by omega))
   simp only [push_cast,seval,↓reduceIte,Za,hN0,hN]
  refine Zl [2] (Zb Zd [] ?_)
  simp only [push_cast,seval,↓reduceIte,Za,hN0,hN]
  refine Zy ?_
  try simp only [Zj,Zh]
  have h:=Option.some.inj h;subst h
  refine Zt (.inr rfl) hU [.val (.int .u64 z1)] (by omega) ?_
  simp only [push_cast,seval,↓reduceIte,Za,Try.results104,hN0,hN]
 replace h:=Yc c3 h
 refine Z0 ?_
 try simp only [Zj,Zh]
 refine Zm [] [false] ?_
 simp only [push_cast,seval,↓reduceIte]
 refine Zl [2] (Zb Zd [] ?_)
 simp only [push_cast,seval,↓reduceIte,Za,hN0,hN]
 refine Zy ?_
 try simp only [Zj,Zh]
 have h:=Option.some.inj h;subst h
 refine Zt (.inr rfl) hU [.val (.int .u64 0)] (by omega) ?_
 simp only [push_cast,seval,↓reduceIte,Za,Try.results104,hN0,hN]
theorem Zmh {a0:Int} {r:Int} {O:Objs} {n:Nat} (h:Zbs a0=some r):GTo Try.prog 128 [.val (.int .u64 a0)] O n (.val (.int .i64 r)) O n:=by
 unfold Zbs at h
 refine Yt Zd Try.call128 Try.func128 rfl (Nat.le_of_ble_eq_true rfl) (Nat.le_refl _) fun hU => ?_
 have hN0:O n=none:=hU.fresh _ (Nat.le_refl _)
 have hN:∀ k,O (n+k)=none:=fun k=>hU.fresh _ (Nat.le_add_right _ _)
 show W _ _ _ _ ⟨8,[],[(0,.val (.int .u64 a0))]⟩ (Zu O n []) _
 refine Zl [0] (Zb Zd [] ?_)
 simp only [push_cast,seval,↓reduceIte,Za,hN0,hN]
 refine Zl [2] (Zb Zd [] ?_)
 simp only [push_cast,seval,↓reduceIte,Za,hN0,hN]
 refine Zy ?_
 try simp only [Zj,Zh]
 have h:=Option.some.inj h;subst h
 refine Zt (.inr rfl) hU [.val (.int .i64 (IntKind.i64.wrap (Int.fdiv (IntKind.i32.wrap (IntKind.u32.wrap a0)) (2 ^ min (Int.toNat 2) 32))))] (by omega) ?_
 simp only [push_cast,seval,↓reduceIte,Za,Try.results128,hN0,hN]
theorem Gh {a0:Int} {a1:Int} {a2:Int} {r:Int} {O:Objs} {n:Nat} (h:Xe a0 a1 a2=some r):GTo Try.prog 129 [.val (.int .u64 a0),.val (.int .i64 a1),.val (.int .i64 a2)] O n (.val (.int .i64 r)) O n:=by
 unfold Xe at h
 refine Yt Zd Try.call129 Try.func129 rfl (Nat.le_of_ble_eq_true rfl) (Nat.le_refl _) fun hU => ?_
 have hN0:O n=none:=hU.fresh _ (Nat.le_refl _)
 have hN:∀ k,O (n+k)=none:=fun k=>hU.fresh _ (Nat.le_add_right _ _)
 show W _ _ _ _ ⟨15,[],[(0,.val (.int .u64 a0)),(1,.val (.int .i64 a1)),(2,.val (.int .i64 a2))]⟩ (Zu O n []) _
 refine Zl [0,1,2] (Zb Zd [] ?_)
 simp only [push_cast,seval,↓reduceIte,Za,hN0,hN]
 obtain ⟨pu3,h⟩:=bG h
 obtain ⟨pu4,h⟩:=bG h
 refine Zl [6] (Gz Zd (by kernel_rfl) [] (by kernel_rfl) ?_)
 simp only [push_cast,seval,↓reduceIte,Za,pu3,pu4,hN0,hN]
 refine Zy ?_
 try simp only [Zj,Zh]
 have h:=Option.some.inj h;subst h
 refine Zt (.inr rfl) hU [.val (.int .i64 (IntKind.i64.wrap (IntKind.u64.wrap (Zbz .u64 (Int.fdiv a0 (2 ^ min (Int.toNat a1) 64)) (IntKind.u64.wrap ((IntKind.u64.wrap (1 * 2 ^ min (Int.toNat a2) 64)) - 1))))))] (by omega) ?_
 simp only [push_cast,seval,↓reduceIte,Za,Try.results129,hN0,hN]
theorem Zty {a0:Int} {r:Zw} {O:Objs} {n:Nat} (h:Zbr a0=some r):GTo Try.prog 105 [.val (.int .u64 a0)] O n (.agg (Z3 r)) O n:=by
 unfold Zbr at h
 refine Yt Zd Try.call105 Try.func105 rfl (Nat.le_of_ble_eq_true rfl) (Nat.le_refl _) fun hU => ?_
 have hN0:O n=none:=hU.fresh _ (Nat.le_refl _)
 have hN:∀ k,O (n+k)=none:=fun k=>hU.fresh _ (Nat.le_add_right _ _)
 show W _ _ _ _ ⟨38,[],[(0,.val (.int .u64 a0))]⟩ (Zu O n []) _
 refine Zl [0,2] (Zb Zd [] ?_)
 simp only [push_cast,seval,↓reduceIte,Za,hN0,hN]
 refine Zk ?_
 refine Zl [0,2,4] (Zb Zd [] ?_)
 simp only [push_cast,seval,↓reduceIte,Za,hN0,hN]
 refine Zq (t:=(a0 == 0)) rfl (fun c20 => ?_) (fun c20 => ?_)
 ·replace h:=Yd c20 h
  refine Zk ?_
  refine Zb Zd [] ?_
  simp only [push_cast,seval,↓reduceIte,Za,hN0,hN]
  refine Zgb ⟨38,[],[(2,.ref n 0)]⟩ (Zu O n [some ⟨false,109,8,1,[.val (.int .i64 0),.val (.int .i64 0),.val (.int .i64 0),.val (.int .i64 0),.val (.int .i64 0),.val (.int .i64 0),.val (.int .i64 0),.val (.bool false)]⟩]) (Zp hU rfl rfl ?_) ?_
  ·simp only [push_cast,seval,↓reduceIte,Za,hN0,hN]
  refine Zy ?_
  try simp only [Zj,Zh]
  have h:=Option.some.inj h;subst h
  refine Zt (.inr rfl) hU [.agg [.val (.int .i64 0),.val (.int .i64 0),.val (.int .i64 0),.val (.int .i64 0),.val (.int .i64 0),.val (.int .i64 0),.val (.int .i64 0),.val (.bool false)]] (by omega) ?_
  simp only [push_cast,seval,↓reduceIte,Za,Try.results105,hN0,hN]
 replace h:=Yc c20 h
 refine Z0 ?_
 try simp only [Zj,Zh]
 refine Zgb ⟨38,[],[(0,.val (.int .u64 a0)),(2,.ref n 0)]⟩ (Zu O n [some ⟨false,109,8,1,[.val (.int .i64 0),.val (.int .i64 0),.val (.int .i64 0),.val (.int .i64 0),.val (.int .i64 0),.val (.int .i64 0),.val (.int .i64 0),.val (.bool false)]⟩]) (Zp hU rfl rfl ?_) ?_
 ·simp only [push_cast,seval,↓reduceIte,Za,hN0,hN]
 refine Zk ?_
 refine Zl [0,2,7] (Zb Zd [] ?_)
 simp only [push_cast,seval,↓reduceIte,Za,hN0,hN]
 refine Yk ?_
 refine Zl [0,2,7,8] (Zb Zd [] ?_)
 simp only [push_cast,seval,↓reduceIte,Za,hN0,hN]
 refine Zq (t:=((IntKind.u64.wrap (Zbz .u64 a0 3)) == 0)) rfl (fun c19 => ?_) (fun c19 => ?_)
 ·replace h:=Yd c19 h
  refine Zk ?_
  obtain ⟨y4,hy4,h⟩:=bC h
  obtain ⟨y5,hy5,h⟩:=bC h
  obtain ⟨y6,hy6,h⟩:=bC h
  refine Zb Zd [] ?_
  simp only [push_cast,seval,↓reduceIte,Za,hN0,hN]
  refine (Zmh hy4).then ?_
  simp only [push_cast,seval,↓reduceIte,Za,hN0,hN]
  refine (Gh hy5).then ?_
  simp only [push_cast,seval,↓reduceIte,Za,hN0,hN]
  refine (Gh hy6).then ?_
  simp only [push_cast,seval,↓reduceIte,Za,hN0,hN]
  refine Zgb ⟨38,[],[(2,.ref n 0)]⟩ (Zu O n [some ⟨false,109,8,1,[.val (.int .i64 1),.val (.int .i64 y4),.val (.int .i64 y5),.val (.int .i64 y6),.val (.int .i64 0),.val (.int .i64 0),.val (.int .i64 0),.val (.bool false)]⟩]) (Zp hU rfl rfl ?_) ?_
  ·simp only [push_cast,seval,↓reduceIte,Za,hN0,hN]
  refine Zy ?_
  try simp only [Zj,Zh]
  have h:=Option.some.inj h;subst h
  refine Zt (.inr rfl) hU [.agg [.val (.int .i64 1),.val (.int .i64 y4),.val (.int .i64 y5),.val (.int .i64 y6),.val (.int .i64 0),.val (.int .i64 0),.val (.int .i64 0),.val (.bool false)]] (by omega) ?_
  simp only [push_cast,seval,↓reduceIte,Za,Try.results105,hN0,hN]
 replace h:=Yc c19 h
 refine Zl [0,2,7,17] (Zb Zd [] ?_)
 simp only [push_cast,seval,↓reduceIte,Za,hN0,hN]
 refine Zq (t:=((IntKind.u64.wrap (Zbz .u64 a0 3)) == 1)) rfl (fun c18 => ?_) (fun c18 => ?_)
 ·replace h:=Yd c18 h
  refine Zk ?_
  obtain ⟨y10,hy10,h⟩:=bC h
  obtain ⟨y11,hy11,h⟩:=bC h
  obtain ⟨y12,hy12,h⟩:=bC h
  refine Zb Zd [] ?_
  simp only [push_cast,seval,↓reduceIte,Za,hN0,hN]
  refine (Zmh hy10).then ?_
  simp only [push_cast,seval,↓reduceIte,Za,hN0,hN]
  refine (Gh hy11).then ?_
  simp only [push_cast,seval,↓reduceIte,Za,hN0,hN]
  refine (Gh hy12).then ?_
  simp only [push_cast,seval,↓reduceIte,Za,hN0,hN]
  refine Zgb ⟨38,[],[(2,.ref n 0)]⟩ (Zu O n [some ⟨false,109,8,1,[.val (.int .i64 2),.val (.int .i64 y10),.val (.int .i64 0),.val (.int .i64 0),.val (.int .i64 y11),.val (.int .i64 y12),.val (.int .i64 0),.val (.bool false)]⟩]) (Zp hU rfl rfl ?_) ?_
  ·simp only [push_cast,seval,↓reduceIte,Za,hN0,hN]
  refine Zy ?_
  try simp only [Zj,Zh]
  have h:=Option.some.inj h;subst h
  refine Zt (.inr rfl) hU [.agg [.val (.int .i64 2),.val (.int .i64 y10),.val (.int .i64 0),.val (.int .i64 0),.val (.int .i64 y11),.val (.int .i64 y12),.val (.int .i64 0),.val (.bool false)]] (by omega) ?_
  simp only [push_cast,seval,↓reduceIte,Za,Try.results105,hN0,hN]
 replace h:=Yc c18 h
 refine Zl [0,2,26] (Zb Zd [] ?_)
 simp only [push_cast,seval,↓reduceIte,Za,hN0,hN]
 refine Zq (t:=((IntKind.u64.wrap (Zbz .u64 a0 3)) == 2)) rfl (fun c17 => ?_) (fun c17 => ?_)
 ·replace h:=Yd c17 h
  refine Zk ?_
  obtain ⟨y15,hy15,h⟩:=bC h
  obtain ⟨y16,hy16,h⟩:=bC h
  refine Zb Zd [] ?_
  simp only [push_cast,seval,↓reduceIte,Za,hN0,hN]
  refine (Gh hy15).then ?_
  simp only [push_cast,seval,↓reduceIte,Za,hN0,hN]
  refine (Gh hy16).then ?_
  simp only [push_cast,seval,↓reduceIte,Za,hN0,hN]
  refine Zgb ⟨38,[],[(2,.ref n 0)]⟩ (Zu O n [some ⟨false,109,8,1,[.val (.int .i64 3),.val (.int .i64 y15),.val (.int .i64 0),.val (.int .i64 0),.val (.int .i64 0),.val (.int .i64 0),.val (.int .i64 y16),.val (.bool ((IntKind.u64.wrap (Zbz .u64 (Int.fdiv a0 (2 ^ min (Int.toNat 2) 64)) 1)) == 1))]⟩]) (Zp hU rfl rfl ?_) ?_
  ·simp only [push_cast,seval,↓reduceIte,Za,hN0,hN]
  refine Zy ?_
  try simp only [Zj,Zh]
  have h:=Option.some.inj h;subst h
  refine Zt (.inr rfl) hU [.agg [.val (.int .i64 3),.val (.int .i64 y15),.val (.int .i64 0),.val (.int .i64 0),.val (.int .i64 0),.val (.int .i64 0),.val (.int .i64 y16),.val (.bool ((IntKind.u64.wrap (Zbz .u64 (Int.fdiv a0 (2 ^ min (Int.toNat 2) 64)) 1)) == 1))]] (by omega) ?_
  simp only [push_cast,seval,↓reduceIte,Za,Try.results105,hN0,hN]
 replace h:=Yc c17 h
 refine Z0 ?_
 try simp only [Zj,Zh]
 refine Zgb ⟨38,[],[(2,.ref n 0)]⟩ (Zu O n [some ⟨false,109,8,1,[.val (.int .i64 0),.val (.int .i64 0),.val (.int .i64 0),.val (.int .i64 0),.val (.int .i64 0),.val (.int .i64 0),.val (.int .i64 0),.val (.bool false)]⟩]) (Zp hU rfl rfl ?_) ?_
 ·simp only [push_cast,seval,↓reduceIte,Za,hN0,hN]
 refine Zk ?_
 refine Zb Zd [] ?_
 simp only [push_cast,seval,↓reduceIte,Za,hN0,hN]
 refine Zgb ⟨38,[],[(2,.ref n 0)]⟩ (Zu O n [some ⟨false,109,8,1,[.val (.int .i64 4),.val (.int .i64 0),.val (.int .i64 0),.val (.int .i64 0),.val (.int .i64 0),.val (.int .i64 0),.val (.int .i64 0),.val (.bool false)]⟩]) (Zp hU rfl rfl ?_) ?_
 ·simp only [push_cast,seval,↓reduceIte,Za,hN0,hN]
 refine Zy ?_
 try simp only [Zj,Zh]
 have h:=Option.some.inj h;subst h
 refine Zt (.inr rfl) hU [.agg [.val (.int .i64 4),.val (.int .i64 0),.val (.int .i64 0),.val (.int .i64 0),.val (.int .i64 0),.val (.int .i64 0),.val (.int .i64 0),.val (.bool false)]] (by omega) ?_
 simp only [push_cast,seval,↓reduceIte,Za,Try.results105,hN0,hN]
theorem Zgt {a0:Zw} {r:(Int×Bool)} {O:Objs} {n:Nat} (h:X6 a0=some r):GTo Try.prog 67 [.agg (Z3 a0)] O n (.tup [.val (.int .u64 r.1),.val (.bool r.2)]) O n:=by
 unfold X6 at h
 refine Yt Zd Try.call67 Try.func67 rfl (Nat.le_of_ble_eq_true rfl) (Nat.le_refl _) fun hU => ?_
 have hN0:O n=none:=hU.fresh _ (Nat.le_refl _)
 have hN:∀ k,O (n+k)=none:=fun k=>hU.fresh _ (Nat.le_add_right _ _)
 show W _ _ _ _ ⟨17,[],[(0,.agg (Z3 a0))]⟩ (Zu O n []) _
 refine Zl [1] (Zb Zd [] ?_)
 simp only [push_cast,seval,↓reduceIte,Za,hN0,hN]
 refine Zk ?_
 obtain ⟨y2,hy2,h⟩:=bC h
 refine Zb Zd [] ?_
 simp only [push_cast,seval,↓reduceIte,Za,hN0,hN]
 refine (Zyn hy2).then ?_
 simp only [push_cast,seval,↓reduceIte,Za,hN0,hN]
 refine Zm [1,4] [true] ?_
 simp only [push_cast,seval,↓reduceIte]
 obtain ⟨z4,hz4,h⟩:=bC h
 refine Q5 (E':=⟨17,[],[(2,.val (.int .u64 y2)),(3,.val (.bool z4))]⟩) (O':=(Zu O n [none])) (n0:=(n+1)) ?_ ?_
 ·rcases Bool.eq_false_or_eq_true (a0.Kind != 4) with c7 | c7
  ·replace hz4:=Yd c7 hz4
   obtain ⟨y6,hy6,hz4⟩:=bC hz4
   refine Gz Zd (by kernel_rfl) (Z5w []) (by kernel_rfl) ?_
   simp only [push_cast,seval,↓reduceIte,Za,c7,hN0,hN]
   refine PCall.of (Zty hy6) ?_
   simp only [push_cast,seval,↓reduceIte,Za,c7,hN0,hN]
   have hz4:=Option.some.inj hz4;subst hz4
   refine And.intro rfl (Fit2.of (Zp hU rfl rfl ?_) (by omega))
   simp only [push_cast,seval,↓reduceIte,Za,c7,hN0,hN]
  replace hz4:=Yc c7 hz4
  refine Gz Zd (by kernel_rfl) (Z5u []) (by kernel_rfl) ?_
  simp only [push_cast,seval,↓reduceIte,Za,c7,hN0,hN]
  have hz4:=Option.some.inj hz4;subst hz4
  refine And.intro rfl (Fit2.of (Zp hU rfl rfl ?_) (by omega))
  simp only [push_cast,seval,↓reduceIte,Za,c7,hN0,hN]
 refine Zy ?_
 try simp only [Zj,Zh]
 have h:=Option.some.inj h;subst h
 refine Zt (.inr rfl) hU [.val (.int .u64 y2),.val (.bool z4)] (by omega) ?_
 simp only [push_cast,seval,↓reduceIte,Za,Try.results67,hN0,hN]
theorem Uz {a0:Zw} {r:Int} {O:Objs} {n:Nat} (h:Vr a0=some r):GTo Try.prog 90 [.agg (Z3 a0)] O n (.val (.int .u64 r)) O n:=by
 unfold Vr at h
 refine Yt Zd Try.call90 Try.func90 rfl (Nat.le_of_ble_eq_true rfl) (Nat.le_refl _) fun hU => ?_
 have hN0:O n=none:=hU.fresh _ (Nat.le_refl _)
 have hN:∀ k,O (n+k)=none:=fun k=>hU.fresh _ (Nat.le_add_right _ _)
 show W _ _ _ _ ⟨11,[],[(0,.agg (Z3 a0))]⟩ (Zu O n []) _
 refine Zl [1] (Zb Zd [] ?_)
 simp only [push_cast,seval,↓reduceIte,Za,hN0,hN]
 refine Zk ?_
 obtain ⟨y2,hy2,h⟩:=bC h
 refine Zb Zd [] ?_
 simp only [push_cast,seval,↓reduceIte,Za,hN0,hN]
 refine (Zgt hy2).then ?_
 simp only [push_cast,seval,↓reduceIte,Za,hN0,hN]
 refine Zm [3] [false] ?_
 simp only [push_cast,seval,↓reduceIte]
 refine Zl [2] (Zb Zd [] ?_)
 simp only [push_cast,seval,↓reduceIte,Za,hN0,hN]
 refine Zy ?_
 try simp only [Zj,Zh]
 have h:=Option.some.inj h;subst h
 refine Zt (.inr rfl) hU [.val (.int .u64 y2.1)] (by omega) ?_
 simp only [push_cast,seval,↓reduceIte,Za,Try.results90,hN0,hN]
theorem Zvl {a0:Int} {r:Int} {O:Objs} {n:Nat} (h:Zgi a0=some r):GTo Try.prog 88 [.val (.int .i64 a0)] O n (.val (.int .i64 r)) O n:=by
 unfold Zgi at h
 refine Yt Zd Try.call88 Try.func88 rfl (Nat.le_of_ble_eq_true rfl) (Nat.le_refl _) fun hU => ?_
 have hN0:O n=none:=hU.fresh _ (Nat.le_refl _)
 have hN:∀ k,O (n+k)=none:=fun k=>hU.fresh _ (Nat.le_add_right _ _)
 show W _ _ _ _ ⟨8,[],[(0,.val (.int .i64 a0))]⟩ (Zu O n []) _
 refine Zl [0] (Zb Zd [] ?_)
 simp only [push_cast,seval,↓reduceIte,Za,hN0,hN]
 refine Zk ?_
 obtain ⟨y6,hy6,ey6,h⟩:=bY (f:=(eI .i64)) (cs:=[.val (.int .i64 0),.val (.int .i64 1),.val (.int .i64 8),.val (.int .i64 16),.val (.int .i64 32),.val (.int .i64 64),.val (.int .i64 64)]) rfl h
 have g7:=congrArg G.agg ey6
 obtain ⟨y8,hy8,ey8,h⟩:=bY (f:=(eI .i64)) (cs:=[.val (.int .i64 0),.val (.int .i64 0),.val (.int .i64 0),.val (.int .i64 0),.val (.int .i64 0),.val (.int .i64 0),.val (.int .i64 0)]) rfl h
 have g9:=congrArg (GObj.mk false 171 7 1) ey8
 have g10:=Zri (f:=(eI .i64)) y8 y6 (fun _=>rfl)
 refine Zb Zd [] ?_
 simp only [push_cast,seval,↓reduceIte,Za,g7,g9,g10,hN0,hN]
 refine Zm [0,3] [true] ?_
 simp only [push_cast,seval,↓reduceIte]
 obtain ⟨x12,hx12,ax12,bx12,cx12,h⟩:=bEA (f:=(eI .i64)) (b:=7) rfl Zt7 (fun _=>rfl) (by decide) h
 refine Zl [2] (Zb Zd [] ?_)
 simp only [push_cast,Nat.reduceAdd,Nat.reduceSub,Nat.reduceMul,Nat.reduceLeDiff,Nat.reduceLT,Nat.reduceEqDiff,↓reduceIte,reduceCtorEq,Int.reduceBEq,Int.reduceBNe,Nat.reduceBEq,Int.reduceLE,Int.reduceLT,Int.reduceEq,Int.reduceNe,Int.reduceNeg,Nat.reduceDiv,Nat.reduceMod,Nat.reducePow,Za,ax12,bx12,cx12,hN0,hN]
 refine Zy ?_
 try simp only [Zj,Zh]
 have h:=Option.some.inj h;subst h
 refine Zt (.inr rfl) hU [.val (.int .i64 x12)] (by omega) ?_
 simp only [push_cast,seval,↓reduceIte,Za,Try.results88,hN0,hN]
theorem Zg9 {a0:Zw} {r:(Int×Bool)} {O:Objs} {n:Nat} (h:Yz a0=some r):GTo Try.prog 50 [.agg (Z3 a0)] O n (.tup [.val (.int .i64 r.1),.val (.bool r.2)]) O n:=by
 unfold Yz at h
 refine Yt Zd Try.call50 Try.func50 rfl (Nat.le_of_ble_eq_true rfl) (Nat.le_refl _) fun hU => ?_
 have hN0:O n=none:=hU.fresh _ (Nat.le_refl _)
 have hN:∀ k,O (n+k)=none:=fun k=>hU.fresh _ (Nat.le_add_right _ _)
 show W _ _ _ _ ⟨57,[],[(0,.agg (Z3 a0))]⟩ (Zu O n []) _
 refine Zl [1] (Zb Zd [] ?_)
 simp only [push_cast,seval,↓reduceIte,Za,hN0,hN]
 refine Zk ?_
 refine Yk ?_
 refine Zl [1,4] (Zb Zd [] ?_)
 simp only [push_cast,seval,↓reduceIte,Za,hN0,hN]
 refine Zq (t:=(a0.Kind == 1)) rfl (fun c5 => ?_) (fun c5 => ?_)
 ·replace h:=Yd c5 h
  refine Zl [2,3] (Zb Zd [] ?_)
  simp only [push_cast,seval,↓reduceIte,Za,hN0,hN]
  refine Zy ?_
  try simp only [Zj,Zh]
  have h:=Option.some.inj h;subst h
  refine Zt (.inr rfl) hU [.val (.int .i64 (IntKind.i64.wrap (a0.Data+a0.Ptrs))),.val (.bool true)] (by omega) ?_
  simp only [push_cast,seval,↓reduceIte,Za,Try.results50,hN0,hN]
 replace h:=Yc c5 h
 refine Zl [1,13] (Zb Zd [none,none,none] ?_)
 simp only [push_cast,seval,↓reduceIte,Za,hN0,hN]
 repeat (with_reducible refine And.intro (by first | (intro h0;simp only [h0,and_self];done) | (intro h0;simp only [h0,Bool.not_false,Bool.not_true,Bool.true_and,Bool.and_true,true_and,and_true,and_self,imp_self,implies_true,bne_iff_ne,ne_eq,beq_iff_eq];done) | (intros;simp_all;done) | exact True.intro) ?_)
 refine Zq (t:=(cond (a0.Kind == 2) (a0.Code == 7) false)) rfl (fun c4 => ?_) (fun c4 => ?_)
 ·replace h:=Yd c4 h
  refine Zl [2,3] (Zb Zd [] ?_)
  simp only [push_cast,seval,↓reduceIte,Za,hN0,hN]
  refine Zy ?_
  try simp only [Zj,Zh]
  have h:=Option.some.inj h;subst h
  refine Zt (.inr rfl) hU [.val (.int .i64 (IntKind.i64.wrap (a0.Count+1))),.val (.bool true)] (by omega) ?_
  simp only [push_cast,seval,↓reduceIte,Za,Try.results50,hN0,hN]
 replace h:=Yc c4 h
 refine Zl [1,25] (Zb Zd [none,none,none,none,none,none,none,none,none,none,none,none] ?_)
 simp only [push_cast,seval,↓reduceIte,Za,hN0,hN]
 repeat (with_reducible refine And.intro (by first | (intro h0;simp only [h0,and_self];done) | (intro h0;simp only [h0,Bool.not_false,Bool.not_true,Bool.true_and,Bool.and_true,true_and,and_true,and_self,imp_self,implies_true,bne_iff_ne,ne_eq,beq_iff_eq];done) | (intros;simp_all;done) | exact True.intro) ?_)
 refine Zq (t:=(cond (cond (cond (cond (a0.Kind == 2) (decide (0≤a0.Code)) false) (decide (a0.Code < 7)) false) (decide (0≤a0.Count)) false) (decide (a0.Count≤536870911)) false)) rfl (fun c3 => ?_) (fun c3 => ?_)
 ·replace h:=Yd c3 h
  refine Zk ?_
  obtain ⟨y2,hy2,h⟩:=bC h
  refine Gz Zd (by kernel_rfl) [] (by kernel_rfl) ?_
  simp only [push_cast,seval,↓reduceIte,Za,hN0,hN]
  refine PCall.of (Zvl hy2) ?_
  simp only [push_cast,seval,↓reduceIte,Za,hN0,hN]
  refine Zm [2,3] [false] ?_
  simp only [push_cast,seval,↓reduceIte]
  refine Zy ?_
  try simp only [Zj,Zh]
  have h:=Option.some.inj h;subst h
  refine Zt (.inr rfl) hU [.val (.int .i64 (IntKind.i64.wrap (Int.tdiv (IntKind.i64.wrap ((IntKind.i64.wrap (a0.Count * y2))+63)) 64))),.val (.bool true)] (by omega) ?_
  simp only [push_cast,seval,↓reduceIte,Za,Try.results50,hN0,hN]
 replace h:=Yc c3 h
 refine Z0 ?_
 try simp only [Zj,Zh]
 refine Zm [] [false] ?_
 simp only [push_cast,seval,↓reduceIte]
 refine Zl [2,3] (Zb Zd [] ?_)
 simp only [push_cast,seval,↓reduceIte,Za,hN0,hN]
 refine Zy ?_
 try simp only [Zj,Zh]
 have h:=Option.some.inj h;subst h
 refine Zt (.inr rfl) hU [.val (.int .i64 0),.val (.bool false)] (by omega) ?_
 simp only [push_cast,seval,↓reduceIte,Za,Try.results50,hN0,hN]
theorem Zvm {a0:Int} {r:Bool} {O:Objs} {n:Nat} (h:Zgj a0=some r):GTo Try.prog 102 [.val (.int .i64 a0)] O n (.val (.bool r)) O n:=by
 unfold Zgj at h
 refine Yt Zd Try.call102 Try.func102 rfl (Nat.le_of_ble_eq_true rfl) (Nat.le_refl _) fun hU => ?_
 have hN0:O n=none:=hU.fresh _ (Nat.le_refl _)
 have hN:∀ k,O (n+k)=none:=fun k=>hU.fresh _ (Nat.le_add_right _ _)
 show W _ _ _ _ ⟨9,[],[(0,.val (.int .i64 a0))]⟩ (Zu O n []) _
 refine Zl [0] (Zb Zd [] ?_)
 simp only [push_cast,seval,↓reduceIte,Za,hN0,hN]
 refine Zl [2] (Zb Zd [none,none] ?_)
 simp only [push_cast,seval,↓reduceIte,Za,hN0,hN]
 repeat (with_reducible refine And.intro (by first | (intro h0;simp only [h0,and_self];done) | (intro h0;simp only [h0,Bool.not_false,Bool.not_true,Bool.true_and,Bool.and_true,true_and,and_true,and_self,imp_self,implies_true,bne_iff_ne,ne_eq,beq_iff_eq];done) | (intros;simp_all;done) | exact True.intro) ?_)
 refine Zy ?_
 try simp only [Zj,Zh]
 have h:=Option.some.inj h;subst h
 refine Zt (.inr rfl) hU [.val (.bool (cond (decide (2≤a0)) (decide (a0≤7)) false))] (by omega) ?_
 simp only [push_cast,seval,↓reduceIte,Za,Try.results102,hN0,hN]
theorem Zt0 {Js:(Zc→Option Int)} {X7:((List Zc)→Option Int)} (Zle:∀ {a0:Zc} {r:Int} {O:Objs} {n:Nat},Js a0=some r→GTo Try.prog 65 [.agg (Zf a0)] O n (.val (.int .i64 r)) O n) (G4:∀ {a0:(List Zc)} {r:Int} {O:Objs} {n:Nat},X7 a0=some r→GTo Try.prog 101 [.sl a0.length (fl Zg a0)] O n (.val (.int .i64 r)) O n) {a0:Zc} {r:Int} {O:Objs} {n:Nat} (h:Zc9 Js X7 a0=some r):GTo Try.prog 65 [.agg (Zf a0)] O n (.val (.int .i64 r)) O n:=by
 unfold Zc9 at h
 refine Yt Zd Try.call65 Try.func65 rfl (Nat.le_of_ble_eq_true rfl) (Nat.le_refl _) fun hU => ?_
 have hN0:O n=none:=hU.fresh _ (Nat.le_refl _)
 have hN:∀ k,O (n+k)=none:=fun k=>hU.fresh _ (Nat.le_add_right _ _)
 show W _ _ _ _ ⟨76,[],[(0,.agg (Zf a0))]⟩ (Zu O n []) _
 refine Zl [1] (Zb Zd [] ?_)
 simp only [push_cast,seval,↓reduceIte,Za,hN0,hN]
 refine Zk ?_
 refine Yk ?_
 refine Zl [1,8] (Zb Zd [] ?_)
 simp only [push_cast,seval,↓reduceIte,Za,hN0,hN]
 refine Zq (t:=(a0.Kind == 1)) rfl (fun c19 => ?_) (fun c19 => ?_)
 ·replace h:=Yd c19 h
  refine Zk ?_
  obtain ⟨y2,hy2,h⟩:=bC h
  refine Gz Zd (by kernel_rfl) [] (by kernel_rfl) ?_
  simp only [push_cast,seval,↓reduceIte,Za,hN0,hN]
  refine PCall.of (G4 hy2) ?_
  simp only [push_cast,seval,↓reduceIte,Za,hN0,hN]
  refine Zm [2] [false] ?_
  simp only [push_cast,seval,↓reduceIte]
  refine Zy ?_
  try simp only [Zj,Zh]
  have h:=Option.some.inj h;subst h
  refine Zt (.inr rfl) hU [.val (.int .i64 (IntKind.i64.wrap ((IntKind.i64.wrap ((a0.Words.length:Int)+(a0.Kids.length:Int)))+y2)))] (by omega) ?_
  simp only [push_cast,seval,↓reduceIte,Za,Try.results65,hN0,hN]
 replace h:=Yc c19 h
 refine Zk ?_
 obtain ⟨y4,hy4,h⟩:=bC h
 refine Zb Zd [] ?_
 simp only [push_cast,seval,↓reduceIte,Za,hN0,hN]
 refine (Zvm hy4).then ?_
 simp only [push_cast,seval,↓reduceIte,Za,hN0,hN]
 refine Zm [1,23] [true] ?_
 simp only [push_cast,seval,↓reduceIte]
 refine Zq (t:=y4) rfl (fun c18 => ?_) (fun c18 => ?_)
 ·replace h:=Yd c18 h
  refine Zk ?_
  obtain ⟨y6,hy6,h⟩:=bC h
  refine Zb Zd [] ?_
  simp only [push_cast,seval,↓reduceIte,Za,hN0,hN]
  refine (Zo3 hy6).then ?_
  simp only [push_cast,seval,↓reduceIte,Za,hN0,hN]
  refine Zm [2] [false] ?_
  simp only [push_cast,seval,↓reduceIte]
  refine Zy ?_
  try simp only [Zj,Zh]
  have h:=Option.some.inj h;subst h
  refine Zt (.inr rfl) hU [.val (.int .i64 y6)] (by omega) ?_
  simp only [push_cast,seval,↓reduceIte,Za,Try.results65,hN0,hN]
 replace h:=Yc c18 h
 refine Zl [1,34] (Zb Zd [] ?_)
 simp only [push_cast,seval,↓reduceIte,Za,hN0,hN]
 refine Zq (t:=(a0.Kind == 8)) rfl (fun c17 => ?_) (fun c17 => ?_)
 ·replace h:=Yd c17 h
  refine Zk ?_
  obtain ⟨y8,hy8,h⟩:=bC h
  refine Gz Zd (by kernel_rfl) [] (by kernel_rfl) ?_
  simp only [push_cast,seval,↓reduceIte,Za,hN0,hN]
  refine PCall.of (G4 hy8) ?_
  simp only [push_cast,seval,↓reduceIte,Za,hN0,hN]
  refine Zm [2] [false] ?_
  simp only [push_cast,seval,↓reduceIte]
  refine Zy ?_
  try simp only [Zj,Zh]
  have h:=Option.some.inj h;subst h
  refine Zt (.inr rfl) hU [.val (.int .i64 (IntKind.i64.wrap ((a0.Kids.length:Int)+y8)))] (by omega) ?_
  simp only [push_cast,seval,↓reduceIte,Za,Try.results65,hN0,hN]
 replace h:=Yc c17 h
 refine Zl [1,45] (Zb Zd [] ?_)
 simp only [push_cast,seval,↓reduceIte,Za,hN0,hN]
 refine Zq (t:=(a0.Kind == 9)) rfl (fun c16 => ?_) (fun c16 => ?_)
 ·replace h:=Yd c16 h
  refine Zk ?_
  obtain ⟨y10,hy10,h⟩:=bC h
  refine Zb Zd [] ?_
  simp only [push_cast,seval,↓reduceIte,Za,hN0,hN]
  refine (Gx hy10).then ?_
  simp only [push_cast,seval,↓reduceIte,Za,hN0,hN]
  refine Zm [1,3,4] [true] ?_
  simp only [push_cast,seval,↓reduceIte]
  refine Zl [1,5] (Zb Zd [] ?_)
  simp only [push_cast,seval,↓reduceIte,Za,hN0,hN]
  refine Zk ?_
  refine Zl [5,63,64,65] (Zb Zd [] ?_)
  simp only [push_cast,seval,↓reduceIte,Za,hN0,hN]
  refine Zm [5,63,64,65] [false] ?_
  simp only [push_cast,seval,↓reduceIte]
  obtain ⟨z15,hz15,h⟩:=bC h
  refine X9 (E':=⟨76,[],[(5,.val (.int .i64 z15))]⟩) (O':=(Zu O n [none])) (n0:=(n+1)) ?_ ?_
  ·refine Jc hz15 (fun s0_=>⟨76,[],[(5,.val (.int .i64 s0_.1)),(63,.sl a0.Kids.length (fl Zg a0.Kids)),(64,.val (.int .i64 (a0.Kids.length:Int))),(65,.val (.int .i64 s0_.2))]⟩) (fun s0_=>(Zu O n [none])) (fun z15=>JX 1 n (⟨76,[],[(5,.val (.int .i64 z15))]⟩:Env) (Zu O n [none]) (n+1)) ?_
   intro s0_ x0_ hs0_
   unfold Ve at hs0_
   try dsimp only
   refine Zl [5,63,64,65,66] (Zb Zd [] ?_)
   simp only [push_cast,seval,↓reduceIte,Za,hN0,hN]
   refine Zk ?_
   refine Zq (t:=(decide (s0_.2 < (a0.Kids.length:Int)))) rfl (fun c14 => ?_) (fun c14 => ?_)
   ·replace hs0_:=Yd c14 hs0_
    refine Z0 ?_
    try simp only [Zj,Zh]
    refine Zm [5,63,64,65] [false] ?_
    simp only [push_cast,seval,↓reduceIte]
    refine Zk ?_
    refine Yk ?_
    refine Zk ?_
    obtain ⟨x12,hx12,ax12,bx12,cx12,hs0_⟩:=bE (f:=Zg) Vo (fun _=>rfl) (by decide) hs0_
    refine Zb Zd [] ?_
    simp only [push_cast,Nat.reduceAdd,Nat.reduceSub,Nat.reduceMul,Nat.reduceLeDiff,Nat.reduceLT,Nat.reduceEqDiff,↓reduceIte,reduceCtorEq,Int.reduceBEq,Int.reduceBNe,Nat.reduceBEq,Int.reduceLE,Int.reduceLT,Int.reduceEq,Int.reduceNe,Int.reduceNeg,Nat.reduceDiv,Nat.reduceMod,Nat.reducePow,Za,ax12,bx12,cx12,hN0,hN]
    refine Zm [5,7,63,64,65] [false,true] ?_
    simp only [push_cast,seval,↓reduceIte]
    obtain ⟨y13,hy13,hs0_⟩:=bC hs0_
    refine Zb Zd [] ?_
    simp only [push_cast,seval,↓reduceIte,Za,hN0,hN]
    refine (G4 hy13).then ?_
    simp only [push_cast,seval,↓reduceIte,Za,hN0,hN]
    refine Zm [5,63,64,65] [false,false] ?_
    simp only [push_cast,seval,↓reduceIte]
    refine Zb Zd [] ?_
    simp only [push_cast,seval,↓reduceIte,Za,hN0,hN]
    have hs0_:=Option.some.inj hs0_;subst hs0_
    refine And.intro rfl (Fit2.of (Zp hU rfl rfl ?_) (by omega))
    simp only [push_cast,seval,↓reduceIte,Za,hN0,hN]
   replace hs0_:=Yc c14 hs0_
   refine Jf ?_
   try simp only [Zj,Zh,↓reduceIte,Nat.reduceEqDiff]
   have hs0_:=Option.some.inj hs0_;subst hs0_
   refine And.intro (fun h=>by cases h) (And.intro rfl (Fit2.of (Zp hU rfl rfl ?_) (by omega)))
   simp only [push_cast,seval,↓reduceIte,Za,hN0,hN]
  try simp only [Zj,Zh,↓reduceIte,Nat.reduceEqDiff]
  refine Zm [5] [false] ?_
  simp only [push_cast,seval,↓reduceIte]
  refine Zl [2] (Zb Zd [] ?_)
  simp only [push_cast,seval,↓reduceIte,Za,hN0,hN]
  refine Zy ?_
  try simp only [Zj,Zh]
  have h:=Option.some.inj h;subst h
  refine Zt (.inr rfl) hU [.val (.int .i64 z15)] (by omega) ?_
  simp only [push_cast,seval,↓reduceIte,Za,Try.results65,hN0,hN]
 replace h:=Yc c16 h
 refine Z0 ?_
 try simp only [Zj,Zh]
 refine Zm [] [false] ?_
 simp only [push_cast,seval,↓reduceIte]
 refine Zl [2] (Zb Zd [] ?_)
 simp only [push_cast,seval,↓reduceIte,Za,hN0,hN]
 refine Zy ?_
 try simp only [Zj,Zh]
 have h:=Option.some.inj h;subst h
 refine Zt (.inr rfl) hU [.val (.int .i64 0)] (by omega) ?_
 simp only [push_cast,seval,↓reduceIte,Za,Try.results65,hN0,hN]
theorem Zr0 {Js:(Zc→Option Int)} {X7:((List Zc)→Option Int)} (Zle:∀ {a0:Zc} {r:Int} {O:Objs} {n:Nat},Js a0=some r→GTo Try.prog 65 [.agg (Zf a0)] O n (.val (.int .i64 r)) O n) (G4:∀ {a0:(List Zc)} {r:Int} {O:Objs} {n:Nat},X7 a0=some r→GTo Try.prog 101 [.sl a0.length (fl Zg a0)] O n (.val (.int .i64 r)) O n) {a0:(List Zc)} {r:Int} {O:Objs} {n:Nat} (h:Zbh Js X7 a0=some r):GTo Try.prog 101 [.sl a0.length (fl Zg a0)] O n (.val (.int .i64 r)) O n:=by
 unfold Zbh at h
 refine Yt Zd Try.call101 Try.func101 rfl (Nat.le_of_ble_eq_true rfl) (Nat.le_refl _) fun hU => ?_
 have hN0:O n=none:=hU.fresh _ (Nat.le_refl _)
 have hN:∀ k,O (n+k)=none:=fun k=>hU.fresh _ (Nat.le_add_right _ _)
 show W _ _ _ _ ⟨18,[],[(0,.sl a0.length (fl Zg a0))]⟩ (Zu O n []) _
 refine Zl [0] (Zb Zd [] ?_)
 simp only [push_cast,seval,↓reduceIte,Za,hN0,hN]
 refine Zl [0,3] (Zb Zd [] ?_)
 simp only [push_cast,seval,↓reduceIte,Za,hN0,hN]
 refine Zk ?_
 refine Zl [3,6,7,8] (Zb Zd [] ?_)
 simp only [push_cast,seval,↓reduceIte,Za,hN0,hN]
 refine Zm [3,6,7,8] [] ?_
 simp only [push_cast,seval,↓reduceIte]
 obtain ⟨z5,hz5,h⟩:=bC h
 refine X9 (E':=⟨18,[],[(3,.val (.int .i64 z5))]⟩) (O':=(Zu O n [])) (n0:=n) ?_ ?_
 ·refine Jc hz5 (fun s0_=>⟨18,[],[(3,.val (.int .i64 s0_.1)),(6,.sl a0.length (fl Zg a0)),(7,.val (.int .i64 (a0.length:Int))),(8,.val (.int .i64 s0_.2))]⟩) (fun s0_=>(Zu O n [])) (fun z5=>JX 0 n (⟨18,[],[(3,.val (.int .i64 z5))]⟩:Env) (Zu O n []) n) ?_
  intro s0_ x0_ hs0_
  unfold Kg at hs0_
  try dsimp only
  refine Zl [3,6,7,8,9] (Zb Zd [] ?_)
  simp only [push_cast,seval,↓reduceIte,Za,hN0,hN]
  refine Zk ?_
  refine Zq (t:=(decide (s0_.2 < (a0.length:Int)))) rfl (fun c4 => ?_) (fun c4 => ?_)
  ·replace hs0_:=Yd c4 hs0_
   refine Z0 ?_
   try simp only [Zj,Zh]
   refine Zm [3,6,7,8] [] ?_
   simp only [push_cast,seval,↓reduceIte]
   refine Zk ?_
   refine Yk ?_
   refine Zk ?_
   obtain ⟨x2,hx2,ax2,bx2,cx2,hs0_⟩:=bE (f:=Zg) Vo (fun _=>rfl) (by decide) hs0_
   refine Zb Zd [] ?_
   simp only [push_cast,Nat.reduceAdd,Nat.reduceSub,Nat.reduceMul,Nat.reduceLeDiff,Nat.reduceLT,Nat.reduceEqDiff,↓reduceIte,reduceCtorEq,Int.reduceBEq,Int.reduceBNe,Nat.reduceBEq,Int.reduceLE,Int.reduceLT,Int.reduceEq,Int.reduceNe,Int.reduceNeg,Nat.reduceDiv,Nat.reduceMod,Nat.reducePow,Za,ax2,bx2,cx2,hN0,hN]
   refine Zm [3,5,6,7,8] [true] ?_
   simp only [push_cast,seval,↓reduceIte]
   obtain ⟨y3,hy3,hs0_⟩:=bC hs0_
   refine Zb Zd [] ?_
   simp only [push_cast,seval,↓reduceIte,Za,hN0,hN]
   refine (Zle hy3).then ?_
   simp only [push_cast,seval,↓reduceIte,Za,hN0,hN]
   refine Zm [3,6,7,8] [false] ?_
   simp only [push_cast,seval,↓reduceIte]
   refine Zb Zd [] ?_
   simp only [push_cast,seval,↓reduceIte,Za,hN0,hN]
   have hs0_:=Option.some.inj hs0_;subst hs0_
   refine And.intro rfl (Fit2.of (Zp hU rfl rfl ?_) (by omega))
   simp only [push_cast,seval,↓reduceIte,Za,hN0,hN]
  replace hs0_:=Yc c4 hs0_
  refine Jf ?_
  try simp only [Zj,Zh,↓reduceIte,Nat.reduceEqDiff]
  have hs0_:=Option.some.inj hs0_;subst hs0_
  refine And.intro (fun h=>by cases h) (And.intro rfl (Fit2.of (Zp hU rfl rfl ?_) (by omega)))
  simp only [push_cast,seval,↓reduceIte,Za,hN0,hN]
 try simp only [Zj,Zh,↓reduceIte,Nat.reduceEqDiff]
 refine Zm [3] [] ?_
 simp only [push_cast,seval,↓reduceIte]
 refine Zl [2] (Zb Zd [] ?_)
 simp only [push_cast,seval,↓reduceIte,Za,hN0,hN]
 refine Zy ?_
 try simp only [Zj,Zh]
 have h:=Option.some.inj h;subst h
 refine Zt (.inr rfl) hU [.val (.int .i64 z5)] (by omega) ?_
 simp only [push_cast,seval,↓reduceIte,Za,Try.results101,hN0,hN]
theorem Zqo:∀ k,(∀ {a0:Zc} {r:Int} {O:Objs} {n:Nat},(Ym k).1 a0=some r→GTo Try.prog 65 [.agg (Zf a0)] O n (.val (.int .i64 r)) O n)∧(∀ {a0:(List Zc)} {r:Int} {O:Objs} {n:Nat},(Ym k).2 a0=some r→GTo Try.prog 101 [.sl a0.length (fl Zg a0)] O n (.val (.int .i64 r)) O n):=fun k=>by
 induction k with
 | zero=>exact ⟨@fun a0 r O n h=>(nomatch (show (none:Option _)=some _ from h)),@fun a0 r O n h=>(nomatch (show (none:Option _)=some _ from h))⟩
 | succ k ih=>exact ⟨@fun a0 r O n h=>Zt0 (ih.1) (ih.2)  h,@fun a0 r O n h=>Zr0 (ih.1) (ih.2)  h⟩
theorem Zvp {a0:Zc} {r:Int} {O:Objs} {n:Nat} (h:Zla a0=some r):GTo Try.prog 65 [.agg (Zf a0)] O n (.val (.int .i64 r)) O n:=by
 obtain ⟨k,hk⟩:=Zk8 h
 exact (Zqo k).1  hk
theorem Zvo {a0:Zc} {r:Int} {O:Objs} {n:Nat} (h:Zdh a0=some r):GTo Try.prog 34 [.agg (Zf a0)] O n (.val (.int .i64 r)) O n:=by
 unfold Zdh at h
 refine Yt Zd Try.call34 Try.func34 rfl (Nat.le_of_ble_eq_true rfl) (Nat.le_refl _) fun hU => ?_
 have hN0:O n=none:=hU.fresh _ (Nat.le_refl _)
 have hN:∀ k,O (n+k)=none:=fun k=>hU.fresh _ (Nat.le_add_right _ _)
 show W _ _ _ _ ⟨6,[],[(0,.agg (Zf a0))]⟩ (Zu O n []) _
 refine Zl [1] (Zb Zd [] ?_)
 simp only [push_cast,seval,↓reduceIte,Za,hN0,hN]
 refine Zk ?_
 obtain ⟨y3,hy3,h⟩:=bC h
 obtain ⟨y4,hy4,h⟩:=bC h
 refine Zb Zd [] ?_
 simp only [push_cast,seval,↓reduceIte,Za,hN0,hN]
 refine (Zim hy3).then ?_
 simp only [push_cast,seval,↓reduceIte,Za,hN0,hN]
 refine (Zvp hy4).then ?_
 simp only [push_cast,seval,↓reduceIte,Za,hN0,hN]
 refine Zm [2] [false] ?_
 simp only [push_cast,seval,↓reduceIte]
 refine Zy ?_
 try simp only [Zj,Zh]
 have h:=Option.some.inj h;subst h
 refine Zt (.inr rfl) hU [.val (.int .i64 y4)] (by omega) ?_
 simp only [push_cast,seval,↓reduceIte,Za,Try.results34,hN0,hN]
theorem Zrw {a0:Zc} {r:Zw} {O:Objs} {n:Nat} (h:Q2 a0=some r):GTo Try.prog 66 [.agg (Zf a0)] O n (.agg (Z3 r)) O n:=by
 unfold Q2 at h
 refine Yt Zd Try.call66 Try.func66 rfl (Nat.le_of_ble_eq_true rfl) (Nat.le_refl _) fun hU => ?_
 have hN0:O n=none:=hU.fresh _ (Nat.le_refl _)
 have hN:∀ k,O (n+k)=none:=fun k=>hU.fresh _ (Nat.le_add_right _ _)
 show W _ _ _ _ ⟨38,[],[(0,.agg (Zf a0))]⟩ (Zu O n []) _
 refine Zl [1,2] (Zb Zd [] ?_)
 simp only [push_cast,seval,↓reduceIte,Za,hN0,hN]
 refine Zk ?_
 refine Zl [1,2,6] (Zb Zd [] ?_)
 simp only [push_cast,seval,↓reduceIte,Za,hN0,hN]
 refine Yk ?_
 refine Zl [1,2,6,7] (Zb Zd [] ?_)
 simp only [push_cast,seval,↓reduceIte,Za,hN0,hN]
 refine Zq (t:=(a0.Kind == 1)) rfl (fun c4 => ?_) (fun c4 => ?_)
 ·replace h:=Yd c4 h
  refine Zk ?_
  refine Zb Zd [] ?_
  simp only [push_cast,seval,↓reduceIte,Za,hN0,hN]
  refine Zm [2] [false,true] ?_
  simp only [push_cast,seval,↓reduceIte]
  refine Zy ?_
  try simp only [Zj,Zh]
  have h:=Option.some.inj h;subst h
  refine Zt (.inr rfl) hU [.agg [.val (.int .i64 1),.val (.int .i64 0),.val (.int .i64 (a0.Words.length:Int)),.val (.int .i64 (a0.Kids.length:Int)),.val (.int .i64 0),.val (.int .i64 0),.val (.int .i64 0),.val (.bool false)]] (by omega) ?_
  simp only [push_cast,seval,↓reduceIte,Za,Try.results66,hN0,hN]
 replace h:=Yc c4 h
 refine Zl [1,2,16] (Zb Zd [] ?_)
 simp only [push_cast,seval,↓reduceIte,Za,hN0,hN]
 refine Zq (t:=(a0.Kind == 9)) rfl (fun c3 => ?_) (fun c3 => ?_)
 ·replace h:=Yd c3 h
  refine Zk ?_
  obtain ⟨y2,hy2,h⟩:=bC h
  refine Zb Zd [] ?_
  simp only [push_cast,seval,↓reduceIte,Za,hN0,hN]
  refine (Gx hy2).then ?_
  simp only [push_cast,seval,↓reduceIte,Za,hN0,hN]
  refine Zm [1,2,3,4] [true,true] ?_
  simp only [push_cast,seval,↓reduceIte]
  refine Zk ?_
  refine Zb Zd [] ?_
  simp only [push_cast,seval,↓reduceIte,Za,hN0,hN]
  refine Zm [2] [false,true] ?_
  simp only [push_cast,seval,↓reduceIte]
  refine Zy ?_
  try simp only [Zj,Zh]
  have h:=Option.some.inj h;subst h
  refine Zt (.inr rfl) hU [.agg [.val (.int .i64 2),.val (.int .i64 0),.val (.int .i64 0),.val (.int .i64 0),.val (.int .i64 7),.val (.int .i64 (IntKind.i64.wrap ((a0.Kids.length:Int) * (IntKind.i64.wrap (y2.1+y2.2))))),.val (.int .i64 0),.val (.bool false)]] (by omega) ?_
  simp only [push_cast,seval,↓reduceIte,Za,Try.results66,hN0,hN]
 replace h:=Yc c3 h
 refine Z0 ?_
 try simp only [Zj,Zh]
 refine Zm [1,2] [true,true] ?_
 simp only [push_cast,seval,↓reduceIte]
 refine Zk ?_
 refine Zb Zd [] ?_
 simp only [push_cast,seval,↓reduceIte,Za,hN0,hN]
 refine Zm [2] [false,true] ?_
 simp only [push_cast,seval,↓reduceIte]
 refine Zy ?_
 try simp only [Zj,Zh]
 have h:=Option.some.inj h;subst h
 refine Zt (.inr rfl) hU [.agg [.val (.int .i64 2),.val (.int .i64 0),.val (.int .i64 0),.val (.int .i64 0),.val (.int .i64 (IntKind.i64.wrap (a0.Kind - 2))),.val (.int .i64 (a0.Kids.length:Int)),.val (.int .i64 0),.val (.bool false)]] (by omega) ?_
 simp only [push_cast,seval,↓reduceIte,Za,Try.results66,hN0,hN]
theorem Zpy {a0:Zc} {r:(List Int)} {O:Objs} {n:Nat} (h:V0 a0=some r):GTo Try.prog 108 [.agg (Zf a0)] O n (.sl r.length (fl (eI .u64) r)) O n:=by
 unfold V0 at h
 refine Yt Zd Try.call108 Try.func108 rfl (Nat.le_of_ble_eq_true rfl) (Nat.le_refl _) fun hU => ?_
 have hN0:O n=none:=hU.fresh _ (Nat.le_refl _)
 have hN:∀ k,O (n+k)=none:=fun k=>hU.fresh _ (Nat.le_add_right _ _)
 show W _ _ _ _ ⟨30,[],[(0,.agg (Zf a0))]⟩ (Zu O n []) _
 refine Zl [1] (Zb Zd [] ?_)
 simp only [push_cast,seval,↓reduceIte,Za,hN0,hN]
 refine Zl [1,3] (Zb Zd [] ?_)
 simp only [push_cast,seval,↓reduceIte,Za,hN0,hN]
 refine Zk ?_
 refine Zl [1,3,9,10,11] (Zb Zd [] ?_)
 simp only [push_cast,seval,↓reduceIte,Za,hN0,hN]
 refine Zm [1,3,9,10,11] [true] ?_
 simp only [push_cast,seval,↓reduceIte]
 refine Gn (E':=(⟨30,[],[(1,.ref n 0),(3,.row (n+1) ([]:List Int).length),(9,.sl a0.Kids.length (fl Zg a0.Kids)),(10,.val (.int .i64 (a0.Kids.length:Int))),(11,.val (.int .i64 0))]⟩:Env)) (O':=(Zu O n [some ⟨false,25,3,1,(Zf a0)⟩,some ⟨true,58,1,([]:List Int).length,fl (eI .u64) ([]:List Int)⟩,none])) (n':=(n+3)) ?_ ?_
 ·refine Fit2.trans (E':=(⟨30,[],[(1,.ref n 0),(3,.val (.slice none 0 0)),(9,.sl a0.Kids.length (fl Zg a0.Kids)),(10,.val (.int .i64 (a0.Kids.length:Int))),(11,.val (.int .i64 0))]⟩:Env)) (O':=(Zu O n [some ⟨false,25,3,1,(Zf a0)⟩])) (n':=(n+1)) (Fit2.of (Zp hU rfl rfl ?_) (by omega)) ?_
  ·simp only [push_cast,seval,↓reduceIte,Za,hN0,hN]
  refine Fit2.trans (Zlt 3 58 1 rfl (by omega)) ?_
  simp only [Jk,X8,Gy,Ui,List.set_cons_zero,List.set_cons_succ,List.cons_append,List.nil_append,List.length_cons,List.length_nil,Nat.zero_add,Nat.reduceAdd,Nat.reduceLT,Nat.add_assoc]
  refine Fit2.trans (E':=(⟨30,[],[(1,.ref n 0),(3,.row (n+1) ([]:List Int).length),(9,.sl a0.Kids.length (fl Zg a0.Kids)),(10,.val (.int .i64 (a0.Kids.length:Int))),(11,.val (.int .i64 0))]⟩:Env)) (O':=(Zu O n [some ⟨false,25,3,1,(Zf a0)⟩,some ⟨true,58,1,([]:List Int).length,fl (eI .u64) ([]:List Int)⟩])) (n':=(n+2)) (Fit2.of (Zp hU rfl rfl ?_) (by omega)) ?_
  ·simp only [push_cast,seval,↓reduceIte,Za,hN0,hN]
  refine Zl6 (k:=2) (k':=3) hU [0,1] [0,1,0] rfl rfl rfl rfl ⟨rfl,rfl⟩ ?_
  simp only [push_cast,seval,↓reduceIte,Za,hN0,hN]
 obtain ⟨z6,hz6,h⟩:=bC h
 refine X9 (E':=⟨30,[],[(1,.ref n 0),(3,.row (n+1) z6.length)]⟩) (O':=(Zu O n [some ⟨false,25,3,1,(Zf a0)⟩,some ⟨true,58,1,z6.length,fl (eI .u64) z6⟩,none])) (n0:=(n+3)) ?_ ?_
 ·refine Jc hz6 (fun s0_=>⟨30,[],[(1,.ref n 0),(3,.row (n+1) s0_.2.length),(9,.sl a0.Kids.length (fl Zg a0.Kids)),(10,.val (.int .i64 (a0.Kids.length:Int))),(11,.val (.int .i64 s0_.1))]⟩) (fun s0_=>(Zu O n [some ⟨false,25,3,1,(Zf a0)⟩,some ⟨true,58,1,s0_.2.length,fl (eI .u64) s0_.2⟩,none])) (fun z6=>JX 0 n (⟨30,[],[(1,.ref n 0),(3,.row (n+1) z6.length)]⟩:Env) (Zu O n [some ⟨false,25,3,1,(Zf a0)⟩,some ⟨true,58,1,z6.length,fl (eI .u64) z6⟩,none]) (n+3)) ?_
  intro s0_ x0_ hs0_
  unfold J3 at hs0_
  try dsimp only
  refine Zl [1,3,9,10,11,12] (Zb Zd [] ?_)
  simp only [push_cast,seval,↓reduceIte,Za,hN0,hN]
  refine Zk ?_
  refine Zq (t:=(decide (s0_.1 < (a0.Kids.length:Int)))) rfl (fun c5 => ?_) (fun c5 => ?_)
  ·replace hs0_:=Yd c5 hs0_
   refine Z0 ?_
   try simp only [Zj,Zh]
   refine Zm [1,3,9,10,11] [true,true,false] ?_
   simp only [push_cast,seval,↓reduceIte]
   refine Zk ?_
   refine Yk ?_
   refine Zk ?_
   obtain ⟨x2,hx2,ax2,bx2,cx2,hs0_⟩:=bE (f:=Zg) Vo (fun _=>rfl) (by decide) hs0_
   refine Zb Zd [] ?_
   simp only [push_cast,Nat.reduceAdd,Nat.reduceSub,Nat.reduceMul,Nat.reduceLeDiff,Nat.reduceLT,Nat.reduceEqDiff,↓reduceIte,reduceCtorEq,Int.reduceBEq,Int.reduceBNe,Nat.reduceBEq,Int.reduceLE,Int.reduceLT,Int.reduceEq,Int.reduceNe,Int.reduceNeg,Nat.reduceDiv,Nat.reduceMod,Nat.reducePow,Za,ax2,bx2,cx2,hN0,hN]
   refine Zm [1,3,5,9,10,11] [true,true,false,true] ?_
   simp only [push_cast,seval,↓reduceIte]
   obtain ⟨y3,hy3,hs0_⟩:=bC hs0_
   obtain ⟨l4,pl4,ql4,el4,hs0_⟩:=bA (k:=1) rfl hs0_
   refine Zb Zd [] ?_
   simp only [push_cast,seval,↓reduceIte,Za,pl4,ql4,el4,hN0,hN]
   refine (Zo0 hy3).then ?_
   simp only [push_cast,seval,↓reduceIte,Za,pl4,ql4,el4,hN0,hN]
   refine Zgb ⟨30,[],[(1,.ref n 0),(3,.row (n+1) l4.length),(9,.sl a0.Kids.length (fl Zg a0.Kids)),(10,.val (.int .i64 (a0.Kids.length:Int))),(11,.val (.int .i64 s0_.1))]⟩ (Zu O n [some ⟨false,25,3,1,(Zf a0)⟩,some ⟨true,58,1,l4.length,fl (eI .u64) l4⟩,none,none,none]) (Zp hU rfl rfl ?_) ?_
   ·simp only [push_cast,seval,↓reduceIte,Za,pl4,ql4,el4,hN0,hN]
   refine Zb Zd [] ?_
   simp only [push_cast,seval,↓reduceIte,Za,hN0,hN]
   have hs0_:=Option.some.inj hs0_;subst hs0_
   refine And.intro rfl (Fit2.of (Zp hU rfl rfl ?_) (by omega))
   simp only [push_cast,seval,↓reduceIte,Za,hN0,hN]
  replace hs0_:=Yc c5 hs0_
  refine Jf ?_
  try simp only [Zj,Zh,↓reduceIte,Nat.reduceEqDiff]
  have hs0_:=Option.some.inj hs0_;subst hs0_
  refine And.intro (fun h=>by cases h) (And.intro rfl (Fit2.of (Zp hU rfl rfl ?_) (by omega)))
  simp only [push_cast,seval,↓reduceIte,Za,hN0,hN]
 try simp only [Zj,Zh,↓reduceIte,Nat.reduceEqDiff]
 refine Zm [1,3] [true,true,false] ?_
 simp only [push_cast,seval,↓reduceIte]
 refine Zgb ⟨30,[],[(1,.ref n 0),(3,.sl z6.length (fl (eI .u64) z6))]⟩ (Zu O n [some ⟨false,25,3,1,(Zf a0)⟩,none,none]) (Zp hU rfl rfl ?_) ?_
 ·simp only [push_cast,seval,↓reduceIte,Za,hN0,hN]
 refine Zk ?_
 obtain ⟨y8,hy8,h⟩:=bC h
 refine Zb Zd [] ?_
 simp only [push_cast,seval,↓reduceIte,Za,hN0,hN]
 refine (Zqh hy8).then ?_
 simp only [push_cast,seval,↓reduceIte,Za,hN0,hN]
 refine Zm [6] [false,false,false] ?_
 simp only [push_cast,seval,↓reduceIte]
 refine Zl [2] (Zb Zd [] ?_)
 simp only [push_cast,seval,↓reduceIte,Za,hN0,hN]
 refine Zy ?_
 try simp only [Zj,Zh]
 have h:=Option.some.inj h;subst h
 refine Zt (.inr rfl) hU [.sl y8.1.length (fl (eI .u64) y8.1)] (by omega) ?_
 simp only [push_cast,seval,↓reduceIte,Za,Try.results108,hN0,hN]
theorem Zkt {Z5:(Ze→Int→Zc→Option Ze)} {Z4:(Ze→Int→Zc→Option Ze)} {Zv:(Ze→Int→(List Zc)→Option Ze)} {Z6:(Ze→Int→Zc→Option Ze)} (Jq:∀ {a0:Ze} {a1:Int} {a2:Zc} {r:Ze} {O:Objs} {n:Nat} {i0 j0_0:Nat},i0 < n→j0_0 < n→i0≠j0_0→O i0=some ⟨false,83,2,1,[.row j0_0 a0.words.length,.val (.int .i64 a0.next)]⟩→O j0_0=some ⟨true,58,1,a0.words.length,fl (eI .u64) a0.words⟩→Z5 a0 a1 a2=some r→GTo Try.prog 35 [.ref i0 0,.val (.int .i64 a1),.agg (Zf a2)] O n (.tup []) (Zu ((O.upd j0_0 none).upd i0 (some ⟨false,83,2,1,[.row n r.words.length,.val (.int .i64 r.next)]⟩)) n [some ⟨true,58,1,r.words.length,fl (eI .u64) r.words⟩]) (n+1)) (Q3:∀ {a0:Ze} {a1:Int} {a2:Zc} {r:Ze} {O:Objs} {n:Nat} {i0 j0_0:Nat},i0 < n→j0_0 < n→i0≠j0_0→O i0=some ⟨false,83,2,1,[.row j0_0 a0.words.length,.val (.int .i64 a0.next)]⟩→O j0_0=some ⟨true,58,1,a0.words.length,fl (eI .u64) a0.words⟩→Z4 a0 a1 a2=some r→GTo Try.prog 68 [.ref i0 0,.val (.int .i64 a1),.agg (Zf a2)] O n (.tup []) (Zu ((O.upd j0_0 none).upd i0 (some ⟨false,83,2,1,[.row n r.words.length,.val (.int .i64 r.next)]⟩)) n [some ⟨true,58,1,r.words.length,fl (eI .u64) r.words⟩]) (n+1)) (Y5:∀ {a0:Ze} {a1:Int} {a2:(List Zc)} {r:Ze} {O:Objs} {n:Nat} {i0 j0_0:Nat},i0 < n→j0_0 < n→i0≠j0_0→O i0=some ⟨false,83,2,1,[.row j0_0 a0.words.length,.val (.int .i64 a0.next)]⟩→O j0_0=some ⟨true,58,1,a0.words.length,fl (eI .u64) a0.words⟩→Zv a0 a1 a2=some r→GTo Try.prog 106 [.ref i0 0,.val (.int .i64 a1),.sl a2.length (fl Zg a2)] O n (.tup []) (Zu ((O.upd j0_0 none).upd i0 (some ⟨false,83,2,1,[.row n r.words.length,.val (.int .i64 r.next)]⟩)) n [some ⟨true,58,1,r.words.length,fl (eI .u64) r.words⟩]) (n+1)) (Q4:∀ {a0:Ze} {a1:Int} {a2:Zc} {r:Ze} {O:Objs} {n:Nat} {i0 j0_0:Nat},i0 < n→j0_0 < n→i0≠j0_0→O i0=some ⟨false,83,2,1,[.row j0_0 a0.words.length,.val (.int .i64 a0.next)]⟩→O j0_0=some ⟨true,58,1,a0.words.length,fl (eI .u64) a0.words⟩→Z6 a0 a1 a2=some r→GTo Try.prog 107 [.ref i0 0,.val (.int .i64 a1),.agg (Zf a2)] O n (.tup []) (Zu ((O.upd j0_0 none).upd i0 (some ⟨false,83,2,1,[.row n r.words.length,.val (.int .i64 r.next)]⟩)) n [some ⟨true,58,1,r.words.length,fl (eI .u64) r.words⟩]) (n+1)) {a0:Ze} {a1:Int} {a2:Zc} {r:Ze} {O:Objs} {n:Nat} {i0 j0_0:Nat} (hi0:i0 < n) (Vz:j0_0 < n) (Jh:i0≠j0_0) (ho0:O i0=some ⟨false,83,2,1,[.row j0_0 a0.words.length,.val (.int .i64 a0.next)]⟩) (Kw:O j0_0=some ⟨true,58,1,a0.words.length,fl (eI .u64) a0.words⟩) (h:Xd Z5 Z4 Zv Z6 a0 a1 a2=some r):GTo Try.prog 35 [.ref i0 0,.val (.int .i64 a1),.agg (Zf a2)] O n (.tup []) (Zu ((O.upd j0_0 none).upd i0 (some ⟨false,83,2,1,[.row n r.words.length,.val (.int .i64 r.next)]⟩)) n [some ⟨true,58,1,r.words.length,fl (eI .u64) r.words⟩]) (n+1):=by
 unfold Xd at h
 refine Yt Zd Try.call35 Try.func35 rfl (Nat.le_of_ble_eq_true rfl) (by omega) fun hU => ?_
 have e0:=Zph (ba:=n) (E:=⟨60,[],Zg1 0 [.ref i0 0,.val (.int .i64 a1),.agg [.val (.int .i64 a2.Kind),.sl a2.Words.length (fl (eI .u64) a2.Words),.sl a2.Kids.length (fl Zg a2.Kids)]]⟩) (O:=(Zu O n [])) (n:=n) (i:=i0) (j:=j0_0) (k:=0) (len:=a0.words.length) (q:=⟨false,83,2,1,[.row j0_0 a0.words.length,.val (.int .i64 a0.next)]⟩) (qj:=⟨true,58,1,a0.words.length,fl (eI .u64) a0.words⟩) (by rw [Yy _ hi0];first | exact ho0 | exact Zs _ _ _) rfl (by rw [Yy _ Vz];exact Kw) Jh (by omega)
 simp only [Jt _ _ Vz,Jt _ _ hi0,Jk,X8,Gb,Zv3 Jh,List.set_cons_zero,List.set_cons_succ,List.cons_append,List.nil_append,List.length_cons,List.length_nil,Nat.zero_add,Nat.reduceAdd,Nat.add_assoc] at e0
 refine Gn e0 ?_
 have hU:=(Und.drop hU j0_0)
 have hk0:∀ k,i0 < n+k:=fun k=>by omega
 have hN0:∀ o,Objs.upd (O.upd j0_0 none) i0 o n=none:=fun o=>Zbc hU hi0 _ (Nat.le_refl _)
 have hN:∀ o k,Objs.upd (O.upd j0_0 none) i0 o (n+k)=none:=fun o k=>Zbc hU hi0 _ (Nat.le_add_right _ _)
 show W _ _ _ _ ⟨60,[],[(0,.ref i0 0),(1,.val (.int .i64 a1)),(2,.agg (Zf a2))]⟩ (Zu ((O.upd j0_0 none).upd i0 (some ⟨false,83,2,1,[.row n a0.words.length,.val (.int .i64 a0.next)]⟩)) n [some ⟨true,58,1,a0.words.length,fl (eI .u64) a0.words⟩]) _
 refine Zl [0,1,5] (Zb Zd [] ?_)
 simp only [push_cast,seval,↓reduceIte,Za,hi0,hk0,hN0,hN]
 refine Zk ?_
 refine Zl [0,1,5,12] (Zb Zd [] ?_)
 simp only [push_cast,seval,↓reduceIte,Za,hi0,hk0,hN0,hN]
 refine Zq (t:=(a2.Kind == 0)) rfl (fun c14 => ?_) (fun c14 => ?_)
 ·replace h:=Yd c14 h
  refine Zy ?_
  try simp only [Zj,Zh]
  have h:=Option.some.inj h;subst h
  refine Zda (k:=1) (i:=i0) (q1:=⟨false,83,2,1,[.row n a0.words.length,.val (.int .i64 a0.next)]⟩) (L3:=[some ⟨true,58,1,a0.words.length,fl (eI .u64) a0.words⟩,none]) (E2:=(⟨60,[],[]⟩:Env)) (n3:=(n+2)) (.inr rfl) hU rfl [] ?_ ?_
  ·refine Fit2.trans (E':=(⟨60,[],[]⟩:Env)) (O':=(Zu ((O.upd j0_0 none).upd i0 (some ⟨false,83,2,1,[.row n a0.words.length,.val (.int .i64 a0.next)]⟩)) n [some ⟨true,58,1,a0.words.length,fl (eI .u64) a0.words⟩,none])) (n':=(n+2)) (Fit2.of (Qa hU rfl rfl ?_) (by omega)) ?_
   ·simp only [push_cast,seval,↓reduceIte,Za,hi0,hk0,hN0,hN]
   refine V6 (k:=2) (k':=2) hU [0,1] [0,0] rfl rfl rfl rfl ⟨rfl,rfl⟩ ?_
   simp only [push_cast,seval,↓reduceIte,Za,hi0,hk0,hN0,hN]
  simp only [push_cast,seval,↓reduceIte,Za,Try.results35,hi0,hk0,hN0,hN]
 replace h:=Yc c14 h
 refine Z0 ?_
 try simp only [Zj,Zh]
 refine Zm [0,1,5] [true,true] ?_
 simp only [push_cast,seval,↓reduceIte]
 refine Zk ?_
 obtain ⟨y2,hy2,h⟩:=bC h
 refine Zb Zd [] ?_
 simp only [push_cast,seval,↓reduceIte,Za,hi0,hk0,hN0,hN]
 refine (Zrw hy2).then ?_
 simp only [push_cast,seval,↓reduceIte,Za,hi0,hk0,hN0,hN]
 refine Zm [0,1,5,6] [true,true,true] ?_
 simp only [push_cast,seval,↓reduceIte]
 refine Zl [0,1,5,6,7] (Zb Zd [] ?_)
 simp only [push_cast,seval,↓reduceIte,Za,hi0,hk0,hN0,hN]
 refine Zk ?_
 obtain ⟨y4,hy4,h⟩:=bC h
 refine Zb Zd [] ?_
 simp only [push_cast,seval,↓reduceIte,Za,hi0,hk0,hN0,hN]
 refine (Zg9 hy4).then ?_
 simp only [push_cast,seval,↓reduceIte,Za,hi0,hk0,hN0,hN]
 refine Zm [0,1,5,6,7,8] [true,true,true] ?_
 simp only [push_cast,seval,↓reduceIte]
 refine Zk ?_
 refine Zb Zd [] ?_
 simp only [push_cast,seval,↓reduceIte,Za,hi0,hk0,hN0,hN]
 refine Zm [0,1,5,6,7,8] [true,true,true] ?_
 simp only [push_cast,seval,↓reduceIte]
 obtain ⟨z5,hz5,h⟩:=bC h
 refine Q5 (E':=⟨60,[],[(0,.ref i0 0),(1,.val (.int .i64 a1)),(5,.ref (n+1) 0),(6,.ref (n+2) 0),(7,.val (.int .i64 a0.next)),(8,.val (.int .i64 y4.1))]⟩) (O':=(Zu ((O.upd j0_0 none).upd i0 (some ⟨false,83,2,1,[.row n a0.words.length,.val (.int .i64 a0.next)]⟩)) n [some ⟨true,58,1,a0.words.length,fl (eI .u64) a0.words⟩,some ⟨false,25,3,1,(Zf a2)⟩,some ⟨false,109,8,1,[.val (.int .i64 y2.Kind),.val (.int .i64 z5),.val (.int .i64 y2.Data),.val (.int .i64 y2.Ptrs),.val (.int .i64 y2.Code),.val (.int .i64 y2.Count),.val (.int .i64 y2.Segment),.val (.bool y2.Double)]⟩])) (n0:=(n+3)) ?_ ?_
 ·refine Zl [0,1,5,6,7,8,35] (Zb Zd [none,none] ?_)
  simp only [push_cast,seval,↓reduceIte,Za,hi0,hk0,hN0,hN]
  repeat (with_reducible refine And.intro (by first | (intro h0;simp only [h0,and_self];done) | (intro h0;simp only [h0,Bool.not_false,Bool.not_true,Bool.true_and,Bool.and_true,true_and,and_true,and_self,imp_self,implies_true,bne_iff_ne,ne_eq,beq_iff_eq];done) | (intros;simp_all;done) | exact True.intro) ?_)
  refine Zq (t:=(cond (y2.Kind == 1) (y4.1 == 0) false)) rfl (fun c6 => ?_) (fun c6 => ?_)
  ·replace hz5:=Yd c6 hz5
   refine Zb Zd [] ?_
   simp only [push_cast,seval,↓reduceIte,Za,hi0,hk0,hN0,hN]
   have hz5:=Option.some.inj hz5;subst hz5
   refine And.intro rfl (Fit2.of (Qa hU rfl rfl ?_) (by omega))
   simp only [push_cast,seval,↓reduceIte,Za,hi0,hk0,hN0,hN]
  replace hz5:=Yc c6 hz5
  refine Z0 ?_
  try simp only [Zj,Zh]
  have hz5:=Option.some.inj hz5;subst hz5
  refine And.intro rfl (Fit2.of (Qa hU rfl rfl ?_) (by omega))
  simp only [push_cast,seval,↓reduceIte,Za,hi0,hk0,hN0,hN]
 refine Zk ?_
 obtain ⟨y10,hy10,h⟩:=bC h
 obtain ⟨x11,hx11,ax11,bx11,cx11,h⟩:=bE (f:=(eI .u64)) U8 (fun _=>rfl) (by decide) h
 have gu12:Q8 (fl (eI .u64) a0.words) [.val (.int .u64 y10.1)] (Int.toNat a1 * 1)=some (fl (eI .u64) (Z9 a0.words a1 y10.1)):=Za5 (f:=(eI .u64)) (ti:=⟨.bool,1,0,[],false⟩) (x:=y10.1) (fun _=>rfl) (Vx hx11)
 refine Zls Zd (by kernel_rfl) [false,false,false,false,false,false,false,false,false,false,false,true] [] (by kernel_rfl) ?_
 simp only [push_cast,Nat.reduceAdd,Nat.reduceSub,Nat.reduceMul,Nat.reduceLeDiff,Nat.reduceLT,Nat.reduceEqDiff,↓reduceIte,reduceCtorEq,Int.reduceBEq,Int.reduceBNe,Nat.reduceBEq,Int.reduceLE,Int.reduceLT,Int.reduceEq,Int.reduceNe,Int.reduceNeg,Nat.reduceDiv,Nat.reduceMod,Nat.reducePow,Za,ax11,bx11,cx11,gu12,hi0,hk0,hN0,hN]
 refine PCall.of (Zgt hy10) ?_
 simp only [push_cast,Nat.reduceAdd,Nat.reduceSub,Nat.reduceMul,Nat.reduceLeDiff,Nat.reduceLT,Nat.reduceEqDiff,↓reduceIte,reduceCtorEq,Int.reduceBEq,Int.reduceBNe,Nat.reduceBEq,Int.reduceLE,Int.reduceLT,Int.reduceEq,Int.reduceNe,Int.reduceNeg,Nat.reduceDiv,Nat.reduceMod,Nat.reducePow,Za,ax11,bx11,cx11,gu12,hi0,hk0,hN0,hN]
 refine Zm [0,5,7,8] [true,true,false] ?_
 simp only [push_cast,seval,↓reduceIte]
 refine Zk ?_
 refine Zb Zd [] ?_
 simp only [push_cast,seval,↓reduceIte,Za,hi0,hk0,hN0,hN]
 refine Zm [0,5,7] [true,true,false] ?_
 simp only [push_cast,seval,↓reduceIte]
 obtain ⟨y13,hy13,h⟩:=bC h
 refine Zb Zd [] ?_
 simp only [push_cast,seval,↓reduceIte,Za,hi0,hk0,hN0,hN]
 refine (Q3 (i0:=i0) (j0_0:=n) (by omega) (by omega) (by omega) (by simp only [push_cast,seval,↓reduceIte,Za,Ke,hi0,hk0,hN0,hN] <;> rfl) (by simp only [push_cast,seval,↓reduceIte,Za,Ke,hi0,hk0,hN0,hN] <;> rfl) hy13).then ?_
 simp only [push_cast,seval,↓reduceIte,Za,hi0,hk0,hN0,hN]
 have h:=Option.some.inj h;subst h
 refine Zda (k:=1) (i:=i0) (q1:=⟨false,83,2,1,[.row n y13.words.length,.val (.int .i64 y13.next)]⟩) (L3:=[some ⟨true,58,1,y13.words.length,fl (eI .u64) y13.words⟩,none]) (E2:=(⟨60,[],[]⟩:Env)) (n3:=(n+2)) (.inl rfl) hU rfl [] ?_ ?_
 ·refine Fit2.trans (E':=(⟨60,[],[]⟩:Env)) (O':=(Zu ((O.upd j0_0 none).upd i0 (some ⟨false,83,2,1,[.row (n+3) y13.words.length,.val (.int .i64 y13.next)]⟩)) n [none,none,none,some ⟨true,58,1,y13.words.length,fl (eI .u64) y13.words⟩])) (n':=(n+4)) (Fit2.of (Qa hU rfl rfl ?_) (by omega)) ?_
  ·simp only [push_cast,seval,↓reduceIte,Za,hi0,hk0,hN0,hN]
  refine V6 (k:=4) (k':=2) hU [1,1,1,0] [3,0] rfl rfl rfl rfl ⟨rfl,rfl⟩ ?_
  simp only [push_cast,seval,↓reduceIte,Za,hi0,hk0,hN0,hN]
 simp only [push_cast,seval,↓reduceIte,Za,Try.results35,hi0,hk0,hN0,hN]
theorem Zhb {Z5:(Ze→Int→Zc→Option Ze)} {Z4:(Ze→Int→Zc→Option Ze)} {Zv:(Ze→Int→(List Zc)→Option Ze)} {Z6:(Ze→Int→Zc→Option Ze)} (Jq:∀ {a0:Ze} {a1:Int} {a2:Zc} {r:Ze} {O:Objs} {n:Nat} {i0 j0_0:Nat},i0 < n→j0_0 < n→i0≠j0_0→O i0=some ⟨false,83,2,1,[.row j0_0 a0.words.length,.val (.int .i64 a0.next)]⟩→O j0_0=some ⟨true,58,1,a0.words.length,fl (eI .u64) a0.words⟩→Z5 a0 a1 a2=some r→GTo Try.prog 35 [.ref i0 0,.val (.int .i64 a1),.agg (Zf a2)] O n (.tup []) (Zu ((O.upd j0_0 none).upd i0 (some ⟨false,83,2,1,[.row n r.words.length,.val (.int .i64 r.next)]⟩)) n [some ⟨true,58,1,r.words.length,fl (eI .u64) r.words⟩]) (n+1)) (Q3:∀ {a0:Ze} {a1:Int} {a2:Zc} {r:Ze} {O:Objs} {n:Nat} {i0 j0_0:Nat},i0 < n→j0_0 < n→i0≠j0_0→O i0=some ⟨false,83,2,1,[.row j0_0 a0.words.length,.val (.int .i64 a0.next)]⟩→O j0_0=some ⟨true,58,1,a0.words.length,fl (eI .u64) a0.words⟩→Z4 a0 a1 a2=some r→GTo Try.prog 68 [.ref i0 0,.val (.int .i64 a1),.agg (Zf a2)] O n (.tup []) (Zu ((O.upd j0_0 none).upd i0 (some ⟨false,83,2,1,[.row n r.words.length,.val (.int .i64 r.next)]⟩)) n [some ⟨true,58,1,r.words.length,fl (eI .u64) r.words⟩]) (n+1)) (Y5:∀ {a0:Ze} {a1:Int} {a2:(List Zc)} {r:Ze} {O:Objs} {n:Nat} {i0 j0_0:Nat},i0 < n→j0_0 < n→i0≠j0_0→O i0=some ⟨false,83,2,1,[.row j0_0 a0.words.length,.val (.int .i64 a0.next)]⟩→O j0_0=some ⟨true,58,1,a0.words.length,fl (eI .u64) a0.words⟩→Zv a0 a1 a2=some r→GTo Try.prog 106 [.ref i0 0,.val (.int .i64 a1),.sl a2.length (fl Zg a2)] O n (.tup []) (Zu ((O.upd j0_0 none).upd i0 (some ⟨false,83,2,1,[.row n r.words.length,.val (.int .i64 r.next)]⟩)) n [some ⟨true,58,1,r.words.length,fl (eI .u64) r.words⟩]) (n+1)) (Q4:∀ {a0:Ze} {a1:Int} {a2:Zc} {r:Ze} {O:Objs} {n:Nat} {i0 j0_0:Nat},i0 < n→j0_0 < n→i0≠j0_0→O i0=some ⟨false,83,2,1,[.row j0_0 a0.words.length,.val (.int .i64 a0.next)]⟩→O j0_0=some ⟨true,58,1,a0.words.length,fl (eI .u64) a0.words⟩→Z6 a0 a1 a2=some r→GTo Try.prog 107 [.ref i0 0,.val (.int .i64 a1),.agg (Zf a2)] O n (.tup []) (Zu ((O.upd j0_0 none).upd i0 (some ⟨false,83,2,1,[.row n r.words.length,.val (.int .i64 r.next)]⟩)) n [some ⟨true,58,1,r.words.length,fl (eI .u64) r.words⟩]) (n+1)) {a0:Ze} {a1:Int} {a2:Zc} {r:Ze} {O:Objs} {n:Nat} {i0 j0_0:Nat} (hi0:i0 < n) (Vz:j0_0 < n) (Jh:i0≠j0_0) (ho0:O i0=some ⟨false,83,2,1,[.row j0_0 a0.words.length,.val (.int .i64 a0.next)]⟩) (Kw:O j0_0=some ⟨true,58,1,a0.words.length,fl (eI .u64) a0.words⟩) (h:Yx Z5 Z4 Zv Z6 a0 a1 a2=some r):GTo Try.prog 68 [.ref i0 0,.val (.int .i64 a1),.agg (Zf a2)] O n (.tup []) (Zu ((O.upd j0_0 none).upd i0 (some ⟨false,83,2,1,[.row n r.words.length,.val (.int .i64 r.next)]⟩)) n [some ⟨true,58,1,r.words.length,fl (eI .u64) r.words⟩]) (n+1):=by
 unfold Yx at h
 refine Yt Zd Try.call68 Try.func68 rfl (Nat.le_of_ble_eq_true rfl) (by omega) fun hU => ?_
 have e0:=Zph (ba:=n) (E:=⟨47,[],Zg1 0 [.ref i0 0,.val (.int .i64 a1),.agg [.val (.int .i64 a2.Kind),.sl a2.Words.length (fl (eI .u64) a2.Words),.sl a2.Kids.length (fl Zg a2.Kids)]]⟩) (O:=(Zu O n [])) (n:=n) (i:=i0) (j:=j0_0) (k:=0) (len:=a0.words.length) (q:=⟨false,83,2,1,[.row j0_0 a0.words.length,.val (.int .i64 a0.next)]⟩) (qj:=⟨true,58,1,a0.words.length,fl (eI .u64) a0.words⟩) (by rw [Yy _ hi0];first | exact ho0 | exact Zs _ _ _) rfl (by rw [Yy _ Vz];exact Kw) Jh (by omega)
 simp only [Jt _ _ Vz,Jt _ _ hi0,Jk,X8,Gb,Zv3 Jh,List.set_cons_zero,List.set_cons_succ,List.cons_append,List.nil_append,List.length_cons,List.length_nil,Nat.zero_add,Nat.reduceAdd,Nat.add_assoc] at e0
 refine Gn e0 ?_
 have hU:=(Und.drop hU j0_0)
 have hk0:∀ k,i0 < n+k:=fun k=>by omega
 have hN0:∀ o,Objs.upd (O.upd j0_0 none) i0 o n=none:=fun o=>Zbc hU hi0 _ (Nat.le_refl _)
 have hN:∀ o k,Objs.upd (O.upd j0_0 none) i0 o (n+k)=none:=fun o k=>Zbc hU hi0 _ (Nat.le_add_right _ _)
 show W _ _ _ _ ⟨47,[],[(0,.ref i0 0),(1,.val (.int .i64 a1)),(2,.agg (Zf a2))]⟩ (Zu ((O.upd j0_0 none).upd i0 (some ⟨false,83,2,1,[.row n a0.words.length,.val (.int .i64 a0.next)]⟩)) n [some ⟨true,58,1,a0.words.length,fl (eI .u64) a0.words⟩]) _
 refine Zl [0,1,5] (Zb Zd [] ?_)
 simp only [push_cast,seval,↓reduceIte,Za,hi0,hk0,hN0,hN]
 refine Zl [0,1,5,7] (Zb Zd [] ?_)
 simp only [push_cast,seval,↓reduceIte,Za,hi0,hk0,hN0,hN]
 refine Yk ?_
 refine Zl [0,1,5,7,17] (Zb Zd [] ?_)
 simp only [push_cast,seval,↓reduceIte,Za,hi0,hk0,hN0,hN]
 refine Zq (t:=(a2.Kind == 1)) rfl (fun c11 => ?_) (fun c11 => ?_)
 ·replace h:=Yd c11 h
  obtain ⟨pu1,h⟩:=bG h
  have su1:=fun j=>Zh5 (T:=Xf) (j:=j) Zbw U8 pu1
  have g2:=Zh3 (f:=(eI .u64)) a0.words a2.Words a1 (fun _=>rfl) pu1.2.1 pu1.2.2
  have mg2:=Nat.mul_one (List.length a2.Words)
  obtain ⟨y3,hy3,h⟩:=bC h
  refine Zc4 Zd (by kernel_rfl) [.plain,.plain,.plain,.plain,.plain,.plain,.plain,.plain,.plain,.plain,.pass,.plain,.low,.low,.bar] (fun i=>i < (n+2)∧¬ i=n) [0,1,2,3,4,5,6,7,8,9,12,13,10,11,14] [.plain,.plain,.plain,.plain,.plain,.plain,.plain,.plain,.plain,.plain,.low,.low,.pass,.plain,.bar] [] (by kernel_rfl) rfl ?_
  simp only [push_cast,seval,↓reduceIte,Za,pu1.1,pu1.2.1,pu1.2.2,su1,g2,mg2,hi0,hk0,hN0,hN]
  repeat (with_reducible refine And.intro (by first | omega | exact Zub rfl | exact Zq1 | exact Zuc rfl | exact Zq2 rfl rfl | exact Zmm rfl | exact Zp9 rfl) ?_)
  refine (Y5 (i0:=i0) (j0_0:=n) (by omega) (by omega) (by omega) (by simp only [push_cast,seval,↓reduceIte,Za,Ke,pu1.1,pu1.2.1,pu1.2.2,su1,g2,mg2,hi0,hk0,hN0,hN] <;> rfl) (by simp only [push_cast,seval,↓reduceIte,Za,Ke,pu1.1,pu1.2.1,pu1.2.2,su1,g2,mg2,hi0,hk0,hN0,hN] <;> rfl) hy3).then ?_
  simp only [push_cast,seval,↓reduceIte,Za,pu1.1,pu1.2.1,pu1.2.2,su1,g2,mg2,hi0,hk0,hN0,hN]
  repeat (with_reducible refine And.intro (by first | omega | exact Zub rfl | exact Zq1 | exact Zuc rfl | exact Zq2 rfl rfl | exact Zmm rfl | exact Zp9 rfl) ?_)
  have h:=Option.some.inj h;subst h
  refine Zda (k:=1) (i:=i0) (q1:=⟨false,83,2,1,[.row n y3.words.length,.val (.int .i64 y3.next)]⟩) (L3:=[some ⟨true,58,1,y3.words.length,fl (eI .u64) y3.words⟩,none]) (E2:=(⟨47,[],[]⟩:Env)) (n3:=(n+2)) (.inl rfl) hU rfl [] ?_ ?_
  ·refine Fit2.trans (E':=(⟨47,[],[]⟩:Env)) (O':=(Zu ((O.upd j0_0 none).upd i0 (some ⟨false,83,2,1,[.row (n+2) y3.words.length,.val (.int .i64 y3.next)]⟩)) n [none,none,some ⟨true,58,1,y3.words.length,fl (eI .u64) y3.words⟩])) (n':=(n+3)) (Fit2.of (Qa hU rfl rfl ?_) (by omega)) ?_
   ·simp only [push_cast,seval,↓reduceIte,Za,pu1.1,pu1.2.1,pu1.2.2,su1,g2,mg2,hi0,hk0,hN0,hN]
   refine V6 (k:=3) (k':=2) hU [1,1,0] [2,0] rfl rfl rfl rfl ⟨rfl,rfl⟩ ?_
   simp only [push_cast,seval,↓reduceIte,Za,hi0,hk0,hN0,hN]
  simp only [push_cast,seval,↓reduceIte,Za,Try.results68,hi0,hk0,hN0,hN]
 replace h:=Yc c11 h
 refine Zl [0,1,5,7,34] (Zb Zd [] ?_)
 simp only [push_cast,seval,↓reduceIte,Za,hi0,hk0,hN0,hN]
 refine Zq (t:=(a2.Kind == 8)) rfl (fun c10 => ?_) (fun c10 => ?_)
 ·replace h:=Yd c10 h
  obtain ⟨y4,hy4,h⟩:=bC h
  refine Zb Zd [] ?_
  simp only [push_cast,seval,↓reduceIte,Za,hi0,hk0,hN0,hN]
  refine (Y5 (i0:=i0) (j0_0:=n) (by omega) (by omega) (by omega) (by simp only [push_cast,seval,↓reduceIte,Za,Ke,hi0,hk0,hN0,hN] <;> rfl) (by simp only [push_cast,seval,↓reduceIte,Za,Ke,hi0,hk0,hN0,hN] <;> rfl) hy4).then ?_
  simp only [push_cast,seval,↓reduceIte,Za,hi0,hk0,hN0,hN]
  have h:=Option.some.inj h;subst h
  refine Zda (k:=1) (i:=i0) (q1:=⟨false,83,2,1,[.row n y4.words.length,.val (.int .i64 y4.next)]⟩) (L3:=[some ⟨true,58,1,y4.words.length,fl (eI .u64) y4.words⟩,none]) (E2:=(⟨47,[],[]⟩:Env)) (n3:=(n+2)) (.inl rfl) hU rfl [] ?_ ?_
  ·refine Fit2.trans (E':=(⟨47,[],[]⟩:Env)) (O':=(Zu ((O.upd j0_0 none).upd i0 (some ⟨false,83,2,1,[.row (n+2) y4.words.length,.val (.int .i64 y4.next)]⟩)) n [none,none,some ⟨true,58,1,y4.words.length,fl (eI .u64) y4.words⟩])) (n':=(n+3)) (Fit2.of (Qa hU rfl rfl ?_) (by omega)) ?_
   ·simp only [push_cast,seval,↓reduceIte,Za,hi0,hk0,hN0,hN]
   refine V6 (k:=3) (k':=2) hU [1,1,0] [2,0] rfl rfl rfl rfl ⟨rfl,rfl⟩ ?_
   simp only [push_cast,seval,↓reduceIte,Za,hi0,hk0,hN0,hN]
  simp only [push_cast,seval,↓reduceIte,Za,Try.results68,hi0,hk0,hN0,hN]
 replace h:=Yc c10 h
 refine Zl [0,1,5,41] (Zb Zd [] ?_)
 simp only [push_cast,seval,↓reduceIte,Za,hi0,hk0,hN0,hN]
 refine Zq (t:=(a2.Kind == 9)) rfl (fun c9 => ?_) (fun c9 => ?_)
 ·replace h:=Yd c9 h
  obtain ⟨y5,hy5,h⟩:=bC h
  refine Zb Zd [] ?_
  simp only [push_cast,seval,↓reduceIte,Za,hi0,hk0,hN0,hN]
  refine (Q4 (i0:=i0) (j0_0:=n) (by omega) (by omega) (by omega) (by simp only [push_cast,seval,↓reduceIte,Za,Ke,hi0,hk0,hN0,hN] <;> rfl) (by simp only [push_cast,seval,↓reduceIte,Za,Ke,hi0,hk0,hN0,hN] <;> rfl) hy5).then ?_
  simp only [push_cast,seval,↓reduceIte,Za,hi0,hk0,hN0,hN]
  have h:=Option.some.inj h;subst h
  refine Zda (k:=1) (i:=i0) (q1:=⟨false,83,2,1,[.row n y5.words.length,.val (.int .i64 y5.next)]⟩) (L3:=[some ⟨true,58,1,y5.words.length,fl (eI .u64) y5.words⟩,none]) (E2:=(⟨47,[],[]⟩:Env)) (n3:=(n+2)) (.inl rfl) hU rfl [] ?_ ?_
  ·refine Fit2.trans (E':=(⟨47,[],[]⟩:Env)) (O':=(Zu ((O.upd j0_0 none).upd i0 (some ⟨false,83,2,1,[.row (n+2) y5.words.length,.val (.int .i64 y5.next)]⟩)) n [none,none,some ⟨true,58,1,y5.words.length,fl (eI .u64) y5.words⟩])) (n':=(n+3)) (Fit2.of (Qa hU rfl rfl ?_) (by omega)) ?_
   ·simp only [push_cast,seval,↓reduceIte,Za,hi0,hk0,hN0,hN]
   refine V6 (k:=3) (k':=2) hU [1,1,0] [2,0] rfl rfl rfl rfl ⟨rfl,rfl⟩ ?_
   simp only [push_cast,seval,↓reduceIte,Za,hi0,hk0,hN0,hN]
  simp only [push_cast,seval,↓reduceIte,Za,Try.results68,hi0,hk0,hN0,hN]
 replace h:=Yc c9 h
 obtain ⟨pu6,h⟩:=bG h
 have su6:=fun j=>Zh5 (T:=Xf) (j:=j) Zbw U8 pu6
 obtain ⟨y7,hy7,h⟩:=bC h
 have g8:=Zh3 (f:=(eI .u64)) a0.words y7 a1 (fun _=>rfl) pu6.2.1 pu6.2.2
 have mg8:=Nat.mul_one (List.length y7)
 refine Zls Zd (by kernel_rfl) [false,false,false,false,false,false,false,false,true] [] (by kernel_rfl) ?_
 simp only [push_cast,seval,↓reduceIte,Za,pu6.1,pu6.2.1,pu6.2.2,su6,g8,mg8,hi0,hk0,hN0,hN]
 refine PCall.of (Zpy hy7) ?_
 simp only [push_cast,seval,↓reduceIte,Za,pu6.1,pu6.2.1,pu6.2.2,su6,g8,mg8,hi0,hk0,hN0,hN]
 have h:=Option.some.inj h;subst h
 refine Zda (k:=1) (i:=i0) (q1:=⟨false,83,2,1,[.row n (Zeg a0.words a1 y7).length,.val (.int .i64 a0.next)]⟩) (L3:=[some ⟨true,58,1,(Zeg a0.words a1 y7).length,fl (eI .u64) (Zeg a0.words a1 y7)⟩,none]) (E2:=(⟨47,[],[]⟩:Env)) (n3:=(n+2)) (.inl rfl) hU rfl [] ?_ ?_
 ·refine Fit2.trans (E':=(⟨47,[],[]⟩:Env)) (O':=(Zu ((O.upd j0_0 none).upd i0 (some ⟨false,83,2,1,[.row n (Zeg a0.words a1 y7).length,.val (.int .i64 a0.next)]⟩)) n [some ⟨true,58,1,(Zeg a0.words a1 y7).length,fl (eI .u64) (Zeg a0.words a1 y7)⟩,none])) (n':=(n+2)) (Fit2.of (Qa hU rfl rfl ?_) (by omega)) ?_
  ·simp only [push_cast,seval,↓reduceIte,Za,pu6.1,pu6.2.1,pu6.2.2,su6,g8,mg8,hi0,hk0,hN0,hN]
  refine V6 (k:=2) (k':=2) hU [0,1] [0,0] rfl rfl rfl rfl ⟨rfl,rfl⟩ ?_
  simp only [push_cast,seval,↓reduceIte,Za,hi0,hk0,hN0,hN]
 simp only [push_cast,seval,↓reduceIte,Za,Try.results68,hi0,hk0,hN0,hN]
theorem Zgw {Z5:(Ze→Int→Zc→Option Ze)} {Z4:(Ze→Int→Zc→Option Ze)} {Zv:(Ze→Int→(List Zc)→Option Ze)} {Z6:(Ze→Int→Zc→Option Ze)} (Jq:∀ {a0:Ze} {a1:Int} {a2:Zc} {r:Ze} {O:Objs} {n:Nat} {i0 j0_0:Nat},i0 < n→j0_0 < n→i0≠j0_0→O i0=some ⟨false,83,2,1,[.row j0_0 a0.words.length,.val (.int .i64 a0.next)]⟩→O j0_0=some ⟨true,58,1,a0.words.length,fl (eI .u64) a0.words⟩→Z5 a0 a1 a2=some r→GTo Try.prog 35 [.ref i0 0,.val (.int .i64 a1),.agg (Zf a2)] O n (.tup []) (Zu ((O.upd j0_0 none).upd i0 (some ⟨false,83,2,1,[.row n r.words.length,.val (.int .i64 r.next)]⟩)) n [some ⟨true,58,1,r.words.length,fl (eI .u64) r.words⟩]) (n+1)) (Q3:∀ {a0:Ze} {a1:Int} {a2:Zc} {r:Ze} {O:Objs} {n:Nat} {i0 j0_0:Nat},i0 < n→j0_0 < n→i0≠j0_0→O i0=some ⟨false,83,2,1,[.row j0_0 a0.words.length,.val (.int .i64 a0.next)]⟩→O j0_0=some ⟨true,58,1,a0.words.length,fl (eI .u64) a0.words⟩→Z4 a0 a1 a2=some r→GTo Try.prog 68 [.ref i0 0,.val (.int .i64 a1),.agg (Zf a2)] O n (.tup []) (Zu ((O.upd j0_0 none).upd i0 (some ⟨false,83,2,1,[.row n r.words.length,.val (.int .i64 r.next)]⟩)) n [some ⟨true,58,1,r.words.length,fl (eI .u64) r.words⟩]) (n+1)) (Y5:∀ {a0:Ze} {a1:Int} {a2:(List Zc)} {r:Ze} {O:Objs} {n:Nat} {i0 j0_0:Nat},i0 < n→j0_0 < n→i0≠j0_0→O i0=some ⟨false,83,2,1,[.row j0_0 a0.words.length,.val (.int .i64 a0.next)]⟩→O j0_0=some ⟨true,58,1,a0.words.length,fl (eI .u64) a0.words⟩→Zv a0 a1 a2=some r→GTo Try.prog 106 [.ref i0 0,.val (.int .i64 a1),.sl a2.length (fl Zg a2)] O n (.tup []) (Zu ((O.upd j0_0 none).upd i0 (some ⟨false,83,2,1,[.row n r.words.length,.val (.int .i64 r.next)]⟩)) n [some ⟨true,58,1,r.words.length,fl (eI .u64) r.words⟩]) (n+1)) (Q4:∀ {a0:Ze} {a1:Int} {a2:Zc} {r:Ze} {O:Objs} {n:Nat} {i0 j0_0:Nat},i0 < n→j0_0 < n→i0≠j0_0→O i0=some ⟨false,83,2,1,[.row j0_0 a0.words.length,.val (.int .i64 a0.next)]⟩→O j0_0=some ⟨true,58,1,a0.words.length,fl (eI .u64) a0.words⟩→Z6 a0 a1 a2=some r→GTo Try.prog 107 [.ref i0 0,.val (.int .i64 a1),.agg (Zf a2)] O n (.tup []) (Zu ((O.upd j0_0 none).upd i0 (some ⟨false,83,2,1,[.row n r.words.length,.val (.int .i64 r.next)]⟩)) n [some ⟨true,58,1,r.words.length,fl (eI .u64) r.words⟩]) (n+1)) {a0:Ze} {a1:Int} {a2:(List Zc)} {r:Ze} {O:Objs} {n:Nat} {i0 j0_0:Nat} (hi0:i0 < n) (Vz:j0_0 < n) (Jh:i0≠j0_0) (ho0:O i0=some ⟨false,83,2,1,[.row j0_0 a0.words.length,.val (.int .i64 a0.next)]⟩) (Kw:O j0_0=some ⟨true,58,1,a0.words.length,fl (eI .u64) a0.words⟩) (h:Qf Z5 Z4 Zv Z6 a0 a1 a2=some r):GTo Try.prog 106 [.ref i0 0,.val (.int .i64 a1),.sl a2.length (fl Zg a2)] O n (.tup []) (Zu ((O.upd j0_0 none).upd i0 (some ⟨false,83,2,1,[.row n r.words.length,.val (.int .i64 r.next)]⟩)) n [some ⟨true,58,1,r.words.length,fl (eI .u64) r.words⟩]) (n+1):=by
 unfold Qf at h
 refine Yt Zd Try.call106 Try.func106 rfl (Nat.le_of_ble_eq_true rfl) (by omega) fun hU => ?_
 have e0:=Zph (ba:=n) (E:=⟨22,[],Zg1 0 [.ref i0 0,.val (.int .i64 a1),.sl a2.length (fl Zg a2)]⟩) (O:=(Zu O n [])) (n:=n) (i:=i0) (j:=j0_0) (k:=0) (len:=a0.words.length) (q:=⟨false,83,2,1,[.row j0_0 a0.words.length,.val (.int .i64 a0.next)]⟩) (qj:=⟨true,58,1,a0.words.length,fl (eI .u64) a0.words⟩) (by rw [Yy _ hi0];first | exact ho0 | exact Zs _ _ _) rfl (by rw [Yy _ Vz];exact Kw) Jh (by omega)
 simp only [Jt _ _ Vz,Jt _ _ hi0,Jk,X8,Gb,Zv3 Jh,List.set_cons_zero,List.set_cons_succ,List.cons_append,List.nil_append,List.length_cons,List.length_nil,Nat.zero_add,Nat.reduceAdd,Nat.add_assoc] at e0
 refine Gn e0 ?_
 have hU:=(Und.drop hU j0_0)
 have hk0:∀ k,i0 < n+k:=fun k=>by omega
 have hN0:∀ o,Objs.upd (O.upd j0_0 none) i0 o n=none:=fun o=>Zbc hU hi0 _ (Nat.le_refl _)
 have hN:∀ o k,Objs.upd (O.upd j0_0 none) i0 o (n+k)=none:=fun o k=>Zbc hU hi0 _ (Nat.le_add_right _ _)
 show W _ _ _ _ ⟨22,[],[(0,.ref i0 0),(1,.val (.int .i64 a1)),(2,.sl a2.length (fl Zg a2))]⟩ (Zu ((O.upd j0_0 none).upd i0 (some ⟨false,83,2,1,[.row n a0.words.length,.val (.int .i64 a0.next)]⟩)) n [some ⟨true,58,1,a0.words.length,fl (eI .u64) a0.words⟩]) _
 refine Zl [0,1,8,9,10] (Zb Zd [] ?_)
 simp only [push_cast,seval,↓reduceIte,Za,hi0,hk0,hN0,hN]
 refine Zm [0,1,8,9,10] [true] ?_
 simp only [push_cast,seval,↓reduceIte]
 refine Gn (E':=(⟨22,[],[(0,.ref i0 0),(1,.val (.int .i64 a1)),(8,.sl a2.length (fl Zg a2)),(9,.val (.int .i64 (a2.length:Int))),(10,.val (.int .i64 0))]⟩:Env)) (O':=(Zu ((O.upd j0_0 none).upd i0 (some ⟨false,83,2,1,[.row (n+1) a0.words.length,.val (.int .i64 a0.next)]⟩)) n [none,some ⟨true,58,1,a0.words.length,fl (eI .u64) a0.words⟩])) (n':=(n+2)) ?_ ?_
 ·refine Fit2.trans (E':=(⟨22,[],[(0,.ref i0 0),(1,.val (.int .i64 a1)),(8,.sl a2.length (fl Zg a2)),(9,.val (.int .i64 (a2.length:Int))),(10,.val (.int .i64 0))]⟩:Env)) (O':=(Zu ((O.upd j0_0 none).upd i0 (some ⟨false,83,2,1,[.row n a0.words.length,.val (.int .i64 a0.next)]⟩)) n [some ⟨true,58,1,a0.words.length,fl (eI .u64) a0.words⟩])) (n':=(n+1)) (Fit2.of (Qa hU rfl rfl ?_) (by omega)) ?_
  ·simp only [push_cast,seval,↓reduceIte,Za,hi0,hk0,hN0,hN]
  refine V6 (k:=1) (k':=2) hU [1] [0,0] rfl rfl rfl rfl ⟨rfl,rfl⟩ ?_
  simp only [push_cast,seval,↓reduceIte,Za,hi0,hk0,hN0,hN]
 obtain ⟨z5,hz5,h⟩:=bC h
 refine X9 (E':=⟨22,[],[]⟩) (O':=(Zu ((O.upd j0_0 none).upd i0 (some ⟨false,83,2,1,[.row (n+1) z5.1.length,.val (.int .i64 z5.2)]⟩)) n [none,some ⟨true,58,1,z5.1.length,fl (eI .u64) z5.1⟩])) (n0:=(n+2)) ?_ ?_
 ·refine Jc hz5 (fun s0_=>⟨22,[],[(0,.ref i0 0),(1,.val (.int .i64 a1)),(8,.sl a2.length (fl Zg a2)),(9,.val (.int .i64 (a2.length:Int))),(10,.val (.int .i64 s0_.1))]⟩) (fun s0_=>(Zu ((O.upd j0_0 none).upd i0 (some ⟨false,83,2,1,[.row (n+1) s0_.2.1.length,.val (.int .i64 s0_.2.2)]⟩)) n [none,some ⟨true,58,1,s0_.2.1.length,fl (eI .u64) s0_.2.1⟩])) (fun z5=>JX 0 n (⟨22,[],[]⟩:Env) (Zu ((O.upd j0_0 none).upd i0 (some ⟨false,83,2,1,[.row (n+1) z5.1.length,.val (.int .i64 z5.2)]⟩)) n [none,some ⟨true,58,1,z5.1.length,fl (eI .u64) z5.1⟩]) (n+2)) ?_
  intro s0_ x0_ hs0_
  unfold Xu at hs0_
  try dsimp only
  refine Zl [0,1,8,9,10,11] (Zb Zd [] ?_)
  simp only [push_cast,seval,↓reduceIte,Za,hi0,hk0,hN0,hN]
  refine Zk ?_
  refine Zq (t:=(decide (s0_.1 < (a2.length:Int)))) rfl (fun c4 => ?_) (fun c4 => ?_)
  ·replace hs0_:=Yd c4 hs0_
   refine Z0 ?_
   try simp only [Zj,Zh]
   refine Zm [0,1,8,9,10] [false,true] ?_
   simp only [push_cast,seval,↓reduceIte]
   refine Zk ?_
   refine Yk ?_
   refine Zk ?_
   obtain ⟨x2,hx2,ax2,bx2,cx2,hs0_⟩:=bE (f:=Zg) Vo (fun _=>rfl) (by decide) hs0_
   refine Zb Zd [] ?_
   simp only [push_cast,Nat.reduceAdd,Nat.reduceSub,Nat.reduceMul,Nat.reduceLeDiff,Nat.reduceLT,Nat.reduceEqDiff,↓reduceIte,reduceCtorEq,Int.reduceBEq,Int.reduceBNe,Nat.reduceBEq,Int.reduceLE,Int.reduceLT,Int.reduceEq,Int.reduceNe,Int.reduceNeg,Nat.reduceDiv,Nat.reduceMod,Nat.reducePow,Za,ax2,bx2,cx2,hi0,hk0,hN0,hN]
   refine Zm [0,1,6,7,8,9,10] [false,true,true] ?_
   simp only [push_cast,seval,↓reduceIte]
   obtain ⟨y3,hy3,hs0_⟩:=bC hs0_
   refine Zb Zd [] ?_
   simp only [push_cast,seval,↓reduceIte,Za,hi0,hk0,hN0,hN]
   refine (Jq (i0:=i0) (j0_0:=(n+1)) (by omega) (by omega) (by omega) (by simp only [push_cast,seval,↓reduceIte,Za,Ke,hi0,hk0,hN0,hN] <;> rfl) (by simp only [push_cast,seval,↓reduceIte,Za,Ke,hi0,hk0,hN0,hN] <;> rfl) hy3).then ?_
   simp only [push_cast,seval,↓reduceIte,Za,hi0,hk0,hN0,hN]
   refine Zm [0,1,8,9,10] [false,false,false,true] ?_
   simp only [push_cast,seval,↓reduceIte]
   refine Zb Zd [] ?_
   simp only [push_cast,seval,↓reduceIte,Za,hi0,hk0,hN0,hN]
   have hs0_:=Option.some.inj hs0_;subst hs0_
   refine And.intro rfl ?_
   refine Fit2.trans (E':=(⟨22,[],[(0,.ref i0 0),(1,.val (.int .i64 a1)),(8,.sl a2.length (fl Zg a2)),(9,.val (.int .i64 (a2.length:Int))),(10,.val (.int .i64 (IntKind.i64.wrap (s0_.1+1))))]⟩:Env)) (O':=(Zu ((O.upd j0_0 none).upd i0 (some ⟨false,83,2,1,[.row (n+3) y3.words.length,.val (.int .i64 y3.next)]⟩)) n [none,none,none,some ⟨true,58,1,y3.words.length,fl (eI .u64) y3.words⟩])) (n':=(n+4)) (Fit2.of (Qa hU rfl rfl ?_) (by omega)) ?_
   ·simp only [push_cast,seval,↓reduceIte,Za,hi0,hk0,hN0,hN]
   refine V6 (k:=4) (k':=2) hU [0,0,0,1] [0,3] rfl rfl rfl rfl ⟨rfl,rfl⟩ ?_
   simp only [push_cast,seval,↓reduceIte,Za,hi0,hk0,hN0,hN]
  replace hs0_:=Yc c4 hs0_
  refine Jf ?_
  try simp only [Zj,Zh,↓reduceIte,Nat.reduceEqDiff]
  have hs0_:=Option.some.inj hs0_;subst hs0_
  refine And.intro (fun h=>by cases h) (And.intro rfl (Fit2.of (Qa hU rfl rfl ?_) (by omega)))
  simp only [push_cast,seval,↓reduceIte,Za,hi0,hk0,hN0,hN]
 try simp only [Zj,Zh,↓reduceIte,Nat.reduceEqDiff]
 have h:=Option.some.inj h;subst h
 refine Zda (k:=1) (i:=i0) (q1:=⟨false,83,2,1,[.row n z5.1.length,.val (.int .i64 z5.2)]⟩) (L3:=[some ⟨true,58,1,z5.1.length,fl (eI .u64) z5.1⟩,none]) (E2:=(⟨22,[],[]⟩:Env)) (n3:=(n+2)) (.inl rfl) hU rfl [] ?_ ?_
 ·refine Fit2.trans (E':=(⟨22,[],[]⟩:Env)) (O':=(Zu ((O.upd j0_0 none).upd i0 (some ⟨false,83,2,1,[.row (n+1) z5.1.length,.val (.int .i64 z5.2)]⟩)) n [none,some ⟨true,58,1,z5.1.length,fl (eI .u64) z5.1⟩])) (n':=(n+2)) (Fit2.of (Qa hU rfl rfl ?_) (by omega)) ?_
  ·simp only [push_cast,seval,↓reduceIte,Za,hi0,hk0,hN0,hN]
  refine V6 (k:=2) (k':=2) hU [1,0] [1,0] rfl rfl rfl rfl ⟨rfl,rfl⟩ ?_
  simp only [push_cast,seval,↓reduceIte,Za,hi0,hk0,hN0,hN]
 simp only [push_cast,seval,↓reduceIte,Za,Try.results106,hi0,hk0,hN0,hN]
theorem Zhc {Z5:(Ze→Int→Zc→Option Ze)} {Z4:(Ze→Int→Zc→Option Ze)} {Zv:(Ze→Int→(List Zc)→Option Ze)} {Z6:(Ze→Int→Zc→Option Ze)} (Jq:∀ {a0:Ze} {a1:Int} {a2:Zc} {r:Ze} {O:Objs} {n:Nat} {i0 j0_0:Nat},i0 < n→j0_0 < n→i0≠j0_0→O i0=some ⟨false,83,2,1,[.row j0_0 a0.words.length,.val (.int .i64 a0.next)]⟩→O j0_0=some ⟨true,58,1,a0.words.length,fl (eI .u64) a0.words⟩→Z5 a0 a1 a2=some r→GTo Try.prog 35 [.ref i0 0,.val (.int .i64 a1),.agg (Zf a2)] O n (.tup []) (Zu ((O.upd j0_0 none).upd i0 (some ⟨false,83,2,1,[.row n r.words.length,.val (.int .i64 r.next)]⟩)) n [some ⟨true,58,1,r.words.length,fl (eI .u64) r.words⟩]) (n+1)) (Q3:∀ {a0:Ze} {a1:Int} {a2:Zc} {r:Ze} {O:Objs} {n:Nat} {i0 j0_0:Nat},i0 < n→j0_0 < n→i0≠j0_0→O i0=some ⟨false,83,2,1,[.row j0_0 a0.words.length,.val (.int .i64 a0.next)]⟩→O j0_0=some ⟨true,58,1,a0.words.length,fl (eI .u64) a0.words⟩→Z4 a0 a1 a2=some r→GTo Try.prog 68 [.ref i0 0,.val (.int .i64 a1),.agg (Zf a2)] O n (.tup []) (Zu ((O.upd j0_0 none).upd i0 (some ⟨false,83,2,1,[.row n r.words.length,.val (.int .i64 r.next)]⟩)) n [some ⟨true,58,1,r.words.length,fl (eI .u64) r.words⟩]) (n+1)) (Y5:∀ {a0:Ze} {a1:Int} {a2:(List Zc)} {r:Ze} {O:Objs} {n:Nat} {i0 j0_0:Nat},i0 < n→j0_0 < n→i0≠j0_0→O i0=some ⟨false,83,2,1,[.row j0_0 a0.words.length,.val (.int .i64 a0.next)]⟩→O j0_0=some ⟨true,58,1,a0.words.length,fl (eI .u64) a0.words⟩→Zv a0 a1 a2=some r→GTo Try.prog 106 [.ref i0 0,.val (.int .i64 a1),.sl a2.length (fl Zg a2)] O n (.tup []) (Zu ((O.upd j0_0 none).upd i0 (some ⟨false,83,2,1,[.row n r.words.length,.val (.int .i64 r.next)]⟩)) n [some ⟨true,58,1,r.words.length,fl (eI .u64) r.words⟩]) (n+1)) (Q4:∀ {a0:Ze} {a1:Int} {a2:Zc} {r:Ze} {O:Objs} {n:Nat} {i0 j0_0:Nat},i0 < n→j0_0 < n→i0≠j0_0→O i0=some ⟨false,83,2,1,[.row j0_0 a0.words.length,.val (.int .i64 a0.next)]⟩→O j0_0=some ⟨true,58,1,a0.words.length,fl (eI .u64) a0.words⟩→Z6 a0 a1 a2=some r→GTo Try.prog 107 [.ref i0 0,.val (.int .i64 a1),.agg (Zf a2)] O n (.tup []) (Zu ((O.upd j0_0 none).upd i0 (some ⟨false,83,2,1,[.row n r.words.length,.val (.int .i64 r.next)]⟩)) n [some ⟨true,58,1,r.words.length,fl (eI .u64) r.words⟩]) (n+1)) {a0:Ze} {a1:Int} {a2:Zc} {r:Ze} {O:Objs} {n:Nat} {i0 j0_0:Nat} (hi0:i0 < n) (Vz:j0_0 < n) (Jh:i0≠j0_0) (ho0:O i0=some ⟨false,83,2,1,[.row j0_0 a0.words.length,.val (.int .i64 a0.next)]⟩) (Kw:O j0_0=some ⟨true,58,1,a0.words.length,fl (eI .u64) a0.words⟩) (h:Qo Z5 Z4 Zv Z6 a0 a1 a2=some r):GTo Try.prog 107 [.ref i0 0,.val (.int .i64 a1),.agg (Zf a2)] O n (.tup []) (Zu ((O.upd j0_0 none).upd i0 (some ⟨false,83,2,1,[.row n r.words.length,.val (.int .i64 r.next)]⟩)) n [some ⟨true,58,1,r.words.length,fl (eI .u64) r.words⟩]) (n+1):=by
 unfold Qo at h
 refine Yt Zd Try.call107 Try.func107 rfl (Nat.le_of_ble_eq_true rfl) (by omega) fun hU => ?_
 have e0:=Zph (ba:=n) (E:=⟨85,[],Zg1 0 [.ref i0 0,.val (.int .i64 a1),.agg [.val (.int .i64 a2.Kind),.sl a2.Words.length (fl (eI .u64) a2.Words),.sl a2.Kids.length (fl Zg a2.Kids)]]⟩) (O:=(Zu O n [])) (n:=n) (i:=i0) (j:=j0_0) (k:=0) (len:=a0.words.length) (q:=⟨false,83,2,1,[.row j0_0 a0.words.length,.val (.int .i64 a0.next)]⟩) (qj:=⟨true,58,1,a0.words.length,fl (eI .u64) a0.words⟩) (by rw [Yy _ hi0];first | exact ho0 | exact Zs _ _ _) rfl (by rw [Yy _ Vz];exact Kw) Jh (by omega)
 simp only [Jt _ _ Vz,Jt _ _ hi0,Jk,X8,Gb,Zv3 Jh,List.set_cons_zero,List.set_cons_succ,List.cons_append,List.nil_append,List.length_cons,List.length_nil,Nat.zero_add,Nat.reduceAdd,Nat.add_assoc] at e0
 refine Gn e0 ?_
 have hU:=(Und.drop hU j0_0)
 have hk0:∀ k,i0 < n+k:=fun k=>by omega
 have hN0:∀ o,Objs.upd (O.upd j0_0 none) i0 o n=none:=fun o=>Zbc hU hi0 _ (Nat.le_refl _)
 have hN:∀ o k,Objs.upd (O.upd j0_0 none) i0 o (n+k)=none:=fun o k=>Zbc hU hi0 _ (Nat.le_add_right _ _)
 show W _ _ _ _ ⟨85,[],[(0,.ref i0 0),(1,.val (.int .i64 a1)),(2,.agg (Zf a2))]⟩ (Zu ((O.upd j0_0 none).upd i0 (some ⟨false,83,2,1,[.row n a0.words.length,.val (.int .i64 a0.next)]⟩)) n [some ⟨true,58,1,a0.words.length,fl (eI .u64) a0.words⟩]) _
 refine Zl [0,1,5] (Zb Zd [] ?_)
 simp only [push_cast,seval,↓reduceIte,Za,hi0,hk0,hN0,hN]
 refine Zk ?_
 obtain ⟨y2,hy2,h⟩:=bC h
 refine Zb Zd [] ?_
 simp only [push_cast,seval,↓reduceIte,Za,hi0,hk0,hN0,hN]
 refine (Gx hy2).then ?_
 simp only [push_cast,seval,↓reduceIte,Za,hi0,hk0,hN0,hN]
 refine Zm [0,1,5,6,7] [true,true] ?_
 simp only [push_cast,seval,↓reduceIte]
 obtain ⟨z3,hz3,h⟩:=bC h
 refine Q5 (E':=⟨85,[],[(0,.ref i0 0),(1,.val (.int .i64 a1)),(5,.ref (n+1) 0),(6,.val (.int .i64 y2.1)),(7,.val (.int .i64 y2.2))]⟩) (O':=(Zu ((O.upd j0_0 none).upd i0 (some ⟨false,83,2,1,[.row n z3.length,.val (.int .i64 a0.next)]⟩)) n [some ⟨true,58,1,z3.length,fl (eI .u64) z3⟩,some ⟨false,25,3,1,(Zf a2)⟩])) (n0:=(n+2)) ?_ ?_
 ·refine Zl [0,1,5,6,7,20] (Zb Zd [] ?_)
  simp only [push_cast,seval,↓reduceIte,Za,hi0,hk0,hN0,hN]
  refine Zq (t:=(decide (0 < (a2.Kids.length:Int)))) rfl (fun c7 => ?_) (fun c7 => ?_)
  ·replace hz3:=Yd c7 hz3
   obtain ⟨y4,hy4,hz3⟩:=bC hz3
   obtain ⟨x5,hx5,ax5,bx5,cx5,hz3⟩:=bE (f:=(eI .u64)) U8 (fun _=>rfl) (by decide) hz3
   have gu6:Q8 (fl (eI .u64) a0.words) [.val (.int .u64 y4.1)] (Int.toNat a1 * 1)=some (fl (eI .u64) (Z9 a0.words a1 y4.1)):=Za5 (f:=(eI .u64)) (ti:=⟨.bool,1,0,[],false⟩) (x:=y4.1) (fun _=>rfl) (Vx hx5)
   refine Zls Zd (by kernel_rfl) [false,false,false,false,false,false,false,false,false,false,false,false,false,false,false,false,true] [] (by kernel_rfl) ?_
   simp only [push_cast,Nat.reduceAdd,Nat.reduceSub,Nat.reduceMul,Nat.reduceLeDiff,Nat.reduceLT,Nat.reduceEqDiff,↓reduceIte,reduceCtorEq,Int.reduceBEq,Int.reduceBNe,Nat.reduceBEq,Int.reduceLE,Int.reduceLT,Int.reduceEq,Int.reduceNe,Int.reduceNeg,Nat.reduceDiv,Nat.reduceMod,Nat.reducePow,Za,ax5,bx5,cx5,gu6,hi0,hk0,hN0,hN]
   refine PCall.of (Zgt hy4) ?_
   simp only [push_cast,Nat.reduceAdd,Nat.reduceSub,Nat.reduceMul,Nat.reduceLeDiff,Nat.reduceLT,Nat.reduceEqDiff,↓reduceIte,reduceCtorEq,Int.reduceBEq,Int.reduceBNe,Nat.reduceBEq,Int.reduceLE,Int.reduceLT,Int.reduceEq,Int.reduceNe,Int.reduceNeg,Nat.reduceDiv,Nat.reduceMod,Nat.reducePow,Za,ax5,bx5,cx5,gu6,hi0,hk0,hN0,hN]
   have hz3:=Option.some.inj hz3;subst hz3
   refine And.intro rfl (Fit2.of (Qa hU rfl rfl ?_) (by omega))
   simp only [push_cast,Nat.reduceAdd,Nat.reduceSub,Nat.reduceMul,Nat.reduceLeDiff,Nat.reduceLT,Nat.reduceEqDiff,↓reduceIte,reduceCtorEq,Int.reduceBEq,Int.reduceBNe,Nat.reduceBEq,Int.reduceLE,Int.reduceLT,Int.reduceEq,Int.reduceNe,Int.reduceNeg,Nat.reduceDiv,Nat.reduceMod,Nat.reducePow,Za,ax5,bx5,cx5,gu6,hi0,hk0,hN0,hN]
  replace hz3:=Yc c7 hz3
  refine Z0 ?_
  try simp only [Zj,Zh]
  have hz3:=Option.some.inj hz3;subst hz3
  refine And.intro rfl (Fit2.of (Qa hU rfl rfl ?_) (by omega))
  simp only [push_cast,seval,↓reduceIte,Za,hi0,hk0,hN0,hN]
 refine Zl [0,1,5,6,7] (Zb Zd [] ?_)
 simp only [push_cast,seval,↓reduceIte,Za,hi0,hk0,hN0,hN]
 refine Zk ?_
 refine Zl [0,1,5,6,7,40,41,42] (Zb Zd [] ?_)
 simp only [push_cast,seval,↓reduceIte,Za,hi0,hk0,hN0,hN]
 refine Zm [0,1,5,6,7,40,41,42] [true,true] ?_
 simp only [push_cast,seval,↓reduceIte]
 obtain ⟨z13,hz13,h⟩:=bC h
 refine X9 (E':=⟨85,[],[(0,.ref i0 0),(1,.val (.int .i64 (IntKind.i64.wrap (a1+1)))),(5,.ref (n+1) 0),(6,.val (.int .i64 y2.1)),(7,.val (.int .i64 y2.2))]⟩) (O':=(Zu ((O.upd j0_0 none).upd i0 (some ⟨false,83,2,1,[.row n z13.length,.val (.int .i64 a0.next)]⟩)) n [some ⟨true,58,1,z13.length,fl (eI .u64) z13⟩,some ⟨false,25,3,1,(Zf a2)⟩])) (n0:=(n+2)) ?_ ?_
 ·refine Jc hz13 (fun s0_=>⟨85,[],[(0,.ref i0 0),(1,.val (.int .i64 (IntKind.i64.wrap (a1+1)))),(5,.ref (n+1) 0),(6,.val (.int .i64 y2.1)),(7,.val (.int .i64 y2.2)),(40,.sl a2.Kids.length (fl Zg a2.Kids)),(41,.val (.int .i64 (a2.Kids.length:Int))),(42,.val (.int .i64 s0_.1))]⟩) (fun s0_=>(Zu ((O.upd j0_0 none).upd i0 (some ⟨false,83,2,1,[.row n s0_.2.length,.val (.int .i64 a0.next)]⟩)) n [some ⟨true,58,1,s0_.2.length,fl (eI .u64) s0_.2⟩,some ⟨false,25,3,1,(Zf a2)⟩])) (fun z13=>JX 0 n (⟨85,[],[(0,.ref i0 0),(1,.val (.int .i64 (IntKind.i64.wrap (a1+1)))),(5,.ref (n+1) 0),(6,.val (.int .i64 y2.1)),(7,.val (.int .i64 y2.2))]⟩:Env) (Zu ((O.upd j0_0 none).upd i0 (some ⟨false,83,2,1,[.row n z13.length,.val (.int .i64 a0.next)]⟩)) n [some ⟨true,58,1,z13.length,fl (eI .u64) z13⟩,some ⟨false,25,3,1,(Zf a2)⟩]) (n+2)) ?_
  intro s0_ x0_ hs0_
  unfold X2 at hs0_
  try dsimp only
  refine Zl [0,1,5,6,7,40,41,42,43] (Zb Zd [] ?_)
  simp only [push_cast,seval,↓reduceIte,Za,hi0,hk0,hN0,hN]
  refine Zk ?_
  refine Zq (t:=(decide (s0_.1 < (a2.Kids.length:Int)))) rfl (fun c12 => ?_) (fun c12 => ?_)
  ·replace hs0_:=Yd c12 hs0_
   refine Z0 ?_
   try simp only [Zj,Zh]
   refine Zm [0,1,5,6,7,40,41,42] [true,true] ?_
   simp only [push_cast,seval,↓reduceIte]
   refine Zk ?_
   refine Yk ?_
   refine Zk ?_
   obtain ⟨x9,hx9,ax9,bx9,cx9,hs0_⟩:=bE (f:=Zg) Vo (fun _=>rfl) (by decide) hs0_
   refine Zb Zd [] ?_
   simp only [push_cast,Nat.reduceAdd,Nat.reduceSub,Nat.reduceMul,Nat.reduceLeDiff,Nat.reduceLT,Nat.reduceEqDiff,↓reduceIte,reduceCtorEq,Int.reduceBEq,Int.reduceBNe,Nat.reduceBEq,Int.reduceLE,Int.reduceLT,Int.reduceEq,Int.reduceNe,Int.reduceNeg,Nat.reduceDiv,Nat.reduceMod,Nat.reducePow,Za,ax9,bx9,cx9,hi0,hk0,hN0,hN]
   refine Zm [0,1,5,6,7,8,9,40,41,42] [true,true,true] ?_
   simp only [push_cast,seval,↓reduceIte]
   obtain ⟨pu10,hs0_⟩:=bG hs0_
   have su10:=fun j=>Zh5 (T:=Xf) (j:=j) Zbw U8 pu10
   have g11:=Zh3 (f:=(eI .u64)) s0_.2 x9.Words (IntKind.i64.wrap ((IntKind.i64.wrap (a1+1))+(IntKind.i64.wrap (s0_.1 * (IntKind.i64.wrap (y2.1+y2.2)))))) (fun _=>rfl) pu10.2.1 pu10.2.2
   have mg11:=Nat.mul_one (List.length x9.Words)
   refine Zls Zd (by kernel_rfl) [false,false,false,false,false,false,false,false,false,false,false,false,false,false,true] [] (by kernel_rfl) ?_
   simp only [push_cast,seval,↓reduceIte,Za,pu10.1,pu10.2.1,pu10.2.2,su10,g11,mg11,hi0,hk0,hN0,hN]
   refine Zm [0,1,5,6,7,40,41,42] [true,true,false] ?_
   simp only [push_cast,seval,↓reduceIte]
   refine Zb Zd [] ?_
   simp only [push_cast,seval,↓reduceIte,Za,hi0,hk0,hN0,hN]
   have hs0_:=Option.some.inj hs0_;subst hs0_
   refine And.intro rfl (Fit2.of (Qa hU rfl rfl ?_) (by omega))
   simp only [push_cast,seval,↓reduceIte,Za,hi0,hk0,hN0,hN]
  replace hs0_:=Yc c12 hs0_
  refine Jf ?_
  try simp only [Zj,Zh,↓reduceIte,Nat.reduceEqDiff]
  have hs0_:=Option.some.inj hs0_;subst hs0_
  refine And.intro (fun h=>by cases h) (And.intro rfl (Fit2.of (Qa hU rfl rfl ?_) (by omega)))
  simp only [push_cast,seval,↓reduceIte,Za,hi0,hk0,hN0,hN]
 try simp only [Zj,Zh,↓reduceIte,Nat.reduceEqDiff]
 refine Zm [0,1,5,6,7] [true,true] ?_
 simp only [push_cast,seval,↓reduceIte]
 refine Zl [0,1,6,7,64,65,66] (Zb Zd [] ?_)
 simp only [push_cast,seval,↓reduceIte,Za,hi0,hk0,hN0,hN]
 refine Zm [0,1,6,7,64,65,66] [true,false] ?_
 simp only [push_cast,seval,↓reduceIte]
 refine Gn (E':=(⟨85,[],[(0,.ref i0 0),(1,.val (.int .i64 (IntKind.i64.wrap (a1+1)))),(6,.val (.int .i64 y2.1)),(7,.val (.int .i64 y2.2)),(64,.sl a2.Kids.length (fl Zg a2.Kids)),(65,.val (.int .i64 (a2.Kids.length:Int))),(66,.val (.int .i64 0))]⟩:Env)) (O':=(Zu ((O.upd j0_0 none).upd i0 (some ⟨false,83,2,1,[.row (n+2) z13.length,.val (.int .i64 a0.next)]⟩)) n [none,none,some ⟨true,58,1,z13.length,fl (eI .u64) z13⟩])) (n':=(n+3)) ?_ ?_
 ·refine Fit2.trans (E':=(⟨85,[],[(0,.ref i0 0),(1,.val (.int .i64 (IntKind.i64.wrap (a1+1)))),(6,.val (.int .i64 y2.1)),(7,.val (.int .i64 y2.2)),(64,.sl a2.Kids.length (fl Zg a2.Kids)),(65,.val (.int .i64 (a2.Kids.length:Int))),(66,.val (.int .i64 0))]⟩:Env)) (O':=(Zu ((O.upd j0_0 none).upd i0 (some ⟨false,83,2,1,[.row n z13.length,.val (.int .i64 a0.next)]⟩)) n [some ⟨true,58,1,z13.length,fl (eI .u64) z13⟩,none])) (n':=(n+2)) (Fit2.of (Qa hU rfl rfl ?_) (by omega)) ?_
  ·simp only [push_cast,seval,↓reduceIte,Za,hi0,hk0,hN0,hN]
  refine V6 (k:=2) (k':=3) hU [2,1] [0,0,0] rfl rfl rfl rfl ⟨rfl,rfl⟩ ?_
  simp only [push_cast,seval,↓reduceIte,Za,hi0,hk0,hN0,hN]
 obtain ⟨z18,hz18,h⟩:=bC h
 refine X9 (E':=⟨85,[],[]⟩) (O':=(Zu ((O.upd j0_0 none).upd i0 (some ⟨false,83,2,1,[.row (n+2) z18.1.length,.val (.int .i64 z18.2)]⟩)) n [none,none,some ⟨true,58,1,z18.1.length,fl (eI .u64) z18.1⟩])) (n0:=(n+3)) ?_ ?_
 ·refine Jc hz18 (fun s1_=>⟨85,[],[(0,.ref i0 0),(1,.val (.int .i64 (IntKind.i64.wrap (a1+1)))),(6,.val (.int .i64 y2.1)),(7,.val (.int .i64 y2.2)),(64,.sl a2.Kids.length (fl Zg a2.Kids)),(65,.val (.int .i64 (a2.Kids.length:Int))),(66,.val (.int .i64 s1_.1))]⟩) (fun s1_=>(Zu ((O.upd j0_0 none).upd i0 (some ⟨false,83,2,1,[.row (n+2) s1_.2.1.length,.val (.int .i64 s1_.2.2)]⟩)) n [none,none,some ⟨true,58,1,s1_.2.1.length,fl (eI .u64) s1_.2.1⟩])) (fun z18=>JX 2 n (⟨85,[],[]⟩:Env) (Zu ((O.upd j0_0 none).upd i0 (some ⟨false,83,2,1,[.row (n+2) z18.1.length,.val (.int .i64 z18.2)]⟩)) n [none,none,some ⟨true,58,1,z18.1.length,fl (eI .u64) z18.1⟩]) (n+3)) ?_
  intro s1_ x1_ hs1_
  unfold X3 at hs1_
  try dsimp only
  refine Zl [0,1,6,7,64,65,66,67] (Zb Zd [] ?_)
  simp only [push_cast,seval,↓reduceIte,Za,hi0,hk0,hN0,hN]
  refine Zk ?_
  refine Zq (t:=(decide (s1_.1 < (a2.Kids.length:Int)))) rfl (fun c17 => ?_) (fun c17 => ?_)
  ·replace hs1_:=Yd c17 hs1_
   refine Z0 ?_
   try simp only [Zj,Zh]
   refine Zm [0,1,6,7,64,65,66] [false,false,true] ?_
   simp only [push_cast,seval,↓reduceIte]
   refine Zk ?_
   refine Yk ?_
   refine Zk ?_
   obtain ⟨x15,hx15,ax15,bx15,cx15,hs1_⟩:=bE (f:=Zg) Vo (fun _=>rfl) (by decide) hs1_
   refine Zb Zd [] ?_
   simp only [push_cast,Nat.reduceAdd,Nat.reduceSub,Nat.reduceMul,Nat.reduceLeDiff,Nat.reduceLT,Nat.reduceEqDiff,↓reduceIte,reduceCtorEq,Int.reduceBEq,Int.reduceBNe,Nat.reduceBEq,Int.reduceLE,Int.reduceLT,Int.reduceEq,Int.reduceNe,Int.reduceNeg,Nat.reduceDiv,Nat.reduceMod,Nat.reducePow,Za,ax15,bx15,cx15,hi0,hk0,hN0,hN]
   refine Zm [0,1,6,7,10,11,64,65,66] [false,false,true,true] ?_
   simp only [push_cast,seval,↓reduceIte]
   obtain ⟨y16,hy16,hs1_⟩:=bC hs1_
   refine Zb Zd [] ?_
   simp only [push_cast,seval,↓reduceIte,Za,hi0,hk0,hN0,hN]
   refine (Y5 (i0:=i0) (j0_0:=(n+2)) (by omega) (by omega) (by omega) (by simp only [push_cast,seval,↓reduceIte,Za,Ke,hi0,hk0,hN0,hN] <;> rfl) (by simp only [push_cast,seval,↓reduceIte,Za,Ke,hi0,hk0,hN0,hN] <;> rfl) hy16).then ?_
   simp only [push_cast,seval,↓reduceIte,Za,hi0,hk0,hN0,hN]
   refine Zm [0,1,6,7,64,65,66] [false,false,false,false,true] ?_
   simp only [push_cast,seval,↓reduceIte]
   refine Zb Zd [] ?_
   simp only [push_cast,seval,↓reduceIte,Za,hi0,hk0,hN0,hN]
   have hs1_:=Option.some.inj hs1_;subst hs1_
   refine And.intro rfl ?_
   refine Fit2.trans (E':=(⟨85,[],[(0,.ref i0 0),(1,.val (.int .i64 (IntKind.i64.wrap (a1+1)))),(6,.val (.int .i64 y2.1)),(7,.val (.int .i64 y2.2)),(64,.sl a2.Kids.length (fl Zg a2.Kids)),(65,.val (.int .i64 (a2.Kids.length:Int))),(66,.val (.int .i64 (IntKind.i64.wrap (s1_.1+1))))]⟩:Env)) (O':=(Zu ((O.upd j0_0 none).upd i0 (some ⟨false,83,2,1,[.row (n+4) y16.words.length,.val (.int .i64 y16.next)]⟩)) n [none,none,none,none,some ⟨true,58,1,y16.words.length,fl (eI .u64) y16.words⟩])) (n':=(n+5)) (Fit2.of (Qa hU rfl rfl ?_) (by omega)) ?_
   ·simp only [push_cast,seval,↓reduceIte,Za,hi0,hk0,hN0,hN]
   refine V6 (k:=5) (k':=3) hU [1,1,1,1,2] [0,0,4] rfl rfl rfl rfl ⟨rfl,rfl⟩ ?_
   simp only [push_cast,seval,↓reduceIte,Za,hi0,hk0,hN0,hN]
  replace hs1_:=Yc c17 hs1_
  refine Jf ?_
  try simp only [Zj,Zh,↓reduceIte,Nat.reduceEqDiff]
  have hs1_:=Option.some.inj hs1_;subst hs1_
  refine And.intro (fun h=>by cases h) (And.intro rfl (Fit2.of (Qa hU rfl rfl ?_) (by omega)))
  simp only [push_cast,seval,↓reduceIte,Za,hi0,hk0,hN0,hN]
 try simp only [Zj,Zh,↓reduceIte,Nat.reduceEqDiff]
 have h:=Option.some.inj h;subst h
 refine Zda (k:=1) (i:=i0) (q1:=⟨false,83,2,1,[.row n z18.1.length,.val (.int .i64 z18.2)]⟩) (L3:=[some ⟨true,58,1,z18.1.length,fl (eI .u64) z18.1⟩,none]) (E2:=(⟨85,[],[]⟩:Env)) (n3:=(n+2)) (.inl rfl) hU rfl [] ?_ ?_
 ·refine Fit2.trans (E':=(⟨85,[],[]⟩:Env)) (O':=(Zu ((O.upd j0_0 none).upd i0 (some ⟨false,83,2,1,[.row (n+2) z18.1.length,.val (.int .i64 z18.2)]⟩)) n [none,none,some ⟨true,58,1,z18.1.length,fl (eI .u64) z18.1⟩])) (n':=(n+3)) (Fit2.of (Qa hU rfl rfl ?_) (by omega)) ?_
  ·simp only [push_cast,seval,↓reduceIte,Za,hi0,hk0,hN0,hN]
  refine V6 (k:=3) (k':=2) hU [1,1,0] [2,0] rfl rfl rfl rfl ⟨rfl,rfl⟩ ?_
  simp only [push_cast,seval,↓reduceIte,Za,hi0,hk0,hN0,hN]
 simp only [push_cast,seval,↓reduceIte,Za,Try.results107,hi0,hk0,hN0,hN]
theorem Zg7:∀ k,(∀ {a0:Ze} {a1:Int} {a2:Zc} {r:Ze} {O:Objs} {n:Nat} {i0 j0_0:Nat},i0 < n→j0_0 < n→i0≠j0_0→O i0=some ⟨false,83,2,1,[.row j0_0 a0.words.length,.val (.int .i64 a0.next)]⟩→O j0_0=some ⟨true,58,1,a0.words.length,fl (eI .u64) a0.words⟩→(Zi k).1 a0 a1 a2=some r→GTo Try.prog 35 [.ref i0 0,.val (.int .i64 a1),.agg (Zf a2)] O n (.tup []) (Zu ((O.upd j0_0 none).upd i0 (some ⟨false,83,2,1,[.row n r.words.length,.val (.int .i64 r.next)]⟩)) n [some ⟨true,58,1,r.words.length,fl (eI .u64) r.words⟩]) (n+1))∧(∀ {a0:Ze} {a1:Int} {a2:Zc} {r:Ze} {O:Objs} {n:Nat} {i0 j0_0:Nat},i0 < n→j0_0 < n→i0≠j0_0→O i0=some ⟨false,83,2,1,[.row j0_0 a0.words.length,.val (.int .i64 a0.next)]⟩→O j0_0=some ⟨true,58,1,a0.words.length,fl (eI .u64) a0.words⟩→(Zi k).2.1 a0 a1 a2=some r→GTo Try.prog 68 [.ref i0 0,.val (.int .i64 a1),.agg (Zf a2)] O n (.tup []) (Zu ((O.upd j0_0 none).upd i0 (some ⟨false,83,2,1,[.row n r.words.length,.val (.int .i64 r.next)]⟩)) n [some ⟨true,58,1,r.words.length,fl (eI .u64) r.words⟩]) (n+1))∧(∀ {a0:Ze} {a1:Int} {a2:(List Zc)} {r:Ze} {O:Objs} {n:Nat} {i0 j0_0:Nat},i0 < n→j0_0 < n→i0≠j0_0→O i0=some ⟨false,83,2,1,[.row j0_0 a0.words.length,.val (.int .i64 a0.next)]⟩→O j0_0=some ⟨true,58,1,a0.words.length,fl (eI .u64) a0.words⟩→(Zi k).2.2.1 a0 a1 a2=some r→GTo Try.prog 106 [.ref i0 0,.val (.int .i64 a1),.sl a2.length (fl Zg a2)] O n (.tup []) (Zu ((O.upd j0_0 none).upd i0 (some ⟨false,83,2,1,[.row n r.words.length,.val (.int .i64 r.next)]⟩)) n [some ⟨true,58,1,r.words.length,fl (eI .u64) r.words⟩]) (n+1))∧(∀ {a0:Ze} {a1:Int} {a2:Zc} {r:Ze} {O:Objs} {n:Nat} {i0 j0_0:Nat},i0 < n→j0_0 < n→i0≠j0_0→O i0=some ⟨false,83,2,1,[.row j0_0 a0.words.length,.val (.int .i64 a0.next)]⟩→O j0_0=some ⟨true,58,1,a0.words.length,fl (eI .u64) a0.words⟩→(Zi k).2.2.2 a0 a1 a2=some r→GTo Try.prog 107 [.ref i0 0,.val (.int .i64 a1),.agg (Zf a2)] O n (.tup []) (Zu ((O.upd j0_0 none).upd i0 (some ⟨false,83,2,1,[.row n r.words.length,.val (.int .i64 r.next)]⟩)) n [some ⟨true,58,1,r.words.length,fl (eI .u64) r.words⟩]) (n+1)):=fun k=>by
 induction k with
 | zero=>exact ⟨@fun a0 a1 a2 r O n i0 j0_0 hi0 Vz Jh ho0 Kw h=>(nomatch (show (none:Option _)=some _ from h)),@fun a0 a1 a2 r O n i0 j0_0 hi0 Vz Jh ho0 Kw h=>(nomatch (show (none:Option _)=some _ from h)),@fun a0 a1 a2 r O n i0 j0_0 hi0 Vz Jh ho0 Kw h=>(nomatch (show (none:Option _)=some _ from h)),@fun a0 a1 a2 r O n i0 j0_0 hi0 Vz Jh ho0 Kw h=>(nomatch (show (none:Option _)=some _ from h))⟩
 | succ k ih=>exact ⟨@fun a0 a1 a2 r O n i0 j0_0 hi0 Vz Jh ho0 Kw h=>Zkt (ih.1) (ih.2.1) (ih.2.2.1) (ih.2.2.2) hi0 Vz Jh ho0 Kw h,@fun a0 a1 a2 r O n i0 j0_0 hi0 Vz Jh ho0 Kw h=>Zhb (ih.1) (ih.2.1) (ih.2.2.1) (ih.2.2.2) hi0 Vz Jh ho0 Kw h,@fun a0 a1 a2 r O n i0 j0_0 hi0 Vz Jh ho0 Kw h=>Zgw (ih.1) (ih.2.1) (ih.2.2.1) (ih.2.2.2) hi0 Vz Jh ho0 Kw h,@fun a0 a1 a2 r O n i0 j0_0 hi0 Vz Jh ho0 Kw h=>Zhc (ih.1) (ih.2.1) (ih.2.2.1) (ih.2.2.2) hi0 Vz Jh ho0 Kw h⟩
theorem Zld {a0:Ze} {a1:Int} {a2:Zc} {r:Ze} {O:Objs} {n:Nat} {i0 j0_0:Nat} (hi0:i0 < n) (Vz:j0_0 < n) (Jh:i0≠j0_0) (ho0:O i0=some ⟨false,83,2,1,[.row j0_0 a0.words.length,.val (.int .i64 a0.next)]⟩) (Kw:O j0_0=some ⟨true,58,1,a0.words.length,fl (eI .u64) a0.words⟩) (h:K9 a0 a1 a2=some r):GTo Try.prog 35 [.ref i0 0,.val (.int .i64 a1),.agg (Zf a2)] O n (.tup []) (Zu ((O.upd j0_0 none).upd i0 (some ⟨false,83,2,1,[.row n r.words.length,.val (.int .i64 r.next)]⟩)) n [some ⟨true,58,1,r.words.length,fl (eI .u64) r.words⟩]) (n+1):=by
 obtain ⟨k,hk⟩:=Zk8 h
 exact (Zg7 k).1 hi0 Vz Jh ho0 Kw hk
theorem Zkk {a0:Zc} {a1:Int} {r:((List Int)×Bool)} {O:Objs} {n:Nat} (h:Zbo a0 a1=some r):GTo Try.prog 12 [.agg (Zf a0),.val (.int .i64 a1)] O n (.tup [.sl r.1.length (fl (eI .u64) r.1),.val (.bool r.2)]) O n:=by
 unfold Zbo at h
 refine Yt Zd Try.call12 Try.func12 rfl (Nat.le_of_ble_eq_true rfl) (Nat.le_refl _) fun hU => ?_
 have hN0:O n=none:=hU.fresh _ (Nat.le_refl _)
 have hN:∀ k,O (n+k)=none:=fun k=>hU.fresh _ (Nat.le_add_right _ _)
 show W _ _ _ _ ⟨35,[],[(0,.agg (Zf a0)),(1,.val (.int .i64 a1))]⟩ (Zu O n []) _
 refine Zl [1,2] (Zb Zd [] ?_)
 simp only [push_cast,seval,↓reduceIte,Za,hN0,hN]
 refine Zk ?_
 obtain ⟨z2,hz2,h⟩:=bC h
 refine Q5 (E':=⟨35,[],[(1,.val (.int .i64 a1)),(2,.ref n 0),(15,.val (.bool z2))]⟩) (O':=(Zu O n [some ⟨false,25,3,1,(Zf a0)⟩])) (n0:=(n+1)) ?_ ?_
 ·rcases Bool.eq_false_or_eq_true (a0.Kind == 10) with c5 | c5
  ·replace hz2:=Yd c5 hz2
   refine Zb Zd (Z5t []) ?_
   simp only [push_cast,seval,↓reduceIte,Za,c5,hN0,hN]
   have hz2:=Option.some.inj hz2;subst hz2
   refine And.intro rfl (Fit2.of (Zp hU rfl rfl ?_) (by omega))
   simp only [push_cast,seval,↓reduceIte,Za,c5,hN0,hN]
  replace hz2:=Yc c5 hz2
  obtain ⟨y4,hy4,hz2⟩:=bC hz2
  refine Zb Zd (Z15 []) ?_
  simp only [push_cast,seval,↓reduceIte,Za,c5,hN0,hN]
  refine (Zgu hy4).then ?_
  simp only [push_cast,seval,↓reduceIte,Za,c5,hN0,hN]
  have hz2:=Option.some.inj hz2;subst hz2
  refine And.intro rfl (Fit2.of (Zp hU rfl rfl ?_) (by omega))
  simp only [push_cast,seval,↓reduceIte,Za,c5,hN0,hN]
 refine Zq (t:=z2) rfl (fun c15 => ?_) (fun c15 => ?_)
 ·replace h:=Yd c15 h
  refine Zl [4,5] (Zb Zd [] ?_)
  simp only [push_cast,seval,↓reduceIte,Za,hN0,hN]
  refine Zy ?_
  try simp only [Zj,Zh]
  have h:=Option.some.inj h;subst h
  refine Zt (.inr rfl) hU [.val (.slice none 0 0),.val (.bool false)] (by omega) ?_
  simp only [push_cast,seval,↓reduceIte,Za,Try.results12,hN0,hN]
 replace h:=Yc c15 h
 refine Z0 ?_
 try simp only [Zj,Zh]
 refine Zm [1,2] [true] ?_
 simp only [push_cast,seval,↓reduceIte]
 refine Zk ?_
 obtain ⟨y7,hy7,h⟩:=bC h
 refine Zb Zd [] ?_
 simp only [push_cast,seval,↓reduceIte,Za,hN0,hN]
 refine (Zim hy7).then ?_
 simp only [push_cast,seval,↓reduceIte,Za,hN0,hN]
 refine Zm [1,2] [true] ?_
 simp only [push_cast,seval,↓reduceIte]
 refine Zk ?_
 obtain ⟨y9,hy9,h⟩:=bC h
 refine Zb Zd [] ?_
 simp only [push_cast,seval,↓reduceIte,Za,hN0,hN]
 refine (Zvo hy9).then ?_
 simp only [push_cast,seval,↓reduceIte,Za,hN0,hN]
 refine Zm [1,2,6] [true] ?_
 simp only [push_cast,seval,↓reduceIte]
 refine Zk ?_
 refine Zl [2,6,27] (Zb Zd [none,none] ?_)
 simp only [push_cast,seval,↓reduceIte,Za,hN0,hN]
 repeat (with_reducible refine And.intro (by first | (intro h0;simp only [h0,and_self];done) | (intro h0;simp only [h0,Bool.not_false,Bool.not_true,Bool.true_and,Bool.and_true,true_and,and_true,and_self,imp_self,implies_true,bne_iff_ne,ne_eq,beq_iff_eq];done) | (intros;simp_all;done) | exact True.intro) ?_)
 refine Zq (t:=(cond (decide (a1 < (IntKind.i64.wrap (1+y9)))) true (decide (131072 < (IntKind.i64.wrap (1+y9)))))) rfl (fun c14 => ?_) (fun c14 => ?_)
 ·replace h:=Yd c14 h
  refine Zl [4,5] (Zb Zd [] ?_)
  simp only [push_cast,seval,↓reduceIte,Za,hN0,hN]
  refine Zy ?_
  try simp only [Zj,Zh]
  have h:=Option.some.inj h;subst h
  refine Zt (.inr rfl) hU [.val (.slice none 0 0),.val (.bool false)] (by omega) ?_
  simp only [push_cast,seval,↓reduceIte,Za,Try.results12,hN0,hN]
 replace h:=Yc c14 h
 refine Z0 ?_
 try simp only [Zj,Zh]
 refine Zm [2,6] [true] ?_
 simp only [push_cast,seval,↓reduceIte]
 refine Zk ?_
 obtain ⟨l11,al11,bl11,cl11,el11,h⟩:=bM2 (c:=8) rfl h
 have nl11:Int.toNat (IntKind.i64.wrap (1+y9))=List.length l11:=by rw [el11,List.length_replicate]
 have fl11:(List.replicate (List.length l11) [.val (.int .u64 0)]).flatten=fl (eI .u64) l11:=by rw [← nl11,el11];exact (Zop (f:=(eI .u64)) _ _).symm
 clear el11
 refine Zb Zd [] ?_
 simp only [push_cast,seval,↓reduceIte,Za,al11,bl11,cl11,fl11,nl11,hN0,hN]
 refine Zgb ⟨35,[],[(2,.ref n 0),(7,.ref (n+2) 0)]⟩ (Zu O n [some ⟨false,25,3,1,(Zf y7)⟩,some ⟨true,58,1,l11.length,fl (eI .u64) l11⟩,some ⟨false,83,2,1,[.row (n+1) l11.length,.val (.int .i64 1)]⟩]) (Zp hU rfl rfl ?_) ?_
 ·simp only [push_cast,seval,↓reduceIte,Za,al11,bl11,cl11,fl11,nl11,hN0,hN]
 refine Zk ?_
 obtain ⟨y13,hy13,h⟩:=bC h
 refine Zb Zd [] ?_
 simp only [push_cast,seval,↓reduceIte,Za,hN0,hN]
 refine (Zld (i0:=(n+2)) (j0_0:=(n+1)) (by omega) (by omega) (by omega) (by simp only [push_cast,seval,↓reduceIte,Za,Ke,hN0,hN] <;> rfl) (by simp only [push_cast,seval,↓reduceIte,Za,Ke,hN0,hN] <;> rfl) hy13).then ?_
 simp only [push_cast,seval,↓reduceIte,Za,hN0,hN]
 refine Zm [7] [false,false,true,true] ?_
 simp only [push_cast,seval,↓reduceIte]
 refine Zl [4,5] (Zb Zd [] ?_)
 simp only [push_cast,seval,↓reduceIte,Za,hN0,hN]
 refine Zy ?_
 try simp only [Zj,Zh]
 have h:=Option.some.inj h;subst h
 refine Zt (.inr rfl) hU [.row (n+3) y13.words.length,.val (.bool true)] (by omega) ?_
 simp only [push_cast,seval,↓reduceIte,Za,Try.results12,hN0,hN]
end Go.Proofs.Ytaddaloondpnkaa
