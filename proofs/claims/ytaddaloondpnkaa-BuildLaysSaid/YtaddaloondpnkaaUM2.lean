/- Part UM2 of this seat's mirrors: functions of the seat's program, and the plain functions that they are; each theorem bears its own conditions. -/
import Derived.Test.YtaddaloondpnkaaUM1
namespace Go.Proofs.Ytaddaloondpnkaa
open Go.RowKit
set_option linter.unusedVariables false
set_option linter.unusedSimpArgs false
set_option maxRecDepth 100000
set_option maxHeartbeats 4000000
attribute [local push_cast] Ze Z4 Zgz Zgy Zhv Zhu Zh Zf Zdx Gk Gj onW Yq Uy V7 Zju Zg3 Zb5 Zb9 Zb4 Zb8 Zez Zev Zb7 Zey Zex Zew Zb6 Zet Gz evS wok Xd Op.operands Call.operands gop onK onP atK List.all_cons List.all_nil Bool.and_true Bool.true_and Bool.and_self Value.oneCell' List.take_zero List.take_succ_cons List.take_nil List.drop_zero List.drop_succ_cons List.drop_nil List.append_nil Nat.add_zero Nat.zero_add Jj Z5 ev Y9 Zkx Zgs Zgr Zgx Zgv Zgw Zgt Zgu Zgq Zlh Zni Zpd Zcy Vg Zc4 V8 Zbq Zat V0 V5 Gi Ge V3 Gh Gg Gf V2 Gc V1 V4 K8 Gd Zf8 Gl Jo Zcd Jp Zdw Zcx Zol Up bHi bMx Vh Zdu Zpz Zcw Zfl U7 Qz Zk4 Zp4 Zcc U4 Zp6 Vf Zsd Zd2 Zd6 Zd1 Zd5 Zhi Zhe Zhc Zbr Zd3 Zhh Zhg Zhf Zd4 Zg8 Zhb Zg7 Zha Zls Zlp Zlo Zg9 Zlq Zlr Zhd Zfh Zjt Zej Gx Gw pop TK.isAgg Zhn Zhs Zhm Zhr Zed Zl6 Zl2 Zhq Zl5 Zl4 Zl3 Zhp Zl1 G.under G.unders List.getD_cons_zero List.getD_cons_succ List.set_cons_zero List.set_cons_succ List.map_cons List.map_nil List.toList_toArray Array.toList_append Option.toArray_none Option.toArray_some Array.toList_map Option.map_some Option.map_none Option.bind_some Option.bind_none List.getElem?_cons_zero List.getElem?_cons_succ List.getElem?_nil List.nil_append List.cons_append List.replicate_succ List.replicate_zero List.length_cons List.length_nil and_true true_and and_false false_and Bool.true_eq_false Bool.false_eq_true forall_const false_implies implies_true IntKind.bits if_true if_false ite_true ite_false eq_self true_implies false_or or_false or_true true_or not_true_eq_false not_false_eq_true decide_true decide_false decide_eq_true_eq decide_eq_false_iff_not beq_iff_eq bne_iff_ne ne_eq Bool.not_eq_true Bool.not_eq_false beq_eq_false_iff_ne bne_eq_false_iff_eq beq_self_eq_true bne_self_eq_false Option.some.injEq exists_eq_left' exists_eq_left ge_iff_le gt_iff_lt decide_not Bool.not_true Bool.not_false imp_self Zlj cond_true cond_false Zw1 Zw0 Bool.not_not Bool.and_false Bool.false_and Bool.or_true Bool.true_or Bool.or_false Bool.false_or Vq Zal Vr Ku J6 Qg Option.join_some Nat.add_assoc Int.toNat_natCast eI eB eS eL Zjr Zae V9 Zg2 Zg0 Zg1 Zsj Zuf Zaj Uf Zh1 Zhz Zh0 Zph Zkw Zna Zkd Zlf Uq Zjs List.length_append G.agg.injEq G.row.injEq G.ref.injEq G.val.injEq G.sl.injEq G.tup.injEq Value.int.injEq Value.bool.injEq Value.string.injEq List.cons.injEq exists_and_left exists_const List.flatten_cons List.flatten_nil Int.le_refl Nat.le_refl Zfe Jz Zdq Bool.not_eq_true' Bool.not_eq_false' Zjj Za3 Zmz Zm3 Zmy Zm2 Zsa Zr5 List.size_toArray Zn3 Zla G.ren G.rens Zpi Zeo Zh4 Zgo Zgp Zeu Zm4 Zc0 G.fn.injEq Zcu Zfg Zji Zr6 Zff Zm1 Zr9 Zr8 Zr7 Zm0 Zlt Zqe Option.join_none Zo Jd undef Zfn Arr.len Arr.put_eq Zai Zbw Gt Ue Zhy Zhw Zhx onB Zsi Zk3 Xj Zbl Zdg Zdh Zdi Zdj Zdk Zdl Zbt Zbz Zbx Gv Ug Zby Zei Zeh Zeg Zef Zsk Zue Zpg Zos J0 Zpe Zj0 Zb0 Gu Zqo Zke Zcv Zfj Zcg Zcs Zdm Zdn Zdo Zdp Za6 Za7 Za8 Za9 Zba Zbb Zbc Zbd Zbe Zbf Zbg Zbh Zbi Zaq prT Zfi Zxy Zmp Zso Zmq Zxz Zmr Zx0 Zms Zx1 Zmt Zx2 Zmu Zx3 Zmv Zx4 Zmw Zqw Zib Zqx Zic Zqy Zid Zqz Zie Zq0 Zif Zq1 Zig Zq2 Zih Zq3 Zii Zq4 Zij Zq5 Zik Zq6 Zil Vx Zc9 Zob Zda Zq7 Zim J3 Zin Zq8 Zfu Zq9 Zio Zra Zip Zrb Ziq Zrc Zir Zrd Zis Zre Zit Zrf Ziu Zrg Ziv K4 Ziw Zrh Zix Zri Ziy Zrj Ziz Zrk Zi0 Zrl Zi1 Zrm Zi2 Zrn Zi3 Zro Zi4 Zrp Zi5 Zrq Zi6 Zrr Zi7 Zrs Zi8 Zrt Zi9 Zru Zja Zrv Zjb Zrw Zjc Zrx Zjd Zry Zje Zrz Zjf Zmb Ze0 Zmc Ze1 Zmd Ze2 Zme Ze3 Zmf Ze4 Zmg Ze5 Zmh Ze6 Zmi Ze7 Zmj Ze8 Zmk Ze9 Zml Zfa Zmm Zfb Zmn Zfc Zmo Zfd Zt Uo G5 Gn Gs Zac Un Uk Ui Y7 Kp Ko Kj Kl Kq Jy Jw Jv Km Xe Xw Xv Xq Xs Xx Xk Xi Xh Xu Zg Yr Qw Qv Qo Qr Qy Qf Qe Qd Qt Zaa G4 Gm Gr Zab Um Uj Uh G0 V6
theorem Ks {a0:Int} {r:Int} {O:Objs} {n:Nat} (h:Xg a0=some r):GTo Try.prog 95 [.val (.int .i64 a0)] O n (.val (.int .i64 r)) O n:=by
 unfold Xg at h
 refine Yi Zc Try.call95 Try.func95 rfl (Nat.le_of_ble_eq_true rfl) (Nat.le_refl _) fun hU => ?_
 have hN0:O n=none:=hU.fresh _ (Nat.le_refl _)
 have hN:∀ k,O (n+k)=none:=fun k=>hU.fresh _ (Nat.le_add_right _ _)
 show W _ _ _ _ ⟨16,[],[(0,.val (.int .i64 a0))]⟩ (Zw O n []) _
 refine Zj [0] (Zb Zc [] ?_)
 simp only [push_cast,seval,↓reduceIte,Za,hN0,hN]
 refine Zi ?_
 refine Zj [3] (Zb Zc [] ?_)
 simp only [push_cast,seval,↓reduceIte,Za,hN0,hN]
 refine Ya ?_
 refine Zj [3,4] (Zb Zc [] ?_)
 simp only [push_cast,seval,↓reduceIte,Za,hN0,hN]
 refine Zl (t:=(a0 == 0)) rfl (fun c6 => ?_) (fun c6 => ?_)
 ·replace h:=Z0 c6 h
  refine Zj [2] (Zb Zc [] ?_)
  simp only [push_cast,seval,↓reduceIte,Za,hN0,hN]
  refine Zs ?_
  try simp only [Zh,Zf]
  have h:=Option.some.inj h;subst h
  refine Zq (.inr rfl) hU [.val (.int .i64 0)] (by omega) ?_
  simp only [push_cast,seval,↓reduceIte,Za,Try.results95,hN0,hN]
 replace h:=Zz c6 h
 refine Zj [3,6] (Zb Zc [] ?_)
 simp only [push_cast,seval,↓reduceIte,Za,hN0,hN]
 refine Zl (t:=(a0 == 1)) rfl (fun c5 => ?_) (fun c5 => ?_)
 ·replace h:=Z0 c5 h
  refine Zj [2] (Zb Zc [] ?_)
  simp only [push_cast,seval,↓reduceIte,Za,hN0,hN]
  refine Zs ?_
  try simp only [Zh,Zf]
  have h:=Option.some.inj h;subst h
  refine Zq (.inr rfl) hU [.val (.int .i64 1)] (by omega) ?_
  simp only [push_cast,seval,↓reduceIte,Za,Try.results95,hN0,hN]
 replace h:=Zz c5 h
 refine Zj [3,8] (Zb Zc [] ?_)
 simp only [push_cast,seval,↓reduceIte,Za,hN0,hN]
 refine Zl (t:=(a0 == 2)) rfl (fun c4 => ?_) (fun c4 => ?_)
 ·replace h:=Z0 c4 h
  refine Zj [2] (Zb Zc [] ?_)
  simp only [push_cast,seval,↓reduceIte,Za,hN0,hN]
  refine Zs ?_
  try simp only [Zh,Zf]
  have h:=Option.some.inj h;subst h
  refine Zq (.inr rfl) hU [.val (.int .i64 8)] (by omega) ?_
  simp only [push_cast,seval,↓reduceIte,Za,Try.results95,hN0,hN]
 replace h:=Zz c4 h
 refine Zj [3,10] (Zb Zc [] ?_)
 simp only [push_cast,seval,↓reduceIte,Za,hN0,hN]
 refine Zl (t:=(a0 == 3)) rfl (fun c3 => ?_) (fun c3 => ?_)
 ·replace h:=Z0 c3 h
  refine Zj [2] (Zb Zc [] ?_)
  simp only [push_cast,seval,↓reduceIte,Za,hN0,hN]
  refine Zs ?_
  try simp only [Zh,Zf]
  have h:=Option.some.inj h;subst h
  refine Zq (.inr rfl) hU [.val (.int .i64 16)] (by omega) ?_
  simp only [push_cast,seval,↓reduceIte,Za,Try.results95,hN0,hN]
 replace h:=Zz c3 h
 refine Zj [3,12] (Zb Zc [] ?_)
 simp only [push_cast,seval,↓reduceIte,Za,hN0,hN]
 refine Zl (t:=(a0 == 4)) rfl (fun c2 => ?_) (fun c2 => ?_)
 ·replace h:=Z0 c2 h
  refine Zj [2] (Zb Zc [] ?_)
  simp only [push_cast,seval,↓reduceIte,Za,hN0,hN]
  refine Zs ?_
  try simp only [Zh,Zf]
  have h:=Option.some.inj h;subst h
  refine Zq (.inr rfl) hU [.val (.int .i64 32)] (by omega) ?_
  simp only [push_cast,seval,↓reduceIte,Za,Try.results95,hN0,hN]
 replace h:=Zz c2 h
 refine Zj [14] (Zb Zc [] ?_)
 simp only [push_cast,seval,↓reduceIte,Za,hN0,hN]
 refine Zl (t:=(a0 == 5)) rfl (fun c1 => ?_) (fun c1 => ?_)
 ·replace h:=Z0 c1 h
  refine Zj [2] (Zb Zc [] ?_)
  simp only [push_cast,seval,↓reduceIte,Za,hN0,hN]
  refine Zs ?_
  try simp only [Zh,Zf]
  have h:=Option.some.inj h;subst h
  refine Zq (.inr rfl) hU [.val (.int .i64 64)] (by omega) ?_
  simp only [push_cast,seval,↓reduceIte,Za,Try.results95,hN0,hN]
 replace h:=Zz c1 h
 refine Zp ?_
 try simp only [Zh,Zf]
 refine Zm [] [] ?_
 simp only [push_cast,seval,↓reduceIte]
 refine Zj [2] (Zb Zc [] ?_)
 simp only [push_cast,seval,↓reduceIte,Za,hN0,hN]
 refine Zs ?_
 try simp only [Zh,Zf]
 have h:=Option.some.inj h;subst h
 refine Zq (.inr rfl) hU [.val (.int .i64 (-1))] (by omega) ?_
 simp only [push_cast,seval,↓reduceIte,Za,Try.results95,hN0,hN]
theorem Gq {a0:Int} {a1:Int} {r:Bool} {O:Objs} {n:Nat} (h:Qb a0 a1=some r):GTo Try.prog 55 [.val (.int .i64 a0),.val (.int .u64 a1)] O n (.val (.bool r)) O n:=by
 unfold Qb at h
 refine Yi Zc Try.call55 Try.func55 rfl (Nat.le_of_ble_eq_true rfl) (Nat.le_refl _) fun hU => ?_
 have hN0:O n=none:=hU.fresh _ (Nat.le_refl _)
 have hN:∀ k,O (n+k)=none:=fun k=>hU.fresh _ (Nat.le_add_right _ _)
 show W _ _ _ _ ⟨20,[],[(0,.val (.int .i64 a0)),(1,.val (.int .u64 a1))]⟩ (Zw O n []) _
 refine Zj [0,1] (Zb Zc [] ?_)
 simp only [push_cast,seval,↓reduceIte,Za,hN0,hN]
 refine Zi ?_
 obtain ⟨y2,hy2,h⟩:=bC h
 refine Zb Zc [] ?_
 simp only [push_cast,seval,↓reduceIte,Za,hN0,hN]
 refine (Ks hy2).then ?_
 simp only [push_cast,seval,↓reduceIte,Za,hN0,hN]
 refine Zm [1,5] [] ?_
 simp only [push_cast,seval,↓reduceIte]
 refine Zi ?_
 refine Zj [1,5,10] (Zb Zc [] ?_)
 simp only [push_cast,seval,↓reduceIte,Za,hN0,hN]
 refine Zl (t:=(decide (y2 < 0))) rfl (fun c5 => ?_) (fun c5 => ?_)
 ·replace h:=Z0 c5 h
  refine Zj [4] (Zb Zc [] ?_)
  simp only [push_cast,seval,↓reduceIte,Za,hN0,hN]
  refine Zs ?_
  try simp only [Zh,Zf]
  have h:=Option.some.inj h;subst h
  refine Zq (.inr rfl) hU [.val (.bool false)] (by omega) ?_
  simp only [push_cast,seval,↓reduceIte,Za,Try.results55,hN0,hN]
 replace h:=Zz c5 h
 refine Zp ?_
 try simp only [Zh,Zf]
 refine Zm [1,5] [] ?_
 simp only [push_cast,seval,↓reduceIte]
 refine Zi ?_
 refine Zj [1,5,6] (Zb Zc [] ?_)
 simp only [push_cast,seval,↓reduceIte,Za,hN0,hN]
 refine Zm [1,5,6] [] ?_
 simp only [push_cast,seval,↓reduceIte]
 obtain ⟨z4,hz4,h⟩:=bC h
 refine Xb (E':=⟨20,[],[(1,.val (.int .u64 z4))]⟩) (O':=(Zw O n [])) (n0:=n) ?_ ?_
 ·refine X7 hz4 (fun s0_=>⟨20,[],[(1,.val (.int .u64 s0_.1)),(5,.val (.int .i64 y2)),(6,.val (.int .i64 s0_.2))]⟩) (fun s0_=>(Zw O n [])) (fun z4=>JX 0 n (⟨20,[],[(1,.val (.int .u64 z4))]⟩:Env) (Zw O n []) n) ?_
  intro s0_ x0_ hs0_
  unfold Yz at hs0_
  try dsimp only
  refine Zi ?_
  refine Zj [1,5,6,13] (Zb Zc [] ?_)
  simp only [push_cast,seval,↓reduceIte,Za,hN0,hN]
  refine Zl (t:=(decide (s0_.2 < y2))) rfl (fun c3 => ?_) (fun c3 => ?_)
  ·replace hs0_:=Z0 c3 hs0_
   refine Zp ?_
   try simp only [Zh,Zf]
   refine Zm [1,5,6] [] ?_
   simp only [push_cast,seval,↓reduceIte]
   refine Zi ?_
   refine Ya ?_
   refine Zb Zc [] ?_
   simp only [push_cast,seval,↓reduceIte,Za,hN0,hN]
   refine Zm [1,5,6] [] ?_
   simp only [push_cast,seval,↓reduceIte]
   refine Zb Zc [] ?_
   simp only [push_cast,seval,↓reduceIte,Za,hN0,hN]
   have hs0_:=Option.some.inj hs0_;subst hs0_
   refine And.intro rfl (Fit2.of (Zk hU rfl rfl ?_) (by omega))
   simp only [push_cast,seval,↓reduceIte,Za,hN0,hN]
  replace hs0_:=Zz c3 hs0_
  refine X0 ?_
  try simp only [Zh,Zf,↓reduceIte,Nat.reduceEqDiff]
  have hs0_:=Option.some.inj hs0_;subst hs0_
  refine And.intro (fun h=>by cases h) (And.intro rfl (Fit2.of (Zk hU rfl rfl ?_) (by omega)))
  simp only [push_cast,seval,↓reduceIte,Za,hN0,hN]
 try simp only [Zh,Zf,↓reduceIte,Nat.reduceEqDiff]
 refine Zm [1] [] ?_
 simp only [push_cast,seval,↓reduceIte]
 refine Zj [4] (Zb Zc [] ?_)
 simp only [push_cast,seval,↓reduceIte,Za,hN0,hN]
 refine Zs ?_
 try simp only [Zh,Zf]
 have h:=Option.some.inj h;subst h
 refine Zq (.inr rfl) hU [.val (.bool (z4 == 0))] (by omega) ?_
 simp only [push_cast,seval,↓reduceIte,Za,Try.results55,hN0,hN]
theorem Zj3 {Qs:(Zd→Int→Option Bool)} (Zjo:∀ {a0:Zd} {a1:Int} {r:Bool} {O:Objs} {n:Nat},Qs a0 a1=some r→GTo Try.prog 27 [.agg (Ze a0),.val (.int .i64 a1)] O n (.val (.bool r)) O n) {a0:Zd} {a1:Int} {r:Bool} {O:Objs} {n:Nat} (h:Jl Qs a0 a1=some r):GTo Try.prog 27 [.agg (Ze a0),.val (.int .i64 a1)] O n (.val (.bool r)) O n:=by
 unfold Jl at h
 refine Yi Zc Try.call27 Try.func27 rfl (Nat.le_of_ble_eq_true rfl) (Nat.le_refl _) fun hU => ?_
 have hN0:O n=none:=hU.fresh _ (Nat.le_refl _)
 have hN:∀ k,O (n+k)=none:=fun k=>hU.fresh _ (Nat.le_add_right _ _)
 show W _ _ _ _ ⟨132,[],[(0,.agg (Ze a0)),(1,.val (.int .i64 a1))]⟩ (Zw O n []) _
 refine Zj [1,2] (Zb Zc [] ?_)
 simp only [push_cast,seval,↓reduceIte,Za,hN0,hN]
 refine Zi ?_
 refine Zj [1,2,10] (Zb Zc [] ?_)
 simp only [push_cast,seval,↓reduceIte,Za,hN0,hN]
 refine Zl (t:=(a0.Kind == 0)) rfl (fun c32 => ?_) (fun c32 => ?_)
 ·replace h:=Z0 c32 h
  refine Zj [4] (Zb Zc [none,none,none,none] ?_)
  simp only [push_cast,seval,↓reduceIte,Za,hN0,hN]
  repeat (with_reducible refine And.intro (by first | (intro h0;simp only [h0,and_self];done) | (intro h0;simp only [h0,Bool.not_false,Bool.not_true,Bool.true_and,Bool.and_true,true_and,and_true,and_self,imp_self,implies_true,bne_iff_ne,ne_eq,beq_iff_eq];done) | (intros;simp_all;done) | exact True.intro) ?_)
  refine Zs ?_
  try simp only [Zh,Zf]
  have h:=Option.some.inj h;subst h
  refine Zq (.inr rfl) hU [.val (.bool (cond ((a0.Words.length:Int) == 0) ((a0.Kids.length:Int) == 0) false))] (by omega) ?_
  simp only [push_cast,seval,↓reduceIte,Za,Try.results27,hN0,hN]
 replace h:=Zz c32 h
 refine Zp ?_
 try simp only [Zh,Zf]
 refine Zm [1,2] [true] ?_
 simp only [push_cast,seval,↓reduceIte]
 refine Zi ?_
 refine Zj [1,2,23] (Zb Zc [] ?_)
 simp only [push_cast,seval,↓reduceIte,Za,hN0,hN]
 refine Zl (t:=(a0.Kind == 10)) rfl (fun c31 => ?_) (fun c31 => ?_)
 ·replace h:=Z0 c31 h
  refine Zj [4] (Zb Zc [none,none,none,none] ?_)
  simp only [push_cast,seval,↓reduceIte,Za,hN0,hN]
  repeat (with_reducible refine And.intro (by first | (intro h0;simp only [h0,and_self];done) | (intro h0;simp only [h0,Bool.not_false,Bool.not_true,Bool.true_and,Bool.and_true,true_and,and_true,and_self,imp_self,implies_true,bne_iff_ne,ne_eq,beq_iff_eq];done) | (intros;simp_all;done) | exact True.intro) ?_)
  refine Zs ?_
  try simp only [Zh,Zf]
  have h:=Option.some.inj h;subst h
  refine Zq (.inr rfl) hU [.val (.bool (cond ((a0.Words.length:Int) == 1) ((a0.Kids.length:Int) == 0) false))] (by omega) ?_
  simp only [push_cast,seval,↓reduceIte,Za,Try.results27,hN0,hN]
 replace h:=Zz c31 h
 refine Zp ?_
 try simp only [Zh,Zf]
 refine Zm [1,2] [true] ?_
 simp only [push_cast,seval,↓reduceIte]
 refine Zi ?_
 refine Zj [1,2,68] (Zb Zc [none,none,none,none,none,none,none,none,none,none,none,none,none,none,none,none,none,none,none,none,none,none] ?_)
 simp only [push_cast,seval,↓reduceIte,Za,hN0,hN]
 repeat (with_reducible refine And.intro (by first | (intro h0;simp only [h0,and_self];done) | (intro h0;simp only [h0,Bool.not_false,Bool.not_true,Bool.true_and,Bool.and_true,true_and,and_true,and_self,imp_self,implies_true,bne_iff_ne,ne_eq,beq_iff_eq];done) | (intros;simp_all;done) | exact True.intro) ?_)
 refine Zl (t:=(cond (cond (cond (cond (cond (decide (a0.Kind < 0)) true (decide (10 < a0.Kind))) true (a1 == 0)) true (decide (65536≤(a0.Words.length:Int)))) true (cond (a0.Kind == 1) (decide (65536≤(a0.Kids.length:Int))) false)) true (decide (1048576≤(a0.Kids.length:Int))))) rfl (fun c30 => ?_) (fun c30 => ?_)
 ·replace h:=Z0 c30 h
  refine Zj [4] (Zb Zc [] ?_)
  simp only [push_cast,seval,↓reduceIte,Za,hN0,hN]
  refine Zs ?_
  try simp only [Zh,Zf]
  have h:=Option.some.inj h;subst h
  refine Zq (.inr rfl) hU [.val (.bool false)] (by omega) ?_
  simp only [push_cast,seval,↓reduceIte,Za,Try.results27,hN0,hN]
 replace h:=Zz c30 h
 refine Zp ?_
 try simp only [Zh,Zf]
 refine Zm [1,2] [true] ?_
 simp only [push_cast,seval,↓reduceIte]
 refine Zi ?_
 refine Zj [1,2,77] (Zb Zc [none,none,none,none] ?_)
 simp only [push_cast,seval,↓reduceIte,Za,hN0,hN]
 repeat (with_reducible refine And.intro (by first | (intro h0;simp only [h0,and_self];done) | (intro h0;simp only [h0,Bool.not_false,Bool.not_true,Bool.true_and,Bool.and_true,true_and,and_true,and_self,imp_self,implies_true,bne_iff_ne,ne_eq,beq_iff_eq];done) | (intros;simp_all;done) | exact True.intro) ?_)
 refine Zl (t:=(cond (decide (1 < a0.Kind)) (decide (0 < (a0.Words.length:Int))) false)) rfl (fun c29 => ?_) (fun c29 => ?_)
 ·replace h:=Z0 c29 h
  refine Zj [4] (Zb Zc [] ?_)
  simp only [push_cast,seval,↓reduceIte,Za,hN0,hN]
  refine Zs ?_
  try simp only [Zh,Zf]
  have h:=Option.some.inj h;subst h
  refine Zq (.inr rfl) hU [.val (.bool false)] (by omega) ?_
  simp only [push_cast,seval,↓reduceIte,Za,Try.results27,hN0,hN]
 replace h:=Zz c29 h
 refine Zp ?_
 try simp only [Zh,Zf]
 refine Zm [1,2] [true] ?_
 simp only [push_cast,seval,↓reduceIte]
 refine Zi ?_
 refine Zj [1,2,5] (Zb Zc [] ?_)
 simp only [push_cast,seval,↓reduceIte,Za,hN0,hN]
 refine Zm [1,2,5] [true] ?_
 simp only [push_cast,seval,↓reduceIte]
 obtain ⟨z28,hz28,h⟩:=bC h
 refine Zlc (J:=(Ga (fun z28=>JR n (⟨132,[],[(4,.val (.bool false))]⟩:Env) (Zw O n [none]) (n+1)) (fun z28=>JX 0 n (⟨132,[],[]⟩:Env) (Zw O n [none]) (n+1)))) (z:=z28) ?_ fun hw => ?_
 ·refine X7 hz28 (fun s0_=>⟨132,[],[(1,.val (.int .i64 a1)),(2,.ref n 0),(5,.val (.int .i64 s0_))]⟩) (fun s0_=>(Zw O n [some ⟨false,25,3,1,(Ze a0)⟩])) (Ga (fun z28=>JR n (⟨132,[],[(4,.val (.bool false))]⟩:Env) (Zw O n [none]) (n+1)) (fun z28=>JX 0 n (⟨132,[],[]⟩:Env) (Zw O n [none]) (n+1))) ?_
  intro s0_ x0_ hs0_
  unfold Ql at hs0_
  try dsimp only
  refine Zi ?_
  refine Zj [1,2,5,82] (Zb Zc [] ?_)
  simp only [push_cast,seval,↓reduceIte,Za,hN0,hN]
  refine Zl (t:=(decide (s0_ < (a0.Kids.length:Int)))) rfl (fun c27 => ?_) (fun c27 => ?_)
  ·replace hs0_:=Z0 c27 hs0_
   refine Zp ?_
   try simp only [Zh,Zf]
   refine Zm [1,2,5] [true] ?_
   simp only [push_cast,seval,↓reduceIte]
   refine Zi ?_
   refine Ya ?_
   refine Zi ?_
   obtain ⟨x2,hx2,ax2,bx2,cx2,hs0_⟩:=bE (f:=Zg) J3 (fun _=>rfl) (by decide) hs0_
   refine Zb Zc [] ?_
   simp only [push_cast,Nat.reduceAdd,Nat.reduceSub,Nat.reduceMul,Nat.reduceLeDiff,Nat.reduceLT,Nat.reduceEqDiff,↓reduceIte,reduceCtorEq,Int.reduceBEq,Int.reduceBNe,Nat.reduceBEq,Int.reduceLE,Int.reduceLT,Int.reduceEq,Int.reduceNe,Int.reduceNeg,Nat.reduceDiv,Nat.reduceMod,Nat.reducePow,Za,ax2,bx2,cx2,hN0,hN]
   refine Zm [1,2,5,6] [true,true] ?_
   simp only [push_cast,seval,↓reduceIte]
   refine Zi ?_
   refine Zi ?_
   obtain ⟨y4,hy4,hs0_⟩:=bC hs0_
   refine Zb Zc [] ?_
   simp only [push_cast,seval,↓reduceIte,Za,hN0,hN]
   refine (Zjo hy4).then ?_
   simp only [push_cast,seval,↓reduceIte,Za,hN0,hN]
   refine Zm [1,2,5,6,94] [true,true] ?_
   simp only [push_cast,seval,↓reduceIte]
   refine Zl (t:=(!y4)) rfl (fun c26 => ?_) (fun c26 => ?_)
   ·replace hs0_:=Z0 c26 hs0_
    refine Zj [4] (Zb Zc [] ?_)
    simp only [push_cast,seval,↓reduceIte,Za,hN0,hN]
    refine Zs ?_
    try simp only [Zh,Zf]
    have hs0_:=Option.some.inj hs0_;subst hs0_
    refine And.intro (fun h=>by cases h) (And.intro rfl (Fit2.of (Zk hU rfl rfl ?_) (by omega)))
    simp only [push_cast,seval,↓reduceIte,Za,hN0,hN]
   replace hs0_:=Zz c26 hs0_
   refine Zp ?_
   try simp only [Zh,Zf]
   refine Zm [1,2,5,6] [true,true] ?_
   simp only [push_cast,seval,↓reduceIte]
   refine Zj [1,2,5,6,7] (Zb Zc [none,none,none] ?_)
   simp only [push_cast,seval,↓reduceIte,Za,hN0,hN]
   repeat (with_reducible refine And.intro (by first | (intro h0;simp only [h0,and_self];done) | (intro h0;simp only [h0,Bool.not_false,Bool.not_true,Bool.true_and,Bool.and_true,true_and,and_true,and_self,imp_self,implies_true,bne_iff_ne,ne_eq,beq_iff_eq];done) | (intros;simp_all;done) | exact True.intro) ?_)
   obtain ⟨z9,hz9,hs0_⟩:=bC hs0_
   refine Yk (E':=⟨132,[],[(1,.val (.int .i64 a1)),(2,.ref n 0),(5,.val (.int .i64 s0_)),(131,.val (.bool z9))]⟩) (O':=(Zw O n [some ⟨false,25,3,1,(Ze a0)⟩,none])) (n0:=(n+2)) ?_ ?_
   ·rcases Bool.eq_false_or_eq_true ((cond (decide (2≤a0.Kind)) (decide (a0.Kind≤7)) false) != (x2.Kind == 10)) with c18 | c18
    ·replace hz9:=Z0 c18 hz9
     refine Y2 Zc (by kernel_rfl) (Zvz (Zs6 [])) (by kernel_rfl) ?_
     simp only [push_cast,seval,↓reduceIte,Za,c18,hN0,hN]
     repeat (with_reducible refine And.intro (by first | (intro h0;simp only [h0,and_self];done) | (intro h0;simp only [h0,Bool.not_false,Bool.not_true,Bool.true_and,Bool.and_true,true_and,and_true,and_self,imp_self,implies_true,bne_iff_ne,ne_eq,beq_iff_eq];done) | (intros;simp_all;done) | exact True.intro) ?_)
     have hz9:=Option.some.inj hz9;subst hz9
     refine And.intro rfl (Fit2.of (Zk hU rfl rfl ?_) (by omega))
     simp only [push_cast,seval,↓reduceIte,Za,c18,hN0,hN]
    replace hz9:=Zz c18 hz9
    rcases Bool.eq_false_or_eq_true (a0.Kind == 9) with c19 | c19
    ·replace hz9:=Z0 c19 hz9
     try rw [c19] at c18
     try simp only [Bool.cond_true,Bool.cond_false,Bool.true_bne,Bool.false_bne,Bool.true_beq,Bool.false_beq,Bool.not_eq_true',Bool.not_eq_false'] at c18
     rcases Bool.eq_false_or_eq_true (x2.Kind != 1) with c20 | c20
     ·replace hz9:=Z0 c20 hz9
      try rw [c20] at c18
      try rw [c20] at c19
      try simp only [Bool.cond_true,Bool.cond_false,Bool.true_bne,Bool.false_bne,Bool.true_beq,Bool.false_beq,Bool.not_eq_true',Bool.not_eq_false'] at c18
      refine Y2 Zc (by kernel_rfl) (Zvz (Zs6 [])) (by kernel_rfl) ?_
      simp only [push_cast,seval,↓reduceIte,Za,c18,c19,c20,hN0,hN]
      repeat (with_reducible refine And.intro (by first | (intro h0;simp only [h0,and_self];done) | (intro h0;simp only [h0,Bool.not_false,Bool.not_true,Bool.true_and,Bool.and_true,true_and,and_true,and_self,imp_self,implies_true,bne_iff_ne,ne_eq,beq_iff_eq];done) | (intros;simp_all;done) | exact True.intro) ?_)
      have hz9:=Option.some.inj hz9;subst hz9
      refine And.intro rfl (Fit2.of (Zk hU rfl rfl ?_) (by omega))
      simp only [push_cast,seval,↓reduceIte,Za,c18,c19,c20,hN0,hN]
     replace hz9:=Zz c20 hz9
     try rw [c20] at c18
     try rw [c20] at c19
     try simp only [Bool.cond_true,Bool.cond_false,Bool.true_bne,Bool.false_bne,Bool.true_beq,Bool.false_beq,Bool.not_eq_true',Bool.not_eq_false'] at c18
     rcases Bool.eq_false_or_eq_true (decide (2≤a0.Kind)) with c21 | c21
     ·replace hz9:=Z0 c21 hz9
      try rw [c21] at c18
      try rw [c21] at c19
      try rw [c21] at c20
      try simp only [Bool.cond_true,Bool.cond_false,Bool.true_bne,Bool.false_bne,Bool.true_beq,Bool.false_beq,Bool.not_eq_true',Bool.not_eq_false'] at c18
      rcases Bool.eq_false_or_eq_true (decide (a0.Kind≤7)) with c22 | c22
      ·replace hz9:=Z0 c22 hz9
       try rw [c22] at c18
       try rw [c22] at c19
       try rw [c22] at c20
       try rw [c22] at c21
       try simp only [Bool.cond_true,Bool.cond_false,Bool.true_bne,Bool.false_bne,Bool.true_beq,Bool.false_beq,Bool.not_eq_true',Bool.not_eq_false'] at c18
       obtain ⟨x14,hx14,ax14,bx14,cx14,hz9⟩:=bE (f:=(eI .u64)) K4 (fun _=>rfl) (by decide) hz9
       obtain ⟨y15,hy15,hz9⟩:=bC hz9
       refine Y2 Zc (by kernel_rfl) (Zvz (Zv0 [])) (by kernel_rfl) ?_
       simp only [push_cast,Nat.reduceAdd,Nat.reduceSub,Nat.reduceMul,Nat.reduceLeDiff,Nat.reduceLT,Nat.reduceEqDiff,↓reduceIte,reduceCtorEq,Int.reduceBEq,Int.reduceBNe,Nat.reduceBEq,Int.reduceLE,Int.reduceLT,Int.reduceEq,Int.reduceNe,Int.reduceNeg,Nat.reduceDiv,Nat.reduceMod,Nat.reducePow,Za,c18,c19,c20,c21,c22,ax14,bx14,cx14,hN0,hN]
       repeat (with_reducible refine And.intro (by first | (intro h0;simp only [h0,and_self];done) | (intro h0;simp only [h0,Bool.not_false,Bool.not_true,Bool.true_and,Bool.and_true,true_and,and_true,and_self,imp_self,implies_true,bne_iff_ne,ne_eq,beq_iff_eq];done) | (intros;simp_all;done) | exact True.intro) ?_)
       refine PCall.of (Gq hy15) ?_
       simp only [push_cast,Nat.reduceAdd,Nat.reduceSub,Nat.reduceMul,Nat.reduceLeDiff,Nat.reduceLT,Nat.reduceEqDiff,↓reduceIte,reduceCtorEq,Int.reduceBEq,Int.reduceBNe,Nat.reduceBEq,Int.reduceLE,Int.reduceLT,Int.reduceEq,Int.reduceNe,Int.reduceNeg,Nat.reduceDiv,Nat.reduceMod,Nat.reducePow,Za,c18,c19,c20,c21,c22,ax14,bx14,cx14,hN0,hN]
       repeat (with_reducible refine And.intro (by first | (intro h0;simp only [h0,and_self];done) | (intro h0;simp only [h0,Bool.not_false,Bool.not_true,Bool.true_and,Bool.and_true,true_and,and_true,and_self,imp_self,implies_true,bne_iff_ne,ne_eq,beq_iff_eq];done) | (intros;simp_all;done) | exact True.intro) ?_)
       have hz9:=Option.some.inj hz9;subst hz9
       refine And.intro rfl (Fit2.of (Zk hU rfl rfl ?_) (by omega))
       simp only [push_cast,Nat.reduceAdd,Nat.reduceSub,Nat.reduceMul,Nat.reduceLeDiff,Nat.reduceLT,Nat.reduceEqDiff,↓reduceIte,reduceCtorEq,Int.reduceBEq,Int.reduceBNe,Nat.reduceBEq,Int.reduceLE,Int.reduceLT,Int.reduceEq,Int.reduceNe,Int.reduceNeg,Nat.reduceDiv,Nat.reduceMod,Nat.reducePow,Za,c18,c19,c20,c21,c22,ax14,bx14,cx14,hN0,hN]
      replace hz9:=Zz c22 hz9
      try rw [c22] at c18
      try rw [c22] at c19
      try rw [c22] at c20
      try rw [c22] at c21
      try simp only [Bool.cond_true,Bool.cond_false,Bool.true_bne,Bool.false_bne,Bool.true_beq,Bool.false_beq,Bool.not_eq_true',Bool.not_eq_false'] at c18
      refine Y2 Zc (by kernel_rfl) (Zvz (Xl::Xl::Z2m [Xl])) (by kernel_rfl) ?_
      simp only [push_cast,seval,↓reduceIte,Za,c18,c19,c20,c21,c22,hN0,hN]
      repeat (with_reducible refine And.intro (by first | (intro h0;simp only [h0,and_self];done) | (intro h0;simp only [h0,Bool.not_false,Bool.not_true,Bool.true_and,Bool.and_true,true_and,and_true,and_self,imp_self,implies_true,bne_iff_ne,ne_eq,beq_iff_eq];done) | (intros;simp_all;done) | exact True.intro) ?_)
      have hz9:=Option.some.inj hz9;subst hz9
      refine And.intro rfl (Fit2.of (Zk hU rfl rfl ?_) (by omega))
      simp only [push_cast,seval,↓reduceIte,Za,c18,c19,c20,c21,c22,hN0,hN]
     replace hz9:=Zz c21 hz9
     try rw [c21] at c18
     try rw [c21] at c19
     try rw [c21] at c20
     try simp only [Bool.cond_true,Bool.cond_false,Bool.true_bne,Bool.false_bne,Bool.true_beq,Bool.false_beq,Bool.not_eq_true',Bool.not_eq_false'] at c18
     refine Y2 Zc (by kernel_rfl) (Zvz (Xl::Xl::Z2m [Xl])) (by kernel_rfl) ?_
     simp only [push_cast,seval,↓reduceIte,Za,c18,c19,c20,c21,hN0,hN]
     repeat (with_reducible refine And.intro (by first | (intro h0;simp only [h0,and_self];done) | (intro h0;simp only [h0,Bool.not_false,Bool.not_true,Bool.true_and,Bool.and_true,true_and,and_true,and_self,imp_self,implies_true,bne_iff_ne,ne_eq,beq_iff_eq];done) | (intros;simp_all;done) | exact True.intro) ?_)
     have hz9:=Option.some.inj hz9;subst hz9
     refine And.intro rfl (Fit2.of (Zk hU rfl rfl ?_) (by omega))
     simp only [push_cast,seval,↓reduceIte,Za,c18,c19,c20,c21,hN0,hN]
    replace hz9:=Zz c19 hz9
    try rw [c19] at c18
    try simp only [Bool.cond_true,Bool.cond_false,Bool.true_bne,Bool.false_bne,Bool.true_beq,Bool.false_beq,Bool.not_eq_true',Bool.not_eq_false'] at c18
    rcases Bool.eq_false_or_eq_true (decide (2≤a0.Kind)) with c23 | c23
    ·replace hz9:=Z0 c23 hz9
     try rw [c23] at c18
     try rw [c23] at c19
     try simp only [Bool.cond_true,Bool.cond_false,Bool.true_bne,Bool.false_bne,Bool.true_beq,Bool.false_beq,Bool.not_eq_true',Bool.not_eq_false'] at c18
     rcases Bool.eq_false_or_eq_true (decide (a0.Kind≤7)) with c24 | c24
     ·replace hz9:=Z0 c24 hz9
      try rw [c24] at c18
      try rw [c24] at c19
      try rw [c24] at c23
      try simp only [Bool.cond_true,Bool.cond_false,Bool.true_bne,Bool.false_bne,Bool.true_beq,Bool.false_beq,Bool.not_eq_true',Bool.not_eq_false'] at c18
      obtain ⟨x16,hx16,ax16,bx16,cx16,hz9⟩:=bE (f:=(eI .u64)) K4 (fun _=>rfl) (by decide) hz9
      obtain ⟨y17,hy17,hz9⟩:=bC hz9
      refine Y2 Zc (by kernel_rfl) (Zvz (Zv0 [])) (by kernel_rfl) ?_
      simp only [push_cast,Nat.reduceAdd,Nat.reduceSub,Nat.reduceMul,Nat.reduceLeDiff,Nat.reduceLT,Nat.reduceEqDiff,↓reduceIte,reduceCtorEq,Int.reduceBEq,Int.reduceBNe,Nat.reduceBEq,Int.reduceLE,Int.reduceLT,Int.reduceEq,Int.reduceNe,Int.reduceNeg,Nat.reduceDiv,Nat.reduceMod,Nat.reducePow,Za,c18,c19,c23,c24,ax16,bx16,cx16,hN0,hN]
      repeat (with_reducible refine And.intro (by first | (intro h0;simp only [h0,and_self];done) | (intro h0;simp only [h0,Bool.not_false,Bool.not_true,Bool.true_and,Bool.and_true,true_and,and_true,and_self,imp_self,implies_true,bne_iff_ne,ne_eq,beq_iff_eq];done) | (intros;simp_all;done) | exact True.intro) ?_)
      refine PCall.of (Gq hy17) ?_
      simp only [push_cast,Nat.reduceAdd,Nat.reduceSub,Nat.reduceMul,Nat.reduceLeDiff,Nat.reduceLT,Nat.reduceEqDiff,↓reduceIte,reduceCtorEq,Int.reduceBEq,Int.reduceBNe,Nat.reduceBEq,Int.reduceLE,Int.reduceLT,Int.reduceEq,Int.reduceNe,Int.reduceNeg,Nat.reduceDiv,Nat.reduceMod,Nat.reducePow,Za,c18,c19,c23,c24,ax16,bx16,cx16,hN0,hN]
      repeat (with_reducible refine And.intro (by first | (intro h0;simp only [h0,and_self];done) | (intro h0;simp only [h0,Bool.not_false,Bool.not_true,Bool.true_and,Bool.and_true,true_and,and_true,and_self,imp_self,implies_true,bne_iff_ne,ne_eq,beq_iff_eq];done) | (intros;simp_all;done) | exact True.intro) ?_)
      have hz9:=Option.some.inj hz9;subst hz9
      refine And.intro rfl (Fit2.of (Zk hU rfl rfl ?_) (by omega))
      simp only [push_cast,Nat.reduceAdd,Nat.reduceSub,Nat.reduceMul,Nat.reduceLeDiff,Nat.reduceLT,Nat.reduceEqDiff,↓reduceIte,reduceCtorEq,Int.reduceBEq,Int.reduceBNe,Nat.reduceBEq,Int.reduceLE,Int.reduceLT,Int.reduceEq,Int.reduceNe,Int.reduceNeg,Nat.reduceDiv,Nat.reduceMod,Nat.reducePow,Za,c18,c19,c23,c24,ax16,bx16,cx16,hN0,hN]
     replace hz9:=Zz c24 hz9
     try rw [c24] at c18
     try rw [c24] at c19
     try rw [c24] at c23
     try simp only [Bool.cond_true,Bool.cond_false,Bool.true_bne,Bool.false_bne,Bool.true_beq,Bool.false_beq,Bool.not_eq_true',Bool.not_eq_false'] at c18
     refine Y2 Zc (by kernel_rfl) (Zvz (Xl::Xl::Z2m [Xl])) (by kernel_rfl) ?_
     simp only [push_cast,seval,↓reduceIte,Za,c18,c19,c23,c24,hN0,hN]
     repeat (with_reducible refine And.intro (by first | (intro h0;simp only [h0,and_self];done) | (intro h0;simp only [h0,Bool.not_false,Bool.not_true,Bool.true_and,Bool.and_true,true_and,and_true,and_self,imp_self,implies_true,bne_iff_ne,ne_eq,beq_iff_eq];done) | (intros;simp_all;done) | exact True.intro) ?_)
     have hz9:=Option.some.inj hz9;subst hz9
     refine And.intro rfl (Fit2.of (Zk hU rfl rfl ?_) (by omega))
     simp only [push_cast,seval,↓reduceIte,Za,c18,c19,c23,c24,hN0,hN]
    replace hz9:=Zz c23 hz9
    try rw [c23] at c18
    try rw [c23] at c19
    try simp only [Bool.cond_true,Bool.cond_false,Bool.true_bne,Bool.false_bne,Bool.true_beq,Bool.false_beq,Bool.not_eq_true',Bool.not_eq_false'] at c18
    refine Y2 Zc (by kernel_rfl) (Zvz (Xl::Xl::Z2m [Xl])) (by kernel_rfl) ?_
    simp only [push_cast,seval,↓reduceIte,Za,c18,c19,c23,hN0,hN]
    repeat (with_reducible refine And.intro (by first | (intro h0;simp only [h0,and_self];done) | (intro h0;simp only [h0,Bool.not_false,Bool.not_true,Bool.true_and,Bool.and_true,true_and,and_true,and_self,imp_self,implies_true,bne_iff_ne,ne_eq,beq_iff_eq];done) | (intros;simp_all;done) | exact True.intro) ?_)
    have hz9:=Option.some.inj hz9;subst hz9
    refine And.intro rfl (Fit2.of (Zk hU rfl rfl ?_) (by omega))
    simp only [push_cast,seval,↓reduceIte,Za,c18,c19,c23,hN0,hN]
   refine Zl (t:=z9) rfl (fun c25 => ?_) (fun c25 => ?_)
   ·replace hs0_:=Z0 c25 hs0_
    refine Zj [4] (Zb Zc [] ?_)
    simp only [push_cast,seval,↓reduceIte,Za,hN0,hN]
    refine Zs ?_
    try simp only [Zh,Zf]
    have hs0_:=Option.some.inj hs0_;subst hs0_
    refine And.intro (fun h=>by cases h) (And.intro rfl (Fit2.of (Zk hU rfl rfl ?_) (by omega)))
    simp only [push_cast,seval,↓reduceIte,Za,hN0,hN]
   replace hs0_:=Zz c25 hs0_
   refine Zp ?_
   try simp only [Zh,Zf]
   refine Zm [1,2,5] [true,false] ?_
   simp only [push_cast,seval,↓reduceIte]
   refine Zb Zc [] ?_
   simp only [push_cast,seval,↓reduceIte,Za,hN0,hN]
   have hs0_:=Option.some.inj hs0_;subst hs0_
   refine And.intro rfl (Fit2.of (Zk hU rfl rfl ?_) (by omega))
   simp only [push_cast,seval,↓reduceIte,Za,hN0,hN]
  replace hs0_:=Zz c27 hs0_
  refine X0 ?_
  try simp only [Zh,Zf,↓reduceIte,Nat.reduceEqDiff]
  have hs0_:=Option.some.inj hs0_;subst hs0_
  refine And.intro (fun h=>by cases h) (And.intro rfl (Fit2.of (Zk hU rfl rfl ?_) (by omega)))
  simp only [push_cast,seval,↓reduceIte,Za,hN0,hN]
 rcases z28 with z28 | z28
 ·dsimp only [Ga] at hw h
  refine Zdr hw ?_
  try simp only [Zh,Zf,↓reduceIte,Nat.reduceEqDiff]
  have h:=Option.some.inj h;subst h
  refine Zq (.inr rfl) hU [.val (.bool false)] (by omega) ?_
  simp only [push_cast,seval,↓reduceIte,Za,Try.results27,hN0,hN]
 dsimp only [Ga] at hw h
 refine Xb hw ?_
 try simp only [Zh,Zf,↓reduceIte,Nat.reduceEqDiff]
 refine Zm [] [false] ?_
 simp only [push_cast,seval,↓reduceIte]
 refine Zj [4] (Zb Zc [] ?_)
 simp only [push_cast,seval,↓reduceIte,Za,hN0,hN]
 refine Zs ?_
 try simp only [Zh,Zf]
 have h:=Option.some.inj h;subst h
 refine Zq (.inr rfl) hU [.val (.bool true)] (by omega) ?_
 simp only [push_cast,seval,↓reduceIte,Za,Try.results27,hN0,hN]
theorem Zhk:∀ k,(∀ {a0:Zd} {a1:Int} {r:Bool} {O:Objs} {n:Nat},(Xr k) a0 a1=some r→GTo Try.prog 27 [.agg (Ze a0),.val (.int .i64 a1)] O n (.val (.bool r)) O n):=fun k=>by
 induction k with
 | zero=>exact @fun a0 a1 r O n h=>(nomatch (show (none:Option _)=some _ from h))
 | succ k ih=>exact @fun a0 a1 r O n h=>Zj3 (ih)  h
theorem U2 {a0:Zd} {a1:Int} {r:Bool} {O:Objs} {n:Nat} (h:Gp a0 a1=some r):GTo Try.prog 27 [.agg (Ze a0),.val (.int .i64 a1)] O n (.val (.bool r)) O n:=by
 obtain ⟨k,hk⟩:=Zjy h
 exact (Zhk k)  hk
theorem Zl0 {a0:(List Int)} {r:(List Int)} {O:Objs} {n:Nat} (h:Kc a0=some r):GTo Try.prog 63 [.sl a0.length (fl (eI .u64) a0)] O n (.sl r.length (fl (eI .u64) r)) O n:=by
 unfold Kc at h
 refine Yi Zc Try.call63 Try.func63 rfl (Nat.le_of_ble_eq_true rfl) (Nat.le_refl _) fun hU => ?_
 have hN0:O n=none:=hU.fresh _ (Nat.le_refl _)
 have hN:∀ k,O (n+k)=none:=fun k=>hU.fresh _ (Nat.le_add_right _ _)
 show W _ _ _ _ ⟨24,[],[(0,.sl a0.length (fl (eI .u64) a0))]⟩ (Zw O n []) _
 refine Zj [0] (Zb Zc [] ?_)
 simp only [push_cast,seval,↓reduceIte,Za,hN0,hN]
 refine Zj [0,3] (Zb Zc [] ?_)
 simp only [push_cast,seval,↓reduceIte,Za,hN0,hN]
 refine Zi ?_
 refine Zm [0,3] [] ?_
 simp only [push_cast,seval,↓reduceIte]
 obtain ⟨z7,hz7,h⟩:=bC h
 refine Xb (E':=⟨24,[],[(0,.sl a0.length (fl (eI .u64) a0)),(3,.val (.int .i64 z7))]⟩) (O':=(Zw O n [])) (n0:=n) ?_ ?_
 ·refine X7 hz7 (fun s0_=>⟨24,[],[(0,.sl a0.length (fl (eI .u64) a0)),(3,.val (.int .i64 s0_))]⟩) (fun s0_=>(Zw O n [])) (fun z7=>JX 0 n (⟨24,[],[(0,.sl a0.length (fl (eI .u64) a0)),(3,.val (.int .i64 z7))]⟩:Env) (Zw O n []) n) ?_
  intro s0_ x0_ hs0_
  unfold Q1 at hs0_
  try dsimp only
  refine Zi ?_
  obtain ⟨z2,hz2,hs0_⟩:=bC hs0_
  refine Yk (E':=⟨24,[],[(0,.sl a0.length (fl (eI .u64) a0)),(3,.val (.int .i64 s0_)),(16,.val (.bool z2))]⟩) (O':=(Zw O n [])) (n0:=n) ?_ ?_
  ·rcases Bool.eq_false_or_eq_true (decide (0 < s0_)) with c5 | c5
   ·replace hz2:=Z0 c5 hz2
    obtain ⟨x4,hx4,ax4,bx4,cx4,hz2⟩:=bE (f:=(eI .u64)) K4 (fun _=>rfl) (by decide) hz2
    refine Zb Zc (Z4m []) ?_
    simp only [push_cast,Nat.reduceAdd,Nat.reduceSub,Nat.reduceMul,Nat.reduceLeDiff,Nat.reduceLT,Nat.reduceEqDiff,↓reduceIte,reduceCtorEq,Int.reduceBEq,Int.reduceBNe,Nat.reduceBEq,Int.reduceLE,Int.reduceLT,Int.reduceEq,Int.reduceNe,Int.reduceNeg,Nat.reduceDiv,Nat.reduceMod,Nat.reducePow,Za,c5,ax4,bx4,cx4,hN0,hN]
    have hz2:=Option.some.inj hz2;subst hz2
    refine And.intro rfl (Fit2.of (Zk hU rfl rfl ?_) (by omega))
    simp only [push_cast,Nat.reduceAdd,Nat.reduceSub,Nat.reduceMul,Nat.reduceLeDiff,Nat.reduceLT,Nat.reduceEqDiff,↓reduceIte,reduceCtorEq,Int.reduceBEq,Int.reduceBNe,Nat.reduceBEq,Int.reduceLE,Int.reduceLT,Int.reduceEq,Int.reduceNe,Int.reduceNeg,Nat.reduceDiv,Nat.reduceMod,Nat.reducePow,Za,c5,ax4,bx4,cx4,hN0,hN]
   replace hz2:=Zz c5 hz2
   refine Zb Zc (Z2l []) ?_
   simp only [push_cast,seval,↓reduceIte,Za,c5,hN0,hN]
   have hz2:=Option.some.inj hz2;subst hz2
   refine And.intro rfl (Fit2.of (Zk hU rfl rfl ?_) (by omega))
   simp only [push_cast,seval,↓reduceIte,Za,c5,hN0,hN]
  refine Zl (t:=z2) rfl (fun c6 => ?_) (fun c6 => ?_)
  ·replace hs0_:=Z0 c6 hs0_
   refine Zp ?_
   try simp only [Zh,Zf]
   refine Zm [0,3] [] ?_
   simp only [push_cast,seval,↓reduceIte]
   refine Ya ?_
   refine Zb Zc [] ?_
   simp only [push_cast,seval,↓reduceIte,Za,hN0,hN]
   have hs0_:=Option.some.inj hs0_;subst hs0_
   refine And.intro rfl (Fit2.of (Zk hU rfl rfl ?_) (by omega))
   simp only [push_cast,seval,↓reduceIte,Za,hN0,hN]
  replace hs0_:=Zz c6 hs0_
  refine X0 ?_
  try simp only [Zh,Zf,↓reduceIte,Nat.reduceEqDiff]
  have hs0_:=Option.some.inj hs0_;subst hs0_
  refine And.intro (fun h=>by cases h) (And.intro rfl (Fit2.of (Zk hU rfl rfl ?_) (by omega)))
  simp only [push_cast,seval,↓reduceIte,Za,hN0,hN]
 try simp only [Zh,Zf,↓reduceIte,Nat.reduceEqDiff]
 refine Zm [0,3] [] ?_
 simp only [push_cast,seval,↓reduceIte]
 refine Zj [0,3,4] (Zb Zc [] ?_)
 simp only [push_cast,seval,↓reduceIte,Za,hN0,hN]
 refine Zi ?_
 obtain ⟨l10,al10,bl10,cl10,gl10,h⟩:=bS (lo:=none) (hi:=(some (.i64,z7))) (f:=(eI .u64)) rfl rfl Zc9 K4 (fun _=>rfl) h
 obtain ⟨l11,pl11,ql11,el11,h⟩:=bA0 (k:=l10.length) rfl h
 refine Zb Zc [] ?_
 simp only [push_cast,seval,↓reduceIte,Za,al10,bl10,cl10,gl10,pl11,ql11,el11,hN0,hN]
 refine Za4 ⟨24,[],[(2,.row n l11.length)]⟩ (Zw O n [some ⟨true,58,1,l11.length,fl (eI .u64) l11⟩]) (Zk hU rfl rfl ?_) ?_
 ·simp only [push_cast,seval,↓reduceIte,Za,al10,bl10,cl10,gl10,pl11,ql11,el11,hN0,hN]
 refine Zs ?_
 try simp only [Zh,Zf]
 have h:=Option.some.inj h;subst h
 refine Zq (.inr rfl) hU [.row n l11.length] (by omega) ?_
 simp only [push_cast,seval,↓reduceIte,Za,Try.results63,hN0,hN]
theorem Zk1 {Q7:(Zd→Option Zd)} (Zj2:∀ {a0:Zd} {r:Zd} {O:Objs} {n:Nat},Q7 a0=some r→GTo Try.prog 31 [.agg (Ze a0)] O n (.agg (Ze r)) O n) {a0:Zd} {r:Zd} {O:Objs} {n:Nat} (h:J7 Q7 a0=some r):GTo Try.prog 31 [.agg (Ze a0)] O n (.agg (Ze r)) O n:=by
 unfold J7 at h
 refine Yi Zc Try.call31 Try.func31 rfl (Nat.le_of_ble_eq_true rfl) (Nat.le_refl _) fun hU => ?_
 have hN0:O n=none:=hU.fresh _ (Nat.le_refl _)
 have hN:∀ k,O (n+k)=none:=fun k=>hU.fresh _ (Nat.le_add_right _ _)
 show W _ _ _ _ ⟨53,[],[(0,.agg (Ze a0))]⟩ (Zw O n []) _
 refine Zj [1,2] (Zb Zc [] ?_)
 simp only [push_cast,seval,↓reduceIte,Za,hN0,hN]
 refine Zi ?_
 refine Zj [1,2,10] (Zb Zc [] ?_)
 simp only [push_cast,seval,↓reduceIte,Za,hN0,hN]
 refine Zl (t:=(a0.Kind == 0)) rfl (fun c19 => ?_) (fun c19 => ?_)
 ·replace h:=Z0 c19 h
  refine Zi ?_
  refine Zb Zc [] ?_
  simp only [push_cast,seval,↓reduceIte,Za,hN0,hN]
  refine Zm [2] [false,true] ?_
  simp only [push_cast,seval,↓reduceIte]
  refine Zs ?_
  try simp only [Zh,Zf]
  have h:=Option.some.inj h;subst h
  refine Zq (.inr rfl) hU [.agg [.val (.int .i64 0),.val (.slice none 0 0),.val (.slice none 0 0)]] (by omega) ?_
  simp only [push_cast,seval,↓reduceIte,Za,Try.results31,hN0,hN]
 replace h:=Zz c19 h
 refine Zp ?_
 try simp only [Zh,Zf]
 refine Zm [1,2] [true,true] ?_
 simp only [push_cast,seval,↓reduceIte]
 refine Zj [1,2,3] (Zb Zc [] ?_)
 simp only [push_cast,seval,↓reduceIte,Za,hN0,hN]
 refine Zj [1,2,3,4] (Zb Zc [] ?_)
 simp only [push_cast,seval,↓reduceIte,Za,hN0,hN]
 refine Zi ?_
 refine Zj [1,2,3,4,5] (Zb Zc [] ?_)
 simp only [push_cast,seval,↓reduceIte,Za,hN0,hN]
 refine Zm [1,2,3,4,5] [true,true] ?_
 simp only [push_cast,seval,↓reduceIte]
 refine Zbk (E':=(⟨53,[],[(1,.ref n 0),(2,.ref (n+1) 0),(3,.row (n+2) ([]:List Zd).length),(4,.val (.int .i64 0)),(5,.val (.int .i64 0))]⟩:Env)) (O':=(Zw O n [some ⟨false,25,3,1,(Ze a0)⟩,some ⟨false,25,3,1,[.val (.int .i64 0),.val (.slice none 0 0),.val (.slice none 0 0)]⟩,some ⟨true,25,3,([]:List Zd).length,fl Zg ([]:List Zd)⟩,none])) (n':=(n+4)) ?_ ?_
 ·refine Fit2.trans (E':=(⟨53,[],[(1,.ref n 0),(2,.ref (n+1) 0),(3,.val (.slice none 0 0)),(4,.val (.int .i64 0)),(5,.val (.int .i64 0))]⟩:Env)) (O':=(Zw O n [some ⟨false,25,3,1,(Ze a0)⟩,some ⟨false,25,3,1,[.val (.int .i64 0),.val (.slice none 0 0),.val (.slice none 0 0)]⟩])) (n':=(n+2)) (Fit2.of (Zk hU rfl rfl ?_) (by omega)) ?_
  ·simp only [push_cast,seval,↓reduceIte,Za,hN0,hN]
  refine Fit2.trans (Zf3 3 25 3 rfl (by omega)) ?_
  simp only [J6,Qg,Vr,Ku,List.set_cons_zero,List.set_cons_succ,List.cons_append,List.nil_append,List.length_cons,List.length_nil,Nat.zero_add,Nat.reduceAdd,Nat.reduceLT,Nat.add_assoc]
  refine Fit2.trans (E':=(⟨53,[],[(1,.ref n 0),(2,.ref (n+1) 0),(3,.row (n+2) ([]:List Zd).length),(4,.val (.int .i64 0)),(5,.val (.int .i64 0))]⟩:Env)) (O':=(Zw O n [some ⟨false,25,3,1,(Ze a0)⟩,some ⟨false,25,3,1,[.val (.int .i64 0),.val (.slice none 0 0),.val (.slice none 0 0)]⟩,some ⟨true,25,3,([]:List Zd).length,fl Zg ([]:List Zd)⟩])) (n':=(n+3)) (Fit2.of (Zk hU rfl rfl ?_) (by omega)) ?_
  ·simp only [push_cast,seval,↓reduceIte,Za,hN0,hN]
  refine Zfs (k:=3) (k':=4) hU [0,1,2] [0,1,2,0] rfl rfl rfl rfl ⟨rfl,rfl⟩ ?_
  simp only [push_cast,seval,↓reduceIte,Za,hN0,hN]
 obtain ⟨z10,hz10,h⟩:=bC h
 refine Xb (E':=⟨53,[],[(1,.ref n 0),(2,.ref (n+1) 0),(3,.row (n+2) z10.2.length),(4,.val (.int .i64 z10.1))]⟩) (O':=(Zw O n [some ⟨false,25,3,1,(Ze a0)⟩,some ⟨false,25,3,1,[.val (.int .i64 0),.val (.slice none 0 0),.val (.slice none 0 0)]⟩,some ⟨true,25,3,z10.2.length,fl Zg z10.2⟩,none])) (n0:=(n+4)) ?_ ?_
 ·refine X7 hz10 (fun s0_=>⟨53,[],[(1,.ref n 0),(2,.ref (n+1) 0),(3,.row (n+2) s0_.2.2.length),(4,.val (.int .i64 s0_.1)),(5,.val (.int .i64 s0_.2.1))]⟩) (fun s0_=>(Zw O n [some ⟨false,25,3,1,(Ze a0)⟩,some ⟨false,25,3,1,[.val (.int .i64 0),.val (.slice none 0 0),.val (.slice none 0 0)]⟩,some ⟨true,25,3,s0_.2.2.length,fl Zg s0_.2.2⟩,none])) (fun z10=>JX 0 n (⟨53,[],[(1,.ref n 0),(2,.ref (n+1) 0),(3,.row (n+2) z10.2.length),(4,.val (.int .i64 z10.1))]⟩:Env) (Zw O n [some ⟨false,25,3,1,(Ze a0)⟩,some ⟨false,25,3,1,[.val (.int .i64 0),.val (.slice none 0 0),.val (.slice none 0 0)]⟩,some ⟨true,25,3,z10.2.length,fl Zg z10.2⟩,none]) (n+4)) ?_
  intro s0_ x0_ hs0_
  unfold Xc at hs0_
  try dsimp only
  refine Zi ?_
  refine Zj [1,2,3,4,5,16] (Zb Zc [] ?_)
  simp only [push_cast,seval,↓reduceIte,Za,hN0,hN]
  refine Zl (t:=(decide (s0_.2.1 < (a0.Kids.length:Int)))) rfl (fun c9 => ?_) (fun c9 => ?_)
  ·replace hs0_:=Z0 c9 hs0_
   refine Zp ?_
   try simp only [Zh,Zf]
   refine Zm [1,2,3,4,5] [true,true,true,false] ?_
   simp only [push_cast,seval,↓reduceIte]
   obtain ⟨z1,hz1,hs0_⟩:=bC hs0_
   refine Yk (E':=⟨53,[],[(1,.ref n 0),(2,.ref (n+1) 0),(3,.row (n+2) z1.2.length),(4,.val (.int .i64 z1.1)),(5,.val (.int .i64 s0_.2.1))]⟩) (O':=(Zw O n [some ⟨false,25,3,1,(Ze a0)⟩,some ⟨false,25,3,1,[.val (.int .i64 0),.val (.slice none 0 0),.val (.slice none 0 0)]⟩,some ⟨true,25,3,z1.2.length,fl Zg z1.2⟩,none,none,none])) (n0:=(n+6)) ?_ ?_
   ·refine Ya ?_
    refine Zi ?_
    obtain ⟨x4,hx4,ax4,bx4,cx4,hz1⟩:=bE (f:=Zg) J3 (fun _=>rfl) (by decide) hz1
    obtain ⟨y5,hy5,hz1⟩:=bC hz1
    refine Zb Zc [] ?_
    simp only [push_cast,Nat.reduceAdd,Nat.reduceSub,Nat.reduceMul,Nat.reduceLeDiff,Nat.reduceLT,Nat.reduceEqDiff,↓reduceIte,reduceCtorEq,Int.reduceBEq,Int.reduceBNe,Nat.reduceBEq,Int.reduceLE,Int.reduceLT,Int.reduceEq,Int.reduceNe,Int.reduceNeg,Nat.reduceDiv,Nat.reduceMod,Nat.reducePow,Za,ax4,bx4,cx4,hN0,hN]
    refine (Zj2 hy5).then ?_
    simp only [push_cast,Nat.reduceAdd,Nat.reduceSub,Nat.reduceMul,Nat.reduceLeDiff,Nat.reduceLT,Nat.reduceEqDiff,↓reduceIte,reduceCtorEq,Int.reduceBEq,Int.reduceBNe,Nat.reduceBEq,Int.reduceLE,Int.reduceLT,Int.reduceEq,Int.reduceNe,Int.reduceNeg,Nat.reduceDiv,Nat.reduceMod,Nat.reducePow,Za,ax4,bx4,cx4,hN0,hN]
    refine Zm [1,2,3,4,5,6] [true,true,true,false,true] ?_
    simp only [push_cast,seval,↓reduceIte]
    refine Zi ?_
    obtain ⟨l7,pl7,ql7,el7,hz1⟩:=bA (k:=1) rfl hz1
    refine Zb Zc [] ?_
    simp only [push_cast,seval,↓reduceIte,Za,pl7,ql7,el7,hN0,hN]
    refine Za4 ⟨53,[],[(1,.ref n 0),(2,.ref (n+1) 0),(3,.row (n+2) l7.length),(4,.val (.int .i64 s0_.1)),(5,.val (.int .i64 s0_.2.1)),(6,.ref (n+4) 0)]⟩ (Zw O n [some ⟨false,25,3,1,(Ze a0)⟩,some ⟨false,25,3,1,[.val (.int .i64 0),.val (.slice none 0 0),.val (.slice none 0 0)]⟩,some ⟨true,25,3,l7.length,fl Zg l7⟩,none,some ⟨false,25,3,1,(Ze y5)⟩,none]) (Zk hU rfl rfl ?_) ?_
    ·simp only [push_cast,seval,↓reduceIte,Za,pl7,ql7,el7,hN0,hN]
    refine Zj [1,2,3,4,5,31] (Zb Zc [] ?_)
    simp only [push_cast,seval,↓reduceIte,Za,hN0,hN]
    refine Zl (t:=(y5.Kind != 0)) rfl (fun c8 => ?_) (fun c8 => ?_)
    ·replace hz1:=Z0 c8 hz1
     refine Zb Zc [] ?_
     simp only [push_cast,seval,↓reduceIte,Za,hN0,hN]
     have hz1:=Option.some.inj hz1;subst hz1
     refine And.intro rfl (Fit2.of (Zk hU rfl rfl ?_) (by omega))
     simp only [push_cast,seval,↓reduceIte,Za,hN0,hN]
    replace hz1:=Zz c8 hz1
    refine Zp ?_
    try simp only [Zh,Zf]
    have hz1:=Option.some.inj hz1;subst hz1
    refine And.intro rfl (Fit2.of (Zk hU rfl rfl ?_) (by omega))
    simp only [push_cast,seval,↓reduceIte,Za,hN0,hN]
   refine Zb Zc [] ?_
   simp only [push_cast,seval,↓reduceIte,Za,hN0,hN]
   have hs0_:=Option.some.inj hs0_;subst hs0_
   refine And.intro rfl (Fit2.of (Zk hU rfl rfl ?_) (by omega))
   simp only [push_cast,seval,↓reduceIte,Za,hN0,hN]
  replace hs0_:=Zz c9 hs0_
  refine X0 ?_
  try simp only [Zh,Zf,↓reduceIte,Nat.reduceEqDiff]
  have hs0_:=Option.some.inj hs0_;subst hs0_
  refine And.intro (fun h=>by cases h) (And.intro rfl (Fit2.of (Zk hU rfl rfl ?_) (by omega)))
  simp only [push_cast,seval,↓reduceIte,Za,hN0,hN]
 try simp only [Zh,Zf,↓reduceIte,Nat.reduceEqDiff]
 refine Zm [1,2,3,4] [true,true,true,false] ?_
 simp only [push_cast,seval,↓reduceIte]
 refine Zi ?_
 refine Zj [1,2,3,4,36] (Zb Zc [] ?_)
 simp only [push_cast,seval,↓reduceIte,Za,hN0,hN]
 refine Zl (t:=(a0.Kind == 1)) rfl (fun c18 => ?_) (fun c18 => ?_)
 ·replace h:=Z0 c18 h
  refine Za4 ⟨53,[],[(1,.ref n 0),(2,.ref (n+1) 0),(3,.sl z10.2.length (fl Zg z10.2)),(4,.val (.int .i64 z10.1))]⟩ (Zw O n [some ⟨false,25,3,1,(Ze a0)⟩,some ⟨false,25,3,1,[.val (.int .i64 0),.val (.slice none 0 0),.val (.slice none 0 0)]⟩,none,none]) (Zk hU rfl rfl ?_) ?_
  ·simp only [push_cast,seval,↓reduceIte,Za,hN0,hN]
  refine Zi ?_
  obtain ⟨y14,hy14,h⟩:=bC h
  obtain ⟨l15,al15,bl15,cl15,gl15,h⟩:=bS (lo:=none) (hi:=(some (.i64,z10.1))) (f:=Zg) rfl rfl Zda J3 (fun _=>rfl) h
  refine Zti Zc (by kernel_rfl) [false,false,false,false,false,false,false,true] [] (by kernel_rfl) ?_
  simp only [push_cast,seval,↓reduceIte,Za,al15,bl15,cl15,gl15,hN0,hN]
  refine PCall.of (Zl0 hy14) ?_
  simp only [push_cast,seval,↓reduceIte,Za,al15,bl15,cl15,gl15,hN0,hN]
  refine Zm [2] [false,true,false,false] ?_
  simp only [push_cast,seval,↓reduceIte]
  refine Zs ?_
  try simp only [Zh,Zf]
  have h:=Option.some.inj h;subst h
  refine Zq (.inr rfl) hU [.agg [.val (.int .i64 1),.sl y14.length (fl (eI .u64) y14),.sl l15.length (fl Zg l15)]] (by omega) ?_
  simp only [push_cast,seval,↓reduceIte,Za,Try.results31,hN0,hN]
 replace h:=Zz c18 h
 refine Zp ?_
 try simp only [Zh,Zf]
 refine Zm [1,2,3] [true,true,true,false] ?_
 simp only [push_cast,seval,↓reduceIte]
 refine Zj [1,2,3,7] (Zb Zc [] ?_)
 simp only [push_cast,seval,↓reduceIte,Za,hN0,hN]
 refine Zi ?_
 obtain ⟨l17,pl17,ql17,el17,h⟩:=bA0 (k:=a0.Words.length) rfl h
 refine Zb Zc [] ?_
 simp only [push_cast,seval,↓reduceIte,Za,pl17,ql17,el17,hN0,hN]
 refine Za4 ⟨53,[],[(1,.ref n 0),(2,.ref (n+1) 0),(3,.row (n+2) z10.2.length),(7,.row (n+4) l17.length)]⟩ (Zw O n [some ⟨false,25,3,1,(Ze a0)⟩,some ⟨false,25,3,1,[.val (.int .i64 0),.val (.slice none 0 0),.val (.slice none 0 0)]⟩,some ⟨true,25,3,z10.2.length,fl Zg z10.2⟩,none,some ⟨true,58,1,l17.length,fl (eI .u64) l17⟩]) (Zk hU rfl rfl ?_) ?_
 ·simp only [push_cast,seval,↓reduceIte,Za,pl17,ql17,el17,hN0,hN]
 refine Zi ?_
 refine Zb Zc [] ?_
 simp only [push_cast,seval,↓reduceIte,Za,hN0,hN]
 refine Zm [2] [false,true,true,false,true] ?_
 simp only [push_cast,seval,↓reduceIte]
 refine Zs ?_
 try simp only [Zh,Zf]
 have h:=Option.some.inj h;subst h
 refine Zq (.inr rfl) hU [.agg [.val (.int .i64 a0.Kind),.row (n+4) l17.length,.row (n+2) z10.2.length]] (by omega) ?_
 simp only [push_cast,seval,↓reduceIte,Za,Try.results31,hN0,hN]
theorem Zjm:∀ k,(∀ {a0:Zd} {r:Zd} {O:Objs} {n:Nat},(Ys k) a0=some r→GTo Try.prog 31 [.agg (Ze a0)] O n (.agg (Ze r)) O n):=fun k=>by
 induction k with
 | zero=>exact @fun a0 r O n h=>(nomatch (show (none:Option _)=some _ from h))
 | succ k ih=>exact @fun a0 r O n h=>Zk1 (ih)  h
theorem Zlz {a0:Zd} {r:Zd} {O:Objs} {n:Nat} (h:Zfo a0=some r):GTo Try.prog 31 [.agg (Ze a0)] O n (.agg (Ze r)) O n:=by
 obtain ⟨k,hk⟩:=Zjy h
 exact (Zjm k)  hk
theorem Zk0 {a0:Zd} {r:(Int×Int)} {O:Objs} {n:Nat} (h:Vb a0=some r):GTo Try.prog 60 [.agg (Ze a0)] O n (.tup [.val (.int .i64 r.1),.val (.int .i64 r.2)]) O n:=by
 unfold Vb at h
 refine Yi Zc Try.call60 Try.func60 rfl (Nat.le_of_ble_eq_true rfl) (Nat.le_refl _) fun hU => ?_
 have hN0:O n=none:=hU.fresh _ (Nat.le_refl _)
 have hN:∀ k,O (n+k)=none:=fun k=>hU.fresh _ (Nat.le_add_right _ _)
 show W _ _ _ _ ⟨48,[],[(0,.agg (Ze a0))]⟩ (Zw O n []) _
 refine Zj [1] (Zb Zc [] ?_)
 simp only [push_cast,seval,↓reduceIte,Za,hN0,hN]
 refine Zj [1,4,5] (Zb Zc [] ?_)
 simp only [push_cast,seval,↓reduceIte,Za,hN0,hN]
 refine Zi ?_
 refine Zj [1,4,5,6] (Zb Zc [] ?_)
 simp only [push_cast,seval,↓reduceIte,Za,hN0,hN]
 refine Zm [1,4,5,6] [true] ?_
 simp only [push_cast,seval,↓reduceIte]
 obtain ⟨z18,hz18,h⟩:=bC h
 refine Xb (E':=⟨48,[],[(4,.val (.int .i64 z18.1)),(5,.val (.int .i64 z18.2))]⟩) (O':=(Zw O n [none])) (n0:=(n+1)) ?_ ?_
 ·refine X7 hz18 (fun s0_=>⟨48,[],[(1,.ref n 0),(4,.val (.int .i64 s0_.1)),(5,.val (.int .i64 s0_.2.1)),(6,.val (.int .i64 s0_.2.2))]⟩) (fun s0_=>(Zw O n [some ⟨false,25,3,1,(Ze a0)⟩])) (fun z18=>JX 0 n (⟨48,[],[(4,.val (.int .i64 z18.1)),(5,.val (.int .i64 z18.2))]⟩:Env) (Zw O n [none]) (n+1)) ?_
  intro s0_ x0_ hs0_
  unfold Qm at hs0_
  try dsimp only
  refine Zi ?_
  refine Zj [1,4,5,6,11] (Zb Zc [] ?_)
  simp only [push_cast,seval,↓reduceIte,Za,hN0,hN]
  refine Zl (t:=(decide (s0_.2.2 < (a0.Kids.length:Int)))) rfl (fun c17 => ?_) (fun c17 => ?_)
  ·replace hs0_:=Z0 c17 hs0_
   refine Zp ?_
   try simp only [Zh,Zf]
   refine Zm [1,4,5,6] [true] ?_
   simp only [push_cast,seval,↓reduceIte]
   obtain ⟨z1,hz1,hs0_⟩:=bC hs0_
   refine Yk (E':=⟨48,[],[(1,.ref n 0),(4,.val (.int .i64 z1.1)),(5,.val (.int .i64 z1.2)),(6,.val (.int .i64 s0_.2.2))]⟩) (O':=(Zw O n [some ⟨false,25,3,1,(Ze a0)⟩])) (n0:=(n+1)) ?_ ?_
   ·refine Ya ?_
    obtain ⟨z2,hz2,hz1⟩:=bC hz1
    refine Yk (E':=⟨48,[],[(1,.ref n 0),(4,.val (.int .i64 z2)),(5,.val (.int .i64 s0_.2.1)),(6,.val (.int .i64 s0_.2.2))]⟩) (O':=(Zw O n [some ⟨false,25,3,1,(Ze a0)⟩])) (n0:=(n+1)) ?_ ?_
    ·obtain ⟨x5,hx5,ax5,bx5,cx5,hz2⟩:=bE (f:=Zg) J3 (fun _=>rfl) (by decide) hz2
     have g6:=Zbp (f:=Zg) (off:=1) (sz:=3) Vx (fun _=>rfl) (by decide) (by decide) hx5
     refine Zj [1,4,5,6,22] (Zb Zc [] ?_)
     simp only [push_cast,Nat.reduceAdd,Nat.reduceSub,Nat.reduceMul,Nat.reduceLeDiff,Nat.reduceLT,Nat.reduceEqDiff,↓reduceIte,reduceCtorEq,Int.reduceBEq,Int.reduceBNe,Nat.reduceBEq,Int.reduceLE,Int.reduceLT,Int.reduceEq,Int.reduceNe,Int.reduceNeg,Nat.reduceDiv,Nat.reduceMod,Nat.reducePow,Za,ax5,bx5,cx5,g6,hN0,hN]
     refine Zl (t:=(decide (s0_.1 < (x5.Words.length:Int)))) rfl (fun c9 => ?_) (fun c9 => ?_)
     ·replace hz2:=Z0 c9 hz2
      obtain ⟨x7,hx7,ax7,bx7,cx7,hz2⟩:=bE (f:=Zg) J3 (fun _=>rfl) (by decide) hz2
      have g8:=Zbp (f:=Zg) (off:=1) (sz:=3) Vx (fun _=>rfl) (by decide) (by decide) hx7
      refine Zb Zc [] ?_
      simp only [push_cast,Nat.reduceAdd,Nat.reduceSub,Nat.reduceMul,Nat.reduceLeDiff,Nat.reduceLT,Nat.reduceEqDiff,↓reduceIte,reduceCtorEq,Int.reduceBEq,Int.reduceBNe,Nat.reduceBEq,Int.reduceLE,Int.reduceLT,Int.reduceEq,Int.reduceNe,Int.reduceNeg,Nat.reduceDiv,Nat.reduceMod,Nat.reducePow,Za,ax7,bx7,cx7,g8,hN0,hN]
      have hz2:=Option.some.inj hz2;subst hz2
      refine And.intro rfl (Fit2.of (Zk hU rfl rfl ?_) (by omega))
      simp only [push_cast,Nat.reduceAdd,Nat.reduceSub,Nat.reduceMul,Nat.reduceLeDiff,Nat.reduceLT,Nat.reduceEqDiff,↓reduceIte,reduceCtorEq,Int.reduceBEq,Int.reduceBNe,Nat.reduceBEq,Int.reduceLE,Int.reduceLT,Int.reduceEq,Int.reduceNe,Int.reduceNeg,Nat.reduceDiv,Nat.reduceMod,Nat.reducePow,Za,ax7,bx7,cx7,g8,hN0,hN]
     replace hz2:=Zz c9 hz2
     refine Zp ?_
     try simp only [Zh,Zf]
     have hz2:=Option.some.inj hz2;subst hz2
     refine And.intro rfl (Fit2.of (Zk hU rfl rfl ?_) (by omega))
     simp only [push_cast,seval,↓reduceIte,Za,hN0,hN]
    obtain ⟨x12,hx12,ax12,bx12,cx12,hz1⟩:=bE (f:=Zg) J3 (fun _=>rfl) (by decide) hz1
    have g13:=Zbp (f:=Zg) (off:=2) (sz:=3) Zob (fun _=>rfl) (by decide) (by decide) hx12
    refine Zj [1,4,5,6,38] (Zb Zc [] ?_)
    simp only [push_cast,Nat.reduceAdd,Nat.reduceSub,Nat.reduceMul,Nat.reduceLeDiff,Nat.reduceLT,Nat.reduceEqDiff,↓reduceIte,reduceCtorEq,Int.reduceBEq,Int.reduceBNe,Nat.reduceBEq,Int.reduceLE,Int.reduceLT,Int.reduceEq,Int.reduceNe,Int.reduceNeg,Nat.reduceDiv,Nat.reduceMod,Nat.reducePow,Za,ax12,bx12,cx12,g13,hN0,hN]
    refine Zl (t:=(decide (s0_.2.1 < (x12.Kids.length:Int)))) rfl (fun c16 => ?_) (fun c16 => ?_)
    ·replace hz1:=Z0 c16 hz1
     obtain ⟨x14,hx14,ax14,bx14,cx14,hz1⟩:=bE (f:=Zg) J3 (fun _=>rfl) (by decide) hz1
     have g15:=Zbp (f:=Zg) (off:=2) (sz:=3) Zob (fun _=>rfl) (by decide) (by decide) hx14
     refine Zb Zc [] ?_
     simp only [push_cast,Nat.reduceAdd,Nat.reduceSub,Nat.reduceMul,Nat.reduceLeDiff,Nat.reduceLT,Nat.reduceEqDiff,↓reduceIte,reduceCtorEq,Int.reduceBEq,Int.reduceBNe,Nat.reduceBEq,Int.reduceLE,Int.reduceLT,Int.reduceEq,Int.reduceNe,Int.reduceNeg,Nat.reduceDiv,Nat.reduceMod,Nat.reducePow,Za,ax14,bx14,cx14,g15,hN0,hN]
     have hz1:=Option.some.inj hz1;subst hz1
     refine And.intro rfl (Fit2.of (Zk hU rfl rfl ?_) (by omega))
     simp only [push_cast,Nat.reduceAdd,Nat.reduceSub,Nat.reduceMul,Nat.reduceLeDiff,Nat.reduceLT,Nat.reduceEqDiff,↓reduceIte,reduceCtorEq,Int.reduceBEq,Int.reduceBNe,Nat.reduceBEq,Int.reduceLE,Int.reduceLT,Int.reduceEq,Int.reduceNe,Int.reduceNeg,Nat.reduceDiv,Nat.reduceMod,Nat.reducePow,Za,ax14,bx14,cx14,g15,hN0,hN]
    replace hz1:=Zz c16 hz1
    refine Zp ?_
    try simp only [Zh,Zf]
    have hz1:=Option.some.inj hz1;subst hz1
    refine And.intro rfl (Fit2.of (Zk hU rfl rfl ?_) (by omega))
    simp only [push_cast,seval,↓reduceIte,Za,hN0,hN]
   refine Zb Zc [] ?_
   simp only [push_cast,seval,↓reduceIte,Za,hN0,hN]
   have hs0_:=Option.some.inj hs0_;subst hs0_
   refine And.intro rfl (Fit2.of (Zk hU rfl rfl ?_) (by omega))
   simp only [push_cast,seval,↓reduceIte,Za,hN0,hN]
  replace hs0_:=Zz c17 hs0_
  refine X0 ?_
  try simp only [Zh,Zf,↓reduceIte,Nat.reduceEqDiff]
  have hs0_:=Option.some.inj hs0_;subst hs0_
  refine And.intro (fun h=>by cases h) (And.intro rfl (Fit2.of (Zk hU rfl rfl ?_) (by omega)))
  simp only [push_cast,seval,↓reduceIte,Za,hN0,hN]
 try simp only [Zh,Zf,↓reduceIte,Nat.reduceEqDiff]
 refine Zm [4,5] [false] ?_
 simp only [push_cast,seval,↓reduceIte]
 refine Zj [2,3] (Zb Zc [] ?_)
 simp only [push_cast,seval,↓reduceIte,Za,hN0,hN]
 refine Zs ?_
 try simp only [Zh,Zf]
 have h:=Option.some.inj h;subst h
 refine Zq (.inr rfl) hU [.val (.int .i64 z18.1),.val (.int .i64 z18.2)] (by omega) ?_
 simp only [push_cast,seval,↓reduceIte,Za,Try.results60,hN0,hN]
theorem Zlw {a0:Int} {a1:Int} {r:Int} {O:Objs} {n:Nat} (h:J8 a0 a1=some r):GTo Try.prog 100 [.val (.int .i64 a0),.val (.int .i64 a1)] O n (.val (.int .i64 r)) O n:=by
 unfold J8 at h
 refine Yi Zc Try.call100 Try.func100 rfl (Nat.le_of_ble_eq_true rfl) (Nat.le_refl _) fun hU => ?_
 have hN0:O n=none:=hU.fresh _ (Nat.le_refl _)
 have hN:∀ k,O (n+k)=none:=fun k=>hU.fresh _ (Nat.le_add_right _ _)
 show W _ _ _ _ ⟨31,[],[(0,.val (.int .i64 a0)),(1,.val (.int .i64 a1))]⟩ (Zw O n []) _
 refine Zj [0,1] (Zb Zc [] ?_)
 simp only [push_cast,seval,↓reduceIte,Za,hN0,hN]
 refine Zi ?_
 refine Zi ?_
 obtain ⟨y2,hy2,h⟩:=bC h
 refine Zb Zc [none,none,none,none] ?_
 simp only [push_cast,seval,↓reduceIte,Za,hN0,hN]
 repeat (with_reducible refine And.intro (by first | (intro h0;simp only [h0,and_self];done) | (intro h0;simp only [h0,Bool.not_false,Bool.not_true,Bool.true_and,Bool.and_true,true_and,and_true,and_self,imp_self,implies_true,bne_iff_ne,ne_eq,beq_iff_eq];done) | (intros;simp_all;done) | exact True.intro) ?_)
 refine (Ks hy2).then ?_
 simp only [push_cast,seval,↓reduceIte,Za,hN0,hN]
 repeat (with_reducible refine And.intro (by first | (intro h0;simp only [h0,and_self];done) | (intro h0;simp only [h0,Bool.not_false,Bool.not_true,Bool.true_and,Bool.and_true,true_and,and_true,and_self,imp_self,implies_true,bne_iff_ne,ne_eq,beq_iff_eq];done) | (intros;simp_all;done) | exact True.intro) ?_)
 refine Zm [0,1,16] [] ?_
 simp only [push_cast,seval,↓reduceIte]
 refine Zl (t:=(cond (cond (decide (y2 < 1)) true (decide (a1 < 0))) true (decide (1099511627776 < a1)))) rfl (fun c14 => ?_) (fun c14 => ?_)
 ·replace h:=Z0 c14 h
  refine Zj [4] (Zb Zc [] ?_)
  simp only [push_cast,seval,↓reduceIte,Za,hN0,hN]
  refine Zs ?_
  try simp only [Zh,Zf]
  have h:=Option.some.inj h;subst h
  refine Zq (.inr rfl) hU [.val (.int .i64 0)] (by omega) ?_
  simp only [push_cast,seval,↓reduceIte,Za,Try.results100,hN0,hN]
 replace h:=Zz c14 h
 refine Zp ?_
 try simp only [Zh,Zf]
 refine Zm [0,1] [] ?_
 simp only [push_cast,seval,↓reduceIte]
 refine Zi ?_
 obtain ⟨y5,hy5,h⟩:=bC h
 obtain ⟨pu6,h⟩:=bG h
 refine Zb Zc [] ?_
 simp only [push_cast,seval,↓reduceIte,Za,pu6,hN0,hN]
 refine (Ks hy5).then ?_
 simp only [push_cast,seval,↓reduceIte,Za,pu6,hN0,hN]
 refine Zm [1,5] [] ?_
 simp only [push_cast,seval,↓reduceIte]
 refine Zi ?_
 obtain ⟨pu8,h⟩:=bG h
 refine Zj [1,5,23] (Zb Zc [] ?_)
 simp only [push_cast,seval,↓reduceIte,Za,pu8,hN0,hN]
 refine Zl (t:=(decide (0 < (Int.tmod a1 (IntKind.i64.wrap (Int.tdiv 64 y5)))))) rfl (fun c13 => ?_) (fun c13 => ?_)
 ·replace h:=Z0 c13 h
  obtain ⟨pu10,h⟩:=bG h
  refine Zj [4] (Zb Zc [] ?_)
  simp only [push_cast,seval,↓reduceIte,Za,pu10,hN0,hN]
  refine Zs ?_
  try simp only [Zh,Zf]
  have h:=Option.some.inj h;subst h
  refine Zq (.inr rfl) hU [.val (.int .i64 (IntKind.i64.wrap ((IntKind.i64.wrap (Int.tdiv a1 (IntKind.i64.wrap (Int.tdiv 64 y5))))+1)))] (by omega) ?_
  simp only [push_cast,seval,↓reduceIte,Za,Try.results100,hN0,hN]
 replace h:=Zz c13 h
 refine Zp ?_
 try simp only [Zh,Zf]
 refine Zm [1,5] [] ?_
 simp only [push_cast,seval,↓reduceIte]
 obtain ⟨pu12,h⟩:=bG h
 refine Zj [4] (Zb Zc [] ?_)
 simp only [push_cast,seval,↓reduceIte,Za,pu12,hN0,hN]
 refine Zs ?_
 try simp only [Zh,Zf]
 have h:=Option.some.inj h;subst h
 refine Zq (.inr rfl) hU [.val (.int .i64 (IntKind.i64.wrap (Int.tdiv a1 (IntKind.i64.wrap (Int.tdiv 64 y5)))))] (by omega) ?_
 simp only [push_cast,seval,↓reduceIte,Za,Try.results100,hN0,hN]
theorem Zns {a0:Int} {a1:(List Int)} {r:((List Int)×Bool)} {O:Objs} {n:Nat} (h:K0 a0 a1=some r):GTo Try.prog 62 [.val (.int .i64 a0),.sl a1.length (fl (eI .u64) a1)] O n (.tup [.sl r.1.length (fl (eI .u64) r.1),.val (.bool r.2)]) O n:=by
 unfold K0 at h
 refine Yi Zc Try.call62 Try.func62 rfl (Nat.le_of_ble_eq_true rfl) (Nat.le_refl _) fun hU => ?_
 have hN0:O n=none:=hU.fresh _ (Nat.le_refl _)
 have hN:∀ k,O (n+k)=none:=fun k=>hU.fresh _ (Nat.le_add_right _ _)
 show W _ _ _ _ ⟨62,[],[(0,.val (.int .i64 a0)),(1,.sl a1.length (fl (eI .u64) a1))]⟩ (Zw O n []) _
 refine Zj [0,1] (Zb Zc [] ?_)
 simp only [push_cast,seval,↓reduceIte,Za,hN0,hN]
 refine Zi ?_
 obtain ⟨y2,hy2,h⟩:=bC h
 refine Zb Zc [] ?_
 simp only [push_cast,seval,↓reduceIte,Za,hN0,hN]
 refine (Ks hy2).then ?_
 simp only [push_cast,seval,↓reduceIte,Za,hN0,hN]
 refine Zm [0,1,6] [] ?_
 simp only [push_cast,seval,↓reduceIte]
 refine Zi ?_
 refine Zj [0,1,6,14] (Zb Zc [] ?_)
 simp only [push_cast,seval,↓reduceIte,Za,hN0,hN]
 refine Zl (t:=(decide (y2 < 0))) rfl (fun c21 => ?_) (fun c21 => ?_)
 ·replace h:=Z0 c21 h
  refine Zj [4,5] (Zb Zc [] ?_)
  simp only [push_cast,seval,↓reduceIte,Za,hN0,hN]
  refine Zs ?_
  try simp only [Zh,Zf]
  have h:=Option.some.inj h;subst h
  refine Zq (.inr rfl) hU [.val (.slice none 0 0),.val (.bool false)] (by omega) ?_
  simp only [push_cast,seval,↓reduceIte,Za,Try.results62,hN0,hN]
 replace h:=Zz c21 h
 refine Zp ?_
 try simp only [Zh,Zf]
 refine Zm [0,1,6] [] ?_
 simp only [push_cast,seval,↓reduceIte]
 refine Zi ?_
 obtain ⟨y5,hy5,h⟩:=bC h
 obtain ⟨l6,al6,bl6,cl6,el6,h⟩:=bM2 (c:=8) rfl h
 have nl6:Int.toNat y5=List.length l6:=by rw [el6,List.length_replicate]
 have fl6:(List.replicate (List.length l6) [.val (.int .u64 0)]).flatten=fl (eI .u64) l6:=by rw [← nl6,el6];exact (Znd (f:=(eI .u64)) _ _).symm
 clear el6
 refine Zb Zc [] ?_
 simp only [push_cast,seval,↓reduceIte,Za,al6,bl6,cl6,fl6,nl6,hN0,hN]
 refine (Zlw hy5).then ?_
 simp only [push_cast,seval,↓reduceIte,Za,al6,bl6,cl6,fl6,nl6,hN0,hN]
 refine Za4 ⟨62,[],[(0,.val (.int .i64 a0)),(1,.sl a1.length (fl (eI .u64) a1)),(6,.val (.int .i64 y2)),(7,.row n l6.length)]⟩ (Zw O n [some ⟨true,58,1,l6.length,fl (eI .u64) l6⟩]) (Zk hU rfl rfl ?_) ?_
 ·simp only [push_cast,seval,↓reduceIte,Za,al6,bl6,cl6,fl6,nl6,hN0,hN]
 refine Zi ?_
 refine Zj [0,1,6,7,8] (Zb Zc [] ?_)
 simp only [push_cast,seval,↓reduceIte,Za,hN0,hN]
 refine Zm [0,1,6,7,8] [true] ?_
 simp only [push_cast,seval,↓reduceIte]
 obtain ⟨z20,hz20,h⟩:=bC h
 refine Zlc (J:=(Ga (fun z20=>JR n (⟨62,[],[(4,.val (.slice none 0 0)),(5,.val (.bool false))]⟩:Env) (Zw O n [none]) (n+1)) (fun z20=>JX 0 n (⟨62,[],[(7,.row n z20.length)]⟩:Env) (Zw O n [some ⟨true,58,1,z20.length,fl (eI .u64) z20⟩]) (n+1)))) (z:=z20) ?_ fun hw => ?_
 ·refine X7 hz20 (fun s0_=>⟨62,[],[(0,.val (.int .i64 a0)),(1,.sl a1.length (fl (eI .u64) a1)),(6,.val (.int .i64 y2)),(7,.row n s0_.2.length),(8,.val (.int .i64 s0_.1))]⟩) (fun s0_=>(Zw O n [some ⟨true,58,1,s0_.2.length,fl (eI .u64) s0_.2⟩])) (Ga (fun z20=>JR n (⟨62,[],[(4,.val (.slice none 0 0)),(5,.val (.bool false))]⟩:Env) (Zw O n [none]) (n+1)) (fun z20=>JX 0 n (⟨62,[],[(7,.row n z20.length)]⟩:Env) (Zw O n [some ⟨true,58,1,z20.length,fl (eI .u64) z20⟩]) (n+1))) ?_
  intro s0_ x0_ hs0_
  unfold Yl at hs0_
  try dsimp only
  refine Zi ?_
  refine Zj [0,1,6,7,8,23] (Zb Zc [] ?_)
  simp only [push_cast,seval,↓reduceIte,Za,hN0,hN]
  refine Zl (t:=(decide (s0_.1 < (a1.length:Int)))) rfl (fun c19 => ?_) (fun c19 => ?_)
  ·replace hs0_:=Z0 c19 hs0_
   refine Zp ?_
   try simp only [Zh,Zf]
   refine Zm [0,1,6,7,8] [true] ?_
   simp only [push_cast,seval,↓reduceIte]
   obtain ⟨z7,hz7,hs0_⟩:=bC hs0_
   refine Z45 (J:=(Ga (fun z7=>JN n (⟨62,[],[(0,.val (.int .i64 a0)),(1,.sl a1.length (fl (eI .u64) a1)),(6,.val (.int .i64 y2)),(7,.row n z7.length),(8,.val (.int .i64 s0_.1))]⟩:Env) (Zw O n [some ⟨true,58,1,z7.length,fl (eI .u64) z7⟩]) (n+1)) (fun z7=>JR n (⟨62,[],[(4,.val (.slice none 0 0)),(5,.val (.bool false))]⟩:Env) (Zw O n [none]) (n+1)))) (z:=z7) ?_ fun hw => ?_
   ·refine Ya ?_
    obtain ⟨x9,hx9,ax9,bx9,cx9,hz7⟩:=bE (f:=(eI .u64)) K4 (fun _=>rfl) (by decide) hz7
    refine Zj [0,1,6,7,8,9] (Zb Zc [] ?_)
    simp only [push_cast,Nat.reduceAdd,Nat.reduceSub,Nat.reduceMul,Nat.reduceLeDiff,Nat.reduceLT,Nat.reduceEqDiff,↓reduceIte,reduceCtorEq,Int.reduceBEq,Int.reduceBNe,Nat.reduceBEq,Int.reduceLE,Int.reduceLT,Int.reduceEq,Int.reduceNe,Int.reduceNeg,Nat.reduceDiv,Nat.reduceMod,Nat.reducePow,Za,ax9,bx9,cx9,hN0,hN]
    refine Zi ?_
    refine Zi ?_
    obtain ⟨y11,hy11,hz7⟩:=bC hz7
    refine Zb Zc [] ?_
    simp only [push_cast,seval,↓reduceIte,Za,hN0,hN]
    refine (Gq hy11).then ?_
    simp only [push_cast,seval,↓reduceIte,Za,hN0,hN]
    refine Zm [0,1,6,7,8,9,33] [true] ?_
    simp only [push_cast,seval,↓reduceIte]
    refine Zl (t:=(!y11)) rfl (fun c18 => ?_) (fun c18 => ?_)
    ·replace hz7:=Z0 c18 hz7
     refine Zj [4,5] (Zb Zc [] ?_)
     simp only [push_cast,seval,↓reduceIte,Za,hN0,hN]
     refine Zs ?_
     try simp only [Zh,Zf]
     have hz7:=Option.some.inj hz7;subst hz7
     refine And.intro rfl (Fit2.of (Zk hU rfl rfl ?_) (by omega))
     simp only [push_cast,seval,↓reduceIte,Za,hN0,hN]
    replace hz7:=Zz c18 hz7
    refine Zp ?_
    try simp only [Zh,Zf]
    refine Zm [0,1,6,7,8,9] [true] ?_
    simp only [push_cast,seval,↓reduceIte]
    refine Zi ?_
    refine Zj [0,1,6,7,8,9,10] (Zb Zc [] ?_)
    simp only [push_cast,seval,↓reduceIte,Za,hN0,hN]
    refine Zm [0,1,6,7,8,9,10] [true] ?_
    simp only [push_cast,seval,↓reduceIte]
    obtain ⟨z13,hz13,hz7⟩:=bC hz7
    refine Xb (E':=⟨62,[],[(0,.val (.int .i64 a0)),(1,.sl a1.length (fl (eI .u64) a1)),(6,.val (.int .i64 y2)),(7,.row n s0_.2.length),(8,.val (.int .i64 s0_.1)),(9,.val (.int .u64 z13))]⟩) (O':=(Zw O n [some ⟨true,58,1,s0_.2.length,fl (eI .u64) s0_.2⟩])) (n0:=(n+1)) ?_ ?_
    ·refine X7 hz13 (fun s1_=>⟨62,[],[(0,.val (.int .i64 a0)),(1,.sl a1.length (fl (eI .u64) a1)),(6,.val (.int .i64 y2)),(7,.row n s0_.2.length),(8,.val (.int .i64 s0_.1)),(9,.val (.int .u64 s1_.1)),(10,.val (.int .i64 s1_.2))]⟩) (fun s1_=>(Zw O n [some ⟨true,58,1,s0_.2.length,fl (eI .u64) s0_.2⟩])) (fun z13=>JX 2 n (⟨62,[],[(0,.val (.int .i64 a0)),(1,.sl a1.length (fl (eI .u64) a1)),(6,.val (.int .i64 y2)),(7,.row n s0_.2.length),(8,.val (.int .i64 s0_.1)),(9,.val (.int .u64 z13))]⟩:Env) (Zw O n [some ⟨true,58,1,s0_.2.length,fl (eI .u64) s0_.2⟩]) (n+1)) ?_
     intro s1_ x1_ hs1_
     unfold Kr at hs1_
     try dsimp only
     refine Zi ?_
     refine Zj [0,1,6,7,8,9,10,39] (Zb Zc [] ?_)
     simp only [push_cast,seval,↓reduceIte,Za,hN0,hN]
     refine Zl (t:=(decide (s1_.2 < (Int.tmod (IntKind.i64.wrap (s0_.1 * y2)) 64)))) rfl (fun c12 => ?_) (fun c12 => ?_)
     ·replace hs1_:=Z0 c12 hs1_
      refine Zp ?_
      try simp only [Zh,Zf]
      refine Zm [0,1,6,7,8,9,10] [true] ?_
      simp only [push_cast,seval,↓reduceIte]
      refine Zi ?_
      refine Ya ?_
      refine Zb Zc [] ?_
      simp only [push_cast,seval,↓reduceIte,Za,hN0,hN]
      refine Zm [0,1,6,7,8,9,10] [true] ?_
      simp only [push_cast,seval,↓reduceIte]
      refine Zb Zc [] ?_
      simp only [push_cast,seval,↓reduceIte,Za,hN0,hN]
      have hs1_:=Option.some.inj hs1_;subst hs1_
      refine And.intro rfl (Fit2.of (Zk hU rfl rfl ?_) (by omega))
      simp only [push_cast,seval,↓reduceIte,Za,hN0,hN]
     replace hs1_:=Zz c12 hs1_
     refine X0 ?_
     try simp only [Zh,Zf,↓reduceIte,Nat.reduceEqDiff]
     have hs1_:=Option.some.inj hs1_;subst hs1_
     refine And.intro (fun h=>by cases h) (And.intro rfl (Fit2.of (Zk hU rfl rfl ?_) (by omega)))
     simp only [push_cast,seval,↓reduceIte,Za,hN0,hN]
    try simp only [Zh,Zf,↓reduceIte,Nat.reduceEqDiff]
    refine Zm [0,1,6,7,8,9] [true] ?_
    simp only [push_cast,seval,↓reduceIte]
    refine Zj [0,1,6,7,8,9,45] (Zb Zc [] ?_)
    simp only [push_cast,seval,↓reduceIte,Za,hN0,hN]
    refine Zl (t:=(decide (0 < y2))) rfl (fun c17 => ?_) (fun c17 => ?_)
    ·replace hz7:=Z0 c17 hz7
     obtain ⟨x14,hx14,ax14,bx14,cx14,hz7⟩:=bE (f:=(eI .u64)) K4 (fun _=>rfl) (by decide) hz7
     have gu16:Q9 (fl (eI .u64) s0_.2) [.val (.int .u64 (IntKind.u64.wrap (x14+z13)))] (Int.toNat (IntKind.i64.wrap (Int.tdiv (IntKind.i64.wrap (s0_.1 * y2)) 64)) * 1)=some (fl (eI .u64) (Yc s0_.2 (IntKind.i64.wrap (Int.tdiv (IntKind.i64.wrap (s0_.1 * y2)) 64)) (IntKind.u64.wrap (x14+z13)))):=Ur (f:=(eI .u64)) (ti:=⟨.bool,1,0,[],false⟩) (x:=(IntKind.u64.wrap (x14+z13))) (fun _=>rfl) (Kw hx14)
     refine Zb Zc [] ?_
     simp only [push_cast,Nat.reduceAdd,Nat.reduceSub,Nat.reduceMul,Nat.reduceLeDiff,Nat.reduceLT,Nat.reduceEqDiff,↓reduceIte,reduceCtorEq,Int.reduceBEq,Int.reduceBNe,Nat.reduceBEq,Int.reduceLE,Int.reduceLT,Int.reduceEq,Int.reduceNe,Int.reduceNeg,Nat.reduceDiv,Nat.reduceMod,Nat.reducePow,Za,ax14,bx14,cx14,gu16,hN0,hN]
     have hz7:=Option.some.inj hz7;subst hz7
     refine And.intro rfl (Fit2.of (Zk hU rfl rfl ?_) (by omega))
     simp only [push_cast,Nat.reduceAdd,Nat.reduceSub,Nat.reduceMul,Nat.reduceLeDiff,Nat.reduceLT,Nat.reduceEqDiff,↓reduceIte,reduceCtorEq,Int.reduceBEq,Int.reduceBNe,Nat.reduceBEq,Int.reduceLE,Int.reduceLT,Int.reduceEq,Int.reduceNe,Int.reduceNeg,Nat.reduceDiv,Nat.reduceMod,Nat.reducePow,Za,ax14,bx14,cx14,gu16,hN0,hN]
    replace hz7:=Zz c17 hz7
    refine Zp ?_
    try simp only [Zh,Zf]
    have hz7:=Option.some.inj hz7;subst hz7
    refine And.intro rfl (Fit2.of (Zk hU rfl rfl ?_) (by omega))
    simp only [push_cast,seval,↓reduceIte,Za,hN0,hN]
   rcases z7 with z7 | z7
   ·dsimp only [Ga] at hw hs0_
    refine Yk hw ?_
    refine Zb Zc [] ?_
    simp only [push_cast,seval,↓reduceIte,Za,hN0,hN]
    have hs0_:=Option.some.inj hs0_;subst hs0_
    refine And.intro rfl (Fit2.of (Zk hU rfl rfl ?_) (by omega))
    simp only [push_cast,seval,↓reduceIte,Za,hN0,hN]
   dsimp only [Ga] at hw hs0_
   refine Z36 hw ?_
   try simp only [Zh,Zf]
   have hs0_:=Option.some.inj hs0_;subst hs0_
   refine And.intro (fun h=>by cases h) (And.intro rfl (Fit2.of (Zk hU rfl rfl ?_) (by omega)))
   simp only [push_cast,seval,↓reduceIte,Za,hN0,hN]
  replace hs0_:=Zz c19 hs0_
  refine X0 ?_
  try simp only [Zh,Zf,↓reduceIte,Nat.reduceEqDiff]
  have hs0_:=Option.some.inj hs0_;subst hs0_
  refine And.intro (fun h=>by cases h) (And.intro rfl (Fit2.of (Zk hU rfl rfl ?_) (by omega)))
  simp only [push_cast,seval,↓reduceIte,Za,hN0,hN]
 rcases z20 with z20 | z20
 ·dsimp only [Ga] at hw h
  refine Zdr hw ?_
  try simp only [Zh,Zf,↓reduceIte,Nat.reduceEqDiff]
  have h:=Option.some.inj h;subst h
  refine Zq (.inr rfl) hU [.val (.slice none 0 0),.val (.bool false)] (by omega) ?_
  simp only [push_cast,seval,↓reduceIte,Za,Try.results62,hN0,hN]
 dsimp only [Ga] at hw h
 refine Xb hw ?_
 try simp only [Zh,Zf,↓reduceIte,Nat.reduceEqDiff]
 refine Zm [7] [true] ?_
 simp only [push_cast,seval,↓reduceIte]
 refine Zj [4,5] (Zb Zc [] ?_)
 simp only [push_cast,seval,↓reduceIte,Za,hN0,hN]
 refine Zs ?_
 try simp only [Zh,Zf]
 have h:=Option.some.inj h;subst h
 refine Zq (.inr rfl) hU [.row n z20.length,.val (.bool true)] (by omega) ?_
 simp only [push_cast,seval,↓reduceIte,Za,Try.results62,hN0,hN]
theorem Zk7 {a0:Zd} {r:(Int×Int)} {O:Objs} {n:Nat} (h:Zay a0=some r):GTo Try.prog 87 [.agg (Ze a0)] O n (.tup [.val (.int .i64 r.1),.val (.int .i64 r.2)]) O n:=by
 unfold Zay at h
 refine Yi Zc Try.call87 Try.func87 rfl (Nat.le_of_ble_eq_true rfl) (Nat.le_refl _) fun hU => ?_
 have hN0:O n=none:=hU.fresh _ (Nat.le_refl _)
 have hN:∀ k,O (n+k)=none:=fun k=>hU.fresh _ (Nat.le_add_right _ _)
 show W _ _ _ _ ⟨28,[],[(0,.agg (Ze a0))]⟩ (Zw O n []) _
 refine Zj [1] (Zb Zc [] ?_)
 simp only [push_cast,seval,↓reduceIte,Za,hN0,hN]
 refine Zj [1,4,5] (Zb Zc [] ?_)
 simp only [push_cast,seval,↓reduceIte,Za,hN0,hN]
 refine Zi ?_
 refine Zj [4,5,9,10,11] (Zb Zc [] ?_)
 simp only [push_cast,seval,↓reduceIte,Za,hN0,hN]
 refine Zm [4,5,9,10,11] [false] ?_
 simp only [push_cast,seval,↓reduceIte]
 obtain ⟨z4,hz4,h⟩:=bC h
 refine Xb (E':=⟨28,[],[(4,.val (.int .i64 z4.1)),(5,.val (.int .i64 z4.2))]⟩) (O':=(Zw O n [none])) (n0:=(n+1)) ?_ ?_
 ·refine X7 hz4 (fun s0_=>⟨28,[],[(4,.val (.int .i64 s0_.1)),(5,.val (.int .i64 s0_.2.1)),(9,.sl a0.Kids.length (fl Zg a0.Kids)),(10,.val (.int .i64 (a0.Kids.length:Int))),(11,.val (.int .i64 s0_.2.2))]⟩) (fun s0_=>(Zw O n [none])) (fun z4=>JX 0 n (⟨28,[],[(4,.val (.int .i64 z4.1)),(5,.val (.int .i64 z4.2))]⟩:Env) (Zw O n [none]) (n+1)) ?_
  intro s0_ x0_ hs0_
  unfold Vi at hs0_
  try dsimp only
  refine Zj [4,5,9,10,11,12] (Zb Zc [] ?_)
  simp only [push_cast,seval,↓reduceIte,Za,hN0,hN]
  refine Zi ?_
  refine Zl (t:=(decide (s0_.2.2 < (a0.Kids.length:Int)))) rfl (fun c3 => ?_) (fun c3 => ?_)
  ·replace hs0_:=Z0 c3 hs0_
   refine Zp ?_
   try simp only [Zh,Zf]
   refine Zm [4,5,9,10,11] [false] ?_
   simp only [push_cast,seval,↓reduceIte]
   refine Zi ?_
   refine Ya ?_
   refine Zi ?_
   obtain ⟨x2,hx2,ax2,bx2,cx2,hs0_⟩:=bE (f:=Zg) J3 (fun _=>rfl) (by decide) hs0_
   refine Zb Zc [] ?_
   simp only [push_cast,Nat.reduceAdd,Nat.reduceSub,Nat.reduceMul,Nat.reduceLeDiff,Nat.reduceLT,Nat.reduceEqDiff,↓reduceIte,reduceCtorEq,Int.reduceBEq,Int.reduceBNe,Nat.reduceBEq,Int.reduceLE,Int.reduceLT,Int.reduceEq,Int.reduceNe,Int.reduceNeg,Nat.reduceDiv,Nat.reduceMod,Nat.reducePow,Za,ax2,bx2,cx2,hN0,hN]
   refine Zm [4,5,7,9,10,11] [false,true] ?_
   simp only [push_cast,seval,↓reduceIte]
   refine Y2 Zc (by kernel_rfl) [] (by kernel_rfl) ?_
   simp only [push_cast,seval,↓reduceIte,Za,hN0,hN]
   refine Zm [4,5,9,10,11] [false,false] ?_
   simp only [push_cast,seval,↓reduceIte]
   refine Zb Zc [] ?_
   simp only [push_cast,seval,↓reduceIte,Za,hN0,hN]
   have hs0_:=Option.some.inj hs0_;subst hs0_
   refine And.intro rfl (Fit2.of (Zk hU rfl rfl ?_) (by omega))
   simp only [push_cast,seval,↓reduceIte,Za,hN0,hN]
  replace hs0_:=Zz c3 hs0_
  refine X0 ?_
  try simp only [Zh,Zf,↓reduceIte,Nat.reduceEqDiff]
  have hs0_:=Option.some.inj hs0_;subst hs0_
  refine And.intro (fun h=>by cases h) (And.intro rfl (Fit2.of (Zk hU rfl rfl ?_) (by omega)))
  simp only [push_cast,seval,↓reduceIte,Za,hN0,hN]
 try simp only [Zh,Zf,↓reduceIte,Nat.reduceEqDiff]
 refine Zm [4,5] [false] ?_
 simp only [push_cast,seval,↓reduceIte]
 refine Zj [2,3] (Zb Zc [] ?_)
 simp only [push_cast,seval,↓reduceIte,Za,hN0,hN]
 refine Zs ?_
 try simp only [Zh,Zf]
 have h:=Option.some.inj h;subst h
 refine Zq (.inr rfl) hU [.val (.int .i64 z4.1),.val (.int .i64 z4.2)] (by omega) ?_
 simp only [push_cast,seval,↓reduceIte,Za,Try.results87,hN0,hN]
theorem Zqi {a0:Zd} {r:Z3} {O:Objs} {n:Nat} (h:Zcf a0=some r):GTo Try.prog 49 [.agg (Ze a0)] O n (.agg (Z4 r)) O n:=by
 unfold Zcf at h
 refine Yi Zc Try.call49 Try.func49 rfl (Nat.le_of_ble_eq_true rfl) (Nat.le_refl _) fun hU => ?_
 have hN0:O n=none:=hU.fresh _ (Nat.le_refl _)
 have hN:∀ k,O (n+k)=none:=fun k=>hU.fresh _ (Nat.le_add_right _ _)
 show W _ _ _ _ ⟨38,[],[(0,.agg (Ze a0))]⟩ (Zw O n []) _
 refine Zj [1,2] (Zb Zc [] ?_)
 simp only [push_cast,seval,↓reduceIte,Za,hN0,hN]
 refine Zi ?_
 refine Zj [1,2,6] (Zb Zc [] ?_)
 simp only [push_cast,seval,↓reduceIte,Za,hN0,hN]
 refine Ya ?_
 refine Zj [1,2,6,7] (Zb Zc [] ?_)
 simp only [push_cast,seval,↓reduceIte,Za,hN0,hN]
 refine Zl (t:=(a0.Kind == 1)) rfl (fun c4 => ?_) (fun c4 => ?_)
 ·replace h:=Z0 c4 h
  refine Zi ?_
  refine Zb Zc [] ?_
  simp only [push_cast,seval,↓reduceIte,Za,hN0,hN]
  refine Zm [2] [false,true] ?_
  simp only [push_cast,seval,↓reduceIte]
  refine Zs ?_
  try simp only [Zh,Zf]
  have h:=Option.some.inj h;subst h
  refine Zq (.inr rfl) hU [.agg [.val (.int .i64 1),.val (.int .i64 0),.val (.int .i64 (a0.Words.length:Int)),.val (.int .i64 (a0.Kids.length:Int)),.val (.int .i64 0),.val (.int .i64 0),.val (.int .i64 0),.val (.bool false)]] (by omega) ?_
  simp only [push_cast,seval,↓reduceIte,Za,Try.results49,hN0,hN]
 replace h:=Zz c4 h
 refine Zj [1,2,16] (Zb Zc [] ?_)
 simp only [push_cast,seval,↓reduceIte,Za,hN0,hN]
 refine Zl (t:=(a0.Kind == 9)) rfl (fun c3 => ?_) (fun c3 => ?_)
 ·replace h:=Z0 c3 h
  refine Zi ?_
  obtain ⟨y2,hy2,h⟩:=bC h
  refine Zb Zc [] ?_
  simp only [push_cast,seval,↓reduceIte,Za,hN0,hN]
  refine (Zk7 hy2).then ?_
  simp only [push_cast,seval,↓reduceIte,Za,hN0,hN]
  refine Zm [1,2,3,4] [true,true] ?_
  simp only [push_cast,seval,↓reduceIte]
  refine Zi ?_
  refine Zb Zc [] ?_
  simp only [push_cast,seval,↓reduceIte,Za,hN0,hN]
  refine Zm [2] [false,true] ?_
  simp only [push_cast,seval,↓reduceIte]
  refine Zs ?_
  try simp only [Zh,Zf]
  have h:=Option.some.inj h;subst h
  refine Zq (.inr rfl) hU [.agg [.val (.int .i64 2),.val (.int .i64 0),.val (.int .i64 0),.val (.int .i64 0),.val (.int .i64 7),.val (.int .i64 (IntKind.i64.wrap ((a0.Kids.length:Int) * (IntKind.i64.wrap (y2.1+y2.2))))),.val (.int .i64 0),.val (.bool false)]] (by omega) ?_
  simp only [push_cast,seval,↓reduceIte,Za,Try.results49,hN0,hN]
 replace h:=Zz c3 h
 refine Zp ?_
 try simp only [Zh,Zf]
 refine Zm [1,2] [true,true] ?_
 simp only [push_cast,seval,↓reduceIte]
 refine Zi ?_
 refine Zb Zc [] ?_
 simp only [push_cast,seval,↓reduceIte,Za,hN0,hN]
 refine Zm [2] [false,true] ?_
 simp only [push_cast,seval,↓reduceIte]
 refine Zs ?_
 try simp only [Zh,Zf]
 have h:=Option.some.inj h;subst h
 refine Zq (.inr rfl) hU [.agg [.val (.int .i64 2),.val (.int .i64 0),.val (.int .i64 0),.val (.int .i64 0),.val (.int .i64 (IntKind.i64.wrap (a0.Kind - 2))),.val (.int .i64 (a0.Kids.length:Int)),.val (.int .i64 0),.val (.bool false)]] (by omega) ?_
 simp only [push_cast,seval,↓reduceIte,Za,Try.results49,hN0,hN]
theorem Zuc {a0:Zd} {a1:Int} {r:Int} {O:Objs} {n:Nat} (h:Zcp a0 a1=some r):GTo Try.prog 125 [.agg (Ze a0),.val (.int .i64 a1)] O n (.val (.int .u64 r)) O n:=by
 unfold Zcp at h
 refine Yi Zc Try.call125 Try.func125 rfl (Nat.le_of_ble_eq_true rfl) (Nat.le_refl _) fun hU => ?_
 have hN0:O n=none:=hU.fresh _ (Nat.le_refl _)
 have hN:∀ k,O (n+k)=none:=fun k=>hU.fresh _ (Nat.le_add_right _ _)
 show W _ _ _ _ ⟨19,[],[(0,.agg (Ze a0)),(1,.val (.int .i64 a1))]⟩ (Zw O n []) _
 refine Zj [1,2] (Zb Zc [] ?_)
 simp only [push_cast,seval,↓reduceIte,Za,hN0,hN]
 refine Zi ?_
 refine Zj [1,2,13] (Zb Zc [none,none,none,none,none] ?_)
 simp only [push_cast,seval,↓reduceIte,Za,hN0,hN]
 repeat (with_reducible refine And.intro (by first | (intro h0;simp only [h0,and_self];done) | (intro h0;simp only [h0,Bool.not_false,Bool.not_true,Bool.true_and,Bool.and_true,true_and,and_true,and_self,imp_self,implies_true,bne_iff_ne,ne_eq,beq_iff_eq];done) | (intros;simp_all;done) | exact True.intro) ?_)
 refine Zl (t:=(cond (decide (a1 < 0)) true (decide ((a0.Words.length:Int)≤a1)))) rfl (fun c3 => ?_) (fun c3 => ?_)
 ·replace h:=Z0 c3 h
  refine Zj [4] (Zb Zc [] ?_)
  simp only [push_cast,seval,↓reduceIte,Za,hN0,hN]
  refine Zs ?_
  try simp only [Zh,Zf]
  have h:=Option.some.inj h;subst h
  refine Zq (.inr rfl) hU [.val (.int .u64 0)] (by omega) ?_
  simp only [push_cast,seval,↓reduceIte,Za,Try.results125,hN0,hN]
 replace h:=Zz c3 h
 refine Zp ?_
 try simp only [Zh,Zf]
 refine Zm [1,2] [true] ?_
 simp only [push_cast,seval,↓reduceIte]
 obtain ⟨x2,hx2,ax2,bx2,cx2,h⟩:=bE (f:=(eI .u64)) K4 (fun _=>rfl) (by decide) h
 refine Zj [4] (Zb Zc [] ?_)
 simp only [push_cast,Nat.reduceAdd,Nat.reduceSub,Nat.reduceMul,Nat.reduceLeDiff,Nat.reduceLT,Nat.reduceEqDiff,↓reduceIte,reduceCtorEq,Int.reduceBEq,Int.reduceBNe,Nat.reduceBEq,Int.reduceLE,Int.reduceLT,Int.reduceEq,Int.reduceNe,Int.reduceNeg,Nat.reduceDiv,Nat.reduceMod,Nat.reducePow,Za,ax2,bx2,cx2,hN0,hN]
 refine Zs ?_
 try simp only [Zh,Zf]
 have h:=Option.some.inj h;subst h
 refine Zq (.inr rfl) hU [.val (.int .u64 x2)] (by omega) ?_
 simp only [push_cast,seval,↓reduceIte,Za,Try.results125,hN0,hN]
theorem Zud {a0:Int} {a1:Int} {r:Int} {O:Objs} {n:Nat} (h:Zcq a0 a1=some r):GTo Try.prog 103 [.val (.int .i64 a0),.val (.int .i64 a1)] O n (.val (.int .i64 r)) O n:=by
 unfold Zcq at h
 refine Yi Zc Try.call103 Try.func103 rfl (Nat.le_of_ble_eq_true rfl) (Nat.le_refl _) fun hU => ?_
 have hN0:O n=none:=hU.fresh _ (Nat.le_refl _)
 have hN:∀ k,O (n+k)=none:=fun k=>hU.fresh _ (Nat.le_add_right _ _)
 show W _ _ _ _ ⟨27,[],[(0,.val (.int .i64 a0)),(1,.val (.int .i64 a1))]⟩ (Zw O n []) _
 refine Zj [0,1] (Zb Zc [] ?_)
 simp only [push_cast,seval,↓reduceIte,Za,hN0,hN]
 refine Zi ?_
 obtain ⟨y2,hy2,h⟩:=bC h
 refine Zb Zc [] ?_
 simp only [push_cast,seval,↓reduceIte,Za,hN0,hN]
 refine (Zf0 hy2).then ?_
 simp only [push_cast,seval,↓reduceIte,Za,hN0,hN]
 refine Zm [1,5,6] [] ?_
 simp only [push_cast,seval,↓reduceIte]
 refine Zi ?_
 refine Zj [1,5,21] (Zb Zc [none,none,none,none] ?_)
 simp only [push_cast,seval,↓reduceIte,Za,hN0,hN]
 repeat (with_reducible refine And.intro (by first | (intro h0;simp only [h0,and_self];done) | (intro h0;simp only [h0,Bool.not_false,Bool.not_true,Bool.true_and,Bool.and_true,true_and,and_true,and_self,imp_self,implies_true,bne_iff_ne,ne_eq,beq_iff_eq];done) | (intros;simp_all;done) | exact True.intro) ?_)
 refine Zl (t:=(cond (cond (!y2.2) true (decide (a1 < 0))) true (decide (1099511627776 < a1)))) rfl (fun c3 => ?_) (fun c3 => ?_)
 ·replace h:=Z0 c3 h
  refine Zj [4] (Zb Zc [] ?_)
  simp only [push_cast,seval,↓reduceIte,Za,hN0,hN]
  refine Zs ?_
  try simp only [Zh,Zf]
  have h:=Option.some.inj h;subst h
  refine Zq (.inr rfl) hU [.val (.int .i64 0)] (by omega) ?_
  simp only [push_cast,seval,↓reduceIte,Za,Try.results103,hN0,hN]
 replace h:=Zz c3 h
 refine Zp ?_
 try simp only [Zh,Zf]
 refine Zm [1,5] [] ?_
 simp only [push_cast,seval,↓reduceIte]
 refine Zj [4] (Zb Zc [] ?_)
 simp only [push_cast,seval,↓reduceIte,Za,hN0,hN]
 refine Zs ?_
 try simp only [Zh,Zf]
 have h:=Option.some.inj h;subst h
 refine Zq (.inr rfl) hU [.val (.int .i64 (IntKind.i64.wrap (Int.tdiv (IntKind.i64.wrap ((IntKind.i64.wrap (a1 * y2.1))+63)) 64)))] (by omega) ?_
 simp only [push_cast,seval,↓reduceIte,Za,Try.results103,hN0,hN]
theorem Zv2 {a0:Int} {a1:(List Int)} {r:((List Int)×Bool)} {O:Objs} {n:Nat} (h:Zbs a0 a1=some r):GTo Try.prog 126 [.val (.int .i64 a0),.sl a1.length (fl (eI .u64) a1)] O n (.tup [.sl r.1.length (fl (eI .u64) r.1),.val (.bool r.2)]) O n:=by
 unfold Zbs at h
 refine Yi Zc Try.call126 Try.func126 rfl (Nat.le_of_ble_eq_true rfl) (Nat.le_refl _) fun hU => ?_
 have hN0:O n=none:=hU.fresh _ (Nat.le_refl _)
 have hN:∀ k,O (n+k)=none:=fun k=>hU.fresh _ (Nat.le_add_right _ _)
 show W _ _ _ _ ⟨68,[],[(0,.val (.int .i64 a0)),(1,.sl a1.length (fl (eI .u64) a1))]⟩ (Zw O n []) _
 refine Zj [0,1] (Zb Zc [] ?_)
 simp only [push_cast,seval,↓reduceIte,Za,hN0,hN]
 refine Zi ?_
 obtain ⟨y2,hy2,h⟩:=bC h
 refine Zb Zc [] ?_
 simp only [push_cast,seval,↓reduceIte,Za,hN0,hN]
 refine (Zf0 hy2).then ?_
 simp only [push_cast,seval,↓reduceIte,Za,hN0,hN]
 refine Zm [0,1,6,7] [] ?_
 simp only [push_cast,seval,↓reduceIte]
 refine Zi ?_
 refine Zj [0,1,6,7,19,20,21] (Zb Zc [] ?_)
 simp only [push_cast,seval,↓reduceIte,Za,hN0,hN]
 refine Zm [0,1,6,7,19,20,21] [] ?_
 simp only [push_cast,seval,↓reduceIte]
 obtain ⟨z8,hz8,h⟩:=bC h
 refine Xb (E':=⟨68,[],[(0,.val (.int .i64 a0)),(1,.sl a1.length (fl (eI .u64) a1)),(6,.val (.int .i64 y2.1)),(7,.val (.bool z8))]⟩) (O':=(Zw O n [])) (n0:=n) ?_ ?_
 ·refine X7 hz8 (fun s0_=>⟨68,[],[(0,.val (.int .i64 a0)),(1,.sl a1.length (fl (eI .u64) a1)),(6,.val (.int .i64 y2.1)),(7,.val (.bool s0_.1)),(19,.sl a1.length (fl (eI .u64) a1)),(20,.val (.int .i64 (a1.length:Int))),(21,.val (.int .i64 s0_.2))]⟩) (fun s0_=>(Zw O n [])) (fun z8=>JX 0 n (⟨68,[],[(0,.val (.int .i64 a0)),(1,.sl a1.length (fl (eI .u64) a1)),(6,.val (.int .i64 y2.1)),(7,.val (.bool z8))]⟩:Env) (Zw O n []) n) ?_
  intro s0_ x0_ hs0_
  unfold Vo at hs0_
  try dsimp only
  refine Zj [0,1,6,7,19,20,21,22] (Zb Zc [] ?_)
  simp only [push_cast,seval,↓reduceIte,Za,hN0,hN]
  refine Zi ?_
  refine Zl (t:=(decide (s0_.2 < (a1.length:Int)))) rfl (fun c7 => ?_) (fun c7 => ?_)
  ·replace hs0_:=Z0 c7 hs0_
   refine Zp ?_
   try simp only [Zh,Zf]
   refine Zm [0,1,6,7,19,20,21] [] ?_
   simp only [push_cast,seval,↓reduceIte]
   refine Zi ?_
   refine Ya ?_
   obtain ⟨x4,hx4,ax4,bx4,cx4,hs0_⟩:=bE (f:=(eI .u64)) K4 (fun _=>rfl) (by decide) hs0_
   refine Zj [0,1,6,7,9,19,20,21] (Zb Zc [] ?_)
   simp only [push_cast,Nat.reduceAdd,Nat.reduceSub,Nat.reduceMul,Nat.reduceLeDiff,Nat.reduceLT,Nat.reduceEqDiff,↓reduceIte,reduceCtorEq,Int.reduceBEq,Int.reduceBNe,Nat.reduceBEq,Int.reduceLE,Int.reduceLT,Int.reduceEq,Int.reduceNe,Int.reduceNeg,Nat.reduceDiv,Nat.reduceMod,Nat.reducePow,Za,ax4,bx4,cx4,hN0,hN]
   rcases Bool.eq_false_or_eq_true s0_.1 with c6 | c6
   ·replace hs0_:=Z0 c6 hs0_
    obtain ⟨y5,hy5,hs0_⟩:=bC hs0_
    refine Zb Zc (Zzp []) ?_
    simp only [push_cast,seval,↓reduceIte,Za,c6,hN0,hN]
    refine (Znw hy5).then ?_
    simp only [push_cast,seval,↓reduceIte,Za,c6,hN0,hN]
    refine Zm [0,1,6,7,19,20,21] [] ?_
    simp only [push_cast,seval,↓reduceIte]
    refine Zb Zc [] ?_
    simp only [push_cast,seval,↓reduceIte,Za,hN0,hN]
    have hs0_:=Option.some.inj hs0_;subst hs0_
    refine And.intro rfl (Fit2.of (Zk hU rfl rfl ?_) (by omega))
    simp only [push_cast,seval,↓reduceIte,Za,c6,hN0,hN]
   replace hs0_:=Zz c6 hs0_
   refine Zb Zc (Z4k []) ?_
   simp only [push_cast,seval,↓reduceIte,Za,c6,hN0,hN]
   refine Zm [0,1,6,7,19,20,21] [] ?_
   simp only [push_cast,seval,↓reduceIte]
   refine Zb Zc [] ?_
   simp only [push_cast,seval,↓reduceIte,Za,hN0,hN]
   have hs0_:=Option.some.inj hs0_;subst hs0_
   refine And.intro rfl (Fit2.of (Zk hU rfl rfl ?_) (by omega))
   simp only [push_cast,seval,↓reduceIte,Za,hN0,hN]
  replace hs0_:=Zz c7 hs0_
  refine X0 ?_
  try simp only [Zh,Zf,↓reduceIte,Nat.reduceEqDiff]
  have hs0_:=Option.some.inj hs0_;subst hs0_
  refine And.intro (fun h=>by cases h) (And.intro rfl (Fit2.of (Zk hU rfl rfl ?_) (by omega)))
  simp only [push_cast,seval,↓reduceIte,Za,hN0,hN]
 try simp only [Zh,Zf,↓reduceIte,Nat.reduceEqDiff]
 refine Zm [0,1,6,7] [] ?_
 simp only [push_cast,seval,↓reduceIte]
 refine Zi ?_
 refine Zj [0,1,6,33] (Zb Zc [] ?_)
 simp only [push_cast,seval,↓reduceIte,Za,hN0,hN]
 refine Zl (t:=(!z8)) rfl (fun c26 => ?_) (fun c26 => ?_)
 ·replace h:=Z0 c26 h
  refine Zj [4,5] (Zb Zc [] ?_)
  simp only [push_cast,seval,↓reduceIte,Za,hN0,hN]
  refine Zs ?_
  try simp only [Zh,Zf]
  have h:=Option.some.inj h;subst h
  refine Zq (.inr rfl) hU [.val (.slice none 0 0),.val (.bool false)] (by omega) ?_
  simp only [push_cast,seval,↓reduceIte,Za,Try.results126,hN0,hN]
 replace h:=Zz c26 h
 refine Zp ?_
 try simp only [Zh,Zf]
 refine Zm [0,1,6] [] ?_
 simp only [push_cast,seval,↓reduceIte]
 refine Zi ?_
 obtain ⟨y11,hy11,h⟩:=bC h
 obtain ⟨l12,al12,bl12,cl12,el12,h⟩:=bM2 (c:=8) rfl h
 have nl12:Int.toNat y11=List.length l12:=by rw [el12,List.length_replicate]
 have fl12:(List.replicate (List.length l12) [.val (.int .u64 0)]).flatten=fl (eI .u64) l12:=by rw [← nl12,el12];exact (Znd (f:=(eI .u64)) _ _).symm
 clear el12
 refine Zb Zc [] ?_
 simp only [push_cast,seval,↓reduceIte,Za,al12,bl12,cl12,fl12,nl12,hN0,hN]
 refine (Zud hy11).then ?_
 simp only [push_cast,seval,↓reduceIte,Za,al12,bl12,cl12,fl12,nl12,hN0,hN]
 refine Za4 ⟨68,[],[(1,.sl a1.length (fl (eI .u64) a1)),(6,.val (.int .i64 y2.1)),(10,.row n l12.length)]⟩ (Zw O n [some ⟨true,58,1,l12.length,fl (eI .u64) l12⟩]) (Zk hU rfl rfl ?_) ?_
 ·simp only [push_cast,seval,↓reduceIte,Za,al12,bl12,cl12,fl12,nl12,hN0,hN]
 refine Zi ?_
 refine Zj [1,6,10,40] (Zb Zc [] ?_)
 simp only [push_cast,seval,↓reduceIte,Za,hN0,hN]
 refine Zl (t:=(y2.1 == 0)) rfl (fun c25 => ?_) (fun c25 => ?_)
 ·replace h:=Z0 c25 h
  refine Zj [4,5] (Zb Zc [] ?_)
  simp only [push_cast,seval,↓reduceIte,Za,hN0,hN]
  refine Zs ?_
  try simp only [Zh,Zf]
  have h:=Option.some.inj h;subst h
  refine Zq (.inr rfl) hU [.row n l12.length,.val (.bool true)] (by omega) ?_
  simp only [push_cast,seval,↓reduceIte,Za,Try.results126,hN0,hN]
 replace h:=Zz c25 h
 refine Zp ?_
 try simp only [Zh,Zf]
 refine Zm [1,6,10] [true] ?_
 simp only [push_cast,seval,↓reduceIte]
 obtain ⟨pu14,h⟩:=bG h
 refine Zj [1,6,10,11] (Zb Zc [] ?_)
 simp only [push_cast,seval,↓reduceIte,Za,pu14,hN0,hN]
 refine Zi ?_
 refine Zj [6,10,11,44,45,46] (Zb Zc [] ?_)
 simp only [push_cast,seval,↓reduceIte,Za,hN0,hN]
 refine Zm [6,10,11,44,45,46] [true] ?_
 simp only [push_cast,seval,↓reduceIte]
 obtain ⟨z24,hz24,h⟩:=bC h
 refine Xb (E':=⟨68,[],[(10,.row n z24.length)]⟩) (O':=(Zw O n [some ⟨true,58,1,z24.length,fl (eI .u64) z24⟩])) (n0:=(n+1)) ?_ ?_
 ·refine X7 hz24 (fun s1_=>⟨68,[],[(6,.val (.int .i64 y2.1)),(10,.row n s1_.2.length),(11,.val (.int .i64 (IntKind.i64.wrap (Int.tdiv 64 y2.1)))),(44,.sl a1.length (fl (eI .u64) a1)),(45,.val (.int .i64 (a1.length:Int))),(46,.val (.int .i64 s1_.1))]⟩) (fun s1_=>(Zw O n [some ⟨true,58,1,s1_.2.length,fl (eI .u64) s1_.2⟩])) (fun z24=>JX 2 n (⟨68,[],[(10,.row n z24.length)]⟩:Env) (Zw O n [some ⟨true,58,1,z24.length,fl (eI .u64) z24⟩]) (n+1)) ?_
  intro s1_ x1_ hs1_
  unfold Kk at hs1_
  try dsimp only
  refine Zj [6,10,11,44,45,46,47] (Zb Zc [] ?_)
  simp only [push_cast,seval,↓reduceIte,Za,hN0,hN]
  refine Zi ?_
  refine Zl (t:=(decide (s1_.1 < (a1.length:Int)))) rfl (fun c23 => ?_) (fun c23 => ?_)
  ·replace hs1_:=Z0 c23 hs1_
   refine Zp ?_
   try simp only [Zh,Zf]
   refine Zm [6,10,11,44,45,46] [true] ?_
   simp only [push_cast,seval,↓reduceIte]
   refine Zi ?_
   refine Ya ?_
   obtain ⟨x16,hx16,ax16,bx16,cx16,hs1_⟩:=bE (f:=(eI .u64)) K4 (fun _=>rfl) (by decide) hs1_
   refine Zj [6,10,11,12,13,44,45,46] (Zb Zc [] ?_)
   simp only [push_cast,Nat.reduceAdd,Nat.reduceSub,Nat.reduceMul,Nat.reduceLeDiff,Nat.reduceLT,Nat.reduceEqDiff,↓reduceIte,reduceCtorEq,Int.reduceBEq,Int.reduceBNe,Nat.reduceBEq,Int.reduceLE,Int.reduceLT,Int.reduceEq,Int.reduceNe,Int.reduceNeg,Nat.reduceDiv,Nat.reduceMod,Nat.reducePow,Za,ax16,bx16,cx16,hN0,hN]
   obtain ⟨pu17,hs1_⟩:=bG hs1_
   obtain ⟨x18,hx18,ax18,bx18,cx18,hs1_⟩:=bE (f:=(eI .u64)) K4 (fun _=>rfl) (by decide) hs1_
   obtain ⟨pu19,hs1_⟩:=bG hs1_
   obtain ⟨pu20,hs1_⟩:=bG hs1_
   have gu22:Q9 (fl (eI .u64) s1_.2) [.val (.int .u64 (IntKind.u64.wrap (Vy .u64 x18 (IntKind.u64.wrap (x16 * 2 ^ min (Int.toNat (IntKind.i64.wrap ((Int.tmod s1_.1 (IntKind.i64.wrap (Int.tdiv 64 y2.1))) * y2.1))) 64)))))] (Int.toNat (IntKind.i64.wrap (Int.tdiv s1_.1 (IntKind.i64.wrap (Int.tdiv 64 y2.1)))) * 1)=some (fl (eI .u64) (Yc s1_.2 (IntKind.i64.wrap (Int.tdiv s1_.1 (IntKind.i64.wrap (Int.tdiv 64 y2.1)))) (IntKind.u64.wrap (Vy .u64 x18 (IntKind.u64.wrap (x16 * 2 ^ min (Int.toNat (IntKind.i64.wrap ((Int.tmod s1_.1 (IntKind.i64.wrap (Int.tdiv 64 y2.1))) * y2.1))) 64)))))):=Ur (f:=(eI .u64)) (ti:=⟨.bool,1,0,[],false⟩) (x:=(IntKind.u64.wrap (Vy .u64 x18 (IntKind.u64.wrap (x16 * 2 ^ min (Int.toNat (IntKind.i64.wrap ((Int.tmod s1_.1 (IntKind.i64.wrap (Int.tdiv 64 y2.1))) * y2.1))) 64))))) (fun _=>rfl) (Kw hx18)
   refine Zti Zc (by kernel_rfl) [false,false,false,false,false,false,false,false,false,false,false,false,false,false,false,true] [] (by kernel_rfl) ?_
   simp only [push_cast,Nat.reduceAdd,Nat.reduceSub,Nat.reduceMul,Nat.reduceLeDiff,Nat.reduceLT,Nat.reduceEqDiff,↓reduceIte,reduceCtorEq,Int.reduceBEq,Int.reduceBNe,Nat.reduceBEq,Int.reduceLE,Int.reduceLT,Int.reduceEq,Int.reduceNe,Int.reduceNeg,Nat.reduceDiv,Nat.reduceMod,Nat.reducePow,Za,pu17,ax18,bx18,cx18,pu19,pu20,gu22,hN0,hN]
   refine Zm [6,10,11,44,45,46] [true] ?_
   simp only [push_cast,seval,↓reduceIte]
   refine Zb Zc [] ?_
   simp only [push_cast,seval,↓reduceIte,Za,hN0,hN]
   have hs1_:=Option.some.inj hs1_;subst hs1_
   refine And.intro rfl (Fit2.of (Zk hU rfl rfl ?_) (by omega))
   simp only [push_cast,seval,↓reduceIte,Za,hN0,hN]
  replace hs1_:=Zz c23 hs1_
  refine X0 ?_
  try simp only [Zh,Zf,↓reduceIte,Nat.reduceEqDiff]
  have hs1_:=Option.some.inj hs1_;subst hs1_
  refine And.intro (fun h=>by cases h) (And.intro rfl (Fit2.of (Zk hU rfl rfl ?_) (by omega)))
  simp only [push_cast,seval,↓reduceIte,Za,hN0,hN]
 try simp only [Zh,Zf,↓reduceIte,Nat.reduceEqDiff]
 refine Zm [10] [true] ?_
 simp only [push_cast,seval,↓reduceIte]
 refine Zj [4,5] (Zb Zc [] ?_)
 simp only [push_cast,seval,↓reduceIte,Za,hN0,hN]
 refine Zs ?_
 try simp only [Zh,Zf]
 have h:=Option.some.inj h;subst h
 refine Zq (.inr rfl) hU [.row n z24.length,.val (.bool true)] (by omega) ?_
 simp only [push_cast,seval,↓reduceIte,Za,Try.results126,hN0,hN]
theorem Zoo {a0:Zd} {r:(List Int)} {O:Objs} {n:Nat} (h:U8 a0=some r):GTo Try.prog 94 [.agg (Ze a0)] O n (.sl r.length (fl (eI .u64) r)) O n:=by
 unfold U8 at h
 refine Yi Zc Try.call94 Try.func94 rfl (Nat.le_of_ble_eq_true rfl) (Nat.le_refl _) fun hU => ?_
 have hN0:O n=none:=hU.fresh _ (Nat.le_refl _)
 have hN:∀ k,O (n+k)=none:=fun k=>hU.fresh _ (Nat.le_add_right _ _)
 show W _ _ _ _ ⟨30,[],[(0,.agg (Ze a0))]⟩ (Zw O n []) _
 refine Zj [1] (Zb Zc [] ?_)
 simp only [push_cast,seval,↓reduceIte,Za,hN0,hN]
 refine Zj [1,3] (Zb Zc [] ?_)
 simp only [push_cast,seval,↓reduceIte,Za,hN0,hN]
 refine Zi ?_
 refine Zj [1,3,9,10,11] (Zb Zc [] ?_)
 simp only [push_cast,seval,↓reduceIte,Za,hN0,hN]
 refine Zm [1,3,9,10,11] [true] ?_
 simp only [push_cast,seval,↓reduceIte]
 refine Zbk (E':=(⟨30,[],[(1,.ref n 0),(3,.row (n+1) ([]:List Int).length),(9,.sl a0.Kids.length (fl Zg a0.Kids)),(10,.val (.int .i64 (a0.Kids.length:Int))),(11,.val (.int .i64 0))]⟩:Env)) (O':=(Zw O n [some ⟨false,25,3,1,(Ze a0)⟩,some ⟨true,58,1,([]:List Int).length,fl (eI .u64) ([]:List Int)⟩,none])) (n':=(n+3)) ?_ ?_
 ·refine Fit2.trans (E':=(⟨30,[],[(1,.ref n 0),(3,.val (.slice none 0 0)),(9,.sl a0.Kids.length (fl Zg a0.Kids)),(10,.val (.int .i64 (a0.Kids.length:Int))),(11,.val (.int .i64 0))]⟩:Env)) (O':=(Zw O n [some ⟨false,25,3,1,(Ze a0)⟩])) (n':=(n+1)) (Fit2.of (Zk hU rfl rfl ?_) (by omega)) ?_
  ·simp only [push_cast,seval,↓reduceIte,Za,hN0,hN]
  refine Fit2.trans (Zf3 3 58 1 rfl (by omega)) ?_
  simp only [J6,Qg,Vr,Ku,List.set_cons_zero,List.set_cons_succ,List.cons_append,List.nil_append,List.length_cons,List.length_nil,Nat.zero_add,Nat.reduceAdd,Nat.reduceLT,Nat.add_assoc]
  refine Fit2.trans (E':=(⟨30,[],[(1,.ref n 0),(3,.row (n+1) ([]:List Int).length),(9,.sl a0.Kids.length (fl Zg a0.Kids)),(10,.val (.int .i64 (a0.Kids.length:Int))),(11,.val (.int .i64 0))]⟩:Env)) (O':=(Zw O n [some ⟨false,25,3,1,(Ze a0)⟩,some ⟨true,58,1,([]:List Int).length,fl (eI .u64) ([]:List Int)⟩])) (n':=(n+2)) (Fit2.of (Zk hU rfl rfl ?_) (by omega)) ?_
  ·simp only [push_cast,seval,↓reduceIte,Za,hN0,hN]
  refine Zfs (k:=2) (k':=3) hU [0,1] [0,1,0] rfl rfl rfl rfl ⟨rfl,rfl⟩ ?_
  simp only [push_cast,seval,↓reduceIte,Za,hN0,hN]
 obtain ⟨z6,hz6,h⟩:=bC h
 refine Xb (E':=⟨30,[],[(1,.ref n 0),(3,.row (n+1) z6.length)]⟩) (O':=(Zw O n [some ⟨false,25,3,1,(Ze a0)⟩,some ⟨true,58,1,z6.length,fl (eI .u64) z6⟩,none])) (n0:=(n+3)) ?_ ?_
 ·refine X7 hz6 (fun s0_=>⟨30,[],[(1,.ref n 0),(3,.row (n+1) s0_.2.length),(9,.sl a0.Kids.length (fl Zg a0.Kids)),(10,.val (.int .i64 (a0.Kids.length:Int))),(11,.val (.int .i64 s0_.1))]⟩) (fun s0_=>(Zw O n [some ⟨false,25,3,1,(Ze a0)⟩,some ⟨true,58,1,s0_.2.length,fl (eI .u64) s0_.2⟩,none])) (fun z6=>JX 0 n (⟨30,[],[(1,.ref n 0),(3,.row (n+1) z6.length)]⟩:Env) (Zw O n [some ⟨false,25,3,1,(Ze a0)⟩,some ⟨true,58,1,z6.length,fl (eI .u64) z6⟩,none]) (n+3)) ?_
  intro s0_ x0_ hs0_
  unfold Jt at hs0_
  try dsimp only
  refine Zj [1,3,9,10,11,12] (Zb Zc [] ?_)
  simp only [push_cast,seval,↓reduceIte,Za,hN0,hN]
  refine Zi ?_
  refine Zl (t:=(decide (s0_.1 < (a0.Kids.length:Int)))) rfl (fun c5 => ?_) (fun c5 => ?_)
  ·replace hs0_:=Z0 c5 hs0_
   refine Zp ?_
   try simp only [Zh,Zf]
   refine Zm [1,3,9,10,11] [true,true,false] ?_
   simp only [push_cast,seval,↓reduceIte]
   refine Zi ?_
   refine Ya ?_
   refine Zi ?_
   obtain ⟨x2,hx2,ax2,bx2,cx2,hs0_⟩:=bE (f:=Zg) J3 (fun _=>rfl) (by decide) hs0_
   refine Zb Zc [] ?_
   simp only [push_cast,Nat.reduceAdd,Nat.reduceSub,Nat.reduceMul,Nat.reduceLeDiff,Nat.reduceLT,Nat.reduceEqDiff,↓reduceIte,reduceCtorEq,Int.reduceBEq,Int.reduceBNe,Nat.reduceBEq,Int.reduceLE,Int.reduceLT,Int.reduceEq,Int.reduceNe,Int.reduceNeg,Nat.reduceDiv,Nat.reduceMod,Nat.reducePow,Za,ax2,bx2,cx2,hN0,hN]
   refine Zm [1,3,5,9,10,11] [true,true,false,true] ?_
   simp only [push_cast,seval,↓reduceIte]
   obtain ⟨y3,hy3,hs0_⟩:=bC hs0_
   obtain ⟨l4,pl4,ql4,el4,hs0_⟩:=bA (k:=1) rfl hs0_
   refine Zb Zc [] ?_
   simp only [push_cast,seval,↓reduceIte,Za,pl4,ql4,el4,hN0,hN]
   refine (Zuc hy3).then ?_
   simp only [push_cast,seval,↓reduceIte,Za,pl4,ql4,el4,hN0,hN]
   refine Za4 ⟨30,[],[(1,.ref n 0),(3,.row (n+1) l4.length),(9,.sl a0.Kids.length (fl Zg a0.Kids)),(10,.val (.int .i64 (a0.Kids.length:Int))),(11,.val (.int .i64 s0_.1))]⟩ (Zw O n [some ⟨false,25,3,1,(Ze a0)⟩,some ⟨true,58,1,l4.length,fl (eI .u64) l4⟩,none,none,none]) (Zk hU rfl rfl ?_) ?_
   ·simp only [push_cast,seval,↓reduceIte,Za,pl4,ql4,el4,hN0,hN]
   refine Zb Zc [] ?_
   simp only [push_cast,seval,↓reduceIte,Za,hN0,hN]
   have hs0_:=Option.some.inj hs0_;subst hs0_
   refine And.intro rfl (Fit2.of (Zk hU rfl rfl ?_) (by omega))
   simp only [push_cast,seval,↓reduceIte,Za,hN0,hN]
  replace hs0_:=Zz c5 hs0_
  refine X0 ?_
  try simp only [Zh,Zf,↓reduceIte,Nat.reduceEqDiff]
  have hs0_:=Option.some.inj hs0_;subst hs0_
  refine And.intro (fun h=>by cases h) (And.intro rfl (Fit2.of (Zk hU rfl rfl ?_) (by omega)))
  simp only [push_cast,seval,↓reduceIte,Za,hN0,hN]
 try simp only [Zh,Zf,↓reduceIte,Nat.reduceEqDiff]
 refine Zm [1,3] [true,true,false] ?_
 simp only [push_cast,seval,↓reduceIte]
 refine Za4 ⟨30,[],[(1,.ref n 0),(3,.sl z6.length (fl (eI .u64) z6))]⟩ (Zw O n [some ⟨false,25,3,1,(Ze a0)⟩,none,none]) (Zk hU rfl rfl ?_) ?_
 ·simp only [push_cast,seval,↓reduceIte,Za,hN0,hN]
 refine Zi ?_
 obtain ⟨y8,hy8,h⟩:=bC h
 refine Zb Zc [] ?_
 simp only [push_cast,seval,↓reduceIte,Za,hN0,hN]
 refine (Zv2 hy8).then ?_
 simp only [push_cast,seval,↓reduceIte,Za,hN0,hN]
 refine Zm [6] [false,false,false] ?_
 simp only [push_cast,seval,↓reduceIte]
 refine Zj [2] (Zb Zc [] ?_)
 simp only [push_cast,seval,↓reduceIte,Za,hN0,hN]
 refine Zs ?_
 try simp only [Zh,Zf]
 have h:=Option.some.inj h;subst h
 refine Zq (.inr rfl) hU [.sl y8.1.length (fl (eI .u64) y8.1)] (by omega) ?_
 simp only [push_cast,seval,↓reduceIte,Za,Try.results94,hN0,hN]
theorem Zxk {a0:Z3} {r:Int} {O:Objs} {n:Nat} (h:Zgc a0=some r):GTo Try.prog 104 [.agg (Z4 a0)] O n (.val (.int .u64 r)) O n:=by
 unfold Zgc at h
 refine Yi Zc Try.call104 Try.func104 rfl (Nat.le_of_ble_eq_true rfl) (Nat.le_refl _) fun hU => ?_
 have hN0:O n=none:=hU.fresh _ (Nat.le_refl _)
 have hN:∀ k,O (n+k)=none:=fun k=>hU.fresh _ (Nat.le_add_right _ _)
 show W _ _ _ _ ⟨58,[],[(0,.agg (Z4 a0))]⟩ (Zw O n []) _
 refine Zj [1] (Zb Zc [] ?_)
 simp only [push_cast,seval,↓reduceIte,Za,hN0,hN]
 refine Zi ?_
 refine Zj [1,5] (Zb Zc [] ?_)
 simp only [push_cast,seval,↓reduceIte,Za,hN0,hN]
 refine Ya ?_
 refine Zj [1,5,6] (Zb Zc [] ?_)
 simp only [push_cast,seval,↓reduceIte,Za,hN0,hN]
 refine Zl (t:=(a0.Kind == 1)) rfl (fun c5 => ?_) (fun c5 => ?_)
 ·replace h:=Z0 c5 h
  refine Zj [2] (Zb Zc [] ?_)
  simp only [push_cast,seval,↓reduceIte,Za,hN0,hN]
  refine Zs ?_
  try simp only [Zh,Zf]
  have h:=Option.some.inj h;subst h
  refine Zq (.inr rfl) hU [.val (.int .u64 (IntKind.u64.wrap (Vy .u64 (IntKind.u64.wrap (Vy .u64 (IntKind.u64.wrap (IntKind.u32.wrap ((IntKind.u32.wrap a0.Off) * 2 ^ min (Int.toNat 2) 32))) (IntKind.u64.wrap ((IntKind.u64.wrap a0.Data) * 2 ^ min (Int.toNat 32) 64)))) (IntKind.u64.wrap ((IntKind.u64.wrap a0.Ptrs) * 2 ^ min (Int.toNat 48) 64)))))] (by omega) ?_
  simp only [push_cast,seval,↓reduceIte,Za,Try.results104,hN0,hN]
 replace h:=Zz c5 h
 refine Zj [1,5,23] (Zb Zc [] ?_)
 simp only [push_cast,seval,↓reduceIte,Za,hN0,hN]
 refine Zl (t:=(a0.Kind == 2)) rfl (fun c4 => ?_) (fun c4 => ?_)
 ·replace h:=Z0 c4 h
  refine Zj [2] (Zb Zc [] ?_)
  simp only [push_cast,seval,↓reduceIte,Za,hN0,hN]
  refine Zs ?_
  try simp only [Zh,Zf]
  have h:=Option.some.inj h;subst h
  refine Zq (.inr rfl) hU [.val (.int .u64 (IntKind.u64.wrap (Vy .u64 (IntKind.u64.wrap (Vy .u64 (IntKind.u64.wrap (Vy .u64 1 (IntKind.u64.wrap (IntKind.u32.wrap ((IntKind.u32.wrap a0.Off) * 2 ^ min (Int.toNat 2) 32))))) (IntKind.u64.wrap ((IntKind.u64.wrap a0.Code) * 2 ^ min (Int.toNat 32) 64)))) (IntKind.u64.wrap ((IntKind.u64.wrap a0.Count) * 2 ^ min (Int.toNat 35) 64)))))] (by omega) ?_
  simp only [push_cast,seval,↓reduceIte,Za,Try.results104,hN0,hN]
 replace h:=Zz c4 h
 refine Zj [1,41] (Zb Zc [] ?_)
 simp only [push_cast,seval,↓reduceIte,Za,hN0,hN]
 refine Zl (t:=(a0.Kind == 3)) rfl (fun c3 => ?_) (fun c3 => ?_)
 ·replace h:=Z0 c3 h
  refine Zj [1,3] (Zb Zc [] ?_)
  simp only [push_cast,seval,↓reduceIte,Za,hN0,hN]
  obtain ⟨z1,hz1,h⟩:=bC h
  refine Yk (E':=⟨58,[],[(3,.val (.int .u64 z1))]⟩) (O':=(Zw O n [none])) (n0:=(n+1)) ?_ ?_
  ·refine Zj [3,54] (Zb Zc [] ?_)
   simp only [push_cast,seval,↓reduceIte,Za,hN0,hN]
   refine Zl (t:=a0.Double) rfl (fun c2 => ?_) (fun c2 => ?_)
   ·replace hz1:=Z0 c2 hz1
    refine Zb Zc [] ?_
    simp only [push_cast,seval,↓reduceIte,Za,hN0,hN]
    have hz1:=Option.some.inj hz1;subst hz1
    refine And.intro rfl (Fit2.of (Zk hU rfl rfl ?_) (by omega))
    simp only [push_cast,seval,↓reduceIte,Za,hN0,hN]
   replace hz1:=Zz c2 hz1
   refine Zp ?_
   try simp only [Zh,Zf]
   have hz1:=Option.some.inj hz1;subst hz1
   refine And.intro rfl (Fit2.of (Zk hU rfl rfl ?_) (by omega))
   simp only [push_cast,seval,↓reduceIte,Za,hN0,hN]
  refine Zj [2] (Zb Zc [] ?_)
  simp only [push_cast,seval,↓reduceIte,Za,hN0,hN]
  refine Zs ?_
  try simp only [Zh,Zf]
  have h:=Option.some.inj h;subst h
  refine Zq (.inr rfl) hU [.val (.int .u64 z1)] (by omega) ?_
  simp only [push_cast,seval,↓reduceIte,Za,Try.results104,hN0,hN]
 replace h:=Zz c3 h
 refine Zp ?_
 try simp only [Zh,Zf]
 refine Zm [] [false] ?_
 simp only [push_cast,seval,↓reduceIte]
 refine Zj [2] (Zb Zc [] ?_)
 simp only [push_cast,seval,↓reduceIte,Za,hN0,hN]
 refine Zs ?_
 try simp only [Zh,Zf]
 have h:=Option.some.inj h;subst h
 refine Zq (.inr rfl) hU [.val (.int .u64 0)] (by omega) ?_
 simp only [push_cast,seval,↓reduceIte,Za,Try.results104,hN0,hN]
theorem Zk6 {a0:Int} {r:Int} {O:Objs} {n:Nat} (h:Zax a0=some r):GTo Try.prog 128 [.val (.int .u64 a0)] O n (.val (.int .i64 r)) O n:=by
 unfold Zax at h
 refine Yi Zc Try.call128 Try.func128 rfl (Nat.le_of_ble_eq_true rfl) (Nat.le_refl _) fun hU => ?_
 have hN0:O n=none:=hU.fresh _ (Nat.le_refl _)
 have hN:∀ k,O (n+k)=none:=fun k=>hU.fresh _ (Nat.le_add_right _ _)
 show W _ _ _ _ ⟨8,[],[(0,.val (.int .u64 a0))]⟩ (Zw O n []) _
 refine Zj [0] (Zb Zc [] ?_)
 simp only [push_cast,seval,↓reduceIte,Za,hN0,hN]
 refine Zj [2] (Zb Zc [] ?_)
 simp only [push_cast,seval,↓reduceIte,Za,hN0,hN]
 refine Zs ?_
 try simp only [Zh,Zf]
 have h:=Option.some.inj h;subst h
 refine Zq (.inr rfl) hU [.val (.int .i64 (IntKind.i64.wrap (Int.fdiv (IntKind.i32.wrap (IntKind.u32.wrap a0)) (2 ^ min (Int.toNat 2) 32))))] (by omega) ?_
 simp only [push_cast,seval,↓reduceIte,Za,Try.results128,hN0,hN]
theorem Uw {a0:Int} {a1:Int} {a2:Int} {r:Int} {O:Objs} {n:Nat} (h:Y6 a0 a1 a2=some r):GTo Try.prog 129 [.val (.int .u64 a0),.val (.int .i64 a1),.val (.int .i64 a2)] O n (.val (.int .i64 r)) O n:=by
 unfold Y6 at h
 refine Yi Zc Try.call129 Try.func129 rfl (Nat.le_of_ble_eq_true rfl) (Nat.le_refl _) fun hU => ?_
 have hN0:O n=none:=hU.fresh _ (Nat.le_refl _)
 have hN:∀ k,O (n+k)=none:=fun k=>hU.fresh _ (Nat.le_add_right _ _)
 show W _ _ _ _ ⟨15,[],[(0,.val (.int .u64 a0)),(1,.val (.int .i64 a1)),(2,.val (.int .i64 a2))]⟩ (Zw O n []) _
 refine Zj [0,1,2] (Zb Zc [] ?_)
 simp only [push_cast,seval,↓reduceIte,Za,hN0,hN]
 obtain ⟨pu3,h⟩:=bG h
 obtain ⟨pu4,h⟩:=bG h
 refine Zj [6] (Y2 Zc (by kernel_rfl) [] (by kernel_rfl) ?_)
 simp only [push_cast,seval,↓reduceIte,Za,pu3,pu4,hN0,hN]
 refine Zs ?_
 try simp only [Zh,Zf]
 have h:=Option.some.inj h;subst h
 refine Zq (.inr rfl) hU [.val (.int .i64 (IntKind.i64.wrap (IntKind.u64.wrap (Za5 .u64 (Int.fdiv a0 (2 ^ min (Int.toNat a1) 64)) (IntKind.u64.wrap ((IntKind.u64.wrap (1 * 2 ^ min (Int.toNat a2) 64)) - 1))))))] (by omega) ?_
 simp only [push_cast,seval,↓reduceIte,Za,Try.results129,hN0,hN]
theorem Zsf {a0:Int} {r:Z3} {O:Objs} {n:Nat} (h:Zaw a0=some r):GTo Try.prog 105 [.val (.int .u64 a0)] O n (.agg (Z4 r)) O n:=by
 unfold Zaw at h
 refine Yi Zc Try.call105 Try.func105 rfl (Nat.le_of_ble_eq_true rfl) (Nat.le_refl _) fun hU => ?_
 have hN0:O n=none:=hU.fresh _ (Nat.le_refl _)
 have hN:∀ k,O (n+k)=none:=fun k=>hU.fresh _ (Nat.le_add_right _ _)
 show W _ _ _ _ ⟨38,[],[(0,.val (.int .u64 a0))]⟩ (Zw O n []) _
 refine Zj [0,2] (Zb Zc [] ?_)
 simp only [push_cast,seval,↓reduceIte,Za,hN0,hN]
 refine Zi ?_
 refine Zj [0,2,4] (Zb Zc [] ?_)
 simp only [push_cast,seval,↓reduceIte,Za,hN0,hN]
 refine Zl (t:=(a0 == 0)) rfl (fun c20 => ?_) (fun c20 => ?_)
 ·replace h:=Z0 c20 h
  refine Zi ?_
  refine Zb Zc [] ?_
  simp only [push_cast,seval,↓reduceIte,Za,hN0,hN]
  refine Za4 ⟨38,[],[(2,.ref n 0)]⟩ (Zw O n [some ⟨false,109,8,1,[.val (.int .i64 0),.val (.int .i64 0),.val (.int .i64 0),.val (.int .i64 0),.val (.int .i64 0),.val (.int .i64 0),.val (.int .i64 0),.val (.bool false)]⟩]) (Zk hU rfl rfl ?_) ?_
  ·simp only [push_cast,seval,↓reduceIte,Za,hN0,hN]
  refine Zs ?_
  try simp only [Zh,Zf]
  have h:=Option.some.inj h;subst h
  refine Zq (.inr rfl) hU [.agg [.val (.int .i64 0),.val (.int .i64 0),.val (.int .i64 0),.val (.int .i64 0),.val (.int .i64 0),.val (.int .i64 0),.val (.int .i64 0),.val (.bool false)]] (by omega) ?_
  simp only [push_cast,seval,↓reduceIte,Za,Try.results105,hN0,hN]
 replace h:=Zz c20 h
 refine Zp ?_
 try simp only [Zh,Zf]
 refine Za4 ⟨38,[],[(0,.val (.int .u64 a0)),(2,.ref n 0)]⟩ (Zw O n [some ⟨false,109,8,1,[.val (.int .i64 0),.val (.int .i64 0),.val (.int .i64 0),.val (.int .i64 0),.val (.int .i64 0),.val (.int .i64 0),.val (.int .i64 0),.val (.bool false)]⟩]) (Zk hU rfl rfl ?_) ?_
 ·simp only [push_cast,seval,↓reduceIte,Za,hN0,hN]
 refine Zi ?_
 refine Zj [0,2,7] (Zb Zc [] ?_)
 simp only [push_cast,seval,↓reduceIte,Za,hN0,hN]
 refine Ya ?_
 refine Zj [0,2,7,8] (Zb Zc [] ?_)
 simp only [push_cast,seval,↓reduceIte,Za,hN0,hN]
 refine Zl (t:=((IntKind.u64.wrap (Za5 .u64 a0 3)) == 0)) rfl (fun c19 => ?_) (fun c19 => ?_)
 ·replace h:=Z0 c19 h
  refine Zi ?_
  obtain ⟨y4,hy4,h⟩:=bC h
  obtain ⟨y5,hy5,h⟩:=bC h
  obtain ⟨y6,hy6,h⟩:=bC h
  refine Zb Zc [] ?_
  simp only [push_cast,seval,↓reduceIte,Za,hN0,hN]
  refine (Zk6 hy4).then ?_
  simp only [push_cast,seval,↓reduceIte,Za,hN0,hN]
  refine (Uw hy5).then ?_
  simp only [push_cast,seval,↓reduceIte,Za,hN0,hN]
  refine (Uw hy6).then ?_
  simp only [push_cast,seval,↓reduceIte,Za,hN0,hN]
  refine Za4 ⟨38,[],[(2,.ref n 0)]⟩ (Zw O n [some ⟨false,109,8,1,[.val (.int .i64 1),.val (.int .i64 y4),.val (.int .i64 y5),.val (.int .i64 y6),.val (.int .i64 0),.val (.int .i64 0),.val (.int .i64 0),.val (.bool false)]⟩]) (Zk hU rfl rfl ?_) ?_
  ·simp only [push_cast,seval,↓reduceIte,Za,hN0,hN]
  refine Zs ?_
  try simp only [Zh,Zf]
  have h:=Option.some.inj h;subst h
  refine Zq (.inr rfl) hU [.agg [.val (.int .i64 1),.val (.int .i64 y4),.val (.int .i64 y5),.val (.int .i64 y6),.val (.int .i64 0),.val (.int .i64 0),.val (.int .i64 0),.val (.bool false)]] (by omega) ?_
  simp only [push_cast,seval,↓reduceIte,Za,Try.results105,hN0,hN]
 replace h:=Zz c19 h
 refine Zj [0,2,7,17] (Zb Zc [] ?_)
 simp only [push_cast,seval,↓reduceIte,Za,hN0,hN]
 refine Zl (t:=((IntKind.u64.wrap (Za5 .u64 a0 3)) == 1)) rfl (fun c18 => ?_) (fun c18 => ?_)
 ·replace h:=Z0 c18 h
  refine Zi ?_
  obtain ⟨y10,hy10,h⟩:=bC h
  obtain ⟨y11,hy11,h⟩:=bC h
  obtain ⟨y12,hy12,h⟩:=bC h
  refine Zb Zc [] ?_
  simp only [push_cast,seval,↓reduceIte,Za,hN0,hN]
  refine (Zk6 hy10).then ?_
  simp only [push_cast,seval,↓reduceIte,Za,hN0,hN]
  refine (Uw hy11).then ?_
  simp only [push_cast,seval,↓reduceIte,Za,hN0,hN]
  refine (Uw hy12).then ?_
  simp only [push_cast,seval,↓reduceIte,Za,hN0,hN]
  refine Za4 ⟨38,[],[(2,.ref n 0)]⟩ (Zw O n [some ⟨false,109,8,1,[.val (.int .i64 2),.val (.int .i64 y10),.val (.int .i64 0),.val (.int .i64 0),.val (.int .i64 y11),.val (.int .i64 y12),.val (.int .i64 0),.val (.bool false)]⟩]) (Zk hU rfl rfl ?_) ?_
  ·simp only [push_cast,seval,↓reduceIte,Za,hN0,hN]
  refine Zs ?_
  try simp only [Zh,Zf]
  have h:=Option.some.inj h;subst h
  refine Zq (.inr rfl) hU [.agg [.val (.int .i64 2),.val (.int .i64 y10),.val (.int .i64 0),.val (.int .i64 0),.val (.int .i64 y11),.val (.int .i64 y12),.val (.int .i64 0),.val (.bool false)]] (by omega) ?_
  simp only [push_cast,seval,↓reduceIte,Za,Try.results105,hN0,hN]
 replace h:=Zz c18 h
 refine Zj [0,2,26] (Zb Zc [] ?_)
 simp only [push_cast,seval,↓reduceIte,Za,hN0,hN]
 refine Zl (t:=((IntKind.u64.wrap (Za5 .u64 a0 3)) == 2)) rfl (fun c17 => ?_) (fun c17 => ?_)
 ·replace h:=Z0 c17 h
  refine Zi ?_
  obtain ⟨y15,hy15,h⟩:=bC h
  obtain ⟨y16,hy16,h⟩:=bC h
  refine Zb Zc [] ?_
  simp only [push_cast,seval,↓reduceIte,Za,hN0,hN]
  refine (Uw hy15).then ?_
  simp only [push_cast,seval,↓reduceIte,Za,hN0,hN]
  refine (Uw hy16).then ?_
  simp only [push_cast,seval,↓reduceIte,Za,hN0,hN]
  refine Za4 ⟨38,[],[(2,.ref n 0)]⟩ (Zw O n [some ⟨false,109,8,1,[.val (.int .i64 3),.val (.int .i64 y15),.val (.int .i64 0),.val (.int .i64 0),.val (.int .i64 0),.val (.int .i64 0),.val (.int .i64 y16),.val (.bool ((IntKind.u64.wrap (Za5 .u64 (Int.fdiv a0 (2 ^ min (Int.toNat 2) 64)) 1)) == 1))]⟩]) (Zk hU rfl rfl ?_) ?_
  ·simp only [push_cast,seval,↓reduceIte,Za,hN0,hN]
  refine Zs ?_
  try simp only [Zh,Zf]
  have h:=Option.some.inj h;subst h
  refine Zq (.inr rfl) hU [.agg [.val (.int .i64 3),.val (.int .i64 y15),.val (.int .i64 0),.val (.int .i64 0),.val (.int .i64 0),.val (.int .i64 0),.val (.int .i64 y16),.val (.bool ((IntKind.u64.wrap (Za5 .u64 (Int.fdiv a0 (2 ^ min (Int.toNat 2) 64)) 1)) == 1))]] (by omega) ?_
  simp only [push_cast,seval,↓reduceIte,Za,Try.results105,hN0,hN]
 replace h:=Zz c17 h
 refine Zp ?_
 try simp only [Zh,Zf]
 refine Za4 ⟨38,[],[(2,.ref n 0)]⟩ (Zw O n [some ⟨false,109,8,1,[.val (.int .i64 0),.val (.int .i64 0),.val (.int .i64 0),.val (.int .i64 0),.val (.int .i64 0),.val (.int .i64 0),.val (.int .i64 0),.val (.bool false)]⟩]) (Zk hU rfl rfl ?_) ?_
 ·simp only [push_cast,seval,↓reduceIte,Za,hN0,hN]
 refine Zi ?_
 refine Zb Zc [] ?_
 simp only [push_cast,seval,↓reduceIte,Za,hN0,hN]
 refine Za4 ⟨38,[],[(2,.ref n 0)]⟩ (Zw O n [some ⟨false,109,8,1,[.val (.int .i64 4),.val (.int .i64 0),.val (.int .i64 0),.val (.int .i64 0),.val (.int .i64 0),.val (.int .i64 0),.val (.int .i64 0),.val (.bool false)]⟩]) (Zk hU rfl rfl ?_) ?_
 ·simp only [push_cast,seval,↓reduceIte,Za,hN0,hN]
 refine Zs ?_
 try simp only [Zh,Zf]
 have h:=Option.some.inj h;subst h
 refine Zq (.inr rfl) hU [.agg [.val (.int .i64 4),.val (.int .i64 0),.val (.int .i64 0),.val (.int .i64 0),.val (.int .i64 0),.val (.int .i64 0),.val (.int .i64 0),.val (.bool false)]] (by omega) ?_
 simp only [push_cast,seval,↓reduceIte,Za,Try.results105,hN0,hN]
theorem Zsg {a0:Z3} {r:(Int×Bool)} {O:Objs} {n:Nat} (h:Jg a0=some r):GTo Try.prog 67 [.agg (Z4 a0)] O n (.tup [.val (.int .u64 r.1),.val (.bool r.2)]) O n:=by
 unfold Jg at h
 refine Yi Zc Try.call67 Try.func67 rfl (Nat.le_of_ble_eq_true rfl) (Nat.le_refl _) fun hU => ?_
 have hN0:O n=none:=hU.fresh _ (Nat.le_refl _)
 have hN:∀ k,O (n+k)=none:=fun k=>hU.fresh _ (Nat.le_add_right _ _)
 show W _ _ _ _ ⟨17,[],[(0,.agg (Z4 a0))]⟩ (Zw O n []) _
 refine Zj [1] (Zb Zc [] ?_)
 simp only [push_cast,seval,↓reduceIte,Za,hN0,hN]
 refine Zi ?_
 obtain ⟨y2,hy2,h⟩:=bC h
 refine Zb Zc [] ?_
 simp only [push_cast,seval,↓reduceIte,Za,hN0,hN]
 refine (Zxk hy2).then ?_
 simp only [push_cast,seval,↓reduceIte,Za,hN0,hN]
 refine Zm [1,4] [true] ?_
 simp only [push_cast,seval,↓reduceIte]
 obtain ⟨z4,hz4,h⟩:=bC h
 refine Yk (E':=⟨17,[],[(2,.val (.int .u64 y2)),(3,.val (.bool z4))]⟩) (O':=(Zw O n [none])) (n0:=(n+1)) ?_ ?_
 ·rcases Bool.eq_false_or_eq_true (a0.Kind != 4) with c7 | c7
  ·replace hz4:=Z0 c7 hz4
   obtain ⟨y6,hy6,hz4⟩:=bC hz4
   refine Y2 Zc (by kernel_rfl) (Zxj []) (by kernel_rfl) ?_
   simp only [push_cast,seval,↓reduceIte,Za,c7,hN0,hN]
   refine PCall.of (Zsf hy6) ?_
   simp only [push_cast,seval,↓reduceIte,Za,c7,hN0,hN]
   have hz4:=Option.some.inj hz4;subst hz4
   refine And.intro rfl (Fit2.of (Zk hU rfl rfl ?_) (by omega))
   simp only [push_cast,seval,↓reduceIte,Za,c7,hN0,hN]
  replace hz4:=Zz c7 hz4
  refine Y2 Zc (by kernel_rfl) (Z0u []) (by kernel_rfl) ?_
  simp only [push_cast,seval,↓reduceIte,Za,c7,hN0,hN]
  have hz4:=Option.some.inj hz4;subst hz4
  refine And.intro rfl (Fit2.of (Zk hU rfl rfl ?_) (by omega))
  simp only [push_cast,seval,↓reduceIte,Za,c7,hN0,hN]
 refine Zs ?_
 try simp only [Zh,Zf]
 have h:=Option.some.inj h;subst h
 refine Zq (.inr rfl) hU [.val (.int .u64 y2),.val (.bool z4)] (by omega) ?_
 simp only [push_cast,seval,↓reduceIte,Za,Try.results67,hN0,hN]
theorem Ud {a0:Z3} {r:Int} {O:Objs} {n:Nat} (h:K9 a0=some r):GTo Try.prog 90 [.agg (Z4 a0)] O n (.val (.int .u64 r)) O n:=by
 unfold K9 at h
 refine Yi Zc Try.call90 Try.func90 rfl (Nat.le_of_ble_eq_true rfl) (Nat.le_refl _) fun hU => ?_
 have hN0:O n=none:=hU.fresh _ (Nat.le_refl _)
 have hN:∀ k,O (n+k)=none:=fun k=>hU.fresh _ (Nat.le_add_right _ _)
 show W _ _ _ _ ⟨11,[],[(0,.agg (Z4 a0))]⟩ (Zw O n []) _
 refine Zj [1] (Zb Zc [] ?_)
 simp only [push_cast,seval,↓reduceIte,Za,hN0,hN]
 refine Zi ?_
 obtain ⟨y2,hy2,h⟩:=bC h
 refine Zb Zc [] ?_
 simp only [push_cast,seval,↓reduceIte,Za,hN0,hN]
 refine (Zsg hy2).then ?_
 simp only [push_cast,seval,↓reduceIte,Za,hN0,hN]
 refine Zm [3] [false] ?_
 simp only [push_cast,seval,↓reduceIte]
 refine Zj [2] (Zb Zc [] ?_)
 simp only [push_cast,seval,↓reduceIte,Za,hN0,hN]
 refine Zs ?_
 try simp only [Zh,Zf]
 have h:=Option.some.inj h;subst h
 refine Zq (.inr rfl) hU [.val (.int .u64 y2.1)] (by omega) ?_
 simp only [push_cast,seval,↓reduceIte,Za,Try.results90,hN0,hN]
theorem Zt9 {a0:Int} {r:Int} {O:Objs} {n:Nat} (h:Zfp a0=some r):GTo Try.prog 88 [.val (.int .i64 a0)] O n (.val (.int .i64 r)) O n:=by
 unfold Zfp at h
 refine Yi Zc Try.call88 Try.func88 rfl (Nat.le_of_ble_eq_true rfl) (Nat.le_refl _) fun hU => ?_
 have hN0:O n=none:=hU.fresh _ (Nat.le_refl _)
 have hN:∀ k,O (n+k)=none:=fun k=>hU.fresh _ (Nat.le_add_right _ _)
 show W _ _ _ _ ⟨8,[],[(0,.val (.int .i64 a0))]⟩ (Zw O n []) _
 refine Zj [0] (Zb Zc [] ?_)
 simp only [push_cast,seval,↓reduceIte,Za,hN0,hN]
 refine Zi ?_
 obtain ⟨y6,hy6,ey6,h⟩:=bY (f:=(eI .i64)) (cs:=[.val (.int .i64 0),.val (.int .i64 1),.val (.int .i64 8),.val (.int .i64 16),.val (.int .i64 32),.val (.int .i64 64),.val (.int .i64 64)]) rfl h
 have g7:=congrArg G.agg ey6
 obtain ⟨y8,hy8,ey8,h⟩:=bY (f:=(eI .i64)) (cs:=[.val (.int .i64 0),.val (.int .i64 0),.val (.int .i64 0),.val (.int .i64 0),.val (.int .i64 0),.val (.int .i64 0),.val (.int .i64 0)]) rfl h
 have g9:=congrArg (GObj.mk false 171 7 1) ey8
 have g10:=Zp5 (f:=(eI .i64)) y8 y6 (fun _=>rfl)
 refine Zb Zc [] ?_
 simp only [push_cast,seval,↓reduceIte,Za,g7,g9,g10,hN0,hN]
 refine Zm [0,3] [true] ?_
 simp only [push_cast,seval,↓reduceIte]
 obtain ⟨x12,hx12,ax12,bx12,cx12,h⟩:=bEA (f:=(eI .i64)) (b:=7) rfl Zso (fun _=>rfl) (by decide) h
 refine Zj [2] (Zb Zc [] ?_)
 simp only [push_cast,Nat.reduceAdd,Nat.reduceSub,Nat.reduceMul,Nat.reduceLeDiff,Nat.reduceLT,Nat.reduceEqDiff,↓reduceIte,reduceCtorEq,Int.reduceBEq,Int.reduceBNe,Nat.reduceBEq,Int.reduceLE,Int.reduceLT,Int.reduceEq,Int.reduceNe,Int.reduceNeg,Nat.reduceDiv,Nat.reduceMod,Nat.reducePow,Za,ax12,bx12,cx12,hN0,hN]
 refine Zs ?_
 try simp only [Zh,Zf]
 have h:=Option.some.inj h;subst h
 refine Zq (.inr rfl) hU [.val (.int .i64 x12)] (by omega) ?_
 simp only [push_cast,seval,↓reduceIte,Za,Try.results88,hN0,hN]
theorem Zop {a0:Z3} {r:(Int×Bool)} {O:Objs} {n:Nat} (h:Ja a0=some r):GTo Try.prog 50 [.agg (Z4 a0)] O n (.tup [.val (.int .i64 r.1),.val (.bool r.2)]) O n:=by
 unfold Ja at h
 refine Yi Zc Try.call50 Try.func50 rfl (Nat.le_of_ble_eq_true rfl) (Nat.le_refl _) fun hU => ?_
 have hN0:O n=none:=hU.fresh _ (Nat.le_refl _)
 have hN:∀ k,O (n+k)=none:=fun k=>hU.fresh _ (Nat.le_add_right _ _)
 show W _ _ _ _ ⟨57,[],[(0,.agg (Z4 a0))]⟩ (Zw O n []) _
 refine Zj [1] (Zb Zc [] ?_)
 simp only [push_cast,seval,↓reduceIte,Za,hN0,hN]
 refine Zi ?_
 refine Ya ?_
 refine Zj [1,4] (Zb Zc [] ?_)
 simp only [push_cast,seval,↓reduceIte,Za,hN0,hN]
 refine Zl (t:=(a0.Kind == 1)) rfl (fun c5 => ?_) (fun c5 => ?_)
 ·replace h:=Z0 c5 h
  refine Zj [2,3] (Zb Zc [] ?_)
  simp only [push_cast,seval,↓reduceIte,Za,hN0,hN]
  refine Zs ?_
  try simp only [Zh,Zf]
  have h:=Option.some.inj h;subst h
  refine Zq (.inr rfl) hU [.val (.int .i64 (IntKind.i64.wrap (a0.Data+a0.Ptrs))),.val (.bool true)] (by omega) ?_
  simp only [push_cast,seval,↓reduceIte,Za,Try.results50,hN0,hN]
 replace h:=Zz c5 h
 refine Zj [1,13] (Zb Zc [none,none,none] ?_)
 simp only [push_cast,seval,↓reduceIte,Za,hN0,hN]
 repeat (with_reducible refine And.intro (by first | (intro h0;simp only [h0,and_self];done) | (intro h0;simp only [h0,Bool.not_false,Bool.not_true,Bool.true_and,Bool.and_true,true_and,and_true,and_self,imp_self,implies_true,bne_iff_ne,ne_eq,beq_iff_eq];done) | (intros;simp_all;done) | exact True.intro) ?_)
 refine Zl (t:=(cond (a0.Kind == 2) (a0.Code == 7) false)) rfl (fun c4 => ?_) (fun c4 => ?_)
 ·replace h:=Z0 c4 h
  refine Zj [2,3] (Zb Zc [] ?_)
  simp only [push_cast,seval,↓reduceIte,Za,hN0,hN]
  refine Zs ?_
  try simp only [Zh,Zf]
  have h:=Option.some.inj h;subst h
  refine Zq (.inr rfl) hU [.val (.int .i64 (IntKind.i64.wrap (a0.Count+1))),.val (.bool true)] (by omega) ?_
  simp only [push_cast,seval,↓reduceIte,Za,Try.results50,hN0,hN]
 replace h:=Zz c4 h
 refine Zj [1,25] (Zb Zc [none,none,none,none,none,none,none,none,none,none,none,none] ?_)
 simp only [push_cast,seval,↓reduceIte,Za,hN0,hN]
 repeat (with_reducible refine And.intro (by first | (intro h0;simp only [h0,and_self];done) | (intro h0;simp only [h0,Bool.not_false,Bool.not_true,Bool.true_and,Bool.and_true,true_and,and_true,and_self,imp_self,implies_true,bne_iff_ne,ne_eq,beq_iff_eq];done) | (intros;simp_all;done) | exact True.intro) ?_)
 refine Zl (t:=(cond (cond (cond (cond (a0.Kind == 2) (decide (0≤a0.Code)) false) (decide (a0.Code < 7)) false) (decide (0≤a0.Count)) false) (decide (a0.Count≤536870911)) false)) rfl (fun c3 => ?_) (fun c3 => ?_)
 ·replace h:=Z0 c3 h
  refine Zi ?_
  obtain ⟨y2,hy2,h⟩:=bC h
  refine Y2 Zc (by kernel_rfl) [] (by kernel_rfl) ?_
  simp only [push_cast,seval,↓reduceIte,Za,hN0,hN]
  refine PCall.of (Zt9 hy2) ?_
  simp only [push_cast,seval,↓reduceIte,Za,hN0,hN]
  refine Zm [2,3] [false] ?_
  simp only [push_cast,seval,↓reduceIte]
  refine Zs ?_
  try simp only [Zh,Zf]
  have h:=Option.some.inj h;subst h
  refine Zq (.inr rfl) hU [.val (.int .i64 (IntKind.i64.wrap (Int.tdiv (IntKind.i64.wrap ((IntKind.i64.wrap (a0.Count * y2))+63)) 64))),.val (.bool true)] (by omega) ?_
  simp only [push_cast,seval,↓reduceIte,Za,Try.results50,hN0,hN]
 replace h:=Zz c3 h
 refine Zp ?_
 try simp only [Zh,Zf]
 refine Zm [] [false] ?_
 simp only [push_cast,seval,↓reduceIte]
 refine Zj [2,3] (Zb Zc [] ?_)
 simp only [push_cast,seval,↓reduceIte,Za,hN0,hN]
 refine Zs ?_
 try simp only [Zh,Zf]
 have h:=Option.some.inj h;subst h
 refine Zq (.inr rfl) hU [.val (.int .i64 0),.val (.bool false)] (by omega) ?_
 simp only [push_cast,seval,↓reduceIte,Za,Try.results50,hN0,hN]
theorem Zea {a0:Int} {a1:Int} {a2:Int} {a3:Int} {r:Int} {O:Objs} {n:Nat} (h:Vw a0 a1 a2 a3=some r):GTo Try.prog 98 [.val (.int .i64 a0),.val (.int .i64 a1),.val (.int .u64 a2),.val (.int .u64 a3)] O n (.val (.int .u64 r)) O n:=by
 unfold Vw at h
 refine Yi Zc Try.call98 Try.func98 rfl (Nat.le_of_ble_eq_true rfl) (Nat.le_refl _) fun hU => ?_
 have hN0:O n=none:=hU.fresh _ (Nat.le_refl _)
 have hN:∀ k,O (n+k)=none:=fun k=>hU.fresh _ (Nat.le_add_right _ _)
 show W _ _ _ _ ⟨26,[],[(0,.val (.int .i64 a0)),(1,.val (.int .i64 a1)),(2,.val (.int .u64 a2)),(3,.val (.int .u64 a3))]⟩ (Zw O n []) _
 refine Zj [0,1,2,3] (Zb Zc [] ?_)
 simp only [push_cast,seval,↓reduceIte,Za,hN0,hN]
 refine Zj [2,3,9] (Zb Zc [] ?_)
 simp only [push_cast,seval,↓reduceIte,Za,hN0,hN]
 obtain ⟨z1,hz1,h⟩:=bC h
 refine Yk (E':=⟨26,[],[(2,.val (.int .u64 a2)),(3,.val (.int .u64 a3)),(9,.val (.int .i64 z1))]⟩) (O':=(Zw O n [])) (n0:=n) ?_ ?_
 ·refine Zj [2,3,9,15] (Zb Zc [] ?_)
  simp only [push_cast,seval,↓reduceIte,Za,hN0,hN]
  refine Zl (t:=(decide ((IntKind.i64.wrap ((IntKind.i64.wrap (a1 - a0)) - 1)) < 0))) rfl (fun c2 => ?_) (fun c2 => ?_)
  ·replace hz1:=Z0 c2 hz1
   refine Zb Zc [] ?_
   simp only [push_cast,seval,↓reduceIte,Za,hN0,hN]
   have hz1:=Option.some.inj hz1;subst hz1
   refine And.intro rfl (Fit2.of (Zk hU rfl rfl ?_) (by omega))
   simp only [push_cast,seval,↓reduceIte,Za,hN0,hN]
  replace hz1:=Zz c2 hz1
  refine Zp ?_
  try simp only [Zh,Zf]
  have hz1:=Option.some.inj hz1;subst hz1
  refine And.intro rfl (Fit2.of (Zk hU rfl rfl ?_) (by omega))
  simp only [push_cast,seval,↓reduceIte,Za,hN0,hN]
 refine Zj [8] (Zb Zc [] ?_)
 simp only [push_cast,seval,↓reduceIte,Za,hN0,hN]
 refine Zs ?_
 try simp only [Zh,Zf]
 have h:=Option.some.inj h;subst h
 refine Zq (.inr rfl) hU [.val (.int .u64 (IntKind.u64.wrap ((IntKind.u64.wrap ((IntKind.u64.wrap (IntKind.i64.wrap (4 * z1)))+a2))+(IntKind.u64.wrap (a3 * 4294967296)))))] (by omega) ?_
 simp only [push_cast,seval,↓reduceIte,Za,Try.results98,hN0,hN]
end Go.Proofs.Ytaddaloondpnkaa
