/- Part UM1 of this seat's mirrors: functions of the seat's program, and the plain functions that they are; each theorem bears its own conditions. -/
import Derived.Test.YtaddaloondpnkaaUE
namespace Go.Proofs.Ytaddaloondpnkaa
open Go.RowKit
set_option linter.unusedVariables false
set_option linter.unusedSimpArgs false
set_option maxRecDepth 100000
set_option maxHeartbeats 4000000
attribute [local push_cast] Ze Z4 Zgz Zgy Zhv Zhu Zh Zf Zdx Gk Gj onW Yq Uy V7 Zju Zg3 Zb5 Zb9 Zb4 Zb8 Zez Zev Zb7 Zey Zex Zew Zb6 Zet Gz evS wok Xd Op.operands Call.operands gop onK onP atK List.all_cons List.all_nil Bool.and_true Bool.true_and Bool.and_self Value.oneCell' List.take_zero List.take_succ_cons List.take_nil List.drop_zero List.drop_succ_cons List.drop_nil List.append_nil Nat.add_zero Nat.zero_add Jj Z5 ev Y9 Zkx Zgs Zgr Zgx Zgv Zgw Zgt Zgu Zgq Zlh Zni Zpd Zcy Vg Zc4 V8 Zbq Zat V0 V5 Gi Ge V3 Gh Gg Gf V2 Gc V1 V4 K8 Gd Zf8 Gl Jo Zcd Jp Zdw Zcx Zol Up bHi bMx Vh Zdu Zpz Zcw Zfl U7 Qz Zk4 Zp4 Zcc U4 Zp6 Vf Zsd Zd2 Zd6 Zd1 Zd5 Zhi Zhe Zhc Zbr Zd3 Zhh Zhg Zhf Zd4 Zg8 Zhb Zg7 Zha Zls Zlp Zlo Zg9 Zlq Zlr Zhd Zfh Zjt Zej Gx Gw pop TK.isAgg Zhn Zhs Zhm Zhr Zed Zl6 Zl2 Zhq Zl5 Zl4 Zl3 Zhp Zl1 G.under G.unders List.getD_cons_zero List.getD_cons_succ List.set_cons_zero List.set_cons_succ List.map_cons List.map_nil List.toList_toArray Array.toList_append Option.toArray_none Option.toArray_some Array.toList_map Option.map_some Option.map_none Option.bind_some Option.bind_none List.getElem?_cons_zero List.getElem?_cons_succ List.getElem?_nil List.nil_append List.cons_append List.replicate_succ List.replicate_zero List.length_cons List.length_nil and_true true_and and_false false_and Bool.true_eq_false Bool.false_eq_true forall_const false_implies implies_true IntKind.bits if_true if_false ite_true ite_false eq_self true_implies false_or or_false or_true true_or not_true_eq_false not_false_eq_true decide_true decide_false decide_eq_true_eq decide_eq_false_iff_not beq_iff_eq bne_iff_ne ne_eq Bool.not_eq_true Bool.not_eq_false beq_eq_false_iff_ne bne_eq_false_iff_eq beq_self_eq_true bne_self_eq_false Option.some.injEq exists_eq_left' exists_eq_left ge_iff_le gt_iff_lt decide_not Bool.not_true Bool.not_false imp_self Zlj cond_true cond_false Zw1 Zw0 Bool.not_not Bool.and_false Bool.false_and Bool.or_true Bool.true_or Bool.or_false Bool.false_or Vq Zal Vr Ku J6 Qg Option.join_some Nat.add_assoc Int.toNat_natCast eI eB eS eL Zjr Zae V9 Zg2 Zg0 Zg1 Zsj Zuf Zaj Uf Zh1 Zhz Zh0 Zph Zkw Zna Zkd Zlf Uq Zjs List.length_append G.agg.injEq G.row.injEq G.ref.injEq G.val.injEq G.sl.injEq G.tup.injEq Value.int.injEq Value.bool.injEq Value.string.injEq List.cons.injEq exists_and_left exists_const List.flatten_cons List.flatten_nil Int.le_refl Nat.le_refl Zfe Jz Zdq Bool.not_eq_true' Bool.not_eq_false' Zjj Za3 Zmz Zm3 Zmy Zm2 Zsa Zr5 List.size_toArray Zn3 Zla G.ren G.rens Zpi Zeo Zh4 Zgo Zgp Zeu Zm4 Zc0 G.fn.injEq Zcu Zfg Zji Zr6 Zff Zm1 Zr9 Zr8 Zr7 Zm0 Zlt Zqe Option.join_none Zo Jd undef Zfn Arr.len Arr.put_eq Zai Zbw Gt Ue Zhy Zhw Zhx onB Zsi Zk3 Xj Zbl Zdg Zdh Zdi Zdj Zdk Zdl Zbt Zbz Zbx Gv Ug Zby Zei Zeh Zeg Zef Zsk Zue Zpg Zos J0 Zpe Zj0 Zb0 Gu Zqo Zke Zcv Zfj Zcg Zcs Zdm Zdn Zdo Zdp Za6 Za7 Za8 Za9 Zba Zbb Zbc Zbd Zbe Zbf Zbg Zbh Zbi Zaq prT Zfi Zxy Zmp Zso Zmq Zxz Zmr Zx0 Zms Zx1 Zmt Zx2 Zmu Zx3 Zmv Zx4 Zmw Zqw Zib Zqx Zic Zqy Zid Zqz Zie Zq0 Zif Zq1 Zig Zq2 Zih Zq3 Zii Zq4 Zij Zq5 Zik Zq6 Zil Vx Zc9 Zob Zda Zq7 Zim J3 Zin Zq8 Zfu Zq9 Zio Zra Zip Zrb Ziq Zrc Zir Zrd Zis Zre Zit Zrf Ziu Zrg Ziv K4 Ziw Zrh Zix Zri Ziy Zrj Ziz Zrk Zi0 Zrl Zi1 Zrm Zi2 Zrn Zi3 Zro Zi4 Zrp Zi5 Zrq Zi6 Zrr Zi7 Zrs Zi8 Zrt Zi9 Zru Zja Zrv Zjb Zrw Zjc Zrx Zjd Zry Zje Zrz Zjf Zmb Ze0 Zmc Ze1 Zmd Ze2 Zme Ze3 Zmf Ze4 Zmg Ze5 Zmh Ze6 Zmi Ze7 Zmj Ze8 Zmk Ze9 Zml Zfa Zmm Zfb Zmn Zfc Zmo Zfd Zt Uo G5 Gn Gs Zac Un Uk Ui Y7 Kp Ko Kj Kl Kq Jy Jw Jv Km Xe Xw Xv Xq Xs Xx Xk Xi Xh Xu Zg Yr Qw Qv Qo Qr Qy Qf Qe Qd Qt Zaa G4 Gm Gr Zab Um Uj Uh G0 V6
theorem Zt8 {a0:Int} {a1:Int} {r:Z8} {O:Objs} {n:Nat}  (h:Zo6 a0 a1=some r):GTo Try.prog 23 [.val (.int .i64 a0),.val (.int .i64 a1)] O n (.ref n 0) (Zw O n [some ⟨false,80,3,1,[.row (n+1) r.segments.length,.val (.int .i64 r.size),.val (.int .i64 r.left)]⟩,some ⟨true,22,1,r.segments.length,fl (eL (eI .u64)) r.segments⟩]) (n+2):=by
 unfold Zo6 at h
 refine Yi Zc Try.call23 Try.func23 rfl (Nat.le_of_ble_eq_true rfl) (by omega) fun hU => ?_
 have hN0:O n=none:=hU.fresh _ (Nat.le_refl _)
 have hN:∀ k,O (n+k)=none:=fun k=>hU.fresh _ (Nat.le_add_right _ _)
 show W _ _ _ _ ⟨12,[],[(0,.val (.int .i64 a0)),(1,.val (.int .i64 a1))]⟩ (Zw O n []) _
 refine Zj [0,1] (Zb Zc [] ?_)
 simp only [push_cast,seval,↓reduceIte,Za,hN0,hN]
 refine Zj [4] (Zb Zc [] ?_)
 simp only [push_cast,seval,↓reduceIte,Za,hN0,hN]
 refine Zs ?_
 try simp only [Zh,Zf]
 have h:=Option.some.inj h;subst h
 refine Zjq (k:=2) (L3:=[some ⟨false,80,3,1,[.row (n+1) ([]:List (List Int)).length,.val (.int .i64 (if a0 < 1 then 1 else a0)),.val (.int .i64 (if 131072 < (if a1 < 0 then 0 else a1) then 131072 else (if a1 < 0 then 0 else a1)))]⟩,some ⟨true,22,1,([]:List (List Int)).length,fl (eL (eI .u64)) ([]:List (List Int))⟩,none]) (E2:=(⟨12,[],[(4,.ref n 0)]⟩:Env)) (n3:=(n+3)) (.inr rfl) hU rfl [.ref n 0] ?_ ?_
 ·refine Fit2.trans (E':=(⟨12,[],[(4,.ref n 0)]⟩:Env)) (O':=(Zw O n [some ⟨false,80,3,1,[.val (.slice none 0 0),.val (.int .i64 (if a0 < 1 then 1 else a0)),.val (.int .i64 (if 131072 < (if a1 < 0 then 0 else a1) then 131072 else (if a1 < 0 then 0 else a1)))]⟩])) (n':=(n+1)) (Fit2.of (Zk hU rfl rfl ?_) (by omega)) ?_
  ·simp only [push_cast,seval,↓reduceIte,Za,hN0,hN]
  refine Fit2.trans (Zgn (p:=n) (k:=0) (q:=⟨false,80,3,1,[.val (.slice none 0 0),.val (.int .i64 (if a0 < 1 then 1 else a0)),.val (.int .i64 (if 131072 < (if a1 < 0 then 0 else a1) then 131072 else (if a1 < 0 then 0 else a1)))]⟩) 22 1 (by simp only [Vq,Zal,List.getElem?_cons_zero,List.getElem?_cons_succ,Option.join_some,List.length_nil,Zo]) rfl (by omega)) ?_
  simp only [J6,Qg,Vr,Ku,List.set_cons_zero,List.set_cons_succ,List.cons_append,List.nil_append,List.length_cons,List.length_nil,Nat.zero_add,Nat.reduceAdd,Nat.reduceLT,Nat.add_assoc]
  refine Zfs (k:=2) (k':=3) hU [0,1] [0,1,0] rfl rfl rfl rfl ⟨rfl,rfl⟩ ?_
  simp only [push_cast,seval,↓reduceIte,Za,hN0,hN]
 simp only [push_cast,seval,↓reduceIte,Za,Try.results23,hN0,hN]
theorem Znt {a0:Int} {a1:Int} {r:K7} {O:Objs} {n:Nat}  (h:Uu a0 a1=some r):GTo Try.prog 28 [.val (.int .i64 a0),.val (.int .i64 a1)] O n (.ref n 0) (Zw O n [some ⟨false,76,4,1,[.row (n+1) r.L.length,.val (.int .i64 r.Size),.val (.int .i64 r.Most),.val (.int .i64 r.Used)]⟩,some ⟨true,22,1,r.L.length,fl (eL (eI .u64)) r.L⟩]) (n+2):=by
 unfold Uu at h
 refine Yi Zc Try.call28 Try.func28 rfl (Nat.le_of_ble_eq_true rfl) (by omega) fun hU => ?_
 have hN0:O n=none:=hU.fresh _ (Nat.le_refl _)
 have hN:∀ k,O (n+k)=none:=fun k=>hU.fresh _ (Nat.le_add_right _ _)
 show W _ _ _ _ ⟨15,[],[(0,.val (.int .i64 a0)),(1,.val (.int .i64 a1))]⟩ (Zw O n []) _
 refine Zj [0,1] (Zb Zc [] ?_)
 simp only [push_cast,seval,↓reduceIte,Za,hN0,hN]
 obtain ⟨z1,hz1,h⟩:=bC h
 refine Yk (E':=⟨15,[],[(0,.val (.int .i64 z1)),(1,.val (.int .i64 a1))]⟩) (O':=(Zw O n [])) (n0:=n) ?_ ?_
 ·refine Zj [0,1,6] (Zb Zc [] ?_)
  simp only [push_cast,seval,↓reduceIte,Za,hN0,hN]
  refine Zl (t:=(decide (a0 < 1))) rfl (fun c2 => ?_) (fun c2 => ?_)
  ·replace hz1:=Z0 c2 hz1
   refine Zb Zc [] ?_
   simp only [push_cast,seval,↓reduceIte,Za,hN0,hN]
   have hz1:=Option.some.inj hz1;subst hz1
   refine And.intro rfl (Fit2.of (Zk hU rfl rfl ?_) (by omega))
   simp only [push_cast,seval,↓reduceIte,Za,hN0,hN]
  replace hz1:=Zz c2 hz1
  refine Zp ?_
  try simp only [Zh,Zf]
  have hz1:=Option.some.inj hz1;subst hz1
  refine And.intro rfl (Fit2.of (Zk hU rfl rfl ?_) (by omega))
  simp only [push_cast,seval,↓reduceIte,Za,hN0,hN]
 obtain ⟨z3,hz3,h⟩:=bC h
 refine Yk (E':=⟨15,[],[(0,.val (.int .i64 z1)),(1,.val (.int .i64 z3))]⟩) (O':=(Zw O n [])) (n0:=n) ?_ ?_
 ·refine Zj [0,1,8] (Zb Zc [] ?_)
  simp only [push_cast,seval,↓reduceIte,Za,hN0,hN]
  refine Zl (t:=(decide (a1 < 0))) rfl (fun c4 => ?_) (fun c4 => ?_)
  ·replace hz3:=Z0 c4 hz3
   refine Zb Zc [] ?_
   simp only [push_cast,seval,↓reduceIte,Za,hN0,hN]
   have hz3:=Option.some.inj hz3;subst hz3
   refine And.intro rfl (Fit2.of (Zk hU rfl rfl ?_) (by omega))
   simp only [push_cast,seval,↓reduceIte,Za,hN0,hN]
  replace hz3:=Zz c4 hz3
  refine Zp ?_
  try simp only [Zh,Zf]
  have hz3:=Option.some.inj hz3;subst hz3
  refine And.intro rfl (Fit2.of (Zk hU rfl rfl ?_) (by omega))
  simp only [push_cast,seval,↓reduceIte,Za,hN0,hN]
 obtain ⟨z5,hz5,h⟩:=bC h
 refine Yk (E':=⟨15,[],[(0,.val (.int .i64 z1)),(1,.val (.int .i64 z5))]⟩) (O':=(Zw O n [])) (n0:=n) ?_ ?_
 ·refine Zj [0,1,10] (Zb Zc [] ?_)
  simp only [push_cast,seval,↓reduceIte,Za,hN0,hN]
  refine Zl (t:=(decide (131072 < z3))) rfl (fun c6 => ?_) (fun c6 => ?_)
  ·replace hz5:=Z0 c6 hz5
   refine Zb Zc [] ?_
   simp only [push_cast,seval,↓reduceIte,Za,hN0,hN]
   have hz5:=Option.some.inj hz5;subst hz5
   refine And.intro rfl (Fit2.of (Zk hU rfl rfl ?_) (by omega))
   simp only [push_cast,seval,↓reduceIte,Za,hN0,hN]
  replace hz5:=Zz c6 hz5
  refine Zp ?_
  try simp only [Zh,Zf]
  have hz5:=Option.some.inj hz5;subst hz5
  refine And.intro rfl (Fit2.of (Zk hU rfl rfl ?_) (by omega))
  simp only [push_cast,seval,↓reduceIte,Za,hN0,hN]
 refine Zj [4] (Zb Zc [] ?_)
 simp only [push_cast,seval,↓reduceIte,Za,hN0,hN]
 refine Zs ?_
 try simp only [Zh,Zf]
 have h:=Option.some.inj h;subst h
 refine Zjq (k:=2) (L3:=[some ⟨false,76,4,1,[.row (n+1) ([]:List (List Int)).length,.val (.int .i64 z1),.val (.int .i64 z5),.val (.int .i64 0)]⟩,some ⟨true,22,1,([]:List (List Int)).length,fl (eL (eI .u64)) ([]:List (List Int))⟩,none]) (E2:=(⟨15,[],[(4,.ref n 0)]⟩:Env)) (n3:=(n+3)) (.inr rfl) hU rfl [.ref n 0] ?_ ?_
 ·refine Fit2.trans (E':=(⟨15,[],[(4,.ref n 0)]⟩:Env)) (O':=(Zw O n [some ⟨false,76,4,1,[.val (.slice none 0 0),.val (.int .i64 z1),.val (.int .i64 z5),.val (.int .i64 0)]⟩])) (n':=(n+1)) (Fit2.of (Zk hU rfl rfl ?_) (by omega)) ?_
  ·simp only [push_cast,seval,↓reduceIte,Za,hN0,hN]
  refine Fit2.trans (Zgn (p:=n) (k:=0) (q:=⟨false,76,4,1,[.val (.slice none 0 0),.val (.int .i64 z1),.val (.int .i64 z5),.val (.int .i64 0)]⟩) 22 1 (by simp only [Vq,Zal,List.getElem?_cons_zero,List.getElem?_cons_succ,Option.join_some,List.length_nil,Zo]) rfl (by omega)) ?_
  simp only [J6,Qg,Vr,Ku,List.set_cons_zero,List.set_cons_succ,List.cons_append,List.nil_append,List.length_cons,List.length_nil,Nat.zero_add,Nat.reduceAdd,Nat.reduceLT,Nat.add_assoc]
  refine Zfs (k:=2) (k':=3) hU [0,1] [0,1,0] rfl rfl rfl rfl ⟨rfl,rfl⟩ ?_
  simp only [push_cast,seval,↓reduceIte,Za,hN0,hN]
 simp only [push_cast,seval,↓reduceIte,Za,Try.results28,hN0,hN]
theorem Zlv {a0:(Option Z8)} {r:Int} {O:Objs} {n:Nat} (h:Vu a0=some r):GTo Try.prog 142 [(gP Zt a0)] O n (.val (.int .i64 r)) O n:=by
 unfold Vu at h
 refine Yi Zc Try.call142 Try.func142 rfl (Nat.le_of_ble_eq_true rfl) (Nat.le_refl _) fun hU => ?_
 have hN0:O n=none:=hU.fresh _ (Nat.le_refl _)
 have hN:∀ k,O (n+k)=none:=fun k=>hU.fresh _ (Nat.le_add_right _ _)
 show W _ _ _ _ ⟨10,[],[(0,(gP Zt a0))]⟩ (Zw O n []) _
 refine Zj [0] (Zb Zc [] ?_)
 simp only [push_cast,seval,↓reduceIte,Za,hN0,hN]
 refine Zi ?_
 have g2:=Zvf (f:=Zt) (t:=28) Zfu a0
 refine Zj [0,4] (Zb Zc [] ?_)
 simp only [push_cast,seval,↓reduceIte,Za,g2,hN0,hN]
 refine Zl (t:=(Option.isNone a0)) rfl (fun c5 => ?_) (fun c5 => ?_)
 ·replace h:=Z0 c5 h
  refine Zj [2] (Zb Zc [] ?_)
  simp only [push_cast,seval,↓reduceIte,Za,hN0,hN]
  refine Zs ?_
  try simp only [Zh,Zf]
  have h:=Option.some.inj h;subst h
  refine Zq (.inr rfl) hU [.val (.int .i64 0)] (by omega) ?_
  simp only [push_cast,seval,↓reduceIte,Za,Try.results142,hN0,hN]
 replace h:=Zz c5 h
 refine Zp ?_
 try simp only [Zh,Zf]
 refine Zm [0] [] ?_
 simp only [push_cast,seval,↓reduceIte]
 obtain ⟨x4,hx4,h⟩:=bC h
 refine Zj [2] (Zb Zc [] ?_)
 simp only [push_cast,seval,↓reduceIte,Za,hx4,hN0,hN]
 refine Zs ?_
 try simp only [Zh,Zf]
 have h:=Option.some.inj h;subst h
 refine Zq (.inr rfl) hU [.val (.int .i64 (x4.segments.length:Int))] (by omega) ?_
 simp only [push_cast,seval,↓reduceIte,Za,Try.results142,hN0,hN]
theorem Zcr {a0 r:List Int} {O:Objs} {n:Nat} (h:Y5 a0=some r):GTo Try.prog 64 [.sl a0.length (fl (eI .u64) a0)] O n (.row n r.length) (Zw O n [some ⟨true,58,1,r.length,fl (eI .u64) r⟩]) (n+1):=by
 have h1:=Ztk h
 have h2:=Zwy h
 have h3:=Zpl h
 rw [List.nil_append] at h3
 subst h3
 simp only [List.length_nil,Nat.zero_add] at h1 h2
 clear h
 refine Yi Zc Try.call64 Try.func64 rfl (Nat.le_of_ble_eq_true rfl) (by omega) fun hU => ?_
 have hN0:O n=none:=hU.fresh _ (Nat.le_refl _)
 have hN:∀ k,O (n+k)=none:=fun k=>hU.fresh _ (Nat.le_add_right _ _)
 show W _ _ _ _ ⟨8,[],[(0,.sl r.length (fl (eI .u64) r))]⟩ (Zw O n []) _
 refine Zj [0] (Zb Zc [] ?_)
 simp only [push_cast,seval,↓reduceIte,Za,hN0,hN]
 refine Z34 0 r.length (fl (eI .u64) r) rfl (Nat.le_of_ble_eq_true rfl) (Yt J4 _) fun A c hA => ?_
 refine Zj [0,4] (Zb Zc [] ?_)
 simp only [push_cast,seval,↓reduceIte,Za,hN0,hN]
 cases A with
 | none =>
  obtain rfl:r=[]:=List.eq_nil_of_length_eq_zero (hA rfl)
  refine Zl (t:=true) rfl (fun _ => ?_) (fun hc=>by cases hc)
  refine Zj [2] (Zb Zc [] ?_)
  simp only [push_cast,seval,↓reduceIte,Za,hN0,hN]
  refine Zs ?_
  try simp only [Zh,Zf]
  refine Zjq (k:=1) (L3:=[some ⟨true,58,1,0,[]⟩]) (E2:=⟨8,[],[(2,.row n 0),(2,.val (.slice none 0 0))]⟩) (n3:=(n+1)) (.inr rfl) hU rfl [.row n 0] ?_ ?_
  ·have ha:=Zf3 (ba:=n) (E:=⟨8,[],[(2,.val (.slice none 0 0))]⟩) (O:=(Zw O n [])) (n:=n) 2 58 1 rfl (by omega)
   simp only [Qg] at ha
   exact ha
  simp only [push_cast,seval,↓reduceIte,Za,Try.results64,hN0,hN]
 | some A =>
  refine Zl (t:=false) rfl (fun hc=>by cases hc) (fun _ => ?_)
  refine Zp ?_
  try simp only [Zh,Zf]
  refine And.intro rfl (And.intro (Nat.le_of_ble_eq_true rfl) ?_)
  refine Zi ?_
  refine Zb Zc [] ?_
  simp only [push_cast,seval,↓reduceIte,Za,h1,h2,hN0,hN]
  refine Zs ?_
  try simp only [Zh,Zf]
  refine Zva (.inr rfl) hU rfl [.row n r.length] (by omega) ?_
  simp only [push_cast,seval,↓reduceIte,Za,Try.results64,hN0,hN]
theorem Zbv {a0 r:List Int} {O:Objs} {n:Nat} (h:Y5 a0=some r):GTo Try.prog 64 [.sl a0.length (fl (eI .u64) a0)] O n (.sl r.length (fl (eI .u64) r)) O n:=by
 refine GTo.freeze (Zcr h) fun hU => ?_
 have hN0:O n=none:=hU.fresh _ (Nat.le_refl _)
 have hN:∀ k,O (n+k)=none:=fun k=>hU.fresh _ (Nat.le_add_right _ _)
 simp only [push_cast,seval,↓reduceIte,Za,hN0,hN]
theorem Yg {a0:(Option Z8)} {a1:Int} {r:Bool} {O:Objs} {n:Nat} (h:Qh a0 a1=some r):GTo Try.prog 124 [(gP Zt a0),.val (.int .i64 a1)] O n (.val (.bool r)) O n:=by
 unfold Qh at h
 refine Yi Zc Try.call124 Try.func124 rfl (Nat.le_of_ble_eq_true rfl) (Nat.le_refl _) fun hU => ?_
 have hN0:O n=none:=hU.fresh _ (Nat.le_refl _)
 have hN:∀ k,O (n+k)=none:=fun k=>hU.fresh _ (Nat.le_add_right _ _)
 show W _ _ _ _ ⟨13,[],[(0,(gP Zt a0)),(1,.val (.int .i64 a1))]⟩ (Zw O n []) _
 refine Zj [0,1] (Zb Zc [] ?_)
 simp only [push_cast,seval,↓reduceIte,Za,hN0,hN]
 obtain ⟨z2,hz2,h⟩:=bC h
 refine Yk (E':=⟨13,[],[(4,.val (.bool z2))]⟩) (O':=(Zw O n [])) (n0:=n) ?_ ?_
 ·rcases Bool.eq_false_or_eq_true (decide (0≤a1)) with c5 | c5
  ·replace hz2:=Z0 c5 hz2
   obtain ⟨y4,hy4,hz2⟩:=bC hz2
   refine Zb Zc (Zxj []) ?_
   simp only [push_cast,seval,↓reduceIte,Za,c5,hN0,hN]
   refine (Zlv hy4).then ?_
   simp only [push_cast,seval,↓reduceIte,Za,c5,hN0,hN]
   have hz2:=Option.some.inj hz2;subst hz2
   refine And.intro rfl (Fit2.of (Zk hU rfl rfl ?_) (by omega))
   simp only [push_cast,seval,↓reduceIte,Za,c5,hN0,hN]
  replace hz2:=Zz c5 hz2
  refine Zb Zc (Z0u []) ?_
  simp only [push_cast,seval,↓reduceIte,Za,c5,hN0,hN]
  have hz2:=Option.some.inj hz2;subst hz2
  refine And.intro rfl (Fit2.of (Zk hU rfl rfl ?_) (by omega))
  simp only [push_cast,seval,↓reduceIte,Za,c5,hN0,hN]
 refine Zs ?_
 try simp only [Zh,Zf]
 have h:=Option.some.inj h;subst h
 refine Zq (.inr rfl) hU [.val (.bool z2)] (by omega) ?_
 simp only [push_cast,seval,↓reduceIte,Za,Try.results124,hN0,hN]
theorem U1 {a0:(Option Z8)} {a1:Int} {r:Int} {O:Objs} {n:Nat} (h:Js a0 a1=some r):GTo Try.prog 147 [(gP Zt a0),.val (.int .i64 a1)] O n (.val (.int .i64 r)) O n:=by
 unfold Js at h
 refine Yi Zc Try.call147 Try.func147 rfl (Nat.le_of_ble_eq_true rfl) (Nat.le_refl _) fun hU => ?_
 have hN0:O n=none:=hU.fresh _ (Nat.le_refl _)
 have hN:∀ k,O (n+k)=none:=fun k=>hU.fresh _ (Nat.le_add_right _ _)
 show W _ _ _ _ ⟨17,[],[(0,(gP Zt a0)),(1,.val (.int .i64 a1))]⟩ (Zw O n []) _
 refine Zj [0,1] (Zb Zc [] ?_)
 simp only [push_cast,seval,↓reduceIte,Za,hN0,hN]
 refine Zi ?_
 refine Zi ?_
 obtain ⟨y2,hy2,h⟩:=bC h
 refine Zb Zc [] ?_
 simp only [push_cast,seval,↓reduceIte,Za,hN0,hN]
 refine (Yg hy2).then ?_
 simp only [push_cast,seval,↓reduceIte,Za,hN0,hN]
 refine Zm [0,1,8] [] ?_
 simp only [push_cast,seval,↓reduceIte]
 refine Zl (t:=(!y2)) rfl (fun c7 => ?_) (fun c7 => ?_)
 ·replace h:=Z0 c7 h
  refine Zj [4] (Zb Zc [] ?_)
  simp only [push_cast,seval,↓reduceIte,Za,hN0,hN]
  refine Zs ?_
  try simp only [Zh,Zf]
  have h:=Option.some.inj h;subst h
  refine Zq (.inr rfl) hU [.val (.int .i64 0)] (by omega) ?_
  simp only [push_cast,seval,↓reduceIte,Za,Try.results147,hN0,hN]
 replace h:=Zz c7 h
 refine Zp ?_
 try simp only [Zh,Zf]
 refine Zm [0,1] [] ?_
 simp only [push_cast,seval,↓reduceIte]
 obtain ⟨x5,hx5,h⟩:=bC h
 obtain ⟨x6,hx6,ax6,bx6,cx6,h⟩:=bE (f:=(eL (eI .u64))) Vx (fun _=>rfl) (by decide) h
 refine Zj [4] (Zb Zc [] ?_)
 simp only [push_cast,Nat.reduceAdd,Nat.reduceSub,Nat.reduceMul,Nat.reduceLeDiff,Nat.reduceLT,Nat.reduceEqDiff,↓reduceIte,reduceCtorEq,Int.reduceBEq,Int.reduceBNe,Nat.reduceBEq,Int.reduceLE,Int.reduceLT,Int.reduceEq,Int.reduceNe,Int.reduceNeg,Nat.reduceDiv,Nat.reduceMod,Nat.reducePow,Za,hx5,ax6,bx6,cx6,hN0,hN]
 refine Zs ?_
 try simp only [Zh,Zf]
 have h:=Option.some.inj h;subst h
 refine Zq (.inr rfl) hU [.val (.int .i64 (x6.length:Int))] (by omega) ?_
 simp only [push_cast,seval,↓reduceIte,Za,Try.results147,hN0,hN]
theorem Zd9 {a0:(Option Z8)} {a1:Int} {a2:Int} {a3:Int} {r:Bool} {O:Objs} {n:Nat} (h:Vt a0 a1 a2 a3=some r):GTo Try.prog 141 [(gP Zt a0),.val (.int .i64 a1),.val (.int .i64 a2),.val (.int .i64 a3)] O n (.val (.bool r)) O n:=by
 unfold Vt at h
 refine Yi Zc Try.call141 Try.func141 rfl (Nat.le_of_ble_eq_true rfl) (Nat.le_refl _) fun hU => ?_
 have hN0:O n=none:=hU.fresh _ (Nat.le_refl _)
 have hN:∀ k,O (n+k)=none:=fun k=>hU.fresh _ (Nat.le_add_right _ _)
 show W _ _ _ _ ⟨36,[],[(0,(gP Zt a0)),(1,.val (.int .i64 a1)),(2,.val (.int .i64 a2)),(3,.val (.int .i64 a3))]⟩ (Zw O n []) _
 refine Zj [0,1,2,3] (Zb Zc [] ?_)
 simp only [push_cast,seval,↓reduceIte,Za,hN0,hN]
 obtain ⟨z4,hz4,h⟩:=bC h
 refine Yk (E':=⟨36,[],[(8,.val (.bool z4))]⟩) (O':=(Zw O n [])) (n0:=n) ?_ ?_
 ·obtain ⟨y8,hy8,hz4⟩:=bC hz4
  rcases Bool.eq_false_or_eq_true y8 with c11 | c11
  ·replace hz4:=Z0 c11 hz4
   rcases Bool.eq_false_or_eq_true (decide (0≤a2)) with c12 | c12
   ·replace hz4:=Z0 c12 hz4
    try rw [c12] at c11
    rcases Bool.eq_false_or_eq_true (decide (0≤a3)) with c13 | c13
    ·replace hz4:=Z0 c13 hz4
     try rw [c13] at c11
     try rw [c13] at c12
     obtain ⟨y9,hy9,hz4⟩:=bC hz4
     rcases Bool.eq_false_or_eq_true (decide (a3≤y9)) with c14 | c14
     ·replace hz4:=Z0 c14 hz4
      try rw [c14] at c11
      try rw [c14] at c12
      try rw [c14] at c13
      obtain ⟨y10,hy10,hz4⟩:=bC hz4
      refine Zb Zc (Zvy (Zv0 [])) ?_
      simp only [push_cast,seval,↓reduceIte,Za,c11,c12,c13,c14,hN0,hN]
      repeat (with_reducible refine And.intro (by first | (intro h0;simp only [h0,and_self];done) | (intro h0;simp only [h0,Bool.not_false,Bool.not_true,Bool.true_and,Bool.and_true,true_and,and_true,and_self,imp_self,implies_true,bne_iff_ne,ne_eq,beq_iff_eq];done) | (intros;simp_all;done) | exact True.intro) ?_)
      refine (Yg hy8).then ?_
      simp only [push_cast,seval,↓reduceIte,Za,c11,c12,c13,c14,hN0,hN]
      repeat (with_reducible refine And.intro (by first | (intro h0;simp only [h0,and_self];done) | (intro h0;simp only [h0,Bool.not_false,Bool.not_true,Bool.true_and,Bool.and_true,true_and,and_true,and_self,imp_self,implies_true,bne_iff_ne,ne_eq,beq_iff_eq];done) | (intros;simp_all;done) | exact True.intro) ?_)
      refine (U1 hy9).then ?_
      simp only [push_cast,seval,↓reduceIte,Za,c11,c12,c13,c14,hN0,hN]
      repeat (with_reducible refine And.intro (by first | (intro h0;simp only [h0,and_self];done) | (intro h0;simp only [h0,Bool.not_false,Bool.not_true,Bool.true_and,Bool.and_true,true_and,and_true,and_self,imp_self,implies_true,bne_iff_ne,ne_eq,beq_iff_eq];done) | (intros;simp_all;done) | exact True.intro) ?_)
      refine (U1 hy10).then ?_
      simp only [push_cast,seval,↓reduceIte,Za,c11,c12,c13,c14,hN0,hN]
      repeat (with_reducible refine And.intro (by first | (intro h0;simp only [h0,and_self];done) | (intro h0;simp only [h0,Bool.not_false,Bool.not_true,Bool.true_and,Bool.and_true,true_and,and_true,and_self,imp_self,implies_true,bne_iff_ne,ne_eq,beq_iff_eq];done) | (intros;simp_all;done) | exact True.intro) ?_)
      have hz4:=Option.some.inj hz4;subst hz4
      refine And.intro rfl (Fit2.of (Zk hU rfl rfl ?_) (by omega))
      simp only [push_cast,seval,↓reduceIte,Za,c11,c12,c13,c14,hN0,hN]
     replace hz4:=Zz c14 hz4
     try rw [c14] at c11
     try rw [c14] at c12
     try rw [c14] at c13
     refine Zb Zc (Zvy (Z4l (Zzo []))) ?_
     simp only [push_cast,seval,↓reduceIte,Za,c11,c12,c13,c14,hN0,hN]
     repeat (with_reducible refine And.intro (by first | (intro h0;simp only [h0,and_self];done) | (intro h0;simp only [h0,Bool.not_false,Bool.not_true,Bool.true_and,Bool.and_true,true_and,and_true,and_self,imp_self,implies_true,bne_iff_ne,ne_eq,beq_iff_eq];done) | (intros;simp_all;done) | exact True.intro) ?_)
     refine (Yg hy8).then ?_
     simp only [push_cast,seval,↓reduceIte,Za,c11,c12,c13,c14,hN0,hN]
     repeat (with_reducible refine And.intro (by first | (intro h0;simp only [h0,and_self];done) | (intro h0;simp only [h0,Bool.not_false,Bool.not_true,Bool.true_and,Bool.and_true,true_and,and_true,and_self,imp_self,implies_true,bne_iff_ne,ne_eq,beq_iff_eq];done) | (intros;simp_all;done) | exact True.intro) ?_)
     refine (U1 hy9).then ?_
     simp only [push_cast,seval,↓reduceIte,Za,c11,c12,c13,c14,hN0,hN]
     repeat (with_reducible refine And.intro (by first | (intro h0;simp only [h0,and_self];done) | (intro h0;simp only [h0,Bool.not_false,Bool.not_true,Bool.true_and,Bool.and_true,true_and,and_true,and_self,imp_self,implies_true,bne_iff_ne,ne_eq,beq_iff_eq];done) | (intros;simp_all;done) | exact True.intro) ?_)
     have hz4:=Option.some.inj hz4;subst hz4
     refine And.intro rfl (Fit2.of (Zk hU rfl rfl ?_) (by omega))
     simp only [push_cast,seval,↓reduceIte,Za,c11,c12,c13,c14,hN0,hN]
    replace hz4:=Zz c13 hz4
    try rw [c13] at c11
    try rw [c13] at c12
    refine Zb Zc (Zvy (Zs6 [])) ?_
    simp only [push_cast,seval,↓reduceIte,Za,c11,c12,c13,hN0,hN]
    repeat (with_reducible refine And.intro (by first | (intro h0;simp only [h0,and_self];done) | (intro h0;simp only [h0,Bool.not_false,Bool.not_true,Bool.true_and,Bool.and_true,true_and,and_true,and_self,imp_self,implies_true,bne_iff_ne,ne_eq,beq_iff_eq];done) | (intros;simp_all;done) | exact True.intro) ?_)
    refine (Yg hy8).then ?_
    simp only [push_cast,seval,↓reduceIte,Za,c11,c12,c13,hN0,hN]
    repeat (with_reducible refine And.intro (by first | (intro h0;simp only [h0,and_self];done) | (intro h0;simp only [h0,Bool.not_false,Bool.not_true,Bool.true_and,Bool.and_true,true_and,and_true,and_self,imp_self,implies_true,bne_iff_ne,ne_eq,beq_iff_eq];done) | (intros;simp_all;done) | exact True.intro) ?_)
    have hz4:=Option.some.inj hz4;subst hz4
    refine And.intro rfl (Fit2.of (Zk hU rfl rfl ?_) (by omega))
    simp only [push_cast,seval,↓reduceIte,Za,c11,c12,c13,hN0,hN]
   replace hz4:=Zz c12 hz4
   try rw [c12] at c11
   refine Zb Zc (Zvy (Zs6 [])) ?_
   simp only [push_cast,seval,↓reduceIte,Za,c11,c12,hN0,hN]
   repeat (with_reducible refine And.intro (by first | (intro h0;simp only [h0,and_self];done) | (intro h0;simp only [h0,Bool.not_false,Bool.not_true,Bool.true_and,Bool.and_true,true_and,and_true,and_self,imp_self,implies_true,bne_iff_ne,ne_eq,beq_iff_eq];done) | (intros;simp_all;done) | exact True.intro) ?_)
   refine (Yg hy8).then ?_
   simp only [push_cast,seval,↓reduceIte,Za,c11,c12,hN0,hN]
   repeat (with_reducible refine And.intro (by first | (intro h0;simp only [h0,and_self];done) | (intro h0;simp only [h0,Bool.not_false,Bool.not_true,Bool.true_and,Bool.and_true,true_and,and_true,and_self,imp_self,implies_true,bne_iff_ne,ne_eq,beq_iff_eq];done) | (intros;simp_all;done) | exact True.intro) ?_)
   have hz4:=Option.some.inj hz4;subst hz4
   refine And.intro rfl (Fit2.of (Zk hU rfl rfl ?_) (by omega))
   simp only [push_cast,seval,↓reduceIte,Za,c11,c12,hN0,hN]
  replace hz4:=Zz c11 hz4
  refine Zb Zc (Zvy (Zs6 [])) ?_
  simp only [push_cast,seval,↓reduceIte,Za,c11,hN0,hN]
  repeat (with_reducible refine And.intro (by first | (intro h0;simp only [h0,and_self];done) | (intro h0;simp only [h0,Bool.not_false,Bool.not_true,Bool.true_and,Bool.and_true,true_and,and_true,and_self,imp_self,implies_true,bne_iff_ne,ne_eq,beq_iff_eq];done) | (intros;simp_all;done) | exact True.intro) ?_)
  refine (Yg hy8).then ?_
  simp only [push_cast,seval,↓reduceIte,Za,c11,hN0,hN]
  repeat (with_reducible refine And.intro (by first | (intro h0;simp only [h0,and_self];done) | (intro h0;simp only [h0,Bool.not_false,Bool.not_true,Bool.true_and,Bool.and_true,true_and,and_true,and_self,imp_self,implies_true,bne_iff_ne,ne_eq,beq_iff_eq];done) | (intros;simp_all;done) | exact True.intro) ?_)
  have hz4:=Option.some.inj hz4;subst hz4
  refine And.intro rfl (Fit2.of (Zk hU rfl rfl ?_) (by omega))
  simp only [push_cast,seval,↓reduceIte,Za,c11,hN0,hN]
 refine Zs ?_
 try simp only [Zh,Zf]
 have h:=Option.some.inj h;subst h
 refine Zq (.inr rfl) hU [.val (.bool z4)] (by omega) ?_
 simp only [push_cast,seval,↓reduceIte,Za,Try.results141,hN0,hN]
theorem Zlx {a0:(List Int)} {a1:(List Int)} {r:Bool} {O:Objs} {n:Nat} (h:J9 a0 a1=some r):GTo Try.prog 32 [.sl a0.length (fl (eI .u64) a0),.sl a1.length (fl (eI .u64) a1)] O n (.val (.bool r)) O n:=by
 unfold J9 at h
 refine Yi Zc Try.call32 Try.func32 rfl (Nat.le_of_ble_eq_true rfl) (Nat.le_refl _) fun hU => ?_
 have hN0:O n=none:=hU.fresh _ (Nat.le_refl _)
 have hN:∀ k,O (n+k)=none:=fun k=>hU.fresh _ (Nat.le_add_right _ _)
 show W _ _ _ _ ⟨26,[],[(0,.sl a0.length (fl (eI .u64) a0)),(1,.sl a1.length (fl (eI .u64) a1))]⟩ (Zw O n []) _
 refine Zj [0,1] (Zb Zc [] ?_)
 simp only [push_cast,seval,↓reduceIte,Za,hN0,hN]
 refine Zi ?_
 refine Zj [0,1,10] (Zb Zc [] ?_)
 simp only [push_cast,seval,↓reduceIte,Za,hN0,hN]
 refine Zl (t:=((a0.length:Int) != (a1.length:Int))) rfl (fun c8 => ?_) (fun c8 => ?_)
 ·replace h:=Z0 c8 h
  refine Zj [4] (Zb Zc [] ?_)
  simp only [push_cast,seval,↓reduceIte,Za,hN0,hN]
  refine Zs ?_
  try simp only [Zh,Zf]
  have h:=Option.some.inj h;subst h
  refine Zq (.inr rfl) hU [.val (.bool false)] (by omega) ?_
  simp only [push_cast,seval,↓reduceIte,Za,Try.results32,hN0,hN]
 replace h:=Zz c8 h
 refine Zp ?_
 try simp only [Zh,Zf]
 refine Zm [0,1] [] ?_
 simp only [push_cast,seval,↓reduceIte]
 refine Zi ?_
 refine Zj [0,1,5] (Zb Zc [] ?_)
 simp only [push_cast,seval,↓reduceIte,Za,hN0,hN]
 refine Zm [0,1,5] [] ?_
 simp only [push_cast,seval,↓reduceIte]
 obtain ⟨z7,hz7,h⟩:=bC h
 refine Zlc (J:=(Ga (fun z7=>JR n (⟨26,[],[(4,.val (.bool false))]⟩:Env) (Zw O n []) n) (fun z7=>JX 0 n (⟨26,[],[]⟩:Env) (Zw O n []) n))) (z:=z7) ?_ fun hw => ?_
 ·refine X7 hz7 (fun s0_=>⟨26,[],[(0,.sl a0.length (fl (eI .u64) a0)),(1,.sl a1.length (fl (eI .u64) a1)),(5,.val (.int .i64 s0_))]⟩) (fun s0_=>(Zw O n [])) (Ga (fun z7=>JR n (⟨26,[],[(4,.val (.bool false))]⟩:Env) (Zw O n []) n) (fun z7=>JX 0 n (⟨26,[],[]⟩:Env) (Zw O n []) n)) ?_
  intro s0_ x0_ hs0_
  unfold Ka at hs0_
  try dsimp only
  refine Zi ?_
  refine Zj [0,1,5,14] (Zb Zc [] ?_)
  simp only [push_cast,seval,↓reduceIte,Za,hN0,hN]
  refine Zl (t:=(decide (s0_ < (a0.length:Int)))) rfl (fun c6 => ?_) (fun c6 => ?_)
  ·replace hs0_:=Z0 c6 hs0_
   refine Zp ?_
   try simp only [Zh,Zf]
   refine Zm [0,1,5] [] ?_
   simp only [push_cast,seval,↓reduceIte]
   refine Zi ?_
   refine Ya ?_
   obtain ⟨x3,hx3,ax3,bx3,cx3,hs0_⟩:=bE (f:=(eI .u64)) K4 (fun _=>rfl) (by decide) hs0_
   obtain ⟨x4,hx4,ax4,bx4,cx4,hs0_⟩:=bE (f:=(eI .u64)) K4 (fun _=>rfl) (by decide) hs0_
   refine Zj [0,1,5,25] (Y2 Zc (by kernel_rfl) [] (by kernel_rfl) ?_)
   simp only [push_cast,Nat.reduceAdd,Nat.reduceSub,Nat.reduceMul,Nat.reduceLeDiff,Nat.reduceLT,Nat.reduceEqDiff,↓reduceIte,reduceCtorEq,Int.reduceBEq,Int.reduceBNe,Nat.reduceBEq,Int.reduceLE,Int.reduceLT,Int.reduceEq,Int.reduceNe,Int.reduceNeg,Nat.reduceDiv,Nat.reduceMod,Nat.reducePow,Za,ax3,bx3,cx3,ax4,bx4,cx4,hN0,hN]
   refine Zl (t:=(x3 != x4)) rfl (fun c5 => ?_) (fun c5 => ?_)
   ·replace hs0_:=Z0 c5 hs0_
    refine Zj [4] (Zb Zc [] ?_)
    simp only [push_cast,seval,↓reduceIte,Za,hN0,hN]
    refine Zs ?_
    try simp only [Zh,Zf]
    have hs0_:=Option.some.inj hs0_;subst hs0_
    refine And.intro (fun h=>by cases h) (And.intro rfl (Fit2.of (Zk hU rfl rfl ?_) (by omega)))
    simp only [push_cast,seval,↓reduceIte,Za,hN0,hN]
   replace hs0_:=Zz c5 hs0_
   refine Zp ?_
   try simp only [Zh,Zf]
   refine Zm [0,1,5] [] ?_
   simp only [push_cast,seval,↓reduceIte]
   refine Zb Zc [] ?_
   simp only [push_cast,seval,↓reduceIte,Za,hN0,hN]
   have hs0_:=Option.some.inj hs0_;subst hs0_
   refine And.intro rfl (Fit2.of (Zk hU rfl rfl ?_) (by omega))
   simp only [push_cast,seval,↓reduceIte,Za,hN0,hN]
  replace hs0_:=Zz c6 hs0_
  refine X0 ?_
  try simp only [Zh,Zf,↓reduceIte,Nat.reduceEqDiff]
  have hs0_:=Option.some.inj hs0_;subst hs0_
  refine And.intro (fun h=>by cases h) (And.intro rfl (Fit2.of (Zk hU rfl rfl ?_) (by omega)))
  simp only [push_cast,seval,↓reduceIte,Za,hN0,hN]
 rcases z7 with z7 | z7
 ·dsimp only [Ga] at hw h
  refine Zdr hw ?_
  try simp only [Zh,Zf,↓reduceIte,Nat.reduceEqDiff]
  have h:=Option.some.inj h;subst h
  refine Zq (.inr rfl) hU [.val (.bool false)] (by omega) ?_
  simp only [push_cast,seval,↓reduceIte,Za,Try.results32,hN0,hN]
 dsimp only [Ga] at hw h
 refine Xb hw ?_
 try simp only [Zh,Zf,↓reduceIte,Nat.reduceEqDiff]
 refine Zm [] [] ?_
 simp only [push_cast,seval,↓reduceIte]
 refine Zj [4] (Zb Zc [] ?_)
 simp only [push_cast,seval,↓reduceIte,Za,hN0,hN]
 refine Zs ?_
 try simp only [Zh,Zf]
 have h:=Option.some.inj h;subst h
 refine Zq (.inr rfl) hU [.val (.bool true)] (by omega) ?_
 simp only [push_cast,seval,↓reduceIte,Za,Try.results32,hN0,hN]
theorem Zly {a0:(List (List Int))} {a1:(List (List Int))} {r:Bool} {O:Objs} {n:Nat} (h:Vv a0 a1=some r):GTo Try.prog 10 [.sl a0.length (fl (eL (eI .u64)) a0),.sl a1.length (fl (eL (eI .u64)) a1)] O n (.val (.bool r)) O n:=by
 unfold Vv at h
 refine Yi Zc Try.call10 Try.func10 rfl (Nat.le_of_ble_eq_true rfl) (Nat.le_refl _) fun hU => ?_
 have hN0:O n=none:=hU.fresh _ (Nat.le_refl _)
 have hN:∀ k,O (n+k)=none:=fun k=>hU.fresh _ (Nat.le_add_right _ _)
 show W _ _ _ _ ⟨27,[],[(0,.sl a0.length (fl (eL (eI .u64)) a0)),(1,.sl a1.length (fl (eL (eI .u64)) a1))]⟩ (Zw O n []) _
 refine Zj [0,1] (Zb Zc [] ?_)
 simp only [push_cast,seval,↓reduceIte,Za,hN0,hN]
 refine Zi ?_
 refine Zj [0,1,10] (Zb Zc [] ?_)
 simp only [push_cast,seval,↓reduceIte,Za,hN0,hN]
 refine Zl (t:=((a0.length:Int) != (a1.length:Int))) rfl (fun c10 => ?_) (fun c10 => ?_)
 ·replace h:=Z0 c10 h
  refine Zj [4] (Zb Zc [] ?_)
  simp only [push_cast,seval,↓reduceIte,Za,hN0,hN]
  refine Zs ?_
  try simp only [Zh,Zf]
  have h:=Option.some.inj h;subst h
  refine Zq (.inr rfl) hU [.val (.bool false)] (by omega) ?_
  simp only [push_cast,seval,↓reduceIte,Za,Try.results10,hN0,hN]
 replace h:=Zz c10 h
 refine Zp ?_
 try simp only [Zh,Zf]
 refine Zm [0,1] [] ?_
 simp only [push_cast,seval,↓reduceIte]
 refine Zi ?_
 refine Zj [0,1,5] (Zb Zc [] ?_)
 simp only [push_cast,seval,↓reduceIte,Za,hN0,hN]
 refine Zm [0,1,5] [] ?_
 simp only [push_cast,seval,↓reduceIte]
 obtain ⟨z9,hz9,h⟩:=bC h
 refine Zlc (J:=(Ga (fun z9=>JR n (⟨27,[],[(4,.val (.bool false))]⟩:Env) (Zw O n []) n) (fun z9=>JX 0 n (⟨27,[],[]⟩:Env) (Zw O n []) n))) (z:=z9) ?_ fun hw => ?_
 ·refine X7 hz9 (fun s0_=>⟨27,[],[(0,.sl a0.length (fl (eL (eI .u64)) a0)),(1,.sl a1.length (fl (eL (eI .u64)) a1)),(5,.val (.int .i64 s0_))]⟩) (fun s0_=>(Zw O n [])) (Ga (fun z9=>JR n (⟨27,[],[(4,.val (.bool false))]⟩:Env) (Zw O n []) n) (fun z9=>JX 0 n (⟨27,[],[]⟩:Env) (Zw O n []) n)) ?_
  intro s0_ x0_ hs0_
  unfold Kb at hs0_
  try dsimp only
  refine Zi ?_
  refine Zj [0,1,5,14] (Zb Zc [] ?_)
  simp only [push_cast,seval,↓reduceIte,Za,hN0,hN]
  refine Zl (t:=(decide (s0_ < (a0.length:Int)))) rfl (fun c8 => ?_) (fun c8 => ?_)
  ·replace hs0_:=Z0 c8 hs0_
   refine Zp ?_
   try simp only [Zh,Zf]
   refine Zm [0,1,5] [] ?_
   simp only [push_cast,seval,↓reduceIte]
   refine Zi ?_
   refine Ya ?_
   refine Zi ?_
   obtain ⟨x4,hx4,ax4,bx4,cx4,hs0_⟩:=bE (f:=(eL (eI .u64))) Vx (fun _=>rfl) (by decide) hs0_
   obtain ⟨x5,hx5,ax5,bx5,cx5,hs0_⟩:=bE (f:=(eL (eI .u64))) Vx (fun _=>rfl) (by decide) hs0_
   obtain ⟨y6,hy6,hs0_⟩:=bC hs0_
   refine Y2 Zc (by kernel_rfl) [] (by kernel_rfl) ?_
   simp only [push_cast,Nat.reduceAdd,Nat.reduceSub,Nat.reduceMul,Nat.reduceLeDiff,Nat.reduceLT,Nat.reduceEqDiff,↓reduceIte,reduceCtorEq,Int.reduceBEq,Int.reduceBNe,Nat.reduceBEq,Int.reduceLE,Int.reduceLT,Int.reduceEq,Int.reduceNe,Int.reduceNeg,Nat.reduceDiv,Nat.reduceMod,Nat.reducePow,Za,ax4,bx4,cx4,ax5,bx5,cx5,hN0,hN]
   refine PCall.of (Zlx hy6) ?_
   simp only [push_cast,Nat.reduceAdd,Nat.reduceSub,Nat.reduceMul,Nat.reduceLeDiff,Nat.reduceLT,Nat.reduceEqDiff,↓reduceIte,reduceCtorEq,Int.reduceBEq,Int.reduceBNe,Nat.reduceBEq,Int.reduceLE,Int.reduceLT,Int.reduceEq,Int.reduceNe,Int.reduceNeg,Nat.reduceDiv,Nat.reduceMod,Nat.reducePow,Za,ax4,bx4,cx4,ax5,bx5,cx5,hN0,hN]
   refine Zm [0,1,5,26] [] ?_
   simp only [push_cast,seval,↓reduceIte]
   refine Zl (t:=(!y6)) rfl (fun c7 => ?_) (fun c7 => ?_)
   ·replace hs0_:=Z0 c7 hs0_
    refine Zj [4] (Zb Zc [] ?_)
    simp only [push_cast,seval,↓reduceIte,Za,hN0,hN]
    refine Zs ?_
    try simp only [Zh,Zf]
    have hs0_:=Option.some.inj hs0_;subst hs0_
    refine And.intro (fun h=>by cases h) (And.intro rfl (Fit2.of (Zk hU rfl rfl ?_) (by omega)))
    simp only [push_cast,seval,↓reduceIte,Za,hN0,hN]
   replace hs0_:=Zz c7 hs0_
   refine Zp ?_
   try simp only [Zh,Zf]
   refine Zm [0,1,5] [] ?_
   simp only [push_cast,seval,↓reduceIte]
   refine Zb Zc [] ?_
   simp only [push_cast,seval,↓reduceIte,Za,hN0,hN]
   have hs0_:=Option.some.inj hs0_;subst hs0_
   refine And.intro rfl (Fit2.of (Zk hU rfl rfl ?_) (by omega))
   simp only [push_cast,seval,↓reduceIte,Za,hN0,hN]
  replace hs0_:=Zz c8 hs0_
  refine X0 ?_
  try simp only [Zh,Zf,↓reduceIte,Nat.reduceEqDiff]
  have hs0_:=Option.some.inj hs0_;subst hs0_
  refine And.intro (fun h=>by cases h) (And.intro rfl (Fit2.of (Zk hU rfl rfl ?_) (by omega)))
  simp only [push_cast,seval,↓reduceIte,Za,hN0,hN]
 rcases z9 with z9 | z9
 ·dsimp only [Ga] at hw h
  refine Zdr hw ?_
  try simp only [Zh,Zf,↓reduceIte,Nat.reduceEqDiff]
  have h:=Option.some.inj h;subst h
  refine Zq (.inr rfl) hU [.val (.bool false)] (by omega) ?_
  simp only [push_cast,seval,↓reduceIte,Za,Try.results10,hN0,hN]
 dsimp only [Ga] at hw h
 refine Xb hw ?_
 try simp only [Zh,Zf,↓reduceIte,Nat.reduceEqDiff]
 refine Zm [] [] ?_
 simp only [push_cast,seval,↓reduceIte]
 refine Zj [4] (Zb Zc [] ?_)
 simp only [push_cast,seval,↓reduceIte,Za,hN0,hN]
 refine Zs ?_
 try simp only [Zh,Zf]
 have h:=Option.some.inj h;subst h
 refine Zq (.inr rfl) hU [.val (.bool true)] (by omega) ?_
 simp only [push_cast,seval,↓reduceIte,Za,Try.results10,hN0,hN]
theorem Zhl {X4:(Zd→Int→Int→Option Int)} (Zge:∀ {a0:Zd} {a1:Int} {a2:Int} {r:Int} {O:Objs} {n:Nat},X4 a0 a1 a2=some r→GTo Try.prog 21 [.agg (Ze a0),.val (.int .i64 a1),.val (.int .i64 a2)] O n (.val (.int .i64 r)) O n) {a0:Zd} {a1:Int} {a2:Int} {r:Int} {O:Objs} {n:Nat} (h:Yy X4 a0 a1 a2=some r):GTo Try.prog 21 [.agg (Ze a0),.val (.int .i64 a1),.val (.int .i64 a2)] O n (.val (.int .i64 r)) O n:=by
 unfold Yy at h
 refine Yi Zc Try.call21 Try.func21 rfl (Nat.le_of_ble_eq_true rfl) (Nat.le_refl _) fun hU => ?_
 have hN0:O n=none:=hU.fresh _ (Nat.le_refl _)
 have hN:∀ k,O (n+k)=none:=fun k=>hU.fresh _ (Nat.le_add_right _ _)
 show W _ _ _ _ ⟨41,[],[(0,.agg (Ze a0)),(1,.val (.int .i64 a1)),(2,.val (.int .i64 a2))]⟩ (Zw O n []) _
 refine Zj [1,2,3] (Zb Zc [] ?_)
 simp only [push_cast,seval,↓reduceIte,Za,hN0,hN]
 refine Zj [1,2,3] (Zb Zc [] ?_)
 simp only [push_cast,seval,↓reduceIte,Za,hN0,hN]
 refine Zi ?_
 refine Zj [1,2,3,19] (Zb Zc [none,none] ?_)
 simp only [push_cast,seval,↓reduceIte,Za,hN0,hN]
 repeat (with_reducible refine And.intro (by first | (intro h0;simp only [h0,and_self];done) | (intro h0;simp only [h0,Bool.not_false,Bool.not_true,Bool.true_and,Bool.and_true,true_and,and_true,and_self,imp_self,implies_true,bne_iff_ne,ne_eq,beq_iff_eq];done) | (intros;simp_all;done) | exact True.intro) ?_)
 refine Zl (t:=(cond (a1 == 0) true (decide ((IntKind.i64.wrap ((IntKind.i64.wrap (a2 - 1)) - (a0.Words.length:Int))) < 0)))) rfl (fun c5 => ?_) (fun c5 => ?_)
 ·replace h:=Z0 c5 h
  refine Zj [6] (Zb Zc [] ?_)
  simp only [push_cast,seval,↓reduceIte,Za,hN0,hN]
  refine Zs ?_
  try simp only [Zh,Zf]
  have h:=Option.some.inj h;subst h
  refine Zq (.inr rfl) hU [.val (.int .i64 (-1))] (by omega) ?_
  simp only [push_cast,seval,↓reduceIte,Za,Try.results21,hN0,hN]
 replace h:=Zz c5 h
 refine Zp ?_
 try simp only [Zh,Zf]
 refine Zm [1,2,3] [true] ?_
 simp only [push_cast,seval,↓reduceIte]
 refine Zi ?_
 refine Zj [1,2,3,7] (Zb Zc [] ?_)
 simp only [push_cast,seval,↓reduceIte,Za,hN0,hN]
 refine Zm [1,2,3,7] [true] ?_
 simp only [push_cast,seval,↓reduceIte]
 obtain ⟨z4,hz4,h⟩:=bC h
 refine Xb (E':=⟨41,[],[(2,.val (.int .i64 z4))]⟩) (O':=(Zw O n [none])) (n0:=(n+1)) ?_ ?_
 ·refine X7 hz4 (fun s0_=>⟨41,[],[(1,.val (.int .i64 a1)),(2,.val (.int .i64 s0_.1)),(3,.ref n 0),(7,.val (.int .i64 s0_.2))]⟩) (fun s0_=>(Zw O n [some ⟨false,25,3,1,(Ze a0)⟩])) (fun z4=>JX 0 n (⟨41,[],[(2,.val (.int .i64 z4))]⟩:Env) (Zw O n [none]) (n+1)) ?_
  intro s0_ x0_ hs0_
  unfold Yv at hs0_
  try dsimp only
  refine Zi ?_
  refine Zj [1,2,3,7,28] (Zb Zc [none,none] ?_)
  simp only [push_cast,seval,↓reduceIte,Za,hN0,hN]
  repeat (with_reducible refine And.intro (by first | (intro h0;simp only [h0,and_self];done) | (intro h0;simp only [h0,Bool.not_false,Bool.not_true,Bool.true_and,Bool.and_true,true_and,and_true,and_self,imp_self,implies_true,bne_iff_ne,ne_eq,beq_iff_eq];done) | (intros;simp_all;done) | exact True.intro) ?_)
  refine Zl (t:=(cond (decide (s0_.2 < (a0.Kids.length:Int))) (decide (0≤s0_.1)) false)) rfl (fun c3 => ?_) (fun c3 => ?_)
  ·replace hs0_:=Z0 c3 hs0_
   refine Zp ?_
   try simp only [Zh,Zf]
   refine Zm [1,2,3,7] [true] ?_
   simp only [push_cast,seval,↓reduceIte]
   refine Zi ?_
   refine Ya ?_
   obtain ⟨x1,hx1,ax1,bx1,cx1,hs0_⟩:=bE (f:=Zg) J3 (fun _=>rfl) (by decide) hs0_
   obtain ⟨y2,hy2,hs0_⟩:=bC hs0_
   refine Zb Zc [] ?_
   simp only [push_cast,Nat.reduceAdd,Nat.reduceSub,Nat.reduceMul,Nat.reduceLeDiff,Nat.reduceLT,Nat.reduceEqDiff,↓reduceIte,reduceCtorEq,Int.reduceBEq,Int.reduceBNe,Nat.reduceBEq,Int.reduceLE,Int.reduceLT,Int.reduceEq,Int.reduceNe,Int.reduceNeg,Nat.reduceDiv,Nat.reduceMod,Nat.reducePow,Za,ax1,bx1,cx1,hN0,hN]
   refine (Zge hy2).then ?_
   simp only [push_cast,Nat.reduceAdd,Nat.reduceSub,Nat.reduceMul,Nat.reduceLeDiff,Nat.reduceLT,Nat.reduceEqDiff,↓reduceIte,reduceCtorEq,Int.reduceBEq,Int.reduceBNe,Nat.reduceBEq,Int.reduceLE,Int.reduceLT,Int.reduceEq,Int.reduceNe,Int.reduceNeg,Nat.reduceDiv,Nat.reduceMod,Nat.reducePow,Za,ax1,bx1,cx1,hN0,hN]
   refine Zm [1,2,3,7] [true] ?_
   simp only [push_cast,seval,↓reduceIte]
   refine Zb Zc [] ?_
   simp only [push_cast,seval,↓reduceIte,Za,hN0,hN]
   have hs0_:=Option.some.inj hs0_;subst hs0_
   refine And.intro rfl (Fit2.of (Zk hU rfl rfl ?_) (by omega))
   simp only [push_cast,seval,↓reduceIte,Za,hN0,hN]
  replace hs0_:=Zz c3 hs0_
  refine X0 ?_
  try simp only [Zh,Zf,↓reduceIte,Nat.reduceEqDiff]
  have hs0_:=Option.some.inj hs0_;subst hs0_
  refine And.intro (fun h=>by cases h) (And.intro rfl (Fit2.of (Zk hU rfl rfl ?_) (by omega)))
  simp only [push_cast,seval,↓reduceIte,Za,hN0,hN]
 try simp only [Zh,Zf,↓reduceIte,Nat.reduceEqDiff]
 refine Zm [2] [false] ?_
 simp only [push_cast,seval,↓reduceIte]
 refine Zj [6] (Zb Zc [] ?_)
 simp only [push_cast,seval,↓reduceIte,Za,hN0,hN]
 refine Zs ?_
 try simp only [Zh,Zf]
 have h:=Option.some.inj h;subst h
 refine Zq (.inr rfl) hU [.val (.int .i64 z4)] (by omega) ?_
 simp only [push_cast,seval,↓reduceIte,Za,Try.results21,hN0,hN]
theorem Zfz:∀ k,(∀ {a0:Zd} {a1:Int} {a2:Int} {r:Int} {O:Objs} {n:Nat},(Z7 k) a0 a1 a2=some r→GTo Try.prog 21 [.agg (Ze a0),.val (.int .i64 a1),.val (.int .i64 a2)] O n (.val (.int .i64 r)) O n):=fun k=>by
 induction k with
 | zero=>exact @fun a0 a1 a2 r O n h=>(nomatch (show (none:Option _)=some _ from h))
 | succ k ih=>exact @fun a0 a1 a2 r O n h=>Zhl (ih)  h
theorem Zjn {a0:Zd} {a1:Int} {a2:Int} {r:Int} {O:Objs} {n:Nat} (h:Uc a0 a1 a2=some r):GTo Try.prog 21 [.agg (Ze a0),.val (.int .i64 a1),.val (.int .i64 a2)] O n (.val (.int .i64 r)) O n:=by
 obtain ⟨k,hk⟩:=Zjy h
 exact (Zfz k)  hk
theorem Znu {a0:Zd} {r:Bool} {O:Objs} {n:Nat} (h:Uv a0=some r):GTo Try.prog 6 [.agg (Ze a0)] O n (.val (.bool r)) O n:=by
 unfold Uv at h
 refine Yi Zc Try.call6 Try.func6 rfl (Nat.le_of_ble_eq_true rfl) (Nat.le_refl _) fun hU => ?_
 have hN0:O n=none:=hU.fresh _ (Nat.le_refl _)
 have hN:∀ k,O (n+k)=none:=fun k=>hU.fresh _ (Nat.le_add_right _ _)
 show W _ _ _ _ ⟨6,[],[(0,.agg (Ze a0))]⟩ (Zw O n []) _
 refine Zj [1] (Zb Zc [] ?_)
 simp only [push_cast,seval,↓reduceIte,Za,hN0,hN]
 refine Zi ?_
 obtain ⟨y2,hy2,h⟩:=bC h
 refine Zb Zc [] ?_
 simp only [push_cast,seval,↓reduceIte,Za,hN0,hN]
 refine (Zjn hy2).then ?_
 simp only [push_cast,seval,↓reduceIte,Za,hN0,hN]
 refine Zm [2] [false] ?_
 simp only [push_cast,seval,↓reduceIte]
 refine Zs ?_
 try simp only [Zh,Zf]
 have h:=Option.some.inj h;subst h
 refine Zq (.inr rfl) hU [.val (.bool (decide (0≤y2)))] (by omega) ?_
 simp only [push_cast,seval,↓reduceIte,Za,Try.results6,hN0,hN]
theorem Zua {a0:Int} {r:Bool} {O:Objs} {n:Nat} (h:Zco a0=some r):GTo Try.prog 84 [.val (.int .i64 a0)] O n (.val (.bool r)) O n:=by
 unfold Zco at h
 refine Yi Zc Try.call84 Try.func84 rfl (Nat.le_of_ble_eq_true rfl) (Nat.le_refl _) fun hU => ?_
 have hN0:O n=none:=hU.fresh _ (Nat.le_refl _)
 have hN:∀ k,O (n+k)=none:=fun k=>hU.fresh _ (Nat.le_add_right _ _)
 show W _ _ _ _ ⟨9,[],[(0,.val (.int .i64 a0))]⟩ (Zw O n []) _
 refine Zj [0] (Zb Zc [] ?_)
 simp only [push_cast,seval,↓reduceIte,Za,hN0,hN]
 refine Zj [2] (Zb Zc [none,none] ?_)
 simp only [push_cast,seval,↓reduceIte,Za,hN0,hN]
 repeat (with_reducible refine And.intro (by first | (intro h0;simp only [h0,and_self];done) | (intro h0;simp only [h0,Bool.not_false,Bool.not_true,Bool.true_and,Bool.and_true,true_and,and_true,and_self,imp_self,implies_true,bne_iff_ne,ne_eq,beq_iff_eq];done) | (intros;simp_all;done) | exact True.intro) ?_)
 refine Zs ?_
 try simp only [Zh,Zf]
 have h:=Option.some.inj h;subst h
 refine Zq (.inr rfl) hU [.val (.bool (cond (decide (2≤a0)) (decide (a0≤9)) false))] (by omega) ?_
 simp only [push_cast,seval,↓reduceIte,Za,Try.results84,hN0,hN]
theorem Zeb {a0:(List Zd)} {r:Bool} {O:Objs} {n:Nat} (h:Ke a0=some r):GTo Try.prog 85 [.sl a0.length (fl Zg a0)] O n (.val (.bool r)) O n:=by
 unfold Ke at h
 refine Yi Zc Try.call85 Try.func85 rfl (Nat.le_of_ble_eq_true rfl) (Nat.le_refl _) fun hU => ?_
 have hN0:O n=none:=hU.fresh _ (Nat.le_refl _)
 have hN:∀ k,O (n+k)=none:=fun k=>hU.fresh _ (Nat.le_add_right _ _)
 show W _ _ _ _ ⟨15,[],[(0,.sl a0.length (fl Zg a0))]⟩ (Zw O n []) _
 refine Zj [0] (Zb Zc [] ?_)
 simp only [push_cast,seval,↓reduceIte,Za,hN0,hN]
 refine Zi ?_
 refine Zj [5,6,7] (Zb Zc [] ?_)
 simp only [push_cast,seval,↓reduceIte,Za,hN0,hN]
 refine Zm [5,6,7] [] ?_
 simp only [push_cast,seval,↓reduceIte]
 obtain ⟨z5,hz5,h⟩:=bC h
 refine Zlc (J:=(Ga (fun z5=>JR n (⟨15,[],[(2,.val (.bool false))]⟩:Env) (Zw O n []) n) (fun z5=>JX 0 n (⟨15,[],[]⟩:Env) (Zw O n []) n))) (z:=z5) ?_ fun hw => ?_
 ·refine X7 hz5 (fun s0_=>⟨15,[],[(5,.sl a0.length (fl Zg a0)),(6,.val (.int .i64 (a0.length:Int))),(7,.val (.int .i64 s0_))]⟩) (fun s0_=>(Zw O n [])) (Ga (fun z5=>JR n (⟨15,[],[(2,.val (.bool false))]⟩:Env) (Zw O n []) n) (fun z5=>JX 0 n (⟨15,[],[]⟩:Env) (Zw O n []) n)) ?_
  intro s0_ x0_ hs0_
  unfold Q2 at hs0_
  try dsimp only
  refine Zj [5,6,7,8] (Zb Zc [] ?_)
  simp only [push_cast,seval,↓reduceIte,Za,hN0,hN]
  refine Zi ?_
  refine Zl (t:=(decide (s0_ < (a0.length:Int)))) rfl (fun c4 => ?_) (fun c4 => ?_)
  ·replace hs0_:=Z0 c4 hs0_
   refine Zp ?_
   try simp only [Zh,Zf]
   refine Zm [5,6,7] [] ?_
   simp only [push_cast,seval,↓reduceIte]
   refine Zi ?_
   refine Ya ?_
   refine Zi ?_
   obtain ⟨x2,hx2,ax2,bx2,cx2,hs0_⟩:=bE (f:=Zg) J3 (fun _=>rfl) (by decide) hs0_
   refine Zb Zc [] ?_
   simp only [push_cast,Nat.reduceAdd,Nat.reduceSub,Nat.reduceMul,Nat.reduceLeDiff,Nat.reduceLT,Nat.reduceEqDiff,↓reduceIte,reduceCtorEq,Int.reduceBEq,Int.reduceBNe,Nat.reduceBEq,Int.reduceLE,Int.reduceLT,Int.reduceEq,Int.reduceNe,Int.reduceNeg,Nat.reduceDiv,Nat.reduceMod,Nat.reducePow,Za,ax2,bx2,cx2,hN0,hN]
   refine Zm [4,5,6,7] [true] ?_
   simp only [push_cast,seval,↓reduceIte]
   refine Zj [5,6,7,13] (Zb Zc [] ?_)
   simp only [push_cast,seval,↓reduceIte,Za,hN0,hN]
   refine Zl (t:=(x2.Kind != 1)) rfl (fun c3 => ?_) (fun c3 => ?_)
   ·replace hs0_:=Z0 c3 hs0_
    refine Zj [2] (Zb Zc [] ?_)
    simp only [push_cast,seval,↓reduceIte,Za,hN0,hN]
    refine Zs ?_
    try simp only [Zh,Zf]
    have hs0_:=Option.some.inj hs0_;subst hs0_
    refine And.intro (fun h=>by cases h) (And.intro rfl (Fit2.of (Zk hU rfl rfl ?_) (by omega)))
    simp only [push_cast,seval,↓reduceIte,Za,hN0,hN]
   replace hs0_:=Zz c3 hs0_
   refine Zp ?_
   try simp only [Zh,Zf]
   refine Zm [5,6,7] [false] ?_
   simp only [push_cast,seval,↓reduceIte]
   refine Zb Zc [] ?_
   simp only [push_cast,seval,↓reduceIte,Za,hN0,hN]
   have hs0_:=Option.some.inj hs0_;subst hs0_
   refine And.intro rfl (Fit2.of (Zk hU rfl rfl ?_) (by omega))
   simp only [push_cast,seval,↓reduceIte,Za,hN0,hN]
  replace hs0_:=Zz c4 hs0_
  refine X0 ?_
  try simp only [Zh,Zf,↓reduceIte,Nat.reduceEqDiff]
  have hs0_:=Option.some.inj hs0_;subst hs0_
  refine And.intro (fun h=>by cases h) (And.intro rfl (Fit2.of (Zk hU rfl rfl ?_) (by omega)))
  simp only [push_cast,seval,↓reduceIte,Za,hN0,hN]
 rcases z5 with z5 | z5
 ·dsimp only [Ga] at hw h
  refine Zdr hw ?_
  try simp only [Zh,Zf,↓reduceIte,Nat.reduceEqDiff]
  have h:=Option.some.inj h;subst h
  refine Zq (.inr rfl) hU [.val (.bool false)] (by omega) ?_
  simp only [push_cast,seval,↓reduceIte,Za,Try.results85,hN0,hN]
 dsimp only [Ga] at hw h
 refine Xb hw ?_
 try simp only [Zh,Zf,↓reduceIte,Nat.reduceEqDiff]
 refine Zm [] [] ?_
 simp only [push_cast,seval,↓reduceIte]
 refine Zj [2] (Zb Zc [] ?_)
 simp only [push_cast,seval,↓reduceIte,Za,hN0,hN]
 refine Zs ?_
 try simp only [Zh,Zf]
 have h:=Option.some.inj h;subst h
 refine Zq (.inr rfl) hU [.val (.bool true)] (by omega) ?_
 simp only [push_cast,seval,↓reduceIte,Za,Try.results85,hN0,hN]
theorem Zf0 {a0:Int} {r:(Int×Bool)} {O:Objs} {n:Nat} (h:Jh a0=some r):GTo Try.prog 127 [.val (.int .i64 a0)] O n (.tup [.val (.int .i64 r.1),.val (.bool r.2)]) O n:=by
 unfold Jh at h
 refine Yi Zc Try.call127 Try.func127 rfl (Nat.le_of_ble_eq_true rfl) (Nat.le_refl _) fun hU => ?_
 have hN0:O n=none:=hU.fresh _ (Nat.le_refl _)
 have hN:∀ k,O (n+k)=none:=fun k=>hU.fresh _ (Nat.le_add_right _ _)
 show W _ _ _ _ ⟨15,[],[(0,.val (.int .i64 a0))]⟩ (Zw O n []) _
 refine Zj [0] (Zb Zc [] ?_)
 simp only [push_cast,seval,↓reduceIte,Za,hN0,hN]
 refine Zi ?_
 obtain ⟨y6,hy6,ey6,h⟩:=bY (f:=(eI .i64)) (cs:=[.val (.int .i64 0),.val (.int .i64 1),.val (.int .i64 8),.val (.int .i64 16),.val (.int .i64 32),.val (.int .i64 64)]) rfl h
 have g7:=congrArg G.agg ey6
 obtain ⟨y8,hy8,ey8,h⟩:=bY (f:=(eI .i64)) (cs:=[.val (.int .i64 0),.val (.int .i64 0),.val (.int .i64 0),.val (.int .i64 0),.val (.int .i64 0),.val (.int .i64 0)]) rfl h
 have g9:=congrArg (GObj.mk false 185 6 1) ey8
 have g10:=Zp5 (f:=(eI .i64)) y8 y6 (fun _=>rfl)
 refine Zb Zc [] ?_
 simp only [push_cast,seval,↓reduceIte,Za,g7,g9,g10,hN0,hN]
 refine Zm [0,4] [true] ?_
 simp only [push_cast,seval,↓reduceIte]
 refine Zi ?_
 refine Zj [0,4,11] (Zb Zc [none,none] ?_)
 simp only [push_cast,seval,↓reduceIte,Za,hN0,hN]
 repeat (with_reducible refine And.intro (by first | (intro h0;simp only [h0,and_self];done) | (intro h0;simp only [h0,Bool.not_false,Bool.not_true,Bool.true_and,Bool.and_true,true_and,and_true,and_self,imp_self,implies_true,bne_iff_ne,ne_eq,beq_iff_eq];done) | (intros;simp_all;done) | exact True.intro) ?_)
 refine Zl (t:=(cond (decide (a0 < 0)) true (decide (6≤a0)))) rfl (fun c13 => ?_) (fun c13 => ?_)
 ·replace h:=Z0 c13 h
  refine Zj [2,3] (Zb Zc [] ?_)
  simp only [push_cast,seval,↓reduceIte,Za,hN0,hN]
  refine Zs ?_
  try simp only [Zh,Zf]
  have h:=Option.some.inj h;subst h
  refine Zq (.inr rfl) hU [.val (.int .i64 0),.val (.bool false)] (by omega) ?_
  simp only [push_cast,seval,↓reduceIte,Za,Try.results127,hN0,hN]
 replace h:=Zz c13 h
 refine Zp ?_
 try simp only [Zh,Zf]
 refine Zm [0,4] [true] ?_
 simp only [push_cast,seval,↓reduceIte]
 obtain ⟨x12,hx12,ax12,bx12,cx12,h⟩:=bEA (f:=(eI .i64)) (b:=6) rfl Zso (fun _=>rfl) (by decide) h
 refine Zj [2,3] (Zb Zc [] ?_)
 simp only [push_cast,Nat.reduceAdd,Nat.reduceSub,Nat.reduceMul,Nat.reduceLeDiff,Nat.reduceLT,Nat.reduceEqDiff,↓reduceIte,reduceCtorEq,Int.reduceBEq,Int.reduceBNe,Nat.reduceBEq,Int.reduceLE,Int.reduceLT,Int.reduceEq,Int.reduceNe,Int.reduceNeg,Nat.reduceDiv,Nat.reduceMod,Nat.reducePow,Za,ax12,bx12,cx12,hN0,hN]
 refine Zs ?_
 try simp only [Zh,Zf]
 have h:=Option.some.inj h;subst h
 refine Zq (.inr rfl) hU [.val (.int .i64 x12),.val (.bool true)] (by omega) ?_
 simp only [push_cast,seval,↓reduceIte,Za,Try.results127,hN0,hN]
theorem Znw {a0:Int} {a1:Int} {r:Bool} {O:Objs} {n:Nat} (h:Zag a0 a1=some r):GTo Try.prog 122 [.val (.int .i64 a0),.val (.int .u64 a1)] O n (.val (.bool r)) O n:=by
 unfold Zag at h
 refine Yi Zc Try.call122 Try.func122 rfl (Nat.le_of_ble_eq_true rfl) (Nat.le_refl _) fun hU => ?_
 have hN0:O n=none:=hU.fresh _ (Nat.le_refl _)
 have hN:∀ k,O (n+k)=none:=fun k=>hU.fresh _ (Nat.le_add_right _ _)
 show W _ _ _ _ ⟨19,[],[(0,.val (.int .i64 a0)),(1,.val (.int .u64 a1))]⟩ (Zw O n []) _
 refine Zj [0,1] (Zb Zc [] ?_)
 simp only [push_cast,seval,↓reduceIte,Za,hN0,hN]
 refine Zi ?_
 obtain ⟨y2,hy2,h⟩:=bC h
 refine Zb Zc [] ?_
 simp only [push_cast,seval,↓reduceIte,Za,hN0,hN]
 refine (Zf0 hy2).then ?_
 simp only [push_cast,seval,↓reduceIte,Za,hN0,hN]
 refine Zm [1,5,6] [] ?_
 simp only [push_cast,seval,↓reduceIte]
 obtain ⟨z4,hz4,h⟩:=bC h
 refine Yk (E':=⟨19,[],[(4,.val (.bool z4))]⟩) (O':=(Zw O n [])) (n0:=n) ?_ ?_
 ·rcases Bool.eq_false_or_eq_true y2.2 with c7 | c7
  ·replace hz4:=Z0 c7 hz4
   obtain ⟨pu6,hz4⟩:=bG hz4
   refine Zb Zc (Zxj []) ?_
   simp only [push_cast,seval,↓reduceIte,Za,c7,pu6,hN0,hN]
   have hz4:=Option.some.inj hz4;subst hz4
   refine And.intro rfl (Fit2.of (Zk hU rfl rfl ?_) (by omega))
   simp only [push_cast,seval,↓reduceIte,Za,c7,pu6,hN0,hN]
  replace hz4:=Zz c7 hz4
  refine Zb Zc (Z0u []) ?_
  simp only [push_cast,seval,↓reduceIte,Za,c7,hN0,hN]
  have hz4:=Option.some.inj hz4;subst hz4
  refine And.intro rfl (Fit2.of (Zk hU rfl rfl ?_) (by omega))
  simp only [push_cast,seval,↓reduceIte,Za,c7,hN0,hN]
 refine Zs ?_
 try simp only [Zh,Zf]
 have h:=Option.some.inj h;subst h
 refine Zq (.inr rfl) hU [.val (.bool z4)] (by omega) ?_
 simp only [push_cast,seval,↓reduceIte,Za,Try.results122,hN0,hN]
theorem Zqk {Yo:(Zd→Option Bool)} {Ym:(Zd→Int→Option Bool)} {Yb:((List Zd)→Int→Option Bool)} {Yd:((List Zd)→Int→Option Bool)} (Vk:∀ {a0:Zd} {r:Bool} {O:Objs} {n:Nat},Yo a0=some r→GTo Try.prog 22 [.agg (Ze a0)] O n (.val (.bool r)) O n) (Vl:∀ {a0:Zd} {a1:Int} {r:Bool} {O:Objs} {n:Nat},Ym a0 a1=some r→GTo Try.prog 46 [.agg (Ze a0),.val (.int .i64 a1)] O n (.val (.bool r)) O n) (Qq:∀ {a0:(List Zd)} {a1:Int} {r:Bool} {O:Objs} {n:Nat},Yb a0 a1=some r→GTo Try.prog 83 [.sl a0.length (fl Zg a0),.val (.int .i64 a1)] O n (.val (.bool r)) O n) (Vc:∀ {a0:(List Zd)} {a1:Int} {r:Bool} {O:Objs} {n:Nat},Yd a0 a1=some r→GTo Try.prog 86 [.sl a0.length (fl Zg a0),.val (.int .i64 a1)] O n (.val (.bool r)) O n) {a0:Zd} {r:Bool} {O:Objs} {n:Nat} (h:Zan Yo Ym Yb Yd a0=some r):GTo Try.prog 22 [.agg (Ze a0)] O n (.val (.bool r)) O n:=by
 unfold Zan at h
 refine Yi Zc Try.call22 Try.func22 rfl (Nat.le_of_ble_eq_true rfl) (Nat.le_refl _) fun hU => ?_
 have hN0:O n=none:=hU.fresh _ (Nat.le_refl _)
 have hN:∀ k,O (n+k)=none:=fun k=>hU.fresh _ (Nat.le_add_right _ _)
 show W _ _ _ _ ⟨18,[],[(0,.agg (Ze a0))]⟩ (Zw O n []) _
 refine Zj [1] (Zb Zc [] ?_)
 simp only [push_cast,seval,↓reduceIte,Za,hN0,hN]
 refine Zi ?_
 refine Zj [1,5] (Zb Zc [] ?_)
 simp only [push_cast,seval,↓reduceIte,Za,hN0,hN]
 refine Zl (t:=(a0.Kind == 10)) rfl (fun c3 => ?_) (fun c3 => ?_)
 ·replace h:=Z0 c3 h
  refine Zj [2] (Zb Zc [none,none,none,none] ?_)
  simp only [push_cast,seval,↓reduceIte,Za,hN0,hN]
  repeat (with_reducible refine And.intro (by first | (intro h0;simp only [h0,and_self];done) | (intro h0;simp only [h0,Bool.not_false,Bool.not_true,Bool.true_and,Bool.and_true,true_and,and_true,and_self,imp_self,implies_true,bne_iff_ne,ne_eq,beq_iff_eq];done) | (intros;simp_all;done) | exact True.intro) ?_)
  refine Zs ?_
  try simp only [Zh,Zf]
  have h:=Option.some.inj h;subst h
  refine Zq (.inr rfl) hU [.val (.bool (cond ((a0.Words.length:Int) == 1) ((a0.Kids.length:Int) == 0) false))] (by omega) ?_
  simp only [push_cast,seval,↓reduceIte,Za,Try.results22,hN0,hN]
 replace h:=Zz c3 h
 refine Zp ?_
 try simp only [Zh,Zf]
 refine Zm [1] [true] ?_
 simp only [push_cast,seval,↓reduceIte]
 refine Zi ?_
 obtain ⟨y2,hy2,h⟩:=bC h
 refine Zb Zc [] ?_
 simp only [push_cast,seval,↓reduceIte,Za,hN0,hN]
 refine (Vl hy2).then ?_
 simp only [push_cast,seval,↓reduceIte,Za,hN0,hN]
 refine Zm [2] [false] ?_
 simp only [push_cast,seval,↓reduceIte]
 refine Zs ?_
 try simp only [Zh,Zf]
 have h:=Option.some.inj h;subst h
 refine Zq (.inr rfl) hU [.val (.bool y2)] (by omega) ?_
 simp only [push_cast,seval,↓reduceIte,Za,Try.results22,hN0,hN]
theorem Zql {Yo:(Zd→Option Bool)} {Ym:(Zd→Int→Option Bool)} {Yb:((List Zd)→Int→Option Bool)} {Yd:((List Zd)→Int→Option Bool)} (Vk:∀ {a0:Zd} {r:Bool} {O:Objs} {n:Nat},Yo a0=some r→GTo Try.prog 22 [.agg (Ze a0)] O n (.val (.bool r)) O n) (Vl:∀ {a0:Zd} {a1:Int} {r:Bool} {O:Objs} {n:Nat},Ym a0 a1=some r→GTo Try.prog 46 [.agg (Ze a0),.val (.int .i64 a1)] O n (.val (.bool r)) O n) (Qq:∀ {a0:(List Zd)} {a1:Int} {r:Bool} {O:Objs} {n:Nat},Yb a0 a1=some r→GTo Try.prog 83 [.sl a0.length (fl Zg a0),.val (.int .i64 a1)] O n (.val (.bool r)) O n) (Vc:∀ {a0:(List Zd)} {a1:Int} {r:Bool} {O:Objs} {n:Nat},Yd a0 a1=some r→GTo Try.prog 86 [.sl a0.length (fl Zg a0),.val (.int .i64 a1)] O n (.val (.bool r)) O n) {a0:Zd} {a1:Int} {r:Bool} {O:Objs} {n:Nat} (h:Zao Yo Ym Yb Yd a0 a1=some r):GTo Try.prog 46 [.agg (Ze a0),.val (.int .i64 a1)] O n (.val (.bool r)) O n:=by
 unfold Zao at h
 refine Yi Zc Try.call46 Try.func46 rfl (Nat.le_of_ble_eq_true rfl) (Nat.le_refl _) fun hU => ?_
 have hN0:O n=none:=hU.fresh _ (Nat.le_refl _)
 have hN:∀ k,O (n+k)=none:=fun k=>hU.fresh _ (Nat.le_add_right _ _)
 show W _ _ _ _ ⟨83,[],[(0,.agg (Ze a0)),(1,.val (.int .i64 a1))]⟩ (Zw O n []) _
 refine Zj [1,2] (Zb Zc [] ?_)
 simp only [push_cast,seval,↓reduceIte,Za,hN0,hN]
 refine Zi ?_
 refine Zj [1,2,7] (Zb Zc [] ?_)
 simp only [push_cast,seval,↓reduceIte,Za,hN0,hN]
 refine Zl (t:=(a0.Kind == 0)) rfl (fun c26 => ?_) (fun c26 => ?_)
 ·replace h:=Z0 c26 h
  refine Zj [4] (Zb Zc [none,none,none,none] ?_)
  simp only [push_cast,seval,↓reduceIte,Za,hN0,hN]
  repeat (with_reducible refine And.intro (by first | (intro h0;simp only [h0,and_self];done) | (intro h0;simp only [h0,Bool.not_false,Bool.not_true,Bool.true_and,Bool.and_true,true_and,and_true,and_self,imp_self,implies_true,bne_iff_ne,ne_eq,beq_iff_eq];done) | (intros;simp_all;done) | exact True.intro) ?_)
  refine Zs ?_
  try simp only [Zh,Zf]
  have h:=Option.some.inj h;subst h
  refine Zq (.inr rfl) hU [.val (.bool (cond ((a0.Words.length:Int) == 0) ((a0.Kids.length:Int) == 0) false))] (by omega) ?_
  simp only [push_cast,seval,↓reduceIte,Za,Try.results46,hN0,hN]
 replace h:=Zz c26 h
 refine Zp ?_
 try simp only [Zh,Zf]
 refine Zm [1,2] [true] ?_
 simp only [push_cast,seval,↓reduceIte]
 refine Zi ?_
 refine Zj [1,2,19] (Zb Zc [] ?_)
 simp only [push_cast,seval,↓reduceIte,Za,hN0,hN]
 refine Zl (t:=(a1 == 0)) rfl (fun c25 => ?_) (fun c25 => ?_)
 ·replace h:=Z0 c25 h
  refine Zj [4] (Zb Zc [] ?_)
  simp only [push_cast,seval,↓reduceIte,Za,hN0,hN]
  refine Zs ?_
  try simp only [Zh,Zf]
  have h:=Option.some.inj h;subst h
  refine Zq (.inr rfl) hU [.val (.bool false)] (by omega) ?_
  simp only [push_cast,seval,↓reduceIte,Za,Try.results46,hN0,hN]
 replace h:=Zz c25 h
 refine Zp ?_
 try simp only [Zh,Zf]
 refine Zm [1,2] [true] ?_
 simp only [push_cast,seval,↓reduceIte]
 refine Zi ?_
 refine Zj [1,2,22] (Zb Zc [] ?_)
 simp only [push_cast,seval,↓reduceIte,Za,hN0,hN]
 refine Zl (t:=(a0.Kind == 1)) rfl (fun c24 => ?_) (fun c24 => ?_)
 ·replace h:=Z0 c24 h
  obtain ⟨z2,hz2,h⟩:=bC h
  refine Yk (E':=⟨83,[],[(4,.val (.bool z2))]⟩) (O':=(Zw O n [none])) (n0:=(n+1)) ?_ ?_
  ·rcases Bool.eq_false_or_eq_true (decide ((a0.Words.length:Int) < 65536)) with c5 | c5
   ·replace hz2:=Z0 c5 hz2
    rcases Bool.eq_false_or_eq_true (decide ((a0.Kids.length:Int) < 65536)) with c6 | c6
    ·replace hz2:=Z0 c6 hz2
     try rw [c6] at c5
     obtain ⟨y4,hy4,hz2⟩:=bC hz2
     refine Zb Zc (Zvy (Z4l [])) ?_
     simp only [push_cast,seval,↓reduceIte,Za,c5,c6,hN0,hN]
     repeat (with_reducible refine And.intro (by first | (intro h0;simp only [h0,and_self];done) | (intro h0;simp only [h0,Bool.not_false,Bool.not_true,Bool.true_and,Bool.and_true,true_and,and_true,and_self,imp_self,implies_true,bne_iff_ne,ne_eq,beq_iff_eq];done) | (intros;simp_all;done) | exact True.intro) ?_)
     refine (Qq hy4).then ?_
     simp only [push_cast,seval,↓reduceIte,Za,c5,c6,hN0,hN]
     repeat (with_reducible refine And.intro (by first | (intro h0;simp only [h0,and_self];done) | (intro h0;simp only [h0,Bool.not_false,Bool.not_true,Bool.true_and,Bool.and_true,true_and,and_true,and_self,imp_self,implies_true,bne_iff_ne,ne_eq,beq_iff_eq];done) | (intros;simp_all;done) | exact True.intro) ?_)
     have hz2:=Option.some.inj hz2;subst hz2
     refine And.intro rfl (Fit2.of (Zk hU rfl rfl ?_) (by omega))
     simp only [push_cast,seval,↓reduceIte,Za,c5,c6,hN0,hN]
    replace hz2:=Zz c6 hz2
    try rw [c6] at c5
    refine Zb Zc (Zvy (Z0v [])) ?_
    simp only [push_cast,seval,↓reduceIte,Za,c5,c6,hN0,hN]
    repeat (with_reducible refine And.intro (by first | (intro h0;simp only [h0,and_self];done) | (intro h0;simp only [h0,Bool.not_false,Bool.not_true,Bool.true_and,Bool.and_true,true_and,and_true,and_self,imp_self,implies_true,bne_iff_ne,ne_eq,beq_iff_eq];done) | (intros;simp_all;done) | exact True.intro) ?_)
    have hz2:=Option.some.inj hz2;subst hz2
    refine And.intro rfl (Fit2.of (Zk hU rfl rfl ?_) (by omega))
    simp only [push_cast,seval,↓reduceIte,Za,c5,c6,hN0,hN]
   replace hz2:=Zz c5 hz2
   refine Zb Zc (Zvy (Z0v [])) ?_
   simp only [push_cast,seval,↓reduceIte,Za,c5,hN0,hN]
   repeat (with_reducible refine And.intro (by first | (intro h0;simp only [h0,and_self];done) | (intro h0;simp only [h0,Bool.not_false,Bool.not_true,Bool.true_and,Bool.and_true,true_and,and_true,and_self,imp_self,implies_true,bne_iff_ne,ne_eq,beq_iff_eq];done) | (intros;simp_all;done) | exact True.intro) ?_)
   have hz2:=Option.some.inj hz2;subst hz2
   refine And.intro rfl (Fit2.of (Zk hU rfl rfl ?_) (by omega))
   simp only [push_cast,seval,↓reduceIte,Za,c5,hN0,hN]
  refine Zs ?_
  try simp only [Zh,Zf]
  have h:=Option.some.inj h;subst h
  refine Zq (.inr rfl) hU [.val (.bool z2)] (by omega) ?_
  simp only [push_cast,seval,↓reduceIte,Za,Try.results46,hN0,hN]
 replace h:=Zz c24 h
 refine Zp ?_
 try simp only [Zh,Zf]
 refine Zm [1,2] [true] ?_
 simp only [push_cast,seval,↓reduceIte]
 refine Zi ?_
 refine Zi ?_
 obtain ⟨y8,hy8,h⟩:=bC h
 refine Zb Zc [none,none,none,none,none,none,none,none] ?_
 simp only [push_cast,seval,↓reduceIte,Za,hN0,hN]
 repeat (with_reducible refine And.intro (by first | (intro h0;simp only [h0,and_self];done) | (intro h0;simp only [h0,Bool.not_false,Bool.not_true,Bool.true_and,Bool.and_true,true_and,and_true,and_self,imp_self,implies_true,bne_iff_ne,ne_eq,beq_iff_eq];done) | (intros;simp_all;done) | exact True.intro) ?_)
 refine (Zua hy8).then ?_
 simp only [push_cast,seval,↓reduceIte,Za,hN0,hN]
 repeat (with_reducible refine And.intro (by first | (intro h0;simp only [h0,and_self];done) | (intro h0;simp only [h0,Bool.not_false,Bool.not_true,Bool.true_and,Bool.and_true,true_and,and_true,and_self,imp_self,implies_true,bne_iff_ne,ne_eq,beq_iff_eq];done) | (intros;simp_all;done) | exact True.intro) ?_)
 refine Zm [1,2,55] [true] ?_
 simp only [push_cast,seval,↓reduceIte]
 refine Zl (t:=(cond (cond (!y8) true (decide (0 < (a0.Words.length:Int)))) true (decide (1048576≤(a0.Kids.length:Int))))) rfl (fun c23 => ?_) (fun c23 => ?_)
 ·replace h:=Z0 c23 h
  refine Zj [4] (Zb Zc [] ?_)
  simp only [push_cast,seval,↓reduceIte,Za,hN0,hN]
  refine Zs ?_
  try simp only [Zh,Zf]
  have h:=Option.some.inj h;subst h
  refine Zq (.inr rfl) hU [.val (.bool false)] (by omega) ?_
  simp only [push_cast,seval,↓reduceIte,Za,Try.results46,hN0,hN]
 replace h:=Zz c23 h
 refine Zp ?_
 try simp only [Zh,Zf]
 refine Zm [1,2] [true] ?_
 simp only [push_cast,seval,↓reduceIte]
 refine Zi ?_
 refine Zj [1,2,57] (Zb Zc [] ?_)
 simp only [push_cast,seval,↓reduceIte,Za,hN0,hN]
 refine Ya ?_
 refine Zj [1,2,57,58] (Zb Zc [] ?_)
 simp only [push_cast,seval,↓reduceIte,Za,hN0,hN]
 refine Zl (t:=(a0.Kind == 8)) rfl (fun c22 => ?_) (fun c22 => ?_)
 ·replace h:=Z0 c22 h
  refine Zi ?_
  obtain ⟨y10,hy10,h⟩:=bC h
  refine Zb Zc [] ?_
  simp only [push_cast,seval,↓reduceIte,Za,hN0,hN]
  refine (Qq hy10).then ?_
  simp only [push_cast,seval,↓reduceIte,Za,hN0,hN]
  refine Zm [4] [false] ?_
  simp only [push_cast,seval,↓reduceIte]
  refine Zs ?_
  try simp only [Zh,Zf]
  have h:=Option.some.inj h;subst h
  refine Zq (.inr rfl) hU [.val (.bool y10)] (by omega) ?_
  simp only [push_cast,seval,↓reduceIte,Za,Try.results46,hN0,hN]
 replace h:=Zz c22 h
 refine Zj [1,2,65] (Zb Zc [] ?_)
 simp only [push_cast,seval,↓reduceIte,Za,hN0,hN]
 refine Zl (t:=(a0.Kind == 9)) rfl (fun c21 => ?_) (fun c21 => ?_)
 ·replace h:=Z0 c21 h
  obtain ⟨z13,hz13,h⟩:=bC h
  refine Yk (E':=⟨83,[],[(4,.val (.bool z13))]⟩) (O':=(Zw O n [none])) (n0:=(n+1)) ?_ ?_
  ·obtain ⟨y16,hy16,hz13⟩:=bC hz13
   rcases Bool.eq_false_or_eq_true y16 with c18 | c18
   ·replace hz13:=Z0 c18 hz13
    obtain ⟨y17,hy17,hz13⟩:=bC hz13
    refine Zb Zc (Z4l []) ?_
    simp only [push_cast,seval,↓reduceIte,Za,c18,hN0,hN]
    refine (Zeb hy16).then ?_
    simp only [push_cast,seval,↓reduceIte,Za,c18,hN0,hN]
    refine (Qq hy17).then ?_
    simp only [push_cast,seval,↓reduceIte,Za,c18,hN0,hN]
    have hz13:=Option.some.inj hz13;subst hz13
    refine And.intro rfl (Fit2.of (Zk hU rfl rfl ?_) (by omega))
    simp only [push_cast,seval,↓reduceIte,Za,c18,hN0,hN]
   replace hz13:=Zz c18 hz13
   refine Zb Zc (Z0v []) ?_
   simp only [push_cast,seval,↓reduceIte,Za,c18,hN0,hN]
   refine (Zeb hy16).then ?_
   simp only [push_cast,seval,↓reduceIte,Za,c18,hN0,hN]
   have hz13:=Option.some.inj hz13;subst hz13
   refine And.intro rfl (Fit2.of (Zk hU rfl rfl ?_) (by omega))
   simp only [push_cast,seval,↓reduceIte,Za,c18,hN0,hN]
  refine Zs ?_
  try simp only [Zh,Zf]
  have h:=Option.some.inj h;subst h
  refine Zq (.inr rfl) hU [.val (.bool z13)] (by omega) ?_
  simp only [push_cast,seval,↓reduceIte,Za,Try.results46,hN0,hN]
 replace h:=Zz c21 h
 refine Zp ?_
 try simp only [Zh,Zf]
 refine Zm [2] [true] ?_
 simp only [push_cast,seval,↓reduceIte]
 refine Zi ?_
 obtain ⟨y20,hy20,h⟩:=bC h
 refine Zb Zc [] ?_
 simp only [push_cast,seval,↓reduceIte,Za,hN0,hN]
 refine (Vc hy20).then ?_
 simp only [push_cast,seval,↓reduceIte,Za,hN0,hN]
 refine Zm [4] [false] ?_
 simp only [push_cast,seval,↓reduceIte]
 refine Zs ?_
 try simp only [Zh,Zf]
 have h:=Option.some.inj h;subst h
 refine Zq (.inr rfl) hU [.val (.bool y20)] (by omega) ?_
 simp only [push_cast,seval,↓reduceIte,Za,Try.results46,hN0,hN]
theorem Zny {Yo:(Zd→Option Bool)} {Ym:(Zd→Int→Option Bool)} {Yb:((List Zd)→Int→Option Bool)} {Yd:((List Zd)→Int→Option Bool)} (Vk:∀ {a0:Zd} {r:Bool} {O:Objs} {n:Nat},Yo a0=some r→GTo Try.prog 22 [.agg (Ze a0)] O n (.val (.bool r)) O n) (Vl:∀ {a0:Zd} {a1:Int} {r:Bool} {O:Objs} {n:Nat},Ym a0 a1=some r→GTo Try.prog 46 [.agg (Ze a0),.val (.int .i64 a1)] O n (.val (.bool r)) O n) (Qq:∀ {a0:(List Zd)} {a1:Int} {r:Bool} {O:Objs} {n:Nat},Yb a0 a1=some r→GTo Try.prog 83 [.sl a0.length (fl Zg a0),.val (.int .i64 a1)] O n (.val (.bool r)) O n) (Vc:∀ {a0:(List Zd)} {a1:Int} {r:Bool} {O:Objs} {n:Nat},Yd a0 a1=some r→GTo Try.prog 86 [.sl a0.length (fl Zg a0),.val (.int .i64 a1)] O n (.val (.bool r)) O n) {a0:(List Zd)} {a1:Int} {r:Bool} {O:Objs} {n:Nat} (h:Ve Yo Ym Yb Yd a0 a1=some r):GTo Try.prog 83 [.sl a0.length (fl Zg a0),.val (.int .i64 a1)] O n (.val (.bool r)) O n:=by
 unfold Ve at h
 refine Yi Zc Try.call83 Try.func83 rfl (Nat.le_of_ble_eq_true rfl) (Nat.le_refl _) fun hU => ?_
 have hN0:O n=none:=hU.fresh _ (Nat.le_refl _)
 have hN:∀ k,O (n+k)=none:=fun k=>hU.fresh _ (Nat.le_add_right _ _)
 show W _ _ _ _ ⟨18,[],[(0,.sl a0.length (fl Zg a0)),(1,.val (.int .i64 a1))]⟩ (Zw O n []) _
 refine Zj [0,1] (Zb Zc [] ?_)
 simp only [push_cast,seval,↓reduceIte,Za,hN0,hN]
 refine Zi ?_
 refine Zj [1,7,8,9] (Zb Zc [] ?_)
 simp only [push_cast,seval,↓reduceIte,Za,hN0,hN]
 refine Zm [1,7,8,9] [] ?_
 simp only [push_cast,seval,↓reduceIte]
 obtain ⟨z7,hz7,h⟩:=bC h
 refine Zlc (J:=(Ga (fun z7=>JR n (⟨18,[],[(4,.val (.bool false))]⟩:Env) (Zw O n []) n) (fun z7=>JX 0 n (⟨18,[],[]⟩:Env) (Zw O n []) n))) (z:=z7) ?_ fun hw => ?_
 ·refine X7 hz7 (fun s0_=>⟨18,[],[(1,.val (.int .i64 a1)),(7,.sl a0.length (fl Zg a0)),(8,.val (.int .i64 (a0.length:Int))),(9,.val (.int .i64 s0_))]⟩) (fun s0_=>(Zw O n [])) (Ga (fun z7=>JR n (⟨18,[],[(4,.val (.bool false))]⟩:Env) (Zw O n []) n) (fun z7=>JX 0 n (⟨18,[],[]⟩:Env) (Zw O n []) n)) ?_
  intro s0_ x0_ hs0_
  unfold Jn at hs0_
  try dsimp only
  refine Zj [1,7,8,9,10] (Zb Zc [] ?_)
  simp only [push_cast,seval,↓reduceIte,Za,hN0,hN]
  refine Zi ?_
  refine Zl (t:=(decide (s0_ < (a0.length:Int)))) rfl (fun c6 => ?_) (fun c6 => ?_)
  ·replace hs0_:=Z0 c6 hs0_
   refine Zp ?_
   try simp only [Zh,Zf]
   refine Zm [1,7,8,9] [] ?_
   simp only [push_cast,seval,↓reduceIte]
   refine Zi ?_
   refine Ya ?_
   refine Zi ?_
   obtain ⟨x2,hx2,ax2,bx2,cx2,hs0_⟩:=bE (f:=Zg) J3 (fun _=>rfl) (by decide) hs0_
   refine Zb Zc [] ?_
   simp only [push_cast,Nat.reduceAdd,Nat.reduceSub,Nat.reduceMul,Nat.reduceLeDiff,Nat.reduceLT,Nat.reduceEqDiff,↓reduceIte,reduceCtorEq,Int.reduceBEq,Int.reduceBNe,Nat.reduceBEq,Int.reduceLE,Int.reduceLT,Int.reduceEq,Int.reduceNe,Int.reduceNeg,Nat.reduceDiv,Nat.reduceMod,Nat.reducePow,Za,ax2,bx2,cx2,hN0,hN]
   refine Zm [1,6,7,8,9] [true] ?_
   simp only [push_cast,seval,↓reduceIte]
   refine Zi ?_
   obtain ⟨y4,hy4,hs0_⟩:=bC hs0_
   refine Zb Zc [] ?_
   simp only [push_cast,seval,↓reduceIte,Za,hN0,hN]
   refine (Vl hy4).then ?_
   simp only [push_cast,seval,↓reduceIte,Za,hN0,hN]
   refine Zm [1,7,8,9,16] [false] ?_
   simp only [push_cast,seval,↓reduceIte]
   refine Zl (t:=(!y4)) rfl (fun c5 => ?_) (fun c5 => ?_)
   ·replace hs0_:=Z0 c5 hs0_
    refine Zj [4] (Zb Zc [] ?_)
    simp only [push_cast,seval,↓reduceIte,Za,hN0,hN]
    refine Zs ?_
    try simp only [Zh,Zf]
    have hs0_:=Option.some.inj hs0_;subst hs0_
    refine And.intro (fun h=>by cases h) (And.intro rfl (Fit2.of (Zk hU rfl rfl ?_) (by omega)))
    simp only [push_cast,seval,↓reduceIte,Za,hN0,hN]
   replace hs0_:=Zz c5 hs0_
   refine Zp ?_
   try simp only [Zh,Zf]
   refine Zm [1,7,8,9] [false] ?_
   simp only [push_cast,seval,↓reduceIte]
   refine Zb Zc [] ?_
   simp only [push_cast,seval,↓reduceIte,Za,hN0,hN]
   have hs0_:=Option.some.inj hs0_;subst hs0_
   refine And.intro rfl (Fit2.of (Zk hU rfl rfl ?_) (by omega))
   simp only [push_cast,seval,↓reduceIte,Za,hN0,hN]
  replace hs0_:=Zz c6 hs0_
  refine X0 ?_
  try simp only [Zh,Zf,↓reduceIte,Nat.reduceEqDiff]
  have hs0_:=Option.some.inj hs0_;subst hs0_
  refine And.intro (fun h=>by cases h) (And.intro rfl (Fit2.of (Zk hU rfl rfl ?_) (by omega)))
  simp only [push_cast,seval,↓reduceIte,Za,hN0,hN]
 rcases z7 with z7 | z7
 ·dsimp only [Ga] at hw h
  refine Zdr hw ?_
  try simp only [Zh,Zf,↓reduceIte,Nat.reduceEqDiff]
  have h:=Option.some.inj h;subst h
  refine Zq (.inr rfl) hU [.val (.bool false)] (by omega) ?_
  simp only [push_cast,seval,↓reduceIte,Za,Try.results83,hN0,hN]
 dsimp only [Ga] at hw h
 refine Xb hw ?_
 try simp only [Zh,Zf,↓reduceIte,Nat.reduceEqDiff]
 refine Zm [] [] ?_
 simp only [push_cast,seval,↓reduceIte]
 refine Zj [4] (Zb Zc [] ?_)
 simp only [push_cast,seval,↓reduceIte,Za,hN0,hN]
 refine Zs ?_
 try simp only [Zh,Zf]
 have h:=Option.some.inj h;subst h
 refine Zq (.inr rfl) hU [.val (.bool true)] (by omega) ?_
 simp only [push_cast,seval,↓reduceIte,Za,Try.results83,hN0,hN]
theorem Znx {Yo:(Zd→Option Bool)} {Ym:(Zd→Int→Option Bool)} {Yb:((List Zd)→Int→Option Bool)} {Yd:((List Zd)→Int→Option Bool)} (Vk:∀ {a0:Zd} {r:Bool} {O:Objs} {n:Nat},Yo a0=some r→GTo Try.prog 22 [.agg (Ze a0)] O n (.val (.bool r)) O n) (Vl:∀ {a0:Zd} {a1:Int} {r:Bool} {O:Objs} {n:Nat},Ym a0 a1=some r→GTo Try.prog 46 [.agg (Ze a0),.val (.int .i64 a1)] O n (.val (.bool r)) O n) (Qq:∀ {a0:(List Zd)} {a1:Int} {r:Bool} {O:Objs} {n:Nat},Yb a0 a1=some r→GTo Try.prog 83 [.sl a0.length (fl Zg a0),.val (.int .i64 a1)] O n (.val (.bool r)) O n) (Vc:∀ {a0:(List Zd)} {a1:Int} {r:Bool} {O:Objs} {n:Nat},Yd a0 a1=some r→GTo Try.prog 86 [.sl a0.length (fl Zg a0),.val (.int .i64 a1)] O n (.val (.bool r)) O n) {a0:(List Zd)} {a1:Int} {r:Bool} {O:Objs} {n:Nat} (h:Vd Yo Ym Yb Yd a0 a1=some r):GTo Try.prog 86 [.sl a0.length (fl Zg a0),.val (.int .i64 a1)] O n (.val (.bool r)) O n:=by
 unfold Vd at h
 refine Yi Zc Try.call86 Try.func86 rfl (Nat.le_of_ble_eq_true rfl) (Nat.le_refl _) fun hU => ?_
 have hN0:O n=none:=hU.fresh _ (Nat.le_refl _)
 have hN:∀ k,O (n+k)=none:=fun k=>hU.fresh _ (Nat.le_add_right _ _)
 show W _ _ _ _ ⟨31,[],[(0,.sl a0.length (fl Zg a0)),(1,.val (.int .i64 a1))]⟩ (Zw O n []) _
 refine Zj [0,1] (Zb Zc [] ?_)
 simp only [push_cast,seval,↓reduceIte,Za,hN0,hN]
 refine Zi ?_
 refine Zj [1,7,8,9] (Zb Zc [] ?_)
 simp only [push_cast,seval,↓reduceIte,Za,hN0,hN]
 refine Zm [1,7,8,9] [] ?_
 simp only [push_cast,seval,↓reduceIte]
 obtain ⟨z17,hz17,h⟩:=bC h
 refine Zlc (J:=(Ga (fun z17=>JR n (⟨31,[],[(4,.val (.bool false))]⟩:Env) (Zw O n []) n) (fun z17=>JX 0 n (⟨31,[],[]⟩:Env) (Zw O n []) n))) (z:=z17) ?_ fun hw => ?_
 ·refine X7 hz17 (fun s0_=>⟨31,[],[(1,.val (.int .i64 a1)),(7,.sl a0.length (fl Zg a0)),(8,.val (.int .i64 (a0.length:Int))),(9,.val (.int .i64 s0_))]⟩) (fun s0_=>(Zw O n [])) (Ga (fun z17=>JR n (⟨31,[],[(4,.val (.bool false))]⟩:Env) (Zw O n []) n) (fun z17=>JX 0 n (⟨31,[],[]⟩:Env) (Zw O n []) n)) ?_
  intro s0_ x0_ hs0_
  unfold Jm at hs0_
  try dsimp only
  refine Zj [1,7,8,9,10] (Zb Zc [] ?_)
  simp only [push_cast,seval,↓reduceIte,Za,hN0,hN]
  refine Zi ?_
  refine Zl (t:=(decide (s0_ < (a0.length:Int)))) rfl (fun c16 => ?_) (fun c16 => ?_)
  ·replace hs0_:=Z0 c16 hs0_
   refine Zp ?_
   try simp only [Zh,Zf]
   refine Zm [1,7,8,9] [] ?_
   simp only [push_cast,seval,↓reduceIte]
   refine Zi ?_
   refine Ya ?_
   refine Zi ?_
   obtain ⟨x2,hx2,ax2,bx2,cx2,hs0_⟩:=bE (f:=Zg) J3 (fun _=>rfl) (by decide) hs0_
   refine Zb Zc [] ?_
   simp only [push_cast,Nat.reduceAdd,Nat.reduceSub,Nat.reduceMul,Nat.reduceLeDiff,Nat.reduceLT,Nat.reduceEqDiff,↓reduceIte,reduceCtorEq,Int.reduceBEq,Int.reduceBNe,Nat.reduceBEq,Int.reduceLE,Int.reduceLT,Int.reduceEq,Int.reduceNe,Int.reduceNeg,Nat.reduceDiv,Nat.reduceMod,Nat.reducePow,Za,ax2,bx2,cx2,hN0,hN]
   refine Zm [1,6,7,8,9] [true] ?_
   simp only [push_cast,seval,↓reduceIte]
   obtain ⟨z6,hz6,hs0_⟩:=bC hs0_
   refine Yk (E':=⟨31,[],[(1,.val (.int .i64 a1)),(7,.sl a0.length (fl Zg a0)),(8,.val (.int .i64 (a0.length:Int))),(9,.val (.int .i64 s0_)),(29,.val (.bool z6))]⟩) (O':=(Zw O n [none])) (n0:=(n+1)) ?_ ?_
   ·rcases Bool.eq_false_or_eq_true (x2.Kind != 10) with c13 | c13
    ·replace hz6:=Z0 c13 hz6
     refine Zb Zc (Z3i []) ?_
     simp only [push_cast,seval,↓reduceIte,Za,c13,hN0,hN]
     have hz6:=Option.some.inj hz6;subst hz6
     refine And.intro rfl (Fit2.of (Zk hU rfl rfl ?_) (by omega))
     simp only [push_cast,seval,↓reduceIte,Za,c13,hN0,hN]
    replace hz6:=Zz c13 hz6
    obtain ⟨y10,hy10,hz6⟩:=bC hz6
    rcases Bool.eq_false_or_eq_true y10 with c14 | c14
    ·replace hz6:=Z0 c14 hz6
     try rw [c14] at c13
     obtain ⟨x11,hx11,ax11,bx11,cx11,hz6⟩:=bE (f:=(eI .u64)) K4 (fun _=>rfl) (by decide) hz6
     obtain ⟨y12,hy12,hz6⟩:=bC hz6
     refine Zb Zc (Z5o []) ?_
     simp only [push_cast,Nat.reduceAdd,Nat.reduceSub,Nat.reduceMul,Nat.reduceLeDiff,Nat.reduceLT,Nat.reduceEqDiff,↓reduceIte,reduceCtorEq,Int.reduceBEq,Int.reduceBNe,Nat.reduceBEq,Int.reduceLE,Int.reduceLT,Int.reduceEq,Int.reduceNe,Int.reduceNeg,Nat.reduceDiv,Nat.reduceMod,Nat.reducePow,Za,c13,c14,ax11,bx11,cx11,hN0,hN]
     refine (Vk hy10).then ?_
     simp only [push_cast,Nat.reduceAdd,Nat.reduceSub,Nat.reduceMul,Nat.reduceLeDiff,Nat.reduceLT,Nat.reduceEqDiff,↓reduceIte,reduceCtorEq,Int.reduceBEq,Int.reduceBNe,Nat.reduceBEq,Int.reduceLE,Int.reduceLT,Int.reduceEq,Int.reduceNe,Int.reduceNeg,Nat.reduceDiv,Nat.reduceMod,Nat.reducePow,Za,c13,c14,ax11,bx11,cx11,hN0,hN]
     refine (Znw hy12).then ?_
     simp only [push_cast,Nat.reduceAdd,Nat.reduceSub,Nat.reduceMul,Nat.reduceLeDiff,Nat.reduceLT,Nat.reduceEqDiff,↓reduceIte,reduceCtorEq,Int.reduceBEq,Int.reduceBNe,Nat.reduceBEq,Int.reduceLE,Int.reduceLT,Int.reduceEq,Int.reduceNe,Int.reduceNeg,Nat.reduceDiv,Nat.reduceMod,Nat.reducePow,Za,c13,c14,ax11,bx11,cx11,hN0,hN]
     have hz6:=Option.some.inj hz6;subst hz6
     refine And.intro rfl (Fit2.of (Zk hU rfl rfl ?_) (by omega))
     simp only [push_cast,Nat.reduceAdd,Nat.reduceSub,Nat.reduceMul,Nat.reduceLeDiff,Nat.reduceLT,Nat.reduceEqDiff,↓reduceIte,reduceCtorEq,Int.reduceBEq,Int.reduceBNe,Nat.reduceBEq,Int.reduceLE,Int.reduceLT,Int.reduceEq,Int.reduceNe,Int.reduceNeg,Nat.reduceDiv,Nat.reduceMod,Nat.reducePow,Za,c13,c14,ax11,bx11,cx11,hN0,hN]
    replace hz6:=Zz c14 hz6
    try rw [c14] at c13
    refine Zb Zc (Zzp (Zzo [])) ?_
    simp only [push_cast,seval,↓reduceIte,Za,c13,c14,hN0,hN]
    refine (Vk hy10).then ?_
    simp only [push_cast,seval,↓reduceIte,Za,c13,c14,hN0,hN]
    have hz6:=Option.some.inj hz6;subst hz6
    refine And.intro rfl (Fit2.of (Zk hU rfl rfl ?_) (by omega))
    simp only [push_cast,seval,↓reduceIte,Za,c13,c14,hN0,hN]
   refine Zl (t:=z6) rfl (fun c15 => ?_) (fun c15 => ?_)
   ·replace hs0_:=Z0 c15 hs0_
    refine Zj [4] (Zb Zc [] ?_)
    simp only [push_cast,seval,↓reduceIte,Za,hN0,hN]
    refine Zs ?_
    try simp only [Zh,Zf]
    have hs0_:=Option.some.inj hs0_;subst hs0_
    refine And.intro (fun h=>by cases h) (And.intro rfl (Fit2.of (Zk hU rfl rfl ?_) (by omega)))
    simp only [push_cast,seval,↓reduceIte,Za,hN0,hN]
   replace hs0_:=Zz c15 hs0_
   refine Zp ?_
   try simp only [Zh,Zf]
   refine Zm [1,7,8,9] [false] ?_
   simp only [push_cast,seval,↓reduceIte]
   refine Zb Zc [] ?_
   simp only [push_cast,seval,↓reduceIte,Za,hN0,hN]
   have hs0_:=Option.some.inj hs0_;subst hs0_
   refine And.intro rfl (Fit2.of (Zk hU rfl rfl ?_) (by omega))
   simp only [push_cast,seval,↓reduceIte,Za,hN0,hN]
  replace hs0_:=Zz c16 hs0_
  refine X0 ?_
  try simp only [Zh,Zf,↓reduceIte,Nat.reduceEqDiff]
  have hs0_:=Option.some.inj hs0_;subst hs0_
  refine And.intro (fun h=>by cases h) (And.intro rfl (Fit2.of (Zk hU rfl rfl ?_) (by omega)))
  simp only [push_cast,seval,↓reduceIte,Za,hN0,hN]
 rcases z17 with z17 | z17
 ·dsimp only [Ga] at hw h
  refine Zdr hw ?_
  try simp only [Zh,Zf,↓reduceIte,Nat.reduceEqDiff]
  have h:=Option.some.inj h;subst h
  refine Zq (.inr rfl) hU [.val (.bool false)] (by omega) ?_
  simp only [push_cast,seval,↓reduceIte,Za,Try.results86,hN0,hN]
 dsimp only [Ga] at hw h
 refine Xb hw ?_
 try simp only [Zh,Zf,↓reduceIte,Nat.reduceEqDiff]
 refine Zm [] [] ?_
 simp only [push_cast,seval,↓reduceIte]
 refine Zj [4] (Zb Zc [] ?_)
 simp only [push_cast,seval,↓reduceIte,Za,hN0,hN]
 refine Zs ?_
 try simp only [Zh,Zf]
 have h:=Option.some.inj h;subst h
 refine Zq (.inr rfl) hU [.val (.bool true)] (by omega) ?_
 simp only [push_cast,seval,↓reduceIte,Za,Try.results86,hN0,hN]
theorem Zon:∀ k,(∀ {a0:Zd} {r:Bool} {O:Objs} {n:Nat},(Zr k).1 a0=some r→GTo Try.prog 22 [.agg (Ze a0)] O n (.val (.bool r)) O n)∧(∀ {a0:Zd} {a1:Int} {r:Bool} {O:Objs} {n:Nat},(Zr k).2.1 a0 a1=some r→GTo Try.prog 46 [.agg (Ze a0),.val (.int .i64 a1)] O n (.val (.bool r)) O n)∧(∀ {a0:(List Zd)} {a1:Int} {r:Bool} {O:Objs} {n:Nat},(Zr k).2.2.1 a0 a1=some r→GTo Try.prog 83 [.sl a0.length (fl Zg a0),.val (.int .i64 a1)] O n (.val (.bool r)) O n)∧(∀ {a0:(List Zd)} {a1:Int} {r:Bool} {O:Objs} {n:Nat},(Zr k).2.2.2 a0 a1=some r→GTo Try.prog 86 [.sl a0.length (fl Zg a0),.val (.int .i64 a1)] O n (.val (.bool r)) O n):=fun k=>by
 induction k with
 | zero=>exact ⟨@fun a0 r O n h=>(nomatch (show (none:Option _)=some _ from h)),@fun a0 a1 r O n h=>(nomatch (show (none:Option _)=some _ from h)),@fun a0 a1 r O n h=>(nomatch (show (none:Option _)=some _ from h)),@fun a0 a1 r O n h=>(nomatch (show (none:Option _)=some _ from h))⟩
 | succ k ih=>exact ⟨@fun a0 r O n h=>Zqk (ih.1) (ih.2.1) (ih.2.2.1) (ih.2.2.2)  h,@fun a0 a1 r O n h=>Zql (ih.1) (ih.2.1) (ih.2.2.1) (ih.2.2.2)  h,@fun a0 a1 r O n h=>Zny (ih.1) (ih.2.1) (ih.2.2.1) (ih.2.2.2)  h,@fun a0 a1 r O n h=>Znx (ih.1) (ih.2.1) (ih.2.2.1) (ih.2.2.2)  h⟩
theorem Zk8 {a0:Zd} {r:Bool} {O:Objs} {n:Nat} (h:Zno a0=some r):GTo Try.prog 22 [.agg (Ze a0)] O n (.val (.bool r)) O n:=by
 obtain ⟨k,hk⟩:=Zjy h
 exact (Zon k).1  hk
theorem Znv {a0:(List Int)} {r:(List Int)} {O:Objs} {n:Nat} (h:K1 a0=some r):GTo Try.prog 53 [.sl a0.length (fl (eI .u64) a0)] O n (.sl r.length (fl (eI .u64) r)) O n:=by
 unfold K1 at h
 refine Yi Zc Try.call53 Try.func53 rfl (Nat.le_of_ble_eq_true rfl) (Nat.le_refl _) fun hU => ?_
 have hN0:O n=none:=hU.fresh _ (Nat.le_refl _)
 have hN:∀ k,O (n+k)=none:=fun k=>hU.fresh _ (Nat.le_add_right _ _)
 show W _ _ _ _ ⟨22,[],[(0,.sl a0.length (fl (eI .u64) a0))]⟩ (Zw O n []) _
 refine Zj [0] (Zb Zc [] ?_)
 simp only [push_cast,seval,↓reduceIte,Za,hN0,hN]
 refine Zj [0,3] (Zb Zc [] ?_)
 simp only [push_cast,seval,↓reduceIte,Za,hN0,hN]
 refine Zi ?_
 refine Zm [0,3] [] ?_
 simp only [push_cast,seval,↓reduceIte]
 obtain ⟨z7,hz7,h⟩:=bC h
 refine Xb (E':=⟨22,[],[(0,.sl a0.length (fl (eI .u64) a0)),(3,.val (.int .i64 z7))]⟩) (O':=(Zw O n [])) (n0:=n) ?_ ?_
 ·refine X7 hz7 (fun s0_=>⟨22,[],[(0,.sl a0.length (fl (eI .u64) a0)),(3,.val (.int .i64 s0_))]⟩) (fun s0_=>(Zw O n [])) (fun z7=>JX 0 n (⟨22,[],[(0,.sl a0.length (fl (eI .u64) a0)),(3,.val (.int .i64 z7))]⟩:Env) (Zw O n []) n) ?_
  intro s0_ x0_ hs0_
  unfold Jc at hs0_
  try dsimp only
  refine Zi ?_
  obtain ⟨z2,hz2,hs0_⟩:=bC hs0_
  refine Yk (E':=⟨22,[],[(0,.sl a0.length (fl (eI .u64) a0)),(3,.val (.int .i64 s0_)),(15,.val (.bool z2))]⟩) (O':=(Zw O n [])) (n0:=n) ?_ ?_
  ·rcases Bool.eq_false_or_eq_true (decide (0 < s0_)) with c5 | c5
   ·replace hz2:=Z0 c5 hz2
    obtain ⟨x4,hx4,ax4,bx4,cx4,hz2⟩:=bE (f:=(eI .u64)) K4 (fun _=>rfl) (by decide) hz2
    refine Zb Zc (Z4m []) ?_
    simp only [push_cast,Nat.reduceAdd,Nat.reduceSub,Nat.reduceMul,Nat.reduceLeDiff,Nat.reduceLT,Nat.reduceEqDiff,↓reduceIte,reduceCtorEq,Int.reduceBEq,Int.reduceBNe,Nat.reduceBEq,Int.reduceLE,Int.reduceLT,Int.reduceEq,Int.reduceNe,Int.reduceNeg,Nat.reduceDiv,Nat.reduceMod,Nat.reducePow,Za,c5,ax4,bx4,cx4,hN0,hN]
    have hz2:=Option.some.inj hz2;subst hz2
    refine And.intro rfl (Fit2.of (Zk hU rfl rfl ?_) (by omega))
    simp only [push_cast,Nat.reduceAdd,Nat.reduceSub,Nat.reduceMul,Nat.reduceLeDiff,Nat.reduceLT,Nat.reduceEqDiff,↓reduceIte,reduceCtorEq,Int.reduceBEq,Int.reduceBNe,Nat.reduceBEq,Int.reduceLE,Int.reduceLT,Int.reduceEq,Int.reduceNe,Int.reduceNeg,Nat.reduceDiv,Nat.reduceMod,Nat.reducePow,Za,c5,ax4,bx4,cx4,hN0,hN]
   replace hz2:=Zz c5 hz2
   refine Zb Zc (Z2l []) ?_
   simp only [push_cast,seval,↓reduceIte,Za,c5,hN0,hN]
   have hz2:=Option.some.inj hz2;subst hz2
   refine And.intro rfl (Fit2.of (Zk hU rfl rfl ?_) (by omega))
   simp only [push_cast,seval,↓reduceIte,Za,c5,hN0,hN]
  refine Zl (t:=z2) rfl (fun c6 => ?_) (fun c6 => ?_)
  ·replace hs0_:=Z0 c6 hs0_
   refine Zp ?_
   try simp only [Zh,Zf]
   refine Zm [0,3] [] ?_
   simp only [push_cast,seval,↓reduceIte]
   refine Ya ?_
   refine Zb Zc [] ?_
   simp only [push_cast,seval,↓reduceIte,Za,hN0,hN]
   have hs0_:=Option.some.inj hs0_;subst hs0_
   refine And.intro rfl (Fit2.of (Zk hU rfl rfl ?_) (by omega))
   simp only [push_cast,seval,↓reduceIte,Za,hN0,hN]
  replace hs0_:=Zz c6 hs0_
  refine X0 ?_
  try simp only [Zh,Zf,↓reduceIte,Nat.reduceEqDiff]
  have hs0_:=Option.some.inj hs0_;subst hs0_
  refine And.intro (fun h=>by cases h) (And.intro rfl (Fit2.of (Zk hU rfl rfl ?_) (by omega)))
  simp only [push_cast,seval,↓reduceIte,Za,hN0,hN]
 try simp only [Zh,Zf,↓reduceIte,Nat.reduceEqDiff]
 refine Zm [0,3] [] ?_
 simp only [push_cast,seval,↓reduceIte]
 obtain ⟨l9,al9,bl9,cl9,gl9,h⟩:=bS3 (lo:=none) (hi:=(.i64,z7)) (f:=(eI .u64)) rfl rfl Zc9 K4 (fun _=>rfl) h
 refine Zj [2] (Zb Zc [] ?_)
 simp only [push_cast,seval,↓reduceIte,Za,al9,bl9,cl9,gl9,hN0,hN]
 refine Zs ?_
 try simp only [Zh,Zf]
 have h:=Option.some.inj h;subst h
 refine Zq (.inr rfl) hU [.sl l9.length (fl (eI .u64) l9)] (by omega) ?_
 simp only [push_cast,seval,↓reduceIte,Za,Try.results53,hN0,hN]
theorem Zoq {a0:(List Zd)} {r:(List Zd)} {O:Objs} {n:Nat} (h:Vj a0=some r):GTo Try.prog 54 [.sl a0.length (fl Zg a0)] O n (.sl r.length (fl Zg r)) O n:=by
 unfold Vj at h
 refine Yi Zc Try.call54 Try.func54 rfl (Nat.le_of_ble_eq_true rfl) (Nat.le_refl _) fun hU => ?_
 have hN0:O n=none:=hU.fresh _ (Nat.le_refl _)
 have hN:∀ k,O (n+k)=none:=fun k=>hU.fresh _ (Nat.le_add_right _ _)
 show W _ _ _ _ ⟨23,[],[(0,.sl a0.length (fl Zg a0))]⟩ (Zw O n []) _
 refine Zj [0] (Zb Zc [] ?_)
 simp only [push_cast,seval,↓reduceIte,Za,hN0,hN]
 refine Zj [0,3] (Zb Zc [] ?_)
 simp only [push_cast,seval,↓reduceIte,Za,hN0,hN]
 refine Zi ?_
 refine Zm [0,3] [] ?_
 simp only [push_cast,seval,↓reduceIte]
 obtain ⟨z10,hz10,h⟩:=bC h
 refine Xb (E':=⟨23,[],[(0,.sl a0.length (fl Zg a0)),(3,.val (.int .i64 z10))]⟩) (O':=(Zw O n [])) (n0:=n) ?_ ?_
 ·refine X7 hz10 (fun s0_=>⟨23,[],[(0,.sl a0.length (fl Zg a0)),(3,.val (.int .i64 s0_))]⟩) (fun s0_=>(Zw O n [])) (fun z10=>JX 0 n (⟨23,[],[(0,.sl a0.length (fl Zg a0)),(3,.val (.int .i64 z10))]⟩:Env) (Zw O n []) n) ?_
  intro s0_ x0_ hs0_
  unfold Ju at hs0_
  try dsimp only
  refine Zi ?_
  obtain ⟨z3,hz3,hs0_⟩:=bC hs0_
  refine Yk (E':=⟨23,[],[(0,.sl a0.length (fl Zg a0)),(3,.val (.int .i64 s0_)),(16,.val (.bool z3))]⟩) (O':=(Zw O n [])) (n0:=n) ?_ ?_
  ·rcases Bool.eq_false_or_eq_true (decide (0 < s0_)) with c8 | c8
   ·replace hz3:=Z0 c8 hz3
    obtain ⟨x6,hx6,ax6,bx6,cx6,hz3⟩:=bE (f:=Zg) J3 (fun _=>rfl) (by decide) hz3
    have g7:=Zxc (f:=Zg) (sz:=3) Zso (fun _=>rfl) (by decide) (by decide) hx6
    refine Zb Zc (Zzq []) ?_
    simp only [push_cast,Nat.reduceAdd,Nat.reduceSub,Nat.reduceMul,Nat.reduceLeDiff,Nat.reduceLT,Nat.reduceEqDiff,↓reduceIte,reduceCtorEq,Int.reduceBEq,Int.reduceBNe,Nat.reduceBEq,Int.reduceLE,Int.reduceLT,Int.reduceEq,Int.reduceNe,Int.reduceNeg,Nat.reduceDiv,Nat.reduceMod,Nat.reducePow,Za,c8,ax6,bx6,cx6,g7,hN0,hN]
    have hz3:=Option.some.inj hz3;subst hz3
    refine And.intro rfl (Fit2.of (Zk hU rfl rfl ?_) (by omega))
    simp only [push_cast,Nat.reduceAdd,Nat.reduceSub,Nat.reduceMul,Nat.reduceLeDiff,Nat.reduceLT,Nat.reduceEqDiff,↓reduceIte,reduceCtorEq,Int.reduceBEq,Int.reduceBNe,Nat.reduceBEq,Int.reduceLE,Int.reduceLT,Int.reduceEq,Int.reduceNe,Int.reduceNeg,Nat.reduceDiv,Nat.reduceMod,Nat.reducePow,Za,c8,ax6,bx6,cx6,g7,hN0,hN]
   replace hz3:=Zz c8 hz3
   refine Zb Zc (Zzo []) ?_
   simp only [push_cast,seval,↓reduceIte,Za,c8,hN0,hN]
   have hz3:=Option.some.inj hz3;subst hz3
   refine And.intro rfl (Fit2.of (Zk hU rfl rfl ?_) (by omega))
   simp only [push_cast,seval,↓reduceIte,Za,c8,hN0,hN]
  refine Zl (t:=z3) rfl (fun c9 => ?_) (fun c9 => ?_)
  ·replace hs0_:=Z0 c9 hs0_
   refine Zp ?_
   try simp only [Zh,Zf]
   refine Zm [0,3] [] ?_
   simp only [push_cast,seval,↓reduceIte]
   refine Ya ?_
   refine Zb Zc [] ?_
   simp only [push_cast,seval,↓reduceIte,Za,hN0,hN]
   have hs0_:=Option.some.inj hs0_;subst hs0_
   refine And.intro rfl (Fit2.of (Zk hU rfl rfl ?_) (by omega))
   simp only [push_cast,seval,↓reduceIte,Za,hN0,hN]
  replace hs0_:=Zz c9 hs0_
  refine X0 ?_
  try simp only [Zh,Zf,↓reduceIte,Nat.reduceEqDiff]
  have hs0_:=Option.some.inj hs0_;subst hs0_
  refine And.intro (fun h=>by cases h) (And.intro rfl (Fit2.of (Zk hU rfl rfl ?_) (by omega)))
  simp only [push_cast,seval,↓reduceIte,Za,hN0,hN]
 try simp only [Zh,Zf,↓reduceIte,Nat.reduceEqDiff]
 refine Zm [0,3] [] ?_
 simp only [push_cast,seval,↓reduceIte]
 obtain ⟨l12,al12,bl12,cl12,gl12,h⟩:=bS3 (lo:=none) (hi:=(.i64,z10)) (f:=Zg) rfl rfl Zda J3 (fun _=>rfl) h
 refine Zj [2] (Zb Zc [] ?_)
 simp only [push_cast,seval,↓reduceIte,Za,al12,bl12,cl12,gl12,hN0,hN]
 refine Zs ?_
 try simp only [Zh,Zf]
 have h:=Option.some.inj h;subst h
 refine Zq (.inr rfl) hU [.sl l12.length (fl Zg l12)] (by omega) ?_
 simp only [push_cast,seval,↓reduceIte,Za,Try.results54,hN0,hN]
theorem Zsh {Zak:(Zd→Option Zd)} (Zqj:∀ {a0:Zd} {r:Zd} {O:Objs} {n:Nat},Zak a0=some r→GTo Try.prog 26 [.agg (Ze a0)] O n (.agg (Ze r)) O n) {a0:Zd} {r:Zd} {O:Objs} {n:Nat} (h:Zch Zak a0=some r):GTo Try.prog 26 [.agg (Ze a0)] O n (.agg (Ze r)) O n:=by
 unfold Zch at h
 refine Yi Zc Try.call26 Try.func26 rfl (Nat.le_of_ble_eq_true rfl) (Nat.le_refl _) fun hU => ?_
 have hN0:O n=none:=hU.fresh _ (Nat.le_refl _)
 have hN:∀ k,O (n+k)=none:=fun k=>hU.fresh _ (Nat.le_add_right _ _)
 show W _ _ _ _ ⟨49,[],[(0,.agg (Ze a0))]⟩ (Zw O n []) _
 refine Zj [1,2] (Zb Zc [] ?_)
 simp only [push_cast,seval,↓reduceIte,Za,hN0,hN]
 refine Zi ?_
 refine Zj [1,2,10] (Zb Zc [] ?_)
 simp only [push_cast,seval,↓reduceIte,Za,hN0,hN]
 refine Zl (t:=(a0.Kind == 0)) rfl (fun c15 => ?_) (fun c15 => ?_)
 ·replace h:=Z0 c15 h
  refine Zi ?_
  refine Zb Zc [] ?_
  simp only [push_cast,seval,↓reduceIte,Za,hN0,hN]
  refine Zm [2] [false,true] ?_
  simp only [push_cast,seval,↓reduceIte]
  refine Zs ?_
  try simp only [Zh,Zf]
  have h:=Option.some.inj h;subst h
  refine Zq (.inr rfl) hU [.agg [.val (.int .i64 0),.val (.slice none 0 0),.val (.slice none 0 0)]] (by omega) ?_
  simp only [push_cast,seval,↓reduceIte,Za,Try.results26,hN0,hN]
 replace h:=Zz c15 h
 refine Zp ?_
 try simp only [Zh,Zf]
 refine Zm [1,2] [true,true] ?_
 simp only [push_cast,seval,↓reduceIte]
 refine Zj [1,2,3,4] (Y2 Zc (by kernel_rfl) [] (by kernel_rfl) ?_)
 simp only [push_cast,seval,↓reduceIte,Za,hN0,hN]
 obtain ⟨z1,hz1,h⟩:=bC h
 refine Yk (E':=⟨49,[],[(1,.ref n 0),(2,.ref (n+1) 0),(3,.sl z1.1.length (fl (eI .u64) z1.1)),(4,.sl z1.2.length (fl Zg z1.2))]⟩) (O':=(Zw O n [some ⟨false,25,3,1,(Ze a0)⟩,some ⟨false,25,3,1,[.val (.int .i64 0),.val (.slice none 0 0),.val (.slice none 0 0)]⟩])) (n0:=(n+2)) ?_ ?_
 ·refine Zj [1,2,3,4,18] (Zb Zc [] ?_)
  simp only [push_cast,seval,↓reduceIte,Za,hN0,hN]
  refine Zl (t:=(a0.Kind == 1)) rfl (fun c4 => ?_) (fun c4 => ?_)
  ·replace hz1:=Z0 c4 hz1
   obtain ⟨y2,hy2,hz1⟩:=bC hz1
   obtain ⟨y3,hy3,hz1⟩:=bC hz1
   refine Zb Zc [] ?_
   simp only [push_cast,seval,↓reduceIte,Za,hN0,hN]
   refine (Znv hy2).then ?_
   simp only [push_cast,seval,↓reduceIte,Za,hN0,hN]
   refine (Zoq hy3).then ?_
   simp only [push_cast,seval,↓reduceIte,Za,hN0,hN]
   have hz1:=Option.some.inj hz1;subst hz1
   refine And.intro rfl (Fit2.of (Zk hU rfl rfl ?_) (by omega))
   simp only [push_cast,seval,↓reduceIte,Za,hN0,hN]
  replace hz1:=Zz c4 hz1
  refine Zp ?_
  try simp only [Zh,Zf]
  have hz1:=Option.some.inj hz1;subst hz1
  refine And.intro rfl (Fit2.of (Zk hU rfl rfl ?_) (by omega))
  simp only [push_cast,seval,↓reduceIte,Za,hN0,hN]
 refine Zi ?_
 refine Zb Zc [] ?_
 simp only [push_cast,seval,↓reduceIte,Za,hN0,hN]
 refine Zm [2,4,5] [false,true,true] ?_
 simp only [push_cast,seval,↓reduceIte]
 obtain ⟨z5,hz5,h⟩:=bC h
 refine Yk (E':=⟨49,[],[(2,.ref (n+1) 0),(4,.sl z1.2.length (fl Zg z1.2)),(5,.ref (n+2) 0)]⟩) (O':=(Zw O n [none,some ⟨false,25,3,1,[.val (.int .i64 0),.val (.slice none 0 0),.val (.slice none 0 0)]⟩,some ⟨false,25,3,1,[.val (.int .i64 a0.Kind),.sl z1.1.length (fl (eI .u64) z1.1),.row (n+4) z5.length]⟩,none,some ⟨true,25,3,z5.length,fl Zg z5⟩,none])) (n0:=(n+6)) ?_ ?_
 ·refine Zj [2,4,5,29] (Zb Zc [] ?_)
  simp only [push_cast,seval,↓reduceIte,Za,hN0,hN]
  refine Zl (t:=(decide (0 < (z1.2.length:Int)))) rfl (fun c7 => ?_) (fun c7 => ?_)
  ·replace hz5:=Z0 c7 hz5
   obtain ⟨l6,al6,bl6,cl6,el6,hz5⟩:=bM2 (c:=56) rfl hz5
   have nl6:Int.toNat (z1.2.length:Int)=List.length l6:=by rw [el6,List.length_replicate]
   have fl6:∀ O O' n,Kt O O' n (List.replicate (List.length l6) [.val (.int .i64 0),.val (.slice none 0 0),.val (.slice none 0 0)]).flatten (fl Zg l6)=True:=fun O O' n=>by rw [← nl6,el6];exact eq_true (Zwq (by simp only [push_cast,seval,↓reduceIte,Za]) _)
   clear el6
   refine Zb Zc [] ?_
   simp only [push_cast,seval,↓reduceIte,Za,al6,bl6,cl6,fl6,nl6,hN0,hN]
   have hz5:=Option.some.inj hz5;subst hz5
   refine And.intro rfl ?_
   refine Fit2.trans (E':=(⟨49,[],[(2,.ref (n+1) 0),(4,.sl z1.2.length (fl Zg z1.2)),(5,.ref (n+2) 0)]⟩:Env)) (O':=(Zw O n [none,some ⟨false,25,3,1,[.val (.int .i64 0),.val (.slice none 0 0),.val (.slice none 0 0)]⟩,some ⟨false,25,3,1,[.val (.int .i64 a0.Kind),.sl z1.1.length (fl (eI .u64) z1.1),.row (n+3) l6.length]⟩,some ⟨true,25,3,l6.length,fl Zg l6⟩])) (n':=(n+4)) (Fit2.of (Zk hU rfl rfl ?_) (by omega)) ?_
   ·simp only [push_cast,seval,↓reduceIte,Za,al6,bl6,cl6,fl6,nl6,hN0,hN]
   refine Zfs (k:=4) (k':=6) hU [5,1,2,4] [0,1,2,0,3,0] rfl rfl rfl rfl ⟨rfl,rfl⟩ ?_
   simp only [push_cast,seval,↓reduceIte,Za,hN0,hN]
  replace hz5:=Zz c7 hz5
  refine Zp ?_
  try simp only [Zh,Zf]
  have hz5:=Option.some.inj hz5;subst hz5
  refine And.intro rfl ?_
  refine Fit2.trans (E':=(⟨49,[],[(2,.ref (n+1) 0),(4,.sl z1.2.length (fl Zg z1.2)),(5,.ref (n+2) 0)]⟩:Env)) (O':=(Zw O n [none,some ⟨false,25,3,1,[.val (.int .i64 0),.val (.slice none 0 0),.val (.slice none 0 0)]⟩,some ⟨false,25,3,1,[.val (.int .i64 a0.Kind),.sl z1.1.length (fl (eI .u64) z1.1),.val (.slice none 0 0)]⟩])) (n':=(n+3)) (Fit2.of (Zk hU rfl rfl ?_) (by omega)) ?_
  ·simp only [push_cast,seval,↓reduceIte,Za,hN0,hN]
  refine Fit2.trans (Zgn (p:=(n+2)) (k:=2) (q:=⟨false,25,3,1,[.val (.int .i64 a0.Kind),.sl z1.1.length (fl (eI .u64) z1.1),.val (.slice none 0 0)]⟩) 25 3 (by simp only [Vq,Zal,List.getElem?_cons_zero,List.getElem?_cons_succ,Option.join_some,List.length_nil,Zo]) rfl (by omega)) ?_
  simp only [J6,Qg,Vr,Ku,List.set_cons_zero,List.set_cons_succ,List.cons_append,List.nil_append,List.length_cons,List.length_nil,Nat.zero_add,Nat.reduceAdd,Nat.reduceLT,Nat.add_assoc]
  refine Zfs (k:=4) (k':=6) hU [5,1,2,4] [0,1,2,0,3,0] rfl rfl rfl rfl ⟨rfl,rfl⟩ ?_
  simp only [push_cast,seval,↓reduceIte,Za,hN0,hN]
 refine Zi ?_
 refine Zj [2,5,34,35,36] (Zb Zc [] ?_)
 simp only [push_cast,seval,↓reduceIte,Za,hN0,hN]
 refine Zm [2,5,34,35,36] [false,true,true,false,true,false] ?_
 simp only [push_cast,seval,↓reduceIte]
 obtain ⟨z14,hz14,h⟩:=bC h
 refine Xb (E':=⟨49,[],[(2,.ref (n+1) 0),(5,.ref (n+2) 0)]⟩) (O':=(Zw O n [none,some ⟨false,25,3,1,[.val (.int .i64 0),.val (.slice none 0 0),.val (.slice none 0 0)]⟩,some ⟨false,25,3,1,[.val (.int .i64 a0.Kind),.sl z1.1.length (fl (eI .u64) z1.1),.row (n+4) z14.length]⟩,none,some ⟨true,25,3,z14.length,fl Zg z14⟩,none])) (n0:=(n+6)) ?_ ?_
 ·refine X7 hz14 (fun s0_=>⟨49,[],[(2,.ref (n+1) 0),(5,.ref (n+2) 0),(34,.sl z1.2.length (fl Zg z1.2)),(35,.val (.int .i64 (z1.2.length:Int))),(36,.val (.int .i64 s0_.1))]⟩) (fun s0_=>(Zw O n [none,some ⟨false,25,3,1,[.val (.int .i64 0),.val (.slice none 0 0),.val (.slice none 0 0)]⟩,some ⟨false,25,3,1,[.val (.int .i64 a0.Kind),.sl z1.1.length (fl (eI .u64) z1.1),.row (n+4) s0_.2.length]⟩,none,some ⟨true,25,3,s0_.2.length,fl Zg s0_.2⟩,none])) (fun z14=>JX 0 n (⟨49,[],[(2,.ref (n+1) 0),(5,.ref (n+2) 0)]⟩:Env) (Zw O n [none,some ⟨false,25,3,1,[.val (.int .i64 0),.val (.slice none 0 0),.val (.slice none 0 0)]⟩,some ⟨false,25,3,1,[.val (.int .i64 a0.Kind),.sl z1.1.length (fl (eI .u64) z1.1),.row (n+4) z14.length]⟩,none,some ⟨true,25,3,z14.length,fl Zg z14⟩,none]) (n+6)) ?_
  intro s0_ x0_ hs0_
  unfold Kv at hs0_
  try dsimp only
  refine Zj [2,5,34,35,36,37] (Zb Zc [] ?_)
  simp only [push_cast,seval,↓reduceIte,Za,hN0,hN]
  refine Zi ?_
  refine Zl (t:=(decide (s0_.1 < (z1.2.length:Int)))) rfl (fun c13 => ?_) (fun c13 => ?_)
  ·replace hs0_:=Z0 c13 hs0_
   refine Zp ?_
   try simp only [Zh,Zf]
   refine Zm [2,5,34,35,36] [false,true,true,false,true,false] ?_
   simp only [push_cast,seval,↓reduceIte]
   refine Zi ?_
   refine Ya ?_
   refine Zi ?_
   obtain ⟨x9,hx9,ax9,bx9,cx9,hs0_⟩:=bE (f:=Zg) J3 (fun _=>rfl) (by decide) hs0_
   refine Zb Zc [] ?_
   simp only [push_cast,Nat.reduceAdd,Nat.reduceSub,Nat.reduceMul,Nat.reduceLeDiff,Nat.reduceLT,Nat.reduceEqDiff,↓reduceIte,reduceCtorEq,Int.reduceBEq,Int.reduceBNe,Nat.reduceBEq,Int.reduceLE,Int.reduceLT,Int.reduceEq,Int.reduceNe,Int.reduceNeg,Nat.reduceDiv,Nat.reduceMod,Nat.reducePow,Za,ax9,bx9,cx9,hN0,hN]
   refine Zm [2,5,6,7,34,35,36] [false,true,true,false,true,false,true] ?_
   simp only [push_cast,seval,↓reduceIte]
   obtain ⟨y10,hy10,hs0_⟩:=bC hs0_
   obtain ⟨x11,hx11,ax11,bx11,cx11,hs0_⟩:=bE (f:=Zg) J3 (fun _=>rfl) (by decide) hs0_
   have gu12:Q9 (fl Zg s0_.2) [.val (.int .i64 y10.Kind),.sl y10.Words.length (fl (eI .u64) y10.Words),.sl y10.Kids.length (fl Zg y10.Kids)] (Int.toNat s0_.1 * 3)=some (fl Zg (Yc s0_.2 s0_.1 y10)):=(congrArg (fun c=>Q9 (fl Zg s0_.2) c (Int.toNat s0_.1 * 3)) (show [.val (.int .i64 y10.Kind),.sl y10.Words.length (fl (eI .u64) y10.Words),.sl y10.Kids.length (fl Zg y10.Kids)]=Zg y10 from by simp only [Zg,Yr,eI,eB,eS,eL])).trans (Ur (f:=Zg) (ti:=⟨.bool,3,0,[],false⟩) (x:=y10) (fun _=>rfl) (Kw hx11))
   refine Zti Zc (by kernel_rfl) [false,false,false,false,false,false,true] [] (by kernel_rfl) ?_
   simp only [push_cast,Nat.reduceAdd,Nat.reduceSub,Nat.reduceMul,Nat.reduceLeDiff,Nat.reduceLT,Nat.reduceEqDiff,↓reduceIte,reduceCtorEq,Int.reduceBEq,Int.reduceBNe,Nat.reduceBEq,Int.reduceLE,Int.reduceLT,Int.reduceEq,Int.reduceNe,Int.reduceNeg,Nat.reduceDiv,Nat.reduceMod,Nat.reducePow,Za,ax11,bx11,cx11,gu12,hN0,hN]
   refine PCall.of (Zqj hy10) ?_
   simp only [push_cast,Nat.reduceAdd,Nat.reduceSub,Nat.reduceMul,Nat.reduceLeDiff,Nat.reduceLT,Nat.reduceEqDiff,↓reduceIte,reduceCtorEq,Int.reduceBEq,Int.reduceBNe,Nat.reduceBEq,Int.reduceLE,Int.reduceLT,Int.reduceEq,Int.reduceNe,Int.reduceNeg,Nat.reduceDiv,Nat.reduceMod,Nat.reducePow,Za,ax11,bx11,cx11,gu12,hN0,hN]
   refine Zm [2,5,34,35,36] [false,true,true,false,true,false,false] ?_
   simp only [push_cast,seval,↓reduceIte]
   refine Zb Zc [] ?_
   simp only [push_cast,seval,↓reduceIte,Za,hN0,hN]
   have hs0_:=Option.some.inj hs0_;subst hs0_
   refine And.intro rfl (Fit2.of (Zk hU rfl rfl ?_) (by omega))
   simp only [push_cast,seval,↓reduceIte,Za,hN0,hN]
  replace hs0_:=Zz c13 hs0_
  refine X0 ?_
  try simp only [Zh,Zf,↓reduceIte,Nat.reduceEqDiff]
  have hs0_:=Option.some.inj hs0_;subst hs0_
  refine And.intro (fun h=>by cases h) (And.intro rfl (Fit2.of (Zk hU rfl rfl ?_) (by omega)))
  simp only [push_cast,seval,↓reduceIte,Za,hN0,hN]
 try simp only [Zh,Zf,↓reduceIte,Nat.reduceEqDiff]
 refine Zm [2,5] [false,true,true,false,true,false] ?_
 simp only [push_cast,seval,↓reduceIte]
 refine Zi ?_
 refine Zb Zc [] ?_
 simp only [push_cast,seval,↓reduceIte,Za,hN0,hN]
 refine Zm [2] [false,true,false,false,true,false] ?_
 simp only [push_cast,seval,↓reduceIte]
 refine Zs ?_
 try simp only [Zh,Zf]
 have h:=Option.some.inj h;subst h
 refine Zq (.inr rfl) hU [.agg [.val (.int .i64 a0.Kind),.sl z1.1.length (fl (eI .u64) z1.1),.row (n+4) z14.length]] (by omega) ?_
 simp only [push_cast,seval,↓reduceIte,Za,Try.results26,hN0,hN]
theorem Zpf:∀ k,(∀ {a0:Zd} {r:Zd} {O:Objs} {n:Nat},(Jf k) a0=some r→GTo Try.prog 26 [.agg (Ze a0)] O n (.agg (Ze r)) O n):=fun k=>by
 induction k with
 | zero=>exact @fun a0 r O n h=>(nomatch (show (none:Option _)=some _ from h))
 | succ k ih=>exact @fun a0 r O n h=>Zsh (ih)  h
theorem Zub {a0:Zd} {r:Zd} {O:Objs} {n:Nat} (h:Zo7 a0=some r):GTo Try.prog 26 [.agg (Ze a0)] O n (.agg (Ze r)) O n:=by
 obtain ⟨k,hk⟩:=Zjy h
 exact (Zpf k)  hk
end Go.Proofs.Ytaddaloondpnkaa
