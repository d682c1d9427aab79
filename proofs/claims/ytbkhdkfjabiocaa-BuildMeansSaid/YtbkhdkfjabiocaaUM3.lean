/- Part UM3 of this seat's mirrors: functions of the seat's program, and the plain functions that they are; each theorem bears its own conditions. -/
import Derived.Test.YtbkhdkfjabiocaaUM1
namespace Go.Proofs.Ytbkhdkfjabiocaa
open Go.RowKit
set_option linter.unusedVariables false
set_option linter.unusedSimpArgs false
set_option maxRecDepth 100000
set_option maxHeartbeats 4000000
attribute [local push_cast] Xm Zf Qi Yb Zn Zmh Zmg Znd Znc Zk Zg Zir Zd5 Zd4 onW Y9 Zbs Zbf Zo6 Zlg Zgj Zgn Zgi Zgm Zjv Zjq Zgl Zju Zjt Zjs Zgk Zjo Zeu evS wok Qq Op.operands Call.operands gop onK onP atK List.all_cons List.all_nil Bool.and_true Bool.true_and Bool.and_self Value.oneCell' List.take_zero List.take_succ_cons List.take_nil List.drop_zero List.drop_succ_cons List.drop_nil List.append_nil Nat.add_zero Nat.zero_add Vt Yd ev Q0 Zpl Zma Zl9 Zmf Zmd Zme Zmb Zmc Zl8 Zqk Zro Zut Zgw Zav Zgv Zbm Zf8 Zd7 Zb3 Zb8 Zd0 Zdw Zb6 Zdz Zdy Zdx Zb5 Zdu Zb4 Zb7 Zbe Zdv Zke Zd6 Ut Zfp Uu Zh2 Zgu Ztx bLo bHi bMx Zaw Zh1 Zv9 Zgs Ziq Zc4 Vf Zqo Zwa Zfo Zc2 Zwc Zau Zy5 Ziz Zi3 Ziy Zi2 Zm2 Zmy Zmw Zgb Zi0 Zm1 Zm0 Zmz Zi1 Zmr Zmu Zmq Zmt Zr1 Zry Zrx Zms Zrz Zr0 Zmx Zh3 Zot Zjk Zem Zel pop TK.isAgg Zm5 Zm9 Zm4 Zm8 Zjb Zsd Zr9 Zm7 Zsc Zsb Zsa Zm6 Zr8 G.under G.unders List.getD_cons_zero List.getD_cons_succ List.set_cons_zero List.set_cons_succ List.map_cons List.map_nil List.toList_toArray Array.toList_append Option.toArray_none Option.toArray_some Array.toList_map Option.map_some Option.map_none Option.bind_some Option.bind_none List.getElem?_cons_zero List.getElem?_cons_succ List.getElem?_nil List.nil_append List.cons_append List.replicate_succ List.replicate_zero List.length_cons List.length_nil and_true true_and and_false false_and Bool.true_eq_false Bool.false_eq_true forall_const false_implies implies_true IntKind.bits if_true if_false ite_true ite_false eq_self true_implies false_or or_false or_true true_or not_true_eq_false not_false_eq_true decide_true decide_false decide_eq_true_eq decide_eq_false_iff_not beq_iff_eq bne_iff_ne ne_eq Bool.not_eq_true Bool.not_eq_false beq_eq_false_iff_ne bne_eq_false_iff_eq beq_self_eq_true bne_self_eq_false Option.some.injEq exists_eq_left' exists_eq_left ge_iff_le gt_iff_lt decide_not Bool.not_true Bool.not_false imp_self Zru cond_true cond_false Z5b Z5a Bool.not_not Bool.and_false Bool.false_and Bool.or_true Bool.true_or Bool.or_false Bool.false_or V8 Zbx Zam U3 Uc Kv Option.join_some Nat.add_assoc Int.toNat_natCast eI eB eS eL Zc0 Zd3 Zcc Zmk Zmi Zmj Zzq Z1p Zei Zck Znj Znh Zni Zvf Zk6 Zth Zk4 Zqb Zcb Zpj List.length_append G.agg.injEq G.row.injEq G.ref.injEq G.val.injEq G.sl.injEq G.tup.injEq Value.int.injEq Value.bool.injEq Value.string.injEq List.cons.injEq exists_and_left exists_const List.flatten_cons List.flatten_nil Int.le_refl Nat.le_refl Zff Kk Ze3 Bool.not_eq_true' Bool.not_eq_false' Zoq Zfg Zs9 Ztd Zs8 Ztc Zyo Zyj List.size_toArray Zp1 Zpb G.ren G.rens Zsh Zeo Znq Zl6 Zl7 Zjp Zte Zef G.fn.injEq Zhj Zj9 Zop Zyk Zhi Ztb Zyn Zym Zyl Zta Zr3 Zw7 Option.join_none Z9 V7 undef Ziv Arr.len Arr.put_eq Zeh Zgd Zeg Zcj Zng Zne Znf onB Zzp Zqj Jc Zf5 Zib Zic Zid Zie Zif Zig Zgc Zgg Zge Zek Zcl Zgf Zji Zjh Zjg Zjf Zzr Z1o Zve Zt2 Jy Zu4 Zou Zgh Zej Zwl Zpd Zgq Zin Zbz Zhb Zih Zii Zij Zik Zfs Zft Zfu Zfv Zfw Zfx Zfy Zfz Zf0 Zf1 Zf2 Zf3 Zf4 Zdo prT Zc6 Z56 Zs0 Zz4 Zs1 Z57 Zs2 Z58 Zs3 Z59 Zs4 Z6a Zs5 Z6b Zs6 Z6c Zs7 Zxk Zns Zxl Znt Zxm Znu Zxn Znv Zxo Znw Zxp Znx Zxq Zny Zxr Znz Zxs Zn0 Zxt Zn1 Zxu Zn2 Zdq Zfr Ztt Zhw Zxv Zn3 Uo Zn4 Zxw Zhx Zxx Zn5 Zxy Zn6 Zxz Zn7 Zx0 Zn8 Zap Zn9 Zx1 Zoa Zx2 Zob Zx3 Zoc Zx4 Zod Zx5 Zoe Zx6 Zof Zx7 Zog Zx8 Zoh Zx9 Zoi Zya Zoj Zyb Zok Zyc Zol Zyd Zom Zye Zon Zyf Zoo Zsn Zjx Zso Zjy Zsp Zjz Zsq Zj0 Zsr Zj1 Zss Zj2 Zst Zj3 Zsu Zj4 Zsv Zj5 Zsw Zj6 Zsx Zj7 Zsy Zj8 Zo Zba Zex Zea Zee Ze0 Zcs Zcq Zco V5 Zaj Zai Zab Zag Zak Gj Gi Gh Zah J7 J6 Jz J0 J8 Jp Jo Jn J5 Zi Y1 Vo Vn Vi Vk Vp K6 K4 K3 Vm Zey Zew Zd9 Zed Zez Zcr Zcp Zcn Zev Zca U7 Zb9 U8 Z7 Q8 Q7 Q4 Q5 Q9 Qx Qv Qu Q6 Z4 Qe Qd X9 Qa Qf Xy Xx Xw Qc
theorem Xi {a0:Ze} {r:Int} {O:Objs} {n:Nat} (h:Yt a0=some r):GTo Try.prog 66 [.agg (Zn a0)] O n (.val (.int .i64 r)) O n:=by
 unfold Yt at h
 refine Yj Zc Try.call66 Try.func66 rfl (Nat.le_of_ble_eq_true rfl) (Nat.le_refl _) fun hU => ?_
 have hN0:O n=none:=hU.fresh _ (Nat.le_refl _)
 have hN:∀ k,O (n+k)=none:=fun k=>hU.fresh _ (Nat.le_add_right _ _)
 show W _ _ _ _ ⟨10,[],[(0,.agg (Zn a0))]⟩ (Zy O n []) _
 refine Zp [1] (Zb Zc [] ?_)
 simp only [push_cast,seval,Za,hN0,hN]
 refine Zj ?_
 refine Zp [1,5] (Zb Zc [] ?_)
 simp only [push_cast,seval,Za,hN0,hN]
 refine Zs (t:=(a0.kind == 1)) rfl (fun c1 => ?_) (fun c1 => ?_)
 ·replace h:=Z3 c1 h
  refine Zp [2] (Zb Zc [] ?_)
  simp only [push_cast,seval,Za,hN0,hN]
  refine Zu ?_
  try simp only [Zk,Zg]
  have h:=Option.some.inj h;subst h
  refine Zq (.inr rfl) hU [.val (.int .i64 a0.ptrs)] (by omega) ?_
  simp only [push_cast,seval,Za,Try.results66,hN0,hN]
 replace h:=Z0 c1 h
 refine Zw ?_
 try simp only [Zk,Zg]
 refine Zl [1] [true] ?_
 simp only [push_cast,seval]
 refine Zp [2] (Zb Zc [] ?_)
 simp only [push_cast,seval,Za,hN0,hN]
 refine Zu ?_
 try simp only [Zk,Zg]
 have h:=Option.some.inj h;subst h
 refine Zq (.inr rfl) hU [.val (.int .i64 a0.count)] (by omega) ?_
 simp only [push_cast,seval,Za,Try.results66,hN0,hN]
theorem Zk1 {a0:Ze} {r:Int} {O:Objs} {n:Nat} (h:Za6 a0=some r):GTo Try.prog 55 [.agg (Zn a0)] O n (.val (.int .i64 r)) O n:=by
 unfold Za6 at h
 refine Yj Zc Try.call55 Try.func55 rfl (Nat.le_of_ble_eq_true rfl) (Nat.le_refl _) fun hU => ?_
 have hN0:O n=none:=hU.fresh _ (Nat.le_refl _)
 have hN:∀ k,O (n+k)=none:=fun k=>hU.fresh _ (Nat.le_add_right _ _)
 show W _ _ _ _ ⟨16,[],[(0,.agg (Zn a0))]⟩ (Zy O n []) _
 refine Zp [1] (Zb Zc [] ?_)
 simp only [push_cast,seval,Za,hN0,hN]
 refine Zj ?_
 refine Yn ?_
 refine Zj ?_
 obtain ⟨y2,hy2,h⟩:=bC h
 refine Zb Zc [] ?_
 simp only [push_cast,seval,Za,hN0,hN]
 refine (Xj hy2).then ?_
 simp only [push_cast,seval,Za,hN0,hN]
 refine Zl [1,3] [true] ?_
 simp only [push_cast,seval]
 refine Zs (t:=(y2 == 0)) rfl (fun c12 => ?_) (fun c12 => ?_)
 ·replace h:=Z3 c12 h
  refine Zp [2] (Zb Zc [] ?_)
  simp only [push_cast,seval,Za,hN0,hN]
  refine Zu ?_
  try simp only [Zk,Zg]
  have h:=Option.some.inj h;subst h
  refine Zq (.inr rfl) hU [.val (.int .i64 0)] (by omega) ?_
  simp only [push_cast,seval,Za,Try.results55,hN0,hN]
 replace h:=Z0 c12 h
 obtain ⟨z5,hz5,h⟩:=bC h
 refine Xk (E':=⟨16,[],[(7,.val (.bool z5))]⟩) (O':=(Zy O n [none])) (n0:=(n+1)) ?_ ?_
 ·obtain ⟨y8,hy8,hz5⟩:=bC hz5
  rcases Bool.eq_false_or_eq_true (y8 == 9) with c10 | c10
  ·replace hz5:=Z3 c10 hz5
   obtain ⟨y9,hy9,hz5⟩:=bC hz5
   refine Zb Zc (Z1k []) ?_
   simp only [push_cast,seval,Za,c10,hN0,hN]
   refine (Xj hy8).then ?_
   simp only [push_cast,seval,Za,c10,hN0,hN]
   refine (Xi hy9).then ?_
   simp only [push_cast,seval,Za,c10,hN0,hN]
   have hz5:=Option.some.inj hz5;subst hz5
   refine And.intro rfl (Fit2.of (Zr hU rfl rfl ?_) (by omega))
   simp only [push_cast,seval,Za,c10,hN0,hN]
  replace hz5:=Z0 c10 hz5
  refine Zb Zc (Z95 []) ?_
  simp only [push_cast,seval,Za,c10,hN0,hN]
  refine (Xj hy8).then ?_
  simp only [push_cast,seval,Za,c10,hN0,hN]
  have hz5:=Option.some.inj hz5;subst hz5
  refine And.intro rfl (Fit2.of (Zr hU rfl rfl ?_) (by omega))
  simp only [push_cast,seval,Za,c10,hN0,hN]
 refine Zs (t:=z5) rfl (fun c11 => ?_) (fun c11 => ?_)
 ·replace h:=Z3 c11 h
  refine Zp [2] (Zb Zc [] ?_)
  simp only [push_cast,seval,Za,hN0,hN]
  refine Zu ?_
  try simp only [Zk,Zg]
  have h:=Option.some.inj h;subst h
  refine Zq (.inr rfl) hU [.val (.int .i64 2)] (by omega) ?_
  simp only [push_cast,seval,Za,Try.results55,hN0,hN]
 replace h:=Z0 c11 h
 refine Zw ?_
 try simp only [Zk,Zg]
 refine Zl [] [false] ?_
 simp only [push_cast,seval]
 refine Zp [2] (Zb Zc [] ?_)
 simp only [push_cast,seval,Za,hN0,hN]
 refine Zu ?_
 try simp only [Zk,Zg]
 have h:=Option.some.inj h;subst h
 refine Zq (.inr rfl) hU [.val (.int .i64 1)] (by omega) ?_
 simp only [push_cast,seval,Za,Try.results55,hN0,hN]
theorem U2 {a0:Ze} {r:Int} {O:Objs} {n:Nat} (h:Qn a0=some r):GTo Try.prog 64 [.agg (Zn a0)] O n (.val (.int .i64 r)) O n:=by
 unfold Qn at h
 refine Yj Zc Try.call64 Try.func64 rfl (Nat.le_of_ble_eq_true rfl) (Nat.le_refl _) fun hU => ?_
 have hN0:O n=none:=hU.fresh _ (Nat.le_refl _)
 have hN:∀ k,O (n+k)=none:=fun k=>hU.fresh _ (Nat.le_add_right _ _)
 show W _ _ _ _ ⟨11,[],[(0,.agg (Zn a0))]⟩ (Zy O n []) _
 refine Zp [1] (Zb Zc [] ?_)
 simp only [push_cast,seval,Za,hN0,hN]
 refine Zj ?_
 refine Zp [1,4] (Zb Zc [] ?_)
 simp only [push_cast,seval,Za,hN0,hN]
 refine Yn ?_
 refine Zp [1,4,5] (Zb Zc [] ?_)
 simp only [push_cast,seval,Za,hN0,hN]
 refine Zs (t:=(a0.kind == 1)) rfl (fun c2 => ?_) (fun c2 => ?_)
 ·replace h:=Z3 c2 h
  refine Zp [2] (Zb Zc [] ?_)
  simp only [push_cast,seval,Za,hN0,hN]
  refine Zu ?_
  try simp only [Zk,Zg]
  have h:=Option.some.inj h;subst h
  refine Zq (.inr rfl) hU [.val (.int .i64 a0.words)] (by omega) ?_
  simp only [push_cast,seval,Za,Try.results64,hN0,hN]
 replace h:=Z0 c2 h
 refine Zp [9] (Zb Zc [] ?_)
 simp only [push_cast,seval,Za,hN0,hN]
 refine Zs (t:=(a0.kind == 10)) rfl (fun c1 => ?_) (fun c1 => ?_)
 ·replace h:=Z3 c1 h
  refine Zp [2] (Zb Zc [] ?_)
  simp only [push_cast,seval,Za,hN0,hN]
  refine Zu ?_
  try simp only [Zk,Zg]
  have h:=Option.some.inj h;subst h
  refine Zq (.inr rfl) hU [.val (.int .i64 1)] (by omega) ?_
  simp only [push_cast,seval,Za,Try.results64,hN0,hN]
 replace h:=Z0 c1 h
 refine Zw ?_
 try simp only [Zk,Zg]
 refine Zl [] [false] ?_
 simp only [push_cast,seval]
 refine Zp [2] (Zb Zc [] ?_)
 simp only [push_cast,seval,Za,hN0,hN]
 refine Zu ?_
 try simp only [Zk,Zg]
 have h:=Option.some.inj h;subst h
 refine Zq (.inr rfl) hU [.val (.int .i64 0)] (by omega) ?_
 simp only [push_cast,seval,Za,Try.results64,hN0,hN]
theorem Zo0 {a0:Ze} {r:(Int×Int)} {O:Objs} {n:Nat} (h:Gr a0=some r):GTo Try.prog 74 [.agg (Zn a0)] O n (.tup [.val (.int .i64 r.1),.val (.int .i64 r.2)]) O n:=by
 unfold Gr at h
 refine Yj Zc Try.call74 Try.func74 rfl (Nat.le_of_ble_eq_true rfl) (Nat.le_refl _) fun hU => ?_
 have hN0:O n=none:=hU.fresh _ (Nat.le_refl _)
 have hN:∀ k,O (n+k)=none:=fun k=>hU.fresh _ (Nat.le_add_right _ _)
 show W _ _ _ _ ⟨11,[],[(0,.agg (Zn a0))]⟩ (Zy O n []) _
 refine Zp [1] (Zb Zc [] ?_)
 simp only [push_cast,seval,Za,hN0,hN]
 refine Zj ?_
 refine Zp [1,6] (Zb Zc [] ?_)
 simp only [push_cast,seval,Za,hN0,hN]
 refine Zs (t:=(a0.kind != 9)) rfl (fun c1 => ?_) (fun c1 => ?_)
 ·replace h:=Z3 c1 h
  refine Zp [2,3] (Zb Zc [] ?_)
  simp only [push_cast,seval,Za,hN0,hN]
  refine Zu ?_
  try simp only [Zk,Zg]
  have h:=Option.some.inj h;subst h
  refine Zq (.inr rfl) hU [.val (.int .i64 0),.val (.int .i64 0)] (by omega) ?_
  simp only [push_cast,seval,Za,Try.results74,hN0,hN]
 replace h:=Z0 c1 h
 refine Zw ?_
 try simp only [Zk,Zg]
 refine Zl [1] [true] ?_
 simp only [push_cast,seval]
 refine Zp [2,3] (V6 Zc (by kernel_rfl) [] (by kernel_rfl) ?_)
 simp only [push_cast,seval,Za,hN0,hN]
 refine Zu ?_
 try simp only [Zk,Zg]
 have h:=Option.some.inj h;subst h
 refine Zq (.inr rfl) hU [.val (.int .i64 a0.words),.val (.int .i64 a0.ptrs)] (by omega) ?_
 simp only [push_cast,seval,Za,Try.results74,hN0,hN]
theorem Zk2 {a0:Ze} {r:Int} {O:Objs} {n:Nat} (h:Gf a0=some r):GTo Try.prog 56 [.agg (Zn a0)] O n (.val (.int .i64 r)) O n:=by
 unfold Gf at h
 refine Yj Zc Try.call56 Try.func56 rfl (Nat.le_of_ble_eq_true rfl) (Nat.le_refl _) fun hU => ?_
 have hN0:O n=none:=hU.fresh _ (Nat.le_refl _)
 have hN:∀ k,O (n+k)=none:=fun k=>hU.fresh _ (Nat.le_add_right _ _)
 show W _ _ _ _ ⟨35,[],[(0,.agg (Zn a0))]⟩ (Zy O n []) _
 refine Zp [1] (Zb Zc [] ?_)
 simp only [push_cast,seval,Za,hN0,hN]
 refine Zj ?_
 refine Zj ?_
 obtain ⟨y2,hy2,h⟩:=bC h
 refine Zb Zc [] ?_
 simp only [push_cast,seval,Za,hN0,hN]
 refine (Xj hy2).then ?_
 simp only [push_cast,seval,Za,hN0,hN]
 refine Zl [1,6] [true] ?_
 simp only [push_cast,seval]
 refine Yn ?_
 refine Zp [1,6,7] (Zb Zc [] ?_)
 simp only [push_cast,seval,Za,hN0,hN]
 refine Zs (t:=(y2 == 0)) rfl (fun c15 => ?_) (fun c15 => ?_)
 ·replace h:=Z3 c15 h
  refine Zp [2] (Zb Zc [] ?_)
  simp only [push_cast,seval,Za,hN0,hN]
  refine Zu ?_
  try simp only [Zk,Zg]
  have h:=Option.some.inj h;subst h
  refine Zq (.inr rfl) hU [.val (.int .i64 0)] (by omega) ?_
  simp only [push_cast,seval,Za,Try.results56,hN0,hN]
 replace h:=Z0 c15 h
 refine Zp [1,6,9] (Zb Zc [] ?_)
 simp only [push_cast,seval,Za,hN0,hN]
 refine Zs (t:=(y2 == 1)) rfl (fun c14 => ?_) (fun c14 => ?_)
 ·replace h:=Z3 c14 h
  refine Zj ?_
  obtain ⟨y5,hy5,h⟩:=bC h
  obtain ⟨y6,hy6,h⟩:=bC h
  refine V6 Zc (by kernel_rfl) [] (by kernel_rfl) ?_
  simp only [push_cast,seval,Za,hN0,hN]
  refine PCall.of (U2 hy5) ?_
  simp only [push_cast,seval,Za,hN0,hN]
  refine PCall.of (Xi hy6) ?_
  simp only [push_cast,seval,Za,hN0,hN]
  refine Zl [2] [false] ?_
  simp only [push_cast,seval]
  refine Zu ?_
  try simp only [Zk,Zg]
  have h:=Option.some.inj h;subst h
  refine Zq (.inr rfl) hU [.val (.int .i64 (IntKind.i64.wrap ((IntKind.i64.wrap (1+y5))+y6)))] (by omega) ?_
  simp only [push_cast,seval,Za,Try.results56,hN0,hN]
 replace h:=Z0 c14 h
 refine Zp [1,17] (Zb Zc [] ?_)
 simp only [push_cast,seval,Za,hN0,hN]
 refine Zs (t:=(y2 == 9)) rfl (fun c13 => ?_) (fun c13 => ?_)
 ·replace h:=Z3 c13 h
  refine Zj ?_
  obtain ⟨y8,hy8,h⟩:=bC h
  refine Zb Zc [] ?_
  simp only [push_cast,seval,Za,hN0,hN]
  refine (Zo0 hy8).then ?_
  simp only [push_cast,seval,Za,hN0,hN]
  refine Zl [1,3,4] [true] ?_
  simp only [push_cast,seval]
  refine Zj ?_
  obtain ⟨y10,hy10,h⟩:=bC h
  refine Zb Zc [] ?_
  simp only [push_cast,seval,Za,hN0,hN]
  refine (Xi hy10).then ?_
  simp only [push_cast,seval,Za,hN0,hN]
  refine Zl [2] [false] ?_
  simp only [push_cast,seval]
  refine Zu ?_
  try simp only [Zk,Zg]
  have h:=Option.some.inj h;subst h
  refine Zq (.inr rfl) hU [.val (.int .i64 (IntKind.i64.wrap (1+(IntKind.i64.wrap (y10 * (IntKind.i64.wrap ((IntKind.i64.wrap (1+y8.1))+y8.2)))))))] (by omega) ?_
  simp only [push_cast,seval,Za,Try.results56,hN0,hN]
 replace h:=Z0 c13 h
 refine Zw ?_
 try simp only [Zk,Zg]
 refine Zl [1] [true] ?_
 simp only [push_cast,seval]
 refine Zj ?_
 obtain ⟨y12,hy12,h⟩:=bC h
 refine Zb Zc [] ?_
 simp only [push_cast,seval,Za,hN0,hN]
 refine (Xi hy12).then ?_
 simp only [push_cast,seval,Za,hN0,hN]
 refine Zl [2] [false] ?_
 simp only [push_cast,seval]
 refine Zu ?_
 try simp only [Zk,Zg]
 have h:=Option.some.inj h;subst h
 refine Zq (.inr rfl) hU [.val (.int .i64 (IntKind.i64.wrap (1+y12)))] (by omega) ?_
 simp only [push_cast,seval,Za,Try.results56,hN0,hN]
theorem Zdh {a0:Ze} {a1:Int} {r:(Ze×Int)} {O:Objs} {n:Nat} (h:Jl a0 a1=some r):GTo Try.prog 67 [.agg (Zn a0),.val (.int .i64 a1)] O n (.tup [.agg (Zn r.1),.val (.int .i64 r.2)]) O n:=by
 unfold Jl at h
 refine Yj Zc Try.call67 Try.func67 rfl (Nat.le_of_ble_eq_true rfl) (Nat.le_refl _) fun hU => ?_
 have hN0:O n=none:=hU.fresh _ (Nat.le_refl _)
 have hN:∀ k,O (n+k)=none:=fun k=>hU.fresh _ (Nat.le_add_right _ _)
 show W _ _ _ _ ⟨81,[],[(0,.agg (Zn a0)),(1,.val (.int .i64 a1))]⟩ (Zy O n []) _
 refine Zp [1,2,4] (Zb Zc [] ?_)
 simp only [push_cast,seval,Za,hN0,hN]
 refine Zj ?_
 obtain ⟨z2,hz2,h⟩:=bC h
 refine Xk (E':=⟨81,[],[(1,.val (.int .i64 a1)),(2,.ref n 0),(4,.ref (n+1) 0),(14,.val (.bool z2))]⟩) (O':=(Zy O n [some ⟨false,56,9,1,(Zn a0)⟩,some ⟨false,56,9,1,[.val (.pointer none),.val (.int .i64 0),.val (.int .i64 0),.val (.int .i64 0),.val (.int .i64 0),.val (.int .i64 0),.val (.int .i64 0),.val (.int .i64 0),.val (.int .i64 0)]⟩])) (n0:=(n+2)) ?_ ?_
 ·rcases Bool.eq_false_or_eq_true (decide (a1 < 0)) with c5 | c5
  ·replace hz2:=Z3 c5 hz2
   refine Zb Zc (Z5v []) ?_
   simp only [push_cast,seval,Za,c5,hN0,hN]
   have hz2:=Option.some.inj hz2;subst hz2
   refine And.intro rfl (Fit2.of (Zr hU rfl rfl ?_) (by omega))
   simp only [push_cast,seval,Za,c5,hN0,hN]
  replace hz2:=Z0 c5 hz2
  obtain ⟨y4,hy4,hz2⟩:=bC hz2
  refine Zb Zc (Z5x []) ?_
  simp only [push_cast,seval,Za,c5,hN0,hN]
  refine (Xi hy4).then ?_
  simp only [push_cast,seval,Za,c5,hN0,hN]
  have hz2:=Option.some.inj hz2;subst hz2
  refine And.intro rfl (Fit2.of (Zr hU rfl rfl ?_) (by omega))
  simp only [push_cast,seval,Za,c5,hN0,hN]
 refine Zs (t:=z2) rfl (fun c13 => ?_) (fun c13 => ?_)
 ·replace h:=Z3 c13 h
  refine Zj ?_
  refine Zb Zc [] ?_
  simp only [push_cast,seval,Za,hN0,hN]
  refine Zl [4,5] [false,true] ?_
  simp only [push_cast,seval]
  refine Zu ?_
  try simp only [Zk,Zg]
  have h:=Option.some.inj h;subst h
  refine Zq (.inr rfl) hU [.agg [.val (.pointer none),.val (.int .i64 0),.val (.int .i64 0),.val (.int .i64 0),.val (.int .i64 0),.val (.int .i64 0),.val (.int .i64 0),.val (.int .i64 0),.val (.int .i64 0)],.val (.int .i64 0)] (by omega) ?_
  simp only [push_cast,seval,Za,Try.results67,hN0,hN]
 replace h:=Z0 c13 h
 refine Zw ?_
 try simp only [Zk,Zg]
 refine Zl [1,2,4] [true,true] ?_
 simp only [push_cast,seval]
 refine Zj ?_
 refine Zp [1,2,4,17] (Zb Zc [] ?_)
 simp only [push_cast,seval,Za,hN0,hN]
 refine Yn ?_
 refine Zp [1,2,4,17,18] (Zb Zc [] ?_)
 simp only [push_cast,seval,Za,hN0,hN]
 refine Zs (t:=(a0.kind == 1)) rfl (fun c12 => ?_) (fun c12 => ?_)
 ·replace h:=Z3 c12 h
  refine Zj ?_
  obtain ⟨y7,hy7,h⟩:=bC h
  refine Zb Zc [] ?_
  simp only [push_cast,seval,Za,hN0,hN]
  refine (Zkm hy7).then ?_
  simp only [push_cast,seval,Za,hN0,hN]
  refine Zl [4,5] [false,true] ?_
  simp only [push_cast,seval]
  refine Zu ?_
  try simp only [Zk,Zg]
  have h:=Option.some.inj h;subst h
  refine Zq (.inr rfl) hU [.agg (Zn y7.1),.val (.int .i64 y7.2)] (by omega) ?_
  simp only [push_cast,seval,Za,Try.results67,hN0,hN]
 replace h:=Z0 c12 h
 refine Zp [1,2,4,17,34] (Zb Zc [] ?_)
 simp only [push_cast,seval,Za,hN0,hN]
 refine Zs (t:=(a0.kind == 8)) rfl (fun c11 => ?_) (fun c11 => ?_)
 ·replace h:=Z3 c11 h
  refine Zj ?_
  obtain ⟨y9,hy9,h⟩:=bC h
  refine Zb Zc [] ?_
  simp only [push_cast,seval,Za,hN0,hN]
  refine (Zkm hy9).then ?_
  simp only [push_cast,seval,Za,hN0,hN]
  refine Zl [4,5] [false,true] ?_
  simp only [push_cast,seval]
  refine Zu ?_
  try simp only [Zk,Zg]
  have h:=Option.some.inj h;subst h
  refine Zq (.inr rfl) hU [.agg (Zn y9.1),.val (.int .i64 y9.2)] (by omega) ?_
  simp only [push_cast,seval,Za,Try.results67,hN0,hN]
 replace h:=Z0 c11 h
 refine Zp [1,2,4,47] (Zb Zc [] ?_)
 simp only [push_cast,seval,Za,hN0,hN]
 refine Zs (t:=(a0.kind == 9)) rfl (fun c10 => ?_) (fun c10 => ?_)
 ·replace h:=Z3 c10 h
  refine Zp [2,4,6] (Zb Zc [] ?_)
  simp only [push_cast,seval,Za,hN0,hN]
  refine Zj ?_
  refine Zb Zc [] ?_
  simp only [push_cast,seval,Za,hN0,hN]
  refine Zl [4,5] [false,true] ?_
  simp only [push_cast,seval]
  refine Zu ?_
  try simp only [Zk,Zg]
  have h:=Option.some.inj h;subst h
  refine Zq (.inr rfl) hU [.agg [(gP Zo a0.a),.val (.int .i64 1),.val (.int .i64 a0.segment),.val (.int .i64 (IntKind.i64.wrap ((IntKind.i64.wrap (a0.at_+1))+(IntKind.i64.wrap (a1 * (IntKind.i64.wrap (a0.words+a0.ptrs))))))),.val (.int .i64 a0.words),.val (.int .i64 a0.ptrs),.val (.int .i64 0),.val (.int .i64 0),.val (.int .i64 0)],.val (.int .i64 0)] (by omega) ?_
  simp only [push_cast,seval,Za,Try.results67,hN0,hN]
 replace h:=Z0 c10 h
 refine Zw ?_
 try simp only [Zk,Zg]
 refine Zl [1,2,4] [true,true] ?_
 simp only [push_cast,seval]
 refine Zj ?_
 refine Zb Zc [] ?_
 simp only [push_cast,seval,Za,hN0,hN]
 refine Zl [4,5] [false,true] ?_
 simp only [push_cast,seval]
 refine Zu ?_
 try simp only [Zk,Zg]
 have h:=Option.some.inj h;subst h
 refine Zq (.inr rfl) hU [.agg [(gP Zo a0.a),.val (.int .i64 10),.val (.int .i64 a0.segment),.val (.int .i64 a0.at_),.val (.int .i64 0),.val (.int .i64 0),.val (.int .i64 0),.val (.int .i64 (IntKind.i64.wrap (a0.kind - 2))),.val (.int .i64 a1)],.val (.int .i64 0)] (by omega) ?_
 simp only [push_cast,seval,Za,Try.results67,hN0,hN]
theorem Zja {Yf:(Zh→Ze→Int→Option (Int×Zh))} {Ye:(Zh→Ze→Int→Option (Int×Zh))} {Yg:(Zh→Ze→Int→Option (Int×Zh))} (Ux:∀ {a0:Zh} {a1:Ze} {a2:Int} {r:(Int×Zh)} {O:Objs} {n:Nat} {i0:Nat},i0 < n→O i0=some ⟨false,77,1,1,[.val (.int .i64 a0.left)]⟩→Yf a0 a1 a2=some r→GTo Try.prog 38 [.ref i0 0,.agg (Zn a1),.val (.int .i64 a2)] O n (.val (.int .i64 r.1)) (Zy (O.upd i0 (some ⟨false,77,1,1,[.val (.int .i64 r.2.left)]⟩)) n []) (n+0)) (Kz:∀ {a0:Zh} {a1:Ze} {a2:Int} {r:(Int×Zh)} {O:Objs} {n:Nat} {i0:Nat},i0 < n→O i0=some ⟨false,77,1,1,[.val (.int .i64 a0.left)]⟩→Ye a0 a1 a2=some r→GTo Try.prog 58 [.ref i0 0,.agg (Zn a1),.val (.int .i64 a2)] O n (.val (.int .i64 r.1)) (Zy (O.upd i0 (some ⟨false,77,1,1,[.val (.int .i64 r.2.left)]⟩)) n []) (n+0)) (V3:∀ {a0:Zh} {a1:Ze} {a2:Int} {r:(Int×Zh)} {O:Objs} {n:Nat} {i0:Nat},i0 < n→O i0=some ⟨false,77,1,1,[.val (.int .i64 a0.left)]⟩→Yg a0 a1 a2=some r→GTo Try.prog 59 [.ref i0 0,.agg (Zn a1),.val (.int .i64 a2)] O n (.val (.int .i64 r.1)) (Zy (O.upd i0 (some ⟨false,77,1,1,[.val (.int .i64 r.2.left)]⟩)) n []) (n+0)) {a0:Zh} {a1:Ze} {a2:Int} {r:(Int×Zh)} {O:Objs} {n:Nat} {i0:Nat} (hi0:i0 < n) (ho0:O i0=some ⟨false,77,1,1,[.val (.int .i64 a0.left)]⟩) (h:Q3 Yf Ye Yg a0 a1 a2=some r):GTo Try.prog 38 [.ref i0 0,.agg (Zn a1),.val (.int .i64 a2)] O n (.val (.int .i64 r.1)) (Zy (O.upd i0 (some ⟨false,77,1,1,[.val (.int .i64 r.2.left)]⟩)) n []) (n+0):=by
 unfold Q3 at h
 refine Yj Zc Try.call38 Try.func38 rfl (Nat.le_of_ble_eq_true rfl) (by omega) fun hU => ?_
 rw [show Zy O n []=Zy (O.upd i0 (some ⟨false,77,1,1,[.val (.int .i64 a0.left)]⟩)) n [] from by rw [Zri (show O i0=_ from by exact ho0)]]
 have hk0:∀ k,i0 < n+k:=fun k=>by omega
 have hN0:∀ o,Objs.upd O i0 o n=none:=fun o=>Zct hU hi0 _ (Nat.le_refl _)
 have hN:∀ o k,Objs.upd O i0 o (n+k)=none:=fun o k=>Zct hU hi0 _ (Nat.le_add_right _ _)
 show W _ _ _ _ ⟨46,[],[(0,.ref i0 0),(1,.agg (Zn a1)),(2,.val (.int .i64 a2))]⟩ (Zy (O.upd i0 (some ⟨false,77,1,1,[.val (.int .i64 a0.left)]⟩)) n []) _
 refine Zp [0,2,4] (Zb Zc [] ?_)
 simp only [push_cast,seval,Za,hi0,hk0,hN0,hN]
 refine Zj ?_
 obtain ⟨z3,hz3,h⟩:=bC h
 refine Xk (E':=⟨46,[],[(0,.ref i0 0),(2,.val (.int .i64 a2)),(4,.ref n 0),(19,.val (.bool z3))]⟩) (O':=(Zy (O.upd i0 (some ⟨false,77,1,1,[.val (.int .i64 a0.left)]⟩)) n [some ⟨false,56,9,1,(Zn a1)⟩])) (n0:=(n+1)) ?_ ?_
 ·obtain ⟨y6,hy6,hz3⟩:=bC hz3
  rcases Bool.eq_false_or_eq_true (decide (a2 < y6)) with c8 | c8
  ·replace hz3:=Z3 c8 hz3
   refine V6 Zc (by kernel_rfl) (Z5w []) (by kernel_rfl) ?_
   simp only [push_cast,seval,Za,c8,hi0,hk0,hN0,hN]
   refine PCall.of (Zk1 hy6) ?_
   simp only [push_cast,seval,Za,c8,hi0,hk0,hN0,hN]
   have hz3:=Option.some.inj hz3;subst hz3
   refine And.intro rfl (Fit2.of (Yu hU rfl rfl ?_) (by omega))
   simp only [push_cast,seval,Za,c8,hi0,hk0,hN0,hN]
  replace hz3:=Z0 c8 hz3
  obtain ⟨y7,hy7,hz3⟩:=bC hz3
  refine V6 Zc (by kernel_rfl) (Z74 []) (by kernel_rfl) ?_
  simp only [push_cast,seval,Za,c8,hi0,hk0,hN0,hN]
  refine PCall.of (Zk1 hy6) ?_
  simp only [push_cast,seval,Za,c8,hi0,hk0,hN0,hN]
  refine PCall.of (Zk2 hy7) ?_
  simp only [push_cast,seval,Za,c8,hi0,hk0,hN0,hN]
  have hz3:=Option.some.inj hz3;subst hz3
  refine And.intro rfl (Fit2.of (Yu hU rfl rfl ?_) (by omega))
  simp only [push_cast,seval,Za,c8,hi0,hk0,hN0,hN]
 refine Zs (t:=z3) rfl (fun c21 => ?_) (fun c21 => ?_)
 ·replace h:=Z3 c21 h
  refine Zp [6] (Zb Zc [] ?_)
  simp only [push_cast,seval,Za,hi0,hk0,hN0,hN]
  refine Zu ?_
  try simp only [Zk,Zg]
  have h:=Option.some.inj h;subst h
  refine Zat (k:=0) (i:=i0) (q1:=⟨false,77,1,1,[.val (.int .i64 a0.left)]⟩) (L3:=[none]) (E2:=(⟨46,[],[(6,.val (.int .i64 3))]⟩:Env)) (n3:=(n+1)) (.inr rfl) hU rfl [.val (.int .i64 3)] ?_ ?_
  ·refine Fit2.trans (E':=(⟨46,[],[(6,.val (.int .i64 3))]⟩:Env)) (O':=(Zy (O.upd i0 (some ⟨false,77,1,1,[.val (.int .i64 a0.left)]⟩)) n [none])) (n':=(n+1)) (Fit2.of (Yu hU rfl rfl ?_) (by omega)) ?_
   ·simp only [push_cast,seval,Za,hi0,hk0,hN0,hN]
   refine Gg (k:=1) (k':=1) hU [0] [0] rfl rfl rfl rfl ⟨rfl,rfl⟩ ?_
   simp only [push_cast,seval,Za,hi0,hk0,hN0,hN]
  simp only [push_cast,seval,Za,Try.results38,hi0,hk0,hN0,hN]
 replace h:=Z0 c21 h
 refine Zw ?_
 try simp only [Zk,Zg]
 refine Zl [0,2,4] [true] ?_
 simp only [push_cast,seval]
 refine Zj ?_
 obtain ⟨y10,hy10,h⟩:=bC h
 refine Zl2 Zc (by kernel_rfl) [false,false,false,false,false,false,false,false,false,true] [] (by kernel_rfl) ?_
 simp only [push_cast,seval,Za,hi0,hk0,hN0,hN]
 refine PCall.of (Zk2 hy10) ?_
 simp only [push_cast,seval,Za,hi0,hk0,hN0,hN]
 refine Zl [0,2,4] [true] ?_
 simp only [push_cast,seval]
 refine Zj ?_
 refine Zj ?_
 obtain ⟨y12,hy12,h⟩:=bC h
 refine Zb Zc [] ?_
 simp only [push_cast,seval,Za,hi0,hk0,hN0,hN]
 refine (Xj hy12).then ?_
 simp only [push_cast,seval,Za,hi0,hk0,hN0,hN]
 refine Zl [0,2,4,30] [true] ?_
 simp only [push_cast,seval]
 refine Yn ?_
 obtain ⟨z13,hz13,h⟩:=bC h
 refine Xk (E':=⟨46,[],[(0,.ref i0 0),(2,.val (.int .i64 a2)),(4,.ref n 0),(30,.val (.int .i64 y12)),(31,.val (.bool z13))]⟩) (O':=(Zy (O.upd i0 (some ⟨false,77,1,1,[.val (.int .i64 (IntKind.i64.wrap (a0.left - y10)))]⟩)) n [some ⟨false,56,9,1,(Zn a1)⟩])) (n0:=(n+1)) ?_ ?_
 ·refine Zp [0,2,4,30,31] (Zb Zc [] ?_)
  simp only [push_cast,seval,Za,hi0,hk0,hN0,hN]
  refine Zs (t:=(y12 == 1)) rfl (fun c14 => ?_) (fun c14 => ?_)
  ·replace hz13:=Z3 c14 hz13
   refine Zw ?_
   try simp only [Zk,Zg]
   have hz13:=Option.some.inj hz13;subst hz13
   refine And.intro rfl (Fit2.of (Yu hU rfl rfl ?_) (by omega))
   simp only [push_cast,seval,Za,hi0,hk0,hN0,hN]
  replace hz13:=Z0 c14 hz13
  refine Zb Zc [] ?_
  simp only [push_cast,seval,Za,hi0,hk0,hN0,hN]
  have hz13:=Option.some.inj hz13;subst hz13
  refine And.intro rfl (Fit2.of (Yu hU rfl rfl ?_) (by omega))
  simp only [push_cast,seval,Za,hi0,hk0,hN0,hN]
 refine Zs (t:=z13) rfl (fun c20 => ?_) (fun c20 => ?_)
 ·replace h:=Z3 c20 h
  refine Zj ?_
  obtain ⟨y16,hy16,h⟩:=bC h
  refine Zb Zc [] ?_
  simp only [push_cast,seval,Za,hi0,hk0,hN0,hN]
  refine (Kz (i0:=i0) (by omega) (by simp only [push_cast,seval,Za,Zc0,hi0,hk0,hN0,hN] <;> rfl) hy16).then ?_
  simp only [push_cast,seval,Za,hi0,hk0,hN0,hN]
  refine Zl [6] [false] ?_
  simp only [push_cast,seval]
  refine Zu ?_
  try simp only [Zk,Zg]
  have h:=Option.some.inj h;subst h
  refine Zat (k:=0) (i:=i0) (q1:=⟨false,77,1,1,[.val (.int .i64 y16.2.left)]⟩) (L3:=[none]) (E2:=(⟨46,[],[(6,.val (.int .i64 y16.1))]⟩:Env)) (n3:=(n+1)) (.inr rfl) hU rfl [.val (.int .i64 y16.1)] ?_ ?_
  ·refine Fit2.trans (E':=(⟨46,[],[(6,.val (.int .i64 y16.1))]⟩:Env)) (O':=(Zy (O.upd i0 (some ⟨false,77,1,1,[.val (.int .i64 y16.2.left)]⟩)) n [none])) (n':=(n+1)) (Fit2.of (Yu hU rfl rfl ?_) (by omega)) ?_
   ·simp only [push_cast,seval,Za,hi0,hk0,hN0,hN]
   refine Gg (k:=1) (k':=1) hU [0] [0] rfl rfl rfl rfl ⟨rfl,rfl⟩ ?_
   simp only [push_cast,seval,Za,hi0,hk0,hN0,hN]
  simp only [push_cast,seval,Za,Try.results38,hi0,hk0,hN0,hN]
 replace h:=Z0 c20 h
 refine Zp [0,2,4,39] (Zb Zc [] ?_)
 simp only [push_cast,seval,Za,hi0,hk0,hN0,hN]
 refine Zs (t:=(y12 == 9)) rfl (fun c19 => ?_) (fun c19 => ?_)
 ·replace h:=Z3 c19 h
  refine Zj ?_
  obtain ⟨y18,hy18,h⟩:=bC h
  refine Zb Zc [] ?_
  simp only [push_cast,seval,Za,hi0,hk0,hN0,hN]
  refine (V3 (i0:=i0) (by omega) (by simp only [push_cast,seval,Za,Zc0,hi0,hk0,hN0,hN] <;> rfl) hy18).then ?_
  simp only [push_cast,seval,Za,hi0,hk0,hN0,hN]
  refine Zl [6] [false] ?_
  simp only [push_cast,seval]
  refine Zu ?_
  try simp only [Zk,Zg]
  have h:=Option.some.inj h;subst h
  refine Zat (k:=0) (i:=i0) (q1:=⟨false,77,1,1,[.val (.int .i64 y18.2.left)]⟩) (L3:=[none]) (E2:=(⟨46,[],[(6,.val (.int .i64 y18.1))]⟩:Env)) (n3:=(n+1)) (.inr rfl) hU rfl [.val (.int .i64 y18.1)] ?_ ?_
  ·refine Fit2.trans (E':=(⟨46,[],[(6,.val (.int .i64 y18.1))]⟩:Env)) (O':=(Zy (O.upd i0 (some ⟨false,77,1,1,[.val (.int .i64 y18.2.left)]⟩)) n [none])) (n':=(n+1)) (Fit2.of (Yu hU rfl rfl ?_) (by omega)) ?_
   ·simp only [push_cast,seval,Za,hi0,hk0,hN0,hN]
   refine Gg (k:=1) (k':=1) hU [0] [0] rfl rfl rfl rfl ⟨rfl,rfl⟩ ?_
   simp only [push_cast,seval,Za,hi0,hk0,hN0,hN]
  simp only [push_cast,seval,Za,Try.results38,hi0,hk0,hN0,hN]
 replace h:=Z0 c19 h
 refine Zw ?_
 try simp only [Zk,Zg]
 refine Zl [] [false] ?_
 simp only [push_cast,seval]
 refine Zp [6] (Zb Zc [] ?_)
 simp only [push_cast,seval,Za,hi0,hk0,hN0,hN]
 refine Zu ?_
 try simp only [Zk,Zg]
 have h:=Option.some.inj h;subst h
 refine Zat (k:=0) (i:=i0) (q1:=⟨false,77,1,1,[.val (.int .i64 (IntKind.i64.wrap (a0.left - y10)))]⟩) (L3:=[none]) (E2:=(⟨46,[],[(6,.val (.int .i64 0))]⟩:Env)) (n3:=(n+1)) (.inr rfl) hU rfl [.val (.int .i64 0)] ?_ ?_
 ·refine Fit2.trans (E':=(⟨46,[],[(6,.val (.int .i64 0))]⟩:Env)) (O':=(Zy (O.upd i0 (some ⟨false,77,1,1,[.val (.int .i64 (IntKind.i64.wrap (a0.left - y10)))]⟩)) n [none])) (n':=(n+1)) (Fit2.of (Yu hU rfl rfl ?_) (by omega)) ?_
  ·simp only [push_cast,seval,Za,hi0,hk0,hN0,hN]
  refine Gg (k:=1) (k':=1) hU [0] [0] rfl rfl rfl rfl ⟨rfl,rfl⟩ ?_
  simp only [push_cast,seval,Za,hi0,hk0,hN0,hN]
 simp only [push_cast,seval,Za,Try.results38,hi0,hk0,hN0,hN]
theorem Zkp {Yf:(Zh→Ze→Int→Option (Int×Zh))} {Ye:(Zh→Ze→Int→Option (Int×Zh))} {Yg:(Zh→Ze→Int→Option (Int×Zh))} (Ux:∀ {a0:Zh} {a1:Ze} {a2:Int} {r:(Int×Zh)} {O:Objs} {n:Nat} {i0:Nat},i0 < n→O i0=some ⟨false,77,1,1,[.val (.int .i64 a0.left)]⟩→Yf a0 a1 a2=some r→GTo Try.prog 38 [.ref i0 0,.agg (Zn a1),.val (.int .i64 a2)] O n (.val (.int .i64 r.1)) (Zy (O.upd i0 (some ⟨false,77,1,1,[.val (.int .i64 r.2.left)]⟩)) n []) (n+0)) (Kz:∀ {a0:Zh} {a1:Ze} {a2:Int} {r:(Int×Zh)} {O:Objs} {n:Nat} {i0:Nat},i0 < n→O i0=some ⟨false,77,1,1,[.val (.int .i64 a0.left)]⟩→Ye a0 a1 a2=some r→GTo Try.prog 58 [.ref i0 0,.agg (Zn a1),.val (.int .i64 a2)] O n (.val (.int .i64 r.1)) (Zy (O.upd i0 (some ⟨false,77,1,1,[.val (.int .i64 r.2.left)]⟩)) n []) (n+0)) (V3:∀ {a0:Zh} {a1:Ze} {a2:Int} {r:(Int×Zh)} {O:Objs} {n:Nat} {i0:Nat},i0 < n→O i0=some ⟨false,77,1,1,[.val (.int .i64 a0.left)]⟩→Yg a0 a1 a2=some r→GTo Try.prog 59 [.ref i0 0,.agg (Zn a1),.val (.int .i64 a2)] O n (.val (.int .i64 r.1)) (Zy (O.upd i0 (some ⟨false,77,1,1,[.val (.int .i64 r.2.left)]⟩)) n []) (n+0)) {a0:Zh} {a1:Ze} {a2:Int} {r:(Int×Zh)} {O:Objs} {n:Nat} {i0:Nat} (hi0:i0 < n) (ho0:O i0=some ⟨false,77,1,1,[.val (.int .i64 a0.left)]⟩) (h:Jh Yf Ye Yg a0 a1 a2=some r):GTo Try.prog 58 [.ref i0 0,.agg (Zn a1),.val (.int .i64 a2)] O n (.val (.int .i64 r.1)) (Zy (O.upd i0 (some ⟨false,77,1,1,[.val (.int .i64 r.2.left)]⟩)) n []) (n+0):=by
 unfold Jh at h
 refine Yj Zc Try.call58 Try.func58 rfl (Nat.le_of_ble_eq_true rfl) (by omega) fun hU => ?_
 rw [show Zy O n []=Zy (O.upd i0 (some ⟨false,77,1,1,[.val (.int .i64 a0.left)]⟩)) n [] from by rw [Zri (show O i0=_ from by exact ho0)]]
 have hk0:∀ k,i0 < n+k:=fun k=>by omega
 have hN0:∀ o,Objs.upd O i0 o n=none:=fun o=>Zct hU hi0 _ (Nat.le_refl _)
 have hN:∀ o k,Objs.upd O i0 o (n+k)=none:=fun o k=>Zct hU hi0 _ (Nat.le_add_right _ _)
 show W _ _ _ _ ⟨33,[],[(0,.ref i0 0),(1,.agg (Zn a1)),(2,.val (.int .i64 a2))]⟩ (Zy (O.upd i0 (some ⟨false,77,1,1,[.val (.int .i64 a0.left)]⟩)) n []) _
 refine Zp [0,2,4] (Zb Zc [] ?_)
 simp only [push_cast,seval,Za,hi0,hk0,hN0,hN]
 refine Zj ?_
 refine Zj ?_
 obtain ⟨y2,hy2,h⟩:=bC h
 refine Zb Zc [] ?_
 simp only [push_cast,seval,Za,hi0,hk0,hN0,hN]
 refine (Xi hy2).then ?_
 simp only [push_cast,seval,Za,hi0,hk0,hN0,hN]
 refine Zl [0,2,4,12,13] [true] ?_
 simp only [push_cast,seval]
 refine Zl [0,2,4,12,13] [true] ?_
 simp only [push_cast,seval]
 obtain ⟨z10,hz10,h⟩:=bC h
 refine Zkc (J:=(Zaq (fun z10=>JR n (⟨33,[],[(6,.val (.int .i64 z10.1))]⟩:Env) (Zy (O.upd i0 (some ⟨false,77,1,1,[.val (.int .i64 z10.2)]⟩)) n [none]) (n+1)) (fun z10=>JX 0 n (⟨33,[],[]⟩:Env) (Zy (O.upd i0 (some ⟨false,77,1,1,[.val (.int .i64 z10)]⟩)) n [none]) (n+1)))) (z:=z10) ?_ fun hw => ?_
 ·refine Jq hz10 (fun s0_=>⟨33,[],[(0,.ref i0 0),(2,.val (.int .i64 a2)),(4,.ref n 0),(12,.val (.int .i64 y2)),(13,.val (.int .i64 s0_.1))]⟩) (fun s0_=>(Zy (O.upd i0 (some ⟨false,77,1,1,[.val (.int .i64 s0_.2)]⟩)) n [some ⟨false,56,9,1,(Zn a1)⟩])) (Zaq (fun z10=>JR n (⟨33,[],[(6,.val (.int .i64 z10.1))]⟩:Env) (Zy (O.upd i0 (some ⟨false,77,1,1,[.val (.int .i64 z10.2)]⟩)) n [none]) (n+1)) (fun z10=>JX 0 n (⟨33,[],[]⟩:Env) (Zy (O.upd i0 (some ⟨false,77,1,1,[.val (.int .i64 z10)]⟩)) n [none]) (n+1))) ?_
  intro s0_ x0_ hs0_
  unfold Ji at hs0_
  try dsimp only
  refine Zp [0,2,4,12,13,14] (Zb Zc [] ?_)
  simp only [push_cast,seval,Za,hi0,hk0,hN0,hN]
  refine Zj ?_
  refine Zs (t:=(decide (s0_.1 < y2))) rfl (fun c9 => ?_) (fun c9 => ?_)
  ·replace hs0_:=Z3 c9 hs0_
   refine Zw ?_
   try simp only [Zk,Zg]
   refine Zl [0,2,4,12,13] [true] ?_
   simp only [push_cast,seval]
   refine Zj ?_
   refine Yn ?_
   refine Zp [0,2,4,7,12,13] (Zb Zc [] ?_)
   simp only [push_cast,seval,Za,hi0,hk0,hN0,hN]
   refine Zj ?_
   obtain ⟨y4,hy4,hs0_⟩:=bC hs0_
   refine Zb Zc [] ?_
   simp only [push_cast,seval,Za,hi0,hk0,hN0,hN]
   refine (Zdh hy4).then ?_
   simp only [push_cast,seval,Za,hi0,hk0,hN0,hN]
   refine Zl [0,2,4,8,9,12,13] [true,true] ?_
   simp only [push_cast,seval]
   refine Zj ?_
   refine Zp [0,2,4,8,9,12,13,23] (Zb Zc [] ?_)
   simp only [push_cast,seval,Za,hi0,hk0,hN0,hN]
   refine Zs (t:=(y4.2 != 0)) rfl (fun c8 => ?_) (fun c8 => ?_)
   ·replace hs0_:=Z3 c8 hs0_
    refine Zp [6] (Zb Zc [] ?_)
    simp only [push_cast,seval,Za,hi0,hk0,hN0,hN]
    refine Zu ?_
    try simp only [Zk,Zg]
    have hs0_:=Option.some.inj hs0_;subst hs0_
    refine And.intro (fun h=>by cases h) (And.intro rfl (Fit2.of (Yu hU rfl rfl ?_) (by omega)))
    simp only [push_cast,seval,Za,hi0,hk0,hN0,hN]
   replace hs0_:=Z0 c8 hs0_
   refine Zw ?_
   try simp only [Zk,Zg]
   refine Zl [0,2,4,8,12,13] [true,true] ?_
   simp only [push_cast,seval]
   refine Zj ?_
   obtain ⟨y6,hy6,hs0_⟩:=bC hs0_
   refine Zb Zc [] ?_
   simp only [push_cast,seval,Za,hi0,hk0,hN0,hN]
   refine (Ux (i0:=i0) (by omega) (by simp only [push_cast,seval,Za,Zc0,hi0,hk0,hN0,hN] <;> rfl) hy6).then ?_
   simp only [push_cast,seval,Za,hi0,hk0,hN0,hN]
   refine Zl [0,2,4,10,12,13] [true,false] ?_
   simp only [push_cast,seval]
   refine Zp [0,2,4,10,12,13,30] (Zb Zc [] ?_)
   simp only [push_cast,seval,Za,hi0,hk0,hN0,hN]
   refine Zs (t:=(y6.1 != 0)) rfl (fun c7 => ?_) (fun c7 => ?_)
   ·replace hs0_:=Z3 c7 hs0_
    refine Zp [6] (Zb Zc [] ?_)
    simp only [push_cast,seval,Za,hi0,hk0,hN0,hN]
    refine Zu ?_
    try simp only [Zk,Zg]
    have hs0_:=Option.some.inj hs0_;subst hs0_
    refine And.intro (fun h=>by cases h) (And.intro rfl (Fit2.of (Yu hU rfl rfl ?_) (by omega)))
    simp only [push_cast,seval,Za,hi0,hk0,hN0,hN]
   replace hs0_:=Z0 c7 hs0_
   refine Zw ?_
   try simp only [Zk,Zg]
   refine Zl [0,2,4,12,13] [true,false] ?_
   simp only [push_cast,seval]
   refine Zb Zc [] ?_
   simp only [push_cast,seval,Za,hi0,hk0,hN0,hN]
   have hs0_:=Option.some.inj hs0_;subst hs0_
   refine And.intro rfl (Fit2.of (Yu hU rfl rfl ?_) (by omega))
   simp only [push_cast,seval,Za,hi0,hk0,hN0,hN]
  replace hs0_:=Z0 c9 hs0_
  refine Jt ?_
  try simp only [Zk,Zg,↓reduceIte,Nat.reduceEqDiff]
  have hs0_:=Option.some.inj hs0_;subst hs0_
  refine And.intro (fun h=>by cases h) (And.intro rfl (Fit2.of (Yu hU rfl rfl ?_) (by omega)))
  simp only [push_cast,seval,Za,hi0,hk0,hN0,hN]
 rcases z10 with z10 | z10
 ·dsimp only [Zaq] at hw h
  refine Zcx hw ?_
  try simp only [Zk,Zg,↓reduceIte,Nat.reduceEqDiff]
  have h:=Option.some.inj h;subst h
  refine Zat (k:=0) (i:=i0) (q1:=⟨false,77,1,1,[.val (.int .i64 z10.2)]⟩) (L3:=[none]) (E2:=(⟨33,[],[(6,.val (.int .i64 z10.1))]⟩:Env)) (n3:=(n+1)) (.inr rfl) hU rfl [.val (.int .i64 z10.1)] ?_ ?_
  ·refine Fit2.trans (E':=(⟨33,[],[(6,.val (.int .i64 z10.1))]⟩:Env)) (O':=(Zy (O.upd i0 (some ⟨false,77,1,1,[.val (.int .i64 z10.2)]⟩)) n [none])) (n':=(n+1)) (Fit2.of (Yu hU rfl rfl ?_) (by omega)) ?_
   ·simp only [push_cast,seval,Za,hi0,hk0,hN0,hN]
   refine Gg (k:=1) (k':=1) hU [0] [0] rfl rfl rfl rfl ⟨rfl,rfl⟩ ?_
   simp only [push_cast,seval,Za,hi0,hk0,hN0,hN]
  simp only [push_cast,seval,Za,Try.results58,hi0,hk0,hN0,hN]
 dsimp only [Zaq] at hw h
 refine X1 hw ?_
 try simp only [Zk,Zg,↓reduceIte,Nat.reduceEqDiff]
 refine Zl [] [false] ?_
 simp only [push_cast,seval]
 refine Zp [6] (Zb Zc [] ?_)
 simp only [push_cast,seval,Za,hi0,hk0,hN0,hN]
 refine Zu ?_
 try simp only [Zk,Zg]
 have h:=Option.some.inj h;subst h
 refine Zat (k:=0) (i:=i0) (q1:=⟨false,77,1,1,[.val (.int .i64 z10)]⟩) (L3:=[none]) (E2:=(⟨33,[],[(6,.val (.int .i64 0))]⟩:Env)) (n3:=(n+1)) (.inr rfl) hU rfl [.val (.int .i64 0)] ?_ ?_
 ·refine Fit2.trans (E':=(⟨33,[],[(6,.val (.int .i64 0))]⟩:Env)) (O':=(Zy (O.upd i0 (some ⟨false,77,1,1,[.val (.int .i64 z10)]⟩)) n [none])) (n':=(n+1)) (Fit2.of (Yu hU rfl rfl ?_) (by omega)) ?_
  ·simp only [push_cast,seval,Za,hi0,hk0,hN0,hN]
  refine Gg (k:=1) (k':=1) hU [0] [0] rfl rfl rfl rfl ⟨rfl,rfl⟩ ?_
  simp only [push_cast,seval,Za,hi0,hk0,hN0,hN]
 simp only [push_cast,seval,Za,Try.results58,hi0,hk0,hN0,hN]
theorem Zho {Yf:(Zh→Ze→Int→Option (Int×Zh))} {Ye:(Zh→Ze→Int→Option (Int×Zh))} {Yg:(Zh→Ze→Int→Option (Int×Zh))} (Ux:∀ {a0:Zh} {a1:Ze} {a2:Int} {r:(Int×Zh)} {O:Objs} {n:Nat} {i0:Nat},i0 < n→O i0=some ⟨false,77,1,1,[.val (.int .i64 a0.left)]⟩→Yf a0 a1 a2=some r→GTo Try.prog 38 [.ref i0 0,.agg (Zn a1),.val (.int .i64 a2)] O n (.val (.int .i64 r.1)) (Zy (O.upd i0 (some ⟨false,77,1,1,[.val (.int .i64 r.2.left)]⟩)) n []) (n+0)) (Kz:∀ {a0:Zh} {a1:Ze} {a2:Int} {r:(Int×Zh)} {O:Objs} {n:Nat} {i0:Nat},i0 < n→O i0=some ⟨false,77,1,1,[.val (.int .i64 a0.left)]⟩→Ye a0 a1 a2=some r→GTo Try.prog 58 [.ref i0 0,.agg (Zn a1),.val (.int .i64 a2)] O n (.val (.int .i64 r.1)) (Zy (O.upd i0 (some ⟨false,77,1,1,[.val (.int .i64 r.2.left)]⟩)) n []) (n+0)) (V3:∀ {a0:Zh} {a1:Ze} {a2:Int} {r:(Int×Zh)} {O:Objs} {n:Nat} {i0:Nat},i0 < n→O i0=some ⟨false,77,1,1,[.val (.int .i64 a0.left)]⟩→Yg a0 a1 a2=some r→GTo Try.prog 59 [.ref i0 0,.agg (Zn a1),.val (.int .i64 a2)] O n (.val (.int .i64 r.1)) (Zy (O.upd i0 (some ⟨false,77,1,1,[.val (.int .i64 r.2.left)]⟩)) n []) (n+0)) {a0:Zh} {a1:Ze} {a2:Int} {r:(Int×Zh)} {O:Objs} {n:Nat} {i0:Nat} (hi0:i0 < n) (ho0:O i0=some ⟨false,77,1,1,[.val (.int .i64 a0.left)]⟩) (h:X7 Yf Ye Yg a0 a1 a2=some r):GTo Try.prog 59 [.ref i0 0,.agg (Zn a1),.val (.int .i64 a2)] O n (.val (.int .i64 r.1)) (Zy (O.upd i0 (some ⟨false,77,1,1,[.val (.int .i64 r.2.left)]⟩)) n []) (n+0):=by
 unfold X7 at h
 refine Yj Zc Try.call59 Try.func59 rfl (Nat.le_of_ble_eq_true rfl) (by omega) fun hU => ?_
 rw [show Zy O n []=Zy (O.upd i0 (some ⟨false,77,1,1,[.val (.int .i64 a0.left)]⟩)) n [] from by rw [Zri (show O i0=_ from by exact ho0)]]
 have hk0:∀ k,i0 < n+k:=fun k=>by omega
 have hN0:∀ o,Objs.upd O i0 o n=none:=fun o=>Zct hU hi0 _ (Nat.le_refl _)
 have hN:∀ o k,Objs.upd O i0 o (n+k)=none:=fun o k=>Zct hU hi0 _ (Nat.le_add_right _ _)
 show W _ _ _ _ ⟨34,[],[(0,.ref i0 0),(1,.agg (Zn a1)),(2,.val (.int .i64 a2))]⟩ (Zy (O.upd i0 (some ⟨false,77,1,1,[.val (.int .i64 a0.left)]⟩)) n []) _
 refine Zp [0,2,4] (Zb Zc [] ?_)
 simp only [push_cast,seval,Za,hi0,hk0,hN0,hN]
 refine Zj ?_
 refine Zj ?_
 obtain ⟨y2,hy2,h⟩:=bC h
 refine Zb Zc [] ?_
 simp only [push_cast,seval,Za,hi0,hk0,hN0,hN]
 refine (Xi hy2).then ?_
 simp only [push_cast,seval,Za,hi0,hk0,hN0,hN]
 refine Zl [0,2,4,12,13] [true] ?_
 simp only [push_cast,seval]
 refine Zl [0,2,4,12,13] [true] ?_
 simp only [push_cast,seval]
 obtain ⟨z10,hz10,h⟩:=bC h
 refine Zkc (J:=(Zaq (fun z10=>JR n (⟨34,[],[(6,.val (.int .i64 z10.1))]⟩:Env) (Zy (O.upd i0 (some ⟨false,77,1,1,[.val (.int .i64 z10.2)]⟩)) n [none]) (n+1)) (fun z10=>JX 0 n (⟨34,[],[]⟩:Env) (Zy (O.upd i0 (some ⟨false,77,1,1,[.val (.int .i64 z10)]⟩)) n [none]) (n+1)))) (z:=z10) ?_ fun hw => ?_
 ·refine Jq hz10 (fun s0_=>⟨34,[],[(0,.ref i0 0),(2,.val (.int .i64 a2)),(4,.ref n 0),(12,.val (.int .i64 y2)),(13,.val (.int .i64 s0_.1))]⟩) (fun s0_=>(Zy (O.upd i0 (some ⟨false,77,1,1,[.val (.int .i64 s0_.2)]⟩)) n [some ⟨false,56,9,1,(Zn a1)⟩])) (Zaq (fun z10=>JR n (⟨34,[],[(6,.val (.int .i64 z10.1))]⟩:Env) (Zy (O.upd i0 (some ⟨false,77,1,1,[.val (.int .i64 z10.2)]⟩)) n [none]) (n+1)) (fun z10=>JX 0 n (⟨34,[],[]⟩:Env) (Zy (O.upd i0 (some ⟨false,77,1,1,[.val (.int .i64 z10)]⟩)) n [none]) (n+1))) ?_
  intro s0_ x0_ hs0_
  unfold Qh at hs0_
  try dsimp only
  refine Zp [0,2,4,12,13,14] (Zb Zc [] ?_)
  simp only [push_cast,seval,Za,hi0,hk0,hN0,hN]
  refine Zj ?_
  refine Zs (t:=(decide (s0_.1 < y2))) rfl (fun c9 => ?_) (fun c9 => ?_)
  ·replace hs0_:=Z3 c9 hs0_
   refine Zw ?_
   try simp only [Zk,Zg]
   refine Zl [0,2,4,12,13] [true] ?_
   simp only [push_cast,seval]
   refine Zj ?_
   refine Yn ?_
   refine Zp [0,2,4,7,12,13] (Zb Zc [] ?_)
   simp only [push_cast,seval,Za,hi0,hk0,hN0,hN]
   refine Zj ?_
   obtain ⟨y4,hy4,hs0_⟩:=bC hs0_
   refine Zb Zc [] ?_
   simp only [push_cast,seval,Za,hi0,hk0,hN0,hN]
   refine (Zdh hy4).then ?_
   simp only [push_cast,seval,Za,hi0,hk0,hN0,hN]
   refine Zl [0,2,4,8,9,12,13] [true,true] ?_
   simp only [push_cast,seval]
   refine Zj ?_
   refine Zp [0,2,4,8,9,12,13,23] (Zb Zc [] ?_)
   simp only [push_cast,seval,Za,hi0,hk0,hN0,hN]
   refine Zs (t:=(y4.2 != 0)) rfl (fun c8 => ?_) (fun c8 => ?_)
   ·replace hs0_:=Z3 c8 hs0_
    refine Zp [6] (Zb Zc [] ?_)
    simp only [push_cast,seval,Za,hi0,hk0,hN0,hN]
    refine Zu ?_
    try simp only [Zk,Zg]
    have hs0_:=Option.some.inj hs0_;subst hs0_
    refine And.intro (fun h=>by cases h) (And.intro rfl (Fit2.of (Yu hU rfl rfl ?_) (by omega)))
    simp only [push_cast,seval,Za,hi0,hk0,hN0,hN]
   replace hs0_:=Z0 c8 hs0_
   refine Zw ?_
   try simp only [Zk,Zg]
   refine Zl [0,2,4,8,12,13] [true,true] ?_
   simp only [push_cast,seval]
   refine Zj ?_
   obtain ⟨y6,hy6,hs0_⟩:=bC hs0_
   refine Zb Zc [] ?_
   simp only [push_cast,seval,Za,hi0,hk0,hN0,hN]
   refine (Kz (i0:=i0) (by omega) (by simp only [push_cast,seval,Za,Zc0,hi0,hk0,hN0,hN] <;> rfl) hy6).then ?_
   simp only [push_cast,seval,Za,hi0,hk0,hN0,hN]
   refine Zl [0,2,4,10,12,13] [true,false] ?_
   simp only [push_cast,seval]
   refine Zp [0,2,4,10,12,13,31] (Zb Zc [] ?_)
   simp only [push_cast,seval,Za,hi0,hk0,hN0,hN]
   refine Zs (t:=(y6.1 != 0)) rfl (fun c7 => ?_) (fun c7 => ?_)
   ·replace hs0_:=Z3 c7 hs0_
    refine Zp [6] (Zb Zc [] ?_)
    simp only [push_cast,seval,Za,hi0,hk0,hN0,hN]
    refine Zu ?_
    try simp only [Zk,Zg]
    have hs0_:=Option.some.inj hs0_;subst hs0_
    refine And.intro (fun h=>by cases h) (And.intro rfl (Fit2.of (Yu hU rfl rfl ?_) (by omega)))
    simp only [push_cast,seval,Za,hi0,hk0,hN0,hN]
   replace hs0_:=Z0 c7 hs0_
   refine Zw ?_
   try simp only [Zk,Zg]
   refine Zl [0,2,4,12,13] [true,false] ?_
   simp only [push_cast,seval]
   refine Zb Zc [] ?_
   simp only [push_cast,seval,Za,hi0,hk0,hN0,hN]
   have hs0_:=Option.some.inj hs0_;subst hs0_
   refine And.intro rfl (Fit2.of (Yu hU rfl rfl ?_) (by omega))
   simp only [push_cast,seval,Za,hi0,hk0,hN0,hN]
  replace hs0_:=Z0 c9 hs0_
  refine Jt ?_
  try simp only [Zk,Zg,↓reduceIte,Nat.reduceEqDiff]
  have hs0_:=Option.some.inj hs0_;subst hs0_
  refine And.intro (fun h=>by cases h) (And.intro rfl (Fit2.of (Yu hU rfl rfl ?_) (by omega)))
  simp only [push_cast,seval,Za,hi0,hk0,hN0,hN]
 rcases z10 with z10 | z10
 ·dsimp only [Zaq] at hw h
  refine Zcx hw ?_
  try simp only [Zk,Zg,↓reduceIte,Nat.reduceEqDiff]
  have h:=Option.some.inj h;subst h
  refine Zat (k:=0) (i:=i0) (q1:=⟨false,77,1,1,[.val (.int .i64 z10.2)]⟩) (L3:=[none]) (E2:=(⟨34,[],[(6,.val (.int .i64 z10.1))]⟩:Env)) (n3:=(n+1)) (.inr rfl) hU rfl [.val (.int .i64 z10.1)] ?_ ?_
  ·refine Fit2.trans (E':=(⟨34,[],[(6,.val (.int .i64 z10.1))]⟩:Env)) (O':=(Zy (O.upd i0 (some ⟨false,77,1,1,[.val (.int .i64 z10.2)]⟩)) n [none])) (n':=(n+1)) (Fit2.of (Yu hU rfl rfl ?_) (by omega)) ?_
   ·simp only [push_cast,seval,Za,hi0,hk0,hN0,hN]
   refine Gg (k:=1) (k':=1) hU [0] [0] rfl rfl rfl rfl ⟨rfl,rfl⟩ ?_
   simp only [push_cast,seval,Za,hi0,hk0,hN0,hN]
  simp only [push_cast,seval,Za,Try.results59,hi0,hk0,hN0,hN]
 dsimp only [Zaq] at hw h
 refine X1 hw ?_
 try simp only [Zk,Zg,↓reduceIte,Nat.reduceEqDiff]
 refine Zl [] [false] ?_
 simp only [push_cast,seval]
 refine Zp [6] (Zb Zc [] ?_)
 simp only [push_cast,seval,Za,hi0,hk0,hN0,hN]
 refine Zu ?_
 try simp only [Zk,Zg]
 have h:=Option.some.inj h;subst h
 refine Zat (k:=0) (i:=i0) (q1:=⟨false,77,1,1,[.val (.int .i64 z10)]⟩) (L3:=[none]) (E2:=(⟨34,[],[(6,.val (.int .i64 0))]⟩:Env)) (n3:=(n+1)) (.inr rfl) hU rfl [.val (.int .i64 0)] ?_ ?_
 ·refine Fit2.trans (E':=(⟨34,[],[(6,.val (.int .i64 0))]⟩:Env)) (O':=(Zy (O.upd i0 (some ⟨false,77,1,1,[.val (.int .i64 z10)]⟩)) n [none])) (n':=(n+1)) (Fit2.of (Yu hU rfl rfl ?_) (by omega)) ?_
  ·simp only [push_cast,seval,Za,hi0,hk0,hN0,hN]
  refine Gg (k:=1) (k':=1) hU [0] [0] rfl rfl rfl rfl ⟨rfl,rfl⟩ ?_
  simp only [push_cast,seval,Za,hi0,hk0,hN0,hN]
 simp only [push_cast,seval,Za,Try.results59,hi0,hk0,hN0,hN]
theorem Zhm:∀ k,(∀ {a0:Zh} {a1:Ze} {a2:Int} {r:(Int×Zh)} {O:Objs} {n:Nat} {i0:Nat},i0 < n→O i0=some ⟨false,77,1,1,[.val (.int .i64 a0.left)]⟩→(Zt k).1 a0 a1 a2=some r→GTo Try.prog 38 [.ref i0 0,.agg (Zn a1),.val (.int .i64 a2)] O n (.val (.int .i64 r.1)) (Zy (O.upd i0 (some ⟨false,77,1,1,[.val (.int .i64 r.2.left)]⟩)) n []) (n+0))∧(∀ {a0:Zh} {a1:Ze} {a2:Int} {r:(Int×Zh)} {O:Objs} {n:Nat} {i0:Nat},i0 < n→O i0=some ⟨false,77,1,1,[.val (.int .i64 a0.left)]⟩→(Zt k).2.1 a0 a1 a2=some r→GTo Try.prog 58 [.ref i0 0,.agg (Zn a1),.val (.int .i64 a2)] O n (.val (.int .i64 r.1)) (Zy (O.upd i0 (some ⟨false,77,1,1,[.val (.int .i64 r.2.left)]⟩)) n []) (n+0))∧(∀ {a0:Zh} {a1:Ze} {a2:Int} {r:(Int×Zh)} {O:Objs} {n:Nat} {i0:Nat},i0 < n→O i0=some ⟨false,77,1,1,[.val (.int .i64 a0.left)]⟩→(Zt k).2.2 a0 a1 a2=some r→GTo Try.prog 59 [.ref i0 0,.agg (Zn a1),.val (.int .i64 a2)] O n (.val (.int .i64 r.1)) (Zy (O.upd i0 (some ⟨false,77,1,1,[.val (.int .i64 r.2.left)]⟩)) n []) (n+0)):=fun k=>by
 induction k with
 | zero=>exact ⟨@fun a0 a1 a2 r O n i0 hi0 ho0 h=>(nomatch (show (none:Option _)=some _ from h)),@fun a0 a1 a2 r O n i0 hi0 ho0 h=>(nomatch (show (none:Option _)=some _ from h)),@fun a0 a1 a2 r O n i0 hi0 ho0 h=>(nomatch (show (none:Option _)=some _ from h))⟩
 | succ k ih=>exact ⟨@fun a0 a1 a2 r O n i0 hi0 ho0 h=>Zja (ih.1) (ih.2.1) (ih.2.2) hi0 ho0 h,@fun a0 a1 a2 r O n i0 hi0 ho0 h=>Zkp (ih.1) (ih.2.1) (ih.2.2) hi0 ho0 h,@fun a0 a1 a2 r O n i0 hi0 ho0 h=>Zho (ih.1) (ih.2.1) (ih.2.2) hi0 ho0 h⟩
theorem Zkn {a0:Zh} {a1:Ze} {a2:Int} {r:(Int×Zh)} {O:Objs} {n:Nat} {i0:Nat} (hi0:i0 < n) (ho0:O i0=some ⟨false,77,1,1,[.val (.int .i64 a0.left)]⟩) (h:Zal a0 a1 a2=some r):GTo Try.prog 38 [.ref i0 0,.agg (Zn a1),.val (.int .i64 a2)] O n (.val (.int .i64 r.1)) (Zy (O.upd i0 (some ⟨false,77,1,1,[.val (.int .i64 r.2.left)]⟩)) n []) (n+0):=by
 obtain ⟨k,hk⟩:=Zc8 h
 exact (Zhm k).1 hi0 ho0 hk
theorem Zu9 {a0:(Option Zm)} {a1:Ym} {r:(Int×Int)} {O:Objs} {n:Nat} (h:Zbu a0 a1=some r):GTo Try.prog 22 [(gP Zo a0),.agg (Xm a1)] O n (.tup [.val (.int .i64 r.1),.val (.int .i64 r.2)]) O n:=by
 unfold Zbu at h
 refine Yj Zc Try.call22 Try.func22 rfl (Nat.le_of_ble_eq_true rfl) (Nat.le_refl _) fun hU => ?_
 have hN0:O n=none:=hU.fresh _ (Nat.le_refl _)
 have hN:∀ k,O (n+k)=none:=fun k=>hU.fresh _ (Nat.le_add_right _ _)
 show W _ _ _ _ ⟨35,[],[(0,(gP Zo a0)),(1,.agg (Xm a1))]⟩ (Zy O n []) _
 refine Zp [0,3] (Zb Zc [] ?_)
 simp only [push_cast,seval,Za,hN0,hN]
 refine Zj ?_
 obtain ⟨y2,hy2,h⟩:=bC h
 refine Zb Zc [] ?_
 simp only [push_cast,seval,Za,hN0,hN]
 refine (Zt1 hy2).then ?_
 simp only [push_cast,seval,Za,hN0,hN]
 refine Zl [0,3] [true] ?_
 simp only [push_cast,seval]
 refine Zj ?_
 obtain ⟨y4,hy4,h⟩:=bC h
 refine Zb Zc [] ?_
 simp only [push_cast,seval,Za,hN0,hN]
 refine (Zls hy4).then ?_
 simp only [push_cast,seval,Za,hN0,hN]
 refine Zl [3,6,7] [true,true] ?_
 simp only [push_cast,seval]
 refine Zj ?_
 refine Zp [3,6,7,18] (Zb Zc [] ?_)
 simp only [push_cast,seval,Za,hN0,hN]
 refine Zs (t:=(y4.2 != 0)) rfl (fun c8 => ?_) (fun c8 => ?_)
 ·replace h:=Z3 c8 h
  refine Zp [4,5] (Zb Zc [] ?_)
  simp only [push_cast,seval,Za,hN0,hN]
  refine Zu ?_
  try simp only [Zk,Zg]
  have h:=Option.some.inj h;subst h
  refine Zq (.inr rfl) hU [.val (.int .i64 0),.val (.int .i64 y4.2)] (by omega) ?_
  simp only [push_cast,seval,Za,Try.results22,hN0,hN]
 replace h:=Z0 c8 h
 refine Zw ?_
 try simp only [Zk,Zg]
 refine Zl [3,6] [true,true] ?_
 simp only [push_cast,seval]
 refine Zj ?_
 refine Zb Zc [] ?_
 simp only [push_cast,seval,Za,hN0,hN]
 refine Zl [3,6,8] [true,true,true] ?_
 simp only [push_cast,seval]
 refine Zj ?_
 refine Zj ?_
 obtain ⟨y6,hy6,h⟩:=bC h
 refine Zb Zc [] ?_
 simp only [push_cast,seval,Za,hN0,hN]
 refine (Zkn (i0:=(n+2)) (by omega) (by simp only [push_cast,seval,Za,Zc0,hN0,hN] <;> rfl) hy6).then ?_
 simp only [push_cast,seval,Za,hN0,hN]
 refine Zl [3,8,9] [true,false,true] ?_
 simp only [push_cast,seval]
 refine Zp [3,8,9,28] (Zb Zc [] ?_)
 simp only [push_cast,seval,Za,hN0,hN]
 refine Zs (t:=(y6.1 != 0)) rfl (fun c7 => ?_) (fun c7 => ?_)
 ·replace h:=Z3 c7 h
  refine Zp [4,5] (Zb Zc [] ?_)
  simp only [push_cast,seval,Za,hN0,hN]
  refine Zu ?_
  try simp only [Zk,Zg]
  have h:=Option.some.inj h;subst h
  refine Zq (.inr rfl) hU [.val (.int .i64 0),.val (.int .i64 y6.1)] (by omega) ?_
  simp only [push_cast,seval,Za,Try.results22,hN0,hN]
 replace h:=Z0 c7 h
 refine Zw ?_
 try simp only [Zk,Zg]
 refine Zl [3,8] [true,false,true] ?_
 simp only [push_cast,seval]
 refine Zp [4,5] (Zb Zc [] ?_)
 simp only [push_cast,seval,Za,hN0,hN]
 refine Zu ?_
 try simp only [Zk,Zg]
 have h:=Option.some.inj h;subst h
 refine Zq (.inr rfl) hU [.val (.int .i64 (IntKind.i64.wrap (y2.Weight - y6.2.left))),.val (.int .i64 0)] (by omega) ?_
 simp only [push_cast,seval,Za,Try.results22,hN0,hN]
theorem Zr7 {a0:Ze} {r:Int} {O:Objs} {n:Nat} (h:G0 a0=some r):GTo Try.prog 62 [.agg (Zn a0)] O n (.val (.int .i64 r)) O n:=by
 unfold G0 at h
 refine Yj Zc Try.call62 Try.func62 rfl (Nat.le_of_ble_eq_true rfl) (Nat.le_refl _) fun hU => ?_
 have hN0:O n=none:=hU.fresh _ (Nat.le_refl _)
 have hN:∀ k,O (n+k)=none:=fun k=>hU.fresh _ (Nat.le_add_right _ _)
 show W _ _ _ _ ⟨20,[],[(0,.agg (Zn a0))]⟩ (Zy O n []) _
 refine Zp [1] (Zb Zc [] ?_)
 simp only [push_cast,seval,Za,hN0,hN]
 refine Zj ?_
 refine Zj ?_
 obtain ⟨y2,hy2,h⟩:=bC h
 refine Zb Zc [] ?_
 simp only [push_cast,seval,Za,hN0,hN]
 refine (Xj hy2).then ?_
 simp only [push_cast,seval,Za,hN0,hN]
 refine Zl [1,4] [true] ?_
 simp only [push_cast,seval]
 refine Yn ?_
 refine Zp [1,4,5] (Zb Zc [] ?_)
 simp only [push_cast,seval,Za,hN0,hN]
 refine Zs (t:=(y2 == 0)) rfl (fun c11 => ?_) (fun c11 => ?_)
 ·replace h:=Z3 c11 h
  refine Zp [2] (Zb Zc [] ?_)
  simp only [push_cast,seval,Za,hN0,hN]
  refine Zu ?_
  try simp only [Zk,Zg]
  have h:=Option.some.inj h;subst h
  refine Zq (.inr rfl) hU [.val (.int .i64 0)] (by omega) ?_
  simp only [push_cast,seval,Za,Try.results62,hN0,hN]
 replace h:=Z0 c11 h
 refine Zp [1,4,7] (Zb Zc [] ?_)
 simp only [push_cast,seval,Za,hN0,hN]
 refine Zs (t:=(y2 == 1)) rfl (fun c10 => ?_) (fun c10 => ?_)
 ·replace h:=Z3 c10 h
  refine Zj ?_
  obtain ⟨y5,hy5,h⟩:=bC h
  obtain ⟨y6,hy6,h⟩:=bC h
  refine V6 Zc (by kernel_rfl) [] (by kernel_rfl) ?_
  simp only [push_cast,seval,Za,hN0,hN]
  refine PCall.of (U2 hy5) ?_
  simp only [push_cast,seval,Za,hN0,hN]
  refine PCall.of (Xi hy6) ?_
  simp only [push_cast,seval,Za,hN0,hN]
  refine Zl [2] [false] ?_
  simp only [push_cast,seval]
  refine Zu ?_
  try simp only [Zk,Zg]
  have h:=Option.some.inj h;subst h
  refine Zq (.inr rfl) hU [.val (.int .i64 (IntKind.i64.wrap ((IntKind.i64.wrap (1+y5))+y6)))] (by omega) ?_
  simp only [push_cast,seval,Za,Try.results62,hN0,hN]
 replace h:=Z0 c10 h
 refine Zp [1,15] (Zb Zc [] ?_)
 simp only [push_cast,seval,Za,hN0,hN]
 refine Zs (t:=(y2 == 8)) rfl (fun c9 => ?_) (fun c9 => ?_)
 ·replace h:=Z3 c9 h
  refine Zj ?_
  obtain ⟨y8,hy8,h⟩:=bC h
  refine Zb Zc [] ?_
  simp only [push_cast,seval,Za,hN0,hN]
  refine (Xi hy8).then ?_
  simp only [push_cast,seval,Za,hN0,hN]
  refine Zl [2] [false] ?_
  simp only [push_cast,seval]
  refine Zu ?_
  try simp only [Zk,Zg]
  have h:=Option.some.inj h;subst h
  refine Zq (.inr rfl) hU [.val (.int .i64 (IntKind.i64.wrap (1+y8)))] (by omega) ?_
  simp only [push_cast,seval,Za,Try.results62,hN0,hN]
 replace h:=Z0 c9 h
 refine Zw ?_
 try simp only [Zk,Zg]
 refine Zl [] [false] ?_
 simp only [push_cast,seval]
 refine Zp [2] (Zb Zc [] ?_)
 simp only [push_cast,seval,Za,hN0,hN]
 refine Zu ?_
 try simp only [Zk,Zg]
 have h:=Option.some.inj h;subst h
 refine Zq (.inr rfl) hU [.val (.int .i64 1)] (by omega) ?_
 simp only [push_cast,seval,Za,Try.results62,hN0,hN]
theorem Zt0 {a0:Ze} {r:Bool} {O:Objs} {n:Nat} (h:Za5 a0=some r):GTo Try.prog 63 [.agg (Zn a0)] O n (.val (.bool r)) O n:=by
 unfold Za5 at h
 refine Yj Zc Try.call63 Try.func63 rfl (Nat.le_of_ble_eq_true rfl) (Nat.le_refl _) fun hU => ?_
 have hN0:O n=none:=hU.fresh _ (Nat.le_refl _)
 have hN:∀ k,O (n+k)=none:=fun k=>hU.fresh _ (Nat.le_add_right _ _)
 show W _ _ _ _ ⟨11,[],[(0,.agg (Zn a0))]⟩ (Zy O n []) _
 refine Zp [1] (Zb Zc [] ?_)
 simp only [push_cast,seval,Za,hN0,hN]
 obtain ⟨z4,hz4,h⟩:=bC h
 refine Xk (E':=⟨11,[],[(2,.val (.bool z4))]⟩) (O':=(Zy O n [none])) (n0:=(n+1)) ?_ ?_
 ·obtain ⟨y8,hy8,hz4⟩:=bC hz4
  rcases Bool.eq_false_or_eq_true (y8 == 1) with c11 | c11
  ·replace hz4:=Z3 c11 hz4
   refine Zb Zc (Z95 []) ?_
   simp only [push_cast,seval,Za,c11,hN0,hN]
   refine (Xj hy8).then ?_
   simp only [push_cast,seval,Za,c11,hN0,hN]
   have hz4:=Option.some.inj hz4;subst hz4
   refine And.intro rfl (Fit2.of (Zr hU rfl rfl ?_) (by omega))
   simp only [push_cast,seval,Za,c11,hN0,hN]
  replace hz4:=Z0 c11 hz4
  obtain ⟨y9,hy9,hz4⟩:=bC hz4
  obtain ⟨y10,hy10,hz4⟩:=bC hz4
  refine Zb Zc (Z1k []) ?_
  simp only [push_cast,seval,Za,c11,hN0,hN]
  refine (Xj hy8).then ?_
  simp only [push_cast,seval,Za,c11,hN0,hN]
  refine (Xj hy9).then ?_
  simp only [push_cast,seval,Za,c11,hN0,hN]
  refine (Zqx hy10).then ?_
  simp only [push_cast,seval,Za,c11,hN0,hN]
  have hz4:=Option.some.inj hz4;subst hz4
  refine And.intro rfl (Fit2.of (Zr hU rfl rfl ?_) (by omega))
  simp only [push_cast,seval,Za,c11,hN0,hN]
 refine Zu ?_
 try simp only [Zk,Zg]
 have h:=Option.some.inj h;subst h
 refine Zq (.inr rfl) hU [.val (.bool z4)] (by omega) ?_
 simp only [push_cast,seval,Za,Try.results63,hN0,hN]
theorem Z1m {a0:(List Int)} {a1:Int} {a2:Int} {r:Int} {O:Objs} {n:Nat} (h:Zg0 a0 a1 a2=some r):GTo Try.prog 89 [.sl a0.length (fl (eI .u64) a0),.val (.int .i64 a1),.val (.int .i64 a2)] O n (.val (.int .u64 r)) O n:=by
 unfold Zg0 at h
 refine Yj Zc Try.call89 Try.func89 rfl (Nat.le_of_ble_eq_true rfl) (Nat.le_refl _) fun hU => ?_
 have hN0:O n=none:=hU.fresh _ (Nat.le_refl _)
 have hN:∀ k,O (n+k)=none:=fun k=>hU.fresh _ (Nat.le_add_right _ _)
 show W _ _ _ _ ⟨45,[],[(0,.sl a0.length (fl (eI .u64) a0)),(1,.val (.int .i64 a1)),(2,.val (.int .i64 a2))]⟩ (Zy O n []) _
 refine Zp [0,1,2] (Zb Zc [] ?_)
 simp only [push_cast,seval,Za,hN0,hN]
 refine Zj ?_
 obtain ⟨y2,hy2,h⟩:=bC h
 refine Zb Zc [] ?_
 simp only [push_cast,seval,Za,hN0,hN]
 refine (Zbv hy2).then ?_
 simp only [push_cast,seval,Za,hN0,hN]
 refine Zl [0,2,7] [] ?_
 simp only [push_cast,seval]
 refine Zj ?_
 refine Zp [0,2,7,20] (Zb Zc [none,none] ?_)
 simp only [push_cast,seval,Za,hN0,hN]
 repeat (with_reducible refine And.intro (by first | (intro h0;simp only [h0,and_self];done) | (intro h0;simp only [h0,Bool.not_false,Bool.not_true,Bool.true_and,Bool.and_true,true_and,and_true,and_self,imp_self,implies_true,bne_iff_ne,ne_eq,beq_iff_eq];done) | (intros;simp_all;done) | exact True.intro) ?_)
 refine Zs (t:=(cond (y2.1 == 0) true (decide (a2 < 0)))) rfl (fun c18 => ?_) (fun c18 => ?_)
 ·replace h:=Z3 c18 h
  refine Zp [6] (Zb Zc [] ?_)
  simp only [push_cast,seval,Za,hN0,hN]
  refine Zu ?_
  try simp only [Zk,Zg]
  have h:=Option.some.inj h;subst h
  refine Zq (.inr rfl) hU [.val (.int .u64 0)] (by omega) ?_
  simp only [push_cast,seval,Za,Try.results89,hN0,hN]
 replace h:=Z0 c18 h
 refine Zw ?_
 try simp only [Zk,Zg]
 refine Zl [0,2,7] [] ?_
 simp only [push_cast,seval]
 obtain ⟨pu4,h⟩:=bG h
 refine Zp [0,2,7,9] (Zb Zc [] ?_)
 simp only [push_cast,seval,Za,pu4,hN0,hN]
 refine Zj ?_
 obtain ⟨pu6,h⟩:=bG h
 refine Zp [0,2,7,9,28] (Zb Zc [] ?_)
 simp only [push_cast,seval,Za,pu6,hN0,hN]
 refine Zs (t:=(decide ((a0.length:Int)≤(IntKind.i64.wrap (Int.tdiv a2 (IntKind.i64.wrap (Int.tdiv 64 y2.1))))))) rfl (fun c17 => ?_) (fun c17 => ?_)
 ·replace h:=Z3 c17 h
  refine Zp [6] (Zb Zc [] ?_)
  simp only [push_cast,seval,Za,hN0,hN]
  refine Zu ?_
  try simp only [Zk,Zg]
  have h:=Option.some.inj h;subst h
  refine Zq (.inr rfl) hU [.val (.int .u64 0)] (by omega) ?_
  simp only [push_cast,seval,Za,Try.results89,hN0,hN]
 replace h:=Z0 c17 h
 refine Zw ?_
 try simp only [Zk,Zg]
 refine Zl [0,2,7,9] [] ?_
 simp only [push_cast,seval]
 obtain ⟨pu12,h⟩:=bG h
 obtain ⟨x13,hx13,ax13,bx13,cx13,h⟩:=bE (f:=(eI .u64)) Zap (fun _=>rfl) (by decide) h
 obtain ⟨pu14,h⟩:=bG h
 obtain ⟨pu15,h⟩:=bG h
 obtain ⟨pu16,h⟩:=bG h
 refine Zp [6] (V6 Zc (by kernel_rfl) [] (by kernel_rfl) ?_)
 simp only [push_cast,Nat.reduceAdd,Nat.reduceSub,Nat.reduceMul,Nat.reduceLeDiff,Nat.reduceLT,Nat.reduceEqDiff,↓reduceIte,reduceCtorEq,Int.reduceBEq,Int.reduceBNe,Nat.reduceBEq,Int.reduceLE,Int.reduceLT,Int.reduceEq,Int.reduceNe,Int.reduceNeg,Nat.reduceDiv,Nat.reduceMod,Nat.reducePow,Za,pu12,ax13,bx13,cx13,pu14,pu15,pu16,hN0,hN]
 refine Zu ?_
 try simp only [Zk,Zg]
 have h:=Option.some.inj h;subst h
 refine Zq (.inr rfl) hU [.val (.int .u64 (IntKind.u64.wrap (Zaz .u64 (Int.fdiv x13 (2 ^ min (Int.toNat (IntKind.i64.wrap ((Int.tmod a2 (IntKind.i64.wrap (Int.tdiv 64 y2.1))) * y2.1))) 64)) (IntKind.u64.wrap ((IntKind.u64.wrap (1 * 2 ^ min (Int.toNat y2.1) 64)) - 1)))))] (by omega) ?_
 simp only [push_cast,seval,Za,Try.results89,hN0,hN]
theorem Zlr {a0:Ze} {r:Int} {O:Objs} {n:Nat} (h:K9 a0=some r):GTo Try.prog 80 [.agg (Zn a0)] O n (.val (.int .u64 r)) O n:=by
 unfold K9 at h
 refine Yj Zc Try.call80 Try.func80 rfl (Nat.le_of_ble_eq_true rfl) (Nat.le_refl _) fun hU => ?_
 have hN0:O n=none:=hU.fresh _ (Nat.le_refl _)
 have hN:∀ k,O (n+k)=none:=fun k=>hU.fresh _ (Nat.le_add_right _ _)
 show W _ _ _ _ ⟨42,[],[(0,.agg (Zn a0))]⟩ (Zy O n []) _
 refine Zp [1] (Zb Zc [] ?_)
 simp only [push_cast,seval,Za,hN0,hN]
 refine Zj ?_
 obtain ⟨y2,hy2,h⟩:=bC h
 refine Zb Zc [] ?_
 simp only [push_cast,seval,Za,hN0,hN]
 refine (Zbv hy2).then ?_
 simp only [push_cast,seval,Za,hN0,hN]
 refine Zl [1,3] [true] ?_
 simp only [push_cast,seval]
 refine Zj ?_
 refine Zp [1,3,15] (Zb Zc [] ?_)
 simp only [push_cast,seval,Za,hN0,hN]
 refine Zs (t:=(y2.1 == 0)) rfl (fun c13 => ?_) (fun c13 => ?_)
 ·replace h:=Z3 c13 h
  refine Zp [2] (Zb Zc [] ?_)
  simp only [push_cast,seval,Za,hN0,hN]
  refine Zu ?_
  try simp only [Zk,Zg]
  have h:=Option.some.inj h;subst h
  refine Zq (.inr rfl) hU [.val (.int .u64 0)] (by omega) ?_
  simp only [push_cast,seval,Za,Try.results80,hN0,hN]
 replace h:=Z0 c13 h
 refine Zw ?_
 try simp only [Zk,Zg]
 refine Zl [1,3] [true] ?_
 simp only [push_cast,seval]
 obtain ⟨pu4,h⟩:=bG h
 refine Zp [1,5] (Zb Zc [] ?_)
 simp only [push_cast,seval,Za,pu4,hN0,hN]
 refine Zj ?_
 obtain ⟨pu7,h⟩:=bG h
 obtain ⟨y8,hy8,h⟩:=bC h
 refine V6 Zc (by kernel_rfl) [] (by kernel_rfl) ?_
 simp only [push_cast,seval,Za,pu7,hN0,hN]
 refine PCall.of (Vz hy8) ?_
 simp only [push_cast,seval,Za,pu7,hN0,hN]
 refine Zl [1,5,6] [true] ?_
 simp only [push_cast,seval]
 refine Zj ?_
 obtain ⟨pu11,h⟩:=bG h
 obtain ⟨y12,hy12,h⟩:=bC h
 refine U0 Zc (by kernel_rfl) [.plain,.pass,.low,.low,.low,.low,.plain,.low,.bar,.plain] (fun i=>i < (n+1)) [0,2,3,4,5,6,7,1,8,9] [.plain,.low,.low,.low,.low,.plain,.low,.pass,.bar,.plain] [] (by kernel_rfl) rfl ?_
 simp only [push_cast,seval,Za,pu11,hN0,hN]
 repeat (with_reducible refine And.intro (by first | omega | exact U4 rfl | exact Vq | exact Zbb rfl | exact Zbr rfl rfl | exact Uq rfl | exact Ud rfl) ?_)
 refine GCalls.lend (Z1m hy12) rfl ?_ ?_
 ·simp only [push_cast,seval,Za,pu11,hN0,hN]
 simp only [push_cast,seval,Za,pu11,hN0,hN]
 repeat (with_reducible refine And.intro (by first | omega | exact U4 rfl | exact Vq | exact Zbb rfl | exact Zbr rfl rfl | exact Uq rfl | exact Ud rfl) ?_)
 refine Zb2 ⟨42,[],[(2,.val (.int .u64 y12))]⟩ (Zy O n [none,none]) (Zr hU rfl rfl ?_) ?_
 ·simp only [push_cast,seval,Za,pu11,hN0,hN]
 refine Zu ?_
 try simp only [Zk,Zg]
 have h:=Option.some.inj h;subst h
 refine Zq (.inr rfl) hU [.val (.int .u64 y12)] (by omega) ?_
 simp only [push_cast,seval,Za,Try.results80,hN0,hN]
theorem Zg4 {a0:Ze} {a1:Int} {r:Int} {O:Objs} {n:Nat} (h:Um a0 a1=some r):GTo Try.prog 65 [.agg (Zn a0),.val (.int .i64 a1)] O n (.val (.int .u64 r)) O n:=by
 unfold Um at h
 refine Yj Zc Try.call65 Try.func65 rfl (Nat.le_of_ble_eq_true rfl) (Nat.le_refl _) fun hU => ?_
 have hN0:O n=none:=hU.fresh _ (Nat.le_refl _)
 have hN:∀ k,O (n+k)=none:=fun k=>hU.fresh _ (Nat.le_add_right _ _)
 show W _ _ _ _ ⟨33,[],[(0,.agg (Zn a0)),(1,.val (.int .i64 a1))]⟩ (Zy O n []) _
 refine Zp [1,2] (Zb Zc [] ?_)
 simp only [push_cast,seval,Za,hN0,hN]
 refine Zj ?_
 obtain ⟨z2,hz2,h⟩:=bC h
 refine Xk (E':=⟨33,[],[(1,.val (.int .i64 a1)),(2,.ref n 0),(14,.val (.bool z2))]⟩) (O':=(Zy O n [some ⟨false,56,9,1,(Zn a0)⟩])) (n0:=(n+1)) ?_ ?_
 ·rcases Bool.eq_false_or_eq_true (decide (a1 < 0)) with c5 | c5
  ·replace hz2:=Z3 c5 hz2
   refine Zb Zc (Z5v []) ?_
   simp only [push_cast,seval,Za,c5,hN0,hN]
   have hz2:=Option.some.inj hz2;subst hz2
   refine And.intro rfl (Fit2.of (Zr hU rfl rfl ?_) (by omega))
   simp only [push_cast,seval,Za,c5,hN0,hN]
  replace hz2:=Z0 c5 hz2
  obtain ⟨y4,hy4,hz2⟩:=bC hz2
  refine Zb Zc (Z5x []) ?_
  simp only [push_cast,seval,Za,c5,hN0,hN]
  refine (U2 hy4).then ?_
  simp only [push_cast,seval,Za,c5,hN0,hN]
  have hz2:=Option.some.inj hz2;subst hz2
  refine And.intro rfl (Fit2.of (Zr hU rfl rfl ?_) (by omega))
  simp only [push_cast,seval,Za,c5,hN0,hN]
 refine Zs (t:=z2) rfl (fun c11 => ?_) (fun c11 => ?_)
 ·replace h:=Z3 c11 h
  refine Zp [4] (Zb Zc [] ?_)
  simp only [push_cast,seval,Za,hN0,hN]
  refine Zu ?_
  try simp only [Zk,Zg]
  have h:=Option.some.inj h;subst h
  refine Zq (.inr rfl) hU [.val (.int .u64 0)] (by omega) ?_
  simp only [push_cast,seval,Za,Try.results65,hN0,hN]
 replace h:=Z0 c11 h
 refine Zw ?_
 try simp only [Zk,Zg]
 refine Zl [1,2] [true] ?_
 simp only [push_cast,seval]
 refine Zj ?_
 refine Zp [1,2,17] (Zb Zc [] ?_)
 simp only [push_cast,seval,Za,hN0,hN]
 refine Zs (t:=(a0.kind == 10)) rfl (fun c10 => ?_) (fun c10 => ?_)
 ·replace h:=Z3 c10 h
  refine Zj ?_
  obtain ⟨y7,hy7,h⟩:=bC h
  refine Zb Zc [] ?_
  simp only [push_cast,seval,Za,hN0,hN]
  refine (Zlr hy7).then ?_
  simp only [push_cast,seval,Za,hN0,hN]
  refine Zl [4] [false] ?_
  simp only [push_cast,seval]
  refine Zu ?_
  try simp only [Zk,Zg]
  have h:=Option.some.inj h;subst h
  refine Zq (.inr rfl) hU [.val (.int .u64 y7)] (by omega) ?_
  simp only [push_cast,seval,Za,Try.results65,hN0,hN]
 replace h:=Z0 c10 h
 refine Zw ?_
 try simp only [Zk,Zg]
 refine Zl [1,2] [true] ?_
 simp only [push_cast,seval]
 refine Zj ?_
 obtain ⟨y9,hy9,h⟩:=bC h
 refine Zb Zc [] ?_
 simp only [push_cast,seval,Za,hN0,hN]
 refine (Vz hy9).then ?_
 simp only [push_cast,seval,Za,hN0,hN]
 refine Zl [5] [false] ?_
 simp only [push_cast,seval]
 refine Zp [4] (Zb Zc [] ?_)
 simp only [push_cast,seval,Za,hN0,hN]
 refine Zu ?_
 try simp only [Zk,Zg]
 have h:=Option.some.inj h;subst h
 refine Zq (.inr rfl) hU [.val (.int .u64 y9.1)] (by omega) ?_
 simp only [push_cast,seval,Za,Try.results65,hN0,hN]
theorem Zhn {Qb:(Zv→Ze→Int→Option (Zd×Int×Zv))} (Zg3:∀ {a0:Zv} {a1:Ze} {a2:Int} {r:(Zd×Int×Zv)} {O:Objs} {n:Nat} {i0:Nat},i0 < n→O i0=some ⟨false,81,1,1,[.val (.int .i64 a0.left)]⟩→Qb a0 a1 a2=some r→GTo Try.prog 40 [.ref i0 0,.agg (Zn a1),.val (.int .i64 a2)] O n (.tup [.agg (Zf r.1),.val (.int .i64 r.2.1)]) (Zy (O.upd i0 (some ⟨false,81,1,1,[.val (.int .i64 r.2.2.left)]⟩)) n []) (n+0)) {a0:Zv} {a1:Ze} {a2:Int} {r:(Zd×Int×Zv)} {O:Objs} {n:Nat} {i0:Nat} (hi0:i0 < n) (ho0:O i0=some ⟨false,81,1,1,[.val (.int .i64 a0.left)]⟩) (h:Y6 Qb a0 a1 a2=some r):GTo Try.prog 40 [.ref i0 0,.agg (Zn a1),.val (.int .i64 a2)] O n (.tup [.agg (Zf r.1),.val (.int .i64 r.2.1)]) (Zy (O.upd i0 (some ⟨false,81,1,1,[.val (.int .i64 r.2.2.left)]⟩)) n []) (n+0):=by
 unfold Y6 at h
 refine Yj Zc Try.call40 Try.func40 rfl (Nat.le_of_ble_eq_true rfl) (by omega) fun hU => ?_
 rw [show Zy O n []=Zy (O.upd i0 (some ⟨false,81,1,1,[.val (.int .i64 a0.left)]⟩)) n [] from by rw [Zri (show O i0=_ from by exact ho0)]]
 have hk0:∀ k,i0 < n+k:=fun k=>by omega
 have hN0:∀ o,Objs.upd O i0 o n=none:=fun o=>Zct hU hi0 _ (Nat.le_refl _)
 have hN:∀ o k,Objs.upd O i0 o (n+k)=none:=fun o k=>Zct hU hi0 _ (Nat.le_add_right _ _)
 show W _ _ _ _ ⟨89,[],[(0,.ref i0 0),(1,.agg (Zn a1)),(2,.val (.int .i64 a2))]⟩ (Zy (O.upd i0 (some ⟨false,81,1,1,[.val (.int .i64 a0.left)]⟩)) n []) _
 refine Zp [0,2,4,6] (Zb Zc [] ?_)
 simp only [push_cast,seval,Za,hi0,hk0,hN0,hN]
 refine Zj ?_
 obtain ⟨y2,hy2,h⟩:=bC h
 refine Zl2 Zc (by kernel_rfl) [false,false,false,false,false,false,false,false,false,true] [] (by kernel_rfl) ?_
 simp only [push_cast,seval,Za,hi0,hk0,hN0,hN]
 refine PCall.of (Zr7 hy2) ?_
 simp only [push_cast,seval,Za,hi0,hk0,hN0,hN]
 refine Zl [0,2,4,6] [true,true] ?_
 simp only [push_cast,seval]
 refine Zj ?_
 obtain ⟨z4,hz4,h⟩:=bC h
 refine Xk (E':=⟨89,[],[(0,.ref i0 0),(2,.val (.int .i64 a2)),(4,.ref n 0),(6,.ref (n+1) 0),(35,.val (.bool z4))]⟩) (O':=(Zy (O.upd i0 (some ⟨false,81,1,1,[.val (.int .i64 (IntKind.i64.wrap (a0.left - y2)))]⟩)) n [some ⟨false,56,9,1,(Zn a1)⟩,some ⟨false,25,3,1,[.val (.int .i64 0),.val (.slice none 0 0),.val (.slice none 0 0)]⟩])) (n0:=(n+2)) ?_ ?_
 ·rcases Bool.eq_false_or_eq_true (decide ((IntKind.i64.wrap (a0.left - y2)) < 0)) with c7 | c7
  ·replace hz4:=Z3 c7 hz4
   refine Zb Zc (Z72 []) ?_
   simp only [push_cast,seval,Za,c7,hi0,hk0,hN0,hN]
   have hz4:=Option.some.inj hz4;subst hz4
   refine And.intro rfl (Fit2.of (Yu hU rfl rfl ?_) (by omega))
   simp only [push_cast,seval,Za,c7,hi0,hk0,hN0,hN]
  replace hz4:=Z0 c7 hz4
  rcases Bool.eq_false_or_eq_true (a2 == 0) with c8 | c8
  ·replace hz4:=Z3 c8 hz4
   try rw [c8] at c7
   obtain ⟨y6,hy6,hz4⟩:=bC hz4
   refine Zb Zc (Z73 []) ?_
   simp only [push_cast,seval,Za,c7,c8,hi0,hk0,hN0,hN]
   refine (Zt0 hy6).then ?_
   simp only [push_cast,seval,Za,c7,c8,hi0,hk0,hN0,hN]
   have hz4:=Option.some.inj hz4;subst hz4
   refine And.intro rfl (Fit2.of (Yu hU rfl rfl ?_) (by omega))
   simp only [push_cast,seval,Za,c7,c8,hi0,hk0,hN0,hN]
  replace hz4:=Z0 c8 hz4
  try rw [c8] at c7
  refine Zb Zc (Z1k (oFf::oFf::[oTt])) ?_
  simp only [push_cast,seval,Za,c7,c8,hi0,hk0,hN0,hN]
  have hz4:=Option.some.inj hz4;subst hz4
  refine And.intro rfl (Fit2.of (Yu hU rfl rfl ?_) (by omega))
  simp only [push_cast,seval,Za,c7,c8,hi0,hk0,hN0,hN]
 refine Zs (t:=z4) rfl (fun c28 => ?_) (fun c28 => ?_)
 ·replace h:=Z3 c28 h
  refine Zj ?_
  refine Zb Zc [] ?_
  simp only [push_cast,seval,Za,hi0,hk0,hN0,hN]
  refine Zl [6,7] [false,true] ?_
  simp only [push_cast,seval]
  refine Zu ?_
  try simp only [Zk,Zg]
  have h:=Option.some.inj h;subst h
  refine Zat (k:=0) (i:=i0) (q1:=⟨false,81,1,1,[.val (.int .i64 (IntKind.i64.wrap (a0.left - y2)))]⟩) (L3:=[some ⟨false,25,3,1,[.val (.int .i64 0),.val (.slice none 0 0),.val (.slice none 0 0)]⟩,none]) (E2:=(⟨89,[],[(6,.ref n 0),(7,.val (.int .i64 3))]⟩:Env)) (n3:=(n+2)) (.inr rfl) hU rfl [.agg [.val (.int .i64 0),.val (.slice none 0 0),.val (.slice none 0 0)],.val (.int .i64 3)] ?_ ?_
  ·refine Fit2.trans (E':=(⟨89,[],[(6,.ref (n+1) 0),(7,.val (.int .i64 3))]⟩:Env)) (O':=(Zy (O.upd i0 (some ⟨false,81,1,1,[.val (.int .i64 (IntKind.i64.wrap (a0.left - y2)))]⟩)) n [none,some ⟨false,25,3,1,[.val (.int .i64 0),.val (.slice none 0 0),.val (.slice none 0 0)]⟩])) (n':=(n+2)) (Fit2.of (Yu hU rfl rfl ?_) (by omega)) ?_
   ·simp only [push_cast,seval,Za,hi0,hk0,hN0,hN]
   refine Gg (k:=2) (k':=2) hU [1,0] [1,0] rfl rfl rfl rfl ⟨rfl,rfl⟩ ?_
   simp only [push_cast,seval,Za,hi0,hk0,hN0,hN]
  simp only [push_cast,seval,Za,Try.results40,hi0,hk0,hN0,hN]
 replace h:=Z0 c28 h
 refine Zw ?_
 try simp only [Zk,Zg]
 refine Zl [0,2,4,6] [true,true] ?_
 simp only [push_cast,seval]
 refine Zj ?_
 obtain ⟨y10,hy10,h⟩:=bC h
 refine Zb Zc [] ?_
 simp only [push_cast,seval,Za,hi0,hk0,hN0,hN]
 refine (Xj hy10).then ?_
 simp only [push_cast,seval,Za,hi0,hk0,hN0,hN]
 refine Zl [0,2,4,6,8] [true,true,true] ?_
 simp only [push_cast,seval]
 refine Zj ?_
 refine Zj ?_
 obtain ⟨y12,hy12,h⟩:=bC h
 refine Zb Zc [] ?_
 simp only [push_cast,seval,Za,hi0,hk0,hN0,hN]
 refine (U2 hy12).then ?_
 simp only [push_cast,seval,Za,hi0,hk0,hN0,hN]
 refine Zl [0,2,4,6,8,41,42] [true,true,true] ?_
 simp only [push_cast,seval]
 refine Zl [0,2,4,6,8,41,42] [true,true,true] ?_
 simp only [push_cast,seval]
 refine Zds (E':=(⟨89,[],[(0,.ref i0 0),(2,.val (.int .i64 a2)),(4,.ref n 0),(6,.ref (n+1) 0),(8,.ref (n+2) 0),(41,.val (.int .i64 y12)),(42,.val (.int .i64 0))]⟩:Env)) (O':=(Zy (O.upd i0 (some ⟨false,81,1,1,[.val (.int .i64 (IntKind.i64.wrap (a0.left - y2)))]⟩)) n [some ⟨false,56,9,1,(Zn a1)⟩,some ⟨false,25,3,1,[.val (.int .i64 0),.val (.slice none 0 0),.val (.slice none 0 0)]⟩,some ⟨false,25,3,1,[.val (.int .i64 y10),.row (n+3) ([]:List Int).length,.val (.slice none 0 0)]⟩,some ⟨true,44,1,([]:List Int).length,fl (eI .u64) ([]:List Int)⟩,none])) (n':=(n+5)) ?_ ?_
 ·refine Fit2.trans (E':=(⟨89,[],[(0,.ref i0 0),(2,.val (.int .i64 a2)),(4,.ref n 0),(6,.ref (n+1) 0),(8,.ref (n+2) 0),(41,.val (.int .i64 y12)),(42,.val (.int .i64 0))]⟩:Env)) (O':=(Zy (O.upd i0 (some ⟨false,81,1,1,[.val (.int .i64 (IntKind.i64.wrap (a0.left - y2)))]⟩)) n [some ⟨false,56,9,1,(Zn a1)⟩,some ⟨false,25,3,1,[.val (.int .i64 0),.val (.slice none 0 0),.val (.slice none 0 0)]⟩,some ⟨false,25,3,1,[.val (.int .i64 y10),.val (.slice none 0 0),.val (.slice none 0 0)]⟩])) (n':=(n+3)) (Fit2.of (Yu hU rfl rfl ?_) (by omega)) ?_
  ·simp only [push_cast,seval,Za,hi0,hk0,hN0,hN]
  refine Fit2.trans (Zdt (p:=(n+2)) (k:=1) (q:=⟨false,25,3,1,[.val (.int .i64 y10),.val (.slice none 0 0),.val (.slice none 0 0)]⟩) 44 1 (by simp only [V8,Zbx,List.getElem?_cons_zero,List.getElem?_cons_succ,Option.join_some,List.length_nil,Z9]) rfl (by omega)) ?_
  simp only [Uc,Kv,Zam,U3,List.set_cons_zero,List.set_cons_succ,List.cons_append,List.nil_append,List.length_cons,List.length_nil,Nat.zero_add,Nat.reduceAdd,Nat.reduceLT,Nat.add_assoc,Ze3,Zff,hi0,hk0,hN0,hN]
  refine Gg (k:=4) (k':=5) hU [0,1,2,3] [0,1,2,3,0] rfl rfl rfl rfl ⟨rfl,rfl⟩ ?_
  simp only [push_cast,seval,Za,hi0,hk0,hN0,hN]
 obtain ⟨z16,hz16,h⟩:=bC h
 refine X1 (E':=⟨89,[],[(0,.ref i0 0),(2,.val (.int .i64 a2)),(4,.ref n 0),(6,.ref (n+1) 0),(8,.ref (n+2) 0)]⟩) (O':=(Zy (O.upd i0 (some ⟨false,81,1,1,[.val (.int .i64 (IntKind.i64.wrap (a0.left - y2)))]⟩)) n [some ⟨false,56,9,1,(Zn a1)⟩,some ⟨false,25,3,1,[.val (.int .i64 0),.val (.slice none 0 0),.val (.slice none 0 0)]⟩,some ⟨false,25,3,1,[.val (.int .i64 y10),.row (n+3) z16.length,.val (.slice none 0 0)]⟩,some ⟨true,44,1,z16.length,fl (eI .u64) z16⟩,none])) (n0:=(n+5)) ?_ ?_
 ·refine Jq hz16 (fun s0_=>⟨89,[],[(0,.ref i0 0),(2,.val (.int .i64 a2)),(4,.ref n 0),(6,.ref (n+1) 0),(8,.ref (n+2) 0),(41,.val (.int .i64 y12)),(42,.val (.int .i64 s0_.1))]⟩) (fun s0_=>(Zy (O.upd i0 (some ⟨false,81,1,1,[.val (.int .i64 (IntKind.i64.wrap (a0.left - y2)))]⟩)) n [some ⟨false,56,9,1,(Zn a1)⟩,some ⟨false,25,3,1,[.val (.int .i64 0),.val (.slice none 0 0),.val (.slice none 0 0)]⟩,some ⟨false,25,3,1,[.val (.int .i64 y10),.row (n+3) s0_.2.length,.val (.slice none 0 0)]⟩,some ⟨true,44,1,s0_.2.length,fl (eI .u64) s0_.2⟩,none])) (fun z16=>JX 0 n (⟨89,[],[(0,.ref i0 0),(2,.val (.int .i64 a2)),(4,.ref n 0),(6,.ref (n+1) 0),(8,.ref (n+2) 0)]⟩:Env) (Zy (O.upd i0 (some ⟨false,81,1,1,[.val (.int .i64 (IntKind.i64.wrap (a0.left - y2)))]⟩)) n [some ⟨false,56,9,1,(Zn a1)⟩,some ⟨false,25,3,1,[.val (.int .i64 0),.val (.slice none 0 0),.val (.slice none 0 0)]⟩,some ⟨false,25,3,1,[.val (.int .i64 y10),.row (n+3) z16.length,.val (.slice none 0 0)]⟩,some ⟨true,44,1,z16.length,fl (eI .u64) z16⟩,none]) (n+5)) ?_
  intro s0_ x0_ hs0_
  unfold Y2 at hs0_
  try dsimp only
  refine Zp [0,2,4,6,8,41,42,43] (Zb Zc [] ?_)
  simp only [push_cast,seval,Za,hi0,hk0,hN0,hN]
  refine Zj ?_
  refine Zs (t:=(decide (s0_.1 < y12))) rfl (fun c15 => ?_) (fun c15 => ?_)
  ·replace hs0_:=Z3 c15 hs0_
   refine Zw ?_
   try simp only [Zk,Zg]
   refine Zl [0,2,4,6,8,41,42] [true,true,true,true,false] ?_
   simp only [push_cast,seval]
   refine Zj ?_
   refine Yn ?_
   refine Zp [0,2,4,6,8,9,41,42] (Zb Zc [] ?_)
   simp only [push_cast,seval,Za,hi0,hk0,hN0,hN]
   obtain ⟨y13,hy13,hs0_⟩:=bC hs0_
   obtain ⟨l14,pl14,ql14,el14,hs0_⟩:=bA (k:=1) rfl hs0_
   refine U0 Zc (by kernel_rfl) [.low,.low,.plain,.plain,.plain,.pass,.bar,.plain,.bar] (fun i=>i < (n+5)) [0,1,2,3,4,5,6,7,8] [.low,.low,.plain,.plain,.plain,.pass,.bar,.plain,.bar] [] (by kernel_rfl) rfl ?_
   simp only [push_cast,seval,Za,pl14,ql14,el14,hi0,hk0,hN0,hN]
   repeat (with_reducible refine And.intro (by first | omega | exact U4 rfl | exact Vq | exact Zbb rfl | exact Zbr rfl rfl | exact Uq rfl | exact Ud rfl) ?_)
   first | refine PCallA.of (fun _ _=>Zg4 hy13) ?_ | refine PCall.of (Zg4 hy13) ?_
   simp only [push_cast,seval,Za,pl14,ql14,el14,hi0,hk0,hN0,hN]
   repeat (with_reducible refine And.intro (by first | omega | exact U4 rfl | exact Vq | exact Zbb rfl | exact Zbr rfl rfl | exact Uq rfl | exact Ud rfl) ?_)
   refine Zb2 ⟨89,[],[(0,.ref i0 0),(2,.val (.int .i64 a2)),(4,.ref n 0),(6,.ref (n+1) 0),(8,.ref (n+2) 0),(41,.val (.int .i64 y12)),(42,.val (.int .i64 s0_.1))]⟩ (Zy (O.upd i0 (some ⟨false,81,1,1,[.val (.int .i64 (IntKind.i64.wrap (a0.left - y2)))]⟩)) n [some ⟨false,56,9,1,(Zn a1)⟩,some ⟨false,25,3,1,[.val (.int .i64 0),.val (.slice none 0 0),.val (.slice none 0 0)]⟩,some ⟨false,25,3,1,[.val (.int .i64 y10),.row (n+3) l14.length,.val (.slice none 0 0)]⟩,some ⟨true,44,1,l14.length,fl (eI .u64) l14⟩,none,none]) (Yu hU rfl rfl ?_) ?_
   ·simp only [push_cast,seval,Za,pl14,ql14,el14,hi0,hk0,hN0,hN]
   refine Zb Zc [] ?_
   simp only [push_cast,seval,Za,hi0,hk0,hN0,hN]
   have hs0_:=Option.some.inj hs0_;subst hs0_
   refine And.intro rfl (Fit2.of (Yu hU rfl rfl ?_) (by omega))
   simp only [push_cast,seval,Za,hi0,hk0,hN0,hN]
  replace hs0_:=Z0 c15 hs0_
  refine Jt ?_
  try simp only [Zk,Zg,↓reduceIte,Nat.reduceEqDiff]
  have hs0_:=Option.some.inj hs0_;subst hs0_
  refine And.intro (fun h=>by cases h) (And.intro rfl (Fit2.of (Yu hU rfl rfl ?_) (by omega)))
  simp only [push_cast,seval,Za,hi0,hk0,hN0,hN]
 try simp only [Zk,Zg,↓reduceIte,Nat.reduceEqDiff]
 refine Zl [0,2,4,6,8] [true,true,true,true,false] ?_
 simp only [push_cast,seval]
 refine Zj ?_
 refine Zj ?_
 obtain ⟨y18,hy18,h⟩:=bC h
 refine Zb Zc [] ?_
 simp only [push_cast,seval,Za,hi0,hk0,hN0,hN]
 refine (Xi hy18).then ?_
 simp only [push_cast,seval,Za,hi0,hk0,hN0,hN]
 refine Zl [0,2,4,6,8,55,56] [true,true,true,true,false] ?_
 simp only [push_cast,seval]
 refine Zl [0,2,4,6,8,55,56] [true,true,true,true,false] ?_
 simp only [push_cast,seval]
 refine Zds (E':=(⟨89,[],[(0,.ref i0 0),(2,.val (.int .i64 a2)),(4,.ref n 0),(6,.ref (n+1) 0),(8,.ref (n+2) 0),(55,.val (.int .i64 y18)),(56,.val (.int .i64 0))]⟩:Env)) (O':=(Zy (O.upd i0 (some ⟨false,81,1,1,[.val (.int .i64 (IntKind.i64.wrap (a0.left - y2)))]⟩)) n [some ⟨false,56,9,1,(Zn a1)⟩,some ⟨false,25,3,1,[.val (.int .i64 0),.val (.slice none 0 0),.val (.slice none 0 0)]⟩,some ⟨false,25,3,1,[.val (.int .i64 y10),.row (n+3) z16.length,.row (n+5) ([]:List Zd).length]⟩,some ⟨true,44,1,z16.length,fl (eI .u64) z16⟩,none,some ⟨true,25,3,([]:List Zd).length,fl Zi ([]:List Zd)⟩,none])) (n':=(n+7)) ?_ ?_
 ·refine Fit2.trans (E':=(⟨89,[],[(0,.ref i0 0),(2,.val (.int .i64 a2)),(4,.ref n 0),(6,.ref (n+1) 0),(8,.ref (n+2) 0),(55,.val (.int .i64 y18)),(56,.val (.int .i64 0))]⟩:Env)) (O':=(Zy (O.upd i0 (some ⟨false,81,1,1,[.val (.int .i64 (IntKind.i64.wrap (a0.left - y2)))]⟩)) n [some ⟨false,56,9,1,(Zn a1)⟩,some ⟨false,25,3,1,[.val (.int .i64 0),.val (.slice none 0 0),.val (.slice none 0 0)]⟩,some ⟨false,25,3,1,[.val (.int .i64 y10),.row (n+3) z16.length,.val (.slice none 0 0)]⟩,some ⟨true,44,1,z16.length,fl (eI .u64) z16⟩,none])) (n':=(n+5)) (Fit2.of (Yu hU rfl rfl ?_) (by omega)) ?_
  ·simp only [push_cast,seval,Za,hi0,hk0,hN0,hN]
  refine Fit2.trans (Zdt (p:=(n+2)) (k:=2) (q:=⟨false,25,3,1,[.val (.int .i64 y10),.row (n+3) z16.length,.val (.slice none 0 0)]⟩) 25 3 (by simp only [V8,Zbx,List.getElem?_cons_zero,List.getElem?_cons_succ,Option.join_some,List.length_nil,Z9]) rfl (by omega)) ?_
  simp only [Uc,Kv,Zam,U3,List.set_cons_zero,List.set_cons_succ,List.cons_append,List.nil_append,List.length_cons,List.length_nil,Nat.zero_add,Nat.reduceAdd,Nat.reduceLT,Nat.add_assoc,Ze3,Zff,hi0,hk0,hN0,hN]
  refine Gg (k:=6) (k':=7) hU [0,1,2,3,6,5] [0,1,2,3,0,5,0] rfl rfl rfl rfl ⟨rfl,rfl⟩ ?_
  simp only [push_cast,seval,Za,hi0,hk0,hN0,hN]
 obtain ⟨z27,hz27,h⟩:=bC h
 refine Zkc (J:=(Zaq (fun z27=>JR n (⟨89,[],[(6,.ref (n+1) 0),(7,.val (.int .i64 z27.1))]⟩:Env) (Zy (O.upd i0 (some ⟨false,81,1,1,[.val (.int .i64 z27.2)]⟩)) n [none,some ⟨false,25,3,1,[.val (.int .i64 0),.val (.slice none 0 0),.val (.slice none 0 0)]⟩,none,none,none]) (n+5)) (fun z27=>JX 2 n (⟨89,[],[(6,.ref (n+1) 0),(8,.ref (n+2) 0)]⟩:Env) (Zy (O.upd i0 (some ⟨false,81,1,1,[.val (.int .i64 z27.2)]⟩)) n [none,some ⟨false,25,3,1,[.val (.int .i64 0),.val (.slice none 0 0),.val (.slice none 0 0)]⟩,some ⟨false,25,3,1,[.val (.int .i64 y10),.row (n+3) z16.length,.row (n+5) z27.1.length]⟩,some ⟨true,44,1,z16.length,fl (eI .u64) z16⟩,none,some ⟨true,25,3,z27.1.length,fl Zi z27.1⟩,none]) (n+7)))) (z:=z27) ?_ fun hw => ?_
 ·refine Jq hz27 (fun s1_=>⟨89,[],[(0,.ref i0 0),(2,.val (.int .i64 a2)),(4,.ref n 0),(6,.ref (n+1) 0),(8,.ref (n+2) 0),(55,.val (.int .i64 y18)),(56,.val (.int .i64 s1_.1))]⟩) (fun s1_=>(Zy (O.upd i0 (some ⟨false,81,1,1,[.val (.int .i64 s1_.2.2)]⟩)) n [some ⟨false,56,9,1,(Zn a1)⟩,some ⟨false,25,3,1,[.val (.int .i64 0),.val (.slice none 0 0),.val (.slice none 0 0)]⟩,some ⟨false,25,3,1,[.val (.int .i64 y10),.row (n+3) z16.length,.row (n+5) s1_.2.1.length]⟩,some ⟨true,44,1,z16.length,fl (eI .u64) z16⟩,none,some ⟨true,25,3,s1_.2.1.length,fl Zi s1_.2.1⟩,none])) (Zaq (fun z27=>JR n (⟨89,[],[(6,.ref (n+1) 0),(7,.val (.int .i64 z27.1))]⟩:Env) (Zy (O.upd i0 (some ⟨false,81,1,1,[.val (.int .i64 z27.2)]⟩)) n [none,some ⟨false,25,3,1,[.val (.int .i64 0),.val (.slice none 0 0),.val (.slice none 0 0)]⟩,none,none,none]) (n+5)) (fun z27=>JX 2 n (⟨89,[],[(6,.ref (n+1) 0),(8,.ref (n+2) 0)]⟩:Env) (Zy (O.upd i0 (some ⟨false,81,1,1,[.val (.int .i64 z27.2)]⟩)) n [none,some ⟨false,25,3,1,[.val (.int .i64 0),.val (.slice none 0 0),.val (.slice none 0 0)]⟩,some ⟨false,25,3,1,[.val (.int .i64 y10),.row (n+3) z16.length,.row (n+5) z27.1.length]⟩,some ⟨true,44,1,z16.length,fl (eI .u64) z16⟩,none,some ⟨true,25,3,z27.1.length,fl Zi z27.1⟩,none]) (n+7))) ?_
  intro s1_ x1_ hs1_
  unfold Yw at hs1_
  try dsimp only
  refine Zp [0,2,4,6,8,55,56,57] (Zb Zc [] ?_)
  simp only [push_cast,seval,Za,hi0,hk0,hN0,hN]
  refine Zj ?_
  refine Zs (t:=(decide (s1_.1 < y18))) rfl (fun c26 => ?_) (fun c26 => ?_)
  ·replace hs1_:=Z3 c26 hs1_
   refine Zw ?_
   try simp only [Zk,Zg]
   refine Zl [0,2,4,6,8,55,56] [true,true,true,true,false,true,false] ?_
   simp only [push_cast,seval]
   refine Zj ?_
   refine Yn ?_
   refine Zp [0,2,4,6,8,10,55,56] (Zb Zc [] ?_)
   simp only [push_cast,seval,Za,hi0,hk0,hN0,hN]
   refine Zj ?_
   obtain ⟨y20,hy20,hs1_⟩:=bC hs1_
   refine Zb Zc [] ?_
   simp only [push_cast,seval,Za,hi0,hk0,hN0,hN]
   refine (Zdh hy20).then ?_
   simp only [push_cast,seval,Za,hi0,hk0,hN0,hN]
   refine Zl [0,2,4,6,8,11,12,55,56] [true,true,true,true,false,true,false,true] ?_
   simp only [push_cast,seval]
   refine Zj ?_
   refine Zp [0,2,4,6,8,11,12,55,56,66] (Zb Zc [] ?_)
   simp only [push_cast,seval,Za,hi0,hk0,hN0,hN]
   refine Zs (t:=(y20.2 != 0)) rfl (fun c25 => ?_) (fun c25 => ?_)
   ·replace hs1_:=Z3 c25 hs1_
    refine Zj ?_
    refine Zb Zc [] ?_
    simp only [push_cast,seval,Za,hi0,hk0,hN0,hN]
    refine Zl [6,7] [false,true,false,false,false,false,false,false] ?_
    simp only [push_cast,seval]
    refine Zu ?_
    try simp only [Zk,Zg]
    have hs1_:=Option.some.inj hs1_;subst hs1_
    refine And.intro (fun h=>by cases h) (And.intro rfl (Fit2.of (Yu hU rfl rfl ?_) (by omega)))
    simp only [push_cast,seval,Za,hi0,hk0,hN0,hN]
   replace hs1_:=Z0 c25 hs1_
   refine Zw ?_
   try simp only [Zk,Zg]
   refine Zl [0,2,4,6,8,11,55,56] [true,true,true,true,false,true,false,true] ?_
   simp only [push_cast,seval]
   refine Zj ?_
   obtain ⟨y22,hy22,hs1_⟩:=bC hs1_
   refine Zb Zc [] ?_
   simp only [push_cast,seval,Za,hi0,hk0,hN0,hN]
   refine (Zg3 (i0:=i0) (by omega) (by simp only [push_cast,seval,Za,Zc0,hi0,hk0,hN0,hN] <;> rfl) hy22).then ?_
   simp only [push_cast,seval,Za,hi0,hk0,hN0,hN]
   refine Zl [0,2,4,6,8,12,13,55,56] [true,true,true,true,false,true,false,false,true] ?_
   simp only [push_cast,seval]
   refine Zj ?_
   refine Zp [0,2,4,6,8,12,13,55,56,78] (Zb Zc [] ?_)
   simp only [push_cast,seval,Za,hi0,hk0,hN0,hN]
   refine Zs (t:=(y22.2.1 != 0)) rfl (fun c24 => ?_) (fun c24 => ?_)
   ·replace hs1_:=Z3 c24 hs1_
    refine Zj ?_
    refine Zb Zc [] ?_
    simp only [push_cast,seval,Za,hi0,hk0,hN0,hN]
    refine Zl [6,7] [false,true,false,false,false,false,false,false,false] ?_
    simp only [push_cast,seval]
    refine Zu ?_
    try simp only [Zk,Zg]
    have hs1_:=Option.some.inj hs1_;subst hs1_
    refine And.intro (fun h=>by cases h) (And.intro rfl (Fit2.of (Yu hU rfl rfl ?_) (by omega)))
    simp only [push_cast,seval,Za,hi0,hk0,hN0,hN]
   replace hs1_:=Z0 c24 hs1_
   refine Zw ?_
   try simp only [Zk,Zg]
   refine Zl [0,2,4,6,8,13,55,56] [true,true,true,true,false,true,false,false,true] ?_
   simp only [push_cast,seval]
   obtain ⟨l23,pl23,ql23,el23,hs1_⟩:=bA (k:=1) rfl hs1_
   refine Zb Zc [] ?_
   simp only [push_cast,seval,Za,pl23,ql23,el23,hi0,hk0,hN0,hN]
   refine Zb2 ⟨89,[],[(0,.ref i0 0),(2,.val (.int .i64 a2)),(4,.ref n 0),(6,.ref (n+1) 0),(8,.ref (n+2) 0),(55,.val (.int .i64 y18)),(56,.val (.int .i64 s1_.1))]⟩ (Zy (O.upd i0 (some ⟨false,81,1,1,[.val (.int .i64 y22.2.2.left)]⟩)) n [some ⟨false,56,9,1,(Zn a1)⟩,some ⟨false,25,3,1,[.val (.int .i64 0),.val (.slice none 0 0),.val (.slice none 0 0)]⟩,some ⟨false,25,3,1,[.val (.int .i64 y10),.row (n+3) z16.length,.row (n+5) l23.length]⟩,some ⟨true,44,1,z16.length,fl (eI .u64) z16⟩,none,some ⟨true,25,3,l23.length,fl Zi l23⟩,none,none,none,none]) (Yu hU rfl rfl ?_) ?_
   ·simp only [push_cast,seval,Za,pl23,ql23,el23,hi0,hk0,hN0,hN]
   refine Zb Zc [] ?_
   simp only [push_cast,seval,Za,hi0,hk0,hN0,hN]
   have hs1_:=Option.some.inj hs1_;subst hs1_
   refine And.intro rfl (Fit2.of (Yu hU rfl rfl ?_) (by omega))
   simp only [push_cast,seval,Za,hi0,hk0,hN0,hN]
  replace hs1_:=Z0 c26 hs1_
  refine Jt ?_
  try simp only [Zk,Zg,↓reduceIte,Nat.reduceEqDiff]
  have hs1_:=Option.some.inj hs1_;subst hs1_
  refine And.intro (fun h=>by cases h) (And.intro rfl (Fit2.of (Yu hU rfl rfl ?_) (by omega)))
  simp only [push_cast,seval,Za,hi0,hk0,hN0,hN]
 rcases z27 with z27 | z27
 ·dsimp only [Zaq] at hw h
  refine Zcx hw ?_
  try simp only [Zk,Zg,↓reduceIte,Nat.reduceEqDiff]
  have h:=Option.some.inj h;subst h
  refine Zat (k:=0) (i:=i0) (q1:=⟨false,81,1,1,[.val (.int .i64 z27.2)]⟩) (L3:=[some ⟨false,25,3,1,[.val (.int .i64 0),.val (.slice none 0 0),.val (.slice none 0 0)]⟩,none]) (E2:=(⟨89,[],[(6,.ref n 0),(7,.val (.int .i64 z27.1))]⟩:Env)) (n3:=(n+2)) (.inr rfl) hU rfl [.agg [.val (.int .i64 0),.val (.slice none 0 0),.val (.slice none 0 0)],.val (.int .i64 z27.1)] ?_ ?_
  ·refine Fit2.trans (E':=(⟨89,[],[(6,.ref (n+1) 0),(7,.val (.int .i64 z27.1))]⟩:Env)) (O':=(Zy (O.upd i0 (some ⟨false,81,1,1,[.val (.int .i64 z27.2)]⟩)) n [none,some ⟨false,25,3,1,[.val (.int .i64 0),.val (.slice none 0 0),.val (.slice none 0 0)]⟩,none,none,none])) (n':=(n+5)) (Fit2.of (Yu hU rfl rfl ?_) (by omega)) ?_
   ·simp only [push_cast,seval,Za,hi0,hk0,hN0,hN]
   refine Gg (k:=5) (k':=2) hU [1,0,1,1,1] [1,0] rfl rfl rfl rfl ⟨rfl,rfl⟩ ?_
   simp only [push_cast,seval,Za,hi0,hk0,hN0,hN]
  simp only [push_cast,seval,Za,Try.results40,hi0,hk0,hN0,hN]
 dsimp only [Zaq] at hw h
 refine X1 hw ?_
 try simp only [Zk,Zg,↓reduceIte,Nat.reduceEqDiff]
 refine Zl [6,8] [false,true,true,true,false,true,false] ?_
 simp only [push_cast,seval]
 refine Zj ?_
 refine Zb Zc [] ?_
 simp only [push_cast,seval,Za,hi0,hk0,hN0,hN]
 refine Zl [6,7] [false,true,false,true,false,true,false] ?_
 simp only [push_cast,seval]
 refine Zu ?_
 try simp only [Zk,Zg]
 have h:=Option.some.inj h;subst h
 refine Zat (k:=0) (i:=i0) (q1:=⟨false,81,1,1,[.val (.int .i64 z27.2)]⟩) (L3:=[some ⟨false,25,3,1,[.val (.int .i64 y10),.row (n+1) z16.length,.row (n+2) z27.1.length]⟩,some ⟨true,44,1,z16.length,fl (eI .u64) z16⟩,some ⟨true,25,3,z27.1.length,fl Zi z27.1⟩,none]) (E2:=(⟨89,[],[(6,.ref n 0),(7,.val (.int .i64 0))]⟩:Env)) (n3:=(n+4)) (.inr rfl) hU rfl [.agg [.val (.int .i64 y10),.row (n+1) z16.length,.row (n+2) z27.1.length],.val (.int .i64 0)] ?_ ?_
 ·refine Fit2.trans (E':=(⟨89,[],[(6,.ref (n+1) 0),(7,.val (.int .i64 0))]⟩:Env)) (O':=(Zy (O.upd i0 (some ⟨false,81,1,1,[.val (.int .i64 z27.2)]⟩)) n [none,some ⟨false,25,3,1,[.val (.int .i64 y10),.row (n+3) z16.length,.row (n+5) z27.1.length]⟩,none,some ⟨true,44,1,z16.length,fl (eI .u64) z16⟩,none,some ⟨true,25,3,z27.1.length,fl Zi z27.1⟩,none])) (n':=(n+7)) (Fit2.of (Yu hU rfl rfl ?_) (by omega)) ?_
  ·simp only [push_cast,seval,Za,hi0,hk0,hN0,hN]
  refine Gg (k:=7) (k':=4) hU [3,0,3,1,3,2,3] [1,3,5,0] rfl rfl rfl rfl ⟨rfl,rfl⟩ ?_
  simp only [push_cast,seval,Za,hi0,hk0,hN0,hN]
 simp only [push_cast,seval,Za,Try.results40,hi0,hk0,hN0,hN]
theorem Zfq:∀ k,(∀ {a0:Zv} {a1:Ze} {a2:Int} {r:(Zd×Int×Zv)} {O:Objs} {n:Nat} {i0:Nat},i0 < n→O i0=some ⟨false,81,1,1,[.val (.int .i64 a0.left)]⟩→(Yc k) a0 a1 a2=some r→GTo Try.prog 40 [.ref i0 0,.agg (Zn a1),.val (.int .i64 a2)] O n (.tup [.agg (Zf r.1),.val (.int .i64 r.2.1)]) (Zy (O.upd i0 (some ⟨false,81,1,1,[.val (.int .i64 r.2.2.left)]⟩)) n []) (n+0)):=fun k=>by
 induction k with
 | zero=>exact @fun a0 a1 a2 r O n i0 hi0 ho0 h=>(nomatch (show (none:Option _)=some _ from h))
 | succ k ih=>exact @fun a0 a1 a2 r O n i0 hi0 ho0 h=>Zhn (ih) hi0 ho0 h
theorem Zh8 {a0:Zv} {a1:Ze} {a2:Int} {r:(Zd×Int×Zv)} {O:Objs} {n:Nat} {i0:Nat} (hi0:i0 < n) (ho0:O i0=some ⟨false,81,1,1,[.val (.int .i64 a0.left)]⟩) (h:Ge a0 a1 a2=some r):GTo Try.prog 40 [.ref i0 0,.agg (Zn a1),.val (.int .i64 a2)] O n (.tup [.agg (Zf r.1),.val (.int .i64 r.2.1)]) (Zy (O.upd i0 (some ⟨false,81,1,1,[.val (.int .i64 r.2.2.left)]⟩)) n []) (n+0):=by
 obtain ⟨k,hk⟩:=Zc8 h
 exact (Zfq k) hi0 ho0 hk
theorem Ztz {a0:Ze} {r:(Zd×Int)} {O:Objs} {n:Nat} (h:Za4 a0=some r):GTo Try.prog 24 [.agg (Zn a0)] O n (.tup [.agg (Zf r.1),.val (.int .i64 r.2)]) O n:=by
 unfold Za4 at h
 refine Yj Zc Try.call24 Try.func24 rfl (Nat.le_of_ble_eq_true rfl) (Nat.le_refl _) fun hU => ?_
 have hN0:O n=none:=hU.fresh _ (Nat.le_refl _)
 have hN:∀ k,O (n+k)=none:=fun k=>hU.fresh _ (Nat.le_add_right _ _)
 show W _ _ _ _ ⟨10,[],[(0,.agg (Zn a0))]⟩ (Zy O n []) _
 refine Zp [1,2] (Zb Zc [] ?_)
 simp only [push_cast,seval,Za,hN0,hN]
 refine Zj ?_
 refine Zb Zc [] ?_
 simp only [push_cast,seval,Za,hN0,hN]
 refine Zl [1,2,4] [true,true,true] ?_
 simp only [push_cast,seval]
 refine Zj ?_
 obtain ⟨y2,hy2,h⟩:=bC h
 refine Zb Zc [] ?_
 simp only [push_cast,seval,Za,hN0,hN]
 refine (Zh8 (i0:=(n+2)) (by omega) (by simp only [push_cast,seval,Za,Zc0,hN0,hN] <;> rfl) hy2).then ?_
 simp only [push_cast,seval,Za,hN0,hN]
 refine Zl [2,3] [false,true,false] ?_
 simp only [push_cast,seval]
 refine Zu ?_
 try simp only [Zk,Zg]
 have h:=Option.some.inj h;subst h
 refine Zq (.inr rfl) hU [.agg (Zf y2.1),.val (.int .i64 y2.2.1)] (by omega) ?_
 simp only [push_cast,seval,Za,Try.results24,hN0,hN]
theorem Zq0 {a0:(Option Zm)} {a1:Ym} {r:(Zd×Int)} {O:Objs} {n:Nat} (h:Gd a0 a1=some r):GTo Try.prog 8 [(gP Zo a0),.agg (Xm a1)] O n (.tup [.agg (Zf r.1),.val (.int .i64 r.2)]) O n:=by
 unfold Gd at h
 refine Yj Zc Try.call8 Try.func8 rfl (Nat.le_of_ble_eq_true rfl) (Nat.le_refl _) fun hU => ?_
 have hN0:O n=none:=hU.fresh _ (Nat.le_refl _)
 have hN:∀ k,O (n+k)=none:=fun k=>hU.fresh _ (Nat.le_add_right _ _)
 show W _ _ _ _ ⟨38,[],[(0,(gP Zo a0)),(1,.agg (Xm a1))]⟩ (Zy O n []) _
 refine Zp [0,3,4] (Zb Zc [] ?_)
 simp only [push_cast,seval,Za,hN0,hN]
 refine Zj ?_
 refine Zj ?_
 obtain ⟨y2,hy2,h⟩:=bC h
 refine Zb Zc [] ?_
 simp only [push_cast,seval,Za,hN0,hN]
 refine (Zu9 hy2).then ?_
 simp only [push_cast,seval,Za,hN0,hN]
 refine Zl [0,4,7] [false,true] ?_
 simp only [push_cast,seval]
 refine Zp [0,4,7,18] (Zb Zc [] ?_)
 simp only [push_cast,seval,Za,hN0,hN]
 refine Zs (t:=(y2.2 != 0)) rfl (fun c10 => ?_) (fun c10 => ?_)
 ·replace h:=Z3 c10 h
  refine Zj ?_
  refine Zb Zc [] ?_
  simp only [push_cast,seval,Za,hN0,hN]
  refine Zl [4,5] [false,true] ?_
  simp only [push_cast,seval]
  refine Zu ?_
  try simp only [Zk,Zg]
  have h:=Option.some.inj h;subst h
  refine Zq (.inr rfl) hU [.agg [.val (.int .i64 0),.val (.slice none 0 0),.val (.slice none 0 0)],.val (.int .i64 y2.2)] (by omega) ?_
  simp only [push_cast,seval,Za,Try.results8,hN0,hN]
 replace h:=Z0 c10 h
 refine Zw ?_
 try simp only [Zk,Zg]
 refine Zl [0,4] [false,true] ?_
 simp only [push_cast,seval]
 refine Zj ?_
 obtain ⟨y4,hy4,h⟩:=bC h
 refine Zb Zc [] ?_
 simp only [push_cast,seval,Za,hN0,hN]
 refine (Zls hy4).then ?_
 simp only [push_cast,seval,Za,hN0,hN]
 refine Zl [4,8,9] [false,true,true] ?_
 simp only [push_cast,seval]
 refine Zj ?_
 refine Zp [4,8,9,27] (Zb Zc [] ?_)
 simp only [push_cast,seval,Za,hN0,hN]
 refine Zs (t:=(y4.2 != 0)) rfl (fun c9 => ?_) (fun c9 => ?_)
 ·replace h:=Z3 c9 h
  refine Zj ?_
  refine Zb Zc [] ?_
  simp only [push_cast,seval,Za,hN0,hN]
  refine Zl [4,5] [false,true,false] ?_
  simp only [push_cast,seval]
  refine Zu ?_
  try simp only [Zk,Zg]
  have h:=Option.some.inj h;subst h
  refine Zq (.inr rfl) hU [.agg [.val (.int .i64 0),.val (.slice none 0 0),.val (.slice none 0 0)],.val (.int .i64 y4.2)] (by omega) ?_
  simp only [push_cast,seval,Za,Try.results8,hN0,hN]
 replace h:=Z0 c9 h
 refine Zw ?_
 try simp only [Zk,Zg]
 refine Zl [4,8] [false,true,true] ?_
 simp only [push_cast,seval]
 refine Zj ?_
 obtain ⟨y6,hy6,h⟩:=bC h
 refine Zb Zc [] ?_
 simp only [push_cast,seval,Za,hN0,hN]
 refine (Ztz hy6).then ?_
 simp only [push_cast,seval,Za,hN0,hN]
 refine Zl [4,9,10] [false,true,false,true] ?_
 simp only [push_cast,seval]
 refine Zj ?_
 obtain ⟨y8,hy8,h⟩:=bC h
 refine Zb Zc [] ?_
 simp only [push_cast,seval,Za,hN0,hN]
 refine (Zqy hy8).then ?_
 simp only [push_cast,seval,Za,hN0,hN]
 refine Zl [4,5] [false,true,false,false] ?_
 simp only [push_cast,seval]
 refine Zu ?_
 try simp only [Zk,Zg]
 have h:=Option.some.inj h;subst h
 refine Zq (.inr rfl) hU [.agg (Zf y8),.val (.int .i64 y6.2)] (by omega) ?_
 simp only [push_cast,seval,Za,Try.results8,hN0,hN]
theorem Zlb {J3:(Zd→Option Zd)} (Zkk:∀ {a0:Zd} {r:Zd} {O:Objs} {n:Nat},J3 a0=some r→GTo Try.prog 12 [.agg (Zf a0)] O n (.agg (Zf r)) O n) {a0:Zd} {r:Zd} {O:Objs} {n:Nat} (h:K7 J3 a0=some r):GTo Try.prog 12 [.agg (Zf a0)] O n (.agg (Zf r)) O n:=by
 unfold K7 at h
 refine Yj Zc Try.call12 Try.func12 rfl (Nat.le_of_ble_eq_true rfl) (Nat.le_refl _) fun hU => ?_
 have hN0:O n=none:=hU.fresh _ (Nat.le_refl _)
 have hN:∀ k,O (n+k)=none:=fun k=>hU.fresh _ (Nat.le_add_right _ _)
 show W _ _ _ _ ⟨63,[],[(0,.agg (Zf a0))]⟩ (Zy O n []) _
 refine Zp [1,2] (Zb Zc [] ?_)
 simp only [push_cast,seval,Za,hN0,hN]
 refine Zj ?_
 refine Zb Zc [] ?_
 simp only [push_cast,seval,Za,hN0,hN]
 refine Zl [1,2,3] [true,true,true] ?_
 simp only [push_cast,seval]
 refine Zj ?_
 obtain ⟨y2,hy2,h⟩:=bC h
 refine Zb Zc [] ?_
 simp only [push_cast,seval,Za,hN0,hN]
 refine (Zoz hy2).then ?_
 simp only [push_cast,seval,Za,hN0,hN]
 refine Zl [1,2,3,4,5] [true,true,true] ?_
 simp only [push_cast,seval]
 refine Zj ?_
 refine Zp [1,2,3,4,5,6] (Zb Zc [] ?_)
 simp only [push_cast,seval,Za,hN0,hN]
 refine Zl [1,2,3,4,5,6] [true,true,true] ?_
 simp only [push_cast,seval]
 refine Zds (E':=(⟨63,[],[(1,.ref n 0),(2,.ref (n+1) 0),(3,.ref (n+2) 0),(4,.val (.int .i64 y2.1)),(5,.val (.int .i64 y2.2)),(6,.val (.int .i64 0))]⟩:Env)) (O':=(Zy O n [some ⟨false,25,3,1,(Zf a0)⟩,some ⟨false,25,3,1,[.val (.int .i64 0),.val (.slice none 0 0),.val (.slice none 0 0)]⟩,some ⟨false,25,3,1,[.val (.int .i64 a0.Kind),.sl a0.Words.length (fl (eI .u64) a0.Words),.row (n+3) ([]:List Zd).length]⟩,some ⟨true,25,3,([]:List Zd).length,fl Zi ([]:List Zd)⟩,none])) (n':=(n+5)) ?_ ?_
 ·refine Fit2.trans (E':=(⟨63,[],[(1,.ref n 0),(2,.ref (n+1) 0),(3,.ref (n+2) 0),(4,.val (.int .i64 y2.1)),(5,.val (.int .i64 y2.2)),(6,.val (.int .i64 0))]⟩:Env)) (O':=(Zy O n [some ⟨false,25,3,1,(Zf a0)⟩,some ⟨false,25,3,1,[.val (.int .i64 0),.val (.slice none 0 0),.val (.slice none 0 0)]⟩,some ⟨false,25,3,1,[.val (.int .i64 a0.Kind),.sl a0.Words.length (fl (eI .u64) a0.Words),.val (.slice none 0 0)]⟩])) (n':=(n+3)) (Fit2.of (Zr hU rfl rfl ?_) (by omega)) ?_
  ·simp only [push_cast,seval,Za,hN0,hN]
  refine Fit2.trans (Zdt (p:=(n+2)) (k:=2) (q:=⟨false,25,3,1,[.val (.int .i64 a0.Kind),.sl a0.Words.length (fl (eI .u64) a0.Words),.val (.slice none 0 0)]⟩) 25 3 (by simp only [V8,Zbx,List.getElem?_cons_zero,List.getElem?_cons_succ,Option.join_some,List.length_nil,Z9]) rfl (by omega)) ?_
  simp only [Uc,Kv,Zam,U3,List.set_cons_zero,List.set_cons_succ,List.cons_append,List.nil_append,List.length_cons,List.length_nil,Nat.zero_add,Nat.reduceAdd,Nat.reduceLT,Nat.add_assoc]
  refine Zku (k:=4) (k':=5) hU [0,1,2,3] [0,1,2,3,0] rfl rfl rfl rfl ⟨rfl,rfl⟩ ?_
  simp only [push_cast,seval,Za,hN0,hN]
 obtain ⟨z20,hz20,h⟩:=bC h
 refine X1 (E':=⟨63,[],[(2,.ref (n+1) 0),(3,.ref (n+2) 0)]⟩) (O':=(Zy O n [none,some ⟨false,25,3,1,[.val (.int .i64 0),.val (.slice none 0 0),.val (.slice none 0 0)]⟩,some ⟨false,25,3,1,[.val (.int .i64 a0.Kind),.sl a0.Words.length (fl (eI .u64) a0.Words),.row (n+3) z20.length]⟩,some ⟨true,25,3,z20.length,fl Zi z20⟩,none])) (n0:=(n+5)) ?_ ?_
 ·refine Jq hz20 (fun s0_=>⟨63,[],[(1,.ref n 0),(2,.ref (n+1) 0),(3,.ref (n+2) 0),(4,.val (.int .i64 y2.1)),(5,.val (.int .i64 y2.2)),(6,.val (.int .i64 s0_.1))]⟩) (fun s0_=>(Zy O n [some ⟨false,25,3,1,(Zf a0)⟩,some ⟨false,25,3,1,[.val (.int .i64 0),.val (.slice none 0 0),.val (.slice none 0 0)]⟩,some ⟨false,25,3,1,[.val (.int .i64 a0.Kind),.sl a0.Words.length (fl (eI .u64) a0.Words),.row (n+3) s0_.2.length]⟩,some ⟨true,25,3,s0_.2.length,fl Zi s0_.2⟩,none])) (fun z20=>JX 0 n (⟨63,[],[(2,.ref (n+1) 0),(3,.ref (n+2) 0)]⟩:Env) (Zy O n [none,some ⟨false,25,3,1,[.val (.int .i64 0),.val (.slice none 0 0),.val (.slice none 0 0)]⟩,some ⟨false,25,3,1,[.val (.int .i64 a0.Kind),.sl a0.Words.length (fl (eI .u64) a0.Words),.row (n+3) z20.length]⟩,some ⟨true,25,3,z20.length,fl Zi z20⟩,none]) (n+5)) ?_
  intro s0_ x0_ hs0_
  unfold Ju at hs0_
  try dsimp only
  refine Zj ?_
  refine Zp [1,2,3,4,5,6,22] (Zb Zc [] ?_)
  simp only [push_cast,seval,Za,hN0,hN]
  refine Zs (t:=(decide (s0_.1 < (a0.Kids.length:Int)))) rfl (fun c19 => ?_) (fun c19 => ?_)
  ·replace hs0_:=Z3 c19 hs0_
   refine Zw ?_
   try simp only [Zk,Zg]
   refine Zl [1,2,3,4,5,6] [true,true,true,true,false] ?_
   simp only [push_cast,seval]
   refine Zj ?_
   refine Yn ?_
   refine Zj ?_
   obtain ⟨x5,hx5,ax5,bx5,cx5,hs0_⟩:=bE (f:=Zi) Uo (fun _=>rfl) (by decide) hs0_
   obtain ⟨y6,hy6,hs0_⟩:=bC hs0_
   refine Zb Zc [] ?_
   simp only [push_cast,Nat.reduceAdd,Nat.reduceSub,Nat.reduceMul,Nat.reduceLeDiff,Nat.reduceLT,Nat.reduceEqDiff,↓reduceIte,reduceCtorEq,Int.reduceBEq,Int.reduceBNe,Nat.reduceBEq,Int.reduceLE,Int.reduceLT,Int.reduceEq,Int.reduceNe,Int.reduceNeg,Nat.reduceDiv,Nat.reduceMod,Nat.reducePow,Za,ax5,bx5,cx5,hN0,hN]
   refine (Zkk hy6).then ?_
   simp only [push_cast,Nat.reduceAdd,Nat.reduceSub,Nat.reduceMul,Nat.reduceLeDiff,Nat.reduceLT,Nat.reduceEqDiff,↓reduceIte,reduceCtorEq,Int.reduceBEq,Int.reduceBNe,Nat.reduceBEq,Int.reduceLE,Int.reduceLT,Int.reduceEq,Int.reduceNe,Int.reduceNeg,Nat.reduceDiv,Nat.reduceMod,Nat.reducePow,Za,ax5,bx5,cx5,hN0,hN]
   refine Zl [1,2,3,4,5,6,7] [true,true,true,true,false,true] ?_
   simp only [push_cast,seval]
   obtain ⟨z7,hz7,hs0_⟩:=bC hs0_
   refine Xk (E':=⟨63,[],[(1,.ref n 0),(2,.ref (n+1) 0),(3,.ref (n+2) 0),(4,.val (.int .i64 y2.1)),(5,.val (.int .i64 y2.2)),(6,.val (.int .i64 s0_.1)),(7,.ref (n+5) 0)]⟩) (O':=(Zy O n [some ⟨false,25,3,1,(Zf a0)⟩,some ⟨false,25,3,1,[.val (.int .i64 0),.val (.slice none 0 0),.val (.slice none 0 0)]⟩,some ⟨false,25,3,1,[.val (.int .i64 a0.Kind),.sl a0.Words.length (fl (eI .u64) a0.Words),.row (n+3) s0_.2.length]⟩,some ⟨true,25,3,s0_.2.length,fl Zi s0_.2⟩,none,some ⟨false,25,3,1,[.val (.int .i64 y6.Kind),.sl z7.1.length (fl (eI .u64) z7.1),.sl z7.2.length (fl Zi z7.2)]⟩,none,none])) (n0:=(n+8)) ?_ ?_
   ·refine Zp [1,2,3,4,5,6,7,33] (Zb Zc [] ?_)
    simp only [push_cast,seval,Za,hN0,hN]
    refine Zs (t:=(a0.Kind == 9)) rfl (fun c17 => ?_) (fun c17 => ?_)
    ·replace hz7:=Z3 c17 hz7
     refine Zj ?_
     obtain ⟨l11,pl11,ql11,el11,hz7⟩:=bA (k:=y6.Words.length) rfl hz7
     simp only [List.length_cons,List.length_nil,Nat.zero_add,Nat.reduceAdd] at pl11 ql11
     obtain ⟨pu12,hz7⟩:=bG hz7
     have fu12:(List.replicate (Int.toNat (IntKind.i64.wrap (y2.1 - (y6.Words.length:Int)))) [.val (.int .u64 0)]).flatten=fl (eI .u64) (List.replicate (Int.toNat (IntKind.i64.wrap (y2.1 - (y6.Words.length:Int)))) (0:Int)):=(Zqe (f:=(eI .u64)) _ _).symm
     have mu12:List.length (List.replicate (Int.toNat (IntKind.i64.wrap (y2.1 - (y6.Words.length:Int)))) (0:Int))=(Int.toNat (IntKind.i64.wrap (y2.1 - (y6.Words.length:Int)))):=List.length_replicate
     obtain ⟨l13,pl13,ql13,el13,hz7⟩:=bA (k:=(Int.toNat (IntKind.i64.wrap (y2.1 - (y6.Words.length:Int))))) List.length_replicate hz7
     try simp only [el11,List.length_append,List.length_nil,Nat.zero_add,Nat.add_assoc] at pl13 ql13
     refine U0 Zc (by kernel_rfl) [.pass,.low,.low,.pass,.plain,.low,.low,.low,.low,.bar,.plain,.bar] (fun i=>i < (n+6)) [1,2,4,5,6,7,8,0,3,9,10,11] [.low,.low,.plain,.low,.low,.low,.low,.pass,.pass,.bar,.plain,.bar] [] (by kernel_rfl) rfl ?_
     simp only [push_cast,seval,Za,pl11,ql11,el11,pu12,fu12,mu12,pl13,ql13,el13,List.append_assoc,hN0,hN]
     repeat (with_reducible refine And.intro (by first | omega | exact U4 rfl | exact Vq | exact Zbb rfl | exact Zbr rfl rfl | exact Uq rfl | exact Ud rfl) ?_)
     refine Zb2 ⟨63,[],[(1,.ref n 0),(2,.ref (n+1) 0),(3,.ref (n+2) 0),(4,.val (.int .i64 y2.1)),(5,.val (.int .i64 y2.2)),(6,.val (.int .i64 s0_.1)),(7,.ref (n+5) 0)]⟩ (Zy O n [some ⟨false,25,3,1,(Zf a0)⟩,some ⟨false,25,3,1,[.val (.int .i64 0),.val (.slice none 0 0),.val (.slice none 0 0)]⟩,some ⟨false,25,3,1,[.val (.int .i64 a0.Kind),.sl a0.Words.length (fl (eI .u64) a0.Words),.row (n+3) s0_.2.length]⟩,some ⟨true,25,3,s0_.2.length,fl Zi s0_.2⟩,none,some ⟨false,25,3,1,[.val (.int .i64 y6.Kind),.row (n+6) l13.length,.sl y6.Kids.length (fl Zi y6.Kids)]⟩,some ⟨true,44,1,l13.length,fl (eI .u64) l13⟩]) (Zr hU rfl rfl ?_) ?_
     ·simp only [push_cast,seval,Za,pl11,ql11,el11,pu12,fu12,mu12,pl13,ql13,el13,List.append_assoc,hN0,hN]
     obtain ⟨l14,pl14,ql14,el14,hz7⟩:=bA (k:=y6.Kids.length) rfl hz7
     simp only [List.length_cons,List.length_nil,Nat.zero_add,Nat.reduceAdd] at pl14 ql14
     obtain ⟨pu15,hz7⟩:=bG hz7
     have fu15:∀ O O' n,Vh O O' n (List.replicate (Int.toNat (IntKind.i64.wrap (y2.2 - (y6.Kids.length:Int)))) [.val (.int .i64 0),.val (.slice none 0 0),.val (.slice none 0 0)]).flatten (fl Zi (List.replicate (Int.toNat (IntKind.i64.wrap (y2.2 - (y6.Kids.length:Int)))) (⟨(0:Int),([]:(List Int)),([]:(List Zd))⟩:Zd)))=True:=fun O O' n=>eq_true (Zv3 (by simp only [push_cast,seval,Za]) _)
     have mu15:List.length (List.replicate (Int.toNat (IntKind.i64.wrap (y2.2 - (y6.Kids.length:Int)))) (⟨(0:Int),([]:(List Int)),([]:(List Zd))⟩:Zd))=(Int.toNat (IntKind.i64.wrap (y2.2 - (y6.Kids.length:Int)))):=List.length_replicate
     obtain ⟨l16,pl16,ql16,el16,hz7⟩:=bA (k:=(Int.toNat (IntKind.i64.wrap (y2.2 - (y6.Kids.length:Int))))) List.length_replicate hz7
     try simp only [el14,List.length_append,List.length_nil,Nat.zero_add,Nat.add_assoc] at pl16 ql16
     refine U0 Zc (by kernel_rfl) [.pass,.low,.low,.pass,.plain,.low,.low,.low,.low,.bar,.plain,.bar] (fun i=>i < (n+7)) [1,2,4,5,6,7,8,0,3,9,10,11] [.low,.low,.plain,.low,.low,.low,.low,.pass,.pass,.bar,.plain,.bar] [] (by kernel_rfl) rfl ?_
     simp only [push_cast,seval,Za,pl14,ql14,el14,pu15,fu15,mu15,pl16,ql16,el16,List.append_assoc,hN0,hN]
     repeat (with_reducible refine And.intro (by first | omega | exact U4 rfl | exact Vq | exact Zbb rfl | exact Zbr rfl rfl | exact Uq rfl | exact Ud rfl) ?_)
     have hz7:=Option.some.inj hz7;subst hz7
     refine And.intro rfl (Fit2.of (Zr hU rfl rfl ?_) (by omega))
     simp only [push_cast,seval,Za,pl14,ql14,el14,pu15,fu15,mu15,pl16,ql16,el16,List.append_assoc,hN0,hN]
    replace hz7:=Z0 c17 hz7
    refine Zw ?_
    try simp only [Zk,Zg]
    have hz7:=Option.some.inj hz7;subst hz7
    refine And.intro rfl (Fit2.of (Zr hU rfl rfl ?_) (by omega))
    simp only [push_cast,seval,Za,hN0,hN]
   obtain ⟨l18,pl18,ql18,el18,hs0_⟩:=bA (k:=1) rfl hs0_
   refine Zb Zc [] ?_
   simp only [push_cast,seval,Za,pl18,ql18,el18,hN0,hN]
   refine Zb2 ⟨63,[],[(1,.ref n 0),(2,.ref (n+1) 0),(3,.ref (n+2) 0),(4,.val (.int .i64 y2.1)),(5,.val (.int .i64 y2.2)),(6,.val (.int .i64 s0_.1))]⟩ (Zy O n [some ⟨false,25,3,1,(Zf a0)⟩,some ⟨false,25,3,1,[.val (.int .i64 0),.val (.slice none 0 0),.val (.slice none 0 0)]⟩,some ⟨false,25,3,1,[.val (.int .i64 a0.Kind),.sl a0.Words.length (fl (eI .u64) a0.Words),.row (n+3) l18.length]⟩,some ⟨true,25,3,l18.length,fl Zi l18⟩,none,none,none,none,none]) (Zr hU rfl rfl ?_) ?_
   ·simp only [push_cast,seval,Za,pl18,ql18,el18,hN0,hN]
   refine Zb Zc [] ?_
   simp only [push_cast,seval,Za,hN0,hN]
   have hs0_:=Option.some.inj hs0_;subst hs0_
   refine And.intro rfl (Fit2.of (Zr hU rfl rfl ?_) (by omega))
   simp only [push_cast,seval,Za,hN0,hN]
  replace hs0_:=Z0 c19 hs0_
  refine Jt ?_
  try simp only [Zk,Zg,↓reduceIte,Nat.reduceEqDiff]
  have hs0_:=Option.some.inj hs0_;subst hs0_
  refine And.intro (fun h=>by cases h) (And.intro rfl (Fit2.of (Zr hU rfl rfl ?_) (by omega)))
  simp only [push_cast,seval,Za,hN0,hN]
 try simp only [Zk,Zg,↓reduceIte,Nat.reduceEqDiff]
 refine Zl [2,3] [false,true,true,true,false] ?_
 simp only [push_cast,seval]
 refine Zj ?_
 refine Zb Zc [] ?_
 simp only [push_cast,seval,Za,hN0,hN]
 refine Zl [2] [false,true,false,true,false] ?_
 simp only [push_cast,seval]
 refine Zu ?_
 try simp only [Zk,Zg]
 have h:=Option.some.inj h;subst h
 refine Zq (.inr rfl) hU [.agg [.val (.int .i64 a0.Kind),.sl a0.Words.length (fl (eI .u64) a0.Words),.row (n+3) z20.length]] (by omega) ?_
 simp only [push_cast,seval,Za,Try.results12,hN0,hN]
theorem Zi4:∀ k,(∀ {a0:Zd} {r:Zd} {O:Objs} {n:Nat},(Qk k) a0=some r→GTo Try.prog 12 [.agg (Zf a0)] O n (.agg (Zf r)) O n):=fun k=>by
 induction k with
 | zero=>exact @fun a0 r O n h=>(nomatch (show (none:Option _)=some _ from h))
 | succ k ih=>exact @fun a0 r O n h=>Zlb (ih)  h
theorem Zfb {a0:Zd} {r:Zd} {O:Objs} {n:Nat} (h:Zbn a0=some r):GTo Try.prog 12 [.agg (Zf a0)] O n (.agg (Zf r)) O n:=by
 obtain ⟨k,hk⟩:=Zc8 h
 exact (Zi4 k)  hk
theorem Zlc {J4:(Zd→Option Int)} (Zkl:∀ {a0:Zd} {r:Int} {O:Objs} {n:Nat},J4 a0=some r→GTo Try.prog 11 [.agg (Zf a0)] O n (.val (.int .i64 r)) O n) {a0:Zd} {r:Int} {O:Objs} {n:Nat} (h:K8 J4 a0=some r):GTo Try.prog 11 [.agg (Zf a0)] O n (.val (.int .i64 r)) O n:=by
 unfold K8 at h
 refine Yj Zc Try.call11 Try.func11 rfl (Nat.le_of_ble_eq_true rfl) (Nat.le_refl _) fun hU => ?_
 have hN0:O n=none:=hU.fresh _ (Nat.le_refl _)
 have hN:∀ k,O (n+k)=none:=fun k=>hU.fresh _ (Nat.le_add_right _ _)
 show W _ _ _ _ ⟨42,[],[(0,.agg (Zf a0))]⟩ (Zy O n []) _
 refine Zp [1] (Zb Zc [] ?_)
 simp only [push_cast,seval,Za,hN0,hN]
 refine Zj ?_
 refine Zp [1,7] (Zb Zc [] ?_)
 simp only [push_cast,seval,Za,hN0,hN]
 refine Zs (t:=(a0.Kind == 0)) rfl (fun c11 => ?_) (fun c11 => ?_)
 ·replace h:=Z3 c11 h
  refine Zp [2] (Zb Zc [] ?_)
  simp only [push_cast,seval,Za,hN0,hN]
  refine Zu ?_
  try simp only [Zk,Zg]
  have h:=Option.some.inj h;subst h
  refine Zq (.inr rfl) hU [.val (.int .i64 0)] (by omega) ?_
  simp only [push_cast,seval,Za,Try.results11,hN0,hN]
 replace h:=Z0 c11 h
 refine Zw ?_
 try simp only [Zk,Zg]
 refine Zl [1] [true] ?_
 simp only [push_cast,seval]
 refine Zp [1,3] (Zb Zc [] ?_)
 simp only [push_cast,seval,Za,hN0,hN]
 obtain ⟨z1,hz1,h⟩:=bC h
 refine Xk (E':=⟨42,[],[(1,.ref n 0),(3,.val (.int .i64 z1))]⟩) (O':=(Zy O n [some ⟨false,25,3,1,(Zf a0)⟩])) (n0:=(n+1)) ?_ ?_
 ·refine Zp [1,3,10] (Zb Zc [] ?_)
  simp only [push_cast,seval,Za,hN0,hN]
  refine Zs (t:=(a0.Kind == 1)) rfl (fun c2 => ?_) (fun c2 => ?_)
  ·replace hz1:=Z3 c2 hz1
   refine Zb Zc [] ?_
   simp only [push_cast,seval,Za,hN0,hN]
   have hz1:=Option.some.inj hz1;subst hz1
   refine And.intro rfl (Fit2.of (Zr hU rfl rfl ?_) (by omega))
   simp only [push_cast,seval,Za,hN0,hN]
  replace hz1:=Z0 c2 hz1
  refine Zw ?_
  try simp only [Zk,Zg]
  have hz1:=Option.some.inj hz1;subst hz1
  refine And.intro rfl (Fit2.of (Zr hU rfl rfl ?_) (by omega))
  simp only [push_cast,seval,Za,hN0,hN]
 refine Zj ?_
 refine Zp [1,3,4] (Zb Zc [] ?_)
 simp only [push_cast,seval,Za,hN0,hN]
 refine Zl [1,3,4] [true] ?_
 simp only [push_cast,seval]
 obtain ⟨z10,hz10,h⟩:=bC h
 refine X1 (E':=⟨42,[],[(3,.val (.int .i64 z10))]⟩) (O':=(Zy O n [none])) (n0:=(n+1)) ?_ ?_
 ·refine Jq hz10 (fun s0_=>⟨42,[],[(1,.ref n 0),(3,.val (.int .i64 s0_.1)),(4,.val (.int .i64 s0_.2))]⟩) (fun s0_=>(Zy O n [some ⟨false,25,3,1,(Zf a0)⟩])) (fun z10=>JX 0 n (⟨42,[],[(3,.val (.int .i64 z10))]⟩:Env) (Zy O n [none]) (n+1)) ?_
  intro s0_ x0_ hs0_
  unfold Xs at hs0_
  try dsimp only
  refine Zj ?_
  refine Zp [1,3,4,20] (Zb Zc [] ?_)
  simp only [push_cast,seval,Za,hN0,hN]
  refine Zs (t:=(decide (s0_.2 < (a0.Kids.length:Int)))) rfl (fun c9 => ?_) (fun c9 => ?_)
  ·replace hs0_:=Z3 c9 hs0_
   refine Zw ?_
   try simp only [Zk,Zg]
   refine Zl [1,3,4] [true] ?_
   simp only [push_cast,seval]
   obtain ⟨z3,hz3,hs0_⟩:=bC hs0_
   refine Xk (E':=⟨42,[],[(1,.ref n 0),(3,.val (.int .i64 z3)),(4,.val (.int .i64 s0_.2))]⟩) (O':=(Zy O n [some ⟨false,25,3,1,(Zf a0)⟩])) (n0:=(n+1)) ?_ ?_
   ·refine Yn ?_
    refine Zj ?_
    obtain ⟨x6,hx6,ax6,bx6,cx6,hz3⟩:=bE (f:=Zi) Uo (fun _=>rfl) (by decide) hz3
    obtain ⟨y7,hy7,hz3⟩:=bC hz3
    refine Zb Zc [] ?_
    simp only [push_cast,Nat.reduceAdd,Nat.reduceSub,Nat.reduceMul,Nat.reduceLeDiff,Nat.reduceLT,Nat.reduceEqDiff,↓reduceIte,reduceCtorEq,Int.reduceBEq,Int.reduceBNe,Nat.reduceBEq,Int.reduceLE,Int.reduceLT,Int.reduceEq,Int.reduceNe,Int.reduceNeg,Nat.reduceDiv,Nat.reduceMod,Nat.reducePow,Za,ax6,bx6,cx6,hN0,hN]
    refine (Zkl hy7).then ?_
    simp only [push_cast,Nat.reduceAdd,Nat.reduceSub,Nat.reduceMul,Nat.reduceLeDiff,Nat.reduceLT,Nat.reduceEqDiff,↓reduceIte,reduceCtorEq,Int.reduceBEq,Int.reduceBNe,Nat.reduceBEq,Int.reduceLE,Int.reduceLT,Int.reduceEq,Int.reduceNe,Int.reduceNeg,Nat.reduceDiv,Nat.reduceMod,Nat.reducePow,Za,ax6,bx6,cx6,hN0,hN]
    refine Zl [1,3,4] [true] ?_
    simp only [push_cast,seval]
    refine Zp [1,3,4,38] (Zb Zc [none,none,none] ?_)
    simp only [push_cast,seval,Za,hN0,hN]
    repeat (with_reducible refine And.intro (by first | (intro h0;simp only [h0,and_self];done) | (intro h0;simp only [h0,Bool.not_false,Bool.not_true,Bool.true_and,Bool.and_true,true_and,and_true,and_self,imp_self,implies_true,bne_iff_ne,ne_eq,beq_iff_eq];done) | (intros;simp_all;done) | exact True.intro) ?_)
    refine Zs (t:=(cond (a0.Kind == 1) true (a0.Kind == 8))) rfl (fun c8 => ?_) (fun c8 => ?_)
    ·replace hz3:=Z3 c8 hz3
     refine Zb Zc [] ?_
     simp only [push_cast,seval,Za,hN0,hN]
     have hz3:=Option.some.inj hz3;subst hz3
     refine And.intro rfl (Fit2.of (Zr hU rfl rfl ?_) (by omega))
     simp only [push_cast,seval,Za,hN0,hN]
    replace hz3:=Z0 c8 hz3
    refine Zw ?_
    try simp only [Zk,Zg]
    have hz3:=Option.some.inj hz3;subst hz3
    refine And.intro rfl (Fit2.of (Zr hU rfl rfl ?_) (by omega))
    simp only [push_cast,seval,Za,hN0,hN]
   refine Zb Zc [] ?_
   simp only [push_cast,seval,Za,hN0,hN]
   have hs0_:=Option.some.inj hs0_;subst hs0_
   refine And.intro rfl (Fit2.of (Zr hU rfl rfl ?_) (by omega))
   simp only [push_cast,seval,Za,hN0,hN]
  replace hs0_:=Z0 c9 hs0_
  refine Jt ?_
  try simp only [Zk,Zg,↓reduceIte,Nat.reduceEqDiff]
  have hs0_:=Option.some.inj hs0_;subst hs0_
  refine And.intro (fun h=>by cases h) (And.intro rfl (Fit2.of (Zr hU rfl rfl ?_) (by omega)))
  simp only [push_cast,seval,Za,hN0,hN]
 try simp only [Zk,Zg,↓reduceIte,Nat.reduceEqDiff]
 refine Zl [3] [false] ?_
 simp only [push_cast,seval]
 refine Zp [2] (Zb Zc [] ?_)
 simp only [push_cast,seval,Za,hN0,hN]
 refine Zu ?_
 try simp only [Zk,Zg]
 have h:=Option.some.inj h;subst h
 refine Zq (.inr rfl) hU [.val (.int .i64 z10)] (by omega) ?_
 simp only [push_cast,seval,Za,Try.results11,hN0,hN]
theorem Zi5:∀ k,(∀ {a0:Zd} {r:Int} {O:Objs} {n:Nat},(Xp k) a0=some r→GTo Try.prog 11 [.agg (Zf a0)] O n (.val (.int .i64 r)) O n):=fun k=>by
 induction k with
 | zero=>exact @fun a0 r O n h=>(nomatch (show (none:Option _)=some _ from h))
 | succ k ih=>exact @fun a0 r O n h=>Zlc (ih)  h
theorem Zfc {a0:Zd} {r:Int} {O:Objs} {n:Nat} (h:Zbo a0=some r):GTo Try.prog 11 [.agg (Zf a0)] O n (.val (.int .i64 r)) O n:=by
 obtain ⟨k,hk⟩:=Zc8 h
 exact (Zi5 k)  hk
theorem Zo3 {K2:(Zd→Zd→Option Bool)} (Zlq:∀ {a0:Zd} {a1:Zd} {r:Bool} {O:Objs} {n:Nat},K2 a0 a1=some r→GTo Try.prog 13 [.agg (Zf a0),.agg (Zf a1)] O n (.val (.bool r)) O n) {a0:Zd} {a1:Zd} {r:Bool} {O:Objs} {n:Nat} (h:Uf K2 a0 a1=some r):GTo Try.prog 13 [.agg (Zf a0),.agg (Zf a1)] O n (.val (.bool r)) O n:=by
 unfold Uf at h
 refine Yj Zc Try.call13 Try.func13 rfl (Nat.le_of_ble_eq_true rfl) (Nat.le_refl _) fun hU => ?_
 have hN0:O n=none:=hU.fresh _ (Nat.le_refl _)
 have hN:∀ k,O (n+k)=none:=fun k=>hU.fresh _ (Nat.le_add_right _ _)
 show W _ _ _ _ ⟨47,[],[(0,.agg (Zf a0)),(1,.agg (Zf a1))]⟩ (Zy O n []) _
 refine Zp [2,3] (Zb Zc [] ?_)
 simp only [push_cast,seval,Za,hN0,hN]
 refine Zj ?_
 obtain ⟨z2,hz2,h⟩:=bC h
 refine Xk (E':=⟨47,[],[(2,.ref n 0),(3,.ref (n+1) 0),(27,.val (.bool z2))]⟩) (O':=(Zy O n [some ⟨false,25,3,1,(Zf a0)⟩,some ⟨false,25,3,1,(Zf a1)⟩])) (n0:=(n+2)) ?_ ?_
 ·rcases Bool.eq_false_or_eq_true (a0.Kind != a1.Kind) with c5 | c5
  ·replace hz2:=Z3 c5 hz2
   refine Zb Zc (Z70 []) ?_
   simp only [push_cast,seval,Za,c5,hN0,hN]
   have hz2:=Option.some.inj hz2;subst hz2
   refine And.intro rfl (Fit2.of (Zr hU rfl rfl ?_) (by omega))
   simp only [push_cast,seval,Za,c5,hN0,hN]
  replace hz2:=Z0 c5 hz2
  obtain ⟨y4,hy4,hz2⟩:=bC hz2
  refine Zb Zc (Z73 (Yee [])) ?_
  simp only [push_cast,seval,Za,c5,hN0,hN]
  repeat (with_reducible refine And.intro (by first | (intro h0;simp only [h0,and_self];done) | (intro h0;simp only [h0,Bool.not_false,Bool.not_true,Bool.true_and,Bool.and_true,true_and,and_true,and_self,imp_self,implies_true,bne_iff_ne,ne_eq,beq_iff_eq];done) | (intros;simp_all;done) | exact True.intro) ?_)
  refine (Zg1 hy4).then ?_
  simp only [push_cast,seval,Za,c5,hN0,hN]
  repeat (with_reducible refine And.intro (by first | (intro h0;simp only [h0,and_self];done) | (intro h0;simp only [h0,Bool.not_false,Bool.not_true,Bool.true_and,Bool.and_true,true_and,and_true,and_self,imp_self,implies_true,bne_iff_ne,ne_eq,beq_iff_eq];done) | (intros;simp_all;done) | exact True.intro) ?_)
  have hz2:=Option.some.inj hz2;subst hz2
  refine And.intro rfl (Fit2.of (Zr hU rfl rfl ?_) (by omega))
  simp only [push_cast,seval,Za,c5,hN0,hN]
 refine Zs (t:=z2) rfl (fun c15 => ?_) (fun c15 => ?_)
 ·replace h:=Z3 c15 h
  refine Zp [4] (Zb Zc [] ?_)
  simp only [push_cast,seval,Za,hN0,hN]
  refine Zu ?_
  try simp only [Zk,Zg]
  have h:=Option.some.inj h;subst h
  refine Zq (.inr rfl) hU [.val (.bool false)] (by omega) ?_
  simp only [push_cast,seval,Za,Try.results13,hN0,hN]
 replace h:=Z0 c15 h
 refine Zw ?_
 try simp only [Zk,Zg]
 refine Zl [2,3] [true,true] ?_
 simp only [push_cast,seval]
 refine Zj ?_
 refine Zp [2,3,5] (Zb Zc [] ?_)
 simp only [push_cast,seval,Za,hN0,hN]
 refine Zl [2,3,5] [true,true] ?_
 simp only [push_cast,seval]
 obtain ⟨z14,hz14,h⟩:=bC h
 refine Zkc (J:=(Zaq (fun z14=>JR n (⟨47,[],[(4,.val (.bool false))]⟩:Env) (Zy O n [none,none]) (n+2)) (fun z14=>JX 0 n (⟨47,[],[]⟩:Env) (Zy O n [none,none]) (n+2)))) (z:=z14) ?_ fun hw => ?_
 ·refine Jq hz14 (fun s0_=>⟨47,[],[(2,.ref n 0),(3,.ref (n+1) 0),(5,.val (.int .i64 s0_))]⟩) (fun s0_=>(Zy O n [some ⟨false,25,3,1,(Zf a0)⟩,some ⟨false,25,3,1,(Zf a1)⟩])) (Zaq (fun z14=>JR n (⟨47,[],[(4,.val (.bool false))]⟩:Env) (Zy O n [none,none]) (n+2)) (fun z14=>JX 0 n (⟨47,[],[]⟩:Env) (Zy O n [none,none]) (n+2))) ?_
  intro s0_ x0_ hs0_
  unfold Ko at hs0_
  try dsimp only
  refine Zj ?_
  refine Zp [2,3,5,32] (Zb Zc [] ?_)
  simp only [push_cast,seval,Za,hN0,hN]
  refine Zs (t:=(decide (s0_ < (a0.Kids.length:Int)))) rfl (fun c13 => ?_) (fun c13 => ?_)
  ·replace hs0_:=Z3 c13 hs0_
   refine Zw ?_
   try simp only [Zk,Zg]
   refine Zl [2,3,5] [true,true] ?_
   simp only [push_cast,seval]
   refine Zj ?_
   refine Yn ?_
   refine Zj ?_
   obtain ⟨x9,hx9,ax9,bx9,cx9,hs0_⟩:=bE (f:=Zi) Uo (fun _=>rfl) (by decide) hs0_
   obtain ⟨x10,hx10,ax10,bx10,cx10,hs0_⟩:=bE (f:=Zi) Uo (fun _=>rfl) (by decide) hs0_
   obtain ⟨y11,hy11,hs0_⟩:=bC hs0_
   refine V6 Zc (by kernel_rfl) [] (by kernel_rfl) ?_
   simp only [push_cast,Nat.reduceAdd,Nat.reduceSub,Nat.reduceMul,Nat.reduceLeDiff,Nat.reduceLT,Nat.reduceEqDiff,↓reduceIte,reduceCtorEq,Int.reduceBEq,Int.reduceBNe,Nat.reduceBEq,Int.reduceLE,Int.reduceLT,Int.reduceEq,Int.reduceNe,Int.reduceNeg,Nat.reduceDiv,Nat.reduceMod,Nat.reducePow,Za,ax9,bx9,cx9,ax10,bx10,cx10,hN0,hN]
   refine PCall.of (Zlq hy11) ?_
   simp only [push_cast,Nat.reduceAdd,Nat.reduceSub,Nat.reduceMul,Nat.reduceLeDiff,Nat.reduceLT,Nat.reduceEqDiff,↓reduceIte,reduceCtorEq,Int.reduceBEq,Int.reduceBNe,Nat.reduceBEq,Int.reduceLE,Int.reduceLT,Int.reduceEq,Int.reduceNe,Int.reduceNeg,Nat.reduceDiv,Nat.reduceMod,Nat.reducePow,Za,ax9,bx9,cx9,ax10,bx10,cx10,hN0,hN]
   refine Zl [2,3,5,46] [true,true] ?_
   simp only [push_cast,seval]
   refine Zs (t:=(!y11)) rfl (fun c12 => ?_) (fun c12 => ?_)
   ·replace hs0_:=Z3 c12 hs0_
    refine Zp [4] (Zb Zc [] ?_)
    simp only [push_cast,seval,Za,hN0,hN]
    refine Zu ?_
    try simp only [Zk,Zg]
    have hs0_:=Option.some.inj hs0_;subst hs0_
    refine And.intro (fun h=>by cases h) (And.intro rfl (Fit2.of (Zr hU rfl rfl ?_) (by omega)))
    simp only [push_cast,seval,Za,hN0,hN]
   replace hs0_:=Z0 c12 hs0_
   refine Zw ?_
   try simp only [Zk,Zg]
   refine Zl [2,3,5] [true,true] ?_
   simp only [push_cast,seval]
   refine Zb Zc [] ?_
   simp only [push_cast,seval,Za,hN0,hN]
   have hs0_:=Option.some.inj hs0_;subst hs0_
   refine And.intro rfl (Fit2.of (Zr hU rfl rfl ?_) (by omega))
   simp only [push_cast,seval,Za,hN0,hN]
  replace hs0_:=Z0 c13 hs0_
  refine Jt ?_
  try simp only [Zk,Zg,↓reduceIte,Nat.reduceEqDiff]
  have hs0_:=Option.some.inj hs0_;subst hs0_
  refine And.intro (fun h=>by cases h) (And.intro rfl (Fit2.of (Zr hU rfl rfl ?_) (by omega)))
  simp only [push_cast,seval,Za,hN0,hN]
 rcases z14 with z14 | z14
 ·dsimp only [Zaq] at hw h
  refine Zcx hw ?_
  try simp only [Zk,Zg,↓reduceIte,Nat.reduceEqDiff]
  have h:=Option.some.inj h;subst h
  refine Zq (.inr rfl) hU [.val (.bool false)] (by omega) ?_
  simp only [push_cast,seval,Za,Try.results13,hN0,hN]
 dsimp only [Zaq] at hw h
 refine X1 hw ?_
 try simp only [Zk,Zg,↓reduceIte,Nat.reduceEqDiff]
 refine Zl [] [false,false] ?_
 simp only [push_cast,seval]
 refine Zp [4] (Zb Zc [] ?_)
 simp only [push_cast,seval,Za,hN0,hN]
 refine Zu ?_
 try simp only [Zk,Zg]
 have h:=Option.some.inj h;subst h
 refine Zq (.inr rfl) hU [.val (.bool true)] (by omega) ?_
 simp only [push_cast,seval,Za,Try.results13,hN0,hN]
theorem Zk9:∀ k,(∀ {a0:Zd} {a1:Zd} {r:Bool} {O:Objs} {n:Nat},(Jf k) a0 a1=some r→GTo Try.prog 13 [.agg (Zf a0),.agg (Zf a1)] O n (.val (.bool r)) O n):=fun k=>by
 induction k with
 | zero=>exact @fun a0 a1 r O n h=>(nomatch (show (none:Option _)=some _ from h))
 | succ k ih=>exact @fun a0 a1 r O n h=>Zo3 (ih)  h
theorem Zg2 {a0:Zd} {a1:Zd} {r:Bool} {O:Objs} {n:Nat} (h:Zda a0 a1=some r):GTo Try.prog 13 [.agg (Zf a0),.agg (Zf a1)] O n (.val (.bool r)) O n:=by
 obtain ⟨k,hk⟩:=Zc8 h
 exact (Zk9 k)  hk
end Go.Proofs.Ytbkhdkfjabiocaa
