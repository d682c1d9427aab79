/- Part UM1 of this seat's mirrors: functions of the seat's program, and the plain functions that they are; each theorem bears its own conditions. -/
import Derived.Test.YtpggbianhdebmaaUE
namespace Go.Proofs.Ytpggbianhdebmaa
open Go.RowKit
set_option linter.unusedVariables false
set_option linter.unusedSimpArgs false
set_option maxRecDepth 100000
set_option maxHeartbeats 4000000
attribute [local push_cast] Zb2 Zb1 Zcs Zcr Zn Zi Gu Km Kl onW Yi Vg Ka Zel Zdx Uh Ul Ug Uk Zal Zah Uj Zak Zaj Zai Ui Zaf Ky evS wok Xg Op.operands Call.operands gop onK onP atK List.all_cons List.all_nil Bool.and_true Bool.true_and Bool.and_self Value.oneCell' List.take_zero List.take_succ_cons List.take_nil List.drop_zero List.drop_succ_cons List.drop_nil List.append_nil Nat.add_zero Nat.zero_add Qi Zp ev Xo Zhw Zbu Zbt Zbz Zbx Zby Zbv Zbw Zbs Zf7 Zgk Zhz U4 Q8 Gs J3 V6 Vn Jf Jk Kj Kf Ji Ki Kh Kg Jh Kc Jg Jj Qz Ke Zdy Ko Qg Up Qh Zaq U2 Zg8 K5 bHi bMx Q9 Zap Zjl U0 Za4 K7 Xx Zew Zjm Uo Kk Zjn Q7 Zj9 Gx G3 Gw G0 Zch Zcd Zcb V7 Gy Zcg Zcf Zce Gz Zb7 Zca Zb6 Zb9 Ze6 Ze3 Ze2 Zb8 Ze4 Ze5 Zcc Zbo Zex Zad Kx Kw pop TK.isAgg Zcm Zcq Zcl Zcp G7 Zfd Ze9 Zco Zfc Zfb Zfa Zcn Ze8 G.under G.unders List.getD_cons_zero List.getD_cons_succ List.set_cons_zero List.set_cons_succ List.map_cons List.map_nil List.toList_toArray Array.toList_append Option.toArray_none Option.toArray_some Array.toList_map Option.map_some Option.map_none Option.bind_some Option.bind_none List.getElem?_cons_zero List.getElem?_cons_succ List.getElem?_nil List.nil_append List.cons_append List.replicate_succ List.replicate_zero List.length_cons List.length_nil and_true true_and and_false false_and Bool.true_eq_false Bool.false_eq_true forall_const false_implies implies_true IntKind.bits if_true if_false ite_true ite_false eq_self true_implies false_or or_false or_true true_or not_true_eq_false not_false_eq_true decide_true decide_false decide_eq_true_eq decide_eq_false_iff_not beq_iff_eq bne_iff_ne ne_eq Bool.not_eq_true Bool.not_eq_false beq_eq_false_iff_ne bne_eq_false_iff_eq beq_self_eq_true bne_self_eq_false Option.some.injEq exists_eq_left' exists_eq_left ge_iff_le gt_iff_lt decide_not Bool.not_true Bool.not_false imp_self Zey cond_true cond_false Zmh Zmg Bool.not_not Bool.and_false Bool.false_and Bool.or_true Bool.true_or Bool.or_false Bool.false_or Xy Un K4 Jw Q6 Qa Option.join_some Nat.add_assoc Int.toNat_natCast eI eB eS eL Vm K6 Jl Zb5 Zb3 Zb4 Zkl Zkw Vc Jo Zcy Zcw Zcx Zh2 Zeu Zga Zem Zd2 Jz Zec List.length_append G.agg.injEq G.row.injEq G.ref.injEq G.val.injEq G.sl.injEq G.tup.injEq Value.int.injEq Value.bool.injEq Value.string.injEq List.cons.injEq exists_and_left exists_const List.flatten_cons List.flatten_nil Int.le_refl Nat.le_refl Zam Xi Gq Bool.not_eq_true' Bool.not_eq_false' Zdw Vl Zfr Zfv Zfq Zfu Zjk Zjf List.size_toArray Zgs Zfg G.ren G.rens Zff Zat Zcz Zbq Zbr Zag Zfw U6 G.fn.injEq Ux Zao Zdv Zjg Zan Zft Zjj Zji Zjh Zfs Ze7 Zih Option.join_none Zk Q0 undef Za6 Arr.len Arr.put_eq Ub Ua Kt Jn Zcv Zct Zcu onB Zkk Zev X7 V3 Gf Gg Gh Gi Gj Gk V8 Ue Uc Kv Jp Ud Zac Zab Zaa G9 Zkm Zkv Zh1 Zhi Xu Zh0 Zep Uf Ku Zjo Zen Uz Za0 Us Ur Gl Gm Gn Gp Vq Vr Vs Vt Vu Vv Vw Vx Vy Vz V0 V1 V2 V4 prT Vo Zne Zfi Znf Zfj Zng Zfk Znh Zfl Zni Zfm Znj Zfn Znk Zfo Znl Zfp Zin Zc1 Zio Zc2 Zip Zc3 Ziq Zc4 Zir Zc5 Zis Zc6 Zit Zc7 Ziu Zc8 Ziv Zc9 Ziw Zda Zix Zdb Ziy Zdc Ziz Gd Zi0 Zdd Zbn Zde Zi1 Zdf Zhp Zdg Zi2 Zdh Zi3 Zdi Zi4 Zdj Jr Uw Zi5 Zdk Zi6 Zdl Zi7 Zdm Zi8 Zdn Zi9 Zdo Zja Zdp Zjb Zdq Zjc Zdr Zjd Zds Zje Zdt Zd Yp Yo Yl Ym Yq Ye Zz Yc Yn Zf Jv Kz Kr Ks K0 Js Xk Jq Yj Qq Qp Ql Qm Qr X8 X6 X5 Qo Ze Xc Xb Y8 Y9 Xd Y5 Y4 Y3 Xa Yg Yf Ya Yb Yh Z7 Z6 Z5 Yd
theorem Zhf {a0:Int} {a1:Int} {r:Zl} {O:Objs} {n:Nat}  (h:Zci a0 a1=some r):GTo Try.prog 7 [.val (.int .i64 a0),.val (.int .i64 a1)] O n (.ref n 0) (Zu O n [some ⟨false,59,3,1,[.row (n+1) r.segments.length,.val (.int .i64 r.size),.val (.int .i64 r.left)]⟩,some ⟨true,40,1,r.segments.length,fl (eL (eI .u64)) r.segments⟩]) (n+2):=by
 unfold Zci at h
 refine Xq Zc Try.call7 Try.func7 rfl (Nat.le_of_ble_eq_true rfl) (by omega) fun hU => ?_
 have hN0:O n=none:=hU.fresh _ (Nat.le_refl _)
 have hN:∀ k,O (n+k)=none:=fun k=>hU.fresh _ (Nat.le_add_right _ _)
 show W _ _ _ _ ⟨12,[],[(0,.val (.int .i64 a0)),(1,.val (.int .i64 a1))]⟩ (Zu O n []) _
 refine Zh [0,1] (Zb Zc [] ?_)
 simp only [push_cast,seval,↓reduceIte,Za,hN0,hN]
 refine Zh [4] (Zb Zc [] ?_)
 simp only [push_cast,seval,↓reduceIte,Za,hN0,hN]
 refine Yy ?_
 try simp only [Zn,Zi]
 have h:=Option.some.inj h;subst h
 refine Za1 (k:=2) (L3:=[some ⟨false,59,3,1,[.row (n+1) ([]:List (List Int)).length,.val (.int .i64 (if a0 < 1 then 1 else a0)),.val (.int .i64 (if 131072 < (if a1 < 0 then 0 else a1) then 131072 else (if a1 < 0 then 0 else a1)))]⟩,some ⟨true,40,1,([]:List (List Int)).length,fl (eL (eI .u64)) ([]:List (List Int))⟩,none]) (E2:=(⟨12,[],[(4,.ref n 0)]⟩:Env)) (n3:=(n+3)) (.inr rfl) hU rfl [.ref n 0] ?_ ?_
 ·refine Fit2.trans (E':=(⟨12,[],[(4,.ref n 0)]⟩:Env)) (O':=(Zu O n [some ⟨false,59,3,1,[.val (.slice none 0 0),.val (.int .i64 (if a0 < 1 then 1 else a0)),.val (.int .i64 (if 131072 < (if a1 < 0 then 0 else a1) then 131072 else (if a1 < 0 then 0 else a1)))]⟩])) (n':=(n+1)) (Fit2.of (Y6 hU rfl rfl ?_) (by omega)) ?_
  ·simp only [push_cast,seval,↓reduceIte,Za,hN0,hN]
  refine Fit2.trans (Zgh (p:=n) (k:=0) (q:=⟨false,59,3,1,[.val (.slice none 0 0),.val (.int .i64 (if a0 < 1 then 1 else a0)),.val (.int .i64 (if 131072 < (if a1 < 0 then 0 else a1) then 131072 else (if a1 < 0 then 0 else a1)))]⟩) 40 1 (by simp only [Xy,Un,List.getElem?_cons_zero,List.getElem?_cons_succ,Option.join_some,List.length_nil,Zk]) rfl (by omega)) ?_
  simp only [Q6,Qa,K4,Jw,List.set_cons_zero,List.set_cons_succ,List.cons_append,List.nil_append,List.length_cons,List.length_nil,Nat.zero_add,Nat.reduceAdd,Nat.reduceLT,Nat.add_assoc]
  refine Zhk (k:=2) (k':=3) hU [0,1] [0,1,0] rfl rfl rfl rfl ⟨rfl,rfl⟩ ?_
  simp only [push_cast,seval,↓reduceIte,Za,hN0,hN]
 simp only [push_cast,seval,↓reduceIte,Za,Try.results7,hN0,hN]
theorem Zhg {a0:Int} {a1:Int} {r:Zo} {O:Objs} {n:Nat}  (h:Vb a0 a1=some r):GTo Try.prog 8 [.val (.int .i64 a0),.val (.int .i64 a1)] O n (.ref n 0) (Zu O n [some ⟨false,34,4,1,[.row (n+1) r.L.length,.val (.int .i64 r.Size),.val (.int .i64 r.Most),.val (.int .i64 r.Used)]⟩,some ⟨true,40,1,r.L.length,fl (eL (eI .u64)) r.L⟩]) (n+2):=by
 unfold Vb at h
 refine Xq Zc Try.call8 Try.func8 rfl (Nat.le_of_ble_eq_true rfl) (by omega) fun hU => ?_
 have hN0:O n=none:=hU.fresh _ (Nat.le_refl _)
 have hN:∀ k,O (n+k)=none:=fun k=>hU.fresh _ (Nat.le_add_right _ _)
 show W _ _ _ _ ⟨15,[],[(0,.val (.int .i64 a0)),(1,.val (.int .i64 a1))]⟩ (Zu O n []) _
 refine Zh [0,1] (Zb Zc [] ?_)
 simp only [push_cast,seval,↓reduceIte,Za,hN0,hN]
 obtain ⟨z1,hz1,h⟩:=bC h
 refine Z0 (E':=⟨15,[],[(0,.val (.int .i64 z1)),(1,.val (.int .i64 a1))]⟩) (O':=(Zu O n [])) (n0:=n) ?_ ?_
 ·refine Zh [0,1,6] (Zb Zc [] ?_)
  simp only [push_cast,seval,↓reduceIte,Za,hN0,hN]
  refine Zg (t:=(decide (a0 < 1))) rfl (fun c2 => ?_) (fun c2 => ?_)
  ·replace hz1:=Vf c2 hz1
   refine Zb Zc [] ?_
   simp only [push_cast,seval,↓reduceIte,Za,hN0,hN]
   have hz1:=Option.some.inj hz1;subst hz1
   refine And.intro rfl (Fit2.of (Y6 hU rfl rfl ?_) (by omega))
   simp only [push_cast,seval,↓reduceIte,Za,hN0,hN]
  replace hz1:=Ve c2 hz1
  refine Zr ?_
  try simp only [Zn,Zi]
  have hz1:=Option.some.inj hz1;subst hz1
  refine And.intro rfl (Fit2.of (Y6 hU rfl rfl ?_) (by omega))
  simp only [push_cast,seval,↓reduceIte,Za,hN0,hN]
 obtain ⟨z3,hz3,h⟩:=bC h
 refine Z0 (E':=⟨15,[],[(0,.val (.int .i64 z1)),(1,.val (.int .i64 z3))]⟩) (O':=(Zu O n [])) (n0:=n) ?_ ?_
 ·refine Zh [0,1,8] (Zb Zc [] ?_)
  simp only [push_cast,seval,↓reduceIte,Za,hN0,hN]
  refine Zg (t:=(decide (a1 < 0))) rfl (fun c4 => ?_) (fun c4 => ?_)
  ·replace hz3:=Vf c4 hz3
   refine Zb Zc [] ?_
   simp only [push_cast,seval,↓reduceIte,Za,hN0,hN]
   have hz3:=Option.some.inj hz3;subst hz3
   refine And.intro rfl (Fit2.of (Y6 hU rfl rfl ?_) (by omega))
   simp only [push_cast,seval,↓reduceIte,Za,hN0,hN]
  replace hz3:=Ve c4 hz3
  refine Zr ?_
  try simp only [Zn,Zi]
  have hz3:=Option.some.inj hz3;subst hz3
  refine And.intro rfl (Fit2.of (Y6 hU rfl rfl ?_) (by omega))
  simp only [push_cast,seval,↓reduceIte,Za,hN0,hN]
 obtain ⟨z5,hz5,h⟩:=bC h
 refine Z0 (E':=⟨15,[],[(0,.val (.int .i64 z1)),(1,.val (.int .i64 z5))]⟩) (O':=(Zu O n [])) (n0:=n) ?_ ?_
 ·refine Zh [0,1,10] (Zb Zc [] ?_)
  simp only [push_cast,seval,↓reduceIte,Za,hN0,hN]
  refine Zg (t:=(decide (131072 < z3))) rfl (fun c6 => ?_) (fun c6 => ?_)
  ·replace hz5:=Vf c6 hz5
   refine Zb Zc [] ?_
   simp only [push_cast,seval,↓reduceIte,Za,hN0,hN]
   have hz5:=Option.some.inj hz5;subst hz5
   refine And.intro rfl (Fit2.of (Y6 hU rfl rfl ?_) (by omega))
   simp only [push_cast,seval,↓reduceIte,Za,hN0,hN]
  replace hz5:=Ve c6 hz5
  refine Zr ?_
  try simp only [Zn,Zi]
  have hz5:=Option.some.inj hz5;subst hz5
  refine And.intro rfl (Fit2.of (Y6 hU rfl rfl ?_) (by omega))
  simp only [push_cast,seval,↓reduceIte,Za,hN0,hN]
 refine Zh [4] (Zb Zc [] ?_)
 simp only [push_cast,seval,↓reduceIte,Za,hN0,hN]
 refine Yy ?_
 try simp only [Zn,Zi]
 have h:=Option.some.inj h;subst h
 refine Za1 (k:=2) (L3:=[some ⟨false,34,4,1,[.row (n+1) ([]:List (List Int)).length,.val (.int .i64 z1),.val (.int .i64 z5),.val (.int .i64 0)]⟩,some ⟨true,40,1,([]:List (List Int)).length,fl (eL (eI .u64)) ([]:List (List Int))⟩,none]) (E2:=(⟨15,[],[(4,.ref n 0)]⟩:Env)) (n3:=(n+3)) (.inr rfl) hU rfl [.ref n 0] ?_ ?_
 ·refine Fit2.trans (E':=(⟨15,[],[(4,.ref n 0)]⟩:Env)) (O':=(Zu O n [some ⟨false,34,4,1,[.val (.slice none 0 0),.val (.int .i64 z1),.val (.int .i64 z5),.val (.int .i64 0)]⟩])) (n':=(n+1)) (Fit2.of (Y6 hU rfl rfl ?_) (by omega)) ?_
  ·simp only [push_cast,seval,↓reduceIte,Za,hN0,hN]
  refine Fit2.trans (Zgh (p:=n) (k:=0) (q:=⟨false,34,4,1,[.val (.slice none 0 0),.val (.int .i64 z1),.val (.int .i64 z5),.val (.int .i64 0)]⟩) 40 1 (by simp only [Xy,Un,List.getElem?_cons_zero,List.getElem?_cons_succ,Option.join_some,List.length_nil,Zk]) rfl (by omega)) ?_
  simp only [Q6,Qa,K4,Jw,List.set_cons_zero,List.set_cons_succ,List.cons_append,List.nil_append,List.length_cons,List.length_nil,Nat.zero_add,Nat.reduceAdd,Nat.reduceLT,Nat.add_assoc]
  refine Zhk (k:=2) (k':=3) hU [0,1] [0,1,0] rfl rfl rfl rfl ⟨rfl,rfl⟩ ?_
  simp only [push_cast,seval,↓reduceIte,Za,hN0,hN]
 simp only [push_cast,seval,↓reduceIte,Za,Try.results8,hN0,hN]
theorem Zf8 {a0:(Option Zl)} {r:Int} {O:Objs} {n:Nat} (h:Zba a0=some r):GTo Try.prog 10 [(gP Zf a0)] O n (.val (.int .i64 r)) O n:=by
 unfold Zba at h
 refine Xq Zc Try.call10 Try.func10 rfl (Nat.le_of_ble_eq_true rfl) (Nat.le_refl _) fun hU => ?_
 have hN0:O n=none:=hU.fresh _ (Nat.le_refl _)
 have hN:∀ k,O (n+k)=none:=fun k=>hU.fresh _ (Nat.le_add_right _ _)
 show W _ _ _ _ ⟨9,[],[(0,(gP Zf a0))]⟩ (Zu O n []) _
 refine Zh [0] (Zb Zc [] ?_)
 simp only [push_cast,seval,↓reduceIte,Za,hN0,hN]
 refine Zt ?_
 have g2:=Zid (f:=Zf) (t:=23) Gd a0
 refine Zh [0,4] (Zb Zc [] ?_)
 simp only [push_cast,seval,↓reduceIte,Za,g2,hN0,hN]
 refine Zg (t:=(Option.isNone a0)) rfl (fun c5 => ?_) (fun c5 => ?_)
 ·replace h:=Vf c5 h
  refine Zh [2] (Zb Zc [] ?_)
  simp only [push_cast,seval,↓reduceIte,Za,hN0,hN]
  refine Yy ?_
  try simp only [Zn,Zi]
  have h:=Option.some.inj h;subst h
  refine X1 (.inr rfl) hU [.val (.int .i64 0)] (by omega) ?_
  simp only [push_cast,seval,↓reduceIte,Za,Try.results10,hN0,hN]
 replace h:=Ve c5 h
 refine Zr ?_
 try simp only [Zn,Zi]
 refine Xl [0] [] ?_
 simp only [push_cast,seval,↓reduceIte]
 obtain ⟨x4,hx4,h⟩:=bC h
 refine Zh [2] (Zb Zc [] ?_)
 simp only [push_cast,seval,↓reduceIte,Za,hx4,hN0,hN]
 refine Yy ?_
 try simp only [Zn,Zi]
 have h:=Option.some.inj h;subst h
 refine X1 (.inr rfl) hU [.val (.int .i64 x4.left)] (by omega) ?_
 simp only [push_cast,seval,↓reduceIte,Za,Try.results10,hN0,hN]
theorem Zbb {a0:(Option Zl)} {r:Int} {O:Objs} {n:Nat} (h:J7 a0=some r):GTo Try.prog 11 [(gP Zf a0)] O n (.val (.int .i64 r)) O n:=by
 unfold J7 at h
 refine Xq Zc Try.call11 Try.func11 rfl (Nat.le_of_ble_eq_true rfl) (Nat.le_refl _) fun hU => ?_
 have hN0:O n=none:=hU.fresh _ (Nat.le_refl _)
 have hN:∀ k,O (n+k)=none:=fun k=>hU.fresh _ (Nat.le_add_right _ _)
 show W _ _ _ _ ⟨10,[],[(0,(gP Zf a0))]⟩ (Zu O n []) _
 refine Zh [0] (Zb Zc [] ?_)
 simp only [push_cast,seval,↓reduceIte,Za,hN0,hN]
 refine Zt ?_
 have g2:=Zid (f:=Zf) (t:=23) Gd a0
 refine Zh [0,4] (Zb Zc [] ?_)
 simp only [push_cast,seval,↓reduceIte,Za,g2,hN0,hN]
 refine Zg (t:=(Option.isNone a0)) rfl (fun c5 => ?_) (fun c5 => ?_)
 ·replace h:=Vf c5 h
  refine Zh [2] (Zb Zc [] ?_)
  simp only [push_cast,seval,↓reduceIte,Za,hN0,hN]
  refine Yy ?_
  try simp only [Zn,Zi]
  have h:=Option.some.inj h;subst h
  refine X1 (.inr rfl) hU [.val (.int .i64 0)] (by omega) ?_
  simp only [push_cast,seval,↓reduceIte,Za,Try.results11,hN0,hN]
 replace h:=Ve c5 h
 refine Zr ?_
 try simp only [Zn,Zi]
 refine Xl [0] [] ?_
 simp only [push_cast,seval,↓reduceIte]
 obtain ⟨x4,hx4,h⟩:=bC h
 refine Zh [2] (Zb Zc [] ?_)
 simp only [push_cast,seval,↓reduceIte,Za,hx4,hN0,hN]
 refine Yy ?_
 try simp only [Zn,Zi]
 have h:=Option.some.inj h;subst h
 refine X1 (.inr rfl) hU [.val (.int .i64 (x4.segments.length:Int))] (by omega) ?_
 simp only [push_cast,seval,↓reduceIte,Za,Try.results11,hN0,hN]
theorem Jm {a0 r:List Int} {O:Objs} {n:Nat} (h:Ys a0=some r):GTo Try.prog 30 [.sl a0.length (fl (eI .u64) a0)] O n (.row n r.length) (Zu O n [some ⟨true,27,1,r.length,fl (eI .u64) r⟩]) (n+1):=by
 have h1:=Zpq h
 have h2:=Zrw h
 have h3:=Zoa h
 rw [List.nil_append] at h3
 subst h3
 simp only [List.length_nil,Nat.zero_add] at h1 h2
 clear h
 refine Xq Zc Try.call30 Try.func30 rfl (Nat.le_of_ble_eq_true rfl) (by omega) fun hU => ?_
 have hN0:O n=none:=hU.fresh _ (Nat.le_refl _)
 have hN:∀ k,O (n+k)=none:=fun k=>hU.fresh _ (Nat.le_add_right _ _)
 show W _ _ _ _ ⟨8,[],[(0,.sl r.length (fl (eI .u64) r))]⟩ (Zu O n []) _
 refine Zh [0] (Zb Zc [] ?_)
 simp only [push_cast,seval,↓reduceIte,Za,hN0,hN]
 refine Zru 0 r.length (fl (eI .u64) r) rfl (Nat.le_of_ble_eq_true rfl) (Z8 Xw _) fun A c hA => ?_
 refine Zh [0,4] (Zb Zc [] ?_)
 simp only [push_cast,seval,↓reduceIte,Za,hN0,hN]
 cases A with
 | none =>
  obtain rfl:r=[]:=List.eq_nil_of_length_eq_zero (hA rfl)
  refine Zg (t:=true) rfl (fun _ => ?_) (fun hc=>by cases hc)
  refine Zh [2] (Zb Zc [] ?_)
  simp only [push_cast,seval,↓reduceIte,Za,hN0,hN]
  refine Yy ?_
  try simp only [Zn,Zi]
  refine Za1 (k:=1) (L3:=[some ⟨true,27,1,0,[]⟩]) (E2:=⟨8,[],[(2,.row n 0),(2,.val (.slice none 0 0))]⟩) (n3:=(n+1)) (.inr rfl) hU rfl [.row n 0] ?_ ?_
  ·have ha:=Zhs (ba:=n) (E:=⟨8,[],[(2,.val (.slice none 0 0))]⟩) (O:=(Zu O n [])) (n:=n) 2 27 1 rfl (by omega)
   simp only [Qa] at ha
   exact ha
  simp only [push_cast,seval,↓reduceIte,Za,Try.results30,hN0,hN]
 | some A =>
  refine Zg (t:=false) rfl (fun hc=>by cases hc) (fun _ => ?_)
  refine Zr ?_
  try simp only [Zn,Zi]
  refine And.intro rfl (And.intro (Nat.le_of_ble_eq_true rfl) ?_)
  refine Zt ?_
  refine Zb Zc [] ?_
  simp only [push_cast,seval,↓reduceIte,Za,h1,h2,hN0,hN]
  refine Yy ?_
  try simp only [Zn,Zi]
  refine Zmm (.inr rfl) hU rfl [.row n r.length] (by omega) ?_
  simp only [push_cast,seval,↓reduceIte,Za,Try.results30,hN0,hN]
theorem U5 {a0 r:List Int} {O:Objs} {n:Nat} (h:Ys a0=some r):GTo Try.prog 30 [.sl a0.length (fl (eI .u64) a0)] O n (.sl r.length (fl (eI .u64) r)) O n:=by
 refine GTo.freeze (Jm h) fun hU => ?_
 have hN0:O n=none:=hU.fresh _ (Nat.le_refl _)
 have hN:∀ k,O (n+k)=none:=fun k=>hU.fresh _ (Nat.le_add_right _ _)
 simp only [push_cast,seval,↓reduceIte,Za,hN0,hN]
theorem Z3 {a0:(Option Zl)} {a1:Int} {r:Bool} {O:Objs} {n:Nat} (h:Xv a0 a1=some r):GTo Try.prog 28 [(gP Zf a0),.val (.int .i64 a1)] O n (.val (.bool r)) O n:=by
 unfold Xv at h
 refine Xq Zc Try.call28 Try.func28 rfl (Nat.le_of_ble_eq_true rfl) (Nat.le_refl _) fun hU => ?_
 have hN0:O n=none:=hU.fresh _ (Nat.le_refl _)
 have hN:∀ k,O (n+k)=none:=fun k=>hU.fresh _ (Nat.le_add_right _ _)
 show W _ _ _ _ ⟨13,[],[(0,(gP Zf a0)),(1,.val (.int .i64 a1))]⟩ (Zu O n []) _
 refine Zh [0,1] (Zb Zc [] ?_)
 simp only [push_cast,seval,↓reduceIte,Za,hN0,hN]
 obtain ⟨z2,hz2,h⟩:=bC h
 refine Z0 (E':=⟨13,[],[(4,.val (.bool z2))]⟩) (O':=(Zu O n [])) (n0:=n) ?_ ?_
 ·rcases Bool.eq_false_or_eq_true (decide (0≤a1)) with c5 | c5
  ·replace hz2:=Vf c5 hz2
   obtain ⟨y4,hy4,hz2⟩:=bC hz2
   refine Zb Zc (Zp3 []) ?_
   simp only [push_cast,seval,↓reduceIte,Za,c5,hN0,hN]
   refine (Zbb hy4).then ?_
   simp only [push_cast,seval,↓reduceIte,Za,c5,hN0,hN]
   have hz2:=Option.some.inj hz2;subst hz2
   refine And.intro rfl (Fit2.of (Y6 hU rfl rfl ?_) (by omega))
   simp only [push_cast,seval,↓reduceIte,Za,c5,hN0,hN]
  replace hz2:=Ve c5 hz2
  refine Zb Zc (Ztu []) ?_
  simp only [push_cast,seval,↓reduceIte,Za,c5,hN0,hN]
  have hz2:=Option.some.inj hz2;subst hz2
  refine And.intro rfl (Fit2.of (Y6 hU rfl rfl ?_) (by omega))
  simp only [push_cast,seval,↓reduceIte,Za,c5,hN0,hN]
 refine Yy ?_
 try simp only [Zn,Zi]
 have h:=Option.some.inj h;subst h
 refine X1 (.inr rfl) hU [.val (.bool z2)] (by omega) ?_
 simp only [push_cast,seval,↓reduceIte,Za,Try.results28,hN0,hN]
theorem Vj {a0:(Option Zl)} {a1:Int} {r:Int} {O:Objs} {n:Nat} (h:Qt a0 a1=some r):GTo Try.prog 23 [(gP Zf a0),.val (.int .i64 a1)] O n (.val (.int .i64 r)) O n:=by
 unfold Qt at h
 refine Xq Zc Try.call23 Try.func23 rfl (Nat.le_of_ble_eq_true rfl) (Nat.le_refl _) fun hU => ?_
 have hN0:O n=none:=hU.fresh _ (Nat.le_refl _)
 have hN:∀ k,O (n+k)=none:=fun k=>hU.fresh _ (Nat.le_add_right _ _)
 show W _ _ _ _ ⟨17,[],[(0,(gP Zf a0)),(1,.val (.int .i64 a1))]⟩ (Zu O n []) _
 refine Zh [0,1] (Zb Zc [] ?_)
 simp only [push_cast,seval,↓reduceIte,Za,hN0,hN]
 refine Zt ?_
 refine Zt ?_
 obtain ⟨y2,hy2,h⟩:=bC h
 refine Zb Zc [] ?_
 simp only [push_cast,seval,↓reduceIte,Za,hN0,hN]
 refine (Z3 hy2).then ?_
 simp only [push_cast,seval,↓reduceIte,Za,hN0,hN]
 refine Xl [0,1,8] [] ?_
 simp only [push_cast,seval,↓reduceIte]
 refine Zg (t:=(!y2)) rfl (fun c7 => ?_) (fun c7 => ?_)
 ·replace h:=Vf c7 h
  refine Zh [4] (Zb Zc [] ?_)
  simp only [push_cast,seval,↓reduceIte,Za,hN0,hN]
  refine Yy ?_
  try simp only [Zn,Zi]
  have h:=Option.some.inj h;subst h
  refine X1 (.inr rfl) hU [.val (.int .i64 0)] (by omega) ?_
  simp only [push_cast,seval,↓reduceIte,Za,Try.results23,hN0,hN]
 replace h:=Ve c7 h
 refine Zr ?_
 try simp only [Zn,Zi]
 refine Xl [0,1] [] ?_
 simp only [push_cast,seval,↓reduceIte]
 obtain ⟨x5,hx5,h⟩:=bC h
 obtain ⟨x6,hx6,ax6,bx6,cx6,h⟩:=bE (f:=(eL (eI .u64))) Jr (fun _=>rfl) (by decide) h
 refine Zh [4] (Zb Zc [] ?_)
 simp only [push_cast,Nat.reduceAdd,Nat.reduceSub,Nat.reduceMul,Nat.reduceLeDiff,Nat.reduceLT,Nat.reduceEqDiff,↓reduceIte,reduceCtorEq,Int.reduceBEq,Int.reduceBNe,Nat.reduceBEq,Int.reduceLE,Int.reduceLT,Int.reduceEq,Int.reduceNe,Int.reduceNeg,Nat.reduceDiv,Nat.reduceMod,Nat.reducePow,Za,hx5,ax6,bx6,cx6,hN0,hN]
 refine Yy ?_
 try simp only [Zn,Zi]
 have h:=Option.some.inj h;subst h
 refine X1 (.inr rfl) hU [.val (.int .i64 (x6.length:Int))] (by omega) ?_
 simp only [push_cast,seval,↓reduceIte,Za,Try.results23,hN0,hN]
theorem Qu {a0:(Option Zl)} {a1:Int} {a2:Int} {a3:Int} {r:Bool} {O:Objs} {n:Nat} (h:Qc a0 a1 a2 a3=some r):GTo Try.prog 14 [(gP Zf a0),.val (.int .i64 a1),.val (.int .i64 a2),.val (.int .i64 a3)] O n (.val (.bool r)) O n:=by
 unfold Qc at h
 refine Xq Zc Try.call14 Try.func14 rfl (Nat.le_of_ble_eq_true rfl) (Nat.le_refl _) fun hU => ?_
 have hN0:O n=none:=hU.fresh _ (Nat.le_refl _)
 have hN:∀ k,O (n+k)=none:=fun k=>hU.fresh _ (Nat.le_add_right _ _)
 show W _ _ _ _ ⟨36,[],[(0,(gP Zf a0)),(1,.val (.int .i64 a1)),(2,.val (.int .i64 a2)),(3,.val (.int .i64 a3))]⟩ (Zu O n []) _
 refine Zh [0,1,2,3] (Zb Zc [] ?_)
 simp only [push_cast,seval,↓reduceIte,Za,hN0,hN]
 obtain ⟨z4,hz4,h⟩:=bC h
 refine Z0 (E':=⟨36,[],[(8,.val (.bool z4))]⟩) (O':=(Zu O n [])) (n0:=n) ?_ ?_
 ·obtain ⟨y8,hy8,hz4⟩:=bC hz4
  rcases Bool.eq_false_or_eq_true y8 with c11 | c11
  ·replace hz4:=Vf c11 hz4
   rcases Bool.eq_false_or_eq_true (decide (0≤a2)) with c12 | c12
   ·replace hz4:=Vf c12 hz4
    try rw [c12] at c11
    rcases Bool.eq_false_or_eq_true (decide (0≤a3)) with c13 | c13
    ·replace hz4:=Vf c13 hz4
     try rw [c13] at c11
     try rw [c13] at c12
     obtain ⟨y9,hy9,hz4⟩:=bC hz4
     rcases Bool.eq_false_or_eq_true (decide (a3≤y9)) with c14 | c14
     ·replace hz4:=Vf c14 hz4
      try rw [c14] at c11
      try rw [c14] at c12
      try rw [c14] at c13
      obtain ⟨y10,hy10,hz4⟩:=bC hz4
      refine Zb Zc (Zp0 (Zp1 [])) ?_
      simp only [push_cast,seval,↓reduceIte,Za,c11,c12,c13,c14,hN0,hN]
      repeat (with_reducible refine And.intro (by first | (intro h0;simp only [h0,and_self];done) | (intro h0;simp only [h0,Bool.not_false,Bool.not_true,Bool.true_and,Bool.and_true,true_and,and_true,and_self,imp_self,implies_true,bne_iff_ne,ne_eq,beq_iff_eq];done) | (intros;simp_all;done) | exact True.intro) ?_)
      refine (Z3 hy8).then ?_
      simp only [push_cast,seval,↓reduceIte,Za,c11,c12,c13,c14,hN0,hN]
      repeat (with_reducible refine And.intro (by first | (intro h0;simp only [h0,and_self];done) | (intro h0;simp only [h0,Bool.not_false,Bool.not_true,Bool.true_and,Bool.and_true,true_and,and_true,and_self,imp_self,implies_true,bne_iff_ne,ne_eq,beq_iff_eq];done) | (intros;simp_all;done) | exact True.intro) ?_)
      refine (Vj hy9).then ?_
      simp only [push_cast,seval,↓reduceIte,Za,c11,c12,c13,c14,hN0,hN]
      repeat (with_reducible refine And.intro (by first | (intro h0;simp only [h0,and_self];done) | (intro h0;simp only [h0,Bool.not_false,Bool.not_true,Bool.true_and,Bool.and_true,true_and,and_true,and_self,imp_self,implies_true,bne_iff_ne,ne_eq,beq_iff_eq];done) | (intros;simp_all;done) | exact True.intro) ?_)
      refine (Vj hy10).then ?_
      simp only [push_cast,seval,↓reduceIte,Za,c11,c12,c13,c14,hN0,hN]
      repeat (with_reducible refine And.intro (by first | (intro h0;simp only [h0,and_self];done) | (intro h0;simp only [h0,Bool.not_false,Bool.not_true,Bool.true_and,Bool.and_true,true_and,and_true,and_self,imp_self,implies_true,bne_iff_ne,ne_eq,beq_iff_eq];done) | (intros;simp_all;done) | exact True.intro) ?_)
      have hz4:=Option.some.inj hz4;subst hz4
      refine And.intro rfl (Fit2.of (Y6 hU rfl rfl ?_) (by omega))
      simp only [push_cast,seval,↓reduceIte,Za,c11,c12,c13,c14,hN0,hN]
     replace hz4:=Ve c14 hz4
     try rw [c14] at c11
     try rw [c14] at c12
     try rw [c14] at c13
     refine Zb Zc (Zp0 (Ztx (Zr8 []))) ?_
     simp only [push_cast,seval,↓reduceIte,Za,c11,c12,c13,c14,hN0,hN]
     repeat (with_reducible refine And.intro (by first | (intro h0;simp only [h0,and_self];done) | (intro h0;simp only [h0,Bool.not_false,Bool.not_true,Bool.true_and,Bool.and_true,true_and,and_true,and_self,imp_self,implies_true,bne_iff_ne,ne_eq,beq_iff_eq];done) | (intros;simp_all;done) | exact True.intro) ?_)
     refine (Z3 hy8).then ?_
     simp only [push_cast,seval,↓reduceIte,Za,c11,c12,c13,c14,hN0,hN]
     repeat (with_reducible refine And.intro (by first | (intro h0;simp only [h0,and_self];done) | (intro h0;simp only [h0,Bool.not_false,Bool.not_true,Bool.true_and,Bool.and_true,true_and,and_true,and_self,imp_self,implies_true,bne_iff_ne,ne_eq,beq_iff_eq];done) | (intros;simp_all;done) | exact True.intro) ?_)
     refine (Vj hy9).then ?_
     simp only [push_cast,seval,↓reduceIte,Za,c11,c12,c13,c14,hN0,hN]
     repeat (with_reducible refine And.intro (by first | (intro h0;simp only [h0,and_self];done) | (intro h0;simp only [h0,Bool.not_false,Bool.not_true,Bool.true_and,Bool.and_true,true_and,and_true,and_self,imp_self,implies_true,bne_iff_ne,ne_eq,beq_iff_eq];done) | (intros;simp_all;done) | exact True.intro) ?_)
     have hz4:=Option.some.inj hz4;subst hz4
     refine And.intro rfl (Fit2.of (Y6 hU rfl rfl ?_) (by omega))
     simp only [push_cast,seval,↓reduceIte,Za,c11,c12,c13,c14,hN0,hN]
    replace hz4:=Ve c13 hz4
    try rw [c13] at c11
    try rw [c13] at c12
    refine Zb Zc (Zp0 (Zpz [])) ?_
    simp only [push_cast,seval,↓reduceIte,Za,c11,c12,c13,hN0,hN]
    repeat (with_reducible refine And.intro (by first | (intro h0;simp only [h0,and_self];done) | (intro h0;simp only [h0,Bool.not_false,Bool.not_true,Bool.true_and,Bool.and_true,true_and,and_true,and_self,imp_self,implies_true,bne_iff_ne,ne_eq,beq_iff_eq];done) | (intros;simp_all;done) | exact True.intro) ?_)
    refine (Z3 hy8).then ?_
    simp only [push_cast,seval,↓reduceIte,Za,c11,c12,c13,hN0,hN]
    repeat (with_reducible refine And.intro (by first | (intro h0;simp only [h0,and_self];done) | (intro h0;simp only [h0,Bool.not_false,Bool.not_true,Bool.true_and,Bool.and_true,true_and,and_true,and_self,imp_self,implies_true,bne_iff_ne,ne_eq,beq_iff_eq];done) | (intros;simp_all;done) | exact True.intro) ?_)
    have hz4:=Option.some.inj hz4;subst hz4
    refine And.intro rfl (Fit2.of (Y6 hU rfl rfl ?_) (by omega))
    simp only [push_cast,seval,↓reduceIte,Za,c11,c12,c13,hN0,hN]
   replace hz4:=Ve c12 hz4
   try rw [c12] at c11
   refine Zb Zc (Zp0 (Zpz [])) ?_
   simp only [push_cast,seval,↓reduceIte,Za,c11,c12,hN0,hN]
   repeat (with_reducible refine And.intro (by first | (intro h0;simp only [h0,and_self];done) | (intro h0;simp only [h0,Bool.not_false,Bool.not_true,Bool.true_and,Bool.and_true,true_and,and_true,and_self,imp_self,implies_true,bne_iff_ne,ne_eq,beq_iff_eq];done) | (intros;simp_all;done) | exact True.intro) ?_)
   refine (Z3 hy8).then ?_
   simp only [push_cast,seval,↓reduceIte,Za,c11,c12,hN0,hN]
   repeat (with_reducible refine And.intro (by first | (intro h0;simp only [h0,and_self];done) | (intro h0;simp only [h0,Bool.not_false,Bool.not_true,Bool.true_and,Bool.and_true,true_and,and_true,and_self,imp_self,implies_true,bne_iff_ne,ne_eq,beq_iff_eq];done) | (intros;simp_all;done) | exact True.intro) ?_)
   have hz4:=Option.some.inj hz4;subst hz4
   refine And.intro rfl (Fit2.of (Y6 hU rfl rfl ?_) (by omega))
   simp only [push_cast,seval,↓reduceIte,Za,c11,c12,hN0,hN]
  replace hz4:=Ve c11 hz4
  refine Zb Zc (Zp0 (Zpz [])) ?_
  simp only [push_cast,seval,↓reduceIte,Za,c11,hN0,hN]
  repeat (with_reducible refine And.intro (by first | (intro h0;simp only [h0,and_self];done) | (intro h0;simp only [h0,Bool.not_false,Bool.not_true,Bool.true_and,Bool.and_true,true_and,and_true,and_self,imp_self,implies_true,bne_iff_ne,ne_eq,beq_iff_eq];done) | (intros;simp_all;done) | exact True.intro) ?_)
  refine (Z3 hy8).then ?_
  simp only [push_cast,seval,↓reduceIte,Za,c11,hN0,hN]
  repeat (with_reducible refine And.intro (by first | (intro h0;simp only [h0,and_self];done) | (intro h0;simp only [h0,Bool.not_false,Bool.not_true,Bool.true_and,Bool.and_true,true_and,and_true,and_self,imp_self,implies_true,bne_iff_ne,ne_eq,beq_iff_eq];done) | (intros;simp_all;done) | exact True.intro) ?_)
  have hz4:=Option.some.inj hz4;subst hz4
  refine And.intro rfl (Fit2.of (Y6 hU rfl rfl ?_) (by omega))
  simp only [push_cast,seval,↓reduceIte,Za,c11,hN0,hN]
 refine Yy ?_
 try simp only [Zn,Zi]
 have h:=Option.some.inj h;subst h
 refine X1 (.inr rfl) hU [.val (.bool z4)] (by omega) ?_
 simp only [push_cast,seval,↓reduceIte,Za,Try.results14,hN0,hN]
theorem Zgp {a0:(Option Zl)} {a1:Int} {a2:Int} {r:(Int×Bool)} {O:Objs} {n:Nat} (h:J6 a0 a1 a2=some r):GTo Try.prog 16 [(gP Zf a0),.val (.int .i64 a1),.val (.int .i64 a2)] O n (.tup [.val (.int .u64 r.1),.val (.bool r.2)]) O n:=by
 unfold J6 at h
 refine Xq Zc Try.call16 Try.func16 rfl (Nat.le_of_ble_eq_true rfl) (Nat.le_refl _) fun hU => ?_
 have hN0:O n=none:=hU.fresh _ (Nat.le_refl _)
 have hN:∀ k,O (n+k)=none:=fun k=>hU.fresh _ (Nat.le_add_right _ _)
 show W _ _ _ _ ⟨23,[],[(0,(gP Zf a0)),(1,.val (.int .i64 a1)),(2,.val (.int .i64 a2))]⟩ (Zu O n []) _
 refine Zh [0,1,2] (Zb Zc [] ?_)
 simp only [push_cast,seval,↓reduceIte,Za,hN0,hN]
 refine Zt ?_
 refine Zt ?_
 obtain ⟨y2,hy2,h⟩:=bC h
 refine Zb Zc [] ?_
 simp only [push_cast,seval,↓reduceIte,Za,hN0,hN]
 refine (Qu hy2).then ?_
 simp only [push_cast,seval,↓reduceIte,Za,hN0,hN]
 refine Xl [0,1,2,12] [] ?_
 simp only [push_cast,seval,↓reduceIte]
 refine Zg (t:=(!y2)) rfl (fun c9 => ?_) (fun c9 => ?_)
 ·replace h:=Vf c9 h
  refine Zh [6,7] (Zb Zc [] ?_)
  simp only [push_cast,seval,↓reduceIte,Za,hN0,hN]
  refine Yy ?_
  try simp only [Zn,Zi]
  have h:=Option.some.inj h;subst h
  refine X1 (.inr rfl) hU [.val (.int .u64 0),.val (.bool false)] (by omega) ?_
  simp only [push_cast,seval,↓reduceIte,Za,Try.results16,hN0,hN]
 replace h:=Ve c9 h
 refine Zr ?_
 try simp only [Zn,Zi]
 refine Xl [0,1,2] [] ?_
 simp only [push_cast,seval,↓reduceIte]
 obtain ⟨x6,hx6,h⟩:=bC h
 obtain ⟨x7,hx7,ax7,bx7,cx7,h⟩:=bE (f:=(eL (eI .u64))) Jr (fun _=>rfl) (by decide) h
 obtain ⟨x8,hx8,ax8,bx8,cx8,h⟩:=bE (f:=(eI .u64)) Zbn (fun _=>rfl) (by decide) h
 refine Zh [6,7] (Zb Zc [] ?_)
 simp only [push_cast,Nat.reduceAdd,Nat.reduceSub,Nat.reduceMul,Nat.reduceLeDiff,Nat.reduceLT,Nat.reduceEqDiff,↓reduceIte,reduceCtorEq,Int.reduceBEq,Int.reduceBNe,Nat.reduceBEq,Int.reduceLE,Int.reduceLT,Int.reduceEq,Int.reduceNe,Int.reduceNeg,Nat.reduceDiv,Nat.reduceMod,Nat.reducePow,Za,hx6,ax7,bx7,cx7,ax8,bx8,cx8,hN0,hN]
 refine Yy ?_
 try simp only [Zn,Zi]
 have h:=Option.some.inj h;subst h
 refine X1 (.inr rfl) hU [.val (.int .u64 x8),.val (.bool true)] (by omega) ?_
 simp only [push_cast,seval,↓reduceIte,Za,Try.results16,hN0,hN]
theorem Zf9 {a0:(Option Zl)} {a1:Int} {a2:Int} {a3:Int} {r:((List Int)×Bool)} {O:Objs} {n:Nat}  (h:Ju a0 a1 a2 a3=some r):GTo Try.prog 17 [(gP Zf a0),.val (.int .i64 a1),.val (.int .i64 a2),.val (.int .i64 a3)] O n (.tup [.row n r.1.length,.val (.bool r.2)]) (Zu O n [some ⟨true,27,1,r.1.length,fl (eI .u64) r.1⟩]) (n+1):=by
 unfold Ju at h
 refine Xq Zc Try.call17 Try.func17 rfl (Nat.le_of_ble_eq_true rfl) (by omega) fun hU => ?_
 have hN0:O n=none:=hU.fresh _ (Nat.le_refl _)
 have hN:∀ k,O (n+k)=none:=fun k=>hU.fresh _ (Nat.le_add_right _ _)
 show W _ _ _ _ ⟨29,[],[(0,(gP Zf a0)),(1,.val (.int .i64 a1)),(2,.val (.int .i64 a2)),(3,.val (.int .i64 a3))]⟩ (Zu O n []) _
 refine Zh [0,1,2,3] (Zb Zc [] ?_)
 simp only [push_cast,seval,↓reduceIte,Za,hN0,hN]
 refine Zt ?_
 refine Zt ?_
 obtain ⟨y2,hy2,h⟩:=bC h
 refine Zb Zc [] ?_
 simp only [push_cast,seval,↓reduceIte,Za,hN0,hN]
 refine (Qu hy2).then ?_
 simp only [push_cast,seval,↓reduceIte,Za,hN0,hN]
 refine Xl [0,1,2,3,15] [] ?_
 simp only [push_cast,seval,↓reduceIte]
 refine Zg (t:=(!y2)) rfl (fun c11 => ?_) (fun c11 => ?_)
 ·replace h:=Vf c11 h
  refine Zh [8,9] (Zb Zc [] ?_)
  simp only [push_cast,seval,↓reduceIte,Za,hN0,hN]
  refine Yy ?_
  try simp only [Zn,Zi]
  have h:=Option.some.inj h;subst h
  refine Za1 (k:=1) (L3:=[some ⟨true,27,1,([]:List Int).length,fl (eI .u64) ([]:List Int)⟩,none]) (E2:=(⟨29,[],[(8,.row n ([]:List Int).length),(9,.val (.bool false))]⟩:Env)) (n3:=(n+2)) (.inr rfl) hU rfl [.row n ([]:List Int).length,.val (.bool false)] ?_ ?_
  ·refine Fit2.trans (E':=(⟨29,[],[(8,.val (.slice none 0 0)),(9,.val (.bool false))]⟩:Env)) (O':=(Zu O n [])) (n':=n) (Fit2.of (Y6 hU rfl rfl ?_) (by omega)) ?_
   ·simp only [push_cast,seval,↓reduceIte,Za,hN0,hN]
   refine Fit2.trans (Zhs 8 27 1 rfl (by omega)) ?_
   simp only [Q6,Qa,K4,Jw,List.set_cons_zero,List.set_cons_succ,List.cons_append,List.nil_append,List.length_cons,List.length_nil,Nat.zero_add,Nat.reduceAdd,Nat.reduceLT,Nat.add_assoc]
   refine Fit2.trans (E':=(⟨29,[],[(8,.row n ([]:List Int).length),(9,.val (.bool false))]⟩:Env)) (O':=(Zu O n [some ⟨true,27,1,([]:List Int).length,fl (eI .u64) ([]:List Int)⟩])) (n':=(n+1)) (Fit2.of (Y6 hU rfl rfl ?_) (by omega)) ?_
   ·simp only [push_cast,seval,↓reduceIte,Za,hN0,hN]
   refine Zhk (k:=1) (k':=2) hU [0] [0,0] rfl rfl rfl rfl ⟨rfl,rfl⟩ ?_
   simp only [push_cast,seval,↓reduceIte,Za,hN0,hN]
  simp only [push_cast,seval,↓reduceIte,Za,Try.results17,hN0,hN]
 replace h:=Ve c11 h
 refine Zr ?_
 try simp only [Zn,Zi]
 refine Xl [0,1,2,3] [] ?_
 simp only [push_cast,seval,↓reduceIte]
 refine Zt ?_
 obtain ⟨x7,hx7,h⟩:=bC h
 obtain ⟨x8,hx8,ax8,bx8,cx8,h⟩:=bE (f:=(eL (eI .u64))) Jr (fun _=>rfl) (by decide) h
 obtain ⟨l9,al9,bl9,cl9,gl9,h⟩:=bS (lo:=(some (.i64,a2))) (hi:=(some (.i64,(IntKind.i64.wrap (a2+a3))))) (f:=(eI .u64)) rfl rfl Uw Zbn (fun _=>rfl) h
 obtain ⟨y10,hy10,h⟩:=bC h
 refine Zb Zc [] ?_
 simp only [push_cast,Nat.reduceAdd,Nat.reduceSub,Nat.reduceMul,Nat.reduceLeDiff,Nat.reduceLT,Nat.reduceEqDiff,↓reduceIte,reduceCtorEq,Int.reduceBEq,Int.reduceBNe,Nat.reduceBEq,Int.reduceLE,Int.reduceLT,Int.reduceEq,Int.reduceNe,Int.reduceNeg,Nat.reduceDiv,Nat.reduceMod,Nat.reducePow,Za,hx7,ax8,bx8,cx8,al9,bl9,cl9,gl9,hN0,hN]
 refine (Jm  hy10).then ?_
 simp only [push_cast,Nat.reduceAdd,Nat.reduceSub,Nat.reduceMul,Nat.reduceLeDiff,Nat.reduceLT,Nat.reduceEqDiff,↓reduceIte,reduceCtorEq,Int.reduceBEq,Int.reduceBNe,Nat.reduceBEq,Int.reduceLE,Int.reduceLT,Int.reduceEq,Int.reduceNe,Int.reduceNeg,Nat.reduceDiv,Nat.reduceMod,Nat.reducePow,Za,hx7,ax8,bx8,cx8,al9,bl9,cl9,gl9,hN0,hN]
 refine Xl [8,9] [true] ?_
 simp only [push_cast,seval,↓reduceIte]
 refine Yy ?_
 try simp only [Zn,Zi]
 have h:=Option.some.inj h;subst h
 refine Za1 (k:=1) (L3:=[some ⟨true,27,1,y10.length,fl (eI .u64) y10⟩,none]) (E2:=(⟨29,[],[(8,.row n y10.length),(9,.val (.bool true))]⟩:Env)) (n3:=(n+2)) (.inr rfl) hU rfl [.row n y10.length,.val (.bool true)] ?_ ?_
 ·refine Fit2.trans (E':=(⟨29,[],[(8,.row n y10.length),(9,.val (.bool true))]⟩:Env)) (O':=(Zu O n [some ⟨true,27,1,y10.length,fl (eI .u64) y10⟩])) (n':=(n+1)) (Fit2.of (Y6 hU rfl rfl ?_) (by omega)) ?_
  ·simp only [push_cast,seval,↓reduceIte,Za,hN0,hN]
  refine Zhk (k:=1) (k':=2) hU [0] [0,0] rfl rfl rfl rfl ⟨rfl,rfl⟩ ?_
  simp only [push_cast,seval,↓reduceIte,Za,hN0,hN]
 simp only [push_cast,seval,↓reduceIte,Za,Try.results17,hN0,hN]
theorem Zd0 {a0:(Option Zo)} {a1:Int} {r:Int} {O:Objs} {n:Nat} (h:Qd a0 a1=some r):GTo Try.prog 29 [(gP Ze a0),.val (.int .i64 a1)] O n (.val (.int .i64 r)) O n:=by
 unfold Qd at h
 refine Xq Zc Try.call29 Try.func29 rfl (Nat.le_of_ble_eq_true rfl) (Nat.le_refl _) fun hU => ?_
 have hN0:O n=none:=hU.fresh _ (Nat.le_refl _)
 have hN:∀ k,O (n+k)=none:=fun k=>hU.fresh _ (Nat.le_add_right _ _)
 show W _ _ _ _ ⟨24,[],[(0,(gP Ze a0)),(1,.val (.int .i64 a1))]⟩ (Zu O n []) _
 refine Zh [0,1] (Zb Zc [] ?_)
 simp only [push_cast,seval,↓reduceIte,Za,hN0,hN]
 refine Zt ?_
 obtain ⟨z2,hz2,h⟩:=bC h
 refine Z0 (E':=⟨24,[],[(0,(gP Ze a0)),(1,.val (.int .i64 a1)),(15,.val (.bool z2))]⟩) (O':=(Zu O n [])) (n0:=n) ?_ ?_
 ·rcases Bool.eq_false_or_eq_true (decide (a1 < 0)) with c5 | c5
  ·replace hz2:=Vf c5 hz2
   refine Zb Zc (Zr8 []) ?_
   simp only [push_cast,seval,↓reduceIte,Za,c5,hN0,hN]
   have hz2:=Option.some.inj hz2;subst hz2
   refine And.intro rfl (Fit2.of (Y6 hU rfl rfl ?_) (by omega))
   simp only [push_cast,seval,↓reduceIte,Za,c5,hN0,hN]
  replace hz2:=Ve c5 hz2
  obtain ⟨x4,hx4,hz2⟩:=bC hz2
  refine Zb Zc (Zq0 []) ?_
  simp only [push_cast,seval,↓reduceIte,Za,c5,hx4,hN0,hN]
  have hz2:=Option.some.inj hz2;subst hz2
  refine And.intro rfl (Fit2.of (Y6 hU rfl rfl ?_) (by omega))
  simp only [push_cast,seval,↓reduceIte,Za,c5,hx4,hN0,hN]
 refine Zg (t:=z2) rfl (fun c10 => ?_) (fun c10 => ?_)
 ·replace h:=Vf c10 h
  refine Zh [4] (Zb Zc [] ?_)
  simp only [push_cast,seval,↓reduceIte,Za,hN0,hN]
  refine Yy ?_
  try simp only [Zn,Zi]
  have h:=Option.some.inj h;subst h
  refine X1 (.inr rfl) hU [.val (.int .i64 (-1))] (by omega) ?_
  simp only [push_cast,seval,↓reduceIte,Za,Try.results29,hN0,hN]
 replace h:=Ve c10 h
 refine Zr ?_
 try simp only [Zn,Zi]
 refine Xl [0,1] [] ?_
 simp only [push_cast,seval,↓reduceIte]
 obtain ⟨x8,hx8,h⟩:=bC h
 obtain ⟨x9,hx9,ax9,bx9,cx9,h⟩:=bE (f:=(eL (eI .u64))) Jr (fun _=>rfl) (by decide) h
 refine Zh [4] (Zb Zc [] ?_)
 simp only [push_cast,Nat.reduceAdd,Nat.reduceSub,Nat.reduceMul,Nat.reduceLeDiff,Nat.reduceLT,Nat.reduceEqDiff,↓reduceIte,reduceCtorEq,Int.reduceBEq,Int.reduceBNe,Nat.reduceBEq,Int.reduceLE,Int.reduceLT,Int.reduceEq,Int.reduceNe,Int.reduceNeg,Nat.reduceDiv,Nat.reduceMod,Nat.reducePow,Za,hx8,ax9,bx9,cx9,hN0,hN]
 refine Yy ?_
 try simp only [Zn,Zi]
 have h:=Option.some.inj h;subst h
 refine X1 (.inr rfl) hU [.val (.int .i64 (x9.length:Int))] (by omega) ?_
 simp only [push_cast,seval,↓reduceIte,Za,Try.results29,hN0,hN]
theorem Jb {a0:(Option Zo)} {a1:Int} {a2:Int} {a3:Int} {r:Bool} {O:Objs} {n:Nat} (h:Qj a0 a1 a2 a3=some r):GTo Try.prog 15 [(gP Ze a0),.val (.int .i64 a1),.val (.int .i64 a2),.val (.int .i64 a3)] O n (.val (.bool r)) O n:=by
 unfold Qj at h
 refine Xq Zc Try.call15 Try.func15 rfl (Nat.le_of_ble_eq_true rfl) (Nat.le_refl _) fun hU => ?_
 have hN0:O n=none:=hU.fresh _ (Nat.le_refl _)
 have hN:∀ k,O (n+k)=none:=fun k=>hU.fresh _ (Nat.le_add_right _ _)
 show W _ _ _ _ ⟨35,[],[(0,(gP Ze a0)),(1,.val (.int .i64 a1)),(2,.val (.int .i64 a2)),(3,.val (.int .i64 a3))]⟩ (Zu O n []) _
 refine Zh [0,1,2,3] (Zb Zc [] ?_)
 simp only [push_cast,seval,↓reduceIte,Za,hN0,hN]
 refine Zt ?_
 obtain ⟨y2,hy2,h⟩:=bC h
 refine Zb Zc [] ?_
 simp only [push_cast,seval,↓reduceIte,Za,hN0,hN]
 refine (Zd0 hy2).then ?_
 simp only [push_cast,seval,↓reduceIte,Za,hN0,hN]
 refine Xl [2,3,9] [] ?_
 simp only [push_cast,seval,↓reduceIte]
 refine Zh [8] (Zb Zc [none,none,none,none,none,none,none,none,none,none,none,none] ?_)
 simp only [push_cast,seval,↓reduceIte,Za,hN0,hN]
 repeat (with_reducible refine And.intro (by first | (intro h0;simp only [h0,and_self];done) | (intro h0;simp only [h0,Bool.not_false,Bool.not_true,Bool.true_and,Bool.and_true,true_and,and_true,and_self,imp_self,implies_true,bne_iff_ne,ne_eq,beq_iff_eq];done) | (intros;simp_all;done) | exact True.intro) ?_)
 refine Yy ?_
 try simp only [Zn,Zi]
 have h:=Option.some.inj h;subst h
 refine X1 (.inr rfl) hU [.val (.bool (cond (cond (cond (cond (decide (0≤y2)) (decide (0≤a2)) false) (decide (0≤a3)) false) (decide (a2≤y2)) false) (decide (a3≤(IntKind.i64.wrap (y2 - a2)))) false))] (by omega) ?_
 simp only [push_cast,seval,↓reduceIte,Za,Try.results15,hN0,hN]
theorem Zgq {a0:(List Int)} {a1:(List Int)} {r:Bool} {O:Objs} {n:Nat} (h:Q1 a0 a1=some r):GTo Try.prog 26 [.sl a0.length (fl (eI .u64) a0),.sl a1.length (fl (eI .u64) a1)] O n (.val (.bool r)) O n:=by
 unfold Q1 at h
 refine Xq Zc Try.call26 Try.func26 rfl (Nat.le_of_ble_eq_true rfl) (Nat.le_refl _) fun hU => ?_
 have hN0:O n=none:=hU.fresh _ (Nat.le_refl _)
 have hN:∀ k,O (n+k)=none:=fun k=>hU.fresh _ (Nat.le_add_right _ _)
 show W _ _ _ _ ⟨26,[],[(0,.sl a0.length (fl (eI .u64) a0)),(1,.sl a1.length (fl (eI .u64) a1))]⟩ (Zu O n []) _
 refine Zh [0,1] (Zb Zc [] ?_)
 simp only [push_cast,seval,↓reduceIte,Za,hN0,hN]
 refine Zt ?_
 refine Zh [0,1,10] (Zb Zc [] ?_)
 simp only [push_cast,seval,↓reduceIte,Za,hN0,hN]
 refine Zg (t:=((a0.length:Int) != (a1.length:Int))) rfl (fun c8 => ?_) (fun c8 => ?_)
 ·replace h:=Vf c8 h
  refine Zh [4] (Zb Zc [] ?_)
  simp only [push_cast,seval,↓reduceIte,Za,hN0,hN]
  refine Yy ?_
  try simp only [Zn,Zi]
  have h:=Option.some.inj h;subst h
  refine X1 (.inr rfl) hU [.val (.bool false)] (by omega) ?_
  simp only [push_cast,seval,↓reduceIte,Za,Try.results26,hN0,hN]
 replace h:=Ve c8 h
 refine Zr ?_
 try simp only [Zn,Zi]
 refine Xl [0,1] [] ?_
 simp only [push_cast,seval,↓reduceIte]
 refine Zt ?_
 refine Zh [0,1,5] (Zb Zc [] ?_)
 simp only [push_cast,seval,↓reduceIte,Za,hN0,hN]
 refine Xl [0,1,5] [] ?_
 simp only [push_cast,seval,↓reduceIte]
 obtain ⟨z7,hz7,h⟩:=bC h
 refine Zpl (J:=(Zl8 (fun z7=>JR n (⟨26,[],[(4,.val (.bool false))]⟩:Env) (Zu O n []) n) (fun z7=>JX 0 n (⟨26,[],[]⟩:Env) (Zu O n []) n))) (z:=z7) ?_ fun hw => ?_
 ·refine Zgz hz7 (fun s0_=>⟨26,[],[(0,.sl a0.length (fl (eI .u64) a0)),(1,.sl a1.length (fl (eI .u64) a1)),(5,.val (.int .i64 s0_))]⟩) (fun s0_=>(Zu O n [])) (Zl8 (fun z7=>JR n (⟨26,[],[(4,.val (.bool false))]⟩:Env) (Zu O n []) n) (fun z7=>JX 0 n (⟨26,[],[]⟩:Env) (Zu O n []) n)) ?_
  intro s0_ x0_ hs0_
  unfold Q2 at hs0_
  try dsimp only
  refine Zt ?_
  refine Zh [0,1,5,14] (Zb Zc [] ?_)
  simp only [push_cast,seval,↓reduceIte,Za,hN0,hN]
  refine Zg (t:=(decide (s0_ < (a0.length:Int)))) rfl (fun c6 => ?_) (fun c6 => ?_)
  ·replace hs0_:=Vf c6 hs0_
   refine Zr ?_
   try simp only [Zn,Zi]
   refine Xl [0,1,5] [] ?_
   simp only [push_cast,seval,↓reduceIte]
   refine Zt ?_
   refine J5 ?_
   obtain ⟨x3,hx3,ax3,bx3,cx3,hs0_⟩:=bE (f:=(eI .u64)) Zbn (fun _=>rfl) (by decide) hs0_
   obtain ⟨x4,hx4,ax4,bx4,cx4,hs0_⟩:=bE (f:=(eI .u64)) Zbn (fun _=>rfl) (by decide) hs0_
   refine Zh [0,1,5,25] (Qb Zc (by kernel_rfl) [] (by kernel_rfl) ?_)
   simp only [push_cast,Nat.reduceAdd,Nat.reduceSub,Nat.reduceMul,Nat.reduceLeDiff,Nat.reduceLT,Nat.reduceEqDiff,↓reduceIte,reduceCtorEq,Int.reduceBEq,Int.reduceBNe,Nat.reduceBEq,Int.reduceLE,Int.reduceLT,Int.reduceEq,Int.reduceNe,Int.reduceNeg,Nat.reduceDiv,Nat.reduceMod,Nat.reducePow,Za,ax3,bx3,cx3,ax4,bx4,cx4,hN0,hN]
   refine Zg (t:=(x3 != x4)) rfl (fun c5 => ?_) (fun c5 => ?_)
   ·replace hs0_:=Vf c5 hs0_
    refine Zh [4] (Zb Zc [] ?_)
    simp only [push_cast,seval,↓reduceIte,Za,hN0,hN]
    refine Yy ?_
    try simp only [Zn,Zi]
    have hs0_:=Option.some.inj hs0_;subst hs0_
    refine And.intro (fun h=>by cases h) (And.intro rfl (Fit2.of (Y6 hU rfl rfl ?_) (by omega)))
    simp only [push_cast,seval,↓reduceIte,Za,hN0,hN]
   replace hs0_:=Ve c5 hs0_
   refine Zr ?_
   try simp only [Zn,Zi]
   refine Xl [0,1,5] [] ?_
   simp only [push_cast,seval,↓reduceIte]
   refine Zb Zc [] ?_
   simp only [push_cast,seval,↓reduceIte,Za,hN0,hN]
   have hs0_:=Option.some.inj hs0_;subst hs0_
   refine And.intro rfl (Fit2.of (Y6 hU rfl rfl ?_) (by omega))
   simp only [push_cast,seval,↓reduceIte,Za,hN0,hN]
  replace hs0_:=Ve c6 hs0_
  refine Zjz ?_
  try simp only [Zn,Zi,↓reduceIte,Nat.reduceEqDiff]
  have hs0_:=Option.some.inj hs0_;subst hs0_
  refine And.intro (fun h=>by cases h) (And.intro rfl (Fit2.of (Y6 hU rfl rfl ?_) (by omega)))
  simp only [push_cast,seval,↓reduceIte,Za,hN0,hN]
 rcases z7 with z7 | z7
 ·dsimp only [Zl8] at hw h
  refine Zma hw ?_
  try simp only [Zn,Zi,↓reduceIte,Nat.reduceEqDiff]
  have h:=Option.some.inj h;subst h
  refine X1 (.inr rfl) hU [.val (.bool false)] (by omega) ?_
  simp only [push_cast,seval,↓reduceIte,Za,Try.results26,hN0,hN]
 dsimp only [Zl8] at hw h
 refine Zer hw ?_
 try simp only [Zn,Zi,↓reduceIte,Nat.reduceEqDiff]
 refine Xl [] [] ?_
 simp only [push_cast,seval,↓reduceIte]
 refine Zh [4] (Zb Zc [] ?_)
 simp only [push_cast,seval,↓reduceIte,Za,hN0,hN]
 refine Yy ?_
 try simp only [Zn,Zi]
 have h:=Option.some.inj h;subst h
 refine X1 (.inr rfl) hU [.val (.bool true)] (by omega) ?_
 simp only [push_cast,seval,↓reduceIte,Za,Try.results26,hN0,hN]
theorem Zbc {a0:(List (List Int))} {a1:(List (List Int))} {r:Bool} {O:Objs} {n:Nat} (h:J8 a0 a1=some r):GTo Try.prog 12 [.sl a0.length (fl (eL (eI .u64)) a0),.sl a1.length (fl (eL (eI .u64)) a1)] O n (.val (.bool r)) O n:=by
 unfold J8 at h
 refine Xq Zc Try.call12 Try.func12 rfl (Nat.le_of_ble_eq_true rfl) (Nat.le_refl _) fun hU => ?_
 have hN0:O n=none:=hU.fresh _ (Nat.le_refl _)
 have hN:∀ k,O (n+k)=none:=fun k=>hU.fresh _ (Nat.le_add_right _ _)
 show W _ _ _ _ ⟨27,[],[(0,.sl a0.length (fl (eL (eI .u64)) a0)),(1,.sl a1.length (fl (eL (eI .u64)) a1))]⟩ (Zu O n []) _
 refine Zh [0,1] (Zb Zc [] ?_)
 simp only [push_cast,seval,↓reduceIte,Za,hN0,hN]
 refine Zt ?_
 refine Zh [0,1,10] (Zb Zc [] ?_)
 simp only [push_cast,seval,↓reduceIte,Za,hN0,hN]
 refine Zg (t:=((a0.length:Int) != (a1.length:Int))) rfl (fun c10 => ?_) (fun c10 => ?_)
 ·replace h:=Vf c10 h
  refine Zh [4] (Zb Zc [] ?_)
  simp only [push_cast,seval,↓reduceIte,Za,hN0,hN]
  refine Yy ?_
  try simp only [Zn,Zi]
  have h:=Option.some.inj h;subst h
  refine X1 (.inr rfl) hU [.val (.bool false)] (by omega) ?_
  simp only [push_cast,seval,↓reduceIte,Za,Try.results12,hN0,hN]
 replace h:=Ve c10 h
 refine Zr ?_
 try simp only [Zn,Zi]
 refine Xl [0,1] [] ?_
 simp only [push_cast,seval,↓reduceIte]
 refine Zt ?_
 refine Zh [0,1,5] (Zb Zc [] ?_)
 simp only [push_cast,seval,↓reduceIte,Za,hN0,hN]
 refine Xl [0,1,5] [] ?_
 simp only [push_cast,seval,↓reduceIte]
 obtain ⟨z9,hz9,h⟩:=bC h
 refine Zpl (J:=(Zl8 (fun z9=>JR n (⟨27,[],[(4,.val (.bool false))]⟩:Env) (Zu O n []) n) (fun z9=>JX 0 n (⟨27,[],[]⟩:Env) (Zu O n []) n))) (z:=z9) ?_ fun hw => ?_
 ·refine Zgz hz9 (fun s0_=>⟨27,[],[(0,.sl a0.length (fl (eL (eI .u64)) a0)),(1,.sl a1.length (fl (eL (eI .u64)) a1)),(5,.val (.int .i64 s0_))]⟩) (fun s0_=>(Zu O n [])) (Zl8 (fun z9=>JR n (⟨27,[],[(4,.val (.bool false))]⟩:Env) (Zu O n []) n) (fun z9=>JX 0 n (⟨27,[],[]⟩:Env) (Zu O n []) n)) ?_
  intro s0_ x0_ hs0_
  unfold Q3 at hs0_
  try dsimp only
  refine Zt ?_
  refine Zh [0,1,5,14] (Zb Zc [] ?_)
  simp only [push_cast,seval,↓reduceIte,Za,hN0,hN]
  refine Zg (t:=(decide (s0_ < (a0.length:Int)))) rfl (fun c8 => ?_) (fun c8 => ?_)
  ·replace hs0_:=Vf c8 hs0_
   refine Zr ?_
   try simp only [Zn,Zi]
   refine Xl [0,1,5] [] ?_
   simp only [push_cast,seval,↓reduceIte]
   refine Zt ?_
   refine J5 ?_
   refine Zt ?_
   obtain ⟨x4,hx4,ax4,bx4,cx4,hs0_⟩:=bE (f:=(eL (eI .u64))) Jr (fun _=>rfl) (by decide) hs0_
   obtain ⟨x5,hx5,ax5,bx5,cx5,hs0_⟩:=bE (f:=(eL (eI .u64))) Jr (fun _=>rfl) (by decide) hs0_
   obtain ⟨y6,hy6,hs0_⟩:=bC hs0_
   refine Qb Zc (by kernel_rfl) [] (by kernel_rfl) ?_
   simp only [push_cast,Nat.reduceAdd,Nat.reduceSub,Nat.reduceMul,Nat.reduceLeDiff,Nat.reduceLT,Nat.reduceEqDiff,↓reduceIte,reduceCtorEq,Int.reduceBEq,Int.reduceBNe,Nat.reduceBEq,Int.reduceLE,Int.reduceLT,Int.reduceEq,Int.reduceNe,Int.reduceNeg,Nat.reduceDiv,Nat.reduceMod,Nat.reducePow,Za,ax4,bx4,cx4,ax5,bx5,cx5,hN0,hN]
   refine PCall.of (Zgq hy6) ?_
   simp only [push_cast,Nat.reduceAdd,Nat.reduceSub,Nat.reduceMul,Nat.reduceLeDiff,Nat.reduceLT,Nat.reduceEqDiff,↓reduceIte,reduceCtorEq,Int.reduceBEq,Int.reduceBNe,Nat.reduceBEq,Int.reduceLE,Int.reduceLT,Int.reduceEq,Int.reduceNe,Int.reduceNeg,Nat.reduceDiv,Nat.reduceMod,Nat.reducePow,Za,ax4,bx4,cx4,ax5,bx5,cx5,hN0,hN]
   refine Xl [0,1,5,26] [] ?_
   simp only [push_cast,seval,↓reduceIte]
   refine Zg (t:=(!y6)) rfl (fun c7 => ?_) (fun c7 => ?_)
   ·replace hs0_:=Vf c7 hs0_
    refine Zh [4] (Zb Zc [] ?_)
    simp only [push_cast,seval,↓reduceIte,Za,hN0,hN]
    refine Yy ?_
    try simp only [Zn,Zi]
    have hs0_:=Option.some.inj hs0_;subst hs0_
    refine And.intro (fun h=>by cases h) (And.intro rfl (Fit2.of (Y6 hU rfl rfl ?_) (by omega)))
    simp only [push_cast,seval,↓reduceIte,Za,hN0,hN]
   replace hs0_:=Ve c7 hs0_
   refine Zr ?_
   try simp only [Zn,Zi]
   refine Xl [0,1,5] [] ?_
   simp only [push_cast,seval,↓reduceIte]
   refine Zb Zc [] ?_
   simp only [push_cast,seval,↓reduceIte,Za,hN0,hN]
   have hs0_:=Option.some.inj hs0_;subst hs0_
   refine And.intro rfl (Fit2.of (Y6 hU rfl rfl ?_) (by omega))
   simp only [push_cast,seval,↓reduceIte,Za,hN0,hN]
  replace hs0_:=Ve c8 hs0_
  refine Zjz ?_
  try simp only [Zn,Zi,↓reduceIte,Nat.reduceEqDiff]
  have hs0_:=Option.some.inj hs0_;subst hs0_
  refine And.intro (fun h=>by cases h) (And.intro rfl (Fit2.of (Y6 hU rfl rfl ?_) (by omega)))
  simp only [push_cast,seval,↓reduceIte,Za,hN0,hN]
 rcases z9 with z9 | z9
 ·dsimp only [Zl8] at hw h
  refine Zma hw ?_
  try simp only [Zn,Zi,↓reduceIte,Nat.reduceEqDiff]
  have h:=Option.some.inj h;subst h
  refine X1 (.inr rfl) hU [.val (.bool false)] (by omega) ?_
  simp only [push_cast,seval,↓reduceIte,Za,Try.results12,hN0,hN]
 dsimp only [Zl8] at hw h
 refine Zer hw ?_
 try simp only [Zn,Zi,↓reduceIte,Nat.reduceEqDiff]
 refine Xl [] [] ?_
 simp only [push_cast,seval,↓reduceIte]
 refine Zh [4] (Zb Zc [] ?_)
 simp only [push_cast,seval,↓reduceIte,Za,hN0,hN]
 refine Yy ?_
 try simp only [Zn,Zi]
 have h:=Option.some.inj h;subst h
 refine X1 (.inr rfl) hU [.val (.bool true)] (by omega) ?_
 simp only [push_cast,seval,↓reduceIte,Za,Try.results12,hN0,hN]
end Go.Proofs.Ytpggbianhdebmaa
