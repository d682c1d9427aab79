/- Part NM6 of this seat's mirrors: functions of the seat's program, and the plain functions that they are; each theorem bears its own conditions. -/
import Derived.Test.YtbjcopkgdjombaaND
import Derived.Test.YtbjcopkgdjombaaNM4
namespace Go.Proofs.Ytbjcopkgdjombaa
open Go.RowKit
set_option linter.unusedVariables false
set_option linter.unusedSimpArgs false
set_option maxRecDepth 100000
set_option maxHeartbeats 4000000
attribute [local push_cast] Try.results118 Try.results129 Try.results130 Try.results134 Try.results83 Qa Ze Y4 Yw Zi Xa Znk Znj Zn7 Zn6 Xe Yn Zjz Ze2 Ze1 onW Qm Ze0 Zep Zq0 Zpf Zhw Zh0 Zhv Zhz Zkt Zkq Zhy Zks Zkr Zhx Zko Zft evS wok K5 Op.operands Call.operands gop onK onP atK List.all_cons List.all_nil Bool.and_true Bool.true_and Bool.and_self Value.oneCell' List.take_zero List.take_succ_cons List.take_nil List.drop_zero List.drop_succ_cons List.drop_nil List.append_nil Nat.add_zero Nat.zero_add Za3 Yt ev Vy Zf7 Znc Znb Znh Znf Zng Znd Zne Zna Zt3 Zup Zws Zi8 Zco Zjx Zeh Zhi Zgx Zc1 Zc6 Zey Zev Zc4 Zex Zew Zc3 Zet Zc2 Zc5 Zb8 Zeu Zpu Ze3 Zax Zie Zay Zlp Zi6 Zvs bLo bHi bMx Zcp Zlo Zyq Zi5 Zmh Zf9 Gb Zrl Zyr Zic Zys Zcn Zz2 Zj3 Zj7 Zj2 Zj6 Znw Znt Znr Zhk Zj4 Znv Znu Zj5 Zns Zm4 gone Zkl Zfm Zfl pop TK.isAgg Zn1 Zn5 Zn0 Zn4 Zkg Zsc Zr8 Zn3 Zsb Zsa Zn2 Zr7 G.under G.unders List.getD_cons_zero List.getD_cons_succ List.set_cons_zero List.set_cons_succ List.map_cons List.map_nil List.toList_toArray Array.toList_append Option.toArray_none Option.toArray_some Array.toList_map Option.map_some Option.map_none Option.bind_some Option.bind_none List.getElem?_cons_zero List.getElem?_cons_succ List.getElem?_nil List.nil_append List.cons_append List.replicate_succ List.replicate_zero List.length_cons List.length_nil and_true true_and and_false false_and Bool.true_eq_false Bool.false_eq_true forall_const false_implies implies_true IntKind.bits if_true if_false ite_true ite_false eq_self true_implies false_or or_false or_true true_or not_true_eq_false not_false_eq_true decide_true decide_false decide_eq_true_eq decide_eq_false_iff_not beq_iff_eq bne_iff_ne ne_eq Bool.not_eq_true Bool.not_eq_false beq_eq_false_iff_ne bne_eq_false_iff_eq beq_self_eq_true bne_self_eq_false Option.some.injEq exists_eq_left' exists_eq_left ge_iff_le gt_iff_lt decide_not Bool.not_true Bool.not_false imp_self Zrm cond_true cond_false Z37 Z36 Bool.not_not Bool.and_false Bool.false_and Bool.or_true Bool.true_or Bool.or_false Bool.false_or Ux Zam Ut K8 Y2 Yk Option.join_some Nat.add_assoc Int.toNat_natCast eI eB eS eL Y7 Zf8 Zc7 Znn Znl Znm Z0q Z1g Zgc Zde Zod Zob Zoc Zw3 Zp9 Zud Zoi Zvl Zeb Zqa List.length_append G.agg.injEq G.row.injEq G.ref.injEq G.val.injEq G.sl.injEq G.tup.injEq Value.int.injEq Value.bool.injEq Value.string.injEq List.cons.injEq exists_and_left exists_const List.flatten_cons List.flatten_nil Int.le_refl Nat.le_refl X7 Yl Yp Bool.not_eq_true' Bool.not_eq_false' Zpd Ziu Ztk Zto Ztj Ztn Zyo Zyk List.size_toArray Zse Zq5 G.ren G.rens Zu0 Zg4 Zoh Zm8 Zm9 Zkp Ztp Zek G.fn.injEq Zll Zlm Zpc Zyl Zlk Ztm Zyn Zym Ztl Zrr Zxp Option.join_none Ya Gh undef Zmk Arr.len Arr.put_eq Zgb Zhp Zfi Zdd Zoa Zn8 Zn9 onB Z0p Zrk Zkn Zjk Zjl Zjm Zjn Zjo Zjp Zhl Zhs Zhq Zfk Zdf Zhr Zkk Zkj Zki Zkh Z1f Z3c Zw2 Zv4 Vr Zwt Zru Zht Zfj Zyz Zq6 Zi4 Zme Zeo Ziq Zjq Zjr Zjs Zjt Zg8 Zg9 Zha Zhb Zhc Zhd Zhe Zhf prT Ze4 Z5d Zta Z02 Ztb Z5e Ztc Zxb Ztd Z5f Zte Z5g Ztf Z5h Ztg Z5i Zth Zxt Zoj Zxu Zok Zxv Zol Zxw Zom Zxx Zon Zxy Zoo Zxz Zop Zx0 Zoq Zx1 Zor Zx2 Zos Zx3 Zot Zx4 Zl7 Zug Zck Zx5 Zou Gq Zov Zx6 Zgu Zx7 Zgv Zx8 Zl8 Zx9 Zow Zq8 Zox Zi2 Zoy Zya Zoz Zfu Zo0 Zyb Zo1 Zdj Zo2 Zyc Zo3 Zdk Zo4 Zuh Zl9 Zyd Zo5 Zye Zo6 Zyf Zo7 Zwe Zo8 Zyg Zo9 Zyh Zpa Zsj Zkv Zsk Zkw Zsl Zkx Zsm Zky Zsn Zkz Zso Zk0 Zsp Zk1 Zsq Zk2 Zsr Zk3 Zss Zk4 Zst Zk5 Zsu Zk6 Zsv Zk7 Zsw Zk8 Zsx Zk9 Zsy Zla Zsz Zlb Zs0 Zlc Zs1 Zld Zs2 Zle Zs3 Zlf Zs4 Zlg Zs5 Zlh Zs6 Zli Zs7 Zlj Za Z5 Zfz Zfy Ze5 Zfg Zf2 Zdm Zdi Zdh Zfv Ur Uq Uf Ul Us Vw Vv Vu Up Zb Xr Zc Zd Y0 Xb Yb J8 J5 Jm Jq Kb Q1 Qx Qu Jy Kx Kv Kl Kp Kz J3 Jw Ju Ks Zaj Zai Zac Zag Zak Gf Ge Gd Zah Zh3 Zh2 Zhj Zhn Zh4 Zfx Zfq Zfp Zh1 Z4 Q4 Q3 Qq Qs Q5 Ql Qk Qj Qz Z7 J9 J6 Jn Jr Kc Q2 Qy Qv Jz Z6 J7 J4 Jl Jp Ka Q0 Qw Qt Jx Zw Kw Ku Kk Ko Ky J0 Jv Jt Kr
theorem Z1b {a0:S_api_Op} {r:Int} {O:Objs} {n:Nat} (h:Zij a0=some r):GTo Try.prog 134 [.agg (Yw a0)] O n (.val (.int .i64 r)) O n:=by
 unfold Zij at h
 refine zFn Try.call134 Try.func134 fun hU hN0 hN => ?_
 show W _ _ _ _ ⟨15,[],[(0,.agg (Yw a0))]⟩ (Zu O n []) _
 refine zQ [1] ?_
 refine Zk ?_
 refine zQ [1,4] ?_
 refine Yy ?_
 refine zQ [1,4,5] ?_
 refine Zn (t:=(a0.Kind == 0)) rfl (fun c4 => ?_) (fun c4 => ?_)
 ·replace h:=Zr c4 h
  refine zQ [2] ?_
  exact Xf [.val (.int .i64 a0.N)]
 replace h:=Zq c4 h
 obtain ⟨z1,hz1,h⟩:=bC h
 refine Xw (E':=⟨15,[],[(1,.ref n 0),(9,.val (.bool z1))]⟩) (O':=(Zu O n [some ⟨false,53,14,1,(Yw a0)⟩])) (n0:=(n+1)) ?_ ?_
 ·refine zQ [1,4,9] ?_
  refine Zn (t:=(a0.Kind == 1)) rfl (fun c2 => ?_) (fun c2 => ?_)
  ·replace hz1:=Zr c2 hz1
   refine zK ?_
   exact zEn hz1
  replace hz1:=Zq c2 hz1
  refine zR ?_
  exact zEn hz1
 refine Zn (t:=z1) rfl (fun c3 => ?_) (fun c3 => ?_)
 ·replace h:=Zr c3 h
  refine zQ [2] ?_
  exact Xf [.val (.int .i64 (a0.L.length:Int))]
 replace h:=Zq c3 h
 refine zKd [] [false] ?_
 refine zQ [2] ?_
 exact Xf [.val (.int .i64 1)]
theorem Zke {a0:Yz} {r:(Int×Int×Yz)} {O:Objs} {n:Nat} {i0:Nat} (hi0:i0 < n) (ho0:O i0=some ⟨false,140,2,1,[.sl a0.left.length (fl Zc a0.left),.val (.int .i64 a0.gone)]⟩) (h:Ym a0=some r):GTo Try.prog 129 [.ref i0 0] O n (.tup [.val (.int .i64 r.1),.val (.int .i64 r.2.1)]) (Zu (O.upd i0 (some ⟨false,140,2,1,[.sl r.2.2.left.length (fl Zc r.2.2.left),.val (.int .i64 r.2.2.gone)]⟩)) n []) (n+0):=by
 unfold Ym at h
 refine Zqz Zy Try.call129 Try.func129 rfl (Nat.le_of_ble_eq_true rfl) (by omega) fun hU => ?_
 rw [show Zu O n []=Zu (O.upd i0 (some ⟨false,140,2,1,[.sl a0.left.length (fl Zc a0.left),.val (.int .i64 a0.gone)]⟩)) n [] from by rw [Z5n (show O i0=_ from by exact ho0)]]
 have hk0:∀ k,i0 < n+k:=fun k=>by omega
 have hN0:∀ o,Objs.upd O i0 o n=none:=fun o=>Kf hU hi0 _ (Nat.le_refl _)
 have hN:∀ o k,Objs.upd O i0 o (n+k)=none:=fun o k=>Kf hU hi0 _ (Nat.le_add_right _ _)
 show W _ _ _ _ ⟨44,[],[(0,.ref i0 0)]⟩ (Zu (O.upd i0 (some ⟨false,140,2,1,[.sl a0.left.length (fl Zc a0.left),.val (.int .i64 a0.gone)]⟩)) n []) _
 refine Zdw [0] hi0 hk0 ?_
 refine Zk ?_
 refine zD [0] [] ?_
 obtain ⟨z12,hz12,h⟩:=bC h
 refine Zeg (J:=(K7 (fun z12=>JR n (⟨44,[],[(2,.val (.int .i64 z12.1)),(3,.val (.int .i64 z12.2.1))]⟩:Env) (Zu (O.upd i0 (some ⟨false,140,2,1,[.sl z12.2.2.1.length (fl Zc z12.2.2.1),.val (.int .i64 z12.2.2.2)]⟩)) n []) n) (fun z12=>JX 0 n (⟨44,[],[]⟩:Env) (Zu (O.upd i0 (some ⟨false,140,2,1,[.sl z12.1.length (fl Zc z12.1),.val (.int .i64 z12.2)]⟩)) n []) n))) (z:=z12) ?_ fun hw => ?_
 ·refine Xq hz12 (fun s0_=>⟨44,[],[(0,.ref i0 0)]⟩) (fun s0_=>(Zu (O.upd i0 (some ⟨false,140,2,1,[.sl s0_.1.length (fl Zc s0_.1),.val (.int .i64 s0_.2)]⟩)) n [])) (K7 (fun z12=>JR n (⟨44,[],[(2,.val (.int .i64 z12.1)),(3,.val (.int .i64 z12.2.1))]⟩:Env) (Zu (O.upd i0 (some ⟨false,140,2,1,[.sl z12.2.2.1.length (fl Zc z12.2.2.1),.val (.int .i64 z12.2.2.2)]⟩)) n []) n) (fun z12=>JX 0 n (⟨44,[],[]⟩:Env) (Zu (O.upd i0 (some ⟨false,140,2,1,[.sl z12.1.length (fl Zc z12.1),.val (.int .i64 z12.2)]⟩)) n []) n)) ?_
  intro s0_ x0_ hs0_
  unfold Kg at hs0_
  try dsimp only
  refine Zk ?_
  refine Zdw [0,10] hi0 hk0 ?_
  refine Zn (t:=(decide (0 < (s0_.1.length:Int)))) rfl (fun c11 => ?_) (fun c11 => ?_)
  ·replace hs0_:=Zr c11 hs0_
   refine zKd [0] [] ?_
   refine Yy ?_
   refine Zk ?_
   refine Zk ?_
   obtain ⟨x3,hx3,ax3,bx3,cx3,hs0_⟩:=bE (f:=Zc) Zdj (fun _=>rfl) (by decide) hs0_
   obtain ⟨y4,hy4,hs0_⟩:=bC hs0_
   refine Vg Zy (by kernel_rfl) [] (by kernel_rfl) ?_
   refine zF5 ax3 bx3 cx3 hi0 hk0 ?_
   refine PCall.of (Z1b hy4) ?_
   refine zF5 ax3 bx3 cx3 hi0 hk0 ?_
   refine zD [0,4] [] ?_
   refine Zdw [0,4,24] hi0 hk0 ?_
   refine Zn (t:=(decide (0 < (IntKind.i64.wrap (y4 - s0_.2))))) rfl (fun c10 => ?_) (fun c10 => ?_)
   ·replace hs0_:=Zr c10 hs0_
    obtain ⟨x7,hx7,ax7,bx7,cx7,hs0_⟩:=bE (f:=Zc) Zdj (fun _=>rfl) (by decide) hs0_
    have g8:=Zz3 (f:=Zc) (sz:=14) Z02 (fun _=>rfl) (by decide) (by decide) hx7
    refine Zuk [2,3] (Y9 Zy [] ?_)
    refine zF6 ax7 bx7 cx7 g8 hi0 hk0 ?_
    refine zW ?_
    have hs0_:=Option.some.inj hs0_;subst hs0_
    refine And.intro (fun h=>by cases h) (And.intro rfl (Fit2.of (Z9 hU rfl rfl ?_) (by omega)))
    exact Ve hi0 hk0
   replace hs0_:=Zq c10 hs0_
   refine zKd [0] [] ?_
   obtain ⟨l9,al9,bl9,cl9,gl9,hs0_⟩:=bS (lo:=(some (.i64,1))) (hi:=none) (f:=Zc) rfl rfl Zl8 Zdj (fun _=>rfl) hs0_
   refine Ycb [] al9 bl9 cl9 gl9 hi0 hk0 ?_
   have hs0_:=Option.some.inj hs0_;subst hs0_
   refine And.intro rfl (Fit2.of (Z9 hU rfl rfl ?_) (by omega))
   exact Yg1 al9 bl9 cl9 gl9 hi0 hk0
  replace hs0_:=Zq c11 hs0_
  refine zXt ?_
  have hs0_:=Option.some.inj hs0_;subst hs0_
  refine And.intro (fun h=>by cases h) (And.intro rfl (Fit2.of (Z9 hU rfl rfl ?_) (by omega)))
  exact Ve hi0 hk0
 rcases z12 with z12 | z12
 ·dsimp only [K7] at hw h
  refine Uy hw ?_
  try simp only [Xe,Yn,↓reduceIte,Nat.reduceEqDiff]
  have h:=Option.some.inj h;subst h
  refine Vi (k:=0) (i:=i0) (q1:=⟨false,140,2,1,[.sl z12.2.2.1.length (fl Zc z12.2.2.1),.val (.int .i64 z12.2.2.2)]⟩) (L3:=[none]) (E2:=(⟨44,[],[(2,.val (.int .i64 z12.1)),(3,.val (.int .i64 z12.2.1))]⟩:Env)) (n3:=(n+1)) (.inr rfl) hU rfl [.val (.int .i64 z12.1),.val (.int .i64 z12.2.1)] ?_ ?_
  ·refine Fit2.trans (E':=(⟨44,[],[(2,.val (.int .i64 z12.1)),(3,.val (.int .i64 z12.2.1))]⟩:Env)) (O':=(Zu (O.upd i0 (some ⟨false,140,2,1,[.sl z12.2.2.1.length (fl Zc z12.2.2.1),.val (.int .i64 z12.2.2.2)]⟩)) n [])) (n':=n) (Fit2.of (Z9 hU rfl rfl ?_) (by omega)) ?_
   ·exact Ve hi0 hk0
   refine Qp (k:=0) (k':=1) hU [] [0] rfl rfl rfl rfl ⟨rfl,rfl⟩ ?_
   exact Ve hi0 hk0
  simp only [push_cast,seval,↓reduceIte,Zj,Try.results129,hi0,hk0,hN0,hN]
 dsimp only [K7] at hw h
 refine Y8 hw ?_
 try simp only [Xe,Yn,↓reduceIte,Nat.reduceEqDiff]
 refine zD [] [] ?_
 refine Zdw [2,3] hi0 hk0 ?_
 refine zW ?_
 have h:=Option.some.inj h;subst h
 refine Vi (k:=0) (i:=i0) (q1:=⟨false,140,2,1,[.sl z12.1.length (fl Zc z12.1),.val (.int .i64 z12.2)]⟩) (L3:=[none]) (E2:=(⟨44,[],[(2,.val (.int .i64 0)),(3,.val (.int .i64 0))]⟩:Env)) (n3:=(n+1)) (.inr rfl) hU rfl [.val (.int .i64 0),.val (.int .i64 0)] ?_ ?_
 ·refine Fit2.trans (E':=(⟨44,[],[(2,.val (.int .i64 0)),(3,.val (.int .i64 0))]⟩:Env)) (O':=(Zu (O.upd i0 (some ⟨false,140,2,1,[.sl z12.1.length (fl Zc z12.1),.val (.int .i64 z12.2)]⟩)) n [])) (n':=n) (Fit2.of (Z9 hU rfl rfl ?_) (by omega)) ?_
  ·exact Ve hi0 hk0
  refine Qp (k:=0) (k':=1) hU [] [0] rfl rfl rfl rfl ⟨rfl,rfl⟩ ?_
  exact Ve hi0 hk0
 simp only [push_cast,seval,↓reduceIte,Zj,Try.results129,hi0,hk0,hN0,hN]
theorem Zcc {a0:Yz} {a1:Int} {r:(S_api_Op×Yz)} {O:Objs} {n:Nat} {i0:Nat} (hi0:i0 < n) (ho0:O i0=some ⟨false,140,2,1,[.sl a0.left.length (fl Zc a0.left),.val (.int .i64 a0.gone)]⟩) (h:Km a0 a1=some r):GTo Try.prog 130 [.ref i0 0,.val (.int .i64 a1)] O n (.agg (Yw r.1)) (Zu (O.upd i0 (some ⟨false,140,2,1,[.sl r.2.left.length (fl Zc r.2.left),.val (.int .i64 r.2.gone)]⟩)) n []) (n+0):=by
 unfold Km at h
 refine Zqz Zy Try.call130 Try.func130 rfl (Nat.le_of_ble_eq_true rfl) (by omega) fun hU => ?_
 rw [show Zu O n []=Zu (O.upd i0 (some ⟨false,140,2,1,[.sl a0.left.length (fl Zc a0.left),.val (.int .i64 a0.gone)]⟩)) n [] from by rw [Z5n (show O i0=_ from by exact ho0)]]
 have hk0:∀ k,i0 < n+k:=fun k=>by omega
 have hN0:∀ o,Objs.upd O i0 o n=none:=fun o=>Kf hU hi0 _ (Nat.le_refl _)
 have hN:∀ o k,Objs.upd O i0 o (n+k)=none:=fun o k=>Kf hU hi0 _ (Nat.le_add_right _ _)
 show W _ _ _ _ ⟨50,[],[(0,.ref i0 0),(1,.val (.int .i64 a1))]⟩ (Zu (O.upd i0 (some ⟨false,140,2,1,[.sl a0.left.length (fl Zc a0.left),.val (.int .i64 a0.gone)]⟩)) n []) _
 refine Zdw [0,1,4] hi0 hk0 ?_
 refine Zk ?_
 obtain ⟨x2,hx2,ax2,bx2,cx2,h⟩:=bE (f:=Zc) Zdj (fun _=>rfl) (by decide) h
 refine Z8n [] ax2 bx2 cx2 hi0 hk0 ?_
 refine zD [0,1,4,5] [true,true] ?_
 obtain ⟨z3,hz3,h⟩:=bC h
 refine Xw (E':=⟨50,[],[(0,.ref i0 0),(1,.val (.int .i64 a1)),(4,.ref n 0),(5,.ref (n+1) 0)]⟩) (O':=(Zu (O.upd i0 (some ⟨false,140,2,1,[.sl a0.left.length (fl Zc a0.left),.val (.int .i64 a0.gone)]⟩)) n [some ⟨false,53,14,1,[.val (.int .i64 0),.val (.int .i64 0),.val (.slice none 0 0),.val (.int .i64 0),.val (.int .i64 0),.val (.slice none 0 0),.val (.slice none 0 0),.val (.int .i64 0),.val (.slice none 0 0),.val (.slice none 0 0),.val (.slice none 0 0),.val (.slice none 0 0),.val (.int .i64 0),.val (.slice none 0 0)]⟩,some ⟨false,53,14,1,[.val (.int .i64 x2.Kind),.val (.int .i64 z3.1),.sl z3.2.length (fl Za z3.2),.val (.int .i64 x2.E.Kind),.val (.int .i64 x2.E.Old.Kind),.sl x2.E.Old.Words.length (fl (eI .u64) x2.E.Old.Words),.sl x2.E.Old.Kids.length (fl Za x2.E.Old.Kids),.val (.int .i64 x2.E.New.Kind),.sl x2.E.New.Words.length (fl (eI .u64) x2.E.New.Words),.sl x2.E.New.Kids.length (fl Za x2.E.New.Kids),.sl x2.E.Words.length (fl Zb x2.E.Words),.sl x2.E.Kids.length (fl Zd x2.E.Kids),.val (.int .i64 x2.E.List_),.sl x2.E.Ops.length (fl Zc x2.E.Ops)]⟩])) (n0:=(n+2)) ?_ ?_
 ·refine Zdw [0,1,4,5,13] hi0 hk0 ?_
  refine Yy ?_
  refine Zdw [0,1,4,5,13,14] hi0 hk0 ?_
  refine Zn (t:=(x2.Kind == 0)) rfl (fun c8 => ?_) (fun c8 => ?_)
  ·replace hz3:=Zr c8 hz3
   refine Zau [] hi0 hk0 ?_
   have hz3:=Option.some.inj hz3;subst hz3
   refine And.intro rfl (Fit2.of (Z9 hU rfl rfl ?_) (by omega))
   exact Ve hi0 hk0
  replace hz3:=Zq c8 hz3
  obtain ⟨z4,hz4,hz3⟩:=bC hz3
  refine Xw (E':=⟨50,[],[(0,.ref i0 0),(1,.val (.int .i64 a1)),(4,.ref n 0),(5,.ref (n+1) 0),(18,.val (.bool z4))]⟩) (O':=(Zu (O.upd i0 (some ⟨false,140,2,1,[.sl a0.left.length (fl Zc a0.left),.val (.int .i64 a0.gone)]⟩)) n [some ⟨false,53,14,1,[.val (.int .i64 0),.val (.int .i64 0),.val (.slice none 0 0),.val (.int .i64 0),.val (.int .i64 0),.val (.slice none 0 0),.val (.slice none 0 0),.val (.int .i64 0),.val (.slice none 0 0),.val (.slice none 0 0),.val (.slice none 0 0),.val (.slice none 0 0),.val (.int .i64 0),.val (.slice none 0 0)]⟩,some ⟨false,53,14,1,(Yw x2)⟩])) (n0:=(n+2)) ?_ ?_
  ·refine Zdw [0,1,4,5,13,18] hi0 hk0 ?_
   refine Zn (t:=(x2.Kind == 1)) rfl (fun c5 => ?_) (fun c5 => ?_)
   ·replace hz4:=Zr c5 hz4
    refine zK ?_
    have hz4:=Option.some.inj hz4;subst hz4
    refine And.intro rfl (Fit2.of (Z9 hU rfl rfl ?_) (by omega))
    exact Ve hi0 hk0
   replace hz4:=Zq c5 hz4
   refine Zau [] hi0 hk0 ?_
   have hz4:=Option.some.inj hz4;subst hz4
   refine And.intro rfl (Fit2.of (Z9 hU rfl rfl ?_) (by omega))
   exact Ve hi0 hk0
  refine Zn (t:=z4) rfl (fun c7 => ?_) (fun c7 => ?_)
  ·replace hz3:=Zr c7 hz3
   obtain ⟨l6,al6,bl6,cl6,gl6,hz3⟩:=bS3 (lo:=(some (.i64,a0.gone))) (hi:=(.i64,(IntKind.i64.wrap (a0.gone+a1)))) (f:=Za) rfl rfl Zck Gq (fun _=>rfl) hz3
   refine Zl4 Zy (by kernel_rfl) [false,false,false,false,false,false,false,false,false,false,false,false,false,false,false,false,false,false,false,false,true] [] (by kernel_rfl) ?_
   refine zX6 al6 bl6 cl6 gl6 hi0 hk0 ?_
   have hz3:=Option.some.inj hz3;subst hz3
   refine And.intro rfl (Fit2.of (Z9 hU rfl rfl ?_) (by omega))
   exact Yg1 al6 bl6 cl6 gl6 hi0 hk0
  replace hz3:=Zq c7 hz3
  refine zK ?_
  have hz3:=Option.some.inj hz3;subst hz3
  refine And.intro rfl (Fit2.of (Z9 hU rfl rfl ?_) (by omega))
  exact Ve hi0 hk0
 refine Zk ?_
 refine Zau [] hi0 hk0 ?_
 refine zDs [4,5] [true,true] ?_
 refine Zau [] hi0 hk0 ?_
 refine zD [4] [true,false] ?_
 refine zW ?_
 have h:=Option.some.inj h;subst h
 refine Vi (k:=0) (i:=i0) (q1:=⟨false,140,2,1,[.sl a0.left.length (fl Zc a0.left),.val (.int .i64 (IntKind.i64.wrap (a0.gone+a1)))]⟩) (L3:=[some ⟨false,53,14,1,[.val (.int .i64 x2.Kind),.val (.int .i64 z3.1),.sl z3.2.length (fl Za z3.2),.val (.int .i64 x2.E.Kind),.val (.int .i64 x2.E.Old.Kind),.sl x2.E.Old.Words.length (fl (eI .u64) x2.E.Old.Words),.sl x2.E.Old.Kids.length (fl Za x2.E.Old.Kids),.val (.int .i64 x2.E.New.Kind),.sl x2.E.New.Words.length (fl (eI .u64) x2.E.New.Words),.sl x2.E.New.Kids.length (fl Za x2.E.New.Kids),.sl x2.E.Words.length (fl Zb x2.E.Words),.sl x2.E.Kids.length (fl Zd x2.E.Kids),.val (.int .i64 x2.E.List_),.sl x2.E.Ops.length (fl Zc x2.E.Ops)]⟩,none]) (E2:=(⟨50,[],[(4,.ref n 0)]⟩:Env)) (n3:=(n+2)) (.inr rfl) hU rfl [.agg [.val (.int .i64 x2.Kind),.val (.int .i64 z3.1),.sl z3.2.length (fl Za z3.2),.val (.int .i64 x2.E.Kind),.val (.int .i64 x2.E.Old.Kind),.sl x2.E.Old.Words.length (fl (eI .u64) x2.E.Old.Words),.sl x2.E.Old.Kids.length (fl Za x2.E.Old.Kids),.val (.int .i64 x2.E.New.Kind),.sl x2.E.New.Words.length (fl (eI .u64) x2.E.New.Words),.sl x2.E.New.Kids.length (fl Za x2.E.New.Kids),.sl x2.E.Words.length (fl Zb x2.E.Words),.sl x2.E.Kids.length (fl Zd x2.E.Kids),.val (.int .i64 x2.E.List_),.sl x2.E.Ops.length (fl Zc x2.E.Ops)]] ?_ ?_
 ·refine Fit2.trans (E':=(⟨50,[],[(4,.ref n 0)]⟩:Env)) (O':=(Zu (O.upd i0 (some ⟨false,140,2,1,[.sl a0.left.length (fl Zc a0.left),.val (.int .i64 (IntKind.i64.wrap (a0.gone+a1)))]⟩)) n [some ⟨false,53,14,1,[.val (.int .i64 x2.Kind),.val (.int .i64 z3.1),.sl z3.2.length (fl Za z3.2),.val (.int .i64 x2.E.Kind),.val (.int .i64 x2.E.Old.Kind),.sl x2.E.Old.Words.length (fl (eI .u64) x2.E.Old.Words),.sl x2.E.Old.Kids.length (fl Za x2.E.Old.Kids),.val (.int .i64 x2.E.New.Kind),.sl x2.E.New.Words.length (fl (eI .u64) x2.E.New.Words),.sl x2.E.New.Kids.length (fl Za x2.E.New.Kids),.sl x2.E.Words.length (fl Zb x2.E.Words),.sl x2.E.Kids.length (fl Zd x2.E.Kids),.val (.int .i64 x2.E.List_),.sl x2.E.Ops.length (fl Zc x2.E.Ops)]⟩,none])) (n':=(n+2)) (Fit2.of (Z9 hU rfl rfl ?_) (by omega)) ?_
  ·exact Ve hi0 hk0
  refine Qp (k:=2) (k':=2) hU [0,1] [0,0] rfl rfl rfl rfl ⟨rfl,rfl⟩ ?_
  exact Ve hi0 hk0
 simp only [push_cast,seval,↓reduceIte,Zj,Try.results130,hi0,hk0,hN0,hN]
theorem Zyv {a0:(List S_api_Op)} {a1:(List S_api_Op)} {a2:Int} {a3:Int} {r:((List Zp)×Bool)} {O:Objs} {n:Nat} (h:Zik a0 a1 a2 a3=some r):GTo Try.prog 118 [.sl a0.length (fl Zc a0),.sl a1.length (fl Zc a1),.val (.int .i64 a2),.val (.int .i64 a3)] O n (.tup [.sl r.1.length (fl Zw r.1),.val (.bool r.2)]) O n:=by
 unfold Zik at h
 refine zFn Try.call118 Try.func118 fun hU hN0 hN => ?_
 show W _ _ _ _ ⟨83,[],[(0,.sl a0.length (fl Zc a0)),(1,.sl a1.length (fl Zc a1)),(2,.val (.int .i64 a2)),(3,.val (.int .i64 a3))]⟩ (Zu O n []) _
 refine zQ [0,1,2,3] ?_
 refine zQ [0,1,2,3,10] ?_
 refine Zk ?_
 refine zRd [2,3,10,11,12] [true,true] ?_
 refine zD [2,3,10,11,12] [true,true] ?_
 refine Vl (E':=(⟨83,[],[(2,.val (.int .i64 a2)),(3,.val (.int .i64 a3)),(10,.row (n+2) ([]:List Zp).length),(11,.ref n 0),(12,.ref (n+1) 0)]⟩:Env)) (O':=(Zu O n [some ⟨false,140,2,1,[.sl a0.length (fl Zc a0),.val (.int .i64 0)]⟩,some ⟨false,140,2,1,[.sl a1.length (fl Zc a1),.val (.int .i64 0)]⟩,some ⟨true,94,29,([]:List Zp).length,fl Zw ([]:List Zp)⟩,none])) (n':=(n+4)) ?_ ?_
 ·refine Fit2.trans (E':=(⟨83,[],[(2,.val (.int .i64 a2)),(3,.val (.int .i64 a3)),(10,.val (.slice none 0 0)),(11,.ref n 0),(12,.ref (n+1) 0)]⟩:Env)) (O':=(Zu O n [some ⟨false,140,2,1,[.sl a0.length (fl Zc a0),.val (.int .i64 0)]⟩,some ⟨false,140,2,1,[.sl a1.length (fl Zc a1),.val (.int .i64 0)]⟩])) (n':=(n+2)) (Fit2.of (Yj hU rfl rfl ?_) (by omega)) ?_
  ·exact zSe
  refine Fit2.trans (Zma 10 94 29 rfl (by omega)) ?_
  simp only [Y2,Yk,Ut,K8,List.set_cons_zero,List.set_cons_succ,List.cons_append,List.nil_append,List.length_cons,List.length_nil,Nat.zero_add,Nat.reduceAdd,Nat.reduceLT,Nat.add_assoc]
  refine Fit2.trans (E':=(⟨83,[],[(2,.val (.int .i64 a2)),(3,.val (.int .i64 a3)),(10,.row (n+2) ([]:List Zp).length),(11,.ref n 0),(12,.ref (n+1) 0)]⟩:Env)) (O':=(Zu O n [some ⟨false,140,2,1,[.sl a0.length (fl Zc a0),.val (.int .i64 0)]⟩,some ⟨false,140,2,1,[.sl a1.length (fl Zc a1),.val (.int .i64 0)]⟩,some ⟨true,94,29,([]:List Zp).length,fl Zw ([]:List Zp)⟩])) (n':=(n+3)) (Fit2.of (Yj hU rfl rfl ?_) (by omega)) ?_
  ·exact zSe
  refine Vt (k:=3) (k':=4) hU [0,1,2] [0,1,2,0] rfl rfl rfl rfl ⟨rfl,rfl⟩ ?_
  exact zSe
 obtain ⟨z16,hz16,h⟩:=bC h
 refine Uy (E':=⟨83,[],[(8,.sl z16.1.length (fl Zw z16.1)),(9,.val (.bool z16.2))]⟩) (O':=(Zu O n [none,none])) (n0:=(n+2)) ?_ ?_
 ·refine Xq hz16 (fun s0_=>⟨83,[],[(2,.val (.int .i64 a2)),(3,.val (.int .i64 a3)),(10,.row (n+2) s0_.2.2.2.2.length),(11,.ref n 0),(12,.ref (n+1) 0)]⟩) (fun s0_=>(Zu O n [some ⟨false,140,2,1,[.sl s0_.1.length (fl Zc s0_.1),.val (.int .i64 s0_.2.1)]⟩,some ⟨false,140,2,1,[.sl s0_.2.2.1.length (fl Zc s0_.2.2.1),.val (.int .i64 s0_.2.2.2.1)]⟩,some ⟨true,94,29,s0_.2.2.2.2.length,fl Zw s0_.2.2.2.2⟩,none])) (fun z16=>JR n (⟨83,[],[(8,.sl z16.1.length (fl Zw z16.1)),(9,.val (.bool z16.2))]⟩:Env) (Zu O n [none,none]) (n+2)) ?_
  intro s0_ x0_ hs0_
  unfold Jf at hs0_
  try dsimp only
  refine Yy ?_
  refine Zk ?_
  obtain ⟨y2,hy2,hs0_⟩:=bC hs0_
  refine zR ?_
  refine (Zke (i0:=n) (by omega) (by simp only [push_cast,seval,↓reduceIte,Zj,Y7,hN0,hN] <;> rfl) hy2).then ?_
  refine zS ?_
  refine zDs [2,3,10,11,12,13,14] [true,true,true,false] ?_
  obtain ⟨y4,hy4,hs0_⟩:=bC hs0_
  refine zR ?_
  refine (Zke (i0:=(n+1)) (by omega) (by simp only [push_cast,seval,↓reduceIte,Zj,Y7,hN0,hN] <;> rfl) hy4).then ?_
  refine zS ?_
  refine zD [2,3,10,11,12,13,14,15,16] [true,true,true,false] ?_
  refine Yy ?_
  refine zQD [2,3,10,11,12,14,15,16,40] [none,none,none] ?_
  refine Zn (t:=(cond (decide (0 < y2.2.1)) (y2.1 == a2) false)) rfl (fun c15 => ?_) (fun c15 => ?_)
  ·replace hs0_:=Zr c15 hs0_
   obtain ⟨y5,hy5,hs0_⟩:=bC hs0_
   obtain ⟨l6,pl6,ql6,el6,hs0_⟩:=bA (k:=1) rfl hs0_
   refine Zpe [] pl6 ql6 el6 ?_
   refine (Zcc (i0:=n) (by omega) (by simp only [push_cast,seval,↓reduceIte,Zj,Y7,pl6,ql6,el6,hN0,hN] <;> rfl) hy5).then ?_
   refine zX3 pl6 ql6 el6 ?_
   exact Zp6 hs0_ pl6 ql6 el6
  replace hs0_:=Zq c15 hs0_
  refine zQD [2,3,10,11,12,14,16,54] [none,none,none] ?_
  refine Zn (t:=(cond (decide (0 < y4.2.1)) (y4.1 == a3) false)) rfl (fun c14 => ?_) (fun c14 => ?_)
  ·replace hs0_:=Zr c14 hs0_
   obtain ⟨y7,hy7,hs0_⟩:=bC hs0_
   obtain ⟨l8,pl8,ql8,el8,hs0_⟩:=bA (k:=1) rfl hs0_
   refine Zpe [] pl8 ql8 el8 ?_
   refine (Zcc (i0:=(n+1)) (by omega) (by simp only [push_cast,seval,↓reduceIte,Zj,Y7,pl8,ql8,el8,hN0,hN] <;> rfl) hy7).then ?_
   refine zX3 pl8 ql8 el8 ?_
   exact Zp6 hs0_ pl8 ql8 el8
  replace hs0_:=Zq c14 hs0_
  refine zQD [2,3,10,11,12,14,16,68] [none,none] ?_
  refine Zn (t:=(cond (y2.2.1 == 0) (y4.2.1 == 0) false)) rfl (fun c13 => ?_) (fun c13 => ?_)
  ·replace hs0_:=Zr c13 hs0_
   refine zQ [8,9] ?_
   refine zW ?_
   exact zEy hs0_
  replace hs0_:=Zq c13 hs0_
  refine zQD [2,3,10,11,12,14,16,76] [none,none] ?_
  refine Zn (t:=(cond (y2.2.1 == 0) true (y4.2.1 == 0))) rfl (fun c12 => ?_) (fun c12 => ?_)
  ·replace hs0_:=Zr c12 hs0_
   refine zQ [8,9] ?_
   refine zW ?_
   exact zEy hs0_
  replace hs0_:=Zq c12 hs0_
  refine zQ [2,3,10,11,12,14] ?_
  obtain ⟨y9,hy9,hs0_⟩:=bC hs0_
  obtain ⟨y10,hy10,hs0_⟩:=bC hs0_
  obtain ⟨l11,pl11,ql11,el11,hs0_⟩:=bA (k:=1) rfl hs0_
  refine Zpe [] pl11 ql11 el11 ?_
  refine (Zcc (i0:=n) (by omega) (by simp only [push_cast,seval,↓reduceIte,Zj,Y7,pl11,ql11,el11,hN0,hN] <;> rfl) hy9).then ?_
  refine zX3 pl11 ql11 el11 ?_
  refine (Zcc (i0:=(n+1)) (by omega) (by simp only [push_cast,seval,↓reduceIte,Zj,Y7,pl11,ql11,el11,hN0,hN] <;> rfl) hy10).then ?_
  refine zX3 pl11 ql11 el11 ?_
  exact Zp6 hs0_ pl11 ql11 el11
 try simp only [Xe,Yn,↓reduceIte,Nat.reduceEqDiff]
 exact Zre [.sl z16.1.length (fl Zw z16.1),.val (.bool z16.2)]
theorem Zyu {a0:(List S_api_Op)} {a1:(List S_api_Op)} {r:((List Zp)×Bool)} {O:Objs} {n:Nat} (h:Zbq a0 a1=some r):GTo Try.prog 83 [.sl a0.length (fl Zc a0),.sl a1.length (fl Zc a1)] O n (.tup [.sl r.1.length (fl Zw r.1),.val (.bool r.2)]) O n:=by
 unfold Zbq at h
 refine zFn Try.call83 Try.func83 fun hU hN0 hN => ?_
 show W _ _ _ _ ⟨11,[],[(0,.sl a0.length (fl Zc a0)),(1,.sl a1.length (fl Zc a1))]⟩ (Zu O n []) _
 refine zQ [0,1] ?_
 refine Zk ?_
 obtain ⟨y2,hy2,h⟩:=bC h
 refine zCd (Zyv hy2) [4,5] [] ?_
 exact Xf [.sl y2.1.length (fl Zw y2.1),.val (.bool y2.2)]
attribute [local push_cast] Try.results10 Try.results21 Try.results22 Try.results27 Try.results51 Try.results52 Try.results80 Try.results82 Try.results84 Qa Ze Y4 Yw Zi Xa Znk Znj Zn7 Zn6 Xe Yn Zjz Ze2 Ze1 onW Qm Ze0 Zep Zq0 Zpf Zhw Zh0 Zhv Zhz Zkt Zkq Zhy Zks Zkr Zhx Zko Zft evS wok K5 Op.operands Call.operands gop onK onP atK List.all_cons List.all_nil Bool.and_true Bool.true_and Bool.and_self Value.oneCell' List.take_zero List.take_succ_cons List.take_nil List.drop_zero List.drop_succ_cons List.drop_nil List.append_nil Nat.add_zero Nat.zero_add Za3 Yt ev Vy Zf7 Znc Znb Znh Znf Zng Znd Zne Zna Zt3 Zup Zws Zi8 Zco Zjx Zeh Zhi Zgx Zc1 Zc6 Zey Zev Zc4 Zex Zew Zc3 Zet Zc2 Zc5 Zb8 Zeu Zpu Ze3 Zax Zie Zay Zlp Zi6 Zvs bLo bHi bMx Zcp Zlo Zyq Zi5 Zmh Zf9 Gb Zrl Zyr Zic Zys Zcn Zz2 Zj3 Zj7 Zj2 Zj6 Znw Znt Znr Zhk Zj4 Znv Znu Zj5 Zns Zm4 gone Zkl Zfm Zfl pop TK.isAgg Zn1 Zn5 Zn0 Zn4 Zkg Zsc Zr8 Zn3 Zsb Zsa Zn2 Zr7 G.under G.unders List.getD_cons_zero List.getD_cons_succ List.set_cons_zero List.set_cons_succ List.map_cons List.map_nil List.toList_toArray Array.toList_append Option.toArray_none Option.toArray_some Array.toList_map Option.map_some Option.map_none Option.bind_some Option.bind_none List.getElem?_cons_zero List.getElem?_cons_succ List.getElem?_nil List.nil_append List.cons_append List.replicate_succ List.replicate_zero List.length_cons List.length_nil and_true true_and and_false false_and Bool.true_eq_false Bool.false_eq_true forall_const false_implies implies_true IntKind.bits if_true if_false ite_true ite_false eq_self true_implies false_or or_false or_true true_or not_true_eq_false not_false_eq_true decide_true decide_false decide_eq_true_eq decide_eq_false_iff_not beq_iff_eq bne_iff_ne ne_eq Bool.not_eq_true Bool.not_eq_false beq_eq_false_iff_ne bne_eq_false_iff_eq beq_self_eq_true bne_self_eq_false Option.some.injEq exists_eq_left' exists_eq_left ge_iff_le gt_iff_lt decide_not Bool.not_true Bool.not_false imp_self Zrm cond_true cond_false Z37 Z36 Bool.not_not Bool.and_false Bool.false_and Bool.or_true Bool.true_or Bool.or_false Bool.false_or Ux Zam Ut K8 Y2 Yk Option.join_some Nat.add_assoc Int.toNat_natCast eI eB eS eL Y7 Zf8 Zc7 Znn Znl Znm Z0q Z1g Zgc Zde Zod Zob Zoc Zw3 Zp9 Zud Zoi Zvl Zeb Zqa List.length_append G.agg.injEq G.row.injEq G.ref.injEq G.val.injEq G.sl.injEq G.tup.injEq Value.int.injEq Value.bool.injEq Value.string.injEq List.cons.injEq exists_and_left exists_const List.flatten_cons List.flatten_nil Int.le_refl Nat.le_refl X7 Yl Yp Bool.not_eq_true' Bool.not_eq_false' Zpd Ziu Ztk Zto Ztj Ztn Zyo Zyk List.size_toArray Zse Zq5 G.ren G.rens Zu0 Zg4 Zoh Zm8 Zm9 Zkp Ztp Zek G.fn.injEq Zll Zlm Zpc Zyl Zlk Ztm Zyn Zym Ztl Zrr Zxp Option.join_none Ya Gh undef Zmk Arr.len Arr.put_eq Zgb Zhp Zfi Zdd Zoa Zn8 Zn9 onB Z0p Zrk Zkn Zjk Zjl Zjm Zjn Zjo Zjp Zhl Zhs Zhq Zfk Zdf Zhr Zkk Zkj Zki Zkh Z1f Z3c Zw2 Zv4 Vr Zwt Zru Zht Zfj Zyz Zq6 Zi4 Zme Zeo Ziq Zjq Zjr Zjs Zjt Zg8 Zg9 Zha Zhb Zhc Zhd Zhe Zhf prT Ze4 Z5d Zta Z02 Ztb Z5e Ztc Zxb Ztd Z5f Zte Z5g Ztf Z5h Ztg Z5i Zth Zxt Zoj Zxu Zok Zxv Zol Zxw Zom Zxx Zon Zxy Zoo Zxz Zop Zx0 Zoq Zx1 Zor Zx2 Zos Zx3 Zot Zx4 Zl7 Zug Zck Zx5 Zou Gq Zov Zx6 Zgu Zx7 Zgv Zx8 Zl8 Zx9 Zow Zq8 Zox Zi2 Zoy Zya Zoz Zfu Zo0 Zyb Zo1 Zdj Zo2 Zyc Zo3 Zdk Zo4 Zuh Zl9 Zyd Zo5 Zye Zo6 Zyf Zo7 Zwe Zo8 Zyg Zo9 Zyh Zpa Zsj Zkv Zsk Zkw Zsl Zkx Zsm Zky Zsn Zkz Zso Zk0 Zsp Zk1 Zsq Zk2 Zsr Zk3 Zss Zk4 Zst Zk5 Zsu Zk6 Zsv Zk7 Zsw Zk8 Zsx Zk9 Zsy Zla Zsz Zlb Zs0 Zlc Zs1 Zld Zs2 Zle Zs3 Zlf Zs4 Zlg Zs5 Zlh Zs6 Zli Zs7 Zlj Za Z5 Zfz Zfy Ze5 Zfg Zf2 Zdm Zdi Zdh Zfv Ur Uq Uf Ul Us Vw Vv Vu Up Zb Xr Zc Zd Y0 Xb Yb J8 J5 Jm Jq Kb Q1 Qx Qu Jy Kx Kv Kl Kp Kz J3 Jw Ju Ks Zaj Zai Zac Zag Zak Gf Ge Gd Zah Zh3 Zh2 Zhj Zhn Zh4 Zfx Zfq Zfp Zh1 Z4 Q4 Q3 Qq Qs Q5 Ql Qk Qj Qz Z7 J9 J6 Jn Jr Kc Q2 Qy Qv Jz Z6 J7 J4 Jl Jp Ka Q0 Qw Qt Jx Zw Kw Ku Kk Ko Ky J0 Jv Jt Kr
def U3 (Yi:(S_api_Edit→S_api_Edit→Option (S_api_Edit×Bool))):Prop:=∀ {a0:S_api_Edit} {a1:S_api_Edit} {r:(S_api_Edit×Bool)} {O:Objs} {n:Nat},Yi a0 a1=some r→GTo Try.prog 27 [.agg (Ze a0),.agg (Ze a1)] O n (.tup [.agg (Ze r.1),.val (.bool r.2)]) O n
def Jb (Zx:(S_api_Edit→S_api_Edit→Option (S_api_Edit×Bool))):Prop:=∀ {a0:S_api_Edit} {a1:S_api_Edit} {r:(S_api_Edit×Bool)} {O:Objs} {n:Nat},Zx a0 a1=some r→GTo Try.prog 51 [.agg (Ze a0),.agg (Ze a1)] O n (.tup [.agg (Ze r.1),.val (.bool r.2)]) O n
def Uc (Ye:(S_api_Edit→S_api_Edit→Option (S_api_Edit×Bool))):Prop:=∀ {a0:S_api_Edit} {a1:S_api_Edit} {r:(S_api_Edit×Bool)} {O:Objs} {n:Nat},Ye a0 a1=some r→GTo Try.prog 52 [.agg (Ze a0),.agg (Ze a1)] O n (.tup [.agg (Ze r.1),.val (.bool r.2)]) O n
def Yx (Zl:((List S_api_KidEdit)→(List S_api_KidEdit)→Option ((List S_api_KidEdit)×Bool))):Prop:=∀ {a0:(List S_api_KidEdit)} {a1:(List S_api_KidEdit)} {r:((List S_api_KidEdit)×Bool)} {O:Objs} {n:Nat},Zl a0 a1=some r→GTo Try.prog 80 [.sl a0.length (fl Zd a0),.sl a1.length (fl Zd a1),.fn 81 0 [],.fn 82 0 []] O n (.tup [.sl r.1.length (fl Zd r.1),.val (.bool r.2)]) O n
def X8 (Zv:(S_api_KidEdit→S_api_KidEdit→Option (S_api_KidEdit×Bool))):Prop:=∀ {a0:S_api_KidEdit} {a1:S_api_KidEdit} {r:(S_api_KidEdit×Bool)} {O:Objs} {n:Nat},Zv a0 a1=some r→GTo Try.prog 82 [.agg (Y4 a0),.agg (Y4 a1)] O n (.tup [.agg (Y4 r.1),.val (.bool r.2)]) O n
def Ud (Z8:(Zp→Option ((List S_api_Op)×Bool))):Prop:=∀ {a0:Zp} {r:((List S_api_Op)×Bool)} {O:Objs} {n:Nat},Z8 a0=some r→GTo Try.prog 84 [.agg (Qa a0)] O n (.tup [.sl r.1.length (fl Zc r.1),.val (.bool r.2)]) O n
theorem Zw1 {Yi:(S_api_Edit→S_api_Edit→Option (S_api_Edit×Bool))} {Zx:(S_api_Edit→S_api_Edit→Option (S_api_Edit×Bool))} {Ye:(S_api_Edit→S_api_Edit→Option (S_api_Edit×Bool))} {Zl:((List S_api_KidEdit)→(List S_api_KidEdit)→Option ((List S_api_KidEdit)×Bool))} {Zv:(S_api_KidEdit→S_api_KidEdit→Option (S_api_KidEdit×Bool))} {Z8:(Zp→Option ((List S_api_Op)×Bool))} (U5:U3 Yi) (K6:Jb Zx) (G3:Uc Ye) (Y6:Yx Zl) (X9:X8 Zv) (G4:Ud Z8) {a0:S_api_Edit} {a1:S_api_Edit} {r:(S_api_Edit×Bool)} {O:Objs} {n:Nat} (h:Zes Yi Zx Ye Zl Zv Z8 a0 a1=some r):GTo Try.prog 27 [.agg (Ze a0),.agg (Ze a1)] O n (.tup [.agg (Ze r.1),.val (.bool r.2)]) O n:=by
 unfold Zes at h
 refine zFn Try.call27 Try.func27 fun hU hN0 hN => ?_
 show W _ _ _ _ ⟨89,[],[(0,.agg (Ze a0)),(1,.agg (Ze a1))]⟩ (Zu O n []) _
 refine zQ [2,3,4] ?_
 refine Zk ?_
 refine Yy ?_
 refine zQ [2,3,4,10] ?_
 refine Zn (t:=(a0.Kind == 0)) rfl (fun c16 => ?_) (fun c16 => ?_)
 ·replace h:=Zr c16 h
  refine Zk ?_
  refine zRd [4,5] [false,false,true] ?_
  exact Xf [.agg (Ze a1),.val (.bool true)]
 replace h:=Zq c16 h
 refine zQ [2,3,4,15] ?_
 refine Zn (t:=(a1.Kind == 0)) rfl (fun c15 => ?_) (fun c15 => ?_)
 ·replace h:=Zr c15 h
  refine Zk ?_
  refine zRd [4,5] [false,false,true] ?_
  exact Xf [.agg (Ze a0),.val (.bool true)]
 replace h:=Zq c15 h
 refine zQ [2,3,4,20] ?_
 refine Zn (t:=(a0.Kind == 1)) rfl (fun c14 => ?_) (fun c14 => ?_)
 ·replace h:=Zr c14 h
  refine Zk ?_
  obtain ⟨y2,hy2,h⟩:=bC h
  refine zCd (V7 hy2) [2,4,6,7] [true,false,true,true] ?_
  refine Zk ?_
  refine zRd [4,5] [false,false,true,false] ?_
  exact Xf [.agg [.val (.int .i64 1),.val (.int .i64 a0.Old.Kind),.sl a0.Old.Words.length (fl (eI .u64) a0.Old.Words),.sl a0.Old.Kids.length (fl Za a0.Old.Kids),.val (.int .i64 y2.1.Kind),.sl y2.1.Words.length (fl (eI .u64) y2.1.Words),.sl y2.1.Kids.length (fl Za y2.1.Kids),.val (.slice none 0 0),.val (.slice none 0 0),.val (.int .i64 0),.val (.slice none 0 0)],.val (.bool y2.2)]
 replace h:=Zq c14 h
 refine zQ [2,3,4,36] ?_
 refine Zn (t:=(a1.Kind == 1)) rfl (fun c13 => ?_) (fun c13 => ?_)
 ·replace h:=Zr c13 h
  refine Zk ?_
  obtain ⟨y5,hy5,h⟩:=bC h
  obtain ⟨y6,hy6,h⟩:=bC h
  refine Ki Zy (by kernel_rfl) [.low,.low,.low,.low,.low,.plain,.plain,.plain,.pass,.bar,.plain] (fun i=>i < (n+3)) [0,1,2,3,4,5,6,7,8,9,10] [.low,.low,.low,.low,.low,.plain,.plain,.plain,.pass,.bar,.plain] [] (by kernel_rfl) rfl ?_
  refine zS ?_
  refine zO ?_
  first | refine PCallA.of (fun _ _=>Kh hy5) ?_ | refine PCall.of (Kh hy5) ?_
  refine zS ?_
  refine zO ?_
  first | refine PCallA.of (fun _ _=>V7 hy6) ?_ | refine PCall.of (V7 hy6) ?_
  refine zS ?_
  refine zO ?_
  refine zDs [3,4,8,9] [false,true,true,true] ?_
  refine zRd [4,5] [false,false,true,false] ?_
  exact Xf [.agg [.val (.int .i64 1),.val (.int .i64 y6.1.Kind),.sl y6.1.Words.length (fl (eI .u64) y6.1.Words),.sl y6.1.Kids.length (fl Za y6.1.Kids),.val (.int .i64 a1.New.Kind),.sl a1.New.Words.length (fl (eI .u64) a1.New.Words),.sl a1.New.Kids.length (fl Za a1.New.Kids),.val (.slice none 0 0),.val (.slice none 0 0),.val (.int .i64 0),.val (.slice none 0 0)],.val (.bool y6.2)]
 replace h:=Zq c13 h
 refine zQD [2,3,4,53] [none,none,none] ?_
 refine Zn (t:=(cond (a0.Kind == 2) (a1.Kind == 2) false)) rfl (fun c12 => ?_) (fun c12 => ?_)
 ·replace h:=Zr c12 h
  refine Zk ?_
  obtain ⟨y8,hy8,h⟩:=bC h
  refine zCd (K6 hy8) [4,5] [false,false,true] ?_
  exact Xf [.agg (Ze y8.1),.val (.bool y8.2)]
 replace h:=Zq c12 h
 refine zQD [2,3,4,67] [none,none,none,none,none,none,none,none] ?_
 refine Zn (t:=(cond (cond (a0.Kind == 3) (a1.Kind == 3) false) (a0.List_ == a1.List_) false)) rfl (fun c11 => ?_) (fun c11 => ?_)
 ·replace h:=Zr c11 h
  refine Zk ?_
  obtain ⟨y10,hy10,h⟩:=bC h
  refine zCd (G3 hy10) [4,5] [false,false,true] ?_
  exact Xf [.agg (Ze y10.1),.val (.bool y10.2)]
 replace h:=Zq c11 h
 refine zKd [4] [false,false,true] ?_
 refine Zk ?_
 refine zRd [4,5] [false,false,true] ?_
 exact Xf [.agg [.val (.int .i64 0),.val (.int .i64 0),.val (.slice none 0 0),.val (.slice none 0 0),.val (.int .i64 0),.val (.slice none 0 0),.val (.slice none 0 0),.val (.slice none 0 0),.val (.slice none 0 0),.val (.int .i64 0),.val (.slice none 0 0)],.val (.bool false)]
theorem Zqm {Yi:(S_api_Edit→S_api_Edit→Option (S_api_Edit×Bool))} {Zx:(S_api_Edit→S_api_Edit→Option (S_api_Edit×Bool))} {Ye:(S_api_Edit→S_api_Edit→Option (S_api_Edit×Bool))} {Zl:((List S_api_KidEdit)→(List S_api_KidEdit)→Option ((List S_api_KidEdit)×Bool))} {Zv:(S_api_KidEdit→S_api_KidEdit→Option (S_api_KidEdit×Bool))} {Z8:(Zp→Option ((List S_api_Op)×Bool))} (U5:U3 Yi) (K6:Jb Zx) (G3:Uc Ye) (Y6:Yx Zl) (X9:X8 Zv) (G4:Ud Z8) {a0:S_api_Edit} {a1:S_api_Edit} {r:(S_api_Edit×Bool)} {O:Objs} {n:Nat} (h:Zaa Yi Zx Ye Zl Zv Z8 a0 a1=some r):GTo Try.prog 51 [.agg (Ze a0),.agg (Ze a1)] O n (.tup [.agg (Ze r.1),.val (.bool r.2)]) O n:=by
 unfold Zaa at h
 refine zFn Try.call51 Try.func51 fun hU hN0 hN => ?_
 show W _ _ _ _ ⟨33,[],[(0,.agg (Ze a0)),(1,.agg (Ze a1))]⟩ (Zu O n []) _
 refine zQ [2,3,4] ?_
 refine Zk ?_
 obtain ⟨y2,hy2,h⟩:=bC h
 refine zCd (Zfd hy2) [2,3,4,6,7] [true,true,true] ?_
 refine Zk ?_
 obtain ⟨y4,hy4,h⟩:=bC h
 refine zCd (Y6 hy4) [4,6,7,8,9] [false,false,true] ?_
 refine Zk ?_
 refine zRo [none] ?_
 refine zG ?_
 refine zD [4,5] [false,false,true] ?_
 exact Xf [.agg [.val (.int .i64 2),.val (.int .i64 0),.val (.slice none 0 0),.val (.slice none 0 0),.val (.int .i64 0),.val (.slice none 0 0),.val (.slice none 0 0),.sl y2.1.length (fl Zb y2.1),.sl y4.1.length (fl Zd y4.1),.val (.int .i64 0),.val (.slice none 0 0)],.val (.bool (cond y2.2 y4.2 false))]
theorem Zvz {Yi:(S_api_Edit→S_api_Edit→Option (S_api_Edit×Bool))} {Zx:(S_api_Edit→S_api_Edit→Option (S_api_Edit×Bool))} {Ye:(S_api_Edit→S_api_Edit→Option (S_api_Edit×Bool))} {Zl:((List S_api_KidEdit)→(List S_api_KidEdit)→Option ((List S_api_KidEdit)×Bool))} {Zv:(S_api_KidEdit→S_api_KidEdit→Option (S_api_KidEdit×Bool))} {Z8:(Zp→Option ((List S_api_Op)×Bool))} (U5:U3 Yi) (K6:Jb Zx) (G3:Uc Ye) (Y6:Yx Zl) (X9:X8 Zv) (G4:Ud Z8) {a0:S_api_Edit} {a1:S_api_Edit} {r:(S_api_Edit×Bool)} {O:Objs} {n:Nat} (h:Zdy Yi Zx Ye Zl Zv Z8 a0 a1=some r):GTo Try.prog 52 [.agg (Ze a0),.agg (Ze a1)] O n (.tup [.agg (Ze r.1),.val (.bool r.2)]) O n:=by
 unfold Zdy at h
 refine zFn Try.call52 Try.func52 fun hU hN0 hN => ?_
 show W _ _ _ _ ⟨48,[],[(0,.agg (Ze a0)),(1,.agg (Ze a1))]⟩ (Zu O n []) _
 refine zQ [2,3,4] ?_
 refine Zk ?_
 obtain ⟨y2,hy2,h⟩:=bC h
 refine zCd (Zyu hy2) [2,4,6,7] [true,false,true] ?_
 refine Zk ?_
 refine zQ [2,4,6,22] ?_
 refine Zn (t:=(!y2.2)) rfl (fun c11 => ?_) (fun c11 => ?_)
 ·replace h:=Zr c11 h
  refine Zk ?_
  refine zRd [4,5] [false,false,true] ?_
  exact Xf [.agg [.val (.int .i64 0),.val (.int .i64 0),.val (.slice none 0 0),.val (.slice none 0 0),.val (.int .i64 0),.val (.slice none 0 0),.val (.slice none 0 0),.val (.slice none 0 0),.val (.slice none 0 0),.val (.int .i64 0),.val (.slice none 0 0)],.val (.bool false)]
 replace h:=Zq c11 h
 refine zKd [2,4,6] [true,false,true] ?_
 refine Zk ?_
 refine zRd [4,6,8] [false,false,true,true] ?_
 refine Zk ?_
 refine zQd [4,8,27,28,29] [4,8,27,28,29] [false,false,true,true] ?_
 refine Vl (E':=(⟨48,[],[(4,.ref (n+2) 0),(8,.ref (n+3) 0),(27,.sl y2.1.length (fl Zw y2.1)),(28,.val (.int .i64 (y2.1.length:Int))),(29,.val (.int .i64 0))]⟩:Env)) (O':=(Zu O n [none,none,some ⟨false,30,11,1,[.val (.int .i64 0),.val (.int .i64 0),.val (.slice none 0 0),.val (.slice none 0 0),.val (.int .i64 0),.val (.slice none 0 0),.val (.slice none 0 0),.val (.slice none 0 0),.val (.slice none 0 0),.val (.int .i64 0),.val (.slice none 0 0)]⟩,some ⟨false,30,11,1,[.val (.int .i64 3),.val (.int .i64 0),.val (.slice none 0 0),.val (.slice none 0 0),.val (.int .i64 0),.val (.slice none 0 0),.val (.slice none 0 0),.val (.slice none 0 0),.val (.slice none 0 0),.val (.int .i64 a0.List_),.row (n+4) ([]:List S_api_Op).length]⟩,some ⟨true,53,14,([]:List S_api_Op).length,fl Zc ([]:List S_api_Op)⟩,none])) (n':=(n+6)) ?_ ?_
 ·refine Fit2.trans (E':=(⟨48,[],[(4,.ref (n+2) 0),(8,.ref (n+3) 0),(27,.sl y2.1.length (fl Zw y2.1)),(28,.val (.int .i64 (y2.1.length:Int))),(29,.val (.int .i64 0))]⟩:Env)) (O':=(Zu O n [none,none,some ⟨false,30,11,1,[.val (.int .i64 0),.val (.int .i64 0),.val (.slice none 0 0),.val (.slice none 0 0),.val (.int .i64 0),.val (.slice none 0 0),.val (.slice none 0 0),.val (.slice none 0 0),.val (.slice none 0 0),.val (.int .i64 0),.val (.slice none 0 0)]⟩,some ⟨false,30,11,1,[.val (.int .i64 3),.val (.int .i64 0),.val (.slice none 0 0),.val (.slice none 0 0),.val (.int .i64 0),.val (.slice none 0 0),.val (.slice none 0 0),.val (.slice none 0 0),.val (.slice none 0 0),.val (.int .i64 a0.List_),.val (.slice none 0 0)]⟩])) (n':=(n+4)) (Fit2.of (Yj hU rfl rfl ?_) (by omega)) ?_
  ·exact zSe
  refine Fit2.trans (Zav (p:=(n+3)) (k:=10) (q:=⟨false,30,11,1,[.val (.int .i64 3),.val (.int .i64 0),.val (.slice none 0 0),.val (.slice none 0 0),.val (.int .i64 0),.val (.slice none 0 0),.val (.slice none 0 0),.val (.slice none 0 0),.val (.slice none 0 0),.val (.int .i64 a0.List_),.val (.slice none 0 0)]⟩) 53 14 (by simp only [Ux,Zam,List.getElem?_cons_zero,List.getElem?_cons_succ,Option.join_some,List.length_nil,Ya]) rfl (by omega)) ?_
  simp only [Y2,Yk,Ut,K8,List.set_cons_zero,List.set_cons_succ,List.cons_append,List.nil_append,List.length_cons,List.length_nil,Nat.zero_add,Nat.reduceAdd,Nat.reduceLT,Nat.add_assoc]
  refine Vt (k:=5) (k':=6) hU [5,5,2,3,4] [0,0,2,3,4,0] rfl rfl rfl rfl ⟨rfl,rfl⟩ ?_
  exact zSe
 obtain ⟨z10,hz10,h⟩:=bC h
 refine Zeg (J:=(K7 (fun z10=>JR n (⟨48,[],[(4,.ref (n+2) 0),(5,.val (.bool false))]⟩:Env) (Zu O n [none,none,some ⟨false,30,11,1,[.val (.int .i64 0),.val (.int .i64 0),.val (.slice none 0 0),.val (.slice none 0 0),.val (.int .i64 0),.val (.slice none 0 0),.val (.slice none 0 0),.val (.slice none 0 0),.val (.slice none 0 0),.val (.int .i64 0),.val (.slice none 0 0)]⟩,none]) (n+4)) (fun z10=>JX 0 n (⟨48,[],[(4,.ref (n+2) 0),(8,.ref (n+3) 0)]⟩:Env) (Zu O n [none,none,some ⟨false,30,11,1,[.val (.int .i64 0),.val (.int .i64 0),.val (.slice none 0 0),.val (.slice none 0 0),.val (.int .i64 0),.val (.slice none 0 0),.val (.slice none 0 0),.val (.slice none 0 0),.val (.slice none 0 0),.val (.int .i64 0),.val (.slice none 0 0)]⟩,some ⟨false,30,11,1,[.val (.int .i64 3),.val (.int .i64 0),.val (.slice none 0 0),.val (.slice none 0 0),.val (.int .i64 0),.val (.slice none 0 0),.val (.slice none 0 0),.val (.slice none 0 0),.val (.slice none 0 0),.val (.int .i64 a0.List_),.row (n+4) z10.length]⟩,some ⟨true,53,14,z10.length,fl Zc z10⟩,none]) (n+6)))) (z:=z10) ?_ fun hw => ?_
 ·refine Xq hz10 (fun s0_=>⟨48,[],[(4,.ref (n+2) 0),(8,.ref (n+3) 0),(27,.sl y2.1.length (fl Zw y2.1)),(28,.val (.int .i64 (y2.1.length:Int))),(29,.val (.int .i64 s0_.1))]⟩) (fun s0_=>(Zu O n [none,none,some ⟨false,30,11,1,[.val (.int .i64 0),.val (.int .i64 0),.val (.slice none 0 0),.val (.slice none 0 0),.val (.int .i64 0),.val (.slice none 0 0),.val (.slice none 0 0),.val (.slice none 0 0),.val (.slice none 0 0),.val (.int .i64 0),.val (.slice none 0 0)]⟩,some ⟨false,30,11,1,[.val (.int .i64 3),.val (.int .i64 0),.val (.slice none 0 0),.val (.slice none 0 0),.val (.int .i64 0),.val (.slice none 0 0),.val (.slice none 0 0),.val (.slice none 0 0),.val (.slice none 0 0),.val (.int .i64 a0.List_),.row (n+4) s0_.2.length]⟩,some ⟨true,53,14,s0_.2.length,fl Zc s0_.2⟩,none])) (K7 (fun z10=>JR n (⟨48,[],[(4,.ref (n+2) 0),(5,.val (.bool false))]⟩:Env) (Zu O n [none,none,some ⟨false,30,11,1,[.val (.int .i64 0),.val (.int .i64 0),.val (.slice none 0 0),.val (.slice none 0 0),.val (.int .i64 0),.val (.slice none 0 0),.val (.slice none 0 0),.val (.slice none 0 0),.val (.slice none 0 0),.val (.int .i64 0),.val (.slice none 0 0)]⟩,none]) (n+4)) (fun z10=>JX 0 n (⟨48,[],[(4,.ref (n+2) 0),(8,.ref (n+3) 0)]⟩:Env) (Zu O n [none,none,some ⟨false,30,11,1,[.val (.int .i64 0),.val (.int .i64 0),.val (.slice none 0 0),.val (.slice none 0 0),.val (.int .i64 0),.val (.slice none 0 0),.val (.slice none 0 0),.val (.slice none 0 0),.val (.slice none 0 0),.val (.int .i64 0),.val (.slice none 0 0)]⟩,some ⟨false,30,11,1,[.val (.int .i64 3),.val (.int .i64 0),.val (.slice none 0 0),.val (.slice none 0 0),.val (.int .i64 0),.val (.slice none 0 0),.val (.slice none 0 0),.val (.slice none 0 0),.val (.slice none 0 0),.val (.int .i64 a0.List_),.row (n+4) z10.length]⟩,some ⟨true,53,14,z10.length,fl Zc z10⟩,none]) (n+6))) ?_
  intro s0_ x0_ hs0_
  unfold Xt at hs0_
  try dsimp only
  refine zQ [4,8,27,28,29,30] ?_
  refine Zk ?_
  refine Zn (t:=(decide (s0_.1 < (y2.1.length:Int)))) rfl (fun c9 => ?_) (fun c9 => ?_)
  ·replace hs0_:=Zr c9 hs0_
   refine zKd [4,8,27,28,29] [false,false,true,true,true,false] ?_
   refine Zk ?_
   refine Yy ?_
   refine Zk ?_
   obtain ⟨x4,hx4,ax4,bx4,cx4,hs0_⟩:=bE (f:=Zw) Zwe (fun _=>rfl) (by decide) hs0_
   refine Ziv [] ax4 bx4 cx4 ?_
   refine zDs [4,8,10,27,28,29] [false,false,true,true,true,false,true] ?_
   obtain ⟨y6,hy6,hs0_⟩:=bC hs0_
   refine zCd (G4 hy6) [4,8,11,12,27,28,29] [false,false,true,true,true,false,false] ?_
   refine Zk ?_
   refine zQ [4,8,11,27,28,29,39] ?_
   refine Zn (t:=(!y6.2)) rfl (fun c8 => ?_) (fun c8 => ?_)
   ·replace hs0_:=Zr c8 hs0_
    refine Zk ?_
    refine zRd [4,5] [false,false,true,false,false,false,false] ?_
    refine zW ?_
    exact zEy hs0_
   replace hs0_:=Zq c8 hs0_
   refine zKd [4,8,11,27,28,29] [false,false,true,true,true,false,false] ?_
   obtain ⟨l7,pl7,ql7,el7,hs0_⟩:=bA (k:=y6.1.length) rfl hs0_
   refine Zpe [] pl7 ql7 el7 ?_
   refine Zem ⟨48,[],[(4,.ref (n+2) 0),(8,.ref (n+3) 0),(27,.sl y2.1.length (fl Zw y2.1)),(28,.val (.int .i64 (y2.1.length:Int))),(29,.val (.int .i64 s0_.1))]⟩ (Zu O n [none,none,some ⟨false,30,11,1,[.val (.int .i64 0),.val (.int .i64 0),.val (.slice none 0 0),.val (.slice none 0 0),.val (.int .i64 0),.val (.slice none 0 0),.val (.slice none 0 0),.val (.slice none 0 0),.val (.slice none 0 0),.val (.int .i64 0),.val (.slice none 0 0)]⟩,some ⟨false,30,11,1,[.val (.int .i64 3),.val (.int .i64 0),.val (.slice none 0 0),.val (.slice none 0 0),.val (.int .i64 0),.val (.slice none 0 0),.val (.slice none 0 0),.val (.slice none 0 0),.val (.slice none 0 0),.val (.int .i64 a0.List_),.row (n+4) l7.length]⟩,some ⟨true,53,14,l7.length,fl Zc l7⟩,none,none]) (Yj hU rfl rfl ?_) ?_
   ·exact Z5u pl7 ql7 el7
   refine zR ?_
   exact zEn hs0_
  replace hs0_:=Zq c9 hs0_
  exact zEx hs0_
 rcases z10 with z10 | z10
 ·dsimp only [K7] at hw h
  refine Uy hw ?_
  try simp only [Xe,Yn,↓reduceIte,Nat.reduceEqDiff]
  exact Zre [.agg [.val (.int .i64 0),.val (.int .i64 0),.val (.slice none 0 0),.val (.slice none 0 0),.val (.int .i64 0),.val (.slice none 0 0),.val (.slice none 0 0),.val (.slice none 0 0),.val (.slice none 0 0),.val (.int .i64 0),.val (.slice none 0 0)],.val (.bool false)]
 dsimp only [K7] at hw h
 refine Y8 hw ?_
 try simp only [Xe,Yn,↓reduceIte,Nat.reduceEqDiff]
 refine zDs [4,8] [false,false,true,true,true,false] ?_
 refine zRd [4,5] [false,false,true,false,true,false] ?_
 exact Xf [.agg [.val (.int .i64 3),.val (.int .i64 0),.val (.slice none 0 0),.val (.slice none 0 0),.val (.int .i64 0),.val (.slice none 0 0),.val (.slice none 0 0),.val (.slice none 0 0),.val (.slice none 0 0),.val (.int .i64 a0.List_),.row (n+4) z10.length],.val (.bool true)]
theorem Zff {Yi:(S_api_Edit→S_api_Edit→Option (S_api_Edit×Bool))} {Zx:(S_api_Edit→S_api_Edit→Option (S_api_Edit×Bool))} {Ye:(S_api_Edit→S_api_Edit→Option (S_api_Edit×Bool))} {Zl:((List S_api_KidEdit)→(List S_api_KidEdit)→Option ((List S_api_KidEdit)×Bool))} {Zv:(S_api_KidEdit→S_api_KidEdit→Option (S_api_KidEdit×Bool))} {Z8:(Zp→Option ((List S_api_Op)×Bool))} (U5:U3 Yi) (K6:Jb Zx) (G3:Uc Ye) (Y6:Yx Zl) (X9:X8 Zv) (G4:Ud Z8) {a0:(List S_api_KidEdit)} {a1:(List S_api_KidEdit)} {r:((List S_api_KidEdit)×Bool)} {O:Objs} {n:Nat} (h:Xv Yi Zx Ye Zl Zv Z8 a0 a1=some r):GTo Try.prog 80 [.sl a0.length (fl Zd a0),.sl a1.length (fl Zd a1),.fn 81 0 [],.fn 82 0 []] O n (.tup [.sl r.1.length (fl Zd r.1),.val (.bool r.2)]) O n:=by
 unfold Xv at h
 refine zFn Try.call80 Try.func80 fun hU hN0 hN => ?_
 show W _ _ _ _ ⟨87,[],[(0,.sl a0.length (fl Zd a0)),(1,.sl a1.length (fl Zd a1)),(2,.fn 81 0 []),(3,.fn 82 0 [])]⟩ (Zu O n []) _
 refine zQ [0,1,2,3] ?_
 refine zQ [0,1,2,3,10] ?_
 refine Zk ?_
 refine zD [0,1,2,3,10] [] ?_
 refine Vl (E':=(⟨87,[],[(0,.sl a0.length (fl Zd a0)),(1,.sl a1.length (fl Zd a1)),(2,.fn 81 0 []),(3,.fn 82 0 []),(10,.row n ([]:List S_api_KidEdit).length)]⟩:Env)) (O':=(Zu O n [some ⟨true,55,12,([]:List S_api_KidEdit).length,fl Zd ([]:List S_api_KidEdit)⟩,none])) (n':=(n+2)) ?_ ?_
 ·refine Fit2.trans (E':=(⟨87,[],[(0,.sl a0.length (fl Zd a0)),(1,.sl a1.length (fl Zd a1)),(2,.fn 81 0 []),(3,.fn 82 0 []),(10,.val (.slice none 0 0))]⟩:Env)) (O':=(Zu O n [])) (n':=n) (Fit2.of (Yj hU rfl rfl ?_) (by omega)) ?_
  ·exact zSe
  refine Fit2.trans (Zma 10 55 12 rfl (by omega)) ?_
  simp only [Y2,Yk,Ut,K8,List.set_cons_zero,List.set_cons_succ,List.cons_append,List.nil_append,List.length_cons,List.length_nil,Nat.zero_add,Nat.reduceAdd,Nat.reduceLT,Nat.add_assoc]
  refine Fit2.trans (E':=(⟨87,[],[(0,.sl a0.length (fl Zd a0)),(1,.sl a1.length (fl Zd a1)),(2,.fn 81 0 []),(3,.fn 82 0 []),(10,.row n ([]:List S_api_KidEdit).length)]⟩:Env)) (O':=(Zu O n [some ⟨true,55,12,([]:List S_api_KidEdit).length,fl Zd ([]:List S_api_KidEdit)⟩])) (n':=(n+1)) (Fit2.of (Yj hU rfl rfl ?_) (by omega)) ?_
  ·exact zSe
  refine Vt (k:=1) (k':=2) hU [0] [0,0] rfl rfl rfl rfl ⟨rfl,rfl⟩ ?_
  exact zSe
 obtain ⟨z36,hz36,h⟩:=bC h
 refine Zeg (J:=(K7 (fun z36=>JR n (⟨87,[],[(8,.val (.slice none 0 0)),(9,.val (.bool false))]⟩:Env) (Zu O n []) n) (fun z36=>JX 0 n (⟨87,[],[(0,.sl z36.1.length (fl Zd z36.1)),(1,.sl z36.2.1.length (fl Zd z36.2.1)),(10,.row n z36.2.2.length)]⟩:Env) (Zu O n [some ⟨true,55,12,z36.2.2.length,fl Zd z36.2.2⟩,none]) (n+2)))) (z:=z36) ?_ fun hw => ?_
 ·refine Xq hz36 (fun s0_=>⟨87,[],[(0,.sl s0_.1.length (fl Zd s0_.1)),(1,.sl s0_.2.1.length (fl Zd s0_.2.1)),(2,.fn 81 0 []),(3,.fn 82 0 []),(10,.row n s0_.2.2.length)]⟩) (fun s0_=>(Zu O n [some ⟨true,55,12,s0_.2.2.length,fl Zd s0_.2.2⟩,none])) (K7 (fun z36=>JR n (⟨87,[],[(8,.val (.slice none 0 0)),(9,.val (.bool false))]⟩:Env) (Zu O n []) n) (fun z36=>JX 0 n (⟨87,[],[(0,.sl z36.1.length (fl Zd z36.1)),(1,.sl z36.2.1.length (fl Zd z36.2.1)),(10,.row n z36.2.2.length)]⟩:Env) (Zu O n [some ⟨true,55,12,z36.2.2.length,fl Zd z36.2.2⟩,none]) (n+2))) ?_
  intro s0_ x0_ hs0_
  unfold Yv at hs0_
  try dsimp only
  refine Zk ?_
  refine zQD [0,1,2,3,10,20] [none,none,none] ?_
  refine Zn (t:=(cond (decide (0 < (s0_.1.length:Int))) (decide (0 < (s0_.2.1.length:Int))) false)) rfl (fun c35 => ?_) (fun c35 => ?_)
  ·replace hs0_:=Zr c35 hs0_
   refine zKd [0,1,2,3,10] [true,false] ?_
   refine Yy ?_
   refine Yy ?_
   refine Zk ?_
   obtain ⟨x5,hx5,ax5,bx5,cx5,hs0_⟩:=bE (f:=Zd) Zdk (fun _=>rfl) (by decide) hs0_
   obtain ⟨y6,hy6,hs0_⟩:=bC hs0_
   obtain ⟨x7,hx7,ax7,bx7,cx7,hs0_⟩:=bE (f:=Zd) Zdk (fun _=>rfl) (by decide) hs0_
   obtain ⟨y8,hy8,hs0_⟩:=bC hs0_
   refine Vg Zy (by kernel_rfl) [] (by kernel_rfl) ?_
   refine zF6 ax5 bx5 cx5 ax7 bx7 cx7 ?_
   refine PCall.of (Zas hy6) ?_
   refine zF6 ax5 bx5 cx5 ax7 bx7 cx7 ?_
   refine PCall.of (Zas hy8) ?_
   refine zF6 ax5 bx5 cx5 ax7 bx7 cx7 ?_
   refine zD [0,1,2,3,10,42] [true,false] ?_
   refine Zn (t:=(decide (y6 < y8))) rfl (fun c34 => ?_) (fun c34 => ?_)
   ·replace hs0_:=Zr c34 hs0_
    obtain ⟨x9,hx9,ax9,bx9,cx9,hs0_⟩:=bE (f:=Zd) Zdk (fun _=>rfl) (by decide) hs0_
    obtain ⟨l10,al10,bl10,cl10,gl10,hs0_⟩:=bS (lo:=(some (.i64,1))) (hi:=none) (f:=Zd) rfl rfl Zgv Zdk (fun _=>rfl) hs0_
    obtain ⟨l11,pl11,ql11,el11,hs0_⟩:=bA (k:=1) rfl hs0_
    refine Ki Zy (by kernel_rfl) [.plain,.plain,.plain,.plain,.pass,.pass,.plain,.low,.plain,.plain] (fun i=>i < (n+2)∧¬ i=n) [0,1,2,3,6,7,4,5,8,9] [.plain,.plain,.plain,.plain,.plain,.low,.pass,.pass,.plain,.plain] [] (by kernel_rfl) rfl ?_
    refine Ydu ax9 bx9 cx9 al10 bl10 cl10 gl10 pl11 ql11 el11 ?_
    refine zO ?_
    have hs0_:=Option.some.inj hs0_;subst hs0_
    refine And.intro rfl (Fit2.of (Yj hU rfl rfl ?_) (by omega))
    exact Z8m ax9 bx9 cx9 al10 bl10 cl10 gl10 pl11 ql11 el11
   replace hs0_:=Zq c34 hs0_
   refine Zk ?_
   obtain ⟨x16,hx16,ax16,bx16,cx16,hs0_⟩:=bE (f:=Zd) Zdk (fun _=>rfl) (by decide) hs0_
   obtain ⟨y17,hy17,hs0_⟩:=bC hs0_
   obtain ⟨x18,hx18,ax18,bx18,cx18,hs0_⟩:=bE (f:=Zd) Zdk (fun _=>rfl) (by decide) hs0_
   obtain ⟨y19,hy19,hs0_⟩:=bC hs0_
   refine Vg Zy (by kernel_rfl) [] (by kernel_rfl) ?_
   refine zF6 ax16 bx16 cx16 ax18 bx18 cx18 ?_
   refine PCall.of (Zas hy17) ?_
   refine zF6 ax16 bx16 cx16 ax18 bx18 cx18 ?_
   refine PCall.of (Zas hy19) ?_
   refine zF6 ax16 bx16 cx16 ax18 bx18 cx18 ?_
   refine zD [0,1,2,3,10,62] [true,false] ?_
   refine Zn (t:=(decide (y17 < y19))) rfl (fun c33 => ?_) (fun c33 => ?_)
   ·replace hs0_:=Zr c33 hs0_
    obtain ⟨x20,hx20,ax20,bx20,cx20,hs0_⟩:=bE (f:=Zd) Zdk (fun _=>rfl) (by decide) hs0_
    obtain ⟨l21,al21,bl21,cl21,gl21,hs0_⟩:=bS (lo:=(some (.i64,1))) (hi:=none) (f:=Zd) rfl rfl Zgv Zdk (fun _=>rfl) hs0_
    obtain ⟨l22,pl22,ql22,el22,hs0_⟩:=bA (k:=1) rfl hs0_
    refine Ki Zy (by kernel_rfl) [.plain,.plain,.plain,.plain,.pass,.pass,.plain,.low,.plain,.plain] (fun i=>i < (n+2)∧¬ i=n) [0,1,2,3,6,7,4,5,8,9] [.plain,.plain,.plain,.plain,.plain,.low,.pass,.pass,.plain,.plain] [] (by kernel_rfl) rfl ?_
    refine Ydu ax20 bx20 cx20 al21 bl21 cl21 gl21 pl22 ql22 el22 ?_
    refine zO ?_
    have hs0_:=Option.some.inj hs0_;subst hs0_
    refine And.intro rfl (Fit2.of (Yj hU rfl rfl ?_) (by omega))
    exact Z8m ax20 bx20 cx20 al21 bl21 cl21 gl21 pl22 ql22 el22
   replace hs0_:=Zq c33 hs0_
   refine Zk ?_
   obtain ⟨x26,hx26,ax26,bx26,cx26,hs0_⟩:=bE (f:=Zd) Zdk (fun _=>rfl) (by decide) hs0_
   obtain ⟨x27,hx27,ax27,bx27,cx27,hs0_⟩:=bE (f:=Zd) Zdk (fun _=>rfl) (by decide) hs0_
   obtain ⟨y28,hy28,hs0_⟩:=bC hs0_
   refine Ki Zy (by kernel_rfl) [.plain,.plain,.low,.low,.plain,.low,.low,.low,.plain,.plain,.plain,.pass,.bar,.plain] (fun i=>i < (n+2)) [0,1,2,3,4,5,6,7,8,9,10,11,12,13] [.plain,.plain,.low,.low,.plain,.low,.low,.low,.plain,.plain,.plain,.pass,.bar,.plain] [] (by kernel_rfl) rfl ?_
   refine zF6 ax26 bx26 cx26 ax27 bx27 cx27 ?_
   refine zO ?_
   first | refine PCallA.of (fun _ _=>X9 hy28) ?_ | refine PCall.of (X9 hy28) ?_
   refine zF6 ax26 bx26 cx26 ax27 bx27 cx27 ?_
   refine zO ?_
   refine zDs [0,1,2,3,10,11,12] [true,false,true] ?_
   refine zQ [0,1,2,3,10,11,33] ?_
   refine Zn (t:=(!y28.2)) rfl (fun c32 => ?_) (fun c32 => ?_)
   ·replace hs0_:=Zr c32 hs0_
    refine zQ [8,9] ?_
    refine zW ?_
    exact zEy hs0_
   replace hs0_:=Zq c32 hs0_
   refine zKd [0,1,2,3,10,11] [true,false,true] ?_
   obtain ⟨l29,al29,bl29,cl29,gl29,hs0_⟩:=bS (lo:=(some (.i64,1))) (hi:=none) (f:=Zd) rfl rfl Zgv Zdk (fun _=>rfl) hs0_
   obtain ⟨l30,al30,bl30,cl30,gl30,hs0_⟩:=bS (lo:=(some (.i64,1))) (hi:=none) (f:=Zd) rfl rfl Zgv Zdk (fun _=>rfl) hs0_
   obtain ⟨l31,pl31,ql31,el31,hs0_⟩:=bA (k:=1) rfl hs0_
   refine Ki Zy (by kernel_rfl) [.plain,.plain,.pass,.pass,.plain,.low,.plain,.low,.plain,.plain,.plain] (fun i=>i < (n+3)∧¬ i=n) [0,1,4,5,6,7,2,3,8,9,10] [.plain,.plain,.plain,.low,.plain,.low,.pass,.pass,.plain,.plain,.plain] [] (by kernel_rfl) rfl ?_
   simp only [push_cast,seval,↓reduceIte,Zj,al29,bl29,cl29,gl29,al30,bl30,cl30,gl30,pl31,ql31,el31,hN0,hN]
   refine zO ?_
   have hs0_:=Option.some.inj hs0_;subst hs0_
   refine And.intro rfl (Fit2.of (Yj hU rfl rfl ?_) (by omega))
   simp only [push_cast,seval,↓reduceIte,Zj,al29,bl29,cl29,gl29,al30,bl30,cl30,gl30,pl31,ql31,el31,hN0,hN]
  replace hs0_:=Zq c35 hs0_
  exact zEx hs0_
 rcases z36 with z36 | z36
 ·dsimp only [K7] at hw h
  refine Uy hw ?_
  try simp only [Xe,Yn,↓reduceIte,Nat.reduceEqDiff]
  exact Zre [.val (.slice none 0 0),.val (.bool false)]
 dsimp only [K7] at hw h
 refine Y8 hw ?_
 try simp only [Xe,Yn,↓reduceIte,Nat.reduceEqDiff]
 refine zDs [0,1,10] [true,false] ?_
 obtain ⟨l39,pl39,ql39,el39,h⟩:=bA (k:=z36.1.length) rfl h
 obtain ⟨l40,pl40,ql40,el40,h⟩:=bA (k:=z36.2.1.length) rfl h
 try simp only [el39,List.length_append,Nat.add_assoc] at pl40 ql40
 refine Y9 Zy [] ?_
 simp only [push_cast,seval,↓reduceIte,Zj,pl39,ql39,el39,pl40,ql40,el40,List.append_assoc,hN0,hN]
 refine Zem ⟨87,[],[(8,.row n l40.length),(9,.val (.bool true))]⟩ (Zu O n [some ⟨true,55,12,l40.length,fl Zd l40⟩,none]) (Yj hU rfl rfl ?_) ?_
 ·simp only [push_cast,seval,↓reduceIte,Zj,pl39,ql39,el39,pl40,ql40,el40,List.append_assoc,hN0,hN]
 exact Xf [.row n l40.length,.val (.bool true)]
theorem Zpk {Yi:(S_api_Edit→S_api_Edit→Option (S_api_Edit×Bool))} {Zx:(S_api_Edit→S_api_Edit→Option (S_api_Edit×Bool))} {Ye:(S_api_Edit→S_api_Edit→Option (S_api_Edit×Bool))} {Zl:((List S_api_KidEdit)→(List S_api_KidEdit)→Option ((List S_api_KidEdit)×Bool))} {Zv:(S_api_KidEdit→S_api_KidEdit→Option (S_api_KidEdit×Bool))} {Z8:(Zp→Option ((List S_api_Op)×Bool))} (U5:U3 Yi) (K6:Jb Zx) (G3:Uc Ye) (Y6:Yx Zl) (X9:X8 Zv) (G4:Ud Z8) {a0:S_api_KidEdit} {a1:S_api_KidEdit} {r:(S_api_KidEdit×Bool)} {O:Objs} {n:Nat} (h:Zdn Yi Zx Ye Zl Zv Z8 a0 a1=some r):GTo Try.prog 82 [.agg (Y4 a0),.agg (Y4 a1)] O n (.tup [.agg (Y4 r.1),.val (.bool r.2)]) O n:=by
 unfold Zdn at h
 refine zFn Try.call82 Try.func82 fun hU hN0 hN => ?_
 show W _ _ _ _ ⟨21,[],[(0,.agg (Y4 a0)),(1,.agg (Y4 a1))]⟩ (Zu O n []) _
 refine zQ [2,3,4] ?_
 refine Zk ?_
 obtain ⟨y2,hy2,h⟩:=bC h
 refine zCd (U5 hy2) [2,4,6,7] [true,false,true,true] ?_
 refine Zk ?_
 refine zRd [4,5] [false,false,true,false] ?_
 exact Xf [.agg [.val (.int .i64 a0.At),.val (.int .i64 y2.1.Kind),.val (.int .i64 y2.1.Old.Kind),.sl y2.1.Old.Words.length (fl (eI .u64) y2.1.Old.Words),.sl y2.1.Old.Kids.length (fl Za y2.1.Old.Kids),.val (.int .i64 y2.1.New.Kind),.sl y2.1.New.Words.length (fl (eI .u64) y2.1.New.Words),.sl y2.1.New.Kids.length (fl Za y2.1.New.Kids),.sl y2.1.Words.length (fl Zb y2.1.Words),.sl y2.1.Kids.length (fl Zd y2.1.Kids),.val (.int .i64 y2.1.List_),.sl y2.1.Ops.length (fl Zc y2.1.Ops)],.val (.bool y2.2)]
theorem Zv0 {Yi:(S_api_Edit→S_api_Edit→Option (S_api_Edit×Bool))} {Zx:(S_api_Edit→S_api_Edit→Option (S_api_Edit×Bool))} {Ye:(S_api_Edit→S_api_Edit→Option (S_api_Edit×Bool))} {Zl:((List S_api_KidEdit)→(List S_api_KidEdit)→Option ((List S_api_KidEdit)×Bool))} {Zv:(S_api_KidEdit→S_api_KidEdit→Option (S_api_KidEdit×Bool))} {Z8:(Zp→Option ((List S_api_Op)×Bool))} (U5:U3 Yi) (K6:Jb Zx) (G3:Uc Ye) (Y6:Yx Zl) (X9:X8 Zv) (G4:Ud Z8) {a0:Zp} {r:((List S_api_Op)×Bool)} {O:Objs} {n:Nat} (h:Zdz Yi Zx Ye Zl Zv Z8 a0=some r):GTo Try.prog 84 [.agg (Qa a0)] O n (.tup [.sl r.1.length (fl Zc r.1),.val (.bool r.2)]) O n:=by
 unfold Zdz at h
 refine zFn Try.call84 Try.func84 fun hU hN0 hN => ?_
 show W _ _ _ _ ⟨108,[],[(0,.agg (Qa a0))]⟩ (Zu O n []) _
 refine zQ [1] ?_
 refine Xw (E':=⟨108,[],[(1,.ref n 0),(4,.ref (n+1) 0),(5,.ref (n+2) 0)]⟩) (O':=(Zu O n [some ⟨false,94,29,1,(Qa a0)⟩,some ⟨false,53,14,1,(Yw a0.P)⟩,some ⟨false,53,14,1,(Yw a0.Q)⟩])) (n0:=(n+3)) ?_ ?_
 ·refine Ycj Zy (by kernel_rfl) [.low,.low,.low,.low,.pass,.pass,.pass,.pass] (fun i=>i < (n+1)) 4 5 [0,1,2,3] [6,7] [.low,.low,.low,.low] [.pass,.pass,.pass,.pass] [.pass,.pass,.pass,.pass] [] (by kernel_rfl) rfl rfl rfl ?_
  refine zS ?_
  repeat (with_reducible refine And.intro (by omega) ?_)
  refine And.intro ?_ ?_
  ·refine zS ?_
   repeat (with_reducible refine And.intro (by first | exact Gs rfl | exact Ua) ?_)
   exact zEf
  refine zS ?_
  repeat (with_reducible refine And.intro (by first | exact Gs rfl | exact Ua) ?_)
  refine And.intro rfl ?_
  refine Fit2.trans (E':=(⟨108,[],[(1,.ref n 0),(4,.ref (n+2) 0),(5,.ref (n+1) 0)]⟩:Env)) (O':=(Zu O n [some ⟨false,94,29,1,(Qa a0)⟩,some ⟨false,53,14,1,(Yw a0.Q)⟩,some ⟨false,53,14,1,(Yw a0.P)⟩])) (n':=(n+3)) (Fit2.of (Yj hU rfl rfl ?_) (by omega)) ?_
  ·exact zSe
  refine Vt (k:=3) (k':=3) hU [0,2,1] [0,2,1] rfl rfl rfl rfl ⟨rfl,rfl⟩ ?_
  exact zSe
 refine Zk ?_
 refine Yy ?_
 refine zQD [1,4,5,16] [none,none,none,none,none,none,none,none] ?_
 refine Zn (t:=(cond (a0.Of == 1) true (cond (a0.Of == 0) (a0.Q.Kind == 0) false))) rfl (fun c19 => ?_) (fun c19 => ?_)
 ·replace h:=Zr c19 h
  refine Zk ?_
  refine zR ?_
  refine Zem ⟨108,[],[(2,.row (n+3) ([a0.P]:List S_api_Op).length),(3,.val (.bool true))]⟩ (Zu O n [none,none,none,some ⟨true,53,14,([a0.P]:List S_api_Op).length,fl Zc ([a0.P]:List S_api_Op)⟩]) (Yj hU rfl rfl ?_) ?_
  ·exact zSe
  exact Xf [.row (n+3) ([a0.P]:List S_api_Op).length,.val (.bool true)]
 replace h:=Zq c19 h
 refine zQD [4,5,32] [none,none,none] ?_
 refine Zn (t:=(cond (a0.Of == 2) true (a0.P.Kind == 0))) rfl (fun c18 => ?_) (fun c18 => ?_)
 ·replace h:=Zr c18 h
  refine Zk ?_
  refine zR ?_
  refine Zem ⟨108,[],[(2,.row (n+3) ([a0.Q]:List S_api_Op).length),(3,.val (.bool true))]⟩ (Zu O n [none,none,none,some ⟨true,53,14,([a0.Q]:List S_api_Op).length,fl Zc ([a0.Q]:List S_api_Op)⟩]) (Yj hU rfl rfl ?_) ?_
  ·exact zSe
  exact Xf [.row (n+3) ([a0.Q]:List S_api_Op).length,.val (.bool true)]
 replace h:=Zq c18 h
 refine zQD [4,5,43] [none,none,none] ?_
 refine Zn (t:=(cond (a0.P.Kind == 2) (a0.Q.Kind == 1) false)) rfl (fun c17 => ?_) (fun c17 => ?_)
 ·replace h:=Zr c17 h
  refine Zk ?_
  obtain ⟨y2,hy2,h⟩:=bC h
  refine zCd (Qr hy2) [2,3] [false,false,false] ?_
  exact Xf [.val (.slice none 0 0),.val (.bool y2)]
 replace h:=Zq c17 h
 refine zQ [4,5,57] ?_
 refine Zn (t:=(a0.P.Kind == 2)) rfl (fun c16 => ?_) (fun c16 => ?_)
 ·replace h:=Zr c16 h
  refine Zk ?_
  obtain ⟨x5,hx5,ax5,bx5,cx5,h⟩:=bE (f:=Za) Gq (fun _=>rfl) (by decide) h
  obtain ⟨y6,hy6,h⟩:=bC h
  refine Ki Zy (by kernel_rfl) [.low,.low,.low,.low,.low,.low,.low,.plain,.plain,.plain,.pass,.bar,.plain] (fun i=>i < (n+3)) [0,1,2,3,4,5,6,7,8,9,10,11,12] [.low,.low,.low,.low,.low,.low,.low,.plain,.plain,.plain,.pass,.bar,.plain] [] (by kernel_rfl) rfl ?_
  refine zF3 ax5 bx5 cx5 ?_
  refine zO ?_
  first | refine PCallA.of (fun _ _=>V7 hy6) ?_ | refine PCall.of (V7 hy6) ?_
  refine zF3 ax5 bx5 cx5 ?_
  refine zO ?_
  refine zDs [6,7] [false,false,false,true] ?_
  refine zR ?_
  refine Zem ⟨108,[],[(2,.row (n+5) ([(⟨2,0,([y6.1]:List S_api_Tree),(⟨0,(⟨0,([]:(List Int)),([]:(List S_api_Tree))⟩:S_api_Tree),(⟨0,([]:(List Int)),([]:(List S_api_Tree))⟩:S_api_Tree),([]:(List Zf)),([]:(List S_api_KidEdit)),0,([]:(List S_api_Op))⟩:S_api_Edit)⟩:S_api_Op)]:List S_api_Op).length),(3,.val (.bool y6.2))]⟩ (Zu O n [none,none,none,none,none,some ⟨true,53,14,([(⟨2,0,([y6.1]:List S_api_Tree),(⟨0,(⟨0,([]:(List Int)),([]:(List S_api_Tree))⟩:S_api_Tree),(⟨0,([]:(List Int)),([]:(List S_api_Tree))⟩:S_api_Tree),([]:(List Zf)),([]:(List S_api_KidEdit)),0,([]:(List S_api_Op))⟩:S_api_Edit)⟩:S_api_Op)]:List S_api_Op).length,fl Zc ([(⟨2,0,([y6.1]:List S_api_Tree),(⟨0,(⟨0,([]:(List Int)),([]:(List S_api_Tree))⟩:S_api_Tree),(⟨0,([]:(List Int)),([]:(List S_api_Tree))⟩:S_api_Tree),([]:(List Zf)),([]:(List S_api_KidEdit)),0,([]:(List S_api_Op))⟩:S_api_Edit)⟩:S_api_Op)]:List S_api_Op)⟩]) (Yj hU rfl rfl ?_) ?_
  ·exact zSe
  exact Xf [.row (n+5) ([(⟨2,0,([y6.1]:List S_api_Tree),(⟨0,(⟨0,([]:(List Int)),([]:(List S_api_Tree))⟩:S_api_Tree),(⟨0,([]:(List Int)),([]:(List S_api_Tree))⟩:S_api_Tree),([]:(List Zf)),([]:(List S_api_KidEdit)),0,([]:(List S_api_Op))⟩:S_api_Edit)⟩:S_api_Op)]:List S_api_Op).length,.val (.bool y6.2)]
 replace h:=Zq c16 h
 refine zQ [4,5,76] ?_
 refine Zn (t:=(a0.Q.Kind == 1)) rfl (fun c15 => ?_) (fun c15 => ?_)
 ·replace h:=Zr c15 h
  refine Zk ?_
  obtain ⟨y10,hy10,h⟩:=bC h
  obtain ⟨x11,hx11,ax11,bx11,cx11,h⟩:=bE (f:=Za) Gq (fun _=>rfl) (by decide) h
  obtain ⟨y12,hy12,h⟩:=bC h
  refine Ki Zy (by kernel_rfl) [.low,.low,.low,.low,.low,.low,.low,.low,.plain,.plain,.plain,.pass,.bar,.plain] (fun i=>i < (n+3)) [0,1,2,3,4,5,6,7,8,9,10,11,12,13] [.low,.low,.low,.low,.low,.low,.low,.low,.plain,.plain,.plain,.pass,.bar,.plain] [] (by kernel_rfl) rfl ?_
  refine zF3 ax11 bx11 cx11 ?_
  refine zO ?_
  first | refine PCallA.of (fun _ _=>Kh hy10) ?_ | refine PCall.of (Kh hy10) ?_
  refine zF3 ax11 bx11 cx11 ?_
  refine zO ?_
  first | refine PCallA.of (fun _ _=>V7 hy12) ?_ | refine PCall.of (V7 hy12) ?_
  refine zF3 ax11 bx11 cx11 ?_
  refine zO ?_
  refine zDs [8,9] [false,false,false,true] ?_
  refine zR ?_
  refine Zem ⟨108,[],[(2,.row (n+5) ([(⟨1,0,([y12.1]:List S_api_Tree),(⟨0,(⟨0,([]:(List Int)),([]:(List S_api_Tree))⟩:S_api_Tree),(⟨0,([]:(List Int)),([]:(List S_api_Tree))⟩:S_api_Tree),([]:(List Zf)),([]:(List S_api_KidEdit)),0,([]:(List S_api_Op))⟩:S_api_Edit)⟩:S_api_Op)]:List S_api_Op).length),(3,.val (.bool y12.2))]⟩ (Zu O n [none,none,none,none,none,some ⟨true,53,14,([(⟨1,0,([y12.1]:List S_api_Tree),(⟨0,(⟨0,([]:(List Int)),([]:(List S_api_Tree))⟩:S_api_Tree),(⟨0,([]:(List Int)),([]:(List S_api_Tree))⟩:S_api_Tree),([]:(List Zf)),([]:(List S_api_KidEdit)),0,([]:(List S_api_Op))⟩:S_api_Edit)⟩:S_api_Op)]:List S_api_Op).length,fl Zc ([(⟨1,0,([y12.1]:List S_api_Tree),(⟨0,(⟨0,([]:(List Int)),([]:(List S_api_Tree))⟩:S_api_Tree),(⟨0,([]:(List Int)),([]:(List S_api_Tree))⟩:S_api_Tree),([]:(List Zf)),([]:(List S_api_KidEdit)),0,([]:(List S_api_Op))⟩:S_api_Edit)⟩:S_api_Op)]:List S_api_Op)⟩]) (Yj hU rfl rfl ?_) ?_
  ·exact zSe
  exact Xf [.row (n+5) ([(⟨1,0,([y12.1]:List S_api_Tree),(⟨0,(⟨0,([]:(List Int)),([]:(List S_api_Tree))⟩:S_api_Tree),(⟨0,([]:(List Int)),([]:(List S_api_Tree))⟩:S_api_Tree),([]:(List Zf)),([]:(List S_api_KidEdit)),0,([]:(List S_api_Op))⟩:S_api_Edit)⟩:S_api_Op)]:List S_api_Op).length,.val (.bool y12.2)]
 replace h:=Zq c15 h
 refine zKd [4,5] [false,true,true] ?_
 refine Zk ?_
 obtain ⟨y14,hy14,h⟩:=bC h
 refine zCd (U5 hy14) [10,11] [false,false,false,true] ?_
 refine Zk ?_
 refine zR ?_
 refine Zem ⟨108,[],[(2,.row (n+4) ([(⟨3,0,([]:(List S_api_Tree)),y14.1⟩:S_api_Op)]:List S_api_Op).length),(3,.val (.bool y14.2))]⟩ (Zu O n [none,none,none,none,some ⟨true,53,14,([(⟨3,0,([]:(List S_api_Tree)),y14.1⟩:S_api_Op)]:List S_api_Op).length,fl Zc ([(⟨3,0,([]:(List S_api_Tree)),y14.1⟩:S_api_Op)]:List S_api_Op)⟩]) (Yj hU rfl rfl ?_) ?_
 ·exact zSe
 exact Xf [.row (n+4) ([(⟨3,0,([]:(List S_api_Tree)),y14.1⟩:S_api_Op)]:List S_api_Op).length,.val (.bool y14.2)]
theorem Zuv:∀ k,(U3 ((Zh k).1))∧(Jb ((Zh k).2.1))∧(Uc ((Zh k).2.2.1))∧(Yx ((Zh k).2.2.2.1))∧(X8 ((Zh k).2.2.2.2.1))∧(Ud ((Zh k).2.2.2.2.2)):=fun k=>by
 induction k with
 | zero=>exact ⟨@fun a0 a1 r O n h=>(nomatch (show (none:Option _)=some _ from h)),@fun a0 a1 r O n h=>(nomatch (show (none:Option _)=some _ from h)),@fun a0 a1 r O n h=>(nomatch (show (none:Option _)=some _ from h)),@fun a0 a1 r O n h=>(nomatch (show (none:Option _)=some _ from h)),@fun a0 a1 r O n h=>(nomatch (show (none:Option _)=some _ from h)),@fun a0 r O n h=>(nomatch (show (none:Option _)=some _ from h))⟩
 | succ k ih=>exact ⟨@fun a0 a1 r O n h=>Zw1 (ih.1) (ih.2.1) (ih.2.2.1) (ih.2.2.2.1) (ih.2.2.2.2.1) (ih.2.2.2.2.2)  h,@fun a0 a1 r O n h=>Zqm (ih.1) (ih.2.1) (ih.2.2.1) (ih.2.2.2.1) (ih.2.2.2.2.1) (ih.2.2.2.2.2)  h,@fun a0 a1 r O n h=>Zvz (ih.1) (ih.2.1) (ih.2.2.1) (ih.2.2.2.1) (ih.2.2.2.2.1) (ih.2.2.2.2.2)  h,@fun a0 a1 r O n h=>Zff (ih.1) (ih.2.1) (ih.2.2.1) (ih.2.2.2.1) (ih.2.2.2.2.1) (ih.2.2.2.2.2)  h,@fun a0 a1 r O n h=>Zpk (ih.1) (ih.2.1) (ih.2.2.1) (ih.2.2.2.1) (ih.2.2.2.2.1) (ih.2.2.2.2.2)  h,@fun a0 r O n h=>Zv0 (ih.1) (ih.2.1) (ih.2.2.1) (ih.2.2.2.1) (ih.2.2.2.2.1) (ih.2.2.2.2.2)  h⟩
theorem Zyx {a0:S_api_Edit} {a1:S_api_Edit} {r:(S_api_Edit×Bool)} {O:Objs} {n:Nat} (h:Zim a0 a1=some r):GTo Try.prog 27 [.agg (Ze a0),.agg (Ze a1)] O n (.tup [.agg (Ze r.1),.val (.bool r.2)]) O n:=by
 obtain ⟨k,hk⟩:=Zcr h
 exact (Zuv k).1  hk
theorem Zd4 {a0:S_api_Edit} {a1:S_api_Edit} {r:(S_api_Edit×Bool)} {O:Objs} {n:Nat} (h:U1 a0 a1=some r):GTo Try.prog 10 [.agg (Ze a0),.agg (Ze a1)] O n (.tup [.agg (Ze r.1),.val (.bool r.2)]) O n:=by
 unfold U1 at h
 refine zFn Try.call10 Try.func10 fun hU hN0 hN => ?_
 show W _ _ _ _ ⟨19,[],[(0,.agg (Ze a0)),(1,.agg (Ze a1))]⟩ (Zu O n []) _
 refine zQ [2,3,4] ?_
 refine Zk ?_
 obtain ⟨y2,hy2,h⟩:=bC h
 refine zCd (Zyx hy2) [4,6,7] [false,false,true,true] ?_
 refine Zk ?_
 refine zQ [4,6,15] ?_
 refine Zn (t:=(!y2.2)) rfl (fun c5 => ?_) (fun c5 => ?_)
 ·replace h:=Zr c5 h
  refine Zk ?_
  refine zRd [4,5] [false,false,true,false] ?_
  exact Xf [.agg [.val (.int .i64 0),.val (.int .i64 0),.val (.slice none 0 0),.val (.slice none 0 0),.val (.int .i64 0),.val (.slice none 0 0),.val (.slice none 0 0),.val (.slice none 0 0),.val (.slice none 0 0),.val (.int .i64 0),.val (.slice none 0 0)],.val (.bool false)]
 replace h:=Zq c5 h
 refine zKd [4,6] [false,false,true,true] ?_
 refine Zk ?_
 obtain ⟨y4,hy4,h⟩:=bC h
 refine zCd (Zr1 hy4) [4,5] [false,false,true,false] ?_
 exact Xf [.agg (Ze y4),.val (.bool true)]
theorem Zio  {r:Bool} {O:Objs} {n:Nat} (h:Gx=some r):GTo Try.prog 21 [] O n (.val (.bool r)) O n:=by
 unfold Gx at h
 refine zFn Try.call21 Try.func21 fun hU hN0 hN => ?_
 show W _ _ _ _ ⟨53,[],[]⟩ (Zu O n []) _
 refine zQ [] ?_
 refine Zk ?_
 refine zR ?_
 refine Zem ⟨53,[],[(1,.row (n+1) ([(⟨10,([1]:List Int),([]:(List S_api_Tree))⟩:S_api_Tree)]:List S_api_Tree).length)]⟩ (Zu O n [none,some ⟨true,25,3,([(⟨10,([1]:List Int),([]:(List S_api_Tree))⟩:S_api_Tree)]:List S_api_Tree).length,fl Za ([(⟨10,([1]:List Int),([]:(List S_api_Tree))⟩:S_api_Tree)]:List S_api_Tree)⟩]) (Yj hU rfl rfl ?_) ?_
 ·exact zSe
 refine Zem ⟨53,[],[(1,.sl ([(⟨10,([1]:List Int),([]:(List S_api_Tree))⟩:S_api_Tree)]:List S_api_Tree).length (fl Za ([(⟨10,([1]:List Int),([]:(List S_api_Tree))⟩:S_api_Tree)]:List S_api_Tree)))]⟩ (Zu O n [none,none]) (Yj hU rfl rfl ?_) ?_
 ·exact zSe
 refine Zk ?_
 refine zR ?_
 refine Zem ⟨53,[],[(1,.sl ([(⟨10,([1]:List Int),([]:(List S_api_Tree))⟩:S_api_Tree)]:List S_api_Tree).length (fl Za ([(⟨10,([1]:List Int),([]:(List S_api_Tree))⟩:S_api_Tree)]:List S_api_Tree))),(2,.ref (n+3) 0)]⟩ (Zu O n [none,none,some ⟨true,53,14,([(⟨2,0,([(⟨10,([1]:List Int),([]:(List S_api_Tree))⟩:S_api_Tree)]:List S_api_Tree),(⟨0,(⟨0,([]:(List Int)),([]:(List S_api_Tree))⟩:S_api_Tree),(⟨0,([]:(List Int)),([]:(List S_api_Tree))⟩:S_api_Tree),([]:(List Zf)),([]:(List S_api_KidEdit)),0,([]:(List S_api_Op))⟩:S_api_Edit)⟩:S_api_Op),(⟨0,1,([]:(List S_api_Tree)),(⟨0,(⟨0,([]:(List Int)),([]:(List S_api_Tree))⟩:S_api_Tree),(⟨0,([]:(List Int)),([]:(List S_api_Tree))⟩:S_api_Tree),([]:(List Zf)),([]:(List S_api_KidEdit)),0,([]:(List S_api_Op))⟩:S_api_Edit)⟩:S_api_Op)]:List S_api_Op).length,fl Zc ([(⟨2,0,([(⟨10,([1]:List Int),([]:(List S_api_Tree))⟩:S_api_Tree)]:List S_api_Tree),(⟨0,(⟨0,([]:(List Int)),([]:(List S_api_Tree))⟩:S_api_Tree),(⟨0,([]:(List Int)),([]:(List S_api_Tree))⟩:S_api_Tree),([]:(List Zf)),([]:(List S_api_KidEdit)),0,([]:(List S_api_Op))⟩:S_api_Edit)⟩:S_api_Op),(⟨0,1,([]:(List S_api_Tree)),(⟨0,(⟨0,([]:(List Int)),([]:(List S_api_Tree))⟩:S_api_Tree),(⟨0,([]:(List Int)),([]:(List S_api_Tree))⟩:S_api_Tree),([]:(List Zf)),([]:(List S_api_KidEdit)),0,([]:(List S_api_Op))⟩:S_api_Edit)⟩:S_api_Op)]:List S_api_Op)⟩,some ⟨false,30,11,1,[.val (.int .i64 3),.val (.int .i64 0),.val (.slice none 0 0),.val (.slice none 0 0),.val (.int .i64 0),.val (.slice none 0 0),.val (.slice none 0 0),.val (.slice none 0 0),.val (.slice none 0 0),.val (.int .i64 4),.row (n+2) ([(⟨2,0,([(⟨10,([1]:List Int),([]:(List S_api_Tree))⟩:S_api_Tree)]:List S_api_Tree),(⟨0,(⟨0,([]:(List Int)),([]:(List S_api_Tree))⟩:S_api_Tree),(⟨0,([]:(List Int)),([]:(List S_api_Tree))⟩:S_api_Tree),([]:(List Zf)),([]:(List S_api_KidEdit)),0,([]:(List S_api_Op))⟩:S_api_Edit)⟩:S_api_Op),(⟨0,1,([]:(List S_api_Tree)),(⟨0,(⟨0,([]:(List Int)),([]:(List S_api_Tree))⟩:S_api_Tree),(⟨0,([]:(List Int)),([]:(List S_api_Tree))⟩:S_api_Tree),([]:(List Zf)),([]:(List S_api_KidEdit)),0,([]:(List S_api_Op))⟩:S_api_Edit)⟩:S_api_Op)]:List S_api_Op).length]⟩]) (Yj hU rfl rfl ?_) ?_
 ·exact zSe
 refine Zem ⟨53,[],[(1,.sl ([(⟨10,([1]:List Int),([]:(List S_api_Tree))⟩:S_api_Tree)]:List S_api_Tree).length (fl Za ([(⟨10,([1]:List Int),([]:(List S_api_Tree))⟩:S_api_Tree)]:List S_api_Tree))),(2,.ref (n+3) 0)]⟩ (Zu O n [none,none,none,some ⟨false,30,11,1,[.val (.int .i64 3),.val (.int .i64 0),.val (.slice none 0 0),.val (.slice none 0 0),.val (.int .i64 0),.val (.slice none 0 0),.val (.slice none 0 0),.val (.slice none 0 0),.val (.slice none 0 0),.val (.int .i64 4),.sl ([(⟨2,0,([(⟨10,([1]:List Int),([]:(List S_api_Tree))⟩:S_api_Tree)]:List S_api_Tree),(⟨0,(⟨0,([]:(List Int)),([]:(List S_api_Tree))⟩:S_api_Tree),(⟨0,([]:(List Int)),([]:(List S_api_Tree))⟩:S_api_Tree),([]:(List Zf)),([]:(List S_api_KidEdit)),0,([]:(List S_api_Op))⟩:S_api_Edit)⟩:S_api_Op),(⟨0,1,([]:(List S_api_Tree)),(⟨0,(⟨0,([]:(List Int)),([]:(List S_api_Tree))⟩:S_api_Tree),(⟨0,([]:(List Int)),([]:(List S_api_Tree))⟩:S_api_Tree),([]:(List Zf)),([]:(List S_api_KidEdit)),0,([]:(List S_api_Op))⟩:S_api_Edit)⟩:S_api_Op)]:List S_api_Op).length (fl Zc ([(⟨2,0,([(⟨10,([1]:List Int),([]:(List S_api_Tree))⟩:S_api_Tree)]:List S_api_Tree),(⟨0,(⟨0,([]:(List Int)),([]:(List S_api_Tree))⟩:S_api_Tree),(⟨0,([]:(List Int)),([]:(List S_api_Tree))⟩:S_api_Tree),([]:(List Zf)),([]:(List S_api_KidEdit)),0,([]:(List S_api_Op))⟩:S_api_Edit)⟩:S_api_Op),(⟨0,1,([]:(List S_api_Tree)),(⟨0,(⟨0,([]:(List Int)),([]:(List S_api_Tree))⟩:S_api_Tree),(⟨0,([]:(List Int)),([]:(List S_api_Tree))⟩:S_api_Tree),([]:(List Zf)),([]:(List S_api_KidEdit)),0,([]:(List S_api_Op))⟩:S_api_Edit)⟩:S_api_Op)]:List S_api_Op))]⟩]) (Yj hU rfl rfl ?_) ?_
 ·exact zSe
 refine Zem ⟨53,[],[(1,.sl ([(⟨10,([1]:List Int),([]:(List S_api_Tree))⟩:S_api_Tree)]:List S_api_Tree).length (fl Za ([(⟨10,([1]:List Int),([]:(List S_api_Tree))⟩:S_api_Tree)]:List S_api_Tree))),(2,.ip [.val (.int .i64 3),.val (.int .i64 0),.sl ([]:(List Int)).length (fl (eI .u64) ([]:(List Int))),.sl ([]:(List S_api_Tree)).length (fl Za ([]:(List S_api_Tree))),.val (.int .i64 0),.sl ([]:(List Int)).length (fl (eI .u64) ([]:(List Int))),.sl ([]:(List S_api_Tree)).length (fl Za ([]:(List S_api_Tree))),.sl ([]:(List Zf)).length (fl Zb ([]:(List Zf))),.sl ([]:(List S_api_KidEdit)).length (fl Zd ([]:(List S_api_KidEdit))),.val (.int .i64 4),.sl ([(⟨2,0,([(⟨10,([1]:List Int),([]:(List S_api_Tree))⟩:S_api_Tree)]:List S_api_Tree),(⟨0,(⟨0,([]:(List Int)),([]:(List S_api_Tree))⟩:S_api_Tree),(⟨0,([]:(List Int)),([]:(List S_api_Tree))⟩:S_api_Tree),([]:(List Zf)),([]:(List S_api_KidEdit)),0,([]:(List S_api_Op))⟩:S_api_Edit)⟩:S_api_Op),(⟨0,1,([]:(List S_api_Tree)),(⟨0,(⟨0,([]:(List Int)),([]:(List S_api_Tree))⟩:S_api_Tree),(⟨0,([]:(List Int)),([]:(List S_api_Tree))⟩:S_api_Tree),([]:(List Zf)),([]:(List S_api_KidEdit)),0,([]:(List S_api_Op))⟩:S_api_Edit)⟩:S_api_Op)]:List S_api_Op).length (fl Zc ([(⟨2,0,([(⟨10,([1]:List Int),([]:(List S_api_Tree))⟩:S_api_Tree)]:List S_api_Tree),(⟨0,(⟨0,([]:(List Int)),([]:(List S_api_Tree))⟩:S_api_Tree),(⟨0,([]:(List Int)),([]:(List S_api_Tree))⟩:S_api_Tree),([]:(List Zf)),([]:(List S_api_KidEdit)),0,([]:(List S_api_Op))⟩:S_api_Edit)⟩:S_api_Op),(⟨0,1,([]:(List S_api_Tree)),(⟨0,(⟨0,([]:(List Int)),([]:(List S_api_Tree))⟩:S_api_Tree),(⟨0,([]:(List Int)),([]:(List S_api_Tree))⟩:S_api_Tree),([]:(List Zf)),([]:(List S_api_KidEdit)),0,([]:(List S_api_Op))⟩:S_api_Edit)⟩:S_api_Op)]:List S_api_Op))] 0)]⟩ (Zu O n [none,none,none,none]) (Yj hU rfl rfl ?_) ?_
 ·exact zSe
 refine Zk ?_
 obtain ⟨y3,hy3,h⟩:=bC h
 obtain ⟨y4,hy4,h⟩:=bC h
 refine Ki Zy (by kernel_rfl) [.low,.low,.low,.low,.plain,.plain,.plain,.pass,.bar,.plain] (fun i=>i < (n+4)) [0,1,2,3,4,5,6,7,8,9] [.low,.low,.low,.low,.plain,.plain,.plain,.pass,.bar,.plain] [] (by kernel_rfl) rfl ?_
 refine zS ?_
 refine zO ?_
 first | refine PCallA.of (fun _ _=>Kh hy3) ?_ | refine PCall.of (Kh hy3) ?_
 refine zS ?_
 refine zO ?_
 first | refine PCallA.of (fun _ _=>Zd4 hy4) ?_ | refine PCall.of (Zd4 hy4) ?_
 refine zS ?_
 refine zO ?_
 refine zDs [1,3,4] [false,false,false,false,true] ?_
 obtain ⟨y6,hy6,h⟩:=bC h
 refine zR ?_
 refine GCalls.argsW ?_ ((V7 hy6).then ?_)
 ·exact zSe
 refine zS ?_
 refine zD [3,4,5,6] [false,false,false,false,true,true] ?_
 obtain ⟨z9,hz9,h⟩:=bC h
 refine Xw (E':=⟨53,[],[(0,.val (.bool z9))]⟩) (O':=(Zu O n [none,none,none,none,none,none])) (n0:=(n+6)) ?_ ?_
 ·rcases Bool.eq_false_or_eq_true y4.2 with c14 | c14
  ·replace hz9:=Zr c14 hz9
   rcases Bool.eq_false_or_eq_true y6.2 with c15 | c15
   ·replace hz9:=Zr c15 hz9
    try rw [c15] at c14
    rcases Bool.eq_false_or_eq_true ((y4.1.Ops.length:Int) == 1) with c16 | c16
    ·replace hz9:=Zr c16 hz9
     try rw [c16] at c14
     try rw [c16] at c15
     obtain ⟨x12,hx12,ax12,bx12,cx12,hz9⟩:=bE (f:=Zc) Zdj (fun _=>rfl) (by decide) hz9
     have g13:=Zhh (f:=Zc) (off:=1) (sz:=14) Z02 (fun _=>rfl) (by decide) (by decide) hx12
     refine Yca [none,none,none,none,none,some true,some true,some true,some true,some true,some true,none,none,none,none] c14 c15 c16 ax12 bx12 cx12 g13 ?_
     refine zG ?_
     exact Yb9 hz9 c14 c15 c16 ax12 bx12 cx12 g13
    replace hz9:=Zq c16 hz9
    try rw [c16] at c14
    try rw [c16] at c15
    refine Zpe [none,none,none,none,none,some false,some false,some false,some false,some false,some false,some false,some false,some false,some false] c14 c15 c16 ?_
    refine zG ?_
    exact Zp6 hz9 c14 c15 c16
   replace hz9:=Zq c15 hz9
   try rw [c15] at c14
   refine Zau [none,none,none,none,none,some false,some false,some false,some false,some false,some false,some false,some false,some false,some false] c14 c15 ?_
   refine zG ?_
   exact Zln hz9 c14 c15
  replace hz9:=Zq c14 hz9
  refine Zcy [none,none,none,none,none,some false,some false,some false,some false,some false,some false,some false,some false,some false,some false] c14 ?_
  refine zG ?_
  exact Zbd hz9 c14
 exact Xf [.val (.bool z9)]
theorem Zjc {a0:S_api_Edit} {a1:Bool} {r:Bool} {O:Objs} {n:Nat} (h:Zbz a0 a1=some r):GTo Try.prog 22 [.agg (Ze a0),.val (.bool a1)] O n (.val (.bool r)) O n:=by
 unfold Zbz at h
 refine zFn Try.call22 Try.func22 fun hU hN0 hN => ?_
 show W _ _ _ _ ⟨11,[],[(0,.agg (Ze a0)),(1,.val (.bool a1))]⟩ (Zu O n []) _
 refine zQ [1,2] ?_
 obtain ⟨z2,hz2,h⟩:=bC h
 refine Xw (E':=⟨11,[],[(4,.val (.bool z2))]⟩) (O':=(Zu O n [none])) (n0:=(n+1)) ?_ ?_
 ·rcases Bool.eq_false_or_eq_true a1 with c5 | c5
  ·replace hz2:=Zr c5 hz2
   obtain ⟨y4,hy4,hz2⟩:=bC hz2
   refine Zcy [some true,some true] c5 ?_
   refine (Gz hy4).then ?_
   refine zX1 c5 ?_
   exact Zbd hz2 c5
  replace hz2:=Zq c5 hz2
  refine Zcy [some false,some false] c5 ?_
  exact Zbd hz2 c5
 exact Xf [.val (.bool z2)]
attribute [local push_cast] Try.results23 Try.results48 Try.results6 Try.results7 Qa Ze Y4 Yw Zi Xa Znk Znj Zn7 Zn6 Xe Yn Zjz Ze2 Ze1 onW Qm Ze0 Zep Zq0 Zpf Zhw Zh0 Zhv Zhz Zkt Zkq Zhy Zks Zkr Zhx Zko Zft evS wok K5 Op.operands Call.operands gop onK onP atK List.all_cons List.all_nil Bool.and_true Bool.true_and Bool.and_self Value.oneCell' List.take_zero List.take_succ_cons List.take_nil List.drop_zero List.drop_succ_cons List.drop_nil List.append_nil Nat.add_zero Nat.zero_add Za3 Yt ev Vy Zf7 Znc Znb Znh Znf Zng Znd Zne Zna Zt3 Zup Zws Zi8 Zco Zjx Zeh Zhi Zgx Zc1 Zc6 Zey Zev Zc4 Zex Zew Zc3 Zet Zc2 Zc5 Zb8 Zeu Zpu Ze3 Zax Zie Zay Zlp Zi6 Zvs bLo bHi bMx Zcp Zlo Zyq Zi5 Zmh Zf9 Gb Zrl Zyr Zic Zys Zcn Zz2 Zj3 Zj7 Zj2 Zj6 Znw Znt Znr Zhk Zj4 Znv Znu Zj5 Zns Zm4 gone Zkl Zfm Zfl pop TK.isAgg Zn1 Zn5 Zn0 Zn4 Zkg Zsc Zr8 Zn3 Zsb Zsa Zn2 Zr7 G.under G.unders List.getD_cons_zero List.getD_cons_succ List.set_cons_zero List.set_cons_succ List.map_cons List.map_nil List.toList_toArray Array.toList_append Option.toArray_none Option.toArray_some Array.toList_map Option.map_some Option.map_none Option.bind_some Option.bind_none List.getElem?_cons_zero List.getElem?_cons_succ List.getElem?_nil List.nil_append List.cons_append List.replicate_succ List.replicate_zero List.length_cons List.length_nil and_true true_and and_false false_and Bool.true_eq_false Bool.false_eq_true forall_const false_implies implies_true IntKind.bits if_true if_false ite_true ite_false eq_self true_implies false_or or_false or_true true_or not_true_eq_false not_false_eq_true decide_true decide_false decide_eq_true_eq decide_eq_false_iff_not beq_iff_eq bne_iff_ne ne_eq Bool.not_eq_true Bool.not_eq_false beq_eq_false_iff_ne bne_eq_false_iff_eq beq_self_eq_true bne_self_eq_false Option.some.injEq exists_eq_left' exists_eq_left ge_iff_le gt_iff_lt decide_not Bool.not_true Bool.not_false imp_self Zrm cond_true cond_false Z37 Z36 Bool.not_not Bool.and_false Bool.false_and Bool.or_true Bool.true_or Bool.or_false Bool.false_or Ux Zam Ut K8 Y2 Yk Option.join_some Nat.add_assoc Int.toNat_natCast eI eB eS eL Y7 Zf8 Zc7 Znn Znl Znm Z0q Z1g Zgc Zde Zod Zob Zoc Zw3 Zp9 Zud Zoi Zvl Zeb Zqa List.length_append G.agg.injEq G.row.injEq G.ref.injEq G.val.injEq G.sl.injEq G.tup.injEq Value.int.injEq Value.bool.injEq Value.string.injEq List.cons.injEq exists_and_left exists_const List.flatten_cons List.flatten_nil Int.le_refl Nat.le_refl X7 Yl Yp Bool.not_eq_true' Bool.not_eq_false' Zpd Ziu Ztk Zto Ztj Ztn Zyo Zyk List.size_toArray Zse Zq5 G.ren G.rens Zu0 Zg4 Zoh Zm8 Zm9 Zkp Ztp Zek G.fn.injEq Zll Zlm Zpc Zyl Zlk Ztm Zyn Zym Ztl Zrr Zxp Option.join_none Ya Gh undef Zmk Arr.len Arr.put_eq Zgb Zhp Zfi Zdd Zoa Zn8 Zn9 onB Z0p Zrk Zkn Zjk Zjl Zjm Zjn Zjo Zjp Zhl Zhs Zhq Zfk Zdf Zhr Zkk Zkj Zki Zkh Z1f Z3c Zw2 Zv4 Vr Zwt Zru Zht Zfj Zyz Zq6 Zi4 Zme Zeo Ziq Zjq Zjr Zjs Zjt Zg8 Zg9 Zha Zhb Zhc Zhd Zhe Zhf prT Ze4 Z5d Zta Z02 Ztb Z5e Ztc Zxb Ztd Z5f Zte Z5g Ztf Z5h Ztg Z5i Zth Zxt Zoj Zxu Zok Zxv Zol Zxw Zom Zxx Zon Zxy Zoo Zxz Zop Zx0 Zoq Zx1 Zor Zx2 Zos Zx3 Zot Zx4 Zl7 Zug Zck Zx5 Zou Gq Zov Zx6 Zgu Zx7 Zgv Zx8 Zl8 Zx9 Zow Zq8 Zox Zi2 Zoy Zya Zoz Zfu Zo0 Zyb Zo1 Zdj Zo2 Zyc Zo3 Zdk Zo4 Zuh Zl9 Zyd Zo5 Zye Zo6 Zyf Zo7 Zwe Zo8 Zyg Zo9 Zyh Zpa Zsj Zkv Zsk Zkw Zsl Zkx Zsm Zky Zsn Zkz Zso Zk0 Zsp Zk1 Zsq Zk2 Zsr Zk3 Zss Zk4 Zst Zk5 Zsu Zk6 Zsv Zk7 Zsw Zk8 Zsx Zk9 Zsy Zla Zsz Zlb Zs0 Zlc Zs1 Zld Zs2 Zle Zs3 Zlf Zs4 Zlg Zs5 Zlh Zs6 Zli Zs7 Zlj Za Z5 Zfz Zfy Ze5 Zfg Zf2 Zdm Zdi Zdh Zfv Ur Uq Uf Ul Us Vw Vv Vu Up Zb Xr Zc Zd Y0 Xb Yb J8 J5 Jm Jq Kb Q1 Qx Qu Jy Kx Kv Kl Kp Kz J3 Jw Ju Ks Zaj Zai Zac Zag Zak Gf Ge Gd Zah Zh3 Zh2 Zhj Zhn Zh4 Zfx Zfq Zfp Zh1 Z4 Q4 Q3 Qq Qs Q5 Ql Qk Qj Qz Z7 J9 J6 Jn Jr Kc Q2 Qy Qv Jz Z6 J7 J4 Jl Jp Ka Q0 Qw Qt Jx Zw Kw Ku Kk Ko Ky J0 Jv Jt Kr
theorem Zuw {a0:(List Int)} {a1:(List Int)} {r:Bool} {O:Objs} {n:Nat} (h:Zcb a0 a1=some r):GTo Try.prog 48 [.sl a0.length (fl (eI .u64) a0),.sl a1.length (fl (eI .u64) a1)] O n (.val (.bool r)) O n:=by
 unfold Zcb at h
 refine zFn Try.call48 Try.func48 fun hU hN0 hN => ?_
 show W _ _ _ _ ⟨26,[],[(0,.sl a0.length (fl (eI .u64) a0)),(1,.sl a1.length (fl (eI .u64) a1))]⟩ (Zu O n []) _
 refine zQ [0,1] ?_
 refine Zk ?_
 refine zQ [0,1,10] ?_
 refine Zn (t:=((a0.length:Int) != (a1.length:Int))) rfl (fun c8 => ?_) (fun c8 => ?_)
 ·replace h:=Zr c8 h
  refine zQ [4] ?_
  exact Xf [.val (.bool false)]
 replace h:=Zq c8 h
 refine zKd [0,1] [] ?_
 refine Zk ?_
 refine zQd [0,1,5] [0,1,5] [] ?_
 obtain ⟨z7,hz7,h⟩:=bC h
 refine Zeg (J:=(K7 (fun z7=>JR n (⟨26,[],[(4,.val (.bool false))]⟩:Env) (Zu O n []) n) (fun z7=>JX 0 n (⟨26,[],[]⟩:Env) (Zu O n []) n))) (z:=z7) ?_ fun hw => ?_
 ·refine Xq hz7 (fun s0_=>⟨26,[],[(0,.sl a0.length (fl (eI .u64) a0)),(1,.sl a1.length (fl (eI .u64) a1)),(5,.val (.int .i64 s0_))]⟩) (fun s0_=>(Zu O n [])) (K7 (fun z7=>JR n (⟨26,[],[(4,.val (.bool false))]⟩:Env) (Zu O n []) n) (fun z7=>JX 0 n (⟨26,[],[]⟩:Env) (Zu O n []) n)) ?_
  intro s0_ x0_ hs0_
  unfold Zad at hs0_
  try dsimp only
  refine Zk ?_
  refine zQ [0,1,5,14] ?_
  refine Zn (t:=(decide (s0_ < (a0.length:Int)))) rfl (fun c6 => ?_) (fun c6 => ?_)
  ·replace hs0_:=Zr c6 hs0_
   refine zKd [0,1,5] [] ?_
   refine Zk ?_
   refine Yy ?_
   obtain ⟨x3,hx3,ax3,bx3,cx3,hs0_⟩:=bE (f:=(eI .u64)) Zi2 (fun _=>rfl) (by decide) hs0_
   obtain ⟨x4,hx4,ax4,bx4,cx4,hs0_⟩:=bE (f:=(eI .u64)) Zi2 (fun _=>rfl) (by decide) hs0_
   refine Zuk [0,1,5,25] (Vg Zy (by kernel_rfl) [] (by kernel_rfl) ?_)
   refine zF6 ax3 bx3 cx3 ax4 bx4 cx4 ?_
   refine Zn (t:=(x3 != x4)) rfl (fun c5 => ?_) (fun c5 => ?_)
   ·replace hs0_:=Zr c5 hs0_
    refine zQ [4] ?_
    refine zW ?_
    exact zEy hs0_
   replace hs0_:=Zq c5 hs0_
   refine zKd [0,1,5] [] ?_
   refine zR ?_
   exact zEn hs0_
  replace hs0_:=Zq c6 hs0_
  exact zEx hs0_
 rcases z7 with z7 | z7
 ·dsimp only [K7] at hw h
  refine Uy hw ?_
  try simp only [Xe,Yn,↓reduceIte,Nat.reduceEqDiff]
  exact Zre [.val (.bool false)]
 dsimp only [K7] at hw h
 refine Y8 hw ?_
 try simp only [Xe,Yn,↓reduceIte,Nat.reduceEqDiff]
 refine zD [] [] ?_
 refine zQ [4] ?_
 exact Xf [.val (.bool true)]
def Zkc (Vs:(S_api_Tree→S_api_Tree→Option Bool)):Prop:=∀ {a0:S_api_Tree} {a1:S_api_Tree} {r:Bool} {O:Objs} {n:Nat},Vs a0 a1=some r→GTo Try.prog 23 [.agg (Zi a0),.agg (Zi a1)] O n (.val (.bool r)) O n
theorem Zt9 {Vs:(S_api_Tree→S_api_Tree→Option Bool)} (Zr2:Zkc Vs) {a0:S_api_Tree} {a1:S_api_Tree} {r:Bool} {O:Objs} {n:Nat} (h:Zb5 Vs a0 a1=some r):GTo Try.prog 23 [.agg (Zi a0),.agg (Zi a1)] O n (.val (.bool r)) O n:=by
 unfold Zb5 at h
 refine zFn Try.call23 Try.func23 fun hU hN0 hN => ?_
 show W _ _ _ _ ⟨47,[],[(0,.agg (Zi a0)),(1,.agg (Zi a1))]⟩ (Zu O n []) _
 refine zQ [2,3] ?_
 refine Zk ?_
 obtain ⟨z2,hz2,h⟩:=bC h
 refine Xw (E':=⟨47,[],[(2,.ref n 0),(3,.ref (n+1) 0),(27,.val (.bool z2))]⟩) (O':=(Zu O n [some ⟨false,25,3,1,(Zi a0)⟩,some ⟨false,25,3,1,(Zi a1)⟩])) (n0:=(n+2)) ?_ ?_
 ·rcases Bool.eq_false_or_eq_true (a0.Kind != a1.Kind) with c5 | c5
  ·replace hz2:=Zr c5 hz2
   refine Zcy [some false,some false,some false,some false,some false,some false,some false,some false,some false,some false,some false,some false,some false] c5 ?_
   exact Zbd hz2 c5
  replace hz2:=Zq c5 hz2
  obtain ⟨y4,hy4,hz2⟩:=bC hz2
  refine Zcy [some true,some true,some true,some true,some true,some true,none,none,none,none,none,none,none] c5 ?_
  refine zG ?_
  refine (Zuw hy4).then ?_
  refine zX1 c5 ?_
  refine zG ?_
  exact Zbd hz2 c5
 refine Zn (t:=z2) rfl (fun c15 => ?_) (fun c15 => ?_)
 ·replace h:=Zr c15 h
  refine zQ [4] ?_
  exact Xf [.val (.bool false)]
 replace h:=Zq c15 h
 refine zKd [2,3] [true,true] ?_
 refine Zk ?_
 refine zQd [2,3,5] [2,3,5] [true,true] ?_
 obtain ⟨z14,hz14,h⟩:=bC h
 refine Zeg (J:=(K7 (fun z14=>JR n (⟨47,[],[(4,.val (.bool false))]⟩:Env) (Zu O n [none,none]) (n+2)) (fun z14=>JX 0 n (⟨47,[],[]⟩:Env) (Zu O n [none,none]) (n+2)))) (z:=z14) ?_ fun hw => ?_
 ·refine Xq hz14 (fun s0_=>⟨47,[],[(2,.ref n 0),(3,.ref (n+1) 0),(5,.val (.int .i64 s0_))]⟩) (fun s0_=>(Zu O n [some ⟨false,25,3,1,(Zi a0)⟩,some ⟨false,25,3,1,(Zi a1)⟩])) (K7 (fun z14=>JR n (⟨47,[],[(4,.val (.bool false))]⟩:Env) (Zu O n [none,none]) (n+2)) (fun z14=>JX 0 n (⟨47,[],[]⟩:Env) (Zu O n [none,none]) (n+2))) ?_
  intro s0_ x0_ hs0_
  unfold G9 at hs0_
  try dsimp only
  refine Zk ?_
  refine zQ [2,3,5,32] ?_
  refine Zn (t:=(decide (s0_ < (a0.Kids.length:Int)))) rfl (fun c13 => ?_) (fun c13 => ?_)
  ·replace hs0_:=Zr c13 hs0_
   refine zKd [2,3,5] [true,true] ?_
   refine Zk ?_
   refine Yy ?_
   refine Zk ?_
   obtain ⟨x9,hx9,ax9,bx9,cx9,hs0_⟩:=bE (f:=Za) Gq (fun _=>rfl) (by decide) hs0_
   obtain ⟨x10,hx10,ax10,bx10,cx10,hs0_⟩:=bE (f:=Za) Gq (fun _=>rfl) (by decide) hs0_
   obtain ⟨y11,hy11,hs0_⟩:=bC hs0_
   refine Vg Zy (by kernel_rfl) [] (by kernel_rfl) ?_
   refine zF6 ax9 bx9 cx9 ax10 bx10 cx10 ?_
   refine PCall.of (Zr2 hy11) ?_
   refine zF6 ax9 bx9 cx9 ax10 bx10 cx10 ?_
   refine zD [2,3,5,46] [true,true] ?_
   refine Zn (t:=(!y11)) rfl (fun c12 => ?_) (fun c12 => ?_)
   ·replace hs0_:=Zr c12 hs0_
    refine zQ [4] ?_
    refine zW ?_
    exact zEy hs0_
   replace hs0_:=Zq c12 hs0_
   refine zKd [2,3,5] [true,true] ?_
   refine zR ?_
   exact zEn hs0_
  replace hs0_:=Zq c13 hs0_
  exact zEx hs0_
 rcases z14 with z14 | z14
 ·dsimp only [K7] at hw h
  refine Uy hw ?_
  try simp only [Xe,Yn,↓reduceIte,Nat.reduceEqDiff]
  exact Zre [.val (.bool false)]
 dsimp only [K7] at hw h
 refine Y8 hw ?_
 try simp only [Xe,Yn,↓reduceIte,Nat.reduceEqDiff]
 refine zD [] [false,false] ?_
 refine zQ [4] ?_
 exact Xf [.val (.bool true)]
theorem Zra:∀ k,(Zkc (Ub k)):=fun k=>by
 induction k with
 | zero=>exact @fun a0 a1 r O n h=>(nomatch (show (none:Option _)=some _ from h))
 | succ k ih=>exact @fun a0 a1 r O n h=>Zt9 (ih)  h
theorem Zmp {a0:S_api_Tree} {a1:S_api_Tree} {r:Bool} {O:Objs} {n:Nat} (h:Zil a0 a1=some r):GTo Try.prog 23 [.agg (Zi a0),.agg (Zi a1)] O n (.val (.bool r)) O n:=by
 obtain ⟨k,hk⟩:=Zcr h
 exact (Zra k)  hk
theorem Zpx {a0:S_api_Edit} {a1:S_api_Edit} {a2:S_api_Tree} {r:Bool} {O:Objs} {n:Nat} (h:Zba a0 a1 a2=some r):GTo Try.prog 7 [.agg (Ze a0),.agg (Ze a1),.agg (Zi a2)] O n (.val (.bool r)) O n:=by
 unfold Zba at h
 refine zFn Try.call7 Try.func7 fun hU hN0 hN => ?_
 show W _ _ _ _ ⟨83,[],[(0,.agg (Ze a0)),(1,.agg (Ze a1)),(2,.agg (Zi a2))]⟩ (Zu O n []) _
 refine zQ [3,4,5] ?_
 refine Zk ?_
 obtain ⟨z4,hz4,h⟩:=bC h
 refine Xw (E':=⟨83,[],[(3,.ref n 0),(4,.ref (n+1) 0),(5,.ref (n+2) 0),(27,.val (.bool z4))]⟩) (O':=(Zu O n [some ⟨false,30,11,1,(Ze a0)⟩,some ⟨false,30,11,1,(Ze a1)⟩,some ⟨false,25,3,1,(Zi a2)⟩])) (n0:=(n+3)) ?_ ?_
 ·obtain ⟨y8,hy8,hz4⟩:=bC hz4
  rcases Bool.eq_false_or_eq_true y8 with c11 | c11
  ·replace hz4:=Zr c11 hz4
   obtain ⟨y9,hy9,hz4⟩:=bC hz4
   rcases Bool.eq_false_or_eq_true y9 with c12 | c12
   ·replace hz4:=Zr c12 hz4
    try rw [c12] at c11
    obtain ⟨y10,hy10,hz4⟩:=bC hz4
    refine Zau [some true,some true,some true,some true,some true,some true] c11 c12 ?_
    refine (Gz hy8).then ?_
    refine zX2 c11 c12 ?_
    refine (Gz hy9).then ?_
    refine zX2 c11 c12 ?_
    refine (Zwz hy10).then ?_
    refine zX2 c11 c12 ?_
    exact Zln hz4 c11 c12
   replace hz4:=Zq c12 hz4
   try rw [c12] at c11
   refine Zau [some true,some true,some true,some false,some false,some false] c11 c12 ?_
   refine (Gz hy8).then ?_
   refine zX2 c11 c12 ?_
   refine (Gz hy9).then ?_
   refine zX2 c11 c12 ?_
   exact Zln hz4 c11 c12
  replace hz4:=Zq c11 hz4
  refine Zcy [some false,some false,some false,some false,some false,some false] c11 ?_
  refine (Gz hy8).then ?_
  refine zX1 c11 ?_
  exact Zbd hz4 c11
 refine Zn (t:=z4) rfl (fun c51 => ?_) (fun c51 => ?_)
 ·replace h:=Zr c51 h
  refine Zk ?_
  obtain ⟨y14,hy14,h⟩:=bC h
  refine zCd (Zio hy14) [6] [false,false,false] ?_
  exact Xf [.val (.bool y14)]
 replace h:=Zq c51 h
 refine zKd [3,4,5] [true,true,true] ?_
 refine Zk ?_
 obtain ⟨y16,hy16,h⟩:=bC h
 refine zCd (Zd4 hy16) [3,4,5,7,8] [true,true,true,true] ?_
 refine Zk ?_
 obtain ⟨y20,hy20,h⟩:=bC h
 obtain ⟨y21,hy21,h⟩:=bC h
 obtain ⟨y22,hy22,h⟩:=bC h
 refine Ki Zy (by kernel_rfl) [.low,.low,.low,.low,.low,.plain,.plain,.plain,.pass,.bar,.plain] (fun i=>i < (n+4)) [0,1,2,3,4,5,6,7,8,9,10] [.low,.low,.low,.low,.low,.plain,.plain,.plain,.pass,.bar,.plain] [] (by kernel_rfl) rfl ?_
 refine zS ?_
 refine zO ?_
 first | refine PCallA.of (fun _ _=>Kh hy20) ?_ | refine PCall.of (Kh hy20) ?_
 refine zS ?_
 refine zO ?_
 first | refine PCallA.of (fun _ _=>Kh hy21) ?_ | refine PCall.of (Kh hy21) ?_
 refine zS ?_
 refine zO ?_
 first | refine PCallA.of (fun _ _=>Zd4 hy22) ?_ | refine PCall.of (Zd4 hy22) ?_
 refine zS ?_
 refine zO ?_
 refine zDs [5,7,8,9,10] [false,false,true,true,true] ?_
 refine zQ [5,7,8,9,45] ?_
 refine Zn (t:=(y16.2 != y22.2)) rfl (fun c50 => ?_) (fun c50 => ?_)
 ·replace h:=Zr c50 h
  refine zQ [6] ?_
  exact Xf [.val (.bool false)]
 replace h:=Zq c50 h
 refine zKd [5,7,8,9] [false,false,true,true,true] ?_
 refine Zk ?_
 obtain ⟨z25,hz25,h⟩:=bC h
 refine Xw (E':=⟨83,[],[(5,.ref (n+2) 0),(7,.ref (n+3) 0),(9,.ref (n+4) 0),(57,.val (.bool z25))]⟩) (O':=(Zu O n [none,none,some ⟨false,25,3,1,(Zi a2)⟩,some ⟨false,30,11,1,(Ze y16.1)⟩,some ⟨false,30,11,1,(Ze y22.1)⟩])) (n0:=(n+5)) ?_ ?_
 ·rcases Bool.eq_false_or_eq_true y16.2 with c30 | c30
  ·replace hz25:=Zr c30 hz25
   obtain ⟨y28,hy28,hz25⟩:=bC hz25
   rcases Bool.eq_false_or_eq_true y28 with c31 | c31
   ·replace hz25:=Zr c31 hz25
    try rw [c31] at c30
    obtain ⟨y29,hy29,hz25⟩:=bC hz25
    refine Zau [some true,some true,some true,some true,some true,some true] c30 c31 ?_
    refine (Zjc hy28).then ?_
    refine zX2 c30 c31 ?_
    refine (Zjc hy29).then ?_
    refine zX2 c30 c31 ?_
    exact Zln hz25 c30 c31
   replace hz25:=Zq c31 hz25
   try rw [c31] at c30
   refine Zau [some true,some true,some true,some false,some false,some false] c30 c31 ?_
   refine (Zjc hy28).then ?_
   refine zX2 c30 c31 ?_
   exact Zln hz25 c30 c31
  replace hz25:=Zq c30 hz25
  refine Zcy [some false,some false,some false,some false,some false,some false] c30 ?_
  exact Zbd hz25 c30
 refine Zn (t:=z25) rfl (fun c49 => ?_) (fun c49 => ?_)
 ·replace h:=Zr c49 h
  refine Zk ?_
  obtain ⟨y33,hy33,h⟩:=bC h
  refine zCd (Zio hy33) [6] [false,false,false,false,false] ?_
  exact Xf [.val (.bool y33)]
 replace h:=Zq c49 h
 refine zKd [5,7,9] [false,false,true,true,true] ?_
 refine Zk ?_
 obtain ⟨y36,hy36,h⟩:=bC h
 obtain ⟨y37,hy37,h⟩:=bC h
 refine Ki Zy (by kernel_rfl) [.low,.low,.low,.low,.plain,.plain,.plain,.pass,.bar,.plain] (fun i=>i < (n+5)) [0,1,2,3,4,5,6,7,8,9] [.low,.low,.low,.low,.plain,.plain,.plain,.pass,.bar,.plain] [] (by kernel_rfl) rfl ?_
 refine zS ?_
 refine zO ?_
 first | refine PCallA.of (fun _ _=>Kh hy36) ?_ | refine PCall.of (Kh hy36) ?_
 refine zS ?_
 refine zO ?_
 first | refine PCallA.of (fun _ _=>V7 hy37) ?_ | refine PCall.of (V7 hy37) ?_
 refine zS ?_
 refine zO ?_
 refine zDs [5,9,11,12] [false,false,true,false,true,true] ?_
 obtain ⟨y39,hy39,h⟩:=bC h
 refine zCd (V7 hy39) [11,12,13,14] [false,false,false,false,false,true,true] ?_
 obtain ⟨z42,hz42,h⟩:=bC h
 refine Xw (E':=⟨83,[],[(6,.val (.bool z42))]⟩) (O':=(Zu O n [none,none,none,none,none,none,none])) (n0:=(n+7)) ?_ ?_
 ·rcases Bool.eq_false_or_eq_true (y37.2 == y39.2) with c47 | c47
  ·replace hz42:=Zr c47 hz42
   all_goals
    obtain ⟨y45,hy45,hz42⟩:=bC hz42
    rcases Bool.eq_false_or_eq_true y45 with c48 | c48
    ·replace hz42:=Zr c48 hz42
     try rw [c48] at c47
     obtain ⟨y46,hy46,hz42⟩:=bC hz42
     refine Zau [some true,some true,some true,some true] c47 c48 ?_
     refine (Zmp hy45).then ?_
     refine zX2 c47 c48 ?_
     refine (Zio hy46).then ?_
     refine zX2 c47 c48 ?_
     exact Zln hz42 c47 c48
    replace hz42:=Zq c48 hz42
    try rw [c48] at c47
    refine Zau [some true,some true,some true,some false] c47 c48 ?_
    refine (Zmp hy45).then ?_
    refine zX2 c47 c48 ?_
    exact Zln hz42 c47 c48
  replace hz42:=Zq c47 hz42
  all_goals
   refine Zcy [some false,some false,some false,some false] c47 ?_
   exact Zbd hz42 c47
 exact Xf [.val (.bool z42)]
end Go.Proofs.Ytbjcopkgdjombaa
