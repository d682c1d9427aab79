/- Part NM6 of this seat's mirrors: functions of the seat's program, and the plain functions that they are; each theorem bears its own conditions. -/
import Derived.Test.YtbjcopkgdjombaaND
import Derived.Test.YtbjcopkgdjombaaNM4
namespace Go.Proofs.Ytbjcopkgdjombaa
open Go.RowKit
set_option linter.unusedVariables false
set_option linter.unusedSimpArgs false
set_option maxRecDepth 100000
set_option maxHeartbeats 4000000
attribute [local push_cast] Try.results118 Try.results129 Try.results130 Try.results134 Try.results83 X8 Ze Y5 Yw Zi Xb Znl Znk Zn7 Zn6 Xf Yn Zjx Ze1 Ze0 onW Qm Zez Zeo Zqt Zpc Zhx Zh1 Zhw Zh0 Zkr Zko Zhz Zkq Zkp Zhy Zkm Zft evS wok K3 Op.operands Call.operands gop onK onP atK List.all_cons List.all_nil Bool.and_true Bool.true_and Bool.and_self Value.oneCell' List.take_zero List.take_succ_cons List.take_nil List.drop_zero List.drop_succ_cons List.drop_nil List.append_nil Nat.add_zero Nat.zero_add Za2 Yt ev Vz Zf7 Znd Znc Zni Zng Znh Zne Znf Znb Ztu Zuf Zwl Zi7 Zcp Zjv Zef Zhj Zgy Zc0 Zc5 Zex Zeu Zc3 Zew Zev Zc2 Zes Zc1 Zc4 Zb7 Zet Zpr Ze2 Zax Zif Zay Zln Zi5 Zvk bLo bHi bMx Zcq Zlm Zyh Zi4 Zmf Zf9 Gc Zrc Zyi Zid Zyj Zco Zzw Zj0 Zj4 Zjz Zj3 Znx Znu Zns Zhl Zj1 Znw Znv Zj2 Znt Zm3 gone Zki Zfl Zfk pop TK.isAgg Zn1 Zn5 Zn0 Zn4 Zkd Zr2 Zry Zn3 Zr1 Zr0 Zn2 Zrx G.under G.unders List.getD_cons_zero List.getD_cons_succ List.set_cons_zero List.set_cons_succ List.map_cons List.map_nil List.toList_toArray Array.toList_append Option.toArray_none Option.toArray_some Array.toList_map Option.map_some Option.map_none Option.bind_some Option.bind_none List.getElem?_cons_zero List.getElem?_cons_succ List.getElem?_nil List.nil_append List.cons_append List.replicate_succ List.replicate_zero List.length_cons List.length_nil and_true true_and and_false false_and Bool.true_eq_false Bool.false_eq_true forall_const false_implies implies_true IntKind.bits if_true if_false ite_true ite_false eq_self true_implies false_or or_false or_true true_or not_true_eq_false not_false_eq_true decide_true decide_false decide_eq_true_eq decide_eq_false_iff_not beq_iff_eq bne_iff_ne ne_eq Bool.not_eq_true Bool.not_eq_false beq_eq_false_iff_ne bne_eq_false_iff_eq beq_self_eq_true bne_self_eq_false Option.some.injEq exists_eq_left' exists_eq_left ge_iff_le gt_iff_lt decide_not Bool.not_true Bool.not_false imp_self Zrd cond_true cond_false Z3x Z3w Bool.not_not Bool.and_false Bool.false_and Bool.or_true Bool.true_or Bool.or_false Bool.false_or Uy Zan Us K8 Y2 Yk Option.join_some Nat.add_assoc Int.toNat_natCast eI eB eS eL Y8 Zf8 Zc6 Zno Znm Znn Z0l Z1c Zgc Zdc Zod Zob Zoc Zww Zp5 Zt4 Zog Zvc Zd9 Zp6 List.length_append G.agg.injEq G.row.injEq G.ref.injEq G.val.injEq G.sl.injEq G.tup.injEq Value.int.injEq Value.bool.injEq Value.string.injEq List.cons.injEq exists_and_left exists_const List.flatten_cons List.flatten_nil Int.le_refl Nat.le_refl X5 Yl Yp Bool.not_eq_true' Bool.not_eq_false' Zpb Zit Ztb Ztf Zta Zte Zyf Zyb List.size_toArray Zr4 Zqy G.ren G.rens Zur Zg5 Zof Zm9 Zna Zkn Ztg Zei G.fn.injEq Zlj Zlk Zpa Zyc Zli Ztd Zye Zyd Ztc Zrh Zxf Option.join_none Yb Gj undef Zmi Arr.len Arr.put_eq Zgb Zhq Zfh Zdb Zoa Zn8 Zn9 onB Z0k Zrb Zkl Zji Zjj Zjk Zjl Zjm Zjn Zhm Zht Zhr Zfj Zdd Zhs Zkh Zkg Zkf Zke Z1b Z25 Zwv Zvx Vs Zwm Zrk Zhu Zfi Zyq Zqz Zi3 Zmc Zen Ziq Zjo Zjp Zjq Zjr Zg9 Zha Zhb Zhc Zhd Zhe Zhf Zhg prT Ze3 Z43 Zs0 Z0y Zs1 Z44 Zs2 Zw4 Zs3 Z45 Zs4 Z46 Zs5 Z47 Zs6 Z48 Zs7 Zxk Zoh Zxl Zoi Zxm Zoj Zxn Zok Zxo Zol Zxp Zom Zxq Zon Zxr Zoo Zxs Zop Zxt Zoq Zxu Zor Zxv Zl4 Zt8 Zcl Zxw Zos Gr Zot Zxx Zgv Zxy Zgw Zxz Zl5 Zx0 Zou Zq1 Zov Zi1 Zow Zx1 Zox Zfu Zoy Zx2 Zoz Zdh Zo0 Zx3 Zo1 Zdi Zo2 Zt9 Zl6 Zx4 Zo3 Zx5 Zo4 Zx6 Zo5 Zv7 Zo6 Zx7 Zo7 Zx8 Zo8 Zr9 Zkt Zsa Zku Zsb Zkv Zsc Zkw Zsd Zkx Zse Zky Zsf Zkz Zsg Zk0 Zsh Zk1 Zsi Zk2 Zsj Zk3 Zsk Zk4 Zsl Zk5 Zsm Zk6 Zsn Zk7 Zso Zk8 Zsp Zk9 Zsq Zla Zsr Zlb Zss Zlc Zst Zld Zsu Zle Zsv Zlf Zsw Zlg Zsx Zlh Za Z5 Zfz Zfy Ze4 Zff Zf2 Zdk Zdg Zdf Zfv Uq Up Uf Ul Ur Vx Vw Vv Uo Zb Xp Zc Zd Yz Y4 Z9 J8 J5 Jm Jq Kb Q2 Qy Qv Jy Kv Kt Kk Ko Kx J3 Jw Ju Kr Zak Zaj Zad Zah Zal Gg Gf Ge Zai Zh4 Zh3 Zhk Zho Zh5 Zfx Zfq Zfp Zh2 Z4 Q5 Q4 Qr Qt Q6 Ql Qk Qj Q0 Z7 J9 J6 Jn Jr Kc Q3 Qz Qw Jz Z6 J7 J4 Jl Jp Ka Q1 Qx Qu Jx Zw Ku Ks Kj Km Kw J0 Jv Jt Kq
theorem Z07 {a0:S_api_Op} {r:Int} {O:Objs} {n:Nat} (h:Zik a0=some r):GTo Try.prog 134 [.agg (Yw a0)] O n (.val (.int .i64 r)) O n:=by
 unfold Zik at h
 refine zFn Try.call134 Try.func134 fun hU hN0 hN => ?_
 show W _ _ _ _ ⟨15,[],[(0,.agg (Yw a0))]⟩ (Zu O n []) _
 refine zQ [1] ?_
 refine Zj ?_
 refine zQ [1,4] ?_
 refine Yy ?_
 refine zQ [1,4,5] ?_
 refine Zn (t:=(a0.Kind == 0)) rfl (fun c4 => ?_) (fun c4 => ?_)
 ·replace h:=Zq c4 h
  refine zQ [2] ?_
  exact Xe [.val (.int .i64 a0.N)]
 replace h:=Zp c4 h
 obtain ⟨z1,hz1,h⟩:=bC h
 refine Xt (E':=⟨15,[],[(1,.ref n 0),(9,.val (.bool z1))]⟩) (O':=(Zu O n [some ⟨false,53,14,1,(Yw a0)⟩])) (n0:=(n+1)) ?_ ?_
 ·refine zQ [1,4,9] ?_
  refine Zn (t:=(a0.Kind == 1)) rfl (fun c2 => ?_) (fun c2 => ?_)
  ·replace hz1:=Zq c2 hz1
   refine zK ?_
   exact zEn hz1
  replace hz1:=Zp c2 hz1
  refine zR ?_
  exact zEn hz1
 refine Zn (t:=z1) rfl (fun c3 => ?_) (fun c3 => ?_)
 ·replace h:=Zq c3 h
  refine zQ [2] ?_
  exact Xe [.val (.int .i64 (a0.L.length:Int))]
 replace h:=Zp c3 h
 refine zKd [] [false] ?_
 refine zQ [2] ?_
 exact Xe [.val (.int .i64 1)]
theorem Zkb {a0:Y0} {r:(Int×Int×Y0)} {O:Objs} {n:Nat} {i0:Nat} (hi0:i0 < n) (ho0:O i0=some ⟨false,140,2,1,[.sl a0.left.length (fl Zc a0.left),.val (.int .i64 a0.gone)]⟩) (h:Ym a0=some r):GTo Try.prog 129 [.ref i0 0] O n (.tup [.val (.int .i64 r.1),.val (.int .i64 r.2.1)]) (Zu (O.upd i0 (some ⟨false,140,2,1,[.sl r.2.2.left.length (fl Zc r.2.2.left),.val (.int .i64 r.2.2.gone)]⟩)) n []) (n+0):=by
 unfold Ym at h
 refine Zqs Zz Try.call129 Try.func129 rfl (Nat.le_of_ble_eq_true rfl) (by omega) fun hU => ?_
 rw [show Zu O n []=Zu (O.upd i0 (some ⟨false,140,2,1,[.sl a0.left.length (fl Zc a0.left),.val (.int .i64 a0.gone)]⟩)) n [] from by rw [Z5d (show O i0=_ from by exact ho0)]]
 have hk0:∀ k,i0 < n+k:=fun k=>by omega
 have hN0:∀ o,Objs.upd O i0 o n=none:=fun o=>Kf hU hi0 _ (Nat.le_refl _)
 have hN:∀ o k,Objs.upd O i0 o (n+k)=none:=fun o k=>Kf hU hi0 _ (Nat.le_add_right _ _)
 show W _ _ _ _ ⟨44,[],[(0,.ref i0 0)]⟩ (Zu (O.upd i0 (some ⟨false,140,2,1,[.sl a0.left.length (fl Zc a0.left),.val (.int .i64 a0.gone)]⟩)) n []) _
 refine Zdv [0] hi0 hk0 ?_
 refine Zj ?_
 refine zD [0] [] ?_
 obtain ⟨z12,hz12,h⟩:=bC h
 refine Zee (J:=(K5 (fun z12=>JR n (⟨44,[],[(2,.val (.int .i64 z12.1)),(3,.val (.int .i64 z12.2.1))]⟩:Env) (Zu (O.upd i0 (some ⟨false,140,2,1,[.sl z12.2.2.1.length (fl Zc z12.2.2.1),.val (.int .i64 z12.2.2.2)]⟩)) n []) n) (fun z12=>JX 0 n (⟨44,[],[]⟩:Env) (Zu (O.upd i0 (some ⟨false,140,2,1,[.sl z12.1.length (fl Zc z12.1),.val (.int .i64 z12.2)]⟩)) n []) n))) (z:=z12) ?_ fun hw => ?_
 ·refine Xr hz12 (fun s0_=>⟨44,[],[(0,.ref i0 0)]⟩) (fun s0_=>(Zu (O.upd i0 (some ⟨false,140,2,1,[.sl s0_.1.length (fl Zc s0_.1),.val (.int .i64 s0_.2)]⟩)) n [])) (K5 (fun z12=>JR n (⟨44,[],[(2,.val (.int .i64 z12.1)),(3,.val (.int .i64 z12.2.1))]⟩:Env) (Zu (O.upd i0 (some ⟨false,140,2,1,[.sl z12.2.2.1.length (fl Zc z12.2.2.1),.val (.int .i64 z12.2.2.2)]⟩)) n []) n) (fun z12=>JX 0 n (⟨44,[],[]⟩:Env) (Zu (O.upd i0 (some ⟨false,140,2,1,[.sl z12.1.length (fl Zc z12.1),.val (.int .i64 z12.2)]⟩)) n []) n)) ?_
  intro s0_ x0_ hs0_
  unfold Kg at hs0_
  try dsimp only
  refine Zj ?_
  refine Zdv [0,10] hi0 hk0 ?_
  refine Zn (t:=(decide (0 < (s0_.1.length:Int)))) rfl (fun c11 => ?_) (fun c11 => ?_)
  ·replace hs0_:=Zq c11 hs0_
   refine zKd [0] [] ?_
   refine Yy ?_
   refine Zj ?_
   refine Zj ?_
   obtain ⟨x3,hx3,ax3,bx3,cx3,hs0_⟩:=bE (f:=Zc) Zdh (fun _=>rfl) (by decide) hs0_
   obtain ⟨y4,hy4,hs0_⟩:=bC hs0_
   refine Vh Zz (by kernel_rfl) [] (by kernel_rfl) ?_
   refine zF5 ax3 bx3 cx3 hi0 hk0 ?_
   refine PCall.of (Z07 hy4) ?_
   refine zF5 ax3 bx3 cx3 hi0 hk0 ?_
   refine zD [0,4] [] ?_
   refine Zdv [0,4,24] hi0 hk0 ?_
   refine Zn (t:=(decide (0 < (IntKind.i64.wrap (y4 - s0_.2))))) rfl (fun c10 => ?_) (fun c10 => ?_)
   ·replace hs0_:=Zq c10 hs0_
    obtain ⟨x7,hx7,ax7,bx7,cx7,hs0_⟩:=bE (f:=Zc) Zdh (fun _=>rfl) (by decide) hs0_
    have g8:=Zzx (f:=Zc) (sz:=14) Z0y (fun _=>rfl) (by decide) (by decide) hx7
    refine Zuc [2,3] (Xa Zz [] ?_)
    refine zF6 ax7 bx7 cx7 g8 hi0 hk0 ?_
    refine zW ?_
    have hs0_:=Option.some.inj hs0_;subst hs0_
    refine And.intro (fun h=>by cases h) (And.intro rfl (Fit2.of (Ya hU rfl rfl ?_) (by omega)))
    exact Ve hi0 hk0
   replace hs0_:=Zp c10 hs0_
   refine zKd [0] [] ?_
   obtain ⟨l9,al9,bl9,cl9,gl9,hs0_⟩:=bS (lo:=(some (.i64,1))) (hi:=none) (f:=Zc) rfl rfl Zl5 Zdh (fun _=>rfl) hs0_
   refine Ybt [] al9 bl9 cl9 gl9 hi0 hk0 ?_
   have hs0_:=Option.some.inj hs0_;subst hs0_
   refine And.intro rfl (Fit2.of (Ya hU rfl rfl ?_) (by omega))
   exact Ygd al9 bl9 cl9 gl9 hi0 hk0
  replace hs0_:=Zp c11 hs0_
  refine zXt ?_
  have hs0_:=Option.some.inj hs0_;subst hs0_
  refine And.intro (fun h=>by cases h) (And.intro rfl (Fit2.of (Ya hU rfl rfl ?_) (by omega)))
  exact Ve hi0 hk0
 rcases z12 with z12 | z12
 ·dsimp only [K5] at hw h
  refine Uz hw ?_
  try simp only [Xf,Yn,↓reduceIte,Nat.reduceEqDiff]
  have h:=Option.some.inj h;subst h
  refine Vk (k:=0) (i:=i0) (q1:=⟨false,140,2,1,[.sl z12.2.2.1.length (fl Zc z12.2.2.1),.val (.int .i64 z12.2.2.2)]⟩) (L3:=[none]) (E2:=(⟨44,[],[(2,.val (.int .i64 z12.1)),(3,.val (.int .i64 z12.2.1))]⟩:Env)) (n3:=(n+1)) (.inr rfl) hU rfl [.val (.int .i64 z12.1),.val (.int .i64 z12.2.1)] ?_ ?_
  ·refine Fit2.trans (E':=(⟨44,[],[(2,.val (.int .i64 z12.1)),(3,.val (.int .i64 z12.2.1))]⟩:Env)) (O':=(Zu (O.upd i0 (some ⟨false,140,2,1,[.sl z12.2.2.1.length (fl Zc z12.2.2.1),.val (.int .i64 z12.2.2.2)]⟩)) n [])) (n':=n) (Fit2.of (Ya hU rfl rfl ?_) (by omega)) ?_
   ·exact Ve hi0 hk0
   refine Qq (k:=0) (k':=1) hU [] [0] rfl rfl rfl rfl ⟨rfl,rfl⟩ ?_
   exact Ve hi0 hk0
  simp only [push_cast,seval,↓reduceIte,Zk,Try.results129,hi0,hk0,hN0,hN]
 dsimp only [K5] at hw h
 refine Y9 hw ?_
 try simp only [Xf,Yn,↓reduceIte,Nat.reduceEqDiff]
 refine zD [] [] ?_
 refine Zdv [2,3] hi0 hk0 ?_
 refine zW ?_
 have h:=Option.some.inj h;subst h
 refine Vk (k:=0) (i:=i0) (q1:=⟨false,140,2,1,[.sl z12.1.length (fl Zc z12.1),.val (.int .i64 z12.2)]⟩) (L3:=[none]) (E2:=(⟨44,[],[(2,.val (.int .i64 0)),(3,.val (.int .i64 0))]⟩:Env)) (n3:=(n+1)) (.inr rfl) hU rfl [.val (.int .i64 0),.val (.int .i64 0)] ?_ ?_
 ·refine Fit2.trans (E':=(⟨44,[],[(2,.val (.int .i64 0)),(3,.val (.int .i64 0))]⟩:Env)) (O':=(Zu (O.upd i0 (some ⟨false,140,2,1,[.sl z12.1.length (fl Zc z12.1),.val (.int .i64 z12.2)]⟩)) n [])) (n':=n) (Fit2.of (Ya hU rfl rfl ?_) (by omega)) ?_
  ·exact Ve hi0 hk0
  refine Qq (k:=0) (k':=1) hU [] [0] rfl rfl rfl rfl ⟨rfl,rfl⟩ ?_
  exact Ve hi0 hk0
 simp only [push_cast,seval,↓reduceIte,Zk,Try.results129,hi0,hk0,hN0,hN]
theorem Zcb {a0:Y0} {a1:Int} {r:(S_api_Op×Y0)} {O:Objs} {n:Nat} {i0:Nat} (hi0:i0 < n) (ho0:O i0=some ⟨false,140,2,1,[.sl a0.left.length (fl Zc a0.left),.val (.int .i64 a0.gone)]⟩) (h:Kl a0 a1=some r):GTo Try.prog 130 [.ref i0 0,.val (.int .i64 a1)] O n (.agg (Yw r.1)) (Zu (O.upd i0 (some ⟨false,140,2,1,[.sl r.2.left.length (fl Zc r.2.left),.val (.int .i64 r.2.gone)]⟩)) n []) (n+0):=by
 unfold Kl at h
 refine Zqs Zz Try.call130 Try.func130 rfl (Nat.le_of_ble_eq_true rfl) (by omega) fun hU => ?_
 rw [show Zu O n []=Zu (O.upd i0 (some ⟨false,140,2,1,[.sl a0.left.length (fl Zc a0.left),.val (.int .i64 a0.gone)]⟩)) n [] from by rw [Z5d (show O i0=_ from by exact ho0)]]
 have hk0:∀ k,i0 < n+k:=fun k=>by omega
 have hN0:∀ o,Objs.upd O i0 o n=none:=fun o=>Kf hU hi0 _ (Nat.le_refl _)
 have hN:∀ o k,Objs.upd O i0 o (n+k)=none:=fun o k=>Kf hU hi0 _ (Nat.le_add_right _ _)
 show W _ _ _ _ ⟨50,[],[(0,.ref i0 0),(1,.val (.int .i64 a1))]⟩ (Zu (O.upd i0 (some ⟨false,140,2,1,[.sl a0.left.length (fl Zc a0.left),.val (.int .i64 a0.gone)]⟩)) n []) _
 refine Zdv [0,1,4] hi0 hk0 ?_
 refine Zj ?_
 obtain ⟨x2,hx2,ax2,bx2,cx2,h⟩:=bE (f:=Zc) Zdh (fun _=>rfl) (by decide) h
 refine Z8a [] ax2 bx2 cx2 hi0 hk0 ?_
 refine zD [0,1,4,5] [true,true] ?_
 obtain ⟨z3,hz3,h⟩:=bC h
 refine Xt (E':=⟨50,[],[(0,.ref i0 0),(1,.val (.int .i64 a1)),(4,.ref n 0),(5,.ref (n+1) 0)]⟩) (O':=(Zu (O.upd i0 (some ⟨false,140,2,1,[.sl a0.left.length (fl Zc a0.left),.val (.int .i64 a0.gone)]⟩)) n [some ⟨false,53,14,1,[.val (.int .i64 0),.val (.int .i64 0),.val (.slice none 0 0),.val (.int .i64 0),.val (.int .i64 0),.val (.slice none 0 0),.val (.slice none 0 0),.val (.int .i64 0),.val (.slice none 0 0),.val (.slice none 0 0),.val (.slice none 0 0),.val (.slice none 0 0),.val (.int .i64 0),.val (.slice none 0 0)]⟩,some ⟨false,53,14,1,[.val (.int .i64 x2.Kind),.val (.int .i64 z3.1),.sl z3.2.length (fl Za z3.2),.val (.int .i64 x2.E.Kind),.val (.int .i64 x2.E.Old.Kind),.sl x2.E.Old.Words.length (fl (eI .u64) x2.E.Old.Words),.sl x2.E.Old.Kids.length (fl Za x2.E.Old.Kids),.val (.int .i64 x2.E.New.Kind),.sl x2.E.New.Words.length (fl (eI .u64) x2.E.New.Words),.sl x2.E.New.Kids.length (fl Za x2.E.New.Kids),.sl x2.E.Words.length (fl Zb x2.E.Words),.sl x2.E.Kids.length (fl Zd x2.E.Kids),.val (.int .i64 x2.E.List_),.sl x2.E.Ops.length (fl Zc x2.E.Ops)]⟩])) (n0:=(n+2)) ?_ ?_
 ·refine Zdv [0,1,4,5,13] hi0 hk0 ?_
  refine Yy ?_
  refine Zdv [0,1,4,5,13,14] hi0 hk0 ?_
  refine Zn (t:=(x2.Kind == 0)) rfl (fun c8 => ?_) (fun c8 => ?_)
  ·replace hz3:=Zq c8 hz3
   refine Zbb [] hi0 hk0 ?_
   have hz3:=Option.some.inj hz3;subst hz3
   refine And.intro rfl (Fit2.of (Ya hU rfl rfl ?_) (by omega))
   exact Ve hi0 hk0
  replace hz3:=Zp c8 hz3
  obtain ⟨z4,hz4,hz3⟩:=bC hz3
  refine Xt (E':=⟨50,[],[(0,.ref i0 0),(1,.val (.int .i64 a1)),(4,.ref n 0),(5,.ref (n+1) 0),(18,.val (.bool z4))]⟩) (O':=(Zu (O.upd i0 (some ⟨false,140,2,1,[.sl a0.left.length (fl Zc a0.left),.val (.int .i64 a0.gone)]⟩)) n [some ⟨false,53,14,1,[.val (.int .i64 0),.val (.int .i64 0),.val (.slice none 0 0),.val (.int .i64 0),.val (.int .i64 0),.val (.slice none 0 0),.val (.slice none 0 0),.val (.int .i64 0),.val (.slice none 0 0),.val (.slice none 0 0),.val (.slice none 0 0),.val (.slice none 0 0),.val (.int .i64 0),.val (.slice none 0 0)]⟩,some ⟨false,53,14,1,(Yw x2)⟩])) (n0:=(n+2)) ?_ ?_
  ·refine Zdv [0,1,4,5,13,18] hi0 hk0 ?_
   refine Zn (t:=(x2.Kind == 1)) rfl (fun c5 => ?_) (fun c5 => ?_)
   ·replace hz4:=Zq c5 hz4
    refine zK ?_
    have hz4:=Option.some.inj hz4;subst hz4
    refine And.intro rfl (Fit2.of (Ya hU rfl rfl ?_) (by omega))
    exact Ve hi0 hk0
   replace hz4:=Zp c5 hz4
   refine Zbb [] hi0 hk0 ?_
   have hz4:=Option.some.inj hz4;subst hz4
   refine And.intro rfl (Fit2.of (Ya hU rfl rfl ?_) (by omega))
   exact Ve hi0 hk0
  refine Zn (t:=z4) rfl (fun c7 => ?_) (fun c7 => ?_)
  ·replace hz3:=Zq c7 hz3
   obtain ⟨l6,al6,bl6,cl6,gl6,hz3⟩:=bS3 (lo:=(some (.i64,a0.gone))) (hi:=(.i64,(IntKind.i64.wrap (a0.gone+a1)))) (f:=Za) rfl rfl Zcl Gr (fun _=>rfl) hz3
   refine Zl2 Zz (by kernel_rfl) [false,false,false,false,false,false,false,false,false,false,false,false,false,false,false,false,false,false,false,false,true] [] (by kernel_rfl) ?_
   refine zX6 al6 bl6 cl6 gl6 hi0 hk0 ?_
   have hz3:=Option.some.inj hz3;subst hz3
   refine And.intro rfl (Fit2.of (Ya hU rfl rfl ?_) (by omega))
   exact Ygd al6 bl6 cl6 gl6 hi0 hk0
  replace hz3:=Zp c7 hz3
  refine zK ?_
  have hz3:=Option.some.inj hz3;subst hz3
  refine And.intro rfl (Fit2.of (Ya hU rfl rfl ?_) (by omega))
  exact Ve hi0 hk0
 refine Zj ?_
 refine Zbb [] hi0 hk0 ?_
 refine zDs [4,5] [true,true] ?_
 refine Zbb [] hi0 hk0 ?_
 refine zD [4] [true,false] ?_
 refine zW ?_
 have h:=Option.some.inj h;subst h
 refine Vk (k:=0) (i:=i0) (q1:=⟨false,140,2,1,[.sl a0.left.length (fl Zc a0.left),.val (.int .i64 (IntKind.i64.wrap (a0.gone+a1)))]⟩) (L3:=[some ⟨false,53,14,1,[.val (.int .i64 x2.Kind),.val (.int .i64 z3.1),.sl z3.2.length (fl Za z3.2),.val (.int .i64 x2.E.Kind),.val (.int .i64 x2.E.Old.Kind),.sl x2.E.Old.Words.length (fl (eI .u64) x2.E.Old.Words),.sl x2.E.Old.Kids.length (fl Za x2.E.Old.Kids),.val (.int .i64 x2.E.New.Kind),.sl x2.E.New.Words.length (fl (eI .u64) x2.E.New.Words),.sl x2.E.New.Kids.length (fl Za x2.E.New.Kids),.sl x2.E.Words.length (fl Zb x2.E.Words),.sl x2.E.Kids.length (fl Zd x2.E.Kids),.val (.int .i64 x2.E.List_),.sl x2.E.Ops.length (fl Zc x2.E.Ops)]⟩,none]) (E2:=(⟨50,[],[(4,.ref n 0)]⟩:Env)) (n3:=(n+2)) (.inr rfl) hU rfl [.agg [.val (.int .i64 x2.Kind),.val (.int .i64 z3.1),.sl z3.2.length (fl Za z3.2),.val (.int .i64 x2.E.Kind),.val (.int .i64 x2.E.Old.Kind),.sl x2.E.Old.Words.length (fl (eI .u64) x2.E.Old.Words),.sl x2.E.Old.Kids.length (fl Za x2.E.Old.Kids),.val (.int .i64 x2.E.New.Kind),.sl x2.E.New.Words.length (fl (eI .u64) x2.E.New.Words),.sl x2.E.New.Kids.length (fl Za x2.E.New.Kids),.sl x2.E.Words.length (fl Zb x2.E.Words),.sl x2.E.Kids.length (fl Zd x2.E.Kids),.val (.int .i64 x2.E.List_),.sl x2.E.Ops.length (fl Zc x2.E.Ops)]] ?_ ?_
 ·refine Fit2.trans (E':=(⟨50,[],[(4,.ref n 0)]⟩:Env)) (O':=(Zu (O.upd i0 (some ⟨false,140,2,1,[.sl a0.left.length (fl Zc a0.left),.val (.int .i64 (IntKind.i64.wrap (a0.gone+a1)))]⟩)) n [some ⟨false,53,14,1,[.val (.int .i64 x2.Kind),.val (.int .i64 z3.1),.sl z3.2.length (fl Za z3.2),.val (.int .i64 x2.E.Kind),.val (.int .i64 x2.E.Old.Kind),.sl x2.E.Old.Words.length (fl (eI .u64) x2.E.Old.Words),.sl x2.E.Old.Kids.length (fl Za x2.E.Old.Kids),.val (.int .i64 x2.E.New.Kind),.sl x2.E.New.Words.length (fl (eI .u64) x2.E.New.Words),.sl x2.E.New.Kids.length (fl Za x2.E.New.Kids),.sl x2.E.Words.length (fl Zb x2.E.Words),.sl x2.E.Kids.length (fl Zd x2.E.Kids),.val (.int .i64 x2.E.List_),.sl x2.E.Ops.length (fl Zc x2.E.Ops)]⟩,none])) (n':=(n+2)) (Fit2.of (Ya hU rfl rfl ?_) (by omega)) ?_
  ·exact Ve hi0 hk0
  refine Qq (k:=2) (k':=2) hU [0,1] [0,0] rfl rfl rfl rfl ⟨rfl,rfl⟩ ?_
  exact Ve hi0 hk0
 simp only [push_cast,seval,↓reduceIte,Zk,Try.results130,hi0,hk0,hN0,hN]
theorem Zym {a0:(List S_api_Op)} {a1:(List S_api_Op)} {a2:Int} {a3:Int} {r:((List Zr)×Bool)} {O:Objs} {n:Nat} (h:Zil a0 a1 a2 a3=some r):GTo Try.prog 118 [.sl a0.length (fl Zc a0),.sl a1.length (fl Zc a1),.val (.int .i64 a2),.val (.int .i64 a3)] O n (.tup [.sl r.1.length (fl Zw r.1),.val (.bool r.2)]) O n:=by
 unfold Zil at h
 refine zFn Try.call118 Try.func118 fun hU hN0 hN => ?_
 show W _ _ _ _ ⟨83,[],[(0,.sl a0.length (fl Zc a0)),(1,.sl a1.length (fl Zc a1)),(2,.val (.int .i64 a2)),(3,.val (.int .i64 a3))]⟩ (Zu O n []) _
 refine zQ [0,1,2,3] ?_
 refine zQ [0,1,2,3,10] ?_
 refine Zj ?_
 refine zRd [2,3,10,11,12] [true,true] ?_
 refine zD [2,3,10,11,12] [true,true] ?_
 refine Vn (E':=(⟨83,[],[(2,.val (.int .i64 a2)),(3,.val (.int .i64 a3)),(10,.row (n+2) ([]:List Zr).length),(11,.ref n 0),(12,.ref (n+1) 0)]⟩:Env)) (O':=(Zu O n [some ⟨false,140,2,1,[.sl a0.length (fl Zc a0),.val (.int .i64 0)]⟩,some ⟨false,140,2,1,[.sl a1.length (fl Zc a1),.val (.int .i64 0)]⟩,some ⟨true,94,29,([]:List Zr).length,fl Zw ([]:List Zr)⟩,none])) (n':=(n+4)) ?_ ?_
 ·refine Fit2.trans (E':=(⟨83,[],[(2,.val (.int .i64 a2)),(3,.val (.int .i64 a3)),(10,.val (.slice none 0 0)),(11,.ref n 0),(12,.ref (n+1) 0)]⟩:Env)) (O':=(Zu O n [some ⟨false,140,2,1,[.sl a0.length (fl Zc a0),.val (.int .i64 0)]⟩,some ⟨false,140,2,1,[.sl a1.length (fl Zc a1),.val (.int .i64 0)]⟩])) (n':=(n+2)) (Fit2.of (Yj hU rfl rfl ?_) (by omega)) ?_
  ·exact zSe
  refine Fit2.trans (Zl7 10 94 29 rfl (by omega)) ?_
  simp only [Y2,Yk,Us,K8,List.set_cons_zero,List.set_cons_succ,List.cons_append,List.nil_append,List.length_cons,List.length_nil,Nat.zero_add,Nat.reduceAdd,Nat.reduceLT,Nat.add_assoc]
  refine Fit2.trans (E':=(⟨83,[],[(2,.val (.int .i64 a2)),(3,.val (.int .i64 a3)),(10,.row (n+2) ([]:List Zr).length),(11,.ref n 0),(12,.ref (n+1) 0)]⟩:Env)) (O':=(Zu O n [some ⟨false,140,2,1,[.sl a0.length (fl Zc a0),.val (.int .i64 0)]⟩,some ⟨false,140,2,1,[.sl a1.length (fl Zc a1),.val (.int .i64 0)]⟩,some ⟨true,94,29,([]:List Zr).length,fl Zw ([]:List Zr)⟩])) (n':=(n+3)) (Fit2.of (Yj hU rfl rfl ?_) (by omega)) ?_
  ·exact zSe
  refine Vu (k:=3) (k':=4) hU [0,1,2] [0,1,2,0] rfl rfl rfl rfl ⟨rfl,rfl⟩ ?_
  exact zSe
 obtain ⟨z16,hz16,h⟩:=bC h
 refine Uz (E':=⟨83,[],[(8,.sl z16.1.length (fl Zw z16.1)),(9,.val (.bool z16.2))]⟩) (O':=(Zu O n [none,none])) (n0:=(n+2)) ?_ ?_
 ·refine Xr hz16 (fun s0_=>⟨83,[],[(2,.val (.int .i64 a2)),(3,.val (.int .i64 a3)),(10,.row (n+2) s0_.2.2.2.2.length),(11,.ref n 0),(12,.ref (n+1) 0)]⟩) (fun s0_=>(Zu O n [some ⟨false,140,2,1,[.sl s0_.1.length (fl Zc s0_.1),.val (.int .i64 s0_.2.1)]⟩,some ⟨false,140,2,1,[.sl s0_.2.2.1.length (fl Zc s0_.2.2.1),.val (.int .i64 s0_.2.2.2.1)]⟩,some ⟨true,94,29,s0_.2.2.2.2.length,fl Zw s0_.2.2.2.2⟩,none])) (fun z16=>JR n (⟨83,[],[(8,.sl z16.1.length (fl Zw z16.1)),(9,.val (.bool z16.2))]⟩:Env) (Zu O n [none,none]) (n+2)) ?_
  intro s0_ x0_ hs0_
  unfold Jf at hs0_
  try dsimp only
  refine Yy ?_
  refine Zj ?_
  obtain ⟨y2,hy2,hs0_⟩:=bC hs0_
  refine zR ?_
  refine (Zkb (i0:=n) (by omega) (by simp only [push_cast,seval,↓reduceIte,Zk,Y8,hN0,hN] <;> rfl) hy2).then ?_
  refine zS ?_
  refine zDs [2,3,10,11,12,13,14] [true,true,true,false] ?_
  obtain ⟨y4,hy4,hs0_⟩:=bC hs0_
  refine zR ?_
  refine (Zkb (i0:=(n+1)) (by omega) (by simp only [push_cast,seval,↓reduceIte,Zk,Y8,hN0,hN] <;> rfl) hy4).then ?_
  refine zS ?_
  refine zD [2,3,10,11,12,13,14,15,16] [true,true,true,false] ?_
  refine Yy ?_
  refine zQD [2,3,10,11,12,14,15,16,40] [none,none,none] ?_
  refine Zn (t:=(cond (decide (0 < y2.2.1)) (y2.1 == a2) false)) rfl (fun c15 => ?_) (fun c15 => ?_)
  ·replace hs0_:=Zq c15 hs0_
   obtain ⟨y5,hy5,hs0_⟩:=bC hs0_
   obtain ⟨l6,pl6,ql6,el6,hs0_⟩:=bA (k:=1) rfl hs0_
   refine Zll [] pl6 ql6 el6 ?_
   refine (Zcb (i0:=n) (by omega) (by simp only [push_cast,seval,↓reduceIte,Zk,Y8,pl6,ql6,el6,hN0,hN] <;> rfl) hy5).then ?_
   refine zX3 pl6 ql6 el6 ?_
   exact Zl1 hs0_ pl6 ql6 el6
  replace hs0_:=Zp c15 hs0_
  refine zQD [2,3,10,11,12,14,16,54] [none,none,none] ?_
  refine Zn (t:=(cond (decide (0 < y4.2.1)) (y4.1 == a3) false)) rfl (fun c14 => ?_) (fun c14 => ?_)
  ·replace hs0_:=Zq c14 hs0_
   obtain ⟨y7,hy7,hs0_⟩:=bC hs0_
   obtain ⟨l8,pl8,ql8,el8,hs0_⟩:=bA (k:=1) rfl hs0_
   refine Zll [] pl8 ql8 el8 ?_
   refine (Zcb (i0:=(n+1)) (by omega) (by simp only [push_cast,seval,↓reduceIte,Zk,Y8,pl8,ql8,el8,hN0,hN] <;> rfl) hy7).then ?_
   refine zX3 pl8 ql8 el8 ?_
   exact Zl1 hs0_ pl8 ql8 el8
  replace hs0_:=Zp c14 hs0_
  refine zQD [2,3,10,11,12,14,16,68] [none,none] ?_
  refine Zn (t:=(cond (y2.2.1 == 0) (y4.2.1 == 0) false)) rfl (fun c13 => ?_) (fun c13 => ?_)
  ·replace hs0_:=Zq c13 hs0_
   refine zQ [8,9] ?_
   refine zW ?_
   exact zEy hs0_
  replace hs0_:=Zp c13 hs0_
  refine zQD [2,3,10,11,12,14,16,76] [none,none] ?_
  refine Zn (t:=(cond (y2.2.1 == 0) true (y4.2.1 == 0))) rfl (fun c12 => ?_) (fun c12 => ?_)
  ·replace hs0_:=Zq c12 hs0_
   refine zQ [8,9] ?_
   refine zW ?_
   exact zEy hs0_
  replace hs0_:=Zp c12 hs0_
  refine zQ [2,3,10,11,12,14] ?_
  obtain ⟨y9,hy9,hs0_⟩:=bC hs0_
  obtain ⟨y10,hy10,hs0_⟩:=bC hs0_
  obtain ⟨l11,pl11,ql11,el11,hs0_⟩:=bA (k:=1) rfl hs0_
  refine Zll [] pl11 ql11 el11 ?_
  refine (Zcb (i0:=n) (by omega) (by simp only [push_cast,seval,↓reduceIte,Zk,Y8,pl11,ql11,el11,hN0,hN] <;> rfl) hy9).then ?_
  refine zX3 pl11 ql11 el11 ?_
  refine (Zcb (i0:=(n+1)) (by omega) (by simp only [push_cast,seval,↓reduceIte,Zk,Y8,pl11,ql11,el11,hN0,hN] <;> rfl) hy10).then ?_
  refine zX3 pl11 ql11 el11 ?_
  exact Zl1 hs0_ pl11 ql11 el11
 try simp only [Xf,Yn,↓reduceIte,Nat.reduceEqDiff]
 exact Zq7 [.sl z16.1.length (fl Zw z16.1),.val (.bool z16.2)]
theorem Zyl {a0:(List S_api_Op)} {a1:(List S_api_Op)} {r:((List Zr)×Bool)} {O:Objs} {n:Nat} (h:Zbp a0 a1=some r):GTo Try.prog 83 [.sl a0.length (fl Zc a0),.sl a1.length (fl Zc a1)] O n (.tup [.sl r.1.length (fl Zw r.1),.val (.bool r.2)]) O n:=by
 unfold Zbp at h
 refine zFn Try.call83 Try.func83 fun hU hN0 hN => ?_
 show W _ _ _ _ ⟨11,[],[(0,.sl a0.length (fl Zc a0)),(1,.sl a1.length (fl Zc a1))]⟩ (Zu O n []) _
 refine zQ [0,1] ?_
 refine Zj ?_
 obtain ⟨y2,hy2,h⟩:=bC h
 refine zCd (Zym hy2) [4,5] [] ?_
 exact Xe [.sl y2.1.length (fl Zw y2.1),.val (.bool y2.2)]
attribute [local push_cast] Try.results10 Try.results21 Try.results22 Try.results27 Try.results51 Try.results52 Try.results80 Try.results82 Try.results84 X8 Ze Y5 Yw Zi Xb Znl Znk Zn7 Zn6 Xf Yn Zjx Ze1 Ze0 onW Qm Zez Zeo Zqt Zpc Zhx Zh1 Zhw Zh0 Zkr Zko Zhz Zkq Zkp Zhy Zkm Zft evS wok K3 Op.operands Call.operands gop onK onP atK List.all_cons List.all_nil Bool.and_true Bool.true_and Bool.and_self Value.oneCell' List.take_zero List.take_succ_cons List.take_nil List.drop_zero List.drop_succ_cons List.drop_nil List.append_nil Nat.add_zero Nat.zero_add Za2 Yt ev Vz Zf7 Znd Znc Zni Zng Znh Zne Znf Znb Ztu Zuf Zwl Zi7 Zcp Zjv Zef Zhj Zgy Zc0 Zc5 Zex Zeu Zc3 Zew Zev Zc2 Zes Zc1 Zc4 Zb7 Zet Zpr Ze2 Zax Zif Zay Zln Zi5 Zvk bLo bHi bMx Zcq Zlm Zyh Zi4 Zmf Zf9 Gc Zrc Zyi Zid Zyj Zco Zzw Zj0 Zj4 Zjz Zj3 Znx Znu Zns Zhl Zj1 Znw Znv Zj2 Znt Zm3 gone Zki Zfl Zfk pop TK.isAgg Zn1 Zn5 Zn0 Zn4 Zkd Zr2 Zry Zn3 Zr1 Zr0 Zn2 Zrx G.under G.unders List.getD_cons_zero List.getD_cons_succ List.set_cons_zero List.set_cons_succ List.map_cons List.map_nil List.toList_toArray Array.toList_append Option.toArray_none Option.toArray_some Array.toList_map Option.map_some Option.map_none Option.bind_some Option.bind_none List.getElem?_cons_zero List.getElem?_cons_succ List.getElem?_nil List.nil_append List.cons_append List.replicate_succ List.replicate_zero List.length_cons List.length_nil and_true true_and and_false false_and Bool.true_eq_false Bool.false_eq_true forall_const false_implies implies_true IntKind.bits if_true if_false ite_true ite_false eq_self true_implies false_or or_false or_true true_or not_true_eq_false not_false_eq_true decide_true decide_false decide_eq_true_eq decide_eq_false_iff_not beq_iff_eq bne_iff_ne ne_eq Bool.not_eq_true Bool.not_eq_false beq_eq_false_iff_ne bne_eq_false_iff_eq beq_self_eq_true bne_self_eq_false Option.some.injEq exists_eq_left' exists_eq_left ge_iff_le gt_iff_lt decide_not Bool.not_true Bool.not_false imp_self Zrd cond_true cond_false Z3x Z3w Bool.not_not Bool.and_false Bool.false_and Bool.or_true Bool.true_or Bool.or_false Bool.false_or Uy Zan Us K8 Y2 Yk Option.join_some Nat.add_assoc Int.toNat_natCast eI eB eS eL Y8 Zf8 Zc6 Zno Znm Znn Z0l Z1c Zgc Zdc Zod Zob Zoc Zww Zp5 Zt4 Zog Zvc Zd9 Zp6 List.length_append G.agg.injEq G.row.injEq G.ref.injEq G.val.injEq G.sl.injEq G.tup.injEq Value.int.injEq Value.bool.injEq Value.string.injEq List.cons.injEq exists_and_left exists_const List.flatten_cons List.flatten_nil Int.le_refl Nat.le_refl X5 Yl Yp Bool.not_eq_true' Bool.not_eq_false' Zpb Zit Ztb Ztf Zta Zte Zyf Zyb List.size_toArray Zr4 Zqy G.ren G.rens Zur Zg5 Zof Zm9 Zna Zkn Ztg Zei G.fn.injEq Zlj Zlk Zpa Zyc Zli Ztd Zye Zyd Ztc Zrh Zxf Option.join_none Yb Gj undef Zmi Arr.len Arr.put_eq Zgb Zhq Zfh Zdb Zoa Zn8 Zn9 onB Z0k Zrb Zkl Zji Zjj Zjk Zjl Zjm Zjn Zhm Zht Zhr Zfj Zdd Zhs Zkh Zkg Zkf Zke Z1b Z25 Zwv Zvx Vs Zwm Zrk Zhu Zfi Zyq Zqz Zi3 Zmc Zen Ziq Zjo Zjp Zjq Zjr Zg9 Zha Zhb Zhc Zhd Zhe Zhf Zhg prT Ze3 Z43 Zs0 Z0y Zs1 Z44 Zs2 Zw4 Zs3 Z45 Zs4 Z46 Zs5 Z47 Zs6 Z48 Zs7 Zxk Zoh Zxl Zoi Zxm Zoj Zxn Zok Zxo Zol Zxp Zom Zxq Zon Zxr Zoo Zxs Zop Zxt Zoq Zxu Zor Zxv Zl4 Zt8 Zcl Zxw Zos Gr Zot Zxx Zgv Zxy Zgw Zxz Zl5 Zx0 Zou Zq1 Zov Zi1 Zow Zx1 Zox Zfu Zoy Zx2 Zoz Zdh Zo0 Zx3 Zo1 Zdi Zo2 Zt9 Zl6 Zx4 Zo3 Zx5 Zo4 Zx6 Zo5 Zv7 Zo6 Zx7 Zo7 Zx8 Zo8 Zr9 Zkt Zsa Zku Zsb Zkv Zsc Zkw Zsd Zkx Zse Zky Zsf Zkz Zsg Zk0 Zsh Zk1 Zsi Zk2 Zsj Zk3 Zsk Zk4 Zsl Zk5 Zsm Zk6 Zsn Zk7 Zso Zk8 Zsp Zk9 Zsq Zla Zsr Zlb Zss Zlc Zst Zld Zsu Zle Zsv Zlf Zsw Zlg Zsx Zlh Za Z5 Zfz Zfy Ze4 Zff Zf2 Zdk Zdg Zdf Zfv Uq Up Uf Ul Ur Vx Vw Vv Uo Zb Xp Zc Zd Yz Y4 Z9 J8 J5 Jm Jq Kb Q2 Qy Qv Jy Kv Kt Kk Ko Kx J3 Jw Ju Kr Zak Zaj Zad Zah Zal Gg Gf Ge Zai Zh4 Zh3 Zhk Zho Zh5 Zfx Zfq Zfp Zh2 Z4 Q5 Q4 Qr Qt Q6 Ql Qk Qj Q0 Z7 J9 J6 Jn Jr Kc Q3 Qz Qw Jz Z6 J7 J4 Jl Jp Ka Q1 Qx Qu Jx Zw Ku Ks Kj Km Kw J0 Jv Jt Kq
def U3 (Yi:(S_api_Edit→S_api_Edit→Option (S_api_Edit×Bool))):Prop:=∀ {a0:S_api_Edit} {a1:S_api_Edit} {r:(S_api_Edit×Bool)} {O:Objs} {n:Nat},Yi a0 a1=some r→GTo Try.prog 27 [.agg (Ze a0),.agg (Ze a1)] O n (.tup [.agg (Ze r.1),.val (.bool r.2)]) O n
def Jb (Zx:(S_api_Edit→S_api_Edit→Option (S_api_Edit×Bool))):Prop:=∀ {a0:S_api_Edit} {a1:S_api_Edit} {r:(S_api_Edit×Bool)} {O:Objs} {n:Nat},Zx a0 a1=some r→GTo Try.prog 51 [.agg (Ze a0),.agg (Ze a1)] O n (.tup [.agg (Ze r.1),.val (.bool r.2)]) O n
def Uc (Ye:(S_api_Edit→S_api_Edit→Option (S_api_Edit×Bool))):Prop:=∀ {a0:S_api_Edit} {a1:S_api_Edit} {r:(S_api_Edit×Bool)} {O:Objs} {n:Nat},Ye a0 a1=some r→GTo Try.prog 52 [.agg (Ze a0),.agg (Ze a1)] O n (.tup [.agg (Ze r.1),.val (.bool r.2)]) O n
def Yx (Zl:((List S_api_KidEdit)→(List S_api_KidEdit)→Option ((List S_api_KidEdit)×Bool))):Prop:=∀ {a0:(List S_api_KidEdit)} {a1:(List S_api_KidEdit)} {r:((List S_api_KidEdit)×Bool)} {O:Objs} {n:Nat},Zl a0 a1=some r→GTo Try.prog 80 [.sl a0.length (fl Zd a0),.sl a1.length (fl Zd a1),.fn 81 0 [],.fn 82 0 []] O n (.tup [.sl r.1.length (fl Zd r.1),.val (.bool r.2)]) O n
def X6 (Zv:(S_api_KidEdit→S_api_KidEdit→Option (S_api_KidEdit×Bool))):Prop:=∀ {a0:S_api_KidEdit} {a1:S_api_KidEdit} {r:(S_api_KidEdit×Bool)} {O:Objs} {n:Nat},Zv a0 a1=some r→GTo Try.prog 82 [.agg (Y5 a0),.agg (Y5 a1)] O n (.tup [.agg (Y5 r.1),.val (.bool r.2)]) O n
def Ud (Z8:(Zr→Option ((List S_api_Op)×Bool))):Prop:=∀ {a0:Zr} {r:((List S_api_Op)×Bool)} {O:Objs} {n:Nat},Z8 a0=some r→GTo Try.prog 84 [.agg (X8 a0)] O n (.tup [.sl r.1.length (fl Zc r.1),.val (.bool r.2)]) O n
theorem Zwu {Yi:(S_api_Edit→S_api_Edit→Option (S_api_Edit×Bool))} {Zx:(S_api_Edit→S_api_Edit→Option (S_api_Edit×Bool))} {Ye:(S_api_Edit→S_api_Edit→Option (S_api_Edit×Bool))} {Zl:((List S_api_KidEdit)→(List S_api_KidEdit)→Option ((List S_api_KidEdit)×Bool))} {Zv:(S_api_KidEdit→S_api_KidEdit→Option (S_api_KidEdit×Bool))} {Z8:(Zr→Option ((List S_api_Op)×Bool))} (U5:U3 Yi) (K4:Jb Zx) (G0:Uc Ye) (Y7:Yx Zl) (X7:X6 Zv) (G3:Ud Z8) {a0:S_api_Edit} {a1:S_api_Edit} {r:(S_api_Edit×Bool)} {O:Objs} {n:Nat} (h:Zer Yi Zx Ye Zl Zv Z8 a0 a1=some r):GTo Try.prog 27 [.agg (Ze a0),.agg (Ze a1)] O n (.tup [.agg (Ze r.1),.val (.bool r.2)]) O n:=by
 unfold Zer at h
 refine zFn Try.call27 Try.func27 fun hU hN0 hN => ?_
 show W _ _ _ _ ⟨89,[],[(0,.agg (Ze a0)),(1,.agg (Ze a1))]⟩ (Zu O n []) _
 refine zQ [2,3,4] ?_
 refine Zj ?_
 refine Yy ?_
 refine zQ [2,3,4,10] ?_
 refine Zn (t:=(a0.Kind == 0)) rfl (fun c16 => ?_) (fun c16 => ?_)
 ·replace h:=Zq c16 h
  refine Zj ?_
  refine zRd [4,5] [false,false,true] ?_
  exact Xe [.agg (Ze a1),.val (.bool true)]
 replace h:=Zp c16 h
 refine zQ [2,3,4,15] ?_
 refine Zn (t:=(a1.Kind == 0)) rfl (fun c15 => ?_) (fun c15 => ?_)
 ·replace h:=Zq c15 h
  refine Zj ?_
  refine zRd [4,5] [false,false,true] ?_
  exact Xe [.agg (Ze a0),.val (.bool true)]
 replace h:=Zp c15 h
 refine zQ [2,3,4,20] ?_
 refine Zn (t:=(a0.Kind == 1)) rfl (fun c14 => ?_) (fun c14 => ?_)
 ·replace h:=Zq c14 h
  refine Zj ?_
  obtain ⟨y2,hy2,h⟩:=bC h
  refine zCd (Ux hy2) [2,4,6,7] [true,false,true,true] ?_
  refine Zj ?_
  refine zRd [4,5] [false,false,true,false] ?_
  exact Xe [.agg [.val (.int .i64 1),.val (.int .i64 a0.Old.Kind),.sl a0.Old.Words.length (fl (eI .u64) a0.Old.Words),.sl a0.Old.Kids.length (fl Za a0.Old.Kids),.val (.int .i64 y2.1.Kind),.sl y2.1.Words.length (fl (eI .u64) y2.1.Words),.sl y2.1.Kids.length (fl Za y2.1.Kids),.val (.slice none 0 0),.val (.slice none 0 0),.val (.int .i64 0),.val (.slice none 0 0)],.val (.bool y2.2)]
 replace h:=Zp c14 h
 refine zQ [2,3,4,36] ?_
 refine Zn (t:=(a1.Kind == 1)) rfl (fun c13 => ?_) (fun c13 => ?_)
 ·replace h:=Zq c13 h
  refine Zj ?_
  obtain ⟨y5,hy5,h⟩:=bC h
  obtain ⟨y6,hy6,h⟩:=bC h
  refine K6 Zz (by kernel_rfl) [.low,.low,.low,.low,.low,.plain,.plain,.plain,.pass,.bar,.plain] (fun i=>i < (n+3)) [0,1,2,3,4,5,6,7,8,9,10] [.low,.low,.low,.low,.low,.plain,.plain,.plain,.pass,.bar,.plain] [] (by kernel_rfl) rfl ?_
  refine zS ?_
  refine zO ?_
  first | refine PCallA.of (fun _ _=>Zcu hy5) ?_ | refine PCall.of (Zcu hy5) ?_
  refine zS ?_
  refine zO ?_
  first | refine PCallA.of (fun _ _=>Ux hy6) ?_ | refine PCall.of (Ux hy6) ?_
  refine zS ?_
  refine zO ?_
  refine zDs [3,4,8,9] [false,true,true,true] ?_
  refine zRd [4,5] [false,false,true,false] ?_
  exact Xe [.agg [.val (.int .i64 1),.val (.int .i64 y6.1.Kind),.sl y6.1.Words.length (fl (eI .u64) y6.1.Words),.sl y6.1.Kids.length (fl Za y6.1.Kids),.val (.int .i64 a1.New.Kind),.sl a1.New.Words.length (fl (eI .u64) a1.New.Words),.sl a1.New.Kids.length (fl Za a1.New.Kids),.val (.slice none 0 0),.val (.slice none 0 0),.val (.int .i64 0),.val (.slice none 0 0)],.val (.bool y6.2)]
 replace h:=Zp c13 h
 refine zQD [2,3,4,53] [none,none,none] ?_
 refine Zn (t:=(cond (a0.Kind == 2) (a1.Kind == 2) false)) rfl (fun c12 => ?_) (fun c12 => ?_)
 ·replace h:=Zq c12 h
  refine Zj ?_
  obtain ⟨y8,hy8,h⟩:=bC h
  refine zCd (K4 hy8) [4,5] [false,false,true] ?_
  exact Xe [.agg (Ze y8.1),.val (.bool y8.2)]
 replace h:=Zp c12 h
 refine zQD [2,3,4,67] [none,none,none,none,none,none,none,none] ?_
 refine Zn (t:=(cond (cond (a0.Kind == 3) (a1.Kind == 3) false) (a0.List_ == a1.List_) false)) rfl (fun c11 => ?_) (fun c11 => ?_)
 ·replace h:=Zq c11 h
  refine Zj ?_
  obtain ⟨y10,hy10,h⟩:=bC h
  refine zCd (G0 hy10) [4,5] [false,false,true] ?_
  exact Xe [.agg (Ze y10.1),.val (.bool y10.2)]
 replace h:=Zp c11 h
 refine zKd [4] [false,false,true] ?_
 refine Zj ?_
 refine zRd [4,5] [false,false,true] ?_
 exact Xe [.agg [.val (.int .i64 0),.val (.int .i64 0),.val (.slice none 0 0),.val (.slice none 0 0),.val (.int .i64 0),.val (.slice none 0 0),.val (.slice none 0 0),.val (.slice none 0 0),.val (.slice none 0 0),.val (.int .i64 0),.val (.slice none 0 0)],.val (.bool false)]
theorem Zqh {Yi:(S_api_Edit→S_api_Edit→Option (S_api_Edit×Bool))} {Zx:(S_api_Edit→S_api_Edit→Option (S_api_Edit×Bool))} {Ye:(S_api_Edit→S_api_Edit→Option (S_api_Edit×Bool))} {Zl:((List S_api_KidEdit)→(List S_api_KidEdit)→Option ((List S_api_KidEdit)×Bool))} {Zv:(S_api_KidEdit→S_api_KidEdit→Option (S_api_KidEdit×Bool))} {Z8:(Zr→Option ((List S_api_Op)×Bool))} (U5:U3 Yi) (K4:Jb Zx) (G0:Uc Ye) (Y7:Yx Zl) (X7:X6 Zv) (G3:Ud Z8) {a0:S_api_Edit} {a1:S_api_Edit} {r:(S_api_Edit×Bool)} {O:Objs} {n:Nat} (h:Zab Yi Zx Ye Zl Zv Z8 a0 a1=some r):GTo Try.prog 51 [.agg (Ze a0),.agg (Ze a1)] O n (.tup [.agg (Ze r.1),.val (.bool r.2)]) O n:=by
 unfold Zab at h
 refine zFn Try.call51 Try.func51 fun hU hN0 hN => ?_
 show W _ _ _ _ ⟨33,[],[(0,.agg (Ze a0)),(1,.agg (Ze a1))]⟩ (Zu O n []) _
 refine zQ [2,3,4] ?_
 refine Zj ?_
 obtain ⟨y2,hy2,h⟩:=bC h
 refine zCd (Zfc hy2) [2,3,4,6,7] [true,true,true] ?_
 refine Zj ?_
 obtain ⟨y4,hy4,h⟩:=bC h
 refine zCd (Y7 hy4) [4,6,7,8,9] [false,false,true] ?_
 refine Zj ?_
 refine zRo [none] ?_
 refine zG ?_
 refine zD [4,5] [false,false,true] ?_
 exact Xe [.agg [.val (.int .i64 2),.val (.int .i64 0),.val (.slice none 0 0),.val (.slice none 0 0),.val (.int .i64 0),.val (.slice none 0 0),.val (.slice none 0 0),.sl y2.1.length (fl Zb y2.1),.sl y4.1.length (fl Zd y4.1),.val (.int .i64 0),.val (.slice none 0 0)],.val (.bool (cond y2.2 y4.2 false))]
theorem Zvr {Yi:(S_api_Edit→S_api_Edit→Option (S_api_Edit×Bool))} {Zx:(S_api_Edit→S_api_Edit→Option (S_api_Edit×Bool))} {Ye:(S_api_Edit→S_api_Edit→Option (S_api_Edit×Bool))} {Zl:((List S_api_KidEdit)→(List S_api_KidEdit)→Option ((List S_api_KidEdit)×Bool))} {Zv:(S_api_KidEdit→S_api_KidEdit→Option (S_api_KidEdit×Bool))} {Z8:(Zr→Option ((List S_api_Op)×Bool))} (U5:U3 Yi) (K4:Jb Zx) (G0:Uc Ye) (Y7:Yx Zl) (X7:X6 Zv) (G3:Ud Z8) {a0:S_api_Edit} {a1:S_api_Edit} {r:(S_api_Edit×Bool)} {O:Objs} {n:Nat} (h:Zdx Yi Zx Ye Zl Zv Z8 a0 a1=some r):GTo Try.prog 52 [.agg (Ze a0),.agg (Ze a1)] O n (.tup [.agg (Ze r.1),.val (.bool r.2)]) O n:=by
 unfold Zdx at h
 refine zFn Try.call52 Try.func52 fun hU hN0 hN => ?_
 show W _ _ _ _ ⟨48,[],[(0,.agg (Ze a0)),(1,.agg (Ze a1))]⟩ (Zu O n []) _
 refine zQ [2,3,4] ?_
 refine Zj ?_
 obtain ⟨y2,hy2,h⟩:=bC h
 refine zCd (Zyl hy2) [2,4,6,7] [true,false,true] ?_
 refine Zj ?_
 refine zQ [2,4,6,22] ?_
 refine Zn (t:=(!y2.2)) rfl (fun c11 => ?_) (fun c11 => ?_)
 ·replace h:=Zq c11 h
  refine Zj ?_
  refine zRd [4,5] [false,false,true] ?_
  exact Xe [.agg [.val (.int .i64 0),.val (.int .i64 0),.val (.slice none 0 0),.val (.slice none 0 0),.val (.int .i64 0),.val (.slice none 0 0),.val (.slice none 0 0),.val (.slice none 0 0),.val (.slice none 0 0),.val (.int .i64 0),.val (.slice none 0 0)],.val (.bool false)]
 replace h:=Zp c11 h
 refine zKd [2,4,6] [true,false,true] ?_
 refine Zj ?_
 refine zRd [4,6,8] [false,false,true,true] ?_
 refine Zj ?_
 refine zQd [4,8,27,28,29] [4,8,27,28,29] [false,false,true,true] ?_
 refine Vn (E':=(⟨48,[],[(4,.ref (n+2) 0),(8,.ref (n+3) 0),(27,.sl y2.1.length (fl Zw y2.1)),(28,.val (.int .i64 (y2.1.length:Int))),(29,.val (.int .i64 0))]⟩:Env)) (O':=(Zu O n [none,none,some ⟨false,30,11,1,[.val (.int .i64 0),.val (.int .i64 0),.val (.slice none 0 0),.val (.slice none 0 0),.val (.int .i64 0),.val (.slice none 0 0),.val (.slice none 0 0),.val (.slice none 0 0),.val (.slice none 0 0),.val (.int .i64 0),.val (.slice none 0 0)]⟩,some ⟨false,30,11,1,[.val (.int .i64 3),.val (.int .i64 0),.val (.slice none 0 0),.val (.slice none 0 0),.val (.int .i64 0),.val (.slice none 0 0),.val (.slice none 0 0),.val (.slice none 0 0),.val (.slice none 0 0),.val (.int .i64 a0.List_),.row (n+4) ([]:List S_api_Op).length]⟩,some ⟨true,53,14,([]:List S_api_Op).length,fl Zc ([]:List S_api_Op)⟩,none])) (n':=(n+6)) ?_ ?_
 ·refine Fit2.trans (E':=(⟨48,[],[(4,.ref (n+2) 0),(8,.ref (n+3) 0),(27,.sl y2.1.length (fl Zw y2.1)),(28,.val (.int .i64 (y2.1.length:Int))),(29,.val (.int .i64 0))]⟩:Env)) (O':=(Zu O n [none,none,some ⟨false,30,11,1,[.val (.int .i64 0),.val (.int .i64 0),.val (.slice none 0 0),.val (.slice none 0 0),.val (.int .i64 0),.val (.slice none 0 0),.val (.slice none 0 0),.val (.slice none 0 0),.val (.slice none 0 0),.val (.int .i64 0),.val (.slice none 0 0)]⟩,some ⟨false,30,11,1,[.val (.int .i64 3),.val (.int .i64 0),.val (.slice none 0 0),.val (.slice none 0 0),.val (.int .i64 0),.val (.slice none 0 0),.val (.slice none 0 0),.val (.slice none 0 0),.val (.slice none 0 0),.val (.int .i64 a0.List_),.val (.slice none 0 0)]⟩])) (n':=(n+4)) (Fit2.of (Yj hU rfl rfl ?_) (by omega)) ?_
  ·exact zSe
  refine Fit2.trans (Zav (p:=(n+3)) (k:=10) (q:=⟨false,30,11,1,[.val (.int .i64 3),.val (.int .i64 0),.val (.slice none 0 0),.val (.slice none 0 0),.val (.int .i64 0),.val (.slice none 0 0),.val (.slice none 0 0),.val (.slice none 0 0),.val (.slice none 0 0),.val (.int .i64 a0.List_),.val (.slice none 0 0)]⟩) 53 14 (by simp only [Uy,Zan,List.getElem?_cons_zero,List.getElem?_cons_succ,Option.join_some,List.length_nil,Yb]) rfl (by omega)) ?_
  simp only [Y2,Yk,Us,K8,List.set_cons_zero,List.set_cons_succ,List.cons_append,List.nil_append,List.length_cons,List.length_nil,Nat.zero_add,Nat.reduceAdd,Nat.reduceLT,Nat.add_assoc]
  refine Vu (k:=5) (k':=6) hU [5,5,2,3,4] [0,0,2,3,4,0] rfl rfl rfl rfl ⟨rfl,rfl⟩ ?_
  exact zSe
 obtain ⟨z10,hz10,h⟩:=bC h
 refine Zee (J:=(K5 (fun z10=>JR n (⟨48,[],[(4,.ref (n+2) 0),(5,.val (.bool false))]⟩:Env) (Zu O n [none,none,some ⟨false,30,11,1,[.val (.int .i64 0),.val (.int .i64 0),.val (.slice none 0 0),.val (.slice none 0 0),.val (.int .i64 0),.val (.slice none 0 0),.val (.slice none 0 0),.val (.slice none 0 0),.val (.slice none 0 0),.val (.int .i64 0),.val (.slice none 0 0)]⟩,none]) (n+4)) (fun z10=>JX 0 n (⟨48,[],[(4,.ref (n+2) 0),(8,.ref (n+3) 0)]⟩:Env) (Zu O n [none,none,some ⟨false,30,11,1,[.val (.int .i64 0),.val (.int .i64 0),.val (.slice none 0 0),.val (.slice none 0 0),.val (.int .i64 0),.val (.slice none 0 0),.val (.slice none 0 0),.val (.slice none 0 0),.val (.slice none 0 0),.val (.int .i64 0),.val (.slice none 0 0)]⟩,some ⟨false,30,11,1,[.val (.int .i64 3),.val (.int .i64 0),.val (.slice none 0 0),.val (.slice none 0 0),.val (.int .i64 0),.val (.slice none 0 0),.val (.slice none 0 0),.val (.slice none 0 0),.val (.slice none 0 0),.val (.int .i64 a0.List_),.row (n+4) z10.length]⟩,some ⟨true,53,14,z10.length,fl Zc z10⟩,none]) (n+6)))) (z:=z10) ?_ fun hw => ?_
 ·refine Xr hz10 (fun s0_=>⟨48,[],[(4,.ref (n+2) 0),(8,.ref (n+3) 0),(27,.sl y2.1.length (fl Zw y2.1)),(28,.val (.int .i64 (y2.1.length:Int))),(29,.val (.int .i64 s0_.1))]⟩) (fun s0_=>(Zu O n [none,none,some ⟨false,30,11,1,[.val (.int .i64 0),.val (.int .i64 0),.val (.slice none 0 0),.val (.slice none 0 0),.val (.int .i64 0),.val (.slice none 0 0),.val (.slice none 0 0),.val (.slice none 0 0),.val (.slice none 0 0),.val (.int .i64 0),.val (.slice none 0 0)]⟩,some ⟨false,30,11,1,[.val (.int .i64 3),.val (.int .i64 0),.val (.slice none 0 0),.val (.slice none 0 0),.val (.int .i64 0),.val (.slice none 0 0),.val (.slice none 0 0),.val (.slice none 0 0),.val (.slice none 0 0),.val (.int .i64 a0.List_),.row (n+4) s0_.2.length]⟩,some ⟨true,53,14,s0_.2.length,fl Zc s0_.2⟩,none])) (K5 (fun z10=>JR n (⟨48,[],[(4,.ref (n+2) 0),(5,.val (.bool false))]⟩:Env) (Zu O n [none,none,some ⟨false,30,11,1,[.val (.int .i64 0),.val (.int .i64 0),.val (.slice none 0 0),.val (.slice none 0 0),.val (.int .i64 0),.val (.slice none 0 0),.val (.slice none 0 0),.val (.slice none 0 0),.val (.slice none 0 0),.val (.int .i64 0),.val (.slice none 0 0)]⟩,none]) (n+4)) (fun z10=>JX 0 n (⟨48,[],[(4,.ref (n+2) 0),(8,.ref (n+3) 0)]⟩:Env) (Zu O n [none,none,some ⟨false,30,11,1,[.val (.int .i64 0),.val (.int .i64 0),.val (.slice none 0 0),.val (.slice none 0 0),.val (.int .i64 0),.val (.slice none 0 0),.val (.slice none 0 0),.val (.slice none 0 0),.val (.slice none 0 0),.val (.int .i64 0),.val (.slice none 0 0)]⟩,some ⟨false,30,11,1,[.val (.int .i64 3),.val (.int .i64 0),.val (.slice none 0 0),.val (.slice none 0 0),.val (.int .i64 0),.val (.slice none 0 0),.val (.slice none 0 0),.val (.slice none 0 0),.val (.slice none 0 0),.val (.int .i64 a0.List_),.row (n+4) z10.length]⟩,some ⟨true,53,14,z10.length,fl Zc z10⟩,none]) (n+6))) ?_
  intro s0_ x0_ hs0_
  unfold Xu at hs0_
  try dsimp only
  refine zQ [4,8,27,28,29,30] ?_
  refine Zj ?_
  refine Zn (t:=(decide (s0_.1 < (y2.1.length:Int)))) rfl (fun c9 => ?_) (fun c9 => ?_)
  ·replace hs0_:=Zq c9 hs0_
   refine zKd [4,8,27,28,29] [false,false,true,true,true,false] ?_
   refine Zj ?_
   refine Yy ?_
   refine Zj ?_
   obtain ⟨x4,hx4,ax4,bx4,cx4,hs0_⟩:=bE (f:=Zw) Zv7 (fun _=>rfl) (by decide) hs0_
   refine Ziu [] ax4 bx4 cx4 ?_
   refine zDs [4,8,10,27,28,29] [false,false,true,true,true,false,true] ?_
   obtain ⟨y6,hy6,hs0_⟩:=bC hs0_
   refine zCd (G3 hy6) [4,8,11,12,27,28,29] [false,false,true,true,true,false,false] ?_
   refine Zj ?_
   refine zQ [4,8,11,27,28,29,39] ?_
   refine Zn (t:=(!y6.2)) rfl (fun c8 => ?_) (fun c8 => ?_)
   ·replace hs0_:=Zq c8 hs0_
    refine Zj ?_
    refine zRd [4,5] [false,false,true,false,false,false,false] ?_
    refine zW ?_
    exact zEy hs0_
   replace hs0_:=Zp c8 hs0_
   refine zKd [4,8,11,27,28,29] [false,false,true,true,true,false,false] ?_
   obtain ⟨l7,pl7,ql7,el7,hs0_⟩:=bA (k:=y6.1.length) rfl hs0_
   refine Zll [] pl7 ql7 el7 ?_
   refine Zek ⟨48,[],[(4,.ref (n+2) 0),(8,.ref (n+3) 0),(27,.sl y2.1.length (fl Zw y2.1)),(28,.val (.int .i64 (y2.1.length:Int))),(29,.val (.int .i64 s0_.1))]⟩ (Zu O n [none,none,some ⟨false,30,11,1,[.val (.int .i64 0),.val (.int .i64 0),.val (.slice none 0 0),.val (.slice none 0 0),.val (.int .i64 0),.val (.slice none 0 0),.val (.slice none 0 0),.val (.slice none 0 0),.val (.slice none 0 0),.val (.int .i64 0),.val (.slice none 0 0)]⟩,some ⟨false,30,11,1,[.val (.int .i64 3),.val (.int .i64 0),.val (.slice none 0 0),.val (.slice none 0 0),.val (.int .i64 0),.val (.slice none 0 0),.val (.slice none 0 0),.val (.slice none 0 0),.val (.slice none 0 0),.val (.int .i64 a0.List_),.row (n+4) l7.length]⟩,some ⟨true,53,14,l7.length,fl Zc l7⟩,none,none]) (Yj hU rfl rfl ?_) ?_
   ·exact Z5k pl7 ql7 el7
   refine zR ?_
   exact zEn hs0_
  replace hs0_:=Zp c9 hs0_
  exact zEx hs0_
 rcases z10 with z10 | z10
 ·dsimp only [K5] at hw h
  refine Uz hw ?_
  try simp only [Xf,Yn,↓reduceIte,Nat.reduceEqDiff]
  exact Zq7 [.agg [.val (.int .i64 0),.val (.int .i64 0),.val (.slice none 0 0),.val (.slice none 0 0),.val (.int .i64 0),.val (.slice none 0 0),.val (.slice none 0 0),.val (.slice none 0 0),.val (.slice none 0 0),.val (.int .i64 0),.val (.slice none 0 0)],.val (.bool false)]
 dsimp only [K5] at hw h
 refine Y9 hw ?_
 try simp only [Xf,Yn,↓reduceIte,Nat.reduceEqDiff]
 refine zDs [4,8] [false,false,true,true,true,false] ?_
 refine zRd [4,5] [false,false,true,false,true,false] ?_
 exact Xe [.agg [.val (.int .i64 3),.val (.int .i64 0),.val (.slice none 0 0),.val (.slice none 0 0),.val (.int .i64 0),.val (.slice none 0 0),.val (.slice none 0 0),.val (.slice none 0 0),.val (.slice none 0 0),.val (.int .i64 a0.List_),.row (n+4) z10.length],.val (.bool true)]
theorem Zfe {Yi:(S_api_Edit→S_api_Edit→Option (S_api_Edit×Bool))} {Zx:(S_api_Edit→S_api_Edit→Option (S_api_Edit×Bool))} {Ye:(S_api_Edit→S_api_Edit→Option (S_api_Edit×Bool))} {Zl:((List S_api_KidEdit)→(List S_api_KidEdit)→Option ((List S_api_KidEdit)×Bool))} {Zv:(S_api_KidEdit→S_api_KidEdit→Option (S_api_KidEdit×Bool))} {Z8:(Zr→Option ((List S_api_Op)×Bool))} (U5:U3 Yi) (K4:Jb Zx) (G0:Uc Ye) (Y7:Yx Zl) (X7:X6 Zv) (G3:Ud Z8) {a0:(List S_api_KidEdit)} {a1:(List S_api_KidEdit)} {r:((List S_api_KidEdit)×Bool)} {O:Objs} {n:Nat} (h:Xw Yi Zx Ye Zl Zv Z8 a0 a1=some r):GTo Try.prog 80 [.sl a0.length (fl Zd a0),.sl a1.length (fl Zd a1),.fn 81 0 [],.fn 82 0 []] O n (.tup [.sl r.1.length (fl Zd r.1),.val (.bool r.2)]) O n:=by
 unfold Xw at h
 refine zFn Try.call80 Try.func80 fun hU hN0 hN => ?_
 show W _ _ _ _ ⟨87,[],[(0,.sl a0.length (fl Zd a0)),(1,.sl a1.length (fl Zd a1)),(2,.fn 81 0 []),(3,.fn 82 0 [])]⟩ (Zu O n []) _
 refine zQ [0,1,2,3] ?_
 refine zQ [0,1,2,3,10] ?_
 refine Zj ?_
 refine zD [0,1,2,3,10] [] ?_
 refine Vn (E':=(⟨87,[],[(0,.sl a0.length (fl Zd a0)),(1,.sl a1.length (fl Zd a1)),(2,.fn 81 0 []),(3,.fn 82 0 []),(10,.row n ([]:List S_api_KidEdit).length)]⟩:Env)) (O':=(Zu O n [some ⟨true,55,12,([]:List S_api_KidEdit).length,fl Zd ([]:List S_api_KidEdit)⟩,none])) (n':=(n+2)) ?_ ?_
 ·refine Fit2.trans (E':=(⟨87,[],[(0,.sl a0.length (fl Zd a0)),(1,.sl a1.length (fl Zd a1)),(2,.fn 81 0 []),(3,.fn 82 0 []),(10,.val (.slice none 0 0))]⟩:Env)) (O':=(Zu O n [])) (n':=n) (Fit2.of (Yj hU rfl rfl ?_) (by omega)) ?_
  ·exact zSe
  refine Fit2.trans (Zl7 10 55 12 rfl (by omega)) ?_
  simp only [Y2,Yk,Us,K8,List.set_cons_zero,List.set_cons_succ,List.cons_append,List.nil_append,List.length_cons,List.length_nil,Nat.zero_add,Nat.reduceAdd,Nat.reduceLT,Nat.add_assoc]
  refine Fit2.trans (E':=(⟨87,[],[(0,.sl a0.length (fl Zd a0)),(1,.sl a1.length (fl Zd a1)),(2,.fn 81 0 []),(3,.fn 82 0 []),(10,.row n ([]:List S_api_KidEdit).length)]⟩:Env)) (O':=(Zu O n [some ⟨true,55,12,([]:List S_api_KidEdit).length,fl Zd ([]:List S_api_KidEdit)⟩])) (n':=(n+1)) (Fit2.of (Yj hU rfl rfl ?_) (by omega)) ?_
  ·exact zSe
  refine Vu (k:=1) (k':=2) hU [0] [0,0] rfl rfl rfl rfl ⟨rfl,rfl⟩ ?_
  exact zSe
 obtain ⟨z36,hz36,h⟩:=bC h
 refine Zee (J:=(K5 (fun z36=>JR n (⟨87,[],[(8,.val (.slice none 0 0)),(9,.val (.bool false))]⟩:Env) (Zu O n []) n) (fun z36=>JX 0 n (⟨87,[],[(0,.sl z36.1.length (fl Zd z36.1)),(1,.sl z36.2.1.length (fl Zd z36.2.1)),(10,.row n z36.2.2.length)]⟩:Env) (Zu O n [some ⟨true,55,12,z36.2.2.length,fl Zd z36.2.2⟩,none]) (n+2)))) (z:=z36) ?_ fun hw => ?_
 ·refine Xr hz36 (fun s0_=>⟨87,[],[(0,.sl s0_.1.length (fl Zd s0_.1)),(1,.sl s0_.2.1.length (fl Zd s0_.2.1)),(2,.fn 81 0 []),(3,.fn 82 0 []),(10,.row n s0_.2.2.length)]⟩) (fun s0_=>(Zu O n [some ⟨true,55,12,s0_.2.2.length,fl Zd s0_.2.2⟩,none])) (K5 (fun z36=>JR n (⟨87,[],[(8,.val (.slice none 0 0)),(9,.val (.bool false))]⟩:Env) (Zu O n []) n) (fun z36=>JX 0 n (⟨87,[],[(0,.sl z36.1.length (fl Zd z36.1)),(1,.sl z36.2.1.length (fl Zd z36.2.1)),(10,.row n z36.2.2.length)]⟩:Env) (Zu O n [some ⟨true,55,12,z36.2.2.length,fl Zd z36.2.2⟩,none]) (n+2))) ?_
  intro s0_ x0_ hs0_
  unfold Yv at hs0_
  try dsimp only
  refine Zj ?_
  refine zQD [0,1,2,3,10,20] [none,none,none] ?_
  refine Zn (t:=(cond (decide (0 < (s0_.1.length:Int))) (decide (0 < (s0_.2.1.length:Int))) false)) rfl (fun c35 => ?_) (fun c35 => ?_)
  ·replace hs0_:=Zq c35 hs0_
   refine zKd [0,1,2,3,10] [true,false] ?_
   refine Yy ?_
   refine Yy ?_
   refine Zj ?_
   obtain ⟨x5,hx5,ax5,bx5,cx5,hs0_⟩:=bE (f:=Zd) Zdi (fun _=>rfl) (by decide) hs0_
   obtain ⟨y6,hy6,hs0_⟩:=bC hs0_
   obtain ⟨x7,hx7,ax7,bx7,cx7,hs0_⟩:=bE (f:=Zd) Zdi (fun _=>rfl) (by decide) hs0_
   obtain ⟨y8,hy8,hs0_⟩:=bC hs0_
   refine Vh Zz (by kernel_rfl) [] (by kernel_rfl) ?_
   refine zF6 ax5 bx5 cx5 ax7 bx7 cx7 ?_
   refine PCall.of (Zat hy6) ?_
   refine zF6 ax5 bx5 cx5 ax7 bx7 cx7 ?_
   refine PCall.of (Zat hy8) ?_
   refine zF6 ax5 bx5 cx5 ax7 bx7 cx7 ?_
   refine zD [0,1,2,3,10,42] [true,false] ?_
   refine Zn (t:=(decide (y6 < y8))) rfl (fun c34 => ?_) (fun c34 => ?_)
   ·replace hs0_:=Zq c34 hs0_
    obtain ⟨x9,hx9,ax9,bx9,cx9,hs0_⟩:=bE (f:=Zd) Zdi (fun _=>rfl) (by decide) hs0_
    obtain ⟨l10,al10,bl10,cl10,gl10,hs0_⟩:=bS (lo:=(some (.i64,1))) (hi:=none) (f:=Zd) rfl rfl Zgw Zdi (fun _=>rfl) hs0_
    obtain ⟨l11,pl11,ql11,el11,hs0_⟩:=bA (k:=1) rfl hs0_
    refine K6 Zz (by kernel_rfl) [.plain,.plain,.plain,.plain,.pass,.pass,.plain,.low,.plain,.plain] (fun i=>i < (n+2)∧¬ i=n) [0,1,2,3,6,7,4,5,8,9] [.plain,.plain,.plain,.plain,.plain,.low,.pass,.pass,.plain,.plain] [] (by kernel_rfl) rfl ?_
    refine Ydb ax9 bx9 cx9 al10 bl10 cl10 gl10 pl11 ql11 el11 ?_
    refine zO ?_
    have hs0_:=Option.some.inj hs0_;subst hs0_
    refine And.intro rfl (Fit2.of (Yj hU rfl rfl ?_) (by omega))
    exact Z79 ax9 bx9 cx9 al10 bl10 cl10 gl10 pl11 ql11 el11
   replace hs0_:=Zp c34 hs0_
   refine Zj ?_
   obtain ⟨x16,hx16,ax16,bx16,cx16,hs0_⟩:=bE (f:=Zd) Zdi (fun _=>rfl) (by decide) hs0_
   obtain ⟨y17,hy17,hs0_⟩:=bC hs0_
   obtain ⟨x18,hx18,ax18,bx18,cx18,hs0_⟩:=bE (f:=Zd) Zdi (fun _=>rfl) (by decide) hs0_
   obtain ⟨y19,hy19,hs0_⟩:=bC hs0_
   refine Vh Zz (by kernel_rfl) [] (by kernel_rfl) ?_
   refine zF6 ax16 bx16 cx16 ax18 bx18 cx18 ?_
   refine PCall.of (Zat hy17) ?_
   refine zF6 ax16 bx16 cx16 ax18 bx18 cx18 ?_
   refine PCall.of (Zat hy19) ?_
   refine zF6 ax16 bx16 cx16 ax18 bx18 cx18 ?_
   refine zD [0,1,2,3,10,62] [true,false] ?_
   refine Zn (t:=(decide (y17 < y19))) rfl (fun c33 => ?_) (fun c33 => ?_)
   ·replace hs0_:=Zq c33 hs0_
    obtain ⟨x20,hx20,ax20,bx20,cx20,hs0_⟩:=bE (f:=Zd) Zdi (fun _=>rfl) (by decide) hs0_
    obtain ⟨l21,al21,bl21,cl21,gl21,hs0_⟩:=bS (lo:=(some (.i64,1))) (hi:=none) (f:=Zd) rfl rfl Zgw Zdi (fun _=>rfl) hs0_
    obtain ⟨l22,pl22,ql22,el22,hs0_⟩:=bA (k:=1) rfl hs0_
    refine K6 Zz (by kernel_rfl) [.plain,.plain,.plain,.plain,.pass,.pass,.plain,.low,.plain,.plain] (fun i=>i < (n+2)∧¬ i=n) [0,1,2,3,6,7,4,5,8,9] [.plain,.plain,.plain,.plain,.plain,.low,.pass,.pass,.plain,.plain] [] (by kernel_rfl) rfl ?_
    refine Ydb ax20 bx20 cx20 al21 bl21 cl21 gl21 pl22 ql22 el22 ?_
    refine zO ?_
    have hs0_:=Option.some.inj hs0_;subst hs0_
    refine And.intro rfl (Fit2.of (Yj hU rfl rfl ?_) (by omega))
    exact Z79 ax20 bx20 cx20 al21 bl21 cl21 gl21 pl22 ql22 el22
   replace hs0_:=Zp c33 hs0_
   refine Zj ?_
   obtain ⟨x26,hx26,ax26,bx26,cx26,hs0_⟩:=bE (f:=Zd) Zdi (fun _=>rfl) (by decide) hs0_
   obtain ⟨x27,hx27,ax27,bx27,cx27,hs0_⟩:=bE (f:=Zd) Zdi (fun _=>rfl) (by decide) hs0_
   obtain ⟨y28,hy28,hs0_⟩:=bC hs0_
   refine K6 Zz (by kernel_rfl) [.plain,.plain,.low,.low,.plain,.low,.low,.low,.plain,.plain,.plain,.pass,.bar,.plain] (fun i=>i < (n+2)) [0,1,2,3,4,5,6,7,8,9,10,11,12,13] [.plain,.plain,.low,.low,.plain,.low,.low,.low,.plain,.plain,.plain,.pass,.bar,.plain] [] (by kernel_rfl) rfl ?_
   refine zF6 ax26 bx26 cx26 ax27 bx27 cx27 ?_
   refine zO ?_
   first | refine PCallA.of (fun _ _=>X7 hy28) ?_ | refine PCall.of (X7 hy28) ?_
   refine zF6 ax26 bx26 cx26 ax27 bx27 cx27 ?_
   refine zO ?_
   refine zDs [0,1,2,3,10,11,12] [true,false,true] ?_
   refine zQ [0,1,2,3,10,11,33] ?_
   refine Zn (t:=(!y28.2)) rfl (fun c32 => ?_) (fun c32 => ?_)
   ·replace hs0_:=Zq c32 hs0_
    refine zQ [8,9] ?_
    refine zW ?_
    exact zEy hs0_
   replace hs0_:=Zp c32 hs0_
   refine zKd [0,1,2,3,10,11] [true,false,true] ?_
   obtain ⟨l29,al29,bl29,cl29,gl29,hs0_⟩:=bS (lo:=(some (.i64,1))) (hi:=none) (f:=Zd) rfl rfl Zgw Zdi (fun _=>rfl) hs0_
   obtain ⟨l30,al30,bl30,cl30,gl30,hs0_⟩:=bS (lo:=(some (.i64,1))) (hi:=none) (f:=Zd) rfl rfl Zgw Zdi (fun _=>rfl) hs0_
   obtain ⟨l31,pl31,ql31,el31,hs0_⟩:=bA (k:=1) rfl hs0_
   refine K6 Zz (by kernel_rfl) [.plain,.plain,.pass,.pass,.plain,.low,.plain,.low,.plain,.plain,.plain] (fun i=>i < (n+3)∧¬ i=n) [0,1,4,5,6,7,2,3,8,9,10] [.plain,.plain,.plain,.low,.plain,.low,.pass,.pass,.plain,.plain,.plain] [] (by kernel_rfl) rfl ?_
   simp only [push_cast,seval,↓reduceIte,Zk,al29,bl29,cl29,gl29,al30,bl30,cl30,gl30,pl31,ql31,el31,hN0,hN]
   refine zO ?_
   have hs0_:=Option.some.inj hs0_;subst hs0_
   refine And.intro rfl (Fit2.of (Yj hU rfl rfl ?_) (by omega))
   simp only [push_cast,seval,↓reduceIte,Zk,al29,bl29,cl29,gl29,al30,bl30,cl30,gl30,pl31,ql31,el31,hN0,hN]
  replace hs0_:=Zp c35 hs0_
  exact zEx hs0_
 rcases z36 with z36 | z36
 ·dsimp only [K5] at hw h
  refine Uz hw ?_
  try simp only [Xf,Yn,↓reduceIte,Nat.reduceEqDiff]
  exact Zq7 [.val (.slice none 0 0),.val (.bool false)]
 dsimp only [K5] at hw h
 refine Y9 hw ?_
 try simp only [Xf,Yn,↓reduceIte,Nat.reduceEqDiff]
 refine zDs [0,1,10] [true,false] ?_
 obtain ⟨l39,pl39,ql39,el39,h⟩:=bA (k:=z36.1.length) rfl h
 obtain ⟨l40,pl40,ql40,el40,h⟩:=bA (k:=z36.2.1.length) rfl h
 try simp only [el39,List.length_append,Nat.add_assoc] at pl40 ql40
 refine Xa Zz [] ?_
 simp only [push_cast,seval,↓reduceIte,Zk,pl39,ql39,el39,pl40,ql40,el40,List.append_assoc,hN0,hN]
 refine Zek ⟨87,[],[(8,.row n l40.length),(9,.val (.bool true))]⟩ (Zu O n [some ⟨true,55,12,l40.length,fl Zd l40⟩,none]) (Yj hU rfl rfl ?_) ?_
 ·simp only [push_cast,seval,↓reduceIte,Zk,pl39,ql39,el39,pl40,ql40,el40,List.append_assoc,hN0,hN]
 exact Xe [.row n l40.length,.val (.bool true)]
theorem Zph {Yi:(S_api_Edit→S_api_Edit→Option (S_api_Edit×Bool))} {Zx:(S_api_Edit→S_api_Edit→Option (S_api_Edit×Bool))} {Ye:(S_api_Edit→S_api_Edit→Option (S_api_Edit×Bool))} {Zl:((List S_api_KidEdit)→(List S_api_KidEdit)→Option ((List S_api_KidEdit)×Bool))} {Zv:(S_api_KidEdit→S_api_KidEdit→Option (S_api_KidEdit×Bool))} {Z8:(Zr→Option ((List S_api_Op)×Bool))} (U5:U3 Yi) (K4:Jb Zx) (G0:Uc Ye) (Y7:Yx Zl) (X7:X6 Zv) (G3:Ud Z8) {a0:S_api_KidEdit} {a1:S_api_KidEdit} {r:(S_api_KidEdit×Bool)} {O:Objs} {n:Nat} (h:Zdl Yi Zx Ye Zl Zv Z8 a0 a1=some r):GTo Try.prog 82 [.agg (Y5 a0),.agg (Y5 a1)] O n (.tup [.agg (Y5 r.1),.val (.bool r.2)]) O n:=by
 unfold Zdl at h
 refine zFn Try.call82 Try.func82 fun hU hN0 hN => ?_
 show W _ _ _ _ ⟨21,[],[(0,.agg (Y5 a0)),(1,.agg (Y5 a1))]⟩ (Zu O n []) _
 refine zQ [2,3,4] ?_
 refine Zj ?_
 obtain ⟨y2,hy2,h⟩:=bC h
 refine zCd (U5 hy2) [2,4,6,7] [true,false,true,true] ?_
 refine Zj ?_
 refine zRd [4,5] [false,false,true,false] ?_
 exact Xe [.agg [.val (.int .i64 a0.At),.val (.int .i64 y2.1.Kind),.val (.int .i64 y2.1.Old.Kind),.sl y2.1.Old.Words.length (fl (eI .u64) y2.1.Old.Words),.sl y2.1.Old.Kids.length (fl Za y2.1.Old.Kids),.val (.int .i64 y2.1.New.Kind),.sl y2.1.New.Words.length (fl (eI .u64) y2.1.New.Words),.sl y2.1.New.Kids.length (fl Za y2.1.New.Kids),.sl y2.1.Words.length (fl Zb y2.1.Words),.sl y2.1.Kids.length (fl Zd y2.1.Kids),.val (.int .i64 y2.1.List_),.sl y2.1.Ops.length (fl Zc y2.1.Ops)],.val (.bool y2.2)]
theorem Zvs {Yi:(S_api_Edit→S_api_Edit→Option (S_api_Edit×Bool))} {Zx:(S_api_Edit→S_api_Edit→Option (S_api_Edit×Bool))} {Ye:(S_api_Edit→S_api_Edit→Option (S_api_Edit×Bool))} {Zl:((List S_api_KidEdit)→(List S_api_KidEdit)→Option ((List S_api_KidEdit)×Bool))} {Zv:(S_api_KidEdit→S_api_KidEdit→Option (S_api_KidEdit×Bool))} {Z8:(Zr→Option ((List S_api_Op)×Bool))} (U5:U3 Yi) (K4:Jb Zx) (G0:Uc Ye) (Y7:Yx Zl) (X7:X6 Zv) (G3:Ud Z8) {a0:Zr} {r:((List S_api_Op)×Bool)} {O:Objs} {n:Nat} (h:Zdy Yi Zx Ye Zl Zv Z8 a0=some r):GTo Try.prog 84 [.agg (X8 a0)] O n (.tup [.sl r.1.length (fl Zc r.1),.val (.bool r.2)]) O n:=by
 unfold Zdy at h
 refine zFn Try.call84 Try.func84 fun hU hN0 hN => ?_
 show W _ _ _ _ ⟨108,[],[(0,.agg (X8 a0))]⟩ (Zu O n []) _
 refine zQ [1] ?_
 refine Xt (E':=⟨108,[],[(1,.ref n 0),(4,.ref (n+1) 0),(5,.ref (n+2) 0)]⟩) (O':=(Zu O n [some ⟨false,94,29,1,(X8 a0)⟩,some ⟨false,53,14,1,(Yw a0.P)⟩,some ⟨false,53,14,1,(Yw a0.Q)⟩])) (n0:=(n+3)) ?_ ?_
 ·refine Yb1 Zz (by kernel_rfl) [.low,.low,.low,.low,.pass,.pass,.pass,.pass] (fun i=>i < (n+1)) 4 5 [0,1,2,3] [6,7] [.low,.low,.low,.low] [.pass,.pass,.pass,.pass] [.pass,.pass,.pass,.pass] [] (by kernel_rfl) rfl rfl rfl ?_
  refine zS ?_
  repeat (with_reducible refine And.intro (by omega) ?_)
  refine And.intro ?_ ?_
  ·refine zS ?_
   repeat (with_reducible refine And.intro (by first | exact Gt rfl | exact Ua) ?_)
   exact zEf
  refine zS ?_
  repeat (with_reducible refine And.intro (by first | exact Gt rfl | exact Ua) ?_)
  refine And.intro rfl ?_
  refine Fit2.trans (E':=(⟨108,[],[(1,.ref n 0),(4,.ref (n+2) 0),(5,.ref (n+1) 0)]⟩:Env)) (O':=(Zu O n [some ⟨false,94,29,1,(X8 a0)⟩,some ⟨false,53,14,1,(Yw a0.Q)⟩,some ⟨false,53,14,1,(Yw a0.P)⟩])) (n':=(n+3)) (Fit2.of (Yj hU rfl rfl ?_) (by omega)) ?_
  ·exact zSe
  refine Vu (k:=3) (k':=3) hU [0,2,1] [0,2,1] rfl rfl rfl rfl ⟨rfl,rfl⟩ ?_
  exact zSe
 refine Zj ?_
 refine Yy ?_
 refine zQD [1,4,5,16] [none,none,none,none,none,none,none,none] ?_
 refine Zn (t:=(cond (a0.Of == 1) true (cond (a0.Of == 0) (a0.Q.Kind == 0) false))) rfl (fun c19 => ?_) (fun c19 => ?_)
 ·replace h:=Zq c19 h
  refine Zj ?_
  refine zR ?_
  refine Zek ⟨108,[],[(2,.row (n+3) ([a0.P]:List S_api_Op).length),(3,.val (.bool true))]⟩ (Zu O n [none,none,none,some ⟨true,53,14,([a0.P]:List S_api_Op).length,fl Zc ([a0.P]:List S_api_Op)⟩]) (Yj hU rfl rfl ?_) ?_
  ·exact zSe
  exact Xe [.row (n+3) ([a0.P]:List S_api_Op).length,.val (.bool true)]
 replace h:=Zp c19 h
 refine zQD [4,5,32] [none,none,none] ?_
 refine Zn (t:=(cond (a0.Of == 2) true (a0.P.Kind == 0))) rfl (fun c18 => ?_) (fun c18 => ?_)
 ·replace h:=Zq c18 h
  refine Zj ?_
  refine zR ?_
  refine Zek ⟨108,[],[(2,.row (n+3) ([a0.Q]:List S_api_Op).length),(3,.val (.bool true))]⟩ (Zu O n [none,none,none,some ⟨true,53,14,([a0.Q]:List S_api_Op).length,fl Zc ([a0.Q]:List S_api_Op)⟩]) (Yj hU rfl rfl ?_) ?_
  ·exact zSe
  exact Xe [.row (n+3) ([a0.Q]:List S_api_Op).length,.val (.bool true)]
 replace h:=Zp c18 h
 refine zQD [4,5,43] [none,none,none] ?_
 refine Zn (t:=(cond (a0.P.Kind == 2) (a0.Q.Kind == 1) false)) rfl (fun c17 => ?_) (fun c17 => ?_)
 ·replace h:=Zq c17 h
  refine Zj ?_
  obtain ⟨y2,hy2,h⟩:=bC h
  refine zCd (Qs hy2) [2,3] [false,false,false] ?_
  exact Xe [.val (.slice none 0 0),.val (.bool y2)]
 replace h:=Zp c17 h
 refine zQ [4,5,57] ?_
 refine Zn (t:=(a0.P.Kind == 2)) rfl (fun c16 => ?_) (fun c16 => ?_)
 ·replace h:=Zq c16 h
  refine Zj ?_
  obtain ⟨x5,hx5,ax5,bx5,cx5,h⟩:=bE (f:=Za) Gr (fun _=>rfl) (by decide) h
  obtain ⟨y6,hy6,h⟩:=bC h
  refine K6 Zz (by kernel_rfl) [.low,.low,.low,.low,.low,.low,.low,.plain,.plain,.plain,.pass,.bar,.plain] (fun i=>i < (n+3)) [0,1,2,3,4,5,6,7,8,9,10,11,12] [.low,.low,.low,.low,.low,.low,.low,.plain,.plain,.plain,.pass,.bar,.plain] [] (by kernel_rfl) rfl ?_
  refine zF3 ax5 bx5 cx5 ?_
  refine zO ?_
  first | refine PCallA.of (fun _ _=>Ux hy6) ?_ | refine PCall.of (Ux hy6) ?_
  refine zF3 ax5 bx5 cx5 ?_
  refine zO ?_
  refine zDs [6,7] [false,false,false,true] ?_
  refine zR ?_
  refine Zek ⟨108,[],[(2,.row (n+5) ([(⟨2,0,([y6.1]:List S_api_Tree),(⟨0,(⟨0,([]:(List Int)),([]:(List S_api_Tree))⟩:S_api_Tree),(⟨0,([]:(List Int)),([]:(List S_api_Tree))⟩:S_api_Tree),([]:(List Zf)),([]:(List S_api_KidEdit)),0,([]:(List S_api_Op))⟩:S_api_Edit)⟩:S_api_Op)]:List S_api_Op).length),(3,.val (.bool y6.2))]⟩ (Zu O n [none,none,none,none,none,some ⟨true,53,14,([(⟨2,0,([y6.1]:List S_api_Tree),(⟨0,(⟨0,([]:(List Int)),([]:(List S_api_Tree))⟩:S_api_Tree),(⟨0,([]:(List Int)),([]:(List S_api_Tree))⟩:S_api_Tree),([]:(List Zf)),([]:(List S_api_KidEdit)),0,([]:(List S_api_Op))⟩:S_api_Edit)⟩:S_api_Op)]:List S_api_Op).length,fl Zc ([(⟨2,0,([y6.1]:List S_api_Tree),(⟨0,(⟨0,([]:(List Int)),([]:(List S_api_Tree))⟩:S_api_Tree),(⟨0,([]:(List Int)),([]:(List S_api_Tree))⟩:S_api_Tree),([]:(List Zf)),([]:(List S_api_KidEdit)),0,([]:(List S_api_Op))⟩:S_api_Edit)⟩:S_api_Op)]:List S_api_Op)⟩]) (Yj hU rfl rfl ?_) ?_
  ·exact zSe
  exact Xe [.row (n+5) ([(⟨2,0,([y6.1]:List S_api_Tree),(⟨0,(⟨0,([]:(List Int)),([]:(List S_api_Tree))⟩:S_api_Tree),(⟨0,([]:(List Int)),([]:(List S_api_Tree))⟩:S_api_Tree),([]:(List Zf)),([]:(List S_api_KidEdit)),0,([]:(List S_api_Op))⟩:S_api_Edit)⟩:S_api_Op)]:List S_api_Op).length,.val (.bool y6.2)]
 replace h:=Zp c16 h
 refine zQ [4,5,76] ?_
 refine Zn (t:=(a0.Q.Kind == 1)) rfl (fun c15 => ?_) (fun c15 => ?_)
 ·replace h:=Zq c15 h
  refine Zj ?_
  obtain ⟨y10,hy10,h⟩:=bC h
  obtain ⟨x11,hx11,ax11,bx11,cx11,h⟩:=bE (f:=Za) Gr (fun _=>rfl) (by decide) h
  obtain ⟨y12,hy12,h⟩:=bC h
  refine K6 Zz (by kernel_rfl) [.low,.low,.low,.low,.low,.low,.low,.low,.plain,.plain,.plain,.pass,.bar,.plain] (fun i=>i < (n+3)) [0,1,2,3,4,5,6,7,8,9,10,11,12,13] [.low,.low,.low,.low,.low,.low,.low,.low,.plain,.plain,.plain,.pass,.bar,.plain] [] (by kernel_rfl) rfl ?_
  refine zF3 ax11 bx11 cx11 ?_
  refine zO ?_
  first | refine PCallA.of (fun _ _=>Zcu hy10) ?_ | refine PCall.of (Zcu hy10) ?_
  refine zF3 ax11 bx11 cx11 ?_
  refine zO ?_
  first | refine PCallA.of (fun _ _=>Ux hy12) ?_ | refine PCall.of (Ux hy12) ?_
  refine zF3 ax11 bx11 cx11 ?_
  refine zO ?_
  refine zDs [8,9] [false,false,false,true] ?_
  refine zR ?_
  refine Zek ⟨108,[],[(2,.row (n+5) ([(⟨1,0,([y12.1]:List S_api_Tree),(⟨0,(⟨0,([]:(List Int)),([]:(List S_api_Tree))⟩:S_api_Tree),(⟨0,([]:(List Int)),([]:(List S_api_Tree))⟩:S_api_Tree),([]:(List Zf)),([]:(List S_api_KidEdit)),0,([]:(List S_api_Op))⟩:S_api_Edit)⟩:S_api_Op)]:List S_api_Op).length),(3,.val (.bool y12.2))]⟩ (Zu O n [none,none,none,none,none,some ⟨true,53,14,([(⟨1,0,([y12.1]:List S_api_Tree),(⟨0,(⟨0,([]:(List Int)),([]:(List S_api_Tree))⟩:S_api_Tree),(⟨0,([]:(List Int)),([]:(List S_api_Tree))⟩:S_api_Tree),([]:(List Zf)),([]:(List S_api_KidEdit)),0,([]:(List S_api_Op))⟩:S_api_Edit)⟩:S_api_Op)]:List S_api_Op).length,fl Zc ([(⟨1,0,([y12.1]:List S_api_Tree),(⟨0,(⟨0,([]:(List Int)),([]:(List S_api_Tree))⟩:S_api_Tree),(⟨0,([]:(List Int)),([]:(List S_api_Tree))⟩:S_api_Tree),([]:(List Zf)),([]:(List S_api_KidEdit)),0,([]:(List S_api_Op))⟩:S_api_Edit)⟩:S_api_Op)]:List S_api_Op)⟩]) (Yj hU rfl rfl ?_) ?_
  ·exact zSe
  exact Xe [.row (n+5) ([(⟨1,0,([y12.1]:List S_api_Tree),(⟨0,(⟨0,([]:(List Int)),([]:(List S_api_Tree))⟩:S_api_Tree),(⟨0,([]:(List Int)),([]:(List S_api_Tree))⟩:S_api_Tree),([]:(List Zf)),([]:(List S_api_KidEdit)),0,([]:(List S_api_Op))⟩:S_api_Edit)⟩:S_api_Op)]:List S_api_Op).length,.val (.bool y12.2)]
 replace h:=Zp c15 h
 refine zKd [4,5] [false,true,true] ?_
 refine Zj ?_
 obtain ⟨y14,hy14,h⟩:=bC h
 refine zCd (U5 hy14) [10,11] [false,false,false,true] ?_
 refine Zj ?_
 refine zR ?_
 refine Zek ⟨108,[],[(2,.row (n+4) ([(⟨3,0,([]:(List S_api_Tree)),y14.1⟩:S_api_Op)]:List S_api_Op).length),(3,.val (.bool y14.2))]⟩ (Zu O n [none,none,none,none,some ⟨true,53,14,([(⟨3,0,([]:(List S_api_Tree)),y14.1⟩:S_api_Op)]:List S_api_Op).length,fl Zc ([(⟨3,0,([]:(List S_api_Tree)),y14.1⟩:S_api_Op)]:List S_api_Op)⟩]) (Yj hU rfl rfl ?_) ?_
 ·exact zSe
 exact Xe [.row (n+4) ([(⟨3,0,([]:(List S_api_Tree)),y14.1⟩:S_api_Op)]:List S_api_Op).length,.val (.bool y14.2)]
theorem Zul:∀ k,(U3 ((Zh k).1))∧(Jb ((Zh k).2.1))∧(Uc ((Zh k).2.2.1))∧(Yx ((Zh k).2.2.2.1))∧(X6 ((Zh k).2.2.2.2.1))∧(Ud ((Zh k).2.2.2.2.2)):=fun k=>by
 induction k with
 | zero=>exact ⟨@fun a0 a1 r O n h=>(nomatch (show (none:Option _)=some _ from h)),@fun a0 a1 r O n h=>(nomatch (show (none:Option _)=some _ from h)),@fun a0 a1 r O n h=>(nomatch (show (none:Option _)=some _ from h)),@fun a0 a1 r O n h=>(nomatch (show (none:Option _)=some _ from h)),@fun a0 a1 r O n h=>(nomatch (show (none:Option _)=some _ from h)),@fun a0 r O n h=>(nomatch (show (none:Option _)=some _ from h))⟩
 | succ k ih=>exact ⟨@fun a0 a1 r O n h=>Zwu (ih.1) (ih.2.1) (ih.2.2.1) (ih.2.2.2.1) (ih.2.2.2.2.1) (ih.2.2.2.2.2)  h,@fun a0 a1 r O n h=>Zqh (ih.1) (ih.2.1) (ih.2.2.1) (ih.2.2.2.1) (ih.2.2.2.2.1) (ih.2.2.2.2.2)  h,@fun a0 a1 r O n h=>Zvr (ih.1) (ih.2.1) (ih.2.2.1) (ih.2.2.2.1) (ih.2.2.2.2.1) (ih.2.2.2.2.2)  h,@fun a0 a1 r O n h=>Zfe (ih.1) (ih.2.1) (ih.2.2.1) (ih.2.2.2.1) (ih.2.2.2.2.1) (ih.2.2.2.2.2)  h,@fun a0 a1 r O n h=>Zph (ih.1) (ih.2.1) (ih.2.2.1) (ih.2.2.2.1) (ih.2.2.2.2.1) (ih.2.2.2.2.2)  h,@fun a0 r O n h=>Zvs (ih.1) (ih.2.1) (ih.2.2.1) (ih.2.2.2.1) (ih.2.2.2.2.1) (ih.2.2.2.2.2)  h⟩
theorem Zyo {a0:S_api_Edit} {a1:S_api_Edit} {r:(S_api_Edit×Bool)} {O:Objs} {n:Nat} (h:Zin a0 a1=some r):GTo Try.prog 27 [.agg (Ze a0),.agg (Ze a1)] O n (.tup [.agg (Ze r.1),.val (.bool r.2)]) O n:=by
 obtain ⟨k,hk⟩:=Zcr h
 exact (Zul k).1  hk
theorem Zb0 {a0:S_api_Edit} {a1:S_api_Edit} {r:(S_api_Edit×Bool)} {O:Objs} {n:Nat} (h:Kh a0 a1=some r):GTo Try.prog 10 [.agg (Ze a0),.agg (Ze a1)] O n (.tup [.agg (Ze r.1),.val (.bool r.2)]) O n:=by
 unfold Kh at h
 refine zFn Try.call10 Try.func10 fun hU hN0 hN => ?_
 show W _ _ _ _ ⟨19,[],[(0,.agg (Ze a0)),(1,.agg (Ze a1))]⟩ (Zu O n []) _
 refine zQ [2,3,4] ?_
 refine Zj ?_
 obtain ⟨y2,hy2,h⟩:=bC h
 refine zCd (Zyo hy2) [4,6,7] [false,false,true,true] ?_
 refine Zj ?_
 refine zQ [4,6,15] ?_
 refine Zn (t:=(!y2.2)) rfl (fun c5 => ?_) (fun c5 => ?_)
 ·replace h:=Zq c5 h
  refine Zj ?_
  refine zRd [4,5] [false,false,true,false] ?_
  exact Xe [.agg [.val (.int .i64 0),.val (.int .i64 0),.val (.slice none 0 0),.val (.slice none 0 0),.val (.int .i64 0),.val (.slice none 0 0),.val (.slice none 0 0),.val (.slice none 0 0),.val (.slice none 0 0),.val (.int .i64 0),.val (.slice none 0 0)],.val (.bool false)]
 replace h:=Zp c5 h
 refine zKd [4,6] [false,false,true,true] ?_
 refine Zj ?_
 obtain ⟨y4,hy4,h⟩:=bC h
 refine zCd (Zrr hy4) [4,5] [false,false,true,false] ?_
 exact Xe [.agg (Ze y4),.val (.bool true)]
theorem Zcc  {r:Bool} {O:Objs} {n:Nat} (h:Vi=some r):GTo Try.prog 21 [] O n (.val (.bool r)) O n:=by
 unfold Vi at h
 refine zFn Try.call21 Try.func21 fun hU hN0 hN => ?_
 show W _ _ _ _ ⟨53,[],[]⟩ (Zu O n []) _
 refine zQ [] ?_
 refine Zj ?_
 refine zR ?_
 refine Zek ⟨53,[],[(1,.row (n+1) ([(⟨10,([1]:List Int),([]:(List S_api_Tree))⟩:S_api_Tree)]:List S_api_Tree).length)]⟩ (Zu O n [none,some ⟨true,25,3,([(⟨10,([1]:List Int),([]:(List S_api_Tree))⟩:S_api_Tree)]:List S_api_Tree).length,fl Za ([(⟨10,([1]:List Int),([]:(List S_api_Tree))⟩:S_api_Tree)]:List S_api_Tree)⟩]) (Yj hU rfl rfl ?_) ?_
 ·exact zSe
 refine Zek ⟨53,[],[(1,.sl ([(⟨10,([1]:List Int),([]:(List S_api_Tree))⟩:S_api_Tree)]:List S_api_Tree).length (fl Za ([(⟨10,([1]:List Int),([]:(List S_api_Tree))⟩:S_api_Tree)]:List S_api_Tree)))]⟩ (Zu O n [none,none]) (Yj hU rfl rfl ?_) ?_
 ·exact zSe
 refine Zj ?_
 refine zR ?_
 refine Zek ⟨53,[],[(1,.sl ([(⟨10,([1]:List Int),([]:(List S_api_Tree))⟩:S_api_Tree)]:List S_api_Tree).length (fl Za ([(⟨10,([1]:List Int),([]:(List S_api_Tree))⟩:S_api_Tree)]:List S_api_Tree))),(2,.ref (n+3) 0)]⟩ (Zu O n [none,none,some ⟨true,53,14,([(⟨2,0,([(⟨10,([1]:List Int),([]:(List S_api_Tree))⟩:S_api_Tree)]:List S_api_Tree),(⟨0,(⟨0,([]:(List Int)),([]:(List S_api_Tree))⟩:S_api_Tree),(⟨0,([]:(List Int)),([]:(List S_api_Tree))⟩:S_api_Tree),([]:(List Zf)),([]:(List S_api_KidEdit)),0,([]:(List S_api_Op))⟩:S_api_Edit)⟩:S_api_Op),(⟨0,1,([]:(List S_api_Tree)),(⟨0,(⟨0,([]:(List Int)),([]:(List S_api_Tree))⟩:S_api_Tree),(⟨0,([]:(List Int)),([]:(List S_api_Tree))⟩:S_api_Tree),([]:(List Zf)),([]:(List S_api_KidEdit)),0,([]:(List S_api_Op))⟩:S_api_Edit)⟩:S_api_Op)]:List S_api_Op).length,fl Zc ([(⟨2,0,([(⟨10,([1]:List Int),([]:(List S_api_Tree))⟩:S_api_Tree)]:List S_api_Tree),(⟨0,(⟨0,([]:(List Int)),([]:(List S_api_Tree))⟩:S_api_Tree),(⟨0,([]:(List Int)),([]:(List S_api_Tree))⟩:S_api_Tree),([]:(List Zf)),([]:(List S_api_KidEdit)),0,([]:(List S_api_Op))⟩:S_api_Edit)⟩:S_api_Op),(⟨0,1,([]:(List S_api_Tree)),(⟨0,(⟨0,([]:(List Int)),([]:(List S_api_Tree))⟩:S_api_Tree),(⟨0,([]:(List Int)),([]:(List S_api_Tree))⟩:S_api_Tree),([]:(List Zf)),([]:(List S_api_KidEdit)),0,([]:(List S_api_Op))⟩:S_api_Edit)⟩:S_api_Op)]:List S_api_Op)⟩,some ⟨false,30,11,1,[.val (.int .i64 3),.val (.int .i64 0),.val (.slice none 0 0),.val (.slice none 0 0),.val (.int .i64 0),.val (.slice none 0 0),.val (.slice none 0 0),.val (.slice none 0 0),.val (.slice none 0 0),.val (.int .i64 4),.row (n+2) ([(⟨2,0,([(⟨10,([1]:List Int),([]:(List S_api_Tree))⟩:S_api_Tree)]:List S_api_Tree),(⟨0,(⟨0,([]:(List Int)),([]:(List S_api_Tree))⟩:S_api_Tree),(⟨0,([]:(List Int)),([]:(List S_api_Tree))⟩:S_api_Tree),([]:(List Zf)),([]:(List S_api_KidEdit)),0,([]:(List S_api_Op))⟩:S_api_Edit)⟩:S_api_Op),(⟨0,1,([]:(List S_api_Tree)),(⟨0,(⟨0,([]:(List Int)),([]:(List S_api_Tree))⟩:S_api_Tree),(⟨0,([]:(List Int)),([]:(List S_api_Tree))⟩:S_api_Tree),([]:(List Zf)),([]:(List S_api_KidEdit)),0,([]:(List S_api_Op))⟩:S_api_Edit)⟩:S_api_Op)]:List S_api_Op).length]⟩]) (Yj hU rfl rfl ?_) ?_
 ·exact zSe
 refine Zek ⟨53,[],[(1,.sl ([(⟨10,([1]:List Int),([]:(List S_api_Tree))⟩:S_api_Tree)]:List S_api_Tree).length (fl Za ([(⟨10,([1]:List Int),([]:(List S_api_Tree))⟩:S_api_Tree)]:List S_api_Tree))),(2,.ref (n+3) 0)]⟩ (Zu O n [none,none,none,some ⟨false,30,11,1,[.val (.int .i64 3),.val (.int .i64 0),.val (.slice none 0 0),.val (.slice none 0 0),.val (.int .i64 0),.val (.slice none 0 0),.val (.slice none 0 0),.val (.slice none 0 0),.val (.slice none 0 0),.val (.int .i64 4),.sl ([(⟨2,0,([(⟨10,([1]:List Int),([]:(List S_api_Tree))⟩:S_api_Tree)]:List S_api_Tree),(⟨0,(⟨0,([]:(List Int)),([]:(List S_api_Tree))⟩:S_api_Tree),(⟨0,([]:(List Int)),([]:(List S_api_Tree))⟩:S_api_Tree),([]:(List Zf)),([]:(List S_api_KidEdit)),0,([]:(List S_api_Op))⟩:S_api_Edit)⟩:S_api_Op),(⟨0,1,([]:(List S_api_Tree)),(⟨0,(⟨0,([]:(List Int)),([]:(List S_api_Tree))⟩:S_api_Tree),(⟨0,([]:(List Int)),([]:(List S_api_Tree))⟩:S_api_Tree),([]:(List Zf)),([]:(List S_api_KidEdit)),0,([]:(List S_api_Op))⟩:S_api_Edit)⟩:S_api_Op)]:List S_api_Op).length (fl Zc ([(⟨2,0,([(⟨10,([1]:List Int),([]:(List S_api_Tree))⟩:S_api_Tree)]:List S_api_Tree),(⟨0,(⟨0,([]:(List Int)),([]:(List S_api_Tree))⟩:S_api_Tree),(⟨0,([]:(List Int)),([]:(List S_api_Tree))⟩:S_api_Tree),([]:(List Zf)),([]:(List S_api_KidEdit)),0,([]:(List S_api_Op))⟩:S_api_Edit)⟩:S_api_Op),(⟨0,1,([]:(List S_api_Tree)),(⟨0,(⟨0,([]:(List Int)),([]:(List S_api_Tree))⟩:S_api_Tree),(⟨0,([]:(List Int)),([]:(List S_api_Tree))⟩:S_api_Tree),([]:(List Zf)),([]:(List S_api_KidEdit)),0,([]:(List S_api_Op))⟩:S_api_Edit)⟩:S_api_Op)]:List S_api_Op))]⟩]) (Yj hU rfl rfl ?_) ?_
 ·exact zSe
 refine Zek ⟨53,[],[(1,.sl ([(⟨10,([1]:List Int),([]:(List S_api_Tree))⟩:S_api_Tree)]:List S_api_Tree).length (fl Za ([(⟨10,([1]:List Int),([]:(List S_api_Tree))⟩:S_api_Tree)]:List S_api_Tree))),(2,.ip [.val (.int .i64 3),.val (.int .i64 0),.sl ([]:(List Int)).length (fl (eI .u64) ([]:(List Int))),.sl ([]:(List S_api_Tree)).length (fl Za ([]:(List S_api_Tree))),.val (.int .i64 0),.sl ([]:(List Int)).length (fl (eI .u64) ([]:(List Int))),.sl ([]:(List S_api_Tree)).length (fl Za ([]:(List S_api_Tree))),.sl ([]:(List Zf)).length (fl Zb ([]:(List Zf))),.sl ([]:(List S_api_KidEdit)).length (fl Zd ([]:(List S_api_KidEdit))),.val (.int .i64 4),.sl ([(⟨2,0,([(⟨10,([1]:List Int),([]:(List S_api_Tree))⟩:S_api_Tree)]:List S_api_Tree),(⟨0,(⟨0,([]:(List Int)),([]:(List S_api_Tree))⟩:S_api_Tree),(⟨0,([]:(List Int)),([]:(List S_api_Tree))⟩:S_api_Tree),([]:(List Zf)),([]:(List S_api_KidEdit)),0,([]:(List S_api_Op))⟩:S_api_Edit)⟩:S_api_Op),(⟨0,1,([]:(List S_api_Tree)),(⟨0,(⟨0,([]:(List Int)),([]:(List S_api_Tree))⟩:S_api_Tree),(⟨0,([]:(List Int)),([]:(List S_api_Tree))⟩:S_api_Tree),([]:(List Zf)),([]:(List S_api_KidEdit)),0,([]:(List S_api_Op))⟩:S_api_Edit)⟩:S_api_Op)]:List S_api_Op).length (fl Zc ([(⟨2,0,([(⟨10,([1]:List Int),([]:(List S_api_Tree))⟩:S_api_Tree)]:List S_api_Tree),(⟨0,(⟨0,([]:(List Int)),([]:(List S_api_Tree))⟩:S_api_Tree),(⟨0,([]:(List Int)),([]:(List S_api_Tree))⟩:S_api_Tree),([]:(List Zf)),([]:(List S_api_KidEdit)),0,([]:(List S_api_Op))⟩:S_api_Edit)⟩:S_api_Op),(⟨0,1,([]:(List S_api_Tree)),(⟨0,(⟨0,([]:(List Int)),([]:(List S_api_Tree))⟩:S_api_Tree),(⟨0,([]:(List Int)),([]:(List S_api_Tree))⟩:S_api_Tree),([]:(List Zf)),([]:(List S_api_KidEdit)),0,([]:(List S_api_Op))⟩:S_api_Edit)⟩:S_api_Op)]:List S_api_Op))] 0)]⟩ (Zu O n [none,none,none,none]) (Yj hU rfl rfl ?_) ?_
 ·exact zSe
 refine Zj ?_
 obtain ⟨y3,hy3,h⟩:=bC h
 obtain ⟨y4,hy4,h⟩:=bC h
 refine K6 Zz (by kernel_rfl) [.low,.low,.low,.low,.plain,.plain,.plain,.pass,.bar,.plain] (fun i=>i < (n+4)) [0,1,2,3,4,5,6,7,8,9] [.low,.low,.low,.low,.plain,.plain,.plain,.pass,.bar,.plain] [] (by kernel_rfl) rfl ?_
 refine zS ?_
 refine zO ?_
 first | refine PCallA.of (fun _ _=>Zcu hy3) ?_ | refine PCall.of (Zcu hy3) ?_
 refine zS ?_
 refine zO ?_
 first | refine PCallA.of (fun _ _=>Zb0 hy4) ?_ | refine PCall.of (Zb0 hy4) ?_
 refine zS ?_
 refine zO ?_
 refine zDs [1,3,4] [false,false,false,false,true] ?_
 obtain ⟨y6,hy6,h⟩:=bC h
 refine zR ?_
 refine GCalls.argsW ?_ ((Ux hy6).then ?_)
 ·exact zSe
 refine zS ?_
 refine zD [3,4,5,6] [false,false,false,false,true,true] ?_
 obtain ⟨z9,hz9,h⟩:=bC h
 refine Xt (E':=⟨53,[],[(0,.val (.bool z9))]⟩) (O':=(Zu O n [none,none,none,none,none,none])) (n0:=(n+6)) ?_ ?_
 ·rcases Bool.eq_false_or_eq_true y4.2 with c14 | c14
  ·replace hz9:=Zq c14 hz9
   rcases Bool.eq_false_or_eq_true y6.2 with c15 | c15
   ·replace hz9:=Zq c15 hz9
    try rw [c15] at c14
    rcases Bool.eq_false_or_eq_true ((y4.1.Ops.length:Int) == 1) with c16 | c16
    ·replace hz9:=Zq c16 hz9
     try rw [c16] at c14
     try rw [c16] at c15
     obtain ⟨x12,hx12,ax12,bx12,cx12,hz9⟩:=bE (f:=Zc) Zdh (fun _=>rfl) (by decide) hz9
     have g13:=Zhi (f:=Zc) (off:=1) (sz:=14) Z0y (fun _=>rfl) (by decide) (by decide) hx12
     refine Ybs [none,none,none,none,none,some true,some true,some true,some true,some true,some true,none,none,none,none] c14 c15 c16 ax12 bx12 cx12 g13 ?_
     refine zG ?_
     exact Ybr hz9 c14 c15 c16 ax12 bx12 cx12 g13
    replace hz9:=Zp c16 hz9
    try rw [c16] at c14
    try rw [c16] at c15
    refine Zll [none,none,none,none,none,some false,some false,some false,some false,some false,some false,some false,some false,some false,some false] c14 c15 c16 ?_
    refine zG ?_
    exact Zl1 hz9 c14 c15 c16
   replace hz9:=Zp c15 hz9
   try rw [c15] at c14
   refine Zbb [none,none,none,none,none,some false,some false,some false,some false,some false,some false,some false,some false,some false,some false] c14 c15 ?_
   refine zG ?_
   exact Zm2 hz9 c14 c15
  replace hz9:=Zp c14 hz9
  refine Zbv [none,none,none,none,none,some false,some false,some false,some false,some false,some false,some false,some false,some false,some false] c14 ?_
  refine zG ?_
  exact G4 hz9 c14
 exact Xe [.val (.bool z9)]
theorem Zbc {a0:S_api_Edit} {a1:Bool} {r:Bool} {O:Objs} {n:Nat} (h:Vf a0 a1=some r):GTo Try.prog 22 [.agg (Ze a0),.val (.bool a1)] O n (.val (.bool r)) O n:=by
 unfold Vf at h
 refine zFn Try.call22 Try.func22 fun hU hN0 hN => ?_
 show W _ _ _ _ ⟨11,[],[(0,.agg (Ze a0)),(1,.val (.bool a1))]⟩ (Zu O n []) _
 refine zQ [1,2] ?_
 obtain ⟨z2,hz2,h⟩:=bC h
 refine Xt (E':=⟨11,[],[(4,.val (.bool z2))]⟩) (O':=(Zu O n [none])) (n0:=(n+1)) ?_ ?_
 ·rcases Bool.eq_false_or_eq_true a1 with c5 | c5
  ·replace hz2:=Zq c5 hz2
   obtain ⟨y4,hy4,hz2⟩:=bC hz2
   refine Zbv [some true,some true] c5 ?_
   refine (Qn hy4).then ?_
   refine zX1 c5 ?_
   exact G4 hz2 c5
  replace hz2:=Zp c5 hz2
  refine Zbv [some false,some false] c5 ?_
  exact G4 hz2 c5
 exact Xe [.val (.bool z2)]
attribute [local push_cast] Try.results23 Try.results48 Try.results6 Try.results7 X8 Ze Y5 Yw Zi Xb Znl Znk Zn7 Zn6 Xf Yn Zjx Ze1 Ze0 onW Qm Zez Zeo Zqt Zpc Zhx Zh1 Zhw Zh0 Zkr Zko Zhz Zkq Zkp Zhy Zkm Zft evS wok K3 Op.operands Call.operands gop onK onP atK List.all_cons List.all_nil Bool.and_true Bool.true_and Bool.and_self Value.oneCell' List.take_zero List.take_succ_cons List.take_nil List.drop_zero List.drop_succ_cons List.drop_nil List.append_nil Nat.add_zero Nat.zero_add Za2 Yt ev Vz Zf7 Znd Znc Zni Zng Znh Zne Znf Znb Ztu Zuf Zwl Zi7 Zcp Zjv Zef Zhj Zgy Zc0 Zc5 Zex Zeu Zc3 Zew Zev Zc2 Zes Zc1 Zc4 Zb7 Zet Zpr Ze2 Zax Zif Zay Zln Zi5 Zvk bLo bHi bMx Zcq Zlm Zyh Zi4 Zmf Zf9 Gc Zrc Zyi Zid Zyj Zco Zzw Zj0 Zj4 Zjz Zj3 Znx Znu Zns Zhl Zj1 Znw Znv Zj2 Znt Zm3 gone Zki Zfl Zfk pop TK.isAgg Zn1 Zn5 Zn0 Zn4 Zkd Zr2 Zry Zn3 Zr1 Zr0 Zn2 Zrx G.under G.unders List.getD_cons_zero List.getD_cons_succ List.set_cons_zero List.set_cons_succ List.map_cons List.map_nil List.toList_toArray Array.toList_append Option.toArray_none Option.toArray_some Array.toList_map Option.map_some Option.map_none Option.bind_some Option.bind_none List.getElem?_cons_zero List.getElem?_cons_succ List.getElem?_nil List.nil_append List.cons_append List.replicate_succ List.replicate_zero List.length_cons List.length_nil and_true true_and and_false false_and Bool.true_eq_false Bool.false_eq_true forall_const false_implies implies_true IntKind.bits if_true if_false ite_true ite_false eq_self true_implies false_or or_false or_true true_or not_true_eq_false not_false_eq_true decide_true decide_false decide_eq_true_eq decide_eq_false_iff_not beq_iff_eq bne_iff_ne ne_eq Bool.not_eq_true Bool.not_eq_false beq_eq_false_iff_ne bne_eq_false_iff_eq beq_self_eq_true bne_self_eq_false Option.some.injEq exists_eq_left' exists_eq_left ge_iff_le gt_iff_lt decide_not Bool.not_true Bool.not_false imp_self Zrd cond_true cond_false Z3x Z3w Bool.not_not Bool.and_false Bool.false_and Bool.or_true Bool.true_or Bool.or_false Bool.false_or Uy Zan Us K8 Y2 Yk Option.join_some Nat.add_assoc Int.toNat_natCast eI eB eS eL Y8 Zf8 Zc6 Zno Znm Znn Z0l Z1c Zgc Zdc Zod Zob Zoc Zww Zp5 Zt4 Zog Zvc Zd9 Zp6 List.length_append G.agg.injEq G.row.injEq G.ref.injEq G.val.injEq G.sl.injEq G.tup.injEq Value.int.injEq Value.bool.injEq Value.string.injEq List.cons.injEq exists_and_left exists_const List.flatten_cons List.flatten_nil Int.le_refl Nat.le_refl X5 Yl Yp Bool.not_eq_true' Bool.not_eq_false' Zpb Zit Ztb Ztf Zta Zte Zyf Zyb List.size_toArray Zr4 Zqy G.ren G.rens Zur Zg5 Zof Zm9 Zna Zkn Ztg Zei G.fn.injEq Zlj Zlk Zpa Zyc Zli Ztd Zye Zyd Ztc Zrh Zxf Option.join_none Yb Gj undef Zmi Arr.len Arr.put_eq Zgb Zhq Zfh Zdb Zoa Zn8 Zn9 onB Z0k Zrb Zkl Zji Zjj Zjk Zjl Zjm Zjn Zhm Zht Zhr Zfj Zdd Zhs Zkh Zkg Zkf Zke Z1b Z25 Zwv Zvx Vs Zwm Zrk Zhu Zfi Zyq Zqz Zi3 Zmc Zen Ziq Zjo Zjp Zjq Zjr Zg9 Zha Zhb Zhc Zhd Zhe Zhf Zhg prT Ze3 Z43 Zs0 Z0y Zs1 Z44 Zs2 Zw4 Zs3 Z45 Zs4 Z46 Zs5 Z47 Zs6 Z48 Zs7 Zxk Zoh Zxl Zoi Zxm Zoj Zxn Zok Zxo Zol Zxp Zom Zxq Zon Zxr Zoo Zxs Zop Zxt Zoq Zxu Zor Zxv Zl4 Zt8 Zcl Zxw Zos Gr Zot Zxx Zgv Zxy Zgw Zxz Zl5 Zx0 Zou Zq1 Zov Zi1 Zow Zx1 Zox Zfu Zoy Zx2 Zoz Zdh Zo0 Zx3 Zo1 Zdi Zo2 Zt9 Zl6 Zx4 Zo3 Zx5 Zo4 Zx6 Zo5 Zv7 Zo6 Zx7 Zo7 Zx8 Zo8 Zr9 Zkt Zsa Zku Zsb Zkv Zsc Zkw Zsd Zkx Zse Zky Zsf Zkz Zsg Zk0 Zsh Zk1 Zsi Zk2 Zsj Zk3 Zsk Zk4 Zsl Zk5 Zsm Zk6 Zsn Zk7 Zso Zk8 Zsp Zk9 Zsq Zla Zsr Zlb Zss Zlc Zst Zld Zsu Zle Zsv Zlf Zsw Zlg Zsx Zlh Za Z5 Zfz Zfy Ze4 Zff Zf2 Zdk Zdg Zdf Zfv Uq Up Uf Ul Ur Vx Vw Vv Uo Zb Xp Zc Zd Yz Y4 Z9 J8 J5 Jm Jq Kb Q2 Qy Qv Jy Kv Kt Kk Ko Kx J3 Jw Ju Kr Zak Zaj Zad Zah Zal Gg Gf Ge Zai Zh4 Zh3 Zhk Zho Zh5 Zfx Zfq Zfp Zh2 Z4 Q5 Q4 Qr Qt Q6 Ql Qk Qj Q0 Z7 J9 J6 Jn Jr Kc Q3 Qz Qw Jz Z6 J7 J4 Jl Jp Ka Q1 Qx Qu Jx Zw Ku Ks Kj Km Kw J0 Jv Jt Kq
theorem Zun {a0:(List Int)} {a1:(List Int)} {r:Bool} {O:Objs} {n:Nat} (h:Zca a0 a1=some r):GTo Try.prog 48 [.sl a0.length (fl (eI .u64) a0),.sl a1.length (fl (eI .u64) a1)] O n (.val (.bool r)) O n:=by
 unfold Zca at h
 refine zFn Try.call48 Try.func48 fun hU hN0 hN => ?_
 show W _ _ _ _ ⟨26,[],[(0,.sl a0.length (fl (eI .u64) a0)),(1,.sl a1.length (fl (eI .u64) a1))]⟩ (Zu O n []) _
 refine zQ [0,1] ?_
 refine Zj ?_
 refine zQ [0,1,10] ?_
 refine Zn (t:=((a0.length:Int) != (a1.length:Int))) rfl (fun c8 => ?_) (fun c8 => ?_)
 ·replace h:=Zq c8 h
  refine zQ [4] ?_
  exact Xe [.val (.bool false)]
 replace h:=Zp c8 h
 refine zKd [0,1] [] ?_
 refine Zj ?_
 refine zQd [0,1,5] [0,1,5] [] ?_
 obtain ⟨z7,hz7,h⟩:=bC h
 refine Zee (J:=(K5 (fun z7=>JR n (⟨26,[],[(4,.val (.bool false))]⟩:Env) (Zu O n []) n) (fun z7=>JX 0 n (⟨26,[],[]⟩:Env) (Zu O n []) n))) (z:=z7) ?_ fun hw => ?_
 ·refine Xr hz7 (fun s0_=>⟨26,[],[(0,.sl a0.length (fl (eI .u64) a0)),(1,.sl a1.length (fl (eI .u64) a1)),(5,.val (.int .i64 s0_))]⟩) (fun s0_=>(Zu O n [])) (K5 (fun z7=>JR n (⟨26,[],[(4,.val (.bool false))]⟩:Env) (Zu O n []) n) (fun z7=>JX 0 n (⟨26,[],[]⟩:Env) (Zu O n []) n)) ?_
  intro s0_ x0_ hs0_
  unfold Zae at hs0_
  try dsimp only
  refine Zj ?_
  refine zQ [0,1,5,14] ?_
  refine Zn (t:=(decide (s0_ < (a0.length:Int)))) rfl (fun c6 => ?_) (fun c6 => ?_)
  ·replace hs0_:=Zq c6 hs0_
   refine zKd [0,1,5] [] ?_
   refine Zj ?_
   refine Yy ?_
   obtain ⟨x3,hx3,ax3,bx3,cx3,hs0_⟩:=bE (f:=(eI .u64)) Zi1 (fun _=>rfl) (by decide) hs0_
   obtain ⟨x4,hx4,ax4,bx4,cx4,hs0_⟩:=bE (f:=(eI .u64)) Zi1 (fun _=>rfl) (by decide) hs0_
   refine Zuc [0,1,5,25] (Vh Zz (by kernel_rfl) [] (by kernel_rfl) ?_)
   refine zF6 ax3 bx3 cx3 ax4 bx4 cx4 ?_
   refine Zn (t:=(x3 != x4)) rfl (fun c5 => ?_) (fun c5 => ?_)
   ·replace hs0_:=Zq c5 hs0_
    refine zQ [4] ?_
    refine zW ?_
    exact zEy hs0_
   replace hs0_:=Zp c5 hs0_
   refine zKd [0,1,5] [] ?_
   refine zR ?_
   exact zEn hs0_
  replace hs0_:=Zp c6 hs0_
  exact zEx hs0_
 rcases z7 with z7 | z7
 ·dsimp only [K5] at hw h
  refine Uz hw ?_
  try simp only [Xf,Yn,↓reduceIte,Nat.reduceEqDiff]
  exact Zq7 [.val (.bool false)]
 dsimp only [K5] at hw h
 refine Y9 hw ?_
 try simp only [Xf,Yn,↓reduceIte,Nat.reduceEqDiff]
 refine zD [] [] ?_
 refine zQ [4] ?_
 exact Xe [.val (.bool true)]
def Zj9 (Vt:(S_api_Tree→S_api_Tree→Option Bool)):Prop:=∀ {a0:S_api_Tree} {a1:S_api_Tree} {r:Bool} {O:Objs} {n:Nat},Vt a0 a1=some r→GTo Try.prog 23 [.agg (Zi a0),.agg (Zi a1)] O n (.val (.bool r)) O n
theorem Zt0 {Vt:(S_api_Tree→S_api_Tree→Option Bool)} (Zrs:Zj9 Vt) {a0:S_api_Tree} {a1:S_api_Tree} {r:Bool} {O:Objs} {n:Nat} (h:Zb4 Vt a0 a1=some r):GTo Try.prog 23 [.agg (Zi a0),.agg (Zi a1)] O n (.val (.bool r)) O n:=by
 unfold Zb4 at h
 refine zFn Try.call23 Try.func23 fun hU hN0 hN => ?_
 show W _ _ _ _ ⟨47,[],[(0,.agg (Zi a0)),(1,.agg (Zi a1))]⟩ (Zu O n []) _
 refine zQ [2,3] ?_
 refine Zj ?_
 obtain ⟨z2,hz2,h⟩:=bC h
 refine Xt (E':=⟨47,[],[(2,.ref n 0),(3,.ref (n+1) 0),(27,.val (.bool z2))]⟩) (O':=(Zu O n [some ⟨false,25,3,1,(Zi a0)⟩,some ⟨false,25,3,1,(Zi a1)⟩])) (n0:=(n+2)) ?_ ?_
 ·rcases Bool.eq_false_or_eq_true (a0.Kind != a1.Kind) with c5 | c5
  ·replace hz2:=Zq c5 hz2
   refine Zbv [some false,some false,some false,some false,some false,some false,some false,some false,some false,some false,some false,some false,some false] c5 ?_
   exact G4 hz2 c5
  replace hz2:=Zp c5 hz2
  obtain ⟨y4,hy4,hz2⟩:=bC hz2
  refine Zbv [some true,some true,some true,some true,some true,some true,none,none,none,none,none,none,none] c5 ?_
  refine zG ?_
  refine (Zun hy4).then ?_
  refine zX1 c5 ?_
  refine zG ?_
  exact G4 hz2 c5
 refine Zn (t:=z2) rfl (fun c15 => ?_) (fun c15 => ?_)
 ·replace h:=Zq c15 h
  refine zQ [4] ?_
  exact Xe [.val (.bool false)]
 replace h:=Zp c15 h
 refine zKd [2,3] [true,true] ?_
 refine Zj ?_
 refine zQd [2,3,5] [2,3,5] [true,true] ?_
 obtain ⟨z14,hz14,h⟩:=bC h
 refine Zee (J:=(K5 (fun z14=>JR n (⟨47,[],[(4,.val (.bool false))]⟩:Env) (Zu O n [none,none]) (n+2)) (fun z14=>JX 0 n (⟨47,[],[]⟩:Env) (Zu O n [none,none]) (n+2)))) (z:=z14) ?_ fun hw => ?_
 ·refine Xr hz14 (fun s0_=>⟨47,[],[(2,.ref n 0),(3,.ref (n+1) 0),(5,.val (.int .i64 s0_))]⟩) (fun s0_=>(Zu O n [some ⟨false,25,3,1,(Zi a0)⟩,some ⟨false,25,3,1,(Zi a1)⟩])) (K5 (fun z14=>JR n (⟨47,[],[(4,.val (.bool false))]⟩:Env) (Zu O n [none,none]) (n+2)) (fun z14=>JX 0 n (⟨47,[],[]⟩:Env) (Zu O n [none,none]) (n+2))) ?_
  intro s0_ x0_ hs0_
  unfold Zaa at hs0_
  try dsimp only
  refine Zj ?_
  refine zQ [2,3,5,32] ?_
  refine Zn (t:=(decide (s0_ < (a0.Kids.length:Int)))) rfl (fun c13 => ?_) (fun c13 => ?_)
  ·replace hs0_:=Zq c13 hs0_
   refine zKd [2,3,5] [true,true] ?_
   refine Zj ?_
   refine Yy ?_
   refine Zj ?_
   obtain ⟨x9,hx9,ax9,bx9,cx9,hs0_⟩:=bE (f:=Za) Gr (fun _=>rfl) (by decide) hs0_
   obtain ⟨x10,hx10,ax10,bx10,cx10,hs0_⟩:=bE (f:=Za) Gr (fun _=>rfl) (by decide) hs0_
   obtain ⟨y11,hy11,hs0_⟩:=bC hs0_
   refine Vh Zz (by kernel_rfl) [] (by kernel_rfl) ?_
   refine zF6 ax9 bx9 cx9 ax10 bx10 cx10 ?_
   refine PCall.of (Zrs hy11) ?_
   refine zF6 ax9 bx9 cx9 ax10 bx10 cx10 ?_
   refine zD [2,3,5,46] [true,true] ?_
   refine Zn (t:=(!y11)) rfl (fun c12 => ?_) (fun c12 => ?_)
   ·replace hs0_:=Zq c12 hs0_
    refine zQ [4] ?_
    refine zW ?_
    exact zEy hs0_
   replace hs0_:=Zp c12 hs0_
   refine zKd [2,3,5] [true,true] ?_
   refine zR ?_
   exact zEn hs0_
  replace hs0_:=Zp c13 hs0_
  exact zEx hs0_
 rcases z14 with z14 | z14
 ·dsimp only [K5] at hw h
  refine Uz hw ?_
  try simp only [Xf,Yn,↓reduceIte,Nat.reduceEqDiff]
  exact Zq7 [.val (.bool false)]
 dsimp only [K5] at hw h
 refine Y9 hw ?_
 try simp only [Xf,Yn,↓reduceIte,Nat.reduceEqDiff]
 refine zD [] [false,false] ?_
 refine zQ [4] ?_
 exact Xe [.val (.bool true)]
theorem Zq3:∀ k,(Zj9 (Ub k)):=fun k=>by
 induction k with
 | zero=>exact @fun a0 a1 r O n h=>(nomatch (show (none:Option _)=some _ from h))
 | succ k ih=>exact @fun a0 a1 r O n h=>Zt0 (ih)  h
theorem Zmn {a0:S_api_Tree} {a1:S_api_Tree} {r:Bool} {O:Objs} {n:Nat} (h:Zim a0 a1=some r):GTo Try.prog 23 [.agg (Zi a0),.agg (Zi a1)] O n (.val (.bool r)) O n:=by
 obtain ⟨k,hk⟩:=Zcr h
 exact (Zq3 k)  hk
theorem Zm6 {a0:S_api_Edit} {a1:S_api_Edit} {a2:S_api_Edit} {a3:S_api_Tree} {r:Bool} {O:Objs} {n:Nat} (h:G7 a0 a1 a2 a3=some r):GTo Try.prog 6 [.agg (Ze a0),.agg (Ze a1),.agg (Ze a2),.agg (Zi a3)] O n (.val (.bool r)) O n:=by
 unfold G7 at h
 refine zFn Try.call6 Try.func6 fun hU hN0 hN => ?_
 show W _ _ _ _ ⟨131,[],[(0,.agg (Ze a0)),(1,.agg (Ze a1)),(2,.agg (Ze a2)),(3,.agg (Zi a3))]⟩ (Zu O n []) _
 refine zQ [4,5,6,7] ?_
 refine Zj ?_
 obtain ⟨z5,hz5,h⟩:=bC h
 refine Xt (E':=⟨131,[],[(4,.ref n 0),(5,.ref (n+1) 0),(6,.ref (n+2) 0),(7,.ref (n+3) 0),(38,.val (.bool z5))]⟩) (O':=(Zu O n [some ⟨false,30,11,1,(Ze a0)⟩,some ⟨false,30,11,1,(Ze a1)⟩,some ⟨false,30,11,1,(Ze a2)⟩,some ⟨false,25,3,1,(Zi a3)⟩])) (n0:=(n+4)) ?_ ?_
 ·obtain ⟨y10,hy10,hz5⟩:=bC hz5
  rcases Bool.eq_false_or_eq_true y10 with c14 | c14
  ·replace hz5:=Zq c14 hz5
   obtain ⟨y11,hy11,hz5⟩:=bC hz5
   rcases Bool.eq_false_or_eq_true y11 with c15 | c15
   ·replace hz5:=Zq c15 hz5
    try rw [c15] at c14
    obtain ⟨y12,hy12,hz5⟩:=bC hz5
    rcases Bool.eq_false_or_eq_true y12 with c16 | c16
    ·replace hz5:=Zq c16 hz5
     try rw [c16] at c14
     try rw [c16] at c15
     obtain ⟨y13,hy13,hz5⟩:=bC hz5
     refine Zll [some true,some true,some true,some true,some true,some true,some true,some true,some true] c14 c15 c16 ?_
     refine (Qn hy10).then ?_
     refine zX3 c14 c15 c16 ?_
     refine (Qn hy11).then ?_
     refine zX3 c14 c15 c16 ?_
     refine (Qn hy12).then ?_
     refine zX3 c14 c15 c16 ?_
     refine (Zws hy13).then ?_
     refine zX3 c14 c15 c16 ?_
     exact Zl1 hz5 c14 c15 c16
    replace hz5:=Zp c16 hz5
    try rw [c16] at c14
    try rw [c16] at c15
    refine Zll [some true,some true,some true,some true,some true,some true,some false,some false,some false] c14 c15 c16 ?_
    refine (Qn hy10).then ?_
    refine zX3 c14 c15 c16 ?_
    refine (Qn hy11).then ?_
    refine zX3 c14 c15 c16 ?_
    refine (Qn hy12).then ?_
    refine zX3 c14 c15 c16 ?_
    exact Zl1 hz5 c14 c15 c16
   replace hz5:=Zp c15 hz5
   try rw [c15] at c14
   refine Zbb [some true,some true,some true,some false,some false,some false,some false,some false,some false] c14 c15 ?_
   refine (Qn hy10).then ?_
   refine zX2 c14 c15 ?_
   refine (Qn hy11).then ?_
   refine zX2 c14 c15 ?_
   exact Zm2 hz5 c14 c15
  replace hz5:=Zp c14 hz5
  refine Zbv [some false,some false,some false,some false,some false,some false,some false,some false,some false] c14 ?_
  refine (Qn hy10).then ?_
  refine zX1 c14 ?_
  exact G4 hz5 c14
 refine Zn (t:=z5) rfl (fun c71 => ?_) (fun c71 => ?_)
 ·replace h:=Zq c71 h
  refine Zj ?_
  obtain ⟨y18,hy18,h⟩:=bC h
  refine zCd (Zcc hy18) [8] [false,false,false,false] ?_
  exact Xe [.val (.bool y18)]
 replace h:=Zp c71 h
 refine zKd [4,5,6,7] [true,true,true,true] ?_
 refine Zj ?_
 obtain ⟨y20,hy20,h⟩:=bC h
 refine zCd (Zb0 hy20) [4,5,6,7,9,10] [true,true,true,true,true] ?_
 refine Zj ?_
 obtain ⟨y22,hy22,h⟩:=bC h
 refine zCd (Zb0 hy22) [4,6,7,9,10,11,12] [true,false,true,true,true,true] ?_
 refine Zj ?_
 obtain ⟨z25,hz25,h⟩:=bC h
 refine Xt (E':=⟨131,[],[(4,.ref n 0),(6,.ref (n+2) 0),(7,.ref (n+3) 0),(9,.ref (n+4) 0),(10,.val (.bool y20.2)),(11,.ref (n+5) 0),(12,.val (.bool y22.2)),(61,.val (.bool z25))]⟩) (O':=(Zu O n [some ⟨false,30,11,1,(Ze a0)⟩,none,some ⟨false,30,11,1,(Ze a2)⟩,some ⟨false,25,3,1,(Zi a3)⟩,some ⟨false,30,11,1,(Ze y20.1)⟩,some ⟨false,30,11,1,(Ze y22.1)⟩])) (n0:=(n+6)) ?_ ?_
 ·obtain ⟨y28,hy28,hz25⟩:=bC hz25
  rcases Bool.eq_false_or_eq_true y28 with c30 | c30
  ·replace hz25:=Zq c30 hz25
   obtain ⟨y29,hy29,hz25⟩:=bC hz25
   refine Zbv [some true,some true,some true,some true] c30 ?_
   refine (Zbc hy28).then ?_
   refine zX1 c30 ?_
   refine (Zbc hy29).then ?_
   refine zX1 c30 ?_
   exact G4 hz25 c30
  replace hz25:=Zp c30 hz25
  refine Zbv [some false,some false,some false,some false] c30 ?_
  refine (Zbc hy28).then ?_
  refine zX1 c30 ?_
  exact G4 hz25 c30
 refine Zn (t:=z25) rfl (fun c70 => ?_) (fun c70 => ?_)
 ·replace h:=Zq c70 h
  refine Zj ?_
  obtain ⟨y32,hy32,h⟩:=bC h
  refine zCd (Zcc hy32) [8] [false,false,false,false,false,false] ?_
  exact Xe [.val (.bool y32)]
 replace h:=Zp c70 h
 refine zKd [4,6,7,9,10,11,12] [true,false,true,true,true,true] ?_
 refine Zj ?_
 obtain ⟨y34,hy34,h⟩:=bC h
 refine zCd (Zb0 hy34) [4,7,10,11,12,13,14] [true,false,false,true,false,true,true] ?_
 refine Zj ?_
 obtain ⟨y36,hy36,h⟩:=bC h
 refine zCd (Zb0 hy36) [7,10,12,13,14,15,16] [false,false,false,true,false,false,true,true] ?_
 refine zQD [7,12,13,14,15,16] [none] ?_
 refine zQD [7,13,14,15,16] [none] ?_
 refine Zj ?_
 obtain ⟨z39,hz39,h⟩:=bC h
 refine Xt (E':=⟨131,[],[(7,.ref (n+3) 0),(13,.ref (n+6) 0),(14,.val (.bool (cond y34.2 y20.2 false))),(15,.ref (n+7) 0),(16,.val (.bool (cond y36.2 y22.2 false))),(98,.val (.bool z39))]⟩) (O':=(Zu O n [none,none,none,some ⟨false,25,3,1,(Zi a3)⟩,none,none,some ⟨false,30,11,1,(Ze y34.1)⟩,some ⟨false,30,11,1,(Ze y36.1)⟩])) (n0:=(n+8)) ?_ ?_
 ·rcases Bool.eq_false_or_eq_true ((cond y34.2 y20.2 false) != (cond y36.2 y22.2 false)) with c44 | c44
  ·replace hz39:=Zq c44 hz39
   refine Zbv [some false,some false,some false,some false,some false,some false,some false,some false,some false,some false,some false] c44 ?_
   exact G4 hz39 c44
  replace hz39:=Zp c44 hz39
  rcases Bool.eq_false_or_eq_true y34.2 with c45 | c45
  ·replace hz39:=Zq c45 hz39
   try rw [c45] at c44
   try simp only [Bool.cond_true,Bool.cond_false,Bool.true_bne,Bool.false_bne,Bool.true_beq,Bool.false_beq,Bool.not_eq_true',Bool.not_eq_false'] at c44
   rcases Bool.eq_false_or_eq_true y20.2 with c46 | c46
   ·replace hz39:=Zq c46 hz39
    try rw [c46] at c44
    try rw [c46] at c45
    try simp only [Bool.cond_true,Bool.cond_false,Bool.true_bne,Bool.false_bne,Bool.true_beq,Bool.false_beq,Bool.not_eq_true',Bool.not_eq_false'] at c44
    obtain ⟨y42,hy42,hz39⟩:=bC hz39
    rcases Bool.eq_false_or_eq_true y42 with c47 | c47
    ·replace hz39:=Zq c47 hz39
     try rw [c47] at c44
     try rw [c47] at c45
     try rw [c47] at c46
     try simp only [Bool.cond_true,Bool.cond_false,Bool.true_bne,Bool.false_bne,Bool.true_beq,Bool.false_beq,Bool.not_eq_true',Bool.not_eq_false'] at c44
     obtain ⟨y43,hy43,hz39⟩:=bC hz39
     refine Z2b [some true,some true,some true,some true,some true,some true,some true,some true,some true,some true,some true] c44 c45 c46 c47 ?_
     refine (Zbc hy42).then ?_
     refine zX4 c44 c45 c46 c47 ?_
     refine (Zbc hy43).then ?_
     refine zX4 c44 c45 c46 c47 ?_
     exact Z19 hz39 c44 c45 c46 c47
    replace hz39:=Zp c47 hz39
    try rw [c47] at c44
    try rw [c47] at c45
    try rw [c47] at c46
    try simp only [Bool.cond_true,Bool.cond_false,Bool.true_bne,Bool.false_bne,Bool.true_beq,Bool.false_beq,Bool.not_eq_true',Bool.not_eq_false'] at c44
    refine Z2b [some true,some true,some true,some true,some true,some true,some false,some false,some false,some true,some true] c44 c45 c46 c47 ?_
    refine (Zbc hy42).then ?_
    refine zX4 c44 c45 c46 c47 ?_
    exact Z19 hz39 c44 c45 c46 c47
   replace hz39:=Zp c46 hz39
   try rw [c46] at c44
   try rw [c46] at c45
   try simp only [Bool.cond_true,Bool.cond_false,Bool.true_bne,Bool.false_bne,Bool.true_beq,Bool.false_beq,Bool.not_eq_true',Bool.not_eq_false'] at c44
   refine Zll [some true,some true,some false,some false,some false,some false,some false,some false,some false,some false,some true] c44 c45 c46 ?_
   exact Zl1 hz39 c44 c45 c46
  replace hz39:=Zp c45 hz39
  try rw [c45] at c44
  try simp only [Bool.cond_true,Bool.cond_false,Bool.true_bne,Bool.false_bne,Bool.true_beq,Bool.false_beq,Bool.not_eq_true',Bool.not_eq_false'] at c44
  refine Zbb [some true,some true,some false,some false,some false,some false,some false,some false,some false,some false,some true] c44 c45 ?_
  exact Zm2 hz39 c44 c45
 refine Zn (t:=z39) rfl (fun c69 => ?_) (fun c69 => ?_)
 ·replace h:=Zq c69 h
  obtain ⟨z49,hz49,h⟩:=bC h
  refine Xt (E':=⟨131,[],[(8,.val (.bool z49))]⟩) (O':=(Zu O n [none,none,none,none,none,none,none,none])) (n0:=(n+8)) ?_ ?_
  ·rcases Bool.eq_false_or_eq_true ((cond y34.2 y20.2 false) == (cond y36.2 y22.2 false)) with c52 | c52
   ·replace hz49:=Zq c52 hz49
    obtain ⟨y51,hy51,hz49⟩:=bC hz49
    refine Zbv [some true] c52 ?_
    refine (Zcc hy51).then ?_
    refine zX1 c52 ?_
    exact G4 hz49 c52
   replace hz49:=Zp c52 hz49
   refine Zbv [some false] c52 ?_
   exact G4 hz49 c52
  exact Xe [.val (.bool z49)]
 replace h:=Zp c69 h
 refine zKd [7,13,14,15] [false,false,false,true,false,false,true,true] ?_
 refine Zj ?_
 refine zQ [7,13,15,106] ?_
 refine Zn (t:=(!(cond y34.2 y20.2 false))) rfl (fun c68 => ?_) (fun c68 => ?_)
 ·replace h:=Zq c68 h
  refine Zj ?_
  obtain ⟨y54,hy54,h⟩:=bC h
  refine zCd (Zcc hy54) [8] [false,false,false,false,false,false,false,false] ?_
  exact Xe [.val (.bool y54)]
 replace h:=Zp c68 h
 refine zKd [7,13,15] [false,false,false,true,false,false,true,true] ?_
 refine Zj ?_
 obtain ⟨y56,hy56,h⟩:=bC h
 refine zCd (Ux hy56) [7,15,17,18] [false,false,false,true,false,false,false,true,true] ?_
 refine Zj ?_
 obtain ⟨y58,hy58,h⟩:=bC h
 refine zCd (Ux hy58) [17,18,19,20] [false,false,false,false,false,false,false,false,true,true] ?_
 obtain ⟨z61,hz61,h⟩:=bC h
 refine Xt (E':=⟨131,[],[(8,.val (.bool z61))]⟩) (O':=(Zu O n [none,none,none,none,none,none,none,none,none,none])) (n0:=(n+10)) ?_ ?_
 ·rcases Bool.eq_false_or_eq_true (y56.2 == y58.2) with c66 | c66
  ·replace hz61:=Zq c66 hz61
   all_goals
    obtain ⟨y64,hy64,hz61⟩:=bC hz61
    rcases Bool.eq_false_or_eq_true y64 with c67 | c67
    ·replace hz61:=Zq c67 hz61
     try rw [c67] at c66
     obtain ⟨y65,hy65,hz61⟩:=bC hz61
     refine Zbb [some true,some true,some true,some true] c66 c67 ?_
     refine (Zmn hy64).then ?_
     refine zX2 c66 c67 ?_
     refine (Zcc hy65).then ?_
     refine zX2 c66 c67 ?_
     exact Zm2 hz61 c66 c67
    replace hz61:=Zp c67 hz61
    try rw [c67] at c66
    refine Zbb [some true,some true,some true,some false] c66 c67 ?_
    refine (Zmn hy64).then ?_
    refine zX2 c66 c67 ?_
    exact Zm2 hz61 c66 c67
  replace hz61:=Zp c66 hz61
  all_goals
   refine Zbv [some false,some false,some false,some false] c66 ?_
   exact G4 hz61 c66
 exact Xe [.val (.bool z61)]
end Go.Proofs.Ytbjcopkgdjombaa
