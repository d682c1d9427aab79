/- Part VM6 of this seat's mirrors: functions of the seat's program, and the plain functions that they are; each theorem bears its own conditions. -/
import Derived.Test.YtocpndlnbmjpmaaVM4
namespace Go.Proofs.Ytocpndlnbmjpmaa
open Go.RowKit
set_option linter.unusedVariables false
set_option linter.unusedSimpArgs false
set_option maxRecDepth 100000
set_option maxHeartbeats 4000000
attribute [local push_cast] Try.results45 Try.results46 Try.results66 Try.results67 Try.results68 Try.results76 Try.results77 vI vB nV sL oR Zj Zl zJ Xk Z9 Qi Qj Xr Ku uD fB Ze4 Zdo xW dO wW cO Zb0 Zbw bO Zbz Zby Zbx yW Zbv vP evS wok Uw Op.operands Call.operands gop atK List.all_cons List.all_nil Bool.and_self Value.oneCell' List.take_zero List.take_succ_cons List.take_nil List.drop_zero List.drop_succ_cons List.drop_nil List.append_nil Nat.add_zero Nat.zero_add vJ Xw ev U2 Zkp Zer Zeq Zew Zeu Zev Zes Zet Zep Zhu Zi7 Zne yS qB sR zB tT cI kF pF fN aN nF eN dN bN mF zM lF oF yC Zar jN gU tR iU pO wS Zkr mG mT gF rB oO Zo6 vS Zah bF nK Zir Zpa qR uF Zpd pB Zq8 Zba Zbe Za9 Zbd Zfi Zfe Zfd yT Zbb Zfh Zfg Zff Zbc Ze9 Zfc Ze8 Zfb Zk1 Zky Zkx Zfa Zkz Zk0 xS gone pop TK.isAgg Zfw Zf0 Zfv Zfz Zbn Zlp Zll Zfy Zlo Zln Zlm Zfx Zlk G.under G.unders List.getD_cons_zero List.getD_cons_succ List.set_cons_zero List.set_cons_succ List.map_cons List.map_nil List.toList_toArray Array.toList_append Option.toArray_none Option.toArray_some Option.map_some Option.map_none Option.bind_some Option.bind_none List.getElem?_cons_zero List.getElem?_cons_succ List.getElem?_nil List.nil_append List.cons_append List.replicate_succ List.replicate_zero List.length_cons List.length_nil and_true true_and Bool.true_eq_false Bool.false_eq_true forall_const implies_true IntKind.bits ite_true ite_false eq_self or_false decide_eq_true_eq decide_eq_false_iff_not beq_iff_eq ne_eq beq_eq_false_iff_ne beq_self_eq_true Option.some.injEq exists_eq_left' gt_iff_lt imp_self cond_true cond_false Zyx Zyw Gx tX oZ jB Up Kg Option.join_some Nat.add_assoc Int.toNat_natCast eI eL Ya rM wF Ze2 Ze0 Ze1 Zrt Zug vM mH Zga Zf8 Zf9 Znr fM Zkk yK Za4 pM List.length_append G.agg.injEq G.tup.injEq List.flatten_cons List.flatten_nil Nat.le_refl rH Yb Z8 Bool.not_eq_true' Zhi fO Zm7 Zm2 Zm6 Zth Z10 tW qC G.ren G.rens mR lI Zgf G.fn.injEq Zck Zcl Zm4 Zm3 Zk4 Zrg Option.join_none Yo tJ undef Zaj Arr.put_eq uM kW iP lH Zf7 Zf5 Zf6 onB Zrs Zip Zjz Zea Zeb fW pW Zcx kP nH nW Zbr Zbq Zbp Zbo Zuf Zxw Znq Zlr G8 Znl Zdv Zh8 Zd2 Zpy Zgh tS Zag fF Zgd Zyc Zwo sF prT cC Z1j Zms wP Zmt Z1k Zmu Znu Zmv Z1l Zmw Z1m Zmx Z1n Zmy Z1o Zmz Zsf Zgj Zsg Zgk Zsh Zgl Zsi Zgm Zsj Zgn Zsk Zgo Zsl Zgp Zsm Zgq Zsn Zgr Zso Zgs Zsp Zgt Zsq Zc4 Zmq zA Zsr Zgu mY Zgv Zss Zc5 Zst jM Zsu Zc6 Zsv Zgw xP Zgx Zsw Zgy yP Zgz Zsx Zg0 rJ Zg1 Zsy Zg2 Zsz Zg3 Zs0 Zg4 oS Zg5 Zs1 Zg6 aV Zg7 Zs2 Zg8 Zs3 Zg9 Zs4 Zha Zs5 Zhb Zoo Zhc Zs6 Zhd Zs7 Zhe Zs8 Zhf Zs9 Zhg Zta Zhh Zmr Zc7 Zl9 Zb1 Zma Zb2 Zmb Zb3 Zmc Zb4 Zmd Zb5 Zme Zb6 Zmf Zb7 Zmg Zb8 Zmh Zb9 Zmi Zca Zmj Zcb Zmk Zcc Zml Zcd Zmm Zce Zmn Zcf Zmo Zcg Zmp Zch Za bR oH vV uK Zf Jz Zh Ze Vk Jj nY eZ sX lY pA Zcm wU Xm zI Zdg
theorem sK {a0:Ji} {a1:Int} {r:(Zo×Ji)} {O:Objs} {n:Nat} {i0:Nat} (Ys:i0 < n) (uC:O i0=some ⟨false,113,2,1,[(sL Zh a0.left),(vI a0.gone)]⟩) (h:Ke a0 a1=some r):GTo Try.prog 76 [.ref i0 0,(vI a1)] O n (.agg (Xk r.1)) (Yn (O.upd i0 (some ⟨false,113,2,1,[(sL Zh r.2.left),(vI r.2.gone)]⟩)) n []) (n+0):=by
 unfold Ke at h
 refine vX Yd Try.call76 Try.func76 rfl (Nat.le_of_ble_eq_true rfl) (by omega) fun hU => ?_
 rw [show Yn O n []=Yn (O.upd i0 (some ⟨false,113,2,1,[(sL Zh a0.left),(vI a0.gone)]⟩)) n [] from by rw [Qw (show O i0=_ from by exact uC)]]
 have Y4:∀ k,i0 < n+k:=fun k=>by omega
 have Ye:∀ o,Objs.upd O i0 o n=none:=fun o=>Xb hU Ys _ (Nat.le_refl _)
 have hN:∀ o k,Objs.upd O i0 o (n+k)=none:=fun o k=>Xb hU Ys _ (Nat.le_add_right _ _)
 show W _ _ _ _ ⟨50,[],[(0,.ref i0 0),(1,(vI a1))]⟩ (Yn (O.upd i0 (some ⟨false,113,2,1,[(sL Zh a0.left),(vI a0.gone)]⟩)) n []) _
 refine fZ [0,1,4] Ys Y4 ?_
 refine Z7 ?_
 obtain ⟨x2,hx2,ax2,bx2,cx2,h⟩:=bE (f:=Zh) rJ (fun _=>rfl) (by decide) h
 refine Ztl [] ax2 bx2 cx2 Ys Y4 ?_
 refine zD [0,1,4,5] [true,true] ?_
 obtain ⟨z3,Gy,h⟩:=bC h
 refine Qf (E':=⟨50,[],[(0,.ref i0 0),(1,(vI a1)),(4,.ref n 0),(5,.ref (n+1) 0)]⟩) (O':=(Yn (O.upd i0 (some ⟨false,113,2,1,[(sL Zh a0.left),(vI a0.gone)]⟩)) n [some ⟨false,41,14,1,[(vI 0),(vI 0),nV,(vI 0),(vI 0),nV,nV,(vI 0),nV,nV,nV,nV,(vI 0),nV]⟩,some ⟨false,41,14,1,[(vI x2.Kind),(vI z3.1),(sL Za z3.2),(vI x2.E.Kind),(vI x2.E.Old.Kind),(sL (eI .u64) x2.E.Old.Words),(sL Za x2.E.Old.Kids),(vI x2.E.New.Kind),(sL (eI .u64) x2.E.New.Words),(sL Za x2.E.New.Kids),(sL Zf x2.E.Words),(sL Ze x2.E.Kids),(vI x2.E.List_),(sL Zh x2.E.Ops)]⟩])) (n0:=(n+2)) ?_ ?_
 ·refine fZ [0,1,4,5,13] Ys Y4 ?_
  refine Xt ?_
  refine fZ [0,1,4,5,13,14] Ys Y4 ?_
  refine Yj (t:=(x2.Kind == 0)) rfl (fun c8 => ?_) (fun c8 => ?_)
  ·replace Gy:=Ym c8 Gy
   refine Kc [] Ys Y4 ?_
   obtain rfl:=sI Gy
   refine And.intro rfl (Fit2.of (Xy hU rfl rfl ?_) (by omega))
   exact Qx Ys Y4
  replace Gy:=Yl c8 Gy
  obtain ⟨z4,hz4,Gy⟩:=bC Gy
  refine Qf (E':=⟨50,[],[(0,.ref i0 0),(1,(vI a1)),(4,.ref n 0),(5,.ref (n+1) 0),(18,(vB z4))]⟩) (O':=(Yn (O.upd i0 (some ⟨false,113,2,1,[(sL Zh a0.left),(vI a0.gone)]⟩)) n [some ⟨false,41,14,1,[(vI 0),(vI 0),nV,(vI 0),(vI 0),nV,nV,(vI 0),nV,nV,nV,nV,(vI 0),nV]⟩,some ⟨false,41,14,1,(Xk x2)⟩])) (n0:=(n+2)) ?_ ?_
  ·refine fZ [0,1,4,5,13,18] Ys Y4 ?_
   refine Yj (t:=(x2.Kind == 1)) rfl (fun c5 => ?_) (fun c5 => ?_)
   ·replace hz4:=Ym c5 hz4
    refine zK ?_
    obtain rfl:=sI hz4
    refine And.intro rfl (Fit2.of (Xy hU rfl rfl ?_) (by omega))
    exact Qx Ys Y4
   replace hz4:=Yl c5 hz4
   refine Kc [] Ys Y4 ?_
   obtain rfl:=sI hz4
   refine And.intro rfl (Fit2.of (Xy hU rfl rfl ?_) (by omega))
   exact Qx Ys Y4
  refine Yj (t:=z4) rfl (fun c7 => ?_) (fun c7 => ?_)
  ·replace Gy:=Ym c7 Gy
   obtain ⟨l6,al6,bl6,cl6,gl6,Gy⟩:=bS3 (lo:=(some (.i64,a0.gone))) (hi:=(.i64,(IntKind.i64.wrap (a0.gone+a1)))) (f:=Za) rfl rfl zA mY (fun _=>rfl) Gy
   refine oY Yd (by kernel_rfl) [false,false,false,false,false,false,false,false,false,false,false,false,false,false,false,false,false,false,false,false,true] [] (by kernel_rfl) ?_
   refine zX6 al6 bl6 cl6 gl6 Ys Y4 ?_
   obtain rfl:=sI Gy
   refine And.intro rfl (Fit2.of (Xy hU rfl rfl ?_) (by omega))
   exact Ycx al6 bl6 cl6 gl6 Ys Y4
  replace Gy:=Yl c7 Gy
  refine zK ?_
  obtain rfl:=sI Gy
  refine And.intro rfl (Fit2.of (Xy hU rfl rfl ?_) (by omega))
  exact Qx Ys Y4
 refine Z7 ?_
 refine Kc [] Ys Y4 ?_
 refine lO [4,5] [true,true] ?_
 refine Kc [] Ys Y4 ?_
 refine zD [4] [true,false] ?_
 refine zW ?_
 obtain rfl:=sI h
 refine Jl (k:=0) (i:=i0) (q1:=⟨false,113,2,1,[(sL Zh a0.left),(vI (IntKind.i64.wrap (a0.gone+a1)))]⟩) (L3:=[some ⟨false,41,14,1,[(vI x2.Kind),(vI z3.1),(sL Za z3.2),(vI x2.E.Kind),(vI x2.E.Old.Kind),(sL (eI .u64) x2.E.Old.Words),(sL Za x2.E.Old.Kids),(vI x2.E.New.Kind),(sL (eI .u64) x2.E.New.Words),(sL Za x2.E.New.Kids),(sL Zf x2.E.Words),(sL Ze x2.E.Kids),(vI x2.E.List_),(sL Zh x2.E.Ops)]⟩,none]) (E2:=(⟨50,[],[(4,.ref n 0)]⟩:Env)) (n3:=(n+2)) (.inr rfl) hU rfl [.agg [(vI x2.Kind),(vI z3.1),(sL Za z3.2),(vI x2.E.Kind),(vI x2.E.Old.Kind),(sL (eI .u64) x2.E.Old.Words),(sL Za x2.E.Old.Kids),(vI x2.E.New.Kind),(sL (eI .u64) x2.E.New.Words),(sL Za x2.E.New.Kids),(sL Zf x2.E.Words),(sL Ze x2.E.Kids),(vI x2.E.List_),(sL Zh x2.E.Ops)]] ?_ ?_
 ·refine uS (k:=2) (k':=2) hU [0,1] [0,0] (lT Ys) ?_ ?_
  ·exact Qx Ys Y4
  exact Qx Ys Y4
 simp only [push_cast,seval,Zc,Try.results76,Ys,Y4,Ye,hN]
theorem Zje {a0:(List Zo)} {a1:(List Zo)} {a2:Int} {a3:Int} {r:((List Yw)×Bool)} {O:Objs} {n:Nat} (h:dA a0 a1 a2 a3=some r):GTo Try.prog 66 [(sL Zh a0),(sL Zh a1),(vI a2),(vI a3)] O n (.tup [(sL Xm r.1),(vB r.2)]) O n:=by
 unfold dA at h
 refine uH Try.call66 Try.func66 fun hU Ye hN => ?_
 show W _ _ _ _ ⟨83,[],[(0,(sL Zh a0)),(1,(sL Zh a1)),(2,(vI a2)),(3,(vI a3))]⟩ (Yn O n []) _
 refine zQ [0,1,2,3] ?_
 refine zQ [0,1,2,3,10] ?_
 refine Z7 ?_
 refine zRd [2,3,10,11,12] [true,true] ?_
 refine zD [2,3,10,11,12] [true,true] ?_
 refine Xi (E':=(⟨83,[],[(2,(vI a2)),(3,(vI a3)),(10,.row (n+2) ([]:List Yw).length),(11,.ref n 0),(12,.ref (n+1) 0)]⟩:Env)) (O':=(Yn O n [some ⟨false,113,2,1,[(sL Zh a0),(vI 0)]⟩,some ⟨false,113,2,1,[(sL Zh a1),(vI 0)]⟩,some (oR 83 29 Xm ([]:List Yw)),none])) (n':=(n+4)) ?_ ?_
 ·refine Fit2.trans (E':=(⟨83,[],[(2,(vI a2)),(3,(vI a3)),(10,nV),(11,.ref n 0),(12,.ref (n+1) 0)]⟩:Env)) (O':=(Yn O n [some ⟨false,113,2,1,[(sL Zh a0),(vI 0)]⟩,some ⟨false,113,2,1,[(sL Zh a1),(vI 0)]⟩])) (n':=(n+2)) (Fit2.of (Jw hU rfl rfl ?_) (by omega)) ?_
  ·exact lC
  refine Fit2.trans (Zcp 10 83 29 rfl (by omega)) ?_
  simp only [Up,Kg,oZ,jB,List.set_cons_zero,List.set_cons_succ,List.cons_append,List.nil_append,List.length_cons,List.length_nil,Nat.zero_add,Nat.reduceAdd,Nat.reduceLT,Nat.add_assoc]
  refine fr0 (k:=3) (k':=4) hU [0,1,2] [0,1,2,0] zM0 ?_ ?_
  ·exact lC
  exact lC
 obtain ⟨z16,Zni,h⟩:=bC h
 refine Uq (E':=⟨83,[],[(8,(sL Xm z16.1)),(9,(vB z16.2))]⟩) (O':=(Yn O n [none,none])) (n0:=(n+2)) ?_ ?_
 ·refine Qy Zni (fun Yf=>⟨83,[],[(2,(vI a2)),(3,(vI a3)),(10,.row (n+2) Yf.2.2.2.2.length),(11,.ref n 0),(12,.ref (n+1) 0)]⟩) (fun Yf=>(Yn O n [some ⟨false,113,2,1,[(sL Zh Yf.1),(vI Yf.2.1)]⟩,some ⟨false,113,2,1,[(sL Zh Yf.2.2.1),(vI Yf.2.2.2.1)]⟩,some (oR 83 29 Xm Yf.2.2.2.2),none])) (fun z16=>JR n (⟨83,[],[(8,(sL Xm z16.1)),(9,(vB z16.2))]⟩:Env) (Yn O n [none,none]) (n+2)) ?_
  intro Yf x0_ Zu
  unfold X3 at Zu
  try dsimp only
  refine Xt ?_
  refine Z7 ?_
  obtain ⟨y2,kE,Zu⟩:=bC Zu
  refine zR ?_
  refine (hH (i0:=n) (by omega) (by simp only [push_cast,seval,Zc,Ya,Ye,hN] <;> rfl) kE).then ?_
  refine zS ?_
  refine lO [2,3,10,11,12,13,14] [true,true,true,false] ?_
  obtain ⟨y4,hy4,Zu⟩:=bC Zu
  refine zR ?_
  refine (hH (i0:=(n+1)) (by omega) (by simp only [push_cast,seval,Zc,Ya,Ye,hN] <;> rfl) hy4).then ?_
  refine zS ?_
  refine zD [2,3,10,11,12,13,14,15,16] [true,true,true,false] ?_
  refine Xt ?_
  refine zQD [2,3,10,11,12,14,15,16,40] [none,none,none] ?_
  refine Yj (t:=(cond (decide (0 < y2.2.1)) (y2.1 == a2) false)) rfl (fun c15 => ?_) (fun c15 => ?_)
  ·replace Zu:=Ym c15 Zu
   obtain ⟨y5,hy5,Zu⟩:=bC Zu
   obtain ⟨l6,pl6,ql6,el6,Zu⟩:=bA (k:=1) rfl Zu
   refine vH [] pl6 ql6 el6 ?_
   refine (sK (i0:=n) (by omega) (by simp only [push_cast,seval,Zc,Ya,pl6,ql6,el6,Ye,hN] <;> rfl) hy5).then ?_
   refine zX3 pl6 ql6 el6 ?_
   exact gE Zu pl6 ql6 el6
  replace Zu:=Yl c15 Zu
  refine zQD [2,3,10,11,12,14,16,54] [none,none,none] ?_
  refine Yj (t:=(cond (decide (0 < y4.2.1)) (y4.1 == a3) false)) rfl (fun c14 => ?_) (fun c14 => ?_)
  ·replace Zu:=Ym c14 Zu
   obtain ⟨y7,hy7,Zu⟩:=bC Zu
   obtain ⟨l8,pl8,ql8,el8,Zu⟩:=bA (k:=1) rfl Zu
   refine vH [] pl8 ql8 el8 ?_
   refine (sK (i0:=(n+1)) (by omega) (by simp only [push_cast,seval,Zc,Ya,pl8,ql8,el8,Ye,hN] <;> rfl) hy7).then ?_
   refine zX3 pl8 ql8 el8 ?_
   exact gE Zu pl8 ql8 el8
  replace Zu:=Yl c14 Zu
  refine zQD [2,3,10,11,12,14,16,68] [none,none] ?_
  refine Yj (t:=(cond (y2.2.1 == 0) (y4.2.1 == 0) false)) rfl (fun nO => ?_) (fun nO => ?_)
  ·replace Zu:=Ym nO Zu
   refine zQ [8,9] ?_
   refine zW ?_
   exact zEy Zu
  replace Zu:=Yl nO Zu
  refine zQD [2,3,10,11,12,14,16,76] [none,none] ?_
  refine Yj (t:=(cond (y2.2.1 == 0) true (y4.2.1 == 0))) rfl (fun fR => ?_) (fun fR => ?_)
  ·replace Zu:=Ym fR Zu
   refine zQ [8,9] ?_
   refine zW ?_
   exact zEy Zu
  replace Zu:=Yl fR Zu
  refine zQ [2,3,10,11,12,14] ?_
  obtain ⟨y9,hy9,Zu⟩:=bC Zu
  obtain ⟨vC,Znf,Zu⟩:=bC Zu
  obtain ⟨l11,Zxz,Zx4,Zxd,Zu⟩:=bA (k:=1) rfl Zu
  refine vH [] Zxz Zx4 Zxd ?_
  refine (sK (i0:=n) (by omega) (by simp only [push_cast,seval,Zc,Ya,Zxz,Zx4,Zxd,Ye,hN] <;> rfl) hy9).then ?_
  refine zX3 Zxz Zx4 Zxd ?_
  refine (sK (i0:=(n+1)) (by omega) (by simp only [push_cast,seval,Zc,Ya,Zxz,Zx4,Zxd,Ye,hN] <;> rfl) Znf).then ?_
  refine zX3 Zxz Zx4 Zxd ?_
  exact gE Zu Zxz Zx4 Zxd
 try simp only [Qj,Xr,↓reduceIte,Nat.reduceEqDiff]
 exact jO [(sL Xm z16.1),(vB z16.2)]
theorem Zh1 {a0:(List Zo)} {a1:(List Zo)} {r:((List Yw)×Bool)} {O:Objs} {n:Nat} (h:Jp a0 a1=some r):GTo Try.prog 45 [(sL Zh a0),(sL Zh a1)] O n (.tup [(sL Xm r.1),(vB r.2)]) O n:=by
 unfold Jp at h
 refine uH Try.call45 Try.func45 fun hU Ye hN => ?_
 show W _ _ _ _ ⟨11,[],[(0,(sL Zh a0)),(1,(sL Zh a1))]⟩ (Yn O n []) _
 refine zQ [0,1] ?_
 refine Z7 ?_
 obtain ⟨y2,kE,h⟩:=bC h
 refine zCd (Zje kE) [4,5] [] ?_
 exact Jo [(sL Xm y2.1),(vB y2.2)]
theorem dP {a0:Zi} {a1:Zo} {Yy:Zg} {r:(Zi×Zg)} {O:Objs} {n:Nat} {i0 Yt Y1 Y2 Zr:Nat} (Ys:i0 < n) (Jr:Yt < n) (Vn:Y1 < n) (V6:Y2 < n) (X4:i0≠Yt) (Qh:i0≠Y1) (Qs:i0≠Y2) (Qg:Yt≠Y1) (Qq:Yt≠Y2) (Qr:Y1≠Y2) (Zk:Zr < n) (Qa:Zr≠Yt) (Qb:Zr≠Y1) (Qc:Zr≠Y2) (Yz:i0≠Zr) (uC:O i0=some ⟨false,85,13,1,(Zj (.ref Zr 0) (.row Yt a0.left.Words.length) (.row Y1 a0.left.Kids.length) (.row Y2 a0.left.Ops.length) ((sL Za a0.come)) a0)⟩) (J7:O Yt=some (oR 48 4 Zf a0.left.Words)) (U1:O Y1=some (oR 50 12 Ze a0.left.Kids)) (Gj:O Y2=some (oR 41 14 Zh a0.left.Ops)) (Ks:O Zr=some ⟨false,43,2,1,[(vB Yy.apart),(vB Yy.clash)]⟩) (h:rK a0 a1 Yy=some r):GTo Try.prog 77 [.ref i0 0,.agg (Xk a1)] O n (.tup []) (Yn (((((O.upd Yt none).upd Y1 none).upd Y2 none).upd i0 (some ⟨false,85,13,1,(Zj (.ref Zr 0) (.row n r.1.left.Words.length) (.row (n+1) r.1.left.Kids.length) (.row (n+2) r.1.left.Ops.length) ((sL Za r.1.come)) r.1)⟩)).upd Zr (some ⟨false,43,2,1,[(vB r.2.apart),(vB r.2.clash)]⟩)) n [some (oR 48 4 Zf r.1.left.Words),some (oR 50 12 Ze r.1.left.Kids),some (oR 41 14 Zh r.1.left.Ops)]) (n+3):=by
 unfold rK at h
 refine vX Yd Try.call77 Try.func77 rfl (Nat.le_of_ble_eq_true rfl) (by omega) fun hU => ?_
 rw [show Yn O n []=Yn ((O.upd i0 (some ⟨false,85,13,1,(Zj (.ref Zr 0) (.row Yt a0.left.Words.length) (.row Y1 a0.left.Kids.length) (.row Y2 a0.left.Ops.length) ((sL Za a0.come)) a0)⟩)).upd Zr (some ⟨false,43,2,1,[(vB Yy.apart),(vB Yy.clash)]⟩)) n [] from by rw [Qw uC,Qw Ks]]
 refine Xi (Y0 (k:=8) (by rw [Yb _ Ys];simp only [Yo,Zn Yz] <;> rfl) (by rfl) (by rw [Yb _ Jr];simp only [Zn (Ne.symm X4),Zn (Ne.symm Qa)];exact J7) X4 (by simp only [push_cast,Nat.reduceAdd,Z8 _ _ Jr,Z8 _ _ Ys,Z3 (Ne.symm X4),Z3 (Ne.symm Qa),Z3 Yz] <;> rfl) (by omega)) ?_
 refine Xi (Y0 (k:=9) (by rw [Yb _ Ys];simp only [Yo,Zn Yz] <;> rfl) (by rfl) (by rw [Yb _ Vn];simp only [Zn (Ne.symm Qh),Zn (Ne.symm Qb),Zn (Ne.symm Qg)];exact U1) Qh (by simp only [push_cast,Nat.reduceAdd,Z8 _ _ Vn,Z8 _ _ Ys,Z3 (Ne.symm Qh),Z3 (Ne.symm Qb),Z3 Yz] <;> rfl) (by omega)) ?_
 refine Xi (Y0 (k:=11) (by rw [Yb _ Ys];simp only [Yo,Zn Yz] <;> rfl) (by rfl) (by rw [Yb _ V6];simp only [Zn (Ne.symm Qs),Zn (Ne.symm Qc),Zn (Ne.symm Qq),Zn (Ne.symm Qr)];exact Gj) Qs (by simp only [push_cast,Nat.reduceAdd,Z8 _ _ V6,Z8 _ _ Ys,Z3 (Ne.symm Qs),Z3 (Ne.symm Qc),Z3 Yz] <;> rfl) (by omega)) ?_
 have hU:=(Und.drop (Und.drop (Und.drop hU Yt) Y1) Y2)
 have Z4:=fun X=>@Zn X _ _ Yz
 have Z5:=fun X=>@Zn X _ _ (Ne.symm Yz)
 have Z6:=fun X b c=>@Z3 X _ _ b c Yz
 have Y4:∀ k,i0 < n+k:=fun k=>by omega
 have Zm:∀ k,Zr < n+k:=fun k=>by omega
 have Ye:∀ o p,Objs.upd (Objs.upd (((O.upd Yt none).upd Y1 none).upd Y2 none) i0 o) Zr p n=none:=fun o p=>(Xe _ _ (by omega)).trans (Xb hU Ys _ (Nat.le_refl _))
 have hN:∀ o p k,Objs.upd (Objs.upd (((O.upd Yt none).upd Y1 none).upd Y2 none) i0 o) Zr p (n+k)=none:=fun o p k=>(Xe _ _ (by omega)).trans (Xb hU Ys _ (Nat.le_add_right _ _))
 show W _ _ _ _ ⟨17,[],[(0,.ref i0 0),(1,.agg (Xk a1))]⟩ (Yn (((((O.upd Yt none).upd Y1 none).upd Y2 none).upd i0 (some ⟨false,85,13,1,(Zj (.ref Zr 0) (.row n a0.left.Words.length) (.row (n+1) a0.left.Kids.length) (.row (n+2) a0.left.Ops.length) ((sL Za a0.come)) a0)⟩)).upd Zr (some ⟨false,43,2,1,[(vB Yy.apart),(vB Yy.clash)]⟩)) n [some (oR 48 4 Zf a0.left.Words),some (oR 50 12 Ze a0.left.Kids),some (oR 41 14 Zh a0.left.Ops)]) _
 refine yJ [0,3] (Yv Yd [] ?_)
 simp only [push_cast,seval,Zc,Ys,Y4,Zk,Zm,Z4,Z5,Z6,Ye,hN]
 obtain ⟨l1,pl1,ql1,el1,h⟩:=bA (k:=1) rfl h
 obtain ⟨x2,hx2,ax2,bx2,cx2,h⟩:=bE (f:=Zh) rJ (fun _=>rfl) (by decide) h
 have gu3:Vb (fl Zh a0.left.Ops++[.val (.int .i64 0),.val (.int .i64 0),.val (.slice none 0 0),.val (.int .i64 0),.val (.int .i64 0),.val (.slice none 0 0),.val (.slice none 0 0),.val (.int .i64 0),.val (.slice none 0 0),.val (.slice none 0 0),.val (.slice none 0 0),.val (.slice none 0 0),.val (.int .i64 0),.val (.slice none 0 0)]) [.val (.int .i64 a1.Kind),.val (.int .i64 a1.N),.sl a1.L.length (fl Za a1.L),.val (.int .i64 a1.E.Kind),.val (.int .i64 a1.E.Old.Kind),.sl a1.E.Old.Words.length (fl (eI .u64) a1.E.Old.Words),.sl a1.E.Old.Kids.length (fl Za a1.E.Old.Kids),.val (.int .i64 a1.E.New.Kind),.sl a1.E.New.Words.length (fl (eI .u64) a1.E.New.Words),.sl a1.E.New.Kids.length (fl Za a1.E.New.Kids),.sl a1.E.Words.length (fl Zf a1.E.Words),.sl a1.E.Kids.length (fl Ze a1.E.Kids),.val (.int .i64 a1.E.List_),.sl a1.E.Ops.length (fl Zh a1.E.Ops)] (List.length a0.left.Ops * 14)=some (fl Zh a0.left.Ops++[.val (.int .i64 a1.Kind),.val (.int .i64 a1.N),.sl a1.L.length (fl Za a1.L),.val (.int .i64 a1.E.Kind),.val (.int .i64 a1.E.Old.Kind),.sl a1.E.Old.Words.length (fl (eI .u64) a1.E.Old.Words),.sl a1.E.Old.Kids.length (fl Za a1.E.Old.Kids),.val (.int .i64 a1.E.New.Kind),.sl a1.E.New.Words.length (fl (eI .u64) a1.E.New.Words),.sl a1.E.New.Kids.length (fl Za a1.E.New.Kids),.sl a1.E.Words.length (fl Zf a1.E.Words),.sl a1.E.Kids.length (fl Ze a1.E.Kids),.val (.int .i64 a1.E.List_),.sl a1.E.Ops.length (fl Zh a1.E.Ops)]):=U5 (f:=Zh) (sz:=14) (fun _=>rfl) rfl rfl
 refine V4 Yd (by kernel_rfl) [.plain,.low,.low,.low,.low,.low,.low,.pass,.bar,.shp,.fill true,.shp,.shp,.shp,.fill false] (fun i=>i < (n+4)) [0,1,2,3,4,5,6,7,8,9,10,11,12,13,14] [.plain,.low,.low,.low,.low,.low,.low,.pass,.bar,.shp,.fill true,.shp,.shp,.shp,.fill false] [] (by kernel_rfl) rfl ?_
 simp only [push_cast,seval,Zc,pl1,ql1,el1,ax2,bx2,cx2,gu3,Ys,Y4,Zk,Zm,Z4,Z5,Z6,Ye,hN]
 refine zO ?_
 obtain rfl:=sI h
 refine Kk (k:=3) (i:=i0) (j:=Zr) (q1:=⟨false,85,13,1,(Zj (.ref Zr 0) (.row n a0.left.Words.length) (.row (n+1) a0.left.Kids.length) (.row (n+2) (a0.left.Ops++[a1]).length) ((sL Za a0.come)) a0)⟩) (p1:=⟨false,43,2,1,[(vB Yy.apart),(vB Yy.clash)]⟩) (L3:=[some (oR 48 4 Zf a0.left.Words),some (oR 50 12 Ze a0.left.Kids),some (oR 41 14 Zh (a0.left.Ops++[a1])),none]) (E2:=(⟨17,[],[]⟩:Env)) (n3:=(n+4)) (.inl rfl) hU rfl [] ?_ ?_
 ·refine fr2 (k:=5) (k':=4) hU [0,1,2,3,3] [0,1,2,0] (zM2 Ys Zk) ?_ ?_
  ·simp only [push_cast,seval,Zc,pl1,ql1,el1,ax2,bx2,cx2,gu3,Ys,Y4,Zk,Zm,Z4,Z5,Z6,Ye,hN]
  simp only [push_cast,seval,Zc,Ys,Y4,Zk,Zm,Z4,Z5,Z6,Ye,hN]
 simp only [push_cast,seval,Zc,Try.results77,Ys,Y4,Zk,Zm,Z4,Z5,Z6,Ye,hN]
theorem aP {a0:Zi} {a1:(List Zb)} {Yy:Zg} {r:(Zi×Zg)} {O:Objs} {n:Nat} {i0 Yt Y1 Y2 Zr:Nat} (Ys:i0 < n) (Jr:Yt < n) (Vn:Y1 < n) (V6:Y2 < n) (X4:i0≠Yt) (Qh:i0≠Y1) (Qs:i0≠Y2) (Qg:Yt≠Y1) (Qq:Yt≠Y2) (Qr:Y1≠Y2) (Zk:Zr < n) (Qa:Zr≠Yt) (Qb:Zr≠Y1) (Qc:Zr≠Y2) (Yz:i0≠Zr) (uC:O i0=some ⟨false,85,13,1,(Zj (.ref Zr 0) (.row Yt a0.left.Words.length) (.row Y1 a0.left.Kids.length) (.row Y2 a0.left.Ops.length) ((sL Za a0.come)) a0)⟩) (J7:O Yt=some (oR 48 4 Zf a0.left.Words)) (U1:O Y1=some (oR 50 12 Ze a0.left.Kids)) (Gj:O Y2=some (oR 41 14 Zh a0.left.Ops)) (Ks:O Zr=some ⟨false,43,2,1,[(vB Yy.apart),(vB Yy.clash)]⟩) (h:bX a0 a1 Yy=some r):GTo Try.prog 67 [.ref i0 0,(sL Za a1)] O n (.tup []) (Yn (((((O.upd Yt none).upd Y1 none).upd Y2 none).upd i0 (some ⟨false,85,13,1,(Zj (.ref Zr 0) (.row n r.1.left.Words.length) (.row (n+1) r.1.left.Kids.length) (.row (n+2) r.1.left.Ops.length) ((sL Za r.1.come)) r.1)⟩)).upd Zr (some ⟨false,43,2,1,[(vB r.2.apart),(vB r.2.clash)]⟩)) n [some (oR 48 4 Zf r.1.left.Words),some (oR 50 12 Ze r.1.left.Kids),some (oR 41 14 Zh r.1.left.Ops)]) (n+3):=by
 unfold bX at h
 refine vX Yd Try.call67 Try.func67 rfl (Nat.le_of_ble_eq_true rfl) (by omega) fun hU => ?_
 rw [show Yn O n []=Yn ((O.upd i0 (some ⟨false,85,13,1,(Zj (.ref Zr 0) (.row Yt a0.left.Words.length) (.row Y1 a0.left.Kids.length) (.row Y2 a0.left.Ops.length) ((sL Za a0.come)) a0)⟩)).upd Zr (some ⟨false,43,2,1,[(vB Yy.apart),(vB Yy.clash)]⟩)) n [] from by rw [Qw uC,Qw Ks]]
 refine Xi (Y0 (k:=8) (by rw [Yb _ Ys];simp only [Yo,Zn Yz] <;> rfl) (by rfl) (by rw [Yb _ Jr];simp only [Zn (Ne.symm X4),Zn (Ne.symm Qa)];exact J7) X4 (by simp only [push_cast,Nat.reduceAdd,Z8 _ _ Jr,Z8 _ _ Ys,Z3 (Ne.symm X4),Z3 (Ne.symm Qa),Z3 Yz] <;> rfl) (by omega)) ?_
 refine Xi (Y0 (k:=9) (by rw [Yb _ Ys];simp only [Yo,Zn Yz] <;> rfl) (by rfl) (by rw [Yb _ Vn];simp only [Zn (Ne.symm Qh),Zn (Ne.symm Qb),Zn (Ne.symm Qg)];exact U1) Qh (by simp only [push_cast,Nat.reduceAdd,Z8 _ _ Vn,Z8 _ _ Ys,Z3 (Ne.symm Qh),Z3 (Ne.symm Qb),Z3 Yz] <;> rfl) (by omega)) ?_
 refine Xi (Y0 (k:=11) (by rw [Yb _ Ys];simp only [Yo,Zn Yz] <;> rfl) (by rfl) (by rw [Yb _ V6];simp only [Zn (Ne.symm Qs),Zn (Ne.symm Qc),Zn (Ne.symm Qq),Zn (Ne.symm Qr)];exact Gj) Qs (by simp only [push_cast,Nat.reduceAdd,Z8 _ _ V6,Z8 _ _ Ys,Z3 (Ne.symm Qs),Z3 (Ne.symm Qc),Z3 Yz] <;> rfl) (by omega)) ?_
 have hU:=(Und.drop (Und.drop (Und.drop hU Yt) Y1) Y2)
 have Z4:=fun X=>@Zn X _ _ Yz
 have Z5:=fun X=>@Zn X _ _ (Ne.symm Yz)
 have Z6:=fun X b c=>@Z3 X _ _ b c Yz
 have Y4:∀ k,i0 < n+k:=fun k=>by omega
 have Zm:∀ k,Zr < n+k:=fun k=>by omega
 have Ye:∀ o p,Objs.upd (Objs.upd (((O.upd Yt none).upd Y1 none).upd Y2 none) i0 o) Zr p n=none:=fun o p=>(Xe _ _ (by omega)).trans (Xb hU Ys _ (Nat.le_refl _))
 have hN:∀ o p k,Objs.upd (Objs.upd (((O.upd Yt none).upd Y1 none).upd Y2 none) i0 o) Zr p (n+k)=none:=fun o p k=>(Xe _ _ (by omega)).trans (Xb hU Ys _ (Nat.le_add_right _ _))
 show W _ _ _ _ ⟨25,[],[(0,.ref i0 0),(1,(sL Za a1))]⟩ (Yn (((((O.upd Yt none).upd Y1 none).upd Y2 none).upd i0 (some ⟨false,85,13,1,(Zj (.ref Zr 0) (.row n a0.left.Words.length) (.row (n+1) a0.left.Kids.length) (.row (n+2) a0.left.Ops.length) ((sL Za a0.come)) a0)⟩)).upd Zr (some ⟨false,43,2,1,[(vB Yy.apart),(vB Yy.clash)]⟩)) n [some (oR 48 4 Zf a0.left.Words),some (oR 50 12 Ze a0.left.Kids),some (oR 41 14 Zh a0.left.Ops)]) _
 refine yJ [0,1,6] (Yv Yd [] ?_)
 simp only [push_cast,seval,Zc,Ys,Y4,Zk,Zm,Z4,Z5,Z6,Ye,hN]
 refine Yj (t:=(decide (0 < (a1.length:Int)))) rfl (fun c4 => ?_) (fun c4 => ?_)
 ·replace h:=Ym c4 h
  obtain ⟨y1,hy1,h⟩:=bC h
  refine Yv Yd [] ?_
  simp only [push_cast,seval,Zc,Ys,Y4,Zk,Zm,Z4,Z5,Z6,Ye,hN]
  refine GCalls.argsW ?_ ((dP (i0:=i0) (Zr:=Zr) (Yt:=n) (Y1:=(n+1)) (Y2:=(n+2)) (by omega) (by omega) (by omega) (by omega) (by omega) (by omega) (by omega) (by omega) (by omega) (by omega) (by omega) (by omega) (by omega) (by omega) (by omega) (by simp only [push_cast,seval,Zc,Ya,Ys,Y4,Zk,Zm,Z4,Z5,Z6,Ye,hN] <;> rfl) (by simp only [push_cast,seval,Zc,Ya,Ys,Y4,Zk,Zm,Z4,Z5,Z6,Ye,hN] <;> rfl) (by simp only [push_cast,seval,Zc,Ya,Ys,Y4,Zk,Zm,Z4,Z5,Z6,Ye,hN] <;> rfl) (by simp only [push_cast,seval,Zc,Ya,Ys,Y4,Zk,Zm,Z4,Z5,Z6,Ye,hN] <;> rfl) (by simp only [push_cast,seval,Zc,Ya,Ys,Y4,Zk,Zm,Z4,Z5,Z6,Ye,hN] <;> rfl) hy1).then ?_)
  ·simp only [push_cast,seval,Zc,Ys,Y4,Zk,Zm,Z4,Z5,Z6,Ye,hN]
  simp only [push_cast,seval,Zc,Ys,Y4,Zk,Zm,Z4,Z5,Z6,Ye,hN]
  obtain rfl:=sI h
  refine Kk (k:=3) (i:=i0) (j:=Zr) (q1:=⟨false,85,13,1,(Zj (.ref Zr 0) (.row n y1.1.left.Words.length) (.row (n+1) y1.1.left.Kids.length) (.row (n+2) y1.1.left.Ops.length) ((sL Za y1.1.come)) y1.1)⟩) (p1:=⟨false,43,2,1,[(vB y1.2.apart),(vB y1.2.clash)]⟩) (L3:=[some (oR 48 4 Zf y1.1.left.Words),some (oR 50 12 Ze y1.1.left.Kids),some (oR 41 14 Zh y1.1.left.Ops),none]) (E2:=(⟨25,[],[]⟩:Env)) (n3:=(n+4)) (.inl rfl) hU rfl [] ?_ ?_
  ·refine fr2 (k:=6) (k':=4) hU [3,3,3,0,1,2] [3,4,5,0] (zM2 Ys Zk) ?_ ?_
   ·simp only [push_cast,seval,Zc,Ys,Y4,Zk,Zm,Z4,Z5,Z6,Ye,hN]
   simp only [push_cast,seval,Zc,Ys,Y4,Zk,Zm,Z4,Z5,Z6,Ye,hN]
  simp only [push_cast,seval,Zc,Try.results67,Ys,Y4,Zk,Zm,Z4,Z5,Z6,Ye,hN]
 replace h:=Yl c4 h
 refine yJ [0,17] (Yv Yd [] ?_)
 simp only [push_cast,seval,Zc,Ys,Y4,Zk,Zm,Z4,Z5,Z6,Ye,hN]
 refine Yj (t:=(decide (0 < (a0.come.length:Int)))) rfl (fun c3 => ?_) (fun c3 => ?_)
 ·replace h:=Ym c3 h
  obtain ⟨y2,kE,h⟩:=bC h
  refine Yv Yd [] ?_
  simp only [push_cast,seval,Zc,Ys,Y4,Zk,Zm,Z4,Z5,Z6,Ye,hN]
  refine GCalls.argsW ?_ ((dP (i0:=i0) (Zr:=Zr) (Yt:=n) (Y1:=(n+1)) (Y2:=(n+2)) (by omega) (by omega) (by omega) (by omega) (by omega) (by omega) (by omega) (by omega) (by omega) (by omega) (by omega) (by omega) (by omega) (by omega) (by omega) (by simp only [push_cast,seval,Zc,Ya,Ys,Y4,Zk,Zm,Z4,Z5,Z6,Ye,hN] <;> rfl) (by simp only [push_cast,seval,Zc,Ya,Ys,Y4,Zk,Zm,Z4,Z5,Z6,Ye,hN] <;> rfl) (by simp only [push_cast,seval,Zc,Ya,Ys,Y4,Zk,Zm,Z4,Z5,Z6,Ye,hN] <;> rfl) (by simp only [push_cast,seval,Zc,Ya,Ys,Y4,Zk,Zm,Z4,Z5,Z6,Ye,hN] <;> rfl) (by simp only [push_cast,seval,Zc,Ya,Ys,Y4,Zk,Zm,Z4,Z5,Z6,Ye,hN] <;> rfl) kE).then ?_)
  ·simp only [push_cast,seval,Zc,Ys,Y4,Zk,Zm,Z4,Z5,Z6,Ye,hN]
  simp only [push_cast,seval,Zc,Ys,Y4,Zk,Zm,Z4,Z5,Z6,Ye,hN]
  obtain rfl:=sI h
  refine Kk (k:=3) (i:=i0) (j:=Zr) (q1:=⟨false,85,13,1,(Zj (.ref Zr 0) (.row n y2.1.left.Words.length) (.row (n+1) y2.1.left.Kids.length) (.row (n+2) y2.1.left.Ops.length) ((sL Za y2.1.come)) y2.1)⟩) (p1:=⟨false,43,2,1,[(vB y2.2.apart),(vB y2.2.clash)]⟩) (L3:=[some (oR 48 4 Zf y2.1.left.Words),some (oR 50 12 Ze y2.1.left.Kids),some (oR 41 14 Zh y2.1.left.Ops),none]) (E2:=(⟨25,[],[]⟩:Env)) (n3:=(n+4)) (.inl rfl) hU rfl [] ?_ ?_
  ·refine fr2 (k:=6) (k':=4) hU [3,3,3,0,1,2] [3,4,5,0] (zM2 Ys Zk) ?_ ?_
   ·simp only [push_cast,seval,Zc,Ys,Y4,Zk,Zm,Z4,Z5,Z6,Ye,hN]
   simp only [push_cast,seval,Zc,Ys,Y4,Zk,Zm,Z4,Z5,Z6,Ye,hN]
  simp only [push_cast,seval,Zc,Try.results67,Ys,Y4,Zk,Zm,Z4,Z5,Z6,Ye,hN]
 replace h:=Yl c3 h
 refine zK ?_
 obtain rfl:=sI h
 refine Kk (k:=3) (i:=i0) (j:=Zr) (q1:=⟨false,85,13,1,(Zj (.ref Zr 0) (.row n a0.left.Words.length) (.row (n+1) a0.left.Kids.length) (.row (n+2) a0.left.Ops.length) ((sL Za a0.come)) a0)⟩) (p1:=⟨false,43,2,1,[(vB Yy.apart),(vB Yy.clash)]⟩) (L3:=[some (oR 48 4 Zf a0.left.Words),some (oR 50 12 Ze a0.left.Kids),some (oR 41 14 Zh a0.left.Ops),none]) (E2:=(⟨25,[],[]⟩:Env)) (n3:=(n+4)) (.inl rfl) hU rfl [] ?_ ?_
 ·refine fr2 (k:=3) (k':=4) hU [0,1,2] [0,1,2,0] (zM2 Ys Zk) ?_ ?_
  ·simp only [push_cast,seval,Zc,Ys,Y4,Zk,Zm,Z4,Z5,Z6,Ye,hN]
  simp only [push_cast,seval,Zc,Ys,Y4,Zk,Zm,Z4,Z5,Z6,Ye,hN]
 simp only [push_cast,seval,Zc,Try.results67,Ys,Y4,Zk,Zm,Z4,Z5,Z6,Ye,hN]
theorem uI {a1:Zi} {a2:Zi} {Yy:Zg} {r:(Zi×Zi×Zg)} {O:Objs} {n:Nat} {i1 Q4 Q5 Q6 Q7 i2 Q8 Q9 Ja Jb Zr:Nat} (X2:i1 < n) (uR:Q4 < n) (vR:Q5 < n) (wR:Q6 < n) (xR:Q7 < n) (rG:i1≠Q4) (sG:i1≠Q5) (tG:i1≠Q6) (uG:i1≠Q7) (cQ:Q4≠Q5) (dQ:Q4≠Q6) (eQ:Q4≠Q7) (kQ:Q5≠Q6) (lQ:Q5≠Q7) (qQ:Q6≠Q7) (X0:i2 < n) (yR:Q8 < n) (aS:Q9 < n) (cS:Ja < n) (dS:Jb < n) (vG:i2≠Q8) (wG:i2≠Q9) (xG:i2≠Ja) (yG:i2≠Jb) (aJ:Q8≠Q9) (bJ:Q8≠Ja) (cJ:Q8≠Jb) (dJ:Q9≠Ja) (eJ:Q9≠Jb) (fJ:Ja≠Jb) (Zk:Zr < n) (qY:i1≠Q8) (rY:i1≠Q9) (sY:i1≠Ja) (tY:i1≠Jb) (uY:i2≠Q4) (vY:i2≠Q5) (wY:i2≠Q6) (xY:i2≠Q7) (V7:Zr≠Q4) (V8:Zr≠Q5) (V9:Zr≠Q6) (Ua:Zr≠Q7) (Ub:Zr≠Q8) (Uc:Zr≠Q9) (Ud:Zr≠Ja) (Ue:Zr≠Jb) (Jm:i1≠i2) (X8:i1≠Zr) (X9:i2≠Zr) (fQ:Q4≠Q8) (gQ:Q4≠Q9) (iQ:Q4≠Ja) (jQ:Q4≠Jb) (mQ:Q5≠Q8) (nQ:Q5≠Q9) (oQ:Q5≠Ja) (pQ:Q5≠Jb) (rQ:Q6≠Q8) (sQ:Q6≠Q9) (tQ:Q6≠Ja) (uQ:Q6≠Jb) (vQ:Q7≠Q8) (wQ:Q7≠Q9) (xQ:Q7≠Ja) (yQ:Q7≠Jb) (ho1:O i1=some ⟨false,85,13,1,(Zj (.ref Zr 0) (.row Q4 a1.left.Words.length) (.row Q5 a1.left.Kids.length) (.row Q6 a1.left.Ops.length) (.row Q7 a1.come.length) a1)⟩) (lN:O Q4=some (oR 48 4 Zf a1.left.Words)) (mN:O Q5=some (oR 50 12 Ze a1.left.Kids)) (nN:O Q6=some (oR 41 14 Zh a1.left.Ops)) (oN:O Q7=some (oR 25 3 Za a1.come)) (ho2:O i2=some ⟨false,85,13,1,(Zj (.ref Zr 0) (.row Q8 a2.left.Words.length) (.row Q9 a2.left.Kids.length) (.row Ja a2.left.Ops.length) (.row Jb a2.come.length) a2)⟩) (pN:O Q8=some (oR 48 4 Zf a2.left.Words)) (qN:O Q9=some (oR 50 12 Ze a2.left.Kids)) (rN:O Ja=some (oR 41 14 Zh a2.left.Ops)) (sN:O Jb=some (oR 25 3 Za a2.come)) (Ks:O Zr=some ⟨false,43,2,1,[(vB Yy.apart),(vB Yy.clash)]⟩) (h:K4 a1 a2 Yy=some r):GTo Try.prog 46 [.ref Zr 0,.ref i1 0,.ref i2 0] O n (.tup []) (Yn (((((((((((O.upd Q4 none).upd Q5 none).upd Q6 none).upd Q7 none).upd Q8 none).upd Q9 none).upd Ja none).upd Jb none).upd i1 (some ⟨false,85,13,1,(Zj (.ref Zr 0) (.row n r.1.left.Words.length) (.row (n+1) r.1.left.Kids.length) (.row (n+2) r.1.left.Ops.length) (.row (n+3) r.1.come.length) r.1)⟩)).upd i2 (some ⟨false,85,13,1,(Zj (.ref Zr 0) (.row (n+4) r.2.1.left.Words.length) (.row (n+5) r.2.1.left.Kids.length) (.row (n+6) r.2.1.left.Ops.length) (.row (n+7) r.2.1.come.length) r.2.1)⟩)).upd Zr (some ⟨false,43,2,1,[(vB r.2.2.apart),(vB r.2.2.clash)]⟩)) n [some (oR 48 4 Zf r.1.left.Words),some (oR 50 12 Ze r.1.left.Kids),some (oR 41 14 Zh r.1.left.Ops),some (oR 25 3 Za r.1.come),some (oR 48 4 Zf r.2.1.left.Words),some (oR 50 12 Ze r.2.1.left.Kids),some (oR 41 14 Zh r.2.1.left.Ops),some (oR 25 3 Za r.2.1.come)]) (n+8):=by
 unfold K4 at h
 refine vX Yd Try.call46 Try.func46 rfl (Nat.le_of_ble_eq_true rfl) (by omega) fun hU => ?_
 rw [show Yn O n []=Yn (((O.upd i1 (some ⟨false,85,13,1,(Zj (.ref Zr 0) (.row Q4 a1.left.Words.length) (.row Q5 a1.left.Kids.length) (.row Q6 a1.left.Ops.length) (.row Q7 a1.come.length) a1)⟩)).upd i2 (some ⟨false,85,13,1,(Zj (.ref Zr 0) (.row Q8 a2.left.Words.length) (.row Q9 a2.left.Kids.length) (.row Ja a2.left.Ops.length) (.row Jb a2.come.length) a2)⟩)).upd Zr (some ⟨false,43,2,1,[(vB Yy.apart),(vB Yy.clash)]⟩)) n [] from by rw [Qw ho1,Qw ho2,Qw Ks]]
 refine Xi (Y0 (k:=8) (by rw [Yb _ X2];simp only [Yo,Zn Jm,Zn X8] <;> rfl) (by rfl) (by rw [Yb _ uR];simp only [Zn (Ne.symm rG),Zn (Ne.symm uY),Zn (Ne.symm V7)];exact lN) rG (by simp only [push_cast,Nat.reduceAdd,Z8 _ _ uR,Z8 _ _ X2,Z3 (Ne.symm rG),Z3 (Ne.symm uY),Z3 (Ne.symm V7),Z3 Jm,Z3 X8,Z3 X9] <;> rfl) (by omega)) ?_
 refine Xi (Y0 (k:=9) (by rw [Yb _ X2];simp only [Yo,Zn Jm,Zn X8] <;> rfl) (by rfl) (by rw [Yb _ vR];simp only [Zn (Ne.symm sG),Zn (Ne.symm vY),Zn (Ne.symm V8),Zn (Ne.symm cQ)];exact mN) sG (by simp only [push_cast,Nat.reduceAdd,Z8 _ _ vR,Z8 _ _ X2,Z3 (Ne.symm sG),Z3 (Ne.symm vY),Z3 (Ne.symm V8),Z3 Jm,Z3 X8,Z3 X9] <;> rfl) (by omega)) ?_
 refine Xi (Y0 (k:=11) (by rw [Yb _ X2];simp only [Yo,Zn Jm,Zn X8] <;> rfl) (by rfl) (by rw [Yb _ wR];simp only [Zn (Ne.symm tG),Zn (Ne.symm wY),Zn (Ne.symm V9),Zn (Ne.symm dQ),Zn (Ne.symm kQ)];exact nN) tG (by simp only [push_cast,Nat.reduceAdd,Z8 _ _ wR,Z8 _ _ X2,Z3 (Ne.symm tG),Z3 (Ne.symm wY),Z3 (Ne.symm V9),Z3 Jm,Z3 X8,Z3 X9] <;> rfl) (by omega)) ?_
 refine Xi (Y0 (k:=12) (by rw [Yb _ X2];simp only [Yo,Zn Jm,Zn X8] <;> rfl) (by rfl) (by rw [Yb _ xR];simp only [Zn (Ne.symm uG),Zn (Ne.symm xY),Zn (Ne.symm Ua),Zn (Ne.symm eQ),Zn (Ne.symm lQ),Zn (Ne.symm qQ)];exact oN) uG (by simp only [push_cast,Nat.reduceAdd,Z8 _ _ xR,Z8 _ _ X2,Z3 (Ne.symm uG),Z3 (Ne.symm xY),Z3 (Ne.symm Ua),Z3 Jm,Z3 X8,Z3 X9] <;> rfl) (by omega)) ?_
 refine Xi (Y0 (k:=8) (by rw [Yb _ X0];simp only [Yo,Zn (Ne.symm Jm),Zn X9] <;> rfl) (by rfl) (by rw [Yb _ yR];simp only [Zn (Ne.symm qY),Zn (Ne.symm vG),Zn (Ne.symm Ub),Zn (Ne.symm fQ),Zn (Ne.symm mQ),Zn (Ne.symm rQ),Zn (Ne.symm vQ)];exact pN) vG (by simp only [push_cast,Nat.reduceAdd,Z8 _ _ yR,Z8 _ _ X0,Z3 (Ne.symm qY),Z3 (Ne.symm vG),Z3 (Ne.symm Ub),Z3 Jm,Z3 X8,Z3 X9] <;> rfl) (by omega)) ?_
 refine Xi (Y0 (k:=9) (by rw [Yb _ X0];simp only [Yo,Zn (Ne.symm Jm),Zn X9] <;> rfl) (by rfl) (by rw [Yb _ aS];simp only [Zn (Ne.symm rY),Zn (Ne.symm wG),Zn (Ne.symm Uc),Zn (Ne.symm gQ),Zn (Ne.symm nQ),Zn (Ne.symm sQ),Zn (Ne.symm wQ),Zn (Ne.symm aJ)];exact qN) wG (by simp only [push_cast,Nat.reduceAdd,Z8 _ _ aS,Z8 _ _ X0,Z3 (Ne.symm rY),Z3 (Ne.symm wG),Z3 (Ne.symm Uc),Z3 Jm,Z3 X8,Z3 X9] <;> rfl) (by omega)) ?_
 refine Xi (Y0 (k:=11) (by rw [Yb _ X0];simp only [Yo,Zn (Ne.symm Jm),Zn X9] <;> rfl) (by rfl) (by rw [Yb _ cS];simp only [Zn (Ne.symm sY),Zn (Ne.symm xG),Zn (Ne.symm Ud),Zn (Ne.symm iQ),Zn (Ne.symm oQ),Zn (Ne.symm tQ),Zn (Ne.symm xQ),Zn (Ne.symm bJ),Zn (Ne.symm dJ)];exact rN) xG (by simp only [push_cast,Nat.reduceAdd,Z8 _ _ cS,Z8 _ _ X0,Z3 (Ne.symm sY),Z3 (Ne.symm xG),Z3 (Ne.symm Ud),Z3 Jm,Z3 X8,Z3 X9] <;> rfl) (by omega)) ?_
 refine Xi (Y0 (k:=12) (by rw [Yb _ X0];simp only [Yo,Zn (Ne.symm Jm),Zn X9] <;> rfl) (by rfl) (by rw [Yb _ dS];simp only [Zn (Ne.symm tY),Zn (Ne.symm yG),Zn (Ne.symm Ue),Zn (Ne.symm jQ),Zn (Ne.symm pQ),Zn (Ne.symm uQ),Zn (Ne.symm yQ),Zn (Ne.symm cJ),Zn (Ne.symm eJ),Zn (Ne.symm fJ)];exact sN) yG (by simp only [push_cast,Nat.reduceAdd,Z8 _ _ dS,Z8 _ _ X0,Z3 (Ne.symm tY),Z3 (Ne.symm yG),Z3 (Ne.symm Ue),Z3 Jm,Z3 X8,Z3 X9] <;> rfl) (by omega)) ?_
 have hU:=(Und.drop (Und.drop (Und.drop (Und.drop (Und.drop (Und.drop (Und.drop (Und.drop hU Q4) Q5) Q6) Q7) Q8) Q9) Ja) Jb)
 have Yp:=fun X=>@Zn X _ _ Jm
 have Yq:=fun X=>@Zn X _ _ (Ne.symm Jm)
 have Yr:=fun X b c=>@Z3 X _ _ b c Jm
 have Zv:=fun X=>@Zn X _ _ X8
 have Zx:=fun X=>@Zn X _ _ (Ne.symm X8)
 have Zz:=fun X b c=>@Z3 X _ _ b c X8
 have Zw:=fun X=>@Zn X _ _ X9
 have Zy:=fun X=>@Zn X _ _ (Ne.symm X9)
 have Z0:=fun X b c=>@Z3 X _ _ b c X9
 have Qz:∀ k,i1 < n+k:=fun k=>by omega
 have Qo:∀ k,i2 < n+k:=fun k=>by omega
 have Zm:∀ k,Zr < n+k:=fun k=>by omega
 have Ye:∀ o p r,Objs.upd (Objs.upd (Objs.upd ((((((((O.upd Q4 none).upd Q5 none).upd Q6 none).upd Q7 none).upd Q8 none).upd Q9 none).upd Ja none).upd Jb none) i1 o) i2 p) Zr r n=none:=fun o p r=>(Xe _ _ (by omega)).trans ((Xe _ _ (by omega)).trans (Xb hU X2 _ (Nat.le_refl _)))
 have hN:∀ o p r k,Objs.upd (Objs.upd (Objs.upd ((((((((O.upd Q4 none).upd Q5 none).upd Q6 none).upd Q7 none).upd Q8 none).upd Q9 none).upd Ja none).upd Jb none) i1 o) i2 p) Zr r (n+k)=none:=fun o p r k=>(Xe _ _ (by omega)).trans ((Xe _ _ (by omega)).trans (Xb hU X2 _ (Nat.le_add_right _ _)))
 show W _ _ _ _ ⟨53,[],[(0,.ref Zr 0),(1,.ref i1 0),(2,.ref i2 0)]⟩ (Yn (((((((((((O.upd Q4 none).upd Q5 none).upd Q6 none).upd Q7 none).upd Q8 none).upd Q9 none).upd Ja none).upd Jb none).upd i1 (some ⟨false,85,13,1,(Zj (.ref Zr 0) (.row n a1.left.Words.length) (.row (n+1) a1.left.Kids.length) (.row (n+2) a1.left.Ops.length) (.row (n+3) a1.come.length) a1)⟩)).upd i2 (some ⟨false,85,13,1,(Zj (.ref Zr 0) (.row (n+4) a2.left.Words.length) (.row (n+5) a2.left.Kids.length) (.row (n+6) a2.left.Ops.length) (.row (n+7) a2.come.length) a2)⟩)).upd Zr (some ⟨false,43,2,1,[(vB Yy.apart),(vB Yy.clash)]⟩)) n [some (oR 48 4 Zf a1.left.Words),some (oR 50 12 Ze a1.left.Kids),some (oR 41 14 Zh a1.left.Ops),some (oR 25 3 Za a1.come),some (oR 48 4 Zf a2.left.Words),some (oR 50 12 Ze a2.left.Kids),some (oR 41 14 Zh a2.left.Ops),some (oR 25 3 Za a2.come)]) _
 obtain ⟨z1,Jx,h⟩:=bC h
 refine Qf (E':=⟨53,[],[(1,.ref i1 0),(2,.ref i2 0)]⟩) (O':=(Yn (((((((((((O.upd Q4 none).upd Q5 none).upd Q6 none).upd Q7 none).upd Q8 none).upd Q9 none).upd Ja none).upd Jb none).upd i1 (some ⟨false,85,13,1,(Zj (.ref Zr 0) (.row n a1.left.Words.length) (.row (n+1) a1.left.Kids.length) (.row (n+2) a1.left.Ops.length) (.row (n+3) a1.come.length) a1)⟩)).upd i2 (some ⟨false,85,13,1,(Zj (.ref Zr 0) (.row (n+4) a2.left.Words.length) (.row (n+5) a2.left.Kids.length) (.row (n+6) a2.left.Ops.length) (.row (n+7) a2.come.length) a2)⟩)).upd Zr (some ⟨false,43,2,1,[(vB Yy.apart),(vB z1)]⟩)) n [some (oR 48 4 Zf a1.left.Words),some (oR 50 12 Ze a1.left.Kids),some (oR 41 14 Zh a1.left.Ops),some (oR 25 3 Za a1.come),some (oR 48 4 Zf a2.left.Words),some (oR 50 12 Ze a2.left.Kids),some (oR 41 14 Zh a2.left.Ops),some (oR 25 3 Za a2.come)])) (n0:=(n+8)) ?_ ?_
 ·obtain ⟨z3,Gy,Jx⟩:=bC Jx
  refine Qf (E':=⟨53,[],[(0,.ref Zr 0),(1,.ref i1 0),(2,.ref i2 0),(31,(vB z3))]⟩) (O':=(Yn (((((((((((O.upd Q4 none).upd Q5 none).upd Q6 none).upd Q7 none).upd Q8 none).upd Q9 none).upd Ja none).upd Jb none).upd i1 (some ⟨false,85,13,1,(Zj (.ref Zr 0) (.row n a1.left.Words.length) (.row (n+1) a1.left.Kids.length) (.row (n+2) a1.left.Ops.length) (.row (n+3) a1.come.length) a1)⟩)).upd i2 (some ⟨false,85,13,1,(Zj (.ref Zr 0) (.row (n+4) a2.left.Words.length) (.row (n+5) a2.left.Kids.length) (.row (n+6) a2.left.Ops.length) (.row (n+7) a2.come.length) a2)⟩)).upd Zr (some ⟨false,43,2,1,[(vB Yy.apart),(vB Yy.clash)]⟩)) n [some (oR 48 4 Zf a1.left.Words),some (oR 50 12 Ze a1.left.Kids),some (oR 41 14 Zh a1.left.Ops),some (oR 25 3 Za a1.come),some (oR 48 4 Zf a2.left.Words),some (oR 50 12 Ze a2.left.Kids),some (oR 41 14 Zh a2.left.Ops),some (oR 25 3 Za a2.come)])) (n0:=(n+8)) ?_ ?_
  ·rcases Bool.eq_false_or_eq_true (decide (0 < (a1.come.length:Int))) with c6 | c6
   ·replace Gy:=Ym c6 Gy
    rcases Bool.eq_false_or_eq_true (decide (0 < (a2.come.length:Int))) with c7 | c7
    ·replace Gy:=Ym c7 Gy
     try rw [c7] at c6
     obtain ⟨y5,hy5,Gy⟩:=bC Gy
     refine oY Yd (by kernel_rfl) [false,false,false,false,false,false,false,false,false,false,false,false,false,false,false,false,false,false,false,false,false,false,false,true,false,false] (Yat []) (by kernel_rfl) ?_
     simp only [push_cast,seval,Zc,c6,c7,X2,Qz,X0,Qo,Zk,Zm,Yp,Yq,Yr,Zv,Zx,Zz,Zw,Zy,Z0,Ye,hN]
     refine GCalls.lend (Q1 hy5) rfl ?_ ?_
     ·simp only [push_cast,seval,Zc,c6,c7,X2,Qz,X0,Qo,Zk,Zm,Yp,Yq,Yr,Zv,Zx,Zz,Zw,Zy,Z0,Ye,hN]
     simp only [push_cast,seval,Zc,c6,c7,X2,Qz,X0,Qo,Zk,Zm,Yp,Yq,Yr,Zv,Zx,Zz,Zw,Zy,Z0,Ye,hN]
     obtain rfl:=sI Gy
     refine And.intro rfl (Fit2.of (Kl hU rfl rfl ?_) (by omega))
     simp only [push_cast,seval,Zc,c6,c7,X2,Qz,X0,Qo,Zk,Zm,Yp,Yq,Yr,Zv,Zx,Zz,Zw,Zy,Z0,Ye,hN]
    replace Gy:=Yl c7 Gy
    try rw [c7] at c6
    refine Jh Yd (by kernel_rfl) (Zjd (Z4v [])) (by kernel_rfl) ?_
    simp only [push_cast,seval,Zc,c6,c7,X2,Qz,X0,Qo,Zk,Zm,Yp,Yq,Yr,Zv,Zx,Zz,Zw,Zy,Z0,Ye,hN]
    obtain rfl:=sI Gy
    refine And.intro rfl (Fit2.of (Kl hU rfl rfl ?_) (by omega))
    simp only [push_cast,seval,Zc,c6,c7,X2,Qz,X0,Qo,Zk,Zm,Yp,Yq,Yr,Zv,Zx,Zz,Zw,Zy,Z0,Ye,hN]
   replace Gy:=Yl c6 Gy
   refine Jh Yd (by kernel_rfl) (Yaj []) (by kernel_rfl) ?_
   simp only [push_cast,seval,Zc,c6,X2,Qz,X0,Qo,Zk,Zm,Yp,Yq,Yr,Zv,Zx,Zz,Zw,Zy,Z0,Ye,hN]
   obtain rfl:=sI Gy
   refine And.intro rfl (Fit2.of (Kl hU rfl rfl ?_) (by omega))
   simp only [push_cast,seval,Zc,c6,X2,Qz,X0,Qo,Zk,Zm,Yp,Yq,Yr,Zv,Zx,Zz,Zw,Zy,Z0,Ye,hN]
  refine Yj (t:=z3) rfl (fun c8 => ?_) (fun c8 => ?_)
  ·replace Jx:=Ym c8 Jx
   refine Yv Yd [] ?_
   simp only [push_cast,seval,Zc,X2,Qz,X0,Qo,Zk,Zm,Yp,Yq,Yr,Zv,Zx,Zz,Zw,Zy,Z0,Ye,hN]
   obtain rfl:=sI Jx
   refine And.intro rfl (Fit2.of (Kl hU rfl rfl ?_) (by omega))
   simp only [push_cast,seval,Zc,X2,Qz,X0,Qo,Zk,Zm,Yp,Yq,Yr,Zv,Zx,Zz,Zw,Zy,Z0,Ye,hN]
  replace Jx:=Yl c8 Jx
  refine zK ?_
  obtain rfl:=sI Jx
  refine And.intro rfl (Fit2.of (Kl hU rfl rfl ?_) (by omega))
  simp only [push_cast,seval,Zc,X2,Qz,X0,Qo,Zk,Zm,Yp,Yq,Yr,Zv,Zx,Zz,Zw,Zy,Z0,Ye,hN]
 refine lB ⟨53,[],[(1,.ref i1 0),(2,.ref i2 0)]⟩ (Yn (((((((((((O.upd Q4 none).upd Q5 none).upd Q6 none).upd Q7 none).upd Q8 none).upd Q9 none).upd Ja none).upd Jb none).upd i1 (some ⟨false,85,13,1,(Zj (.ref Zr 0) (.row n a1.left.Words.length) (.row (n+1) a1.left.Kids.length) (.row (n+2) a1.left.Ops.length) ((sL Za a1.come)) a1)⟩)).upd i2 (some ⟨false,85,13,1,(Zj (.ref Zr 0) (.row (n+4) a2.left.Words.length) (.row (n+5) a2.left.Kids.length) (.row (n+6) a2.left.Ops.length) (.row (n+7) a2.come.length) a2)⟩)).upd Zr (some ⟨false,43,2,1,[(vB Yy.apart),(vB z1)]⟩)) n [some (oR 48 4 Zf a1.left.Words),some (oR 50 12 Ze a1.left.Kids),some (oR 41 14 Zh a1.left.Ops),none,some (oR 48 4 Zf a2.left.Words),some (oR 50 12 Ze a2.left.Kids),some (oR 41 14 Zh a2.left.Ops),some (oR 25 3 Za a2.come)]) (Kl hU rfl rfl ?_) ?_
 ·simp only [push_cast,seval,Zc,X2,Qz,X0,Qo,Zk,Zm,Yp,Yq,Yr,Zv,Zx,Zz,Zw,Zy,Z0,Ye,hN]
 refine lB ⟨53,[],[(1,.ref i1 0),(2,.ref i2 0)]⟩ (Yn (((((((((((O.upd Q4 none).upd Q5 none).upd Q6 none).upd Q7 none).upd Q8 none).upd Q9 none).upd Ja none).upd Jb none).upd i1 (some ⟨false,85,13,1,(Zj (.ref Zr 0) (.row n a1.left.Words.length) (.row (n+1) a1.left.Kids.length) (.row (n+2) a1.left.Ops.length) ((sL Za a1.come)) a1)⟩)).upd i2 (some ⟨false,85,13,1,(Zj (.ref Zr 0) (.row (n+4) a2.left.Words.length) (.row (n+5) a2.left.Kids.length) (.row (n+6) a2.left.Ops.length) ((sL Za a2.come)) a2)⟩)).upd Zr (some ⟨false,43,2,1,[(vB Yy.apart),(vB z1)]⟩)) n [some (oR 48 4 Zf a1.left.Words),some (oR 50 12 Ze a1.left.Kids),some (oR 41 14 Zh a1.left.Ops),none,some (oR 48 4 Zf a2.left.Words),some (oR 50 12 Ze a2.left.Kids),some (oR 41 14 Zh a2.left.Ops),none]) (Kl hU rfl rfl ?_) ?_
 ·simp only [push_cast,seval,Zc,X2,Qz,X0,Qo,Zk,Zm,Yp,Yq,Yr,Zv,Zx,Zz,Zw,Zy,Z0,Ye,hN]
 refine Z7 ?_
 obtain ⟨vC,Znf,h⟩:=bC h
 refine Yv Yd [] ?_
 simp only [push_cast,seval,Zc,X2,Qz,X0,Qo,Zk,Zm,Yp,Yq,Yr,Zv,Zx,Zz,Zw,Zy,Z0,Ye,hN]
 refine (aP (i0:=i1) (Zr:=Zr) (Yt:=n) (Y1:=(n+1)) (Y2:=(n+2)) (by omega) (by omega) (by omega) (by omega) (by omega) (by omega) (by omega) (by omega) (by omega) (by omega) (by omega) (by omega) (by omega) (by omega) (by omega) (by simp only [push_cast,seval,Zc,Ya,X2,Qz,X0,Qo,Zk,Zm,Yp,Yq,Yr,Zv,Zx,Zz,Zw,Zy,Z0,Ye,hN] <;> rfl) (by simp only [push_cast,seval,Zc,Ya,X2,Qz,X0,Qo,Zk,Zm,Yp,Yq,Yr,Zv,Zx,Zz,Zw,Zy,Z0,Ye,hN] <;> rfl) (by simp only [push_cast,seval,Zc,Ya,X2,Qz,X0,Qo,Zk,Zm,Yp,Yq,Yr,Zv,Zx,Zz,Zw,Zy,Z0,Ye,hN] <;> rfl) (by simp only [push_cast,seval,Zc,Ya,X2,Qz,X0,Qo,Zk,Zm,Yp,Yq,Yr,Zv,Zx,Zz,Zw,Zy,Z0,Ye,hN] <;> rfl) (by simp only [push_cast,seval,Zc,Ya,X2,Qz,X0,Qo,Zk,Zm,Yp,Yq,Yr,Zv,Zx,Zz,Zw,Zy,Z0,Ye,hN] <;> rfl) Znf).then ?_
 simp only [push_cast,seval,Zc,X2,Qz,X0,Qo,Zk,Zm,Yp,Yq,Yr,Zv,Zx,Zz,Zw,Zy,Z0,Ye,hN]
 refine lO [1,2] [false,false,false,false,true,true,true,false,true,true,true] ?_
 obtain ⟨y12,Z6n,h⟩:=bC h
 refine Yv Yd [] ?_
 simp only [push_cast,seval,Zc,X2,Qz,X0,Qo,Zk,Zm,Yp,Yq,Yr,Zv,Zx,Zz,Zw,Zy,Z0,Ye,hN]
 refine (aP (i0:=i2) (Zr:=Zr) (Yt:=(n+4)) (Y1:=(n+5)) (Y2:=(n+6)) (by omega) (by omega) (by omega) (by omega) (by omega) (by omega) (by omega) (by omega) (by omega) (by omega) (by omega) (by omega) (by omega) (by omega) (by omega) (by simp only [push_cast,seval,Zc,Ya,X2,Qz,X0,Qo,Zk,Zm,Yp,Yq,Yr,Zv,Zx,Zz,Zw,Zy,Z0,Ye,hN] <;> rfl) (by simp only [push_cast,seval,Zc,Ya,X2,Qz,X0,Qo,Zk,Zm,Yp,Yq,Yr,Zv,Zx,Zz,Zw,Zy,Z0,Ye,hN] <;> rfl) (by simp only [push_cast,seval,Zc,Ya,X2,Qz,X0,Qo,Zk,Zm,Yp,Yq,Yr,Zv,Zx,Zz,Zw,Zy,Z0,Ye,hN] <;> rfl) (by simp only [push_cast,seval,Zc,Ya,X2,Qz,X0,Qo,Zk,Zm,Yp,Yq,Yr,Zv,Zx,Zz,Zw,Zy,Z0,Ye,hN] <;> rfl) (by simp only [push_cast,seval,Zc,Ya,X2,Qz,X0,Qo,Zk,Zm,Yp,Yq,Yr,Zv,Zx,Zz,Zw,Zy,Z0,Ye,hN] <;> rfl) Z6n).then ?_
 simp only [push_cast,seval,Zc,X2,Qz,X0,Qo,Zk,Zm,Yp,Yq,Yr,Zv,Zx,Zz,Zw,Zy,Z0,Ye,hN]
 refine zD [1,2] [false,false,false,false,false,false,false,false,true,true,true,true,true,true] ?_
 refine Yv Yd [] ?_
 simp only [push_cast,seval,Zc,X2,Qz,X0,Qo,Zk,Zm,Yp,Yq,Yr,Zv,Zx,Zz,Zw,Zy,Z0,Ye,hN]
 obtain rfl:=sI h
 refine Zcs (k:=8) (i:=i1) (j:=i2) (u:=Zr) (q1:=⟨false,85,13,1,(Zj (.ref Zr 0) (.row n vC.1.left.Words.length) (.row (n+1) vC.1.left.Kids.length) (.row (n+2) vC.1.left.Ops.length) (.row (n+3) ([]:List Zb).length) vC.1)⟩) (p1:=⟨false,85,13,1,(Zj (.ref Zr 0) (.row (n+4) y12.1.left.Words.length) (.row (n+5) y12.1.left.Kids.length) (.row (n+6) y12.1.left.Ops.length) (.row (n+7) ([]:List Zb).length) y12.1)⟩) (s1:=⟨false,43,2,1,[(vB y12.2.apart),(vB y12.2.clash)]⟩) (L3:=[some (oR 48 4 Zf vC.1.left.Words),some (oR 50 12 Ze vC.1.left.Kids),some (oR 41 14 Zh vC.1.left.Ops),some (oR 25 3 Za ([]:List Zb)),some (oR 48 4 Zf y12.1.left.Words),some (oR 50 12 Ze y12.1.left.Kids),some (oR 41 14 Zh y12.1.left.Ops),some (oR 25 3 Za ([]:List Zb)),none]) (E2:=(⟨53,[],[]⟩:Env)) (n3:=(n+9)) (.inl rfl) hU rfl [] ?_ ?_
 ·refine Fit2.trans (E':=(⟨53,[],[]⟩:Env)) (O':=(Yn (((((((((((O.upd Q4 none).upd Q5 none).upd Q6 none).upd Q7 none).upd Q8 none).upd Q9 none).upd Ja none).upd Jb none).upd i1 (some ⟨false,85,13,1,(Zj (.ref Zr 0) (.row (n+8) vC.1.left.Words.length) (.row (n+9) vC.1.left.Kids.length) (.row (n+10) vC.1.left.Ops.length) (nV) vC.1)⟩)).upd i2 (some ⟨false,85,13,1,(Zj (.ref Zr 0) (.row (n+11) y12.1.left.Words.length) (.row (n+12) y12.1.left.Kids.length) (.row (n+13) y12.1.left.Ops.length) (nV) y12.1)⟩)).upd Zr (some ⟨false,43,2,1,[(vB y12.2.apart),(vB y12.2.clash)]⟩)) n [none,none,none,none,none,none,none,none,some (oR 48 4 Zf vC.1.left.Words),some (oR 50 12 Ze vC.1.left.Kids),some (oR 41 14 Zh vC.1.left.Ops),some (oR 48 4 Zf y12.1.left.Words),some (oR 50 12 Ze y12.1.left.Kids),some (oR 41 14 Zh y12.1.left.Ops)])) (n':=(n+14)) (Fit2.of (Kl hU rfl rfl ?_) (by omega)) ?_
  ·simp only [push_cast,seval,Zc,X2,Qz,X0,Qo,Zk,Zm,Yp,Yq,Yr,Zv,Zx,Zz,Zw,Zy,Z0,Ye,hN]
  refine Fit2.trans (Gh (p:=i1) (k:=12) (q:=⟨false,85,13,1,(Zj (.ref Zr 0) (.row (n+8) vC.1.left.Words.length) (.row (n+9) vC.1.left.Kids.length) (.row (n+10) vC.1.left.Ops.length) (nV) vC.1)⟩) 25 3 (by simp only [Gx,tX,List.getElem?_cons_zero,List.getElem?_cons_succ,Option.join_some,List.length_nil,Yo,Yb,X2,Qz,X0,Qo,Zk,Zm,Yp,Yq,Yr,Zv,Zx,Zz,Zw,Zy,Z0,Ye,hN]) rfl (by omega)) ?_
  simp only [Up,Kg,oZ,jB,List.set_cons_zero,List.set_cons_succ,List.cons_append,List.nil_append,List.length_cons,List.length_nil,Nat.zero_add,Nat.reduceAdd,Nat.reduceLT,Nat.add_assoc,Z8,rH,X2,Qz,X0,Qo,Zk,Zm,Yp,Yq,Yr,Zv,Zx,Zz,Zw,Zy,Z0,Ye,hN]
  refine Fit2.trans (Gh (p:=i2) (k:=12) (q:=⟨false,85,13,1,(Zj (.ref Zr 0) (.row (n+11) y12.1.left.Words.length) (.row (n+12) y12.1.left.Kids.length) (.row (n+13) y12.1.left.Ops.length) (nV) y12.1)⟩) 25 3 (by simp only [Gx,tX,List.getElem?_cons_zero,List.getElem?_cons_succ,Option.join_some,List.length_nil,Yo,Yb,X2,Qz,X0,Qo,Zk,Zm,Yp,Yq,Yr,Zv,Zx,Zz,Zw,Zy,Z0,Ye,hN]) rfl (by omega)) ?_
  simp only [Up,Kg,oZ,jB,List.set_cons_zero,List.set_cons_succ,List.cons_append,List.nil_append,List.length_cons,List.length_nil,Nat.zero_add,Nat.reduceAdd,Nat.reduceLT,Nat.add_assoc,Z8,rH,X2,Qz,X0,Qo,Zk,Zm,Yp,Yq,Yr,Zv,Zx,Zz,Zw,Zy,Z0,Ye,hN]
  refine Zoi (k:=16) (k':=9) hU [8,8,8,8,8,8,8,8,0,1,2,4,5,6,3,7] [8,9,10,14,11,12,13,15,0] rfl rfl rfl rfl ⟨rfl,rfl⟩ ?_
  simp only [push_cast,seval,Zc,X2,Qz,X0,Qo,Zk,Zm,Yp,Yq,Yr,Zv,Zx,Zz,Zw,Zy,Z0,Ye,hN]
 simp only [push_cast,seval,Zc,Try.results46,X2,Qz,X0,Qo,Zk,Zm,Yp,Yq,Yr,Zv,Zx,Zz,Zw,Zy,Z0,Ye,hN]
theorem oD {a0:Zi} {a1:Zo} {Yy:Zg} {r:(Zi×Zg)} {O:Objs} {n:Nat} {i0 Yt Y1 Y2 Xz Zr:Nat} (Ys:i0 < n) (Jr:Yt < n) (Vn:Y1 < n) (V6:Y2 < n) (qG:Xz < n) (X4:i0≠Yt) (Qh:i0≠Y1) (Qs:i0≠Y2) (U0:i0≠Xz) (Qg:Yt≠Y1) (Qq:Yt≠Y2) (Ux:Yt≠Xz) (Qr:Y1≠Y2) (Uy:Y1≠Xz) (Uz:Y2≠Xz) (Zk:Zr < n) (Qa:Zr≠Yt) (Qb:Zr≠Y1) (Qc:Zr≠Y2) (Je:Zr≠Xz) (Yz:i0≠Zr) (uC:O i0=some ⟨false,85,13,1,(Zj (.ref Zr 0) (.row Yt a0.left.Words.length) (.row Y1 a0.left.Kids.length) (.row Y2 a0.left.Ops.length) (.row Xz a0.come.length) a0)⟩) (J7:O Yt=some (oR 48 4 Zf a0.left.Words)) (U1:O Y1=some (oR 50 12 Ze a0.left.Kids)) (Gj:O Y2=some (oR 41 14 Zh a0.left.Ops)) (aC:O Xz=some (oR 25 3 Za a0.come)) (Ks:O Zr=some ⟨false,43,2,1,[(vB Yy.apart),(vB Yy.clash)]⟩) (h:lZ a0 a1 Yy=some r):GTo Try.prog 77 [.ref i0 0,.agg (Xk a1)] O n (.tup []) (Yn ((((((O.upd Yt none).upd Y1 none).upd Y2 none).upd Xz none).upd i0 (some ⟨false,85,13,1,(Zj (.ref Zr 0) (.row n r.1.left.Words.length) (.row (n+1) r.1.left.Kids.length) (.row (n+2) r.1.left.Ops.length) (.row (n+3) r.1.come.length) r.1)⟩)).upd Zr (some ⟨false,43,2,1,[(vB r.2.apart),(vB r.2.clash)]⟩)) n [some (oR 48 4 Zf r.1.left.Words),some (oR 50 12 Ze r.1.left.Kids),some (oR 41 14 Zh r.1.left.Ops),some (oR 25 3 Za r.1.come)]) (n+4):=by
 unfold lZ at h
 refine vX Yd Try.call77 Try.func77 rfl (Nat.le_of_ble_eq_true rfl) (by omega) fun hU => ?_
 rw [show Yn O n []=Yn ((O.upd i0 (some ⟨false,85,13,1,(Zj (.ref Zr 0) (.row Yt a0.left.Words.length) (.row Y1 a0.left.Kids.length) (.row Y2 a0.left.Ops.length) (.row Xz a0.come.length) a0)⟩)).upd Zr (some ⟨false,43,2,1,[(vB Yy.apart),(vB Yy.clash)]⟩)) n [] from by rw [Qw uC,Qw Ks]]
 refine Xi (Y0 (k:=8) (by rw [Yb _ Ys];simp only [Yo,Zn Yz] <;> rfl) (by rfl) (by rw [Yb _ Jr];simp only [Zn (Ne.symm X4),Zn (Ne.symm Qa)];exact J7) X4 (by simp only [push_cast,Nat.reduceAdd,Z8 _ _ Jr,Z8 _ _ Ys,Z3 (Ne.symm X4),Z3 (Ne.symm Qa),Z3 Yz] <;> rfl) (by omega)) ?_
 refine Xi (Y0 (k:=9) (by rw [Yb _ Ys];simp only [Yo,Zn Yz] <;> rfl) (by rfl) (by rw [Yb _ Vn];simp only [Zn (Ne.symm Qh),Zn (Ne.symm Qb),Zn (Ne.symm Qg)];exact U1) Qh (by simp only [push_cast,Nat.reduceAdd,Z8 _ _ Vn,Z8 _ _ Ys,Z3 (Ne.symm Qh),Z3 (Ne.symm Qb),Z3 Yz] <;> rfl) (by omega)) ?_
 refine Xi (Y0 (k:=11) (by rw [Yb _ Ys];simp only [Yo,Zn Yz] <;> rfl) (by rfl) (by rw [Yb _ V6];simp only [Zn (Ne.symm Qs),Zn (Ne.symm Qc),Zn (Ne.symm Qq),Zn (Ne.symm Qr)];exact Gj) Qs (by simp only [push_cast,Nat.reduceAdd,Z8 _ _ V6,Z8 _ _ Ys,Z3 (Ne.symm Qs),Z3 (Ne.symm Qc),Z3 Yz] <;> rfl) (by omega)) ?_
 refine Xi (Y0 (k:=12) (by rw [Yb _ Ys];simp only [Yo,Zn Yz] <;> rfl) (by rfl) (by rw [Yb _ qG];simp only [Zn (Ne.symm U0),Zn (Ne.symm Je),Zn (Ne.symm Ux),Zn (Ne.symm Uy),Zn (Ne.symm Uz)];exact aC) U0 (by simp only [push_cast,Nat.reduceAdd,Z8 _ _ qG,Z8 _ _ Ys,Z3 (Ne.symm U0),Z3 (Ne.symm Je),Z3 Yz] <;> rfl) (by omega)) ?_
 have hU:=(Und.drop (Und.drop (Und.drop (Und.drop hU Yt) Y1) Y2) Xz)
 have Z4:=fun X=>@Zn X _ _ Yz
 have Z5:=fun X=>@Zn X _ _ (Ne.symm Yz)
 have Z6:=fun X b c=>@Z3 X _ _ b c Yz
 have Y4:∀ k,i0 < n+k:=fun k=>by omega
 have Zm:∀ k,Zr < n+k:=fun k=>by omega
 have Ye:∀ o p,Objs.upd (Objs.upd ((((O.upd Yt none).upd Y1 none).upd Y2 none).upd Xz none) i0 o) Zr p n=none:=fun o p=>(Xe _ _ (by omega)).trans (Xb hU Ys _ (Nat.le_refl _))
 have hN:∀ o p k,Objs.upd (Objs.upd ((((O.upd Yt none).upd Y1 none).upd Y2 none).upd Xz none) i0 o) Zr p (n+k)=none:=fun o p k=>(Xe _ _ (by omega)).trans (Xb hU Ys _ (Nat.le_add_right _ _))
 show W _ _ _ _ ⟨17,[],[(0,.ref i0 0),(1,.agg (Xk a1))]⟩ (Yn ((((((O.upd Yt none).upd Y1 none).upd Y2 none).upd Xz none).upd i0 (some ⟨false,85,13,1,(Zj (.ref Zr 0) (.row n a0.left.Words.length) (.row (n+1) a0.left.Kids.length) (.row (n+2) a0.left.Ops.length) (.row (n+3) a0.come.length) a0)⟩)).upd Zr (some ⟨false,43,2,1,[(vB Yy.apart),(vB Yy.clash)]⟩)) n [some (oR 48 4 Zf a0.left.Words),some (oR 50 12 Ze a0.left.Kids),some (oR 41 14 Zh a0.left.Ops),some (oR 25 3 Za a0.come)]) _
 refine yJ [0,3] (Yv Yd [] ?_)
 simp only [push_cast,seval,Zc,Ys,Y4,Zk,Zm,Z4,Z5,Z6,Ye,hN]
 obtain ⟨l1,pl1,ql1,el1,h⟩:=bA (k:=1) rfl h
 obtain ⟨x2,hx2,ax2,bx2,cx2,h⟩:=bE (f:=Zh) rJ (fun _=>rfl) (by decide) h
 have gu3:Vb (fl Zh a0.left.Ops++[.val (.int .i64 0),.val (.int .i64 0),.val (.slice none 0 0),.val (.int .i64 0),.val (.int .i64 0),.val (.slice none 0 0),.val (.slice none 0 0),.val (.int .i64 0),.val (.slice none 0 0),.val (.slice none 0 0),.val (.slice none 0 0),.val (.slice none 0 0),.val (.int .i64 0),.val (.slice none 0 0)]) [.val (.int .i64 a1.Kind),.val (.int .i64 a1.N),.sl a1.L.length (fl Za a1.L),.val (.int .i64 a1.E.Kind),.val (.int .i64 a1.E.Old.Kind),.sl a1.E.Old.Words.length (fl (eI .u64) a1.E.Old.Words),.sl a1.E.Old.Kids.length (fl Za a1.E.Old.Kids),.val (.int .i64 a1.E.New.Kind),.sl a1.E.New.Words.length (fl (eI .u64) a1.E.New.Words),.sl a1.E.New.Kids.length (fl Za a1.E.New.Kids),.sl a1.E.Words.length (fl Zf a1.E.Words),.sl a1.E.Kids.length (fl Ze a1.E.Kids),.val (.int .i64 a1.E.List_),.sl a1.E.Ops.length (fl Zh a1.E.Ops)] (List.length a0.left.Ops * 14)=some (fl Zh a0.left.Ops++[.val (.int .i64 a1.Kind),.val (.int .i64 a1.N),.sl a1.L.length (fl Za a1.L),.val (.int .i64 a1.E.Kind),.val (.int .i64 a1.E.Old.Kind),.sl a1.E.Old.Words.length (fl (eI .u64) a1.E.Old.Words),.sl a1.E.Old.Kids.length (fl Za a1.E.Old.Kids),.val (.int .i64 a1.E.New.Kind),.sl a1.E.New.Words.length (fl (eI .u64) a1.E.New.Words),.sl a1.E.New.Kids.length (fl Za a1.E.New.Kids),.sl a1.E.Words.length (fl Zf a1.E.Words),.sl a1.E.Kids.length (fl Ze a1.E.Kids),.val (.int .i64 a1.E.List_),.sl a1.E.Ops.length (fl Zh a1.E.Ops)]):=U5 (f:=Zh) (sz:=14) (fun _=>rfl) rfl rfl
 refine V4 Yd (by kernel_rfl) [.plain,.low,.low,.low,.low,.low,.low,.pass,.bar,.shp,.fill true,.shp,.shp,.shp,.fill false] (fun i=>i < (n+5)) [0,1,2,3,4,5,6,7,8,9,10,11,12,13,14] [.plain,.low,.low,.low,.low,.low,.low,.pass,.bar,.shp,.fill true,.shp,.shp,.shp,.fill false] [] (by kernel_rfl) rfl ?_
 simp only [push_cast,seval,Zc,pl1,ql1,el1,ax2,bx2,cx2,gu3,Ys,Y4,Zk,Zm,Z4,Z5,Z6,Ye,hN]
 refine zO ?_
 obtain rfl:=sI h
 refine Kk (k:=4) (i:=i0) (j:=Zr) (q1:=⟨false,85,13,1,(Zj (.ref Zr 0) (.row n a0.left.Words.length) (.row (n+1) a0.left.Kids.length) (.row (n+2) (a0.left.Ops++[a1]).length) (.row (n+3) a0.come.length) a0)⟩) (p1:=⟨false,43,2,1,[(vB Yy.apart),(vB Yy.clash)]⟩) (L3:=[some (oR 48 4 Zf a0.left.Words),some (oR 50 12 Ze a0.left.Kids),some (oR 41 14 Zh (a0.left.Ops++[a1])),some (oR 25 3 Za a0.come),none]) (E2:=(⟨17,[],[]⟩:Env)) (n3:=(n+5)) (.inl rfl) hU rfl [] ?_ ?_
 ·refine fr2 (k:=6) (k':=5) hU [0,1,2,3,4,4] [0,1,2,3,0] (zM2 Ys Zk) ?_ ?_
  ·simp only [push_cast,seval,Zc,pl1,ql1,el1,ax2,bx2,cx2,gu3,Ys,Y4,Zk,Zm,Z4,Z5,Z6,Ye,hN]
  simp only [push_cast,seval,Zc,Ys,Y4,Zk,Zm,Z4,Z5,Z6,Ye,hN]
 simp only [push_cast,seval,Zc,Try.results77,Ys,Y4,Zk,Zm,Z4,Z5,Z6,Ye,hN]
theorem nD {a0:Zi} {a1:Zd} {Yy:Zg} {r:(Zi×Zg)} {O:Objs} {n:Nat} {i0 Yt Y1 Y2 Xz Zr:Nat} (Ys:i0 < n) (Jr:Yt < n) (Vn:Y1 < n) (V6:Y2 < n) (qG:Xz < n) (X4:i0≠Yt) (Qh:i0≠Y1) (Qs:i0≠Y2) (U0:i0≠Xz) (Qg:Yt≠Y1) (Qq:Yt≠Y2) (Ux:Yt≠Xz) (Qr:Y1≠Y2) (Uy:Y1≠Xz) (Uz:Y2≠Xz) (Zk:Zr < n) (Qa:Zr≠Yt) (Qb:Zr≠Y1) (Qc:Zr≠Y2) (Je:Zr≠Xz) (Yz:i0≠Zr) (uC:O i0=some ⟨false,85,13,1,(Zj (.ref Zr 0) (.row Yt a0.left.Words.length) (.row Y1 a0.left.Kids.length) (.row Y2 a0.left.Ops.length) (.row Xz a0.come.length) a0)⟩) (J7:O Yt=some (oR 48 4 Zf a0.left.Words)) (U1:O Y1=some (oR 50 12 Ze a0.left.Kids)) (Gj:O Y2=some (oR 41 14 Zh a0.left.Ops)) (aC:O Xz=some (oR 25 3 Za a0.come)) (Ks:O Zr=some ⟨false,43,2,1,[(vB Yy.apart),(vB Yy.clash)]⟩) (h:Un a0 a1 Yy=some r):GTo Try.prog 68 [.ref i0 0,.agg (Zl a1)] O n (.tup []) (Yn ((((((O.upd Yt none).upd Y1 none).upd Y2 none).upd Xz none).upd i0 (some ⟨false,85,13,1,(Zj (.ref Zr 0) (.row n r.1.left.Words.length) (.row (n+1) r.1.left.Kids.length) (.row (n+2) r.1.left.Ops.length) (.row (n+3) r.1.come.length) r.1)⟩)).upd Zr (some ⟨false,43,2,1,[(vB r.2.apart),(vB r.2.clash)]⟩)) n [some (oR 48 4 Zf r.1.left.Words),some (oR 50 12 Ze r.1.left.Kids),some (oR 41 14 Zh r.1.left.Ops),some (oR 25 3 Za r.1.come)]) (n+4):=by
 unfold Un at h
 refine vX Yd Try.call68 Try.func68 rfl (Nat.le_of_ble_eq_true rfl) (by omega) fun hU => ?_
 rw [show Yn O n []=Yn ((O.upd i0 (some ⟨false,85,13,1,(Zj (.ref Zr 0) (.row Yt a0.left.Words.length) (.row Y1 a0.left.Kids.length) (.row Y2 a0.left.Ops.length) (.row Xz a0.come.length) a0)⟩)).upd Zr (some ⟨false,43,2,1,[(vB Yy.apart),(vB Yy.clash)]⟩)) n [] from by rw [Qw uC,Qw Ks]]
 refine Xi (Y0 (k:=8) (by rw [Yb _ Ys];simp only [Yo,Zn Yz] <;> rfl) (by rfl) (by rw [Yb _ Jr];simp only [Zn (Ne.symm X4),Zn (Ne.symm Qa)];exact J7) X4 (by simp only [push_cast,Nat.reduceAdd,Z8 _ _ Jr,Z8 _ _ Ys,Z3 (Ne.symm X4),Z3 (Ne.symm Qa),Z3 Yz] <;> rfl) (by omega)) ?_
 refine Xi (Y0 (k:=9) (by rw [Yb _ Ys];simp only [Yo,Zn Yz] <;> rfl) (by rfl) (by rw [Yb _ Vn];simp only [Zn (Ne.symm Qh),Zn (Ne.symm Qb),Zn (Ne.symm Qg)];exact U1) Qh (by simp only [push_cast,Nat.reduceAdd,Z8 _ _ Vn,Z8 _ _ Ys,Z3 (Ne.symm Qh),Z3 (Ne.symm Qb),Z3 Yz] <;> rfl) (by omega)) ?_
 refine Xi (Y0 (k:=11) (by rw [Yb _ Ys];simp only [Yo,Zn Yz] <;> rfl) (by rfl) (by rw [Yb _ V6];simp only [Zn (Ne.symm Qs),Zn (Ne.symm Qc),Zn (Ne.symm Qq),Zn (Ne.symm Qr)];exact Gj) Qs (by simp only [push_cast,Nat.reduceAdd,Z8 _ _ V6,Z8 _ _ Ys,Z3 (Ne.symm Qs),Z3 (Ne.symm Qc),Z3 Yz] <;> rfl) (by omega)) ?_
 refine Xi (Y0 (k:=12) (by rw [Yb _ Ys];simp only [Yo,Zn Yz] <;> rfl) (by rfl) (by rw [Yb _ qG];simp only [Zn (Ne.symm U0),Zn (Ne.symm Je),Zn (Ne.symm Ux),Zn (Ne.symm Uy),Zn (Ne.symm Uz)];exact aC) U0 (by simp only [push_cast,Nat.reduceAdd,Z8 _ _ qG,Z8 _ _ Ys,Z3 (Ne.symm U0),Z3 (Ne.symm Je),Z3 Yz] <;> rfl) (by omega)) ?_
 have hU:=(Und.drop (Und.drop (Und.drop (Und.drop hU Yt) Y1) Y2) Xz)
 have Z4:=fun X=>@Zn X _ _ Yz
 have Z5:=fun X=>@Zn X _ _ (Ne.symm Yz)
 have Z6:=fun X b c=>@Z3 X _ _ b c Yz
 have Y4:∀ k,i0 < n+k:=fun k=>by omega
 have Zm:∀ k,Zr < n+k:=fun k=>by omega
 have Ye:∀ o p,Objs.upd (Objs.upd ((((O.upd Yt none).upd Y1 none).upd Y2 none).upd Xz none) i0 o) Zr p n=none:=fun o p=>(Xe _ _ (by omega)).trans (Xb hU Ys _ (Nat.le_refl _))
 have hN:∀ o p k,Objs.upd (Objs.upd ((((O.upd Yt none).upd Y1 none).upd Y2 none).upd Xz none) i0 o) Zr p (n+k)=none:=fun o p k=>(Xe _ _ (by omega)).trans (Xb hU Ys _ (Nat.le_add_right _ _))
 show W _ _ _ _ ⟨14,[],[(0,.ref i0 0),(1,.agg (Zl a1))]⟩ (Yn ((((((O.upd Yt none).upd Y1 none).upd Y2 none).upd Xz none).upd i0 (some ⟨false,85,13,1,(Zj (.ref Zr 0) (.row n a0.left.Words.length) (.row (n+1) a0.left.Kids.length) (.row (n+2) a0.left.Ops.length) (.row (n+3) a0.come.length) a0)⟩)).upd Zr (some ⟨false,43,2,1,[(vB Yy.apart),(vB Yy.clash)]⟩)) n [some (oR 48 4 Zf a0.left.Words),some (oR 50 12 Ze a0.left.Kids),some (oR 41 14 Zh a0.left.Ops),some (oR 25 3 Za a0.come)]) _
 refine yJ [0,3] (Yv Yd [] ?_)
 simp only [push_cast,seval,Zc,Ys,Y4,Zk,Zm,Z4,Z5,Z6,Ye,hN]
 refine Z7 ?_
 refine yJ [0,3,6] (Yv Yd [] ?_)
 simp only [push_cast,seval,Zc,Ys,Y4,Zk,Zm,Z4,Z5,Z6,Ye,hN]
 refine Yj (t:=(a1.Kind == 0)) rfl (fun c4 => ?_) (fun c4 => ?_)
 ·replace h:=Ym c4 h
  refine Z7 ?_
  obtain ⟨y2,kE,h⟩:=bC h
  refine Yv Yd [] ?_
  simp only [push_cast,seval,Zc,Ys,Y4,Zk,Zm,Z4,Z5,Z6,Ye,hN]
  refine GCalls.argsW ?_ ((oD (i0:=i0) (Zr:=Zr) (Yt:=n) (Y1:=(n+1)) (Y2:=(n+2)) (Xz:=(n+3)) (by omega) (by omega) (by omega) (by omega) (by omega) (by omega) (by omega) (by omega) (by omega) (by omega) (by omega) (by omega) (by omega) (by omega) (by omega) (by omega) (by omega) (by omega) (by omega) (by omega) (by omega) (by simp only [push_cast,seval,Zc,Ya,Ys,Y4,Zk,Zm,Z4,Z5,Z6,Ye,hN] <;> rfl) (by simp only [push_cast,seval,Zc,Ya,Ys,Y4,Zk,Zm,Z4,Z5,Z6,Ye,hN] <;> rfl) (by simp only [push_cast,seval,Zc,Ya,Ys,Y4,Zk,Zm,Z4,Z5,Z6,Ye,hN] <;> rfl) (by simp only [push_cast,seval,Zc,Ya,Ys,Y4,Zk,Zm,Z4,Z5,Z6,Ye,hN] <;> rfl) (by simp only [push_cast,seval,Zc,Ya,Ys,Y4,Zk,Zm,Z4,Z5,Z6,Ye,hN] <;> rfl) (by simp only [push_cast,seval,Zc,Ya,Ys,Y4,Zk,Zm,Z4,Z5,Z6,Ye,hN] <;> rfl) kE).then ?_)
  ·simp only [push_cast,seval,Zc,Ys,Y4,Zk,Zm,Z4,Z5,Z6,Ye,hN]
  simp only [push_cast,seval,Zc,Ys,Y4,Zk,Zm,Z4,Z5,Z6,Ye,hN]
  refine zD [] [false,false,false,false,false,true,true,true,true] ?_
  refine zW ?_
  obtain rfl:=sI h
  refine Kk (k:=4) (i:=i0) (j:=Zr) (q1:=⟨false,85,13,1,(Zj (.ref Zr 0) (.row n y2.1.left.Words.length) (.row (n+1) y2.1.left.Kids.length) (.row (n+2) y2.1.left.Ops.length) (.row (n+3) y2.1.come.length) y2.1)⟩) (p1:=⟨false,43,2,1,[(vB y2.2.apart),(vB y2.2.clash)]⟩) (L3:=[some (oR 48 4 Zf y2.1.left.Words),some (oR 50 12 Ze y2.1.left.Kids),some (oR 41 14 Zh y2.1.left.Ops),some (oR 25 3 Za y2.1.come),none]) (E2:=(⟨14,[],[]⟩:Env)) (n3:=(n+5)) (.inr rfl) hU rfl [] ?_ ?_
  ·refine fr2 (k:=9) (k':=5) hU [4,4,4,4,4,0,1,2,3] [5,6,7,8,0] (zM2 Ys Zk) ?_ ?_
   ·simp only [push_cast,seval,Zc,Ys,Y4,Zk,Zm,Z4,Z5,Z6,Ye,hN]
   simp only [push_cast,seval,Zc,Ys,Y4,Zk,Zm,Z4,Z5,Z6,Ye,hN]
  simp only [push_cast,seval,Zc,Try.results68,Ys,Y4,Zk,Zm,Z4,Z5,Z6,Ye,hN]
 replace h:=Yl c4 h
 refine uZ [0,3] [true,true,true,true,true] ?_
 obtain ⟨y3,hy3,h⟩:=bC h
 refine Yv Yd [] ?_
 simp only [push_cast,seval,Zc,Ys,Y4,Zk,Zm,Z4,Z5,Z6,Ye,hN]
 refine GCalls.argsW ?_ ((oD (i0:=i0) (Zr:=Zr) (Yt:=n) (Y1:=(n+1)) (Y2:=(n+2)) (Xz:=(n+3)) (by omega) (by omega) (by omega) (by omega) (by omega) (by omega) (by omega) (by omega) (by omega) (by omega) (by omega) (by omega) (by omega) (by omega) (by omega) (by omega) (by omega) (by omega) (by omega) (by omega) (by omega) (by simp only [push_cast,seval,Zc,Ya,Ys,Y4,Zk,Zm,Z4,Z5,Z6,Ye,hN] <;> rfl) (by simp only [push_cast,seval,Zc,Ya,Ys,Y4,Zk,Zm,Z4,Z5,Z6,Ye,hN] <;> rfl) (by simp only [push_cast,seval,Zc,Ya,Ys,Y4,Zk,Zm,Z4,Z5,Z6,Ye,hN] <;> rfl) (by simp only [push_cast,seval,Zc,Ya,Ys,Y4,Zk,Zm,Z4,Z5,Z6,Ye,hN] <;> rfl) (by simp only [push_cast,seval,Zc,Ya,Ys,Y4,Zk,Zm,Z4,Z5,Z6,Ye,hN] <;> rfl) (by simp only [push_cast,seval,Zc,Ya,Ys,Y4,Zk,Zm,Z4,Z5,Z6,Ye,hN] <;> rfl) hy3).then ?_)
 ·simp only [push_cast,seval,Zc,Ys,Y4,Zk,Zm,Z4,Z5,Z6,Ye,hN]
 simp only [push_cast,seval,Zc,Ys,Y4,Zk,Zm,Z4,Z5,Z6,Ye,hN]
 obtain rfl:=sI h
 refine Kk (k:=4) (i:=i0) (j:=Zr) (q1:=⟨false,85,13,1,(Zj (.ref Zr 0) (.row n y3.1.left.Words.length) (.row (n+1) y3.1.left.Kids.length) (.row (n+2) y3.1.left.Ops.length) (.row (n+3) y3.1.come.length) y3.1)⟩) (p1:=⟨false,43,2,1,[(vB y3.2.apart),(vB y3.2.clash)]⟩) (L3:=[some (oR 48 4 Zf y3.1.left.Words),some (oR 50 12 Ze y3.1.left.Kids),some (oR 41 14 Zh y3.1.left.Ops),some (oR 25 3 Za y3.1.come),none]) (E2:=(⟨14,[],[]⟩:Env)) (n3:=(n+5)) (.inl rfl) hU rfl [] ?_ ?_
 ·refine fr2 (k:=9) (k':=5) hU [4,4,4,4,4,0,1,2,3] [5,6,7,8,0] (zM2 Ys Zk) ?_ ?_
  ·simp only [push_cast,seval,Zc,Ys,Y4,Zk,Zm,Z4,Z5,Z6,Ye,hN]
  simp only [push_cast,seval,Zc,Ys,Y4,Zk,Zm,Z4,Z5,Z6,Ye,hN]
 simp only [push_cast,seval,Zc,Try.results68,Ys,Y4,Zk,Zm,Z4,Z5,Z6,Ye,hN]
attribute [local push_cast] Try.results69 Bool.not_true Zj0 Jn
theorem Zdz {a0:Zi} {a1:Zo} {Yy:Zg} {r:(Zi×Zg)} {O:Objs} {n:Nat} {i0 Yt Y1 Y2 Xz Zr:Nat} (Ys:i0 < n) (Jr:Yt < n) (Vn:Y1 < n) (V6:Y2 < n) (qG:Xz < n) (X4:i0≠Yt) (Qh:i0≠Y1) (Qs:i0≠Y2) (U0:i0≠Xz) (Qg:Yt≠Y1) (Qq:Yt≠Y2) (Ux:Yt≠Xz) (Qr:Y1≠Y2) (Uy:Y1≠Xz) (Uz:Y2≠Xz) (Zk:Zr < n) (Qa:Zr≠Yt) (Qb:Zr≠Y1) (Qc:Zr≠Y2) (Je:Zr≠Xz) (Yz:i0≠Zr) (uC:O i0=some ⟨false,85,13,1,(Zj (.ref Zr 0) (.row Yt a0.left.Words.length) (.row Y1 a0.left.Kids.length) (.row Y2 a0.left.Ops.length) (.row Xz a0.come.length) a0)⟩) (J7:O Yt=some (oR 48 4 Zf a0.left.Words)) (U1:O Y1=some (oR 50 12 Ze a0.left.Kids)) (Gj:O Y2=some (oR 41 14 Zh a0.left.Ops)) (aC:O Xz=some (oR 25 3 Za a0.come)) (Ks:O Zr=some ⟨false,43,2,1,[(vB Yy.apart),(vB Yy.clash)]⟩) (h:lG a0 a1 Yy=some r):GTo Try.prog 77 [.ref i0 0,.agg (Xk a1)] O n (.tup []) (Yn ((((((O.upd Yt none).upd Y1 none).upd Y2 none).upd Xz none).upd i0 (some ⟨false,85,13,1,(Zj (.ref Zr 0) (.row n r.1.left.Words.length) (.row (n+1) r.1.left.Kids.length) (.row (n+2) r.1.left.Ops.length) (.row (n+3) r.1.come.length) r.1)⟩)).upd Zr (some ⟨false,43,2,1,[(vB r.2.apart),(vB r.2.clash)]⟩)) n [some (oR 48 4 Zf r.1.left.Words),some (oR 50 12 Ze r.1.left.Kids),some (oR 41 14 Zh r.1.left.Ops),some (oR 25 3 Za r.1.come)]) (n+4):=by
 unfold lG at h
 refine vX Yd Try.call77 Try.func77 rfl (Nat.le_of_ble_eq_true rfl) (by omega) fun hU => ?_
 rw [show Yn O n []=Yn ((O.upd i0 (some ⟨false,85,13,1,(Zj (.ref Zr 0) (.row Yt a0.left.Words.length) (.row Y1 a0.left.Kids.length) (.row Y2 a0.left.Ops.length) (.row Xz a0.come.length) a0)⟩)).upd Zr (some ⟨false,43,2,1,[(vB Yy.apart),(vB Yy.clash)]⟩)) n [] from by rw [Qw uC,Qw Ks]]
 refine Xi (Y0 (k:=8) (by rw [Yb _ Ys];simp only [Yo,Zn Yz] <;> rfl) (by rfl) (by rw [Yb _ Jr];simp only [Zn (Ne.symm X4),Zn (Ne.symm Qa)];exact J7) X4 (by simp only [push_cast,Nat.reduceAdd,Z8 _ _ Jr,Z8 _ _ Ys,Z3 (Ne.symm X4),Z3 (Ne.symm Qa),Z3 Yz] <;> rfl) (by omega)) ?_
 refine Xi (Y0 (k:=9) (by rw [Yb _ Ys];simp only [Yo,Zn Yz] <;> rfl) (by rfl) (by rw [Yb _ Vn];simp only [Zn (Ne.symm Qh),Zn (Ne.symm Qb),Zn (Ne.symm Qg)];exact U1) Qh (by simp only [push_cast,Nat.reduceAdd,Z8 _ _ Vn,Z8 _ _ Ys,Z3 (Ne.symm Qh),Z3 (Ne.symm Qb),Z3 Yz] <;> rfl) (by omega)) ?_
 refine Xi (Y0 (k:=11) (by rw [Yb _ Ys];simp only [Yo,Zn Yz] <;> rfl) (by rfl) (by rw [Yb _ V6];simp only [Zn (Ne.symm Qs),Zn (Ne.symm Qc),Zn (Ne.symm Qq),Zn (Ne.symm Qr)];exact Gj) Qs (by simp only [push_cast,Nat.reduceAdd,Z8 _ _ V6,Z8 _ _ Ys,Z3 (Ne.symm Qs),Z3 (Ne.symm Qc),Z3 Yz] <;> rfl) (by omega)) ?_
 refine Xi (Y0 (k:=12) (by rw [Yb _ Ys];simp only [Yo,Zn Yz] <;> rfl) (by rfl) (by rw [Yb _ qG];simp only [Zn (Ne.symm U0),Zn (Ne.symm Je),Zn (Ne.symm Ux),Zn (Ne.symm Uy),Zn (Ne.symm Uz)];exact aC) U0 (by simp only [push_cast,Nat.reduceAdd,Z8 _ _ qG,Z8 _ _ Ys,Z3 (Ne.symm U0),Z3 (Ne.symm Je),Z3 Yz] <;> rfl) (by omega)) ?_
 have hU:=(Und.drop (Und.drop (Und.drop (Und.drop hU Yt) Y1) Y2) Xz)
 have Z4:=fun X=>@Zn X _ _ Yz
 have Z5:=fun X=>@Zn X _ _ (Ne.symm Yz)
 have Z6:=fun X b c=>@Z3 X _ _ b c Yz
 have Y4:∀ k,i0 < n+k:=fun k=>by omega
 have Zm:∀ k,Zr < n+k:=fun k=>by omega
 have Ye:∀ o p,Objs.upd (Objs.upd ((((O.upd Yt none).upd Y1 none).upd Y2 none).upd Xz none) i0 o) Zr p n=none:=fun o p=>(Xe _ _ (by omega)).trans (Xb hU Ys _ (Nat.le_refl _))
 have hN:∀ o p k,Objs.upd (Objs.upd ((((O.upd Yt none).upd Y1 none).upd Y2 none).upd Xz none) i0 o) Zr p (n+k)=none:=fun o p k=>(Xe _ _ (by omega)).trans (Xb hU Ys _ (Nat.le_add_right _ _))
 show W _ _ _ _ ⟨17,[],[(0,.ref i0 0),(1,.agg (Xk a1))]⟩ (Yn ((((((O.upd Yt none).upd Y1 none).upd Y2 none).upd Xz none).upd i0 (some ⟨false,85,13,1,(Zj (.ref Zr 0) (.row n a0.left.Words.length) (.row (n+1) a0.left.Kids.length) (.row (n+2) a0.left.Ops.length) (.row (n+3) a0.come.length) a0)⟩)).upd Zr (some ⟨false,43,2,1,[(vB Yy.apart),(vB Yy.clash)]⟩)) n [some (oR 48 4 Zf a0.left.Words),some (oR 50 12 Ze a0.left.Kids),some (oR 41 14 Zh a0.left.Ops),some (oR 25 3 Za a0.come)]) _
 refine yJ [0,3] (Yv Yd [] ?_)
 simp only [push_cast,seval,Zc,Ys,Y4,Zk,Zm,Z4,Z5,Z6,Ye,hN]
 obtain ⟨l1,pl1,ql1,el1,h⟩:=bA (k:=1) rfl h
 obtain ⟨x2,hx2,ax2,bx2,cx2,h⟩:=bE (f:=Zh) rJ (fun _=>rfl) (by decide) h
 have gu3:Vb (fl Zh a0.left.Ops++[.val (.int .i64 0),.val (.int .i64 0),.val (.slice none 0 0),.val (.int .i64 0),.val (.int .i64 0),.val (.slice none 0 0),.val (.slice none 0 0),.val (.int .i64 0),.val (.slice none 0 0),.val (.slice none 0 0),.val (.slice none 0 0),.val (.slice none 0 0),.val (.int .i64 0),.val (.slice none 0 0)]) [.val (.int .i64 a1.Kind),.val (.int .i64 a1.N),.sl a1.L.length (fl Za a1.L),.val (.int .i64 a1.E.Kind),.val (.int .i64 a1.E.Old.Kind),.sl a1.E.Old.Words.length (fl (eI .u64) a1.E.Old.Words),.sl a1.E.Old.Kids.length (fl Za a1.E.Old.Kids),.val (.int .i64 a1.E.New.Kind),.sl a1.E.New.Words.length (fl (eI .u64) a1.E.New.Words),.sl a1.E.New.Kids.length (fl Za a1.E.New.Kids),.sl a1.E.Words.length (fl Zf a1.E.Words),.sl a1.E.Kids.length (fl Ze a1.E.Kids),.val (.int .i64 a1.E.List_),.sl a1.E.Ops.length (fl Zh a1.E.Ops)] (List.length a0.left.Ops * 14)=some (fl Zh a0.left.Ops++[.val (.int .i64 a1.Kind),.val (.int .i64 a1.N),.sl a1.L.length (fl Za a1.L),.val (.int .i64 a1.E.Kind),.val (.int .i64 a1.E.Old.Kind),.sl a1.E.Old.Words.length (fl (eI .u64) a1.E.Old.Words),.sl a1.E.Old.Kids.length (fl Za a1.E.Old.Kids),.val (.int .i64 a1.E.New.Kind),.sl a1.E.New.Words.length (fl (eI .u64) a1.E.New.Words),.sl a1.E.New.Kids.length (fl Za a1.E.New.Kids),.sl a1.E.Words.length (fl Zf a1.E.Words),.sl a1.E.Kids.length (fl Ze a1.E.Kids),.val (.int .i64 a1.E.List_),.sl a1.E.Ops.length (fl Zh a1.E.Ops)]):=U5 (f:=Zh) (sz:=14) (fun _=>rfl) rfl rfl
 refine V4 Yd (by kernel_rfl) [.plain,.low,.low,.low,.low,.low,.low,.pass,.bar,.shp,.fill true,.shp,.shp,.shp,.fill false] (fun i=>i < (n+5)) [0,1,2,3,4,5,6,7,8,9,10,11,12,13,14] [.plain,.low,.low,.low,.low,.low,.low,.pass,.bar,.shp,.fill true,.shp,.shp,.shp,.fill false] [] (by kernel_rfl) rfl ?_
 simp only [push_cast,seval,Zc,pl1,ql1,el1,ax2,bx2,cx2,gu3,Ys,Y4,Zk,Zm,Z4,Z5,Z6,Ye,hN]
 refine zO ?_
 obtain rfl:=sI h
 refine Kk (k:=4) (i:=i0) (j:=Zr) (q1:=⟨false,85,13,1,(Zj (.ref Zr 0) (.row n a0.left.Words.length) (.row (n+1) a0.left.Kids.length) (.row (n+2) (a0.left.Ops++[a1]).length) (.row (n+3) a0.come.length) a0)⟩) (p1:=⟨false,43,2,1,[(vB Yy.apart),(vB Yy.clash)]⟩) (L3:=[some (oR 48 4 Zf a0.left.Words),some (oR 50 12 Ze a0.left.Kids),some (oR 41 14 Zh (a0.left.Ops++[a1])),some (oR 25 3 Za a0.come),none]) (E2:=(⟨17,[],[]⟩:Env)) (n3:=(n+5)) (.inl rfl) hU rfl [] ?_ ?_
 ·refine fr2 (k:=6) (k':=5) hU [0,1,2,3,4,4] [0,1,2,3,0] (zM2 Ys Zk) ?_ ?_
  ·simp only [push_cast,seval,Zc,pl1,ql1,el1,ax2,bx2,cx2,gu3,Ys,Y4,Zk,Zm,Z4,Z5,Z6,Ye,hN]
  simp only [push_cast,seval,Zc,Ys,Y4,Zk,Zm,Z4,Z5,Z6,Ye,hN]
 simp only [push_cast,seval,Zc,Try.results77,Ys,Y4,Zk,Zm,Z4,Z5,Z6,Ye,hN]
theorem xI {a0:Zi} {a1:Zo} {a2:Zo} {Yy:Zg} {r:(Zi×Zg)} {O:Objs} {n:Nat} {i0 Yt Y1 Y2 Xz Zr:Nat} (Ys:i0 < n) (Jr:Yt < n) (Vn:Y1 < n) (V6:Y2 < n) (qG:Xz < n) (X4:i0≠Yt) (Qh:i0≠Y1) (Qs:i0≠Y2) (U0:i0≠Xz) (Qg:Yt≠Y1) (Qq:Yt≠Y2) (Ux:Yt≠Xz) (Qr:Y1≠Y2) (Uy:Y1≠Xz) (Uz:Y2≠Xz) (Zk:Zr < n) (Qa:Zr≠Yt) (Qb:Zr≠Y1) (Qc:Zr≠Y2) (Je:Zr≠Xz) (Yz:i0≠Zr) (uC:O i0=some ⟨false,85,13,1,(Zj (.ref Zr 0) (.row Yt a0.left.Words.length) (.row Y1 a0.left.Kids.length) (.row Y2 a0.left.Ops.length) (.row Xz a0.come.length) a0)⟩) (J7:O Yt=some (oR 48 4 Zf a0.left.Words)) (U1:O Y1=some (oR 50 12 Ze a0.left.Kids)) (Gj:O Y2=some (oR 41 14 Zh a0.left.Ops)) (aC:O Xz=some (oR 25 3 Za a0.come)) (Ks:O Zr=some ⟨false,43,2,1,[(vB Yy.apart),(vB Yy.clash)]⟩) (h:Vp a0 a1 a2 Yy=some r):GTo Try.prog 69 [.ref i0 0,.agg (Xk a1),.agg (Xk a2)] O n (.tup []) (Yn ((((((O.upd Yt none).upd Y1 none).upd Y2 none).upd Xz none).upd i0 (some ⟨false,85,13,1,(Zj (.ref Zr 0) (.row n r.1.left.Words.length) (.row (n+1) r.1.left.Kids.length) (.row (n+2) r.1.left.Ops.length) (.row (n+3) r.1.come.length) r.1)⟩)).upd Zr (some ⟨false,43,2,1,[(vB r.2.apart),(vB r.2.clash)]⟩)) n [some (oR 48 4 Zf r.1.left.Words),some (oR 50 12 Ze r.1.left.Kids),some (oR 41 14 Zh r.1.left.Ops),some (oR 25 3 Za r.1.come)]) (n+4):=by
 unfold Vp at h
 refine vX Yd Try.call69 Try.func69 rfl (Nat.le_of_ble_eq_true rfl) (by omega) fun hU => ?_
 rw [show Yn O n []=Yn ((O.upd i0 (some ⟨false,85,13,1,(Zj (.ref Zr 0) (.row Yt a0.left.Words.length) (.row Y1 a0.left.Kids.length) (.row Y2 a0.left.Ops.length) (.row Xz a0.come.length) a0)⟩)).upd Zr (some ⟨false,43,2,1,[(vB Yy.apart),(vB Yy.clash)]⟩)) n [] from by rw [Qw uC,Qw Ks]]
 refine Xi (Y0 (k:=8) (by rw [Yb _ Ys];simp only [Yo,Zn Yz] <;> rfl) (by rfl) (by rw [Yb _ Jr];simp only [Zn (Ne.symm X4),Zn (Ne.symm Qa)];exact J7) X4 (by simp only [push_cast,Nat.reduceAdd,Z8 _ _ Jr,Z8 _ _ Ys,Z3 (Ne.symm X4),Z3 (Ne.symm Qa),Z3 Yz] <;> rfl) (by omega)) ?_
 refine Xi (Y0 (k:=9) (by rw [Yb _ Ys];simp only [Yo,Zn Yz] <;> rfl) (by rfl) (by rw [Yb _ Vn];simp only [Zn (Ne.symm Qh),Zn (Ne.symm Qb),Zn (Ne.symm Qg)];exact U1) Qh (by simp only [push_cast,Nat.reduceAdd,Z8 _ _ Vn,Z8 _ _ Ys,Z3 (Ne.symm Qh),Z3 (Ne.symm Qb),Z3 Yz] <;> rfl) (by omega)) ?_
 refine Xi (Y0 (k:=11) (by rw [Yb _ Ys];simp only [Yo,Zn Yz] <;> rfl) (by rfl) (by rw [Yb _ V6];simp only [Zn (Ne.symm Qs),Zn (Ne.symm Qc),Zn (Ne.symm Qq),Zn (Ne.symm Qr)];exact Gj) Qs (by simp only [push_cast,Nat.reduceAdd,Z8 _ _ V6,Z8 _ _ Ys,Z3 (Ne.symm Qs),Z3 (Ne.symm Qc),Z3 Yz] <;> rfl) (by omega)) ?_
 refine Xi (Y0 (k:=12) (by rw [Yb _ Ys];simp only [Yo,Zn Yz] <;> rfl) (by rfl) (by rw [Yb _ qG];simp only [Zn (Ne.symm U0),Zn (Ne.symm Je),Zn (Ne.symm Ux),Zn (Ne.symm Uy),Zn (Ne.symm Uz)];exact aC) U0 (by simp only [push_cast,Nat.reduceAdd,Z8 _ _ qG,Z8 _ _ Ys,Z3 (Ne.symm U0),Z3 (Ne.symm Je),Z3 Yz] <;> rfl) (by omega)) ?_
 have hU:=(Und.drop (Und.drop (Und.drop (Und.drop hU Yt) Y1) Y2) Xz)
 have Z4:=fun X=>@Zn X _ _ Yz
 have Z5:=fun X=>@Zn X _ _ (Ne.symm Yz)
 have Z6:=fun X b c=>@Z3 X _ _ b c Yz
 have Y4:∀ k,i0 < n+k:=fun k=>by omega
 have Zm:∀ k,Zr < n+k:=fun k=>by omega
 have Ye:∀ o p,Objs.upd (Objs.upd ((((O.upd Yt none).upd Y1 none).upd Y2 none).upd Xz none) i0 o) Zr p n=none:=fun o p=>(Xe _ _ (by omega)).trans (Xb hU Ys _ (Nat.le_refl _))
 have hN:∀ o p k,Objs.upd (Objs.upd ((((O.upd Yt none).upd Y1 none).upd Y2 none).upd Xz none) i0 o) Zr p (n+k)=none:=fun o p k=>(Xe _ _ (by omega)).trans (Xb hU Ys _ (Nat.le_add_right _ _))
 show W _ _ _ _ ⟨99,[],[(0,.ref i0 0),(1,.agg (Xk a1)),(2,.agg (Xk a2))]⟩ (Yn ((((((O.upd Yt none).upd Y1 none).upd Y2 none).upd Xz none).upd i0 (some ⟨false,85,13,1,(Zj (.ref Zr 0) (.row n a0.left.Words.length) (.row (n+1) a0.left.Kids.length) (.row (n+2) a0.left.Ops.length) (.row (n+3) a0.come.length) a0)⟩)).upd Zr (some ⟨false,43,2,1,[(vB Yy.apart),(vB Yy.clash)]⟩)) n [some (oR 48 4 Zf a0.left.Words),some (oR 50 12 Ze a0.left.Kids),some (oR 41 14 Zh a0.left.Ops),some (oR 25 3 Za a0.come)]) _
 refine yJ [0,4,5] (Yv Yd [] ?_)
 simp only [push_cast,seval,Zc,Ys,Y4,Zk,Zm,Z4,Z5,Z6,Ye,hN]
 refine Xt ?_
 refine yJ [0,4,5,8] (Yv Yd [] ?_)
 simp only [push_cast,seval,Zc,Ys,Y4,Zk,Zm,Z4,Z5,Z6,Ye,hN]
 refine Yj (t:=(a2.Kind == 0)) rfl (fun nO => ?_) (fun nO => ?_)
 ·replace h:=Ym nO h
  obtain ⟨y1,hy1,h⟩:=bC h
  refine Yv Yd [] ?_
  simp only [push_cast,seval,Zc,Ys,Y4,Zk,Zm,Z4,Z5,Z6,Ye,hN]
  refine (oD (i0:=i0) (Zr:=Zr) (Yt:=n) (Y1:=(n+1)) (Y2:=(n+2)) (Xz:=(n+3)) (by omega) (by omega) (by omega) (by omega) (by omega) (by omega) (by omega) (by omega) (by omega) (by omega) (by omega) (by omega) (by omega) (by omega) (by omega) (by omega) (by omega) (by omega) (by omega) (by omega) (by omega) (by simp only [push_cast,seval,Zc,Ya,Ys,Y4,Zk,Zm,Z4,Z5,Z6,Ye,hN] <;> rfl) (by simp only [push_cast,seval,Zc,Ya,Ys,Y4,Zk,Zm,Z4,Z5,Z6,Ye,hN] <;> rfl) (by simp only [push_cast,seval,Zc,Ya,Ys,Y4,Zk,Zm,Z4,Z5,Z6,Ye,hN] <;> rfl) (by simp only [push_cast,seval,Zc,Ya,Ys,Y4,Zk,Zm,Z4,Z5,Z6,Ye,hN] <;> rfl) (by simp only [push_cast,seval,Zc,Ya,Ys,Y4,Zk,Zm,Z4,Z5,Z6,Ye,hN] <;> rfl) (by simp only [push_cast,seval,Zc,Ya,Ys,Y4,Zk,Zm,Z4,Z5,Z6,Ye,hN] <;> rfl) hy1).then ?_
  simp only [push_cast,seval,Zc,Ys,Y4,Zk,Zm,Z4,Z5,Z6,Ye,hN]
  obtain rfl:=sI h
  refine Kk (k:=4) (i:=i0) (j:=Zr) (q1:=⟨false,85,13,1,(Zj (.ref Zr 0) (.row n y1.1.left.Words.length) (.row (n+1) y1.1.left.Kids.length) (.row (n+2) y1.1.left.Ops.length) (.row (n+3) y1.1.come.length) y1.1)⟩) (p1:=⟨false,43,2,1,[(vB y1.2.apart),(vB y1.2.clash)]⟩) (L3:=[some (oR 48 4 Zf y1.1.left.Words),some (oR 50 12 Ze y1.1.left.Kids),some (oR 41 14 Zh y1.1.left.Ops),some (oR 25 3 Za y1.1.come),none]) (E2:=(⟨99,[],[]⟩:Env)) (n3:=(n+5)) (.inl rfl) hU rfl [] ?_ ?_
  ·refine fr2 (k:=10) (k':=5) hU [4,4,4,4,4,4,0,1,2,3] [6,7,8,9,0] (zM2 Ys Zk) ?_ ?_
   ·simp only [push_cast,seval,Zc,Ys,Y4,Zk,Zm,Z4,Z5,Z6,Ye,hN]
   simp only [push_cast,seval,Zc,Ys,Y4,Zk,Zm,Z4,Z5,Z6,Ye,hN]
  simp only [push_cast,seval,Zc,Try.results69,Ys,Y4,Zk,Zm,Z4,Z5,Z6,Ye,hN]
 replace h:=Yl nO h
 refine yJ [0,4,5,15] (Yv Yd [none,none,none] ?_)
 simp only [push_cast,seval,Zc,Ys,Y4,Zk,Zm,Z4,Z5,Z6,Ye,hN]
 refine zG ?_
 refine Yj (t:=(cond (a1.Kind == 0) (a2.Kind == 3) false)) rfl (fun fR => ?_) (fun fR => ?_)
 ·replace h:=Ym fR h
  obtain ⟨y2,kE,h⟩:=bC h
  refine Yv Yd [] ?_
  simp only [push_cast,seval,Zc,Ys,Y4,Zk,Zm,Z4,Z5,Z6,Ye,hN]
  refine GCalls.argsW ?_ ((Zdz (i0:=i0) (Zr:=Zr) (Yt:=n) (Y1:=(n+1)) (Y2:=(n+2)) (Xz:=(n+3)) (by omega) (by omega) (by omega) (by omega) (by omega) (by omega) (by omega) (by omega) (by omega) (by omega) (by omega) (by omega) (by omega) (by omega) (by omega) (by omega) (by omega) (by omega) (by omega) (by omega) (by omega) (by simp only [push_cast,seval,Zc,Ya,Ys,Y4,Zk,Zm,Z4,Z5,Z6,Ye,hN] <;> rfl) (by simp only [push_cast,seval,Zc,Ya,Ys,Y4,Zk,Zm,Z4,Z5,Z6,Ye,hN] <;> rfl) (by simp only [push_cast,seval,Zc,Ya,Ys,Y4,Zk,Zm,Z4,Z5,Z6,Ye,hN] <;> rfl) (by simp only [push_cast,seval,Zc,Ya,Ys,Y4,Zk,Zm,Z4,Z5,Z6,Ye,hN] <;> rfl) (by simp only [push_cast,seval,Zc,Ya,Ys,Y4,Zk,Zm,Z4,Z5,Z6,Ye,hN] <;> rfl) (by simp only [push_cast,seval,Zc,Ya,Ys,Y4,Zk,Zm,Z4,Z5,Z6,Ye,hN] <;> rfl) kE).then ?_)
  ·simp only [push_cast,seval,Zc,Ys,Y4,Zk,Zm,Z4,Z5,Z6,Ye,hN]
  simp only [push_cast,seval,Zc,Ys,Y4,Zk,Zm,Z4,Z5,Z6,Ye,hN]
  obtain rfl:=sI h
  refine Kk (k:=4) (i:=i0) (j:=Zr) (q1:=⟨false,85,13,1,(Zj (.ref Zr 0) (.row n y2.1.left.Words.length) (.row (n+1) y2.1.left.Kids.length) (.row (n+2) y2.1.left.Ops.length) (.row (n+3) y2.1.come.length) y2.1)⟩) (p1:=⟨false,43,2,1,[(vB y2.2.apart),(vB y2.2.clash)]⟩) (L3:=[some (oR 48 4 Zf y2.1.left.Words),some (oR 50 12 Ze y2.1.left.Kids),some (oR 41 14 Zh y2.1.left.Ops),some (oR 25 3 Za y2.1.come),none]) (E2:=(⟨99,[],[]⟩:Env)) (n3:=(n+5)) (.inl rfl) hU rfl [] ?_ ?_
  ·refine fr2 (k:=10) (k':=5) hU [4,4,4,4,4,4,0,1,2,3] [6,7,8,9,0] (zM2 Ys Zk) ?_ ?_
   ·simp only [push_cast,seval,Zc,Ys,Y4,Zk,Zm,Z4,Z5,Z6,Ye,hN]
   simp only [push_cast,seval,Zc,Ys,Y4,Zk,Zm,Z4,Z5,Z6,Ye,hN]
  simp only [push_cast,seval,Zc,Try.results69,Ys,Y4,Zk,Zm,Z4,Z5,Z6,Ye,hN]
 replace h:=Yl fR h
 refine yJ [0,4,5,27] (Yv Yd [none,none,none] ?_)
 simp only [push_cast,seval,Zc,Ys,Y4,Zk,Zm,Z4,Z5,Z6,Ye,hN]
 refine zG ?_
 refine Yj (t:=(cond (a1.Kind == 1) (a2.Kind == 1) false)) rfl (fun jF => ?_) (fun jF => ?_)
 ·replace h:=Ym jF h
  rcases Bool.eq_false_or_eq_true Yy.apart with c4 | c4
  ·replace h:=Ym c4 h
   refine oY Yd (by kernel_rfl) [false,false,false,false,false,false,false,false,false,false,false,false,false,false,false,false,false,false,false,false,false,true] (Zro []) (by kernel_rfl) ?_
   simp only [push_cast,seval,Zc,c4,Ys,Y4,Zk,Zm,Z4,Z5,Z6,Ye,hN]
   obtain rfl:=sI h
   refine Kk (k:=4) (i:=i0) (j:=Zr) (q1:=⟨false,85,13,1,(Zj (.ref Zr 0) (.row n a0.left.Words.length) (.row (n+1) a0.left.Kids.length) (.row (n+2) a0.left.Ops.length) (.row (n+3) a0.come.length) a0)⟩) (p1:=⟨false,43,2,1,[(vB true),(vB Yy.clash)]⟩) (L3:=[some (oR 48 4 Zf a0.left.Words),some (oR 50 12 Ze a0.left.Kids),some (oR 41 14 Zh a0.left.Ops),some (oR 25 3 Za a0.come),none]) (E2:=(⟨99,[],[]⟩:Env)) (n3:=(n+5)) (.inl rfl) hU rfl [] ?_ ?_
   ·refine fr2 (k:=6) (k':=5) hU [0,1,2,3,4,4] [0,1,2,3,0] (zM2 Ys Zk) ?_ ?_
    ·simp only [push_cast,seval,Zc,c4,Ys,Y4,Zk,Zm,Z4,Z5,Z6,Ye,hN]
    simp only [push_cast,seval,Zc,Ys,Y4,Zk,Zm,Z4,Z5,Z6,Ye,hN]
   simp only [push_cast,seval,Zc,Try.results69,Ys,Y4,Zk,Zm,Z4,Z5,Z6,Ye,hN]
  replace h:=Yl c4 h
  obtain ⟨y3,hy3,h⟩:=bC h
  refine oY Yd (by kernel_rfl) [false,false,false,false,false,false,false,false,false,false,false,false,false,false,false,false,false,false,false,false,false,true] (Zjd []) (by kernel_rfl) ?_
  simp only [push_cast,seval,Zc,c4,Ys,Y4,Zk,Zm,Z4,Z5,Z6,Ye,hN]
  refine PCall.of (Q1 hy3) ?_
  simp only [push_cast,seval,Zc,c4,Ys,Y4,Zk,Zm,Z4,Z5,Z6,Ye,hN]
  obtain rfl:=sI h
  refine Kk (k:=4) (i:=i0) (j:=Zr) (q1:=⟨false,85,13,1,(Zj (.ref Zr 0) (.row n a0.left.Words.length) (.row (n+1) a0.left.Kids.length) (.row (n+2) a0.left.Ops.length) (.row (n+3) a0.come.length) a0)⟩) (p1:=⟨false,43,2,1,[(vB (cond Yy.apart true (!y3))),(vB Yy.clash)]⟩) (L3:=[some (oR 48 4 Zf a0.left.Words),some (oR 50 12 Ze a0.left.Kids),some (oR 41 14 Zh a0.left.Ops),some (oR 25 3 Za a0.come),none]) (E2:=(⟨99,[],[]⟩:Env)) (n3:=(n+5)) (.inl rfl) hU rfl [] ?_ ?_
  ·refine fr2 (k:=6) (k':=5) hU [0,1,2,3,4,4] [0,1,2,3,0] (zM2 Ys Zk) ?_ ?_
   ·simp only [push_cast,seval,Zc,c4,Ys,Y4,Zk,Zm,Z4,Z5,Z6,Ye,hN]
   simp only [push_cast,seval,Zc,Ys,Y4,Zk,Zm,Z4,Z5,Z6,Ye,hN]
  simp only [push_cast,seval,Zc,Try.results69,Ys,Y4,Zk,Zm,Z4,Z5,Z6,Ye,hN]
 replace h:=Yl jF h
 refine yJ [0,4,5,57] (Yv Yd [none,none,none] ?_)
 simp only [push_cast,seval,Zc,Ys,Y4,Zk,Zm,Z4,Z5,Z6,Ye,hN]
 refine zG ?_
 refine Yj (t:=(cond (a1.Kind == 1) (a2.Kind == 3) false)) rfl (fun iB => ?_) (fun iB => ?_)
 ·replace h:=Ym iB h
  refine Z7 ?_
  obtain ⟨x7,hx7,ax7,bx7,cx7,h⟩:=bE (f:=Za) mY (fun _=>rfl) (by decide) h
  obtain ⟨y8,hy8,h⟩:=bC h
  refine V4 Yd (by kernel_rfl) [.low,.low,.low,.low,.low,.low,.low,.plain,.plain,.plain,.pass,.bar,.plain] (fun i=>i < (n+6)) [0,1,2,3,4,5,6,7,8,9,10,11,12] [.low,.low,.low,.low,.low,.low,.low,.plain,.plain,.plain,.pass,.bar,.plain] [] (by kernel_rfl) rfl ?_
  refine Z35 ax7 bx7 cx7 Ys Y4 Zk Zm Z4 Z5 Z6 ?_
  refine zO ?_
  first | refine PCallA.of (fun _ _=>dF hy8) ?_ | refine PCall.of (dF hy8) ?_
  refine Z35 ax7 bx7 cx7 Ys Y4 Zk Zm Z4 Z5 Z6 ?_
  refine zO ?_
  refine zD [0,7] [true,true,true,true,false,false,false] ?_
  rcases Bool.eq_false_or_eq_true Yy.apart with c9 | c9
  ·replace h:=Ym c9 h
   refine V4 Yd (by kernel_rfl) [.plain,.plain,.plain,.plain,.plain,.plain,.plain,.plain,.plain,.plain,.plain,.plain,.plain,.plain,.plain,.plain,.low,.low,.low,.plain,.plain,.pass,.plain,.plain,.bar] (fun i=>¬ i=Zr) [0,1,2,3,4,5,6,7,8,9,10,11,12,13,14,15,16,17,18,19,20,21,22,23,24] [.plain,.plain,.plain,.plain,.plain,.plain,.plain,.plain,.plain,.plain,.plain,.plain,.plain,.plain,.plain,.plain,.low,.low,.low,.plain,.plain,.pass,.plain,.plain,.bar] [X6,X6] (by kernel_rfl) rfl ?_
   simp only [push_cast,seval,Zc,c9,Ys,Y4,Zk,Zm,Z4,Z5,Z6,Ye,hN]
   refine Z5h ?_
   obtain rfl:=sI h
   refine Kk (k:=4) (i:=i0) (j:=Zr) (q1:=⟨false,85,13,1,(Zj (.ref Zr 0) (.row n a0.left.Words.length) (.row (n+1) a0.left.Kids.length) (.row (n+2) a0.left.Ops.length) (.row (n+3) a0.come.length) a0)⟩) (p1:=⟨false,43,2,1,[(vB true),(vB true)]⟩) (L3:=[some (oR 48 4 Zf a0.left.Words),some (oR 50 12 Ze a0.left.Kids),some (oR 41 14 Zh a0.left.Ops),some (oR 25 3 Za a0.come),none]) (E2:=(⟨99,[],[]⟩:Env)) (n3:=(n+5)) (.inl rfl) hU rfl [] ?_ ?_
   ·refine fr2 (k:=7) (k':=5) hU [0,1,2,3,4,4,4] [0,1,2,3,0] (zM2 Ys Zk) ?_ ?_
    ·simp only [push_cast,seval,Zc,c9,Ys,Y4,Zk,Zm,Z4,Z5,Z6,Ye,hN]
    simp only [push_cast,seval,Zc,Ys,Y4,Zk,Zm,Z4,Z5,Z6,Ye,hN]
   simp only [push_cast,seval,Zc,Try.results69,Ys,Y4,Zk,Zm,Z4,Z5,Z6,Ye,hN]
  replace h:=Yl c9 h
  refine V4 Yd (by kernel_rfl) [.plain,.plain,.plain,.plain,.plain,.plain,.plain,.plain,.plain,.plain,.plain,.plain,.plain,.plain,.plain,.plain,.low,.low,.low,.plain,.plain,.pass,.plain,.plain,.bar] (fun i=>¬ i=Zr) [0,1,2,3,4,5,6,7,8,9,10,11,12,13,14,15,16,17,18,19,20,21,22,23,24] [.plain,.plain,.plain,.plain,.plain,.plain,.plain,.plain,.plain,.plain,.plain,.plain,.plain,.plain,.plain,.plain,.low,.low,.low,.plain,.plain,.pass,.plain,.plain,.bar] [G7,G7] (by kernel_rfl) rfl ?_
  simp only [push_cast,seval,Zc,c9,Ys,Y4,Zk,Zm,Z4,Z5,Z6,Ye,hN]
  refine Z5h ?_
  obtain rfl:=sI h
  refine Kk (k:=4) (i:=i0) (j:=Zr) (q1:=⟨false,85,13,1,(Zj (.ref Zr 0) (.row n a0.left.Words.length) (.row (n+1) a0.left.Kids.length) (.row (n+2) a0.left.Ops.length) (.row (n+3) a0.come.length) a0)⟩) (p1:=⟨false,43,2,1,[(vB (cond Yy.apart true (!y8.2))),(vB true)]⟩) (L3:=[some (oR 48 4 Zf a0.left.Words),some (oR 50 12 Ze a0.left.Kids),some (oR 41 14 Zh a0.left.Ops),some (oR 25 3 Za a0.come),none]) (E2:=(⟨99,[],[]⟩:Env)) (n3:=(n+5)) (.inl rfl) hU rfl [] ?_ ?_
  ·refine fr2 (k:=7) (k':=5) hU [0,1,2,3,4,4,4] [0,1,2,3,0] (zM2 Ys Zk) ?_ ?_
   ·simp only [push_cast,seval,Zc,c9,Ys,Y4,Zk,Zm,Z4,Z5,Z6,Ye,hN]
   simp only [push_cast,seval,Zc,Ys,Y4,Zk,Zm,Z4,Z5,Z6,Ye,hN]
  simp only [push_cast,seval,Zc,Try.results69,Ys,Y4,Zk,Zm,Z4,Z5,Z6,Ye,hN]
 replace h:=Yl iB h
 refine zK ?_
 obtain rfl:=sI h
 refine Kk (k:=4) (i:=i0) (j:=Zr) (q1:=⟨false,85,13,1,(Zj (.ref Zr 0) (.row n a0.left.Words.length) (.row (n+1) a0.left.Kids.length) (.row (n+2) a0.left.Ops.length) (.row (n+3) a0.come.length) a0)⟩) (p1:=⟨false,43,2,1,[(vB Yy.apart),(vB Yy.clash)]⟩) (L3:=[some (oR 48 4 Zf a0.left.Words),some (oR 50 12 Ze a0.left.Kids),some (oR 41 14 Zh a0.left.Ops),some (oR 25 3 Za a0.come),none]) (E2:=(⟨99,[],[]⟩:Env)) (n3:=(n+5)) (.inl rfl) hU rfl [] ?_ ?_
 ·refine fr2 (k:=6) (k':=5) hU [0,1,2,3,4,4] [0,1,2,3,0] (zM2 Ys Zk) ?_ ?_
  ·simp only [push_cast,seval,Zc,Ys,Y4,Zk,Zm,Z4,Z5,Z6,Ye,hN]
  simp only [push_cast,seval,Zc,Ys,Y4,Zk,Zm,Z4,Z5,Z6,Ye,hN]
 simp only [push_cast,seval,Zc,Try.results69,Ys,Y4,Zk,Zm,Z4,Z5,Z6,Ye,hN]
end Go.Proofs.Ytocpndlnbmjpmaa
