/- Part VM8 of this seat's mirrors: functions of the seat's program, and the plain functions that they are; each theorem bears its own conditions. -/
import Derived.Test.YtocpndlnbmjpmaaVM6
namespace Go.Proofs.Ytocpndlnbmjpmaa
open Go.RowKit
set_option linter.unusedVariables false
set_option linter.unusedSimpArgs false
set_option maxRecDepth 100000
set_option maxHeartbeats 4000000
attribute [local push_cast] Try.results13 Try.results26 Try.results27 Try.results43 Try.results47 vI vB nV sL oR Zj Zl zJ Xk Z9 Qi Qj Xr Ku uD fB Ze4 Zdo xW dO wW cO Zb0 Zbw bO Zbz Zby Zbx yW Zbv vP evS wok Uw Op.operands Call.operands gop atK List.all_cons List.all_nil Bool.and_self Value.oneCell' List.take_zero List.take_succ_cons List.take_nil List.drop_zero List.drop_succ_cons List.drop_nil List.append_nil Nat.add_zero Nat.zero_add vJ Xw ev U2 Zkp Zer Zeq Zew Zeu Zev Zes Zet Zep Zhu Zi7 Zne yS qB sR zB tT cI kF pF fN aN nF eN dN bN mF zM lF oF yC Zar jN gU tR iU pO wS Zkr mG mT gF rB oO Zo6 vS Zah bF nK Zir Zpa qR uF Zpd pB Zq8 Zba Zbe Za9 Zbd Zfi Zfe Zfd yT Zbb Zfh Zfg Zff Zbc Ze9 Zfc Ze8 Zfb Zk1 Zky Zkx Zfa Zkz Zk0 xS gone pop TK.isAgg Zfw Zf0 Zfv Zfz Zbn Zlp Zll Zfy Zlo Zln Zlm Zfx Zlk G.under G.unders List.getD_cons_zero List.getD_cons_succ List.set_cons_zero List.set_cons_succ List.map_cons List.map_nil List.toList_toArray Array.toList_append Option.toArray_none Option.toArray_some Option.map_some Option.map_none Option.bind_some Option.bind_none List.getElem?_cons_zero List.getElem?_cons_succ List.getElem?_nil List.nil_append List.cons_append List.replicate_succ List.replicate_zero List.length_cons List.length_nil and_true true_and Bool.true_eq_false Bool.false_eq_true forall_const implies_true IntKind.bits ite_true ite_false eq_self decide_true decide_eq_true_eq decide_eq_false_iff_not beq_iff_eq ne_eq beq_eq_false_iff_ne beq_self_eq_true Option.some.injEq exists_eq_left' gt_iff_lt Bool.not_true imp_self cond_true cond_false Zyx Zyw Gx tX oZ jB Up Kg Option.join_some Nat.add_assoc Int.toNat_natCast eI eL Ya rM wF Ze2 Ze0 Ze1 Zrt Zug vM mH Zga Zf8 Zf9 Znr fM Zkk yK Za4 pM List.length_append G.agg.injEq G.tup.injEq List.flatten_cons List.flatten_nil Nat.le_refl rH Yb Z8 Bool.not_eq_true' Zhi fO Zm7 Zm2 Zm6 Zth tW qC G.ren G.rens mR lI Zgf G.fn.injEq Zck Zcl Zm4 Zm3 Zk4 Zrg Option.join_none Yo tJ undef Zaj Arr.put_eq uM kW iP lH Zf7 Zf5 Zf6 onB Zrs Zip Zea fW pW Zcx kP nH nW Zbr Zbq Zbp Zbo Zuf Zxw Znq Zlr G8 Znl Zdv Zpy Zgh tS Zag fF Zqi Znw Zwp Zwr Zws Zwt Zwu Zwv sF prT cC Zww Zwx Zwy Zwz Zw0 Z1j Zms wP Zmt Z1k Zmu Znu Zmv Z1l Zmw Z1m Zmx Z1n Zmy Z1o Zmz Zsf Zgj Zsg Zgk Zsh Zgl Zsi Zgm Zsj Zgn Zsk Zgo Zsl Zgp Zsm Zgq Zsn Zgr Zso Zgs Zsp Zgt Zsq Zc4 Zmq zA Zsr Zgu mY Zgv Zss Zc5 Zst jM Zsu Zc6 Zsv Zgw xP Zgx Zsw Zgy yP Zgz Zsx Zg0 rJ Zg1 Zsy Zg2 Zsz Zg3 Zs0 Zg4 oS Zg5 Zs1 Zg6 aV Zg7 Zs2 Zg8 Zs3 Zg9 Zs4 Zha Zs5 Zhb Zoo Zhc Zs6 Zhd Zs7 Zhe Zs8 Zhf Zs9 Zhg Zta Zhh Zmr Zc7 Zl9 Zb1 Zma Zb2 Zmb Zb3 Zmc Zb4 Zmd Zb5 Zme Zb6 Zmf Zb7 Zmg Zb8 Zmh Zb9 Zmi Zca Zmj Zcb Zmk Zcc Zml Zcd Zmm Zce Zmn Zcf Zmo Zcg Zmp Zch Za bR oH vV aF mE vE uK Zf Jz Zh Ze Vk Jj nY eZ sX lY pA wU Xm zI Zbt
def Vw (Xa:(Zd→Zd→Zg→Option (Zd×Zd×Zg))):Prop:=∀ {a1:Zd} {a2:Zd} {Yy:Zg} {r:(Zd×Zd×Zg)} {O:Objs} {n:Nat} {Zr:Nat},Zr < n→O Zr=some ⟨false,43,2,1,[(vB Yy.apart),(vB Yy.clash)]⟩→Xa a1 a2 Yy=some r→GTo Try.prog 13 [.ref Zr 0,.agg (Zl a1),.agg (Zl a2)] O n (.tup [.agg (Zl r.1),.agg (Zl r.2.1)]) (Yn (O.upd Zr (some ⟨false,43,2,1,[(vB r.2.2.apart),(vB r.2.2.clash)]⟩)) n []) (n+0)
def K0 (Y6:(Zd→Zd→Zg→Option (Zd×Zd×Zg))):Prop:=∀ {a1:Zd} {a2:Zd} {Yy:Zg} {r:(Zd×Zd×Zg)} {O:Objs} {n:Nat} {Zr:Nat},Zr < n→O Zr=some ⟨false,43,2,1,[(vB Yy.apart),(vB Yy.clash)]⟩→Y6 a1 a2 Yy=some r→GTo Try.prog 26 [.ref Zr 0,.agg (Zl a1),.agg (Zl a2)] O n (.tup [.agg (Zl r.1),.agg (Zl r.2.1)]) (Yn (O.upd Zr (some ⟨false,43,2,1,[(vB r.2.2.apart),(vB r.2.2.clash)]⟩)) n []) (n+0)
def Vg (Xf:(Zd→Zd→Zg→Option (Zd×Zd×Zg))):Prop:=∀ {a1:Zd} {a2:Zd} {Yy:Zg} {r:(Zd×Zd×Zg)} {O:Objs} {n:Nat} {Zr:Nat},Zr < n→O Zr=some ⟨false,43,2,1,[(vB Yy.apart),(vB Yy.clash)]⟩→Xf a1 a2 Yy=some r→GTo Try.prog 27 [.ref Zr 0,.agg (Zl a1),.agg (Zl a2)] O n (.tup [.agg (Zl r.1),.agg (Zl r.2.1)]) (Yn (O.upd Zr (some ⟨false,43,2,1,[(vB r.2.2.apart),(vB r.2.2.clash)]⟩)) n []) (n+0)
def Vv (Xh:(Zi→Zi→(List Zq)→(List Zq)→Zg→Option (Zi×Zi×Zg))):Prop:=∀ {a1:Zi} {a2:Zi} {a3:(List Zq)} {a4:(List Zq)} {Yy:Zg} {r:(Zi×Zi×Zg)} {O:Objs} {n:Nat} {i1 Q4 Q5 Q6 Q7 i2 Q8 Q9 Ja Jb Zr:Nat},i1 < n→Q4 < n→Q5 < n→Q6 < n→Q7 < n→i1≠Q4→i1≠Q5→i1≠Q6→i1≠Q7→Q4≠Q5→Q4≠Q6→Q4≠Q7→Q5≠Q6→Q5≠Q7→Q6≠Q7→i2 < n→Q8 < n→Q9 < n→Ja < n→Jb < n→i2≠Q8→i2≠Q9→i2≠Ja→i2≠Jb→Q8≠Q9→Q8≠Ja→Q8≠Jb→Q9≠Ja→Q9≠Jb→Ja≠Jb→Zr < n→i1≠Q8→i1≠Q9→i1≠Ja→i1≠Jb→i2≠Q4→i2≠Q5→i2≠Q6→i2≠Q7→Zr≠Q4→Zr≠Q5→Zr≠Q6→Zr≠Q7→Zr≠Q8→Zr≠Q9→Zr≠Ja→Zr≠Jb→i1≠i2→i1≠Zr→i2≠Zr→Q4≠Q8→Q4≠Q9→Q4≠Ja→Q4≠Jb→Q5≠Q8→Q5≠Q9→Q5≠Ja→Q5≠Jb→Q6≠Q8→Q6≠Q9→Q6≠Ja→Q6≠Jb→Q7≠Q8→Q7≠Q9→Q7≠Ja→Q7≠Jb→O i1=some ⟨false,85,13,1,(Zj (.ref Zr 0) (.row Q4 a1.left.Words.length) (.row Q5 a1.left.Kids.length) (.row Q6 a1.left.Ops.length) (.row Q7 a1.come.length) a1)⟩→O Q4=some (oR 48 4 Zf a1.left.Words)→O Q5=some (oR 50 12 Ze a1.left.Kids)→O Q6=some (oR 41 14 Zh a1.left.Ops)→O Q7=some (oR 25 3 Za a1.come)→O i2=some ⟨false,85,13,1,(Zj (.ref Zr 0) (.row Q8 a2.left.Words.length) (.row Q9 a2.left.Kids.length) (.row Ja a2.left.Ops.length) (.row Jb a2.come.length) a2)⟩→O Q8=some (oR 48 4 Zf a2.left.Words)→O Q9=some (oR 50 12 Ze a2.left.Kids)→O Ja=some (oR 41 14 Zh a2.left.Ops)→O Jb=some (oR 25 3 Za a2.come)→O Zr=some ⟨false,43,2,1,[(vB Yy.apart),(vB Yy.clash)]⟩→Xh a1 a2 a3 a4 Yy=some r→GTo Try.prog 43 [.ref Zr 0,.ref i1 0,.ref i2 0,(sL Ze a3),(sL Ze a4)] O n (.tup []) (Yn (((((((((((O.upd Q4 none).upd Q5 none).upd Q6 none).upd Q7 none).upd Q8 none).upd Q9 none).upd Ja none).upd Jb none).upd i1 (some ⟨false,85,13,1,(Zj (.ref Zr 0) (.row n r.1.left.Words.length) (.row (n+1) r.1.left.Kids.length) (.row (n+2) r.1.left.Ops.length) (.row (n+3) r.1.come.length) r.1)⟩)).upd i2 (some ⟨false,85,13,1,(Zj (.ref Zr 0) (.row (n+4) r.2.1.left.Words.length) (.row (n+5) r.2.1.left.Kids.length) (.row (n+6) r.2.1.left.Ops.length) (.row (n+7) r.2.1.come.length) r.2.1)⟩)).upd Zr (some ⟨false,43,2,1,[(vB r.2.2.apart),(vB r.2.2.clash)]⟩)) n [some (oR 48 4 Zf r.1.left.Words),some (oR 50 12 Ze r.1.left.Kids),some (oR 41 14 Zh r.1.left.Ops),some (oR 25 3 Za r.1.come),some (oR 48 4 Zf r.2.1.left.Words),some (oR 50 12 Ze r.2.1.left.Kids),some (oR 41 14 Zh r.2.1.left.Ops),some (oR 25 3 Za r.2.1.come)]) (n+8)
def Vu (Xd:(Zi→Zi→Zo→Zo→Zg→Option (Zi×Zi×Zg))):Prop:=∀ {a1:Zi} {a2:Zi} {a3:Zo} {a4:Zo} {Yy:Zg} {r:(Zi×Zi×Zg)} {O:Objs} {n:Nat} {i1 Q4 Q5 Q6 Q7 i2 Q8 Q9 Ja Jb Zr:Nat},i1 < n→Q4 < n→Q5 < n→Q6 < n→Q7 < n→i1≠Q4→i1≠Q5→i1≠Q6→i1≠Q7→Q4≠Q5→Q4≠Q6→Q4≠Q7→Q5≠Q6→Q5≠Q7→Q6≠Q7→i2 < n→Q8 < n→Q9 < n→Ja < n→Jb < n→i2≠Q8→i2≠Q9→i2≠Ja→i2≠Jb→Q8≠Q9→Q8≠Ja→Q8≠Jb→Q9≠Ja→Q9≠Jb→Ja≠Jb→Zr < n→i1≠Q8→i1≠Q9→i1≠Ja→i1≠Jb→i2≠Q4→i2≠Q5→i2≠Q6→i2≠Q7→Zr≠Q4→Zr≠Q5→Zr≠Q6→Zr≠Q7→Zr≠Q8→Zr≠Q9→Zr≠Ja→Zr≠Jb→i1≠i2→i1≠Zr→i2≠Zr→Q4≠Q8→Q4≠Q9→Q4≠Ja→Q4≠Jb→Q5≠Q8→Q5≠Q9→Q5≠Ja→Q5≠Jb→Q6≠Q8→Q6≠Q9→Q6≠Ja→Q6≠Jb→Q7≠Q8→Q7≠Q9→Q7≠Ja→Q7≠Jb→O i1=some ⟨false,85,13,1,(Zj (.ref Zr 0) (.row Q4 a1.left.Words.length) (.row Q5 a1.left.Kids.length) (.row Q6 a1.left.Ops.length) (.row Q7 a1.come.length) a1)⟩→O Q4=some (oR 48 4 Zf a1.left.Words)→O Q5=some (oR 50 12 Ze a1.left.Kids)→O Q6=some (oR 41 14 Zh a1.left.Ops)→O Q7=some (oR 25 3 Za a1.come)→O i2=some ⟨false,85,13,1,(Zj (.ref Zr 0) (.row Q8 a2.left.Words.length) (.row Q9 a2.left.Kids.length) (.row Ja a2.left.Ops.length) (.row Jb a2.come.length) a2)⟩→O Q8=some (oR 48 4 Zf a2.left.Words)→O Q9=some (oR 50 12 Ze a2.left.Kids)→O Ja=some (oR 41 14 Zh a2.left.Ops)→O Jb=some (oR 25 3 Za a2.come)→O Zr=some ⟨false,43,2,1,[(vB Yy.apart),(vB Yy.clash)]⟩→Xd a1 a2 a3 a4 Yy=some r→GTo Try.prog 47 [.ref Zr 0,.ref i1 0,.ref i2 0,.agg (Xk a3),.agg (Xk a4)] O n (.tup []) (Yn (((((((((((O.upd Q4 none).upd Q5 none).upd Q6 none).upd Q7 none).upd Q8 none).upd Q9 none).upd Ja none).upd Jb none).upd i1 (some ⟨false,85,13,1,(Zj (.ref Zr 0) (.row n r.1.left.Words.length) (.row (n+1) r.1.left.Kids.length) (.row (n+2) r.1.left.Ops.length) (.row (n+3) r.1.come.length) r.1)⟩)).upd i2 (some ⟨false,85,13,1,(Zj (.ref Zr 0) (.row (n+4) r.2.1.left.Words.length) (.row (n+5) r.2.1.left.Kids.length) (.row (n+6) r.2.1.left.Ops.length) (.row (n+7) r.2.1.come.length) r.2.1)⟩)).upd Zr (some ⟨false,43,2,1,[(vB r.2.2.apart),(vB r.2.2.clash)]⟩)) n [some (oR 48 4 Zf r.1.left.Words),some (oR 50 12 Ze r.1.left.Kids),some (oR 41 14 Zh r.1.left.Ops),some (oR 25 3 Za r.1.come),some (oR 48 4 Zf r.2.1.left.Words),some (oR 50 12 Ze r.2.1.left.Kids),some (oR 41 14 Zh r.2.1.left.Ops),some (oR 25 3 Za r.2.1.come)]) (n+8)
theorem Za1 {Xa:(Zd→Zd→Zg→Option (Zd×Zd×Zg))} {Y6:(Zd→Zd→Zg→Option (Zd×Zd×Zg))} {Xf:(Zd→Zd→Zg→Option (Zd×Zd×Zg))} {Xh:(Zi→Zi→(List Zq)→(List Zq)→Zg→Option (Zi×Zi×Zg))} {Xd:(Zi→Zi→Zo→Zo→Zg→Option (Zi×Zi×Zg))} (Jc:Vw Xa) (Vy:K0 Y6) (Gd:Vg Xf) (Gp:Vv Xh) (Gn:Vu Xd) {a1:Zd} {a2:Zd} {Yy:Zg} {r:(Zd×Zd×Zg)} {O:Objs} {n:Nat} {Zr:Nat} (Zk:Zr < n) (Ks:O Zr=some ⟨false,43,2,1,[(vB Yy.apart),(vB Yy.clash)]⟩) (h:Xo Xa Y6 Xf Xh Xd a1 a2 Yy=some r):GTo Try.prog 13 [.ref Zr 0,.agg (Zl a1),.agg (Zl a2)] O n (.tup [.agg (Zl r.1),.agg (Zl r.2.1)]) (Yn (O.upd Zr (some ⟨false,43,2,1,[(vB r.2.2.apart),(vB r.2.2.clash)]⟩)) n []) (n+0):=by
 unfold Xo at h
 refine vX Yd Try.call13 Try.func13 rfl (Nat.le_of_ble_eq_true rfl) (by omega) fun hU => ?_
 rw [show Yn O n []=Yn (O.upd Zr (some ⟨false,43,2,1,[(vB Yy.apart),(vB Yy.clash)]⟩)) n [] from by rw [Qw (show O Zr=_ from by exact Ks)]]
 have Zm:∀ k,Zr < n+k:=fun k=>by omega
 have Ye:∀ o,Objs.upd O Zr o n=none:=fun o=>Xb hU Zk _ (Nat.le_refl _)
 have hN:∀ o k,Objs.upd O Zr o (n+k)=none:=fun o k=>Xb hU Zk _ (Nat.le_add_right _ _)
 show W _ _ _ _ ⟨77,[],[(0,.ref Zr 0),(1,.agg (Zl a1)),(2,.agg (Zl a2))]⟩ (Yn (O.upd Zr (some ⟨false,43,2,1,[(vB Yy.apart),(vB Yy.clash)]⟩)) n []) _
 refine fZ [0,4,5,6,7] Zk Zm ?_
 obtain ⟨z1,Jx,h⟩:=bC h
 refine Z7o (J:=(Kh (fun z1=>JN n (⟨77,[],[(6,.ref (n+2) 0),(7,.ref (n+3) 0)]⟩:Env) (Yn (O.upd Zr (some ⟨false,43,2,1,[(vB z1.1),(vB z1.2)]⟩)) n [none,none,some ⟨false,30,11,1,[(vI 0),(vI 0),nV,nV,(vI 0),nV,nV,nV,nV,(vI 0),nV]⟩,some ⟨false,30,11,1,[(vI 0),(vI 0),nV,nV,(vI 0),nV,nV,nV,nV,(vI 0),nV]⟩]) (n+4)) (fun z1=>JR n (⟨77,[],[(6,.ref (n+2) 0),(7,.ref (n+3) 0)]⟩:Env) (Yn (O.upd Zr (some ⟨false,43,2,1,[(vB z1.2.2.2.2.2.2.2.2.2.2.2.2.2.2.2.2.2.2.2.2.2.2.1),(vB z1.2.2.2.2.2.2.2.2.2.2.2.2.2.2.2.2.2.2.2.2.2.2.2)]⟩)) n [none,none,some ⟨false,30,11,1,[(vI z1.1),(vI z1.2.1),(sL (eI .u64) z1.2.2.1),(sL Za z1.2.2.2.1),(vI z1.2.2.2.2.1),(sL (eI .u64) z1.2.2.2.2.2.1),(sL Za z1.2.2.2.2.2.2.1),(sL Zf z1.2.2.2.2.2.2.2.1),(sL Ze z1.2.2.2.2.2.2.2.2.1),(vI z1.2.2.2.2.2.2.2.2.2.1),(sL Zh z1.2.2.2.2.2.2.2.2.2.2.1)]⟩,some ⟨false,30,11,1,[(vI z1.2.2.2.2.2.2.2.2.2.2.2.1),(vI z1.2.2.2.2.2.2.2.2.2.2.2.2.1),(sL (eI .u64) z1.2.2.2.2.2.2.2.2.2.2.2.2.2.1),(sL Za z1.2.2.2.2.2.2.2.2.2.2.2.2.2.2.1),(vI z1.2.2.2.2.2.2.2.2.2.2.2.2.2.2.2.1),(sL (eI .u64) z1.2.2.2.2.2.2.2.2.2.2.2.2.2.2.2.2.1),(sL Za z1.2.2.2.2.2.2.2.2.2.2.2.2.2.2.2.2.2.1),(sL Zf z1.2.2.2.2.2.2.2.2.2.2.2.2.2.2.2.2.2.2.1),(sL Ze z1.2.2.2.2.2.2.2.2.2.2.2.2.2.2.2.2.2.2.2.1),(vI z1.2.2.2.2.2.2.2.2.2.2.2.2.2.2.2.2.2.2.2.2.1),(sL Zh z1.2.2.2.2.2.2.2.2.2.2.2.2.2.2.2.2.2.2.2.2.2.1)]⟩]) (n+4)))) (z:=z1) ?_ fun hw => ?_
 ·refine Xt ?_
  refine yJ [0,4,5,6,7,11] (Yv Yd [none,none,none] ?_)
  refine eR Zk Zm ?_
  refine zG ?_
  refine Yj (t:=(cond (a1.Kind == 0) true (a2.Kind == 0))) rfl (fun fR => ?_) (fun fR => ?_)
  ·replace Jx:=Ym fR Jx
   refine Z7 ?_
   refine V4 Yd (by kernel_rfl) [.plain,.low,.pass,.bar] (fun i=>i≠n+2) [0,1,2,3] [.plain,.low,.pass,.bar] [] (by kernel_rfl) rfl ?_
   refine eR Zk Zm ?_
   refine zO ?_
   refine zD [6,7] [false,false,true,true] ?_
   refine zW ?_
   obtain rfl:=sI Jx
   refine And.intro rfl (Fit2.of (Xy hU rfl rfl ?_) (by omega))
   exact Qx Zk Zm
  replace Jx:=Yl fR Jx
  refine fZ [0,4,5,6,7,22] Zk Zm ?_
  refine Yj (t:=(a1.Kind == 1)) rfl (fun jF => ?_) (fun jF => ?_)
  ·replace Jx:=Ym jF Jx
   obtain ⟨y2,kE,Jx⟩:=bC Jx
   refine Kc [] Zk Zm ?_
   refine (eT (Zr:=Zr) (by omega) (by simp only [push_cast,seval,Zc,Ya,Zk,Zm,Ye,hN] <;> rfl) kE).then ?_
   refine eR Zk Zm ?_
   obtain rfl:=sI Jx
   refine And.intro rfl (Fit2.of (Xy hU rfl rfl ?_) (by omega))
   exact Qx Zk Zm
  replace Jx:=Yl jF Jx
  refine fZ [0,4,5,6,7,30] Zk Zm ?_
  refine Yj (t:=(a2.Kind == 1)) rfl (fun iB => ?_) (fun iB => ?_)
  ·replace Jx:=Ym iB Jx
   obtain ⟨y3,hy3,Jx⟩:=bC Jx
   refine Kc [] Zk Zm ?_
   refine (lR (Zr:=Zr) (by omega) (by simp only [push_cast,seval,Zc,Ya,Zk,Zm,Ye,hN] <;> rfl) hy3).then ?_
   refine eR Zk Zm ?_
   obtain rfl:=sI Jx
   refine And.intro rfl (Fit2.of (Xy hU rfl rfl ?_) (by omega))
   exact Qx Zk Zm
  replace Jx:=Yl iB Jx
  refine yJ [0,4,5,6,7,38] (Yv Yd [none,none,none] ?_)
  refine eR Zk Zm ?_
  refine zG ?_
  refine Yj (t:=(cond (a1.Kind == 2) (a2.Kind == 2) false)) rfl (fun c9 => ?_) (fun c9 => ?_)
  ·replace Jx:=Ym c9 Jx
   refine Z7 ?_
   obtain ⟨y5,hy5,Jx⟩:=bC Jx
   refine Kc [] Zk Zm ?_
   refine (Vy (Zr:=Zr) (by omega) (by simp only [push_cast,seval,Zc,Ya,Zk,Zm,Ye,hN] <;> rfl) hy5).then ?_
   refine eR Zk Zm ?_
   refine zD [6,7] [false,false,true,true] ?_
   refine zW ?_
   obtain rfl:=sI Jx
   refine And.intro rfl (Fit2.of (Xy hU rfl rfl ?_) (by omega))
   exact Qx Zk Zm
  replace Jx:=Yl c9 Jx
  refine yJ [0,4,5,6,7,53] (Yv Yd [none,none,none,none,none,none,none,none] ?_)
  refine eR Zk Zm ?_
  refine zG ?_
  refine Yj (t:=(cond (cond (a1.Kind == 3) (a2.Kind == 3) false) (a1.List_ == a2.List_) false)) rfl (fun c8 => ?_) (fun c8 => ?_)
  ·replace Jx:=Ym c8 Jx
   refine Z7 ?_
   obtain ⟨y7,hy7,Jx⟩:=bC Jx
   refine Kc [] Zk Zm ?_
   refine (Gd (Zr:=Zr) (by omega) (by simp only [push_cast,seval,Zc,Ya,Zk,Zm,Ye,hN] <;> rfl) hy7).then ?_
   refine eR Zk Zm ?_
   refine zD [6,7] [false,false,true,true] ?_
   refine zW ?_
   obtain rfl:=sI Jx
   refine And.intro rfl (Fit2.of (Xy hU rfl rfl ?_) (by omega))
   exact Qx Zk Zm
  replace Jx:=Yl c8 Jx
  refine Kc [] Zk Zm ?_
  obtain rfl:=sI Jx
  refine And.intro rfl (Fit2.of (Xy hU rfl rfl ?_) (by omega))
  exact Qx Zk Zm
 rcases z1 with z1 | z1
 ·dsimp only [Kh] at hw h
  refine Qf hw ?_
  refine Z7 ?_
  refine Kc [] Zk Zm ?_
  refine zD [6,7] [false,false,true,true] ?_
  refine zW ?_
  obtain rfl:=sI h
  refine Jl (k:=0) (i:=Zr) (q1:=⟨false,43,2,1,[(vB z1.1),(vB z1.2)]⟩) (L3:=[some ⟨false,30,11,1,[(vI 0),(vI 0),nV,nV,(vI 0),nV,nV,nV,nV,(vI 0),nV]⟩,some ⟨false,30,11,1,[(vI 0),(vI 0),nV,nV,(vI 0),nV,nV,nV,nV,(vI 0),nV]⟩,none]) (E2:=(⟨77,[],[(6,.ref n 0),(7,.ref (n+1) 0)]⟩:Env)) (n3:=(n+3)) (.inr rfl) hU rfl [.agg [(vI 0),(vI 0),nV,nV,(vI 0),nV,nV,nV,nV,(vI 0),nV],.agg [(vI 0),(vI 0),nV,nV,(vI 0),nV,nV,nV,nV,(vI 0),nV]] ?_ ?_
  ·refine uS (k:=4) (k':=3) hU [2,2,0,1] [2,3,0] (lT Zk) ?_ ?_
   ·exact Qx Zk Zm
   exact Qx Zk Zm
  simp only [push_cast,seval,Zc,Try.results13,Zk,Zm,Ye,hN]
 dsimp only [Kh] at hw h
 refine Z5j hw ?_
 try simp only [Qj,Xr]
 obtain rfl:=sI h
 refine Jl (k:=0) (i:=Zr) (q1:=⟨false,43,2,1,[(vB z1.2.2.2.2.2.2.2.2.2.2.2.2.2.2.2.2.2.2.2.2.2.2.1),(vB z1.2.2.2.2.2.2.2.2.2.2.2.2.2.2.2.2.2.2.2.2.2.2.2)]⟩) (L3:=[some ⟨false,30,11,1,[(vI z1.1),(vI z1.2.1),(sL (eI .u64) z1.2.2.1),(sL Za z1.2.2.2.1),(vI z1.2.2.2.2.1),(sL (eI .u64) z1.2.2.2.2.2.1),(sL Za z1.2.2.2.2.2.2.1),(sL Zf z1.2.2.2.2.2.2.2.1),(sL Ze z1.2.2.2.2.2.2.2.2.1),(vI z1.2.2.2.2.2.2.2.2.2.1),(sL Zh z1.2.2.2.2.2.2.2.2.2.2.1)]⟩,some ⟨false,30,11,1,[(vI z1.2.2.2.2.2.2.2.2.2.2.2.1),(vI z1.2.2.2.2.2.2.2.2.2.2.2.2.1),(sL (eI .u64) z1.2.2.2.2.2.2.2.2.2.2.2.2.2.1),(sL Za z1.2.2.2.2.2.2.2.2.2.2.2.2.2.2.1),(vI z1.2.2.2.2.2.2.2.2.2.2.2.2.2.2.2.1),(sL (eI .u64) z1.2.2.2.2.2.2.2.2.2.2.2.2.2.2.2.2.1),(sL Za z1.2.2.2.2.2.2.2.2.2.2.2.2.2.2.2.2.2.1),(sL Zf z1.2.2.2.2.2.2.2.2.2.2.2.2.2.2.2.2.2.2.1),(sL Ze z1.2.2.2.2.2.2.2.2.2.2.2.2.2.2.2.2.2.2.2.1),(vI z1.2.2.2.2.2.2.2.2.2.2.2.2.2.2.2.2.2.2.2.2.1),(sL Zh z1.2.2.2.2.2.2.2.2.2.2.2.2.2.2.2.2.2.2.2.2.2.1)]⟩,none]) (E2:=(⟨77,[],[(6,.ref n 0),(7,.ref (n+1) 0)]⟩:Env)) (n3:=(n+3)) (.inr rfl) hU rfl [.agg [(vI z1.1),(vI z1.2.1),(sL (eI .u64) z1.2.2.1),(sL Za z1.2.2.2.1),(vI z1.2.2.2.2.1),(sL (eI .u64) z1.2.2.2.2.2.1),(sL Za z1.2.2.2.2.2.2.1),(sL Zf z1.2.2.2.2.2.2.2.1),(sL Ze z1.2.2.2.2.2.2.2.2.1),(vI z1.2.2.2.2.2.2.2.2.2.1),(sL Zh z1.2.2.2.2.2.2.2.2.2.2.1)],.agg [(vI z1.2.2.2.2.2.2.2.2.2.2.2.1),(vI z1.2.2.2.2.2.2.2.2.2.2.2.2.1),(sL (eI .u64) z1.2.2.2.2.2.2.2.2.2.2.2.2.2.1),(sL Za z1.2.2.2.2.2.2.2.2.2.2.2.2.2.2.1),(vI z1.2.2.2.2.2.2.2.2.2.2.2.2.2.2.2.1),(sL (eI .u64) z1.2.2.2.2.2.2.2.2.2.2.2.2.2.2.2.2.1),(sL Za z1.2.2.2.2.2.2.2.2.2.2.2.2.2.2.2.2.2.1),(sL Zf z1.2.2.2.2.2.2.2.2.2.2.2.2.2.2.2.2.2.2.1),(sL Ze z1.2.2.2.2.2.2.2.2.2.2.2.2.2.2.2.2.2.2.2.1),(vI z1.2.2.2.2.2.2.2.2.2.2.2.2.2.2.2.2.2.2.2.2.1),(sL Zh z1.2.2.2.2.2.2.2.2.2.2.2.2.2.2.2.2.2.2.2.2.2.1)]] ?_ ?_
 ·refine uS (k:=4) (k':=3) hU [2,2,0,1] [2,3,0] (lT Zk) ?_ ?_
  ·exact Qx Zk Zm
  exact Qx Zk Zm
 simp only [push_cast,seval,Zc,Try.results13,Zk,Zm,Ye,hN]
theorem iT {Xa:(Zd→Zd→Zg→Option (Zd×Zd×Zg))} {Y6:(Zd→Zd→Zg→Option (Zd×Zd×Zg))} {Xf:(Zd→Zd→Zg→Option (Zd×Zd×Zg))} {Xh:(Zi→Zi→(List Zq)→(List Zq)→Zg→Option (Zi×Zi×Zg))} {Xd:(Zi→Zi→Zo→Zo→Zg→Option (Zi×Zi×Zg))} (Jc:Vw Xa) (Vy:K0 Y6) (Gd:Vg Xf) (Gp:Vv Xh) (Gn:Vu Xd) {a1:Zd} {a2:Zd} {Yy:Zg} {r:(Zd×Zd×Zg)} {O:Objs} {n:Nat} {Zr:Nat} (Zk:Zr < n) (Ks:O Zr=some ⟨false,43,2,1,[(vB Yy.apart),(vB Yy.clash)]⟩) (h:K1 Xa Y6 Xf Xh Xd a1 a2 Yy=some r):GTo Try.prog 26 [.ref Zr 0,.agg (Zl a1),.agg (Zl a2)] O n (.tup [.agg (Zl r.1),.agg (Zl r.2.1)]) (Yn (O.upd Zr (some ⟨false,43,2,1,[(vB r.2.2.apart),(vB r.2.2.clash)]⟩)) n []) (n+0):=by
 unfold K1 at h
 refine vX Yd Try.call26 Try.func26 rfl (Nat.le_of_ble_eq_true rfl) (by omega) fun hU => ?_
 rw [show Yn O n []=Yn (O.upd Zr (some ⟨false,43,2,1,[(vB Yy.apart),(vB Yy.clash)]⟩)) n [] from by rw [Qw (show O Zr=_ from by exact Ks)]]
 have Zm:∀ k,Zr < n+k:=fun k=>by omega
 have Ye:∀ o,Objs.upd O Zr o n=none:=fun o=>Xb hU Zk _ (Nat.le_refl _)
 have hN:∀ o k,Objs.upd O Zr o (n+k)=none:=fun o k=>Xb hU Zk _ (Nat.le_add_right _ _)
 show W _ _ _ _ ⟨40,[],[(0,.ref Zr 0),(1,.agg (Zl a1)),(2,.agg (Zl a2))]⟩ (Yn (O.upd Zr (some ⟨false,43,2,1,[(vB Yy.apart),(vB Yy.clash)]⟩)) n []) _
 refine fZ [0,4,5,6,7] Zk Zm ?_
 obtain ⟨y25,Zku,h⟩:=bC h
 obtain ⟨y61,Zzv,h⟩:=bC h
 refine Qf (E':=⟨40,[],[(0,.ref Zr 0),(4,.ref n 0),(5,.ref (n+1) 0),(6,.ref (n+2) 0),(7,.ref (n+3) 0),(8,.ref (n+4) 0),(9,.ref (n+9) 0)]⟩) (O':=(Yn (O.upd Zr (some ⟨false,43,2,1,[(vB Yy.apart),(vB Yy.clash)]⟩)) n [some ⟨false,30,11,1,(Zl a1)⟩,some ⟨false,30,11,1,(Zl a2)⟩,some ⟨false,30,11,1,[(vI 0),(vI 0),nV,nV,(vI 0),nV,nV,nV,nV,(vI 0),nV]⟩,some ⟨false,30,11,1,[(vI 0),(vI 0),nV,nV,(vI 0),nV,nV,nV,nV,(vI 0),nV]⟩,some ⟨false,85,13,1,(Zj (.ref Zr 0) (.row (n+5) y25.left.Words.length) (.row (n+6) y25.left.Kids.length) (.row (n+7) y25.left.Ops.length) (.row (n+8) y25.come.length) y25)⟩,some (oR 48 4 Zf y25.left.Words),some (oR 50 12 Ze y25.left.Kids),some (oR 41 14 Zh y25.left.Ops),some (oR 25 3 Za y25.come),some ⟨false,85,13,1,(Zj (.ref Zr 0) (.row (n+10) y61.left.Words.length) (.row (n+11) y61.left.Kids.length) (.row (n+12) y61.left.Ops.length) (.row (n+13) y61.come.length) y61)⟩,some (oR 48 4 Zf y61.left.Words),some (oR 50 12 Ze y61.left.Kids),some (oR 41 14 Zh y61.left.Ops),some (oR 25 3 Za y61.come)])) (n0:=(n+14)) ?_ ?_
 ·refine Zed Yd (by kernel_rfl) [.plain,.low,.pass,.plain,.low,.pass,.plain,.plain] (fun i=>i < (n+4)) [0,1,3,4] [2,5] [6,7] (.seq [2,5]) [.plain,.low,.plain,.low] [] (by kernel_rfl) rfl ?_
  refine eR Zk Zm ?_
  repeat (with_reducible refine And.intro (by omega) ?_)
  try simp only [push_cast,seval,Zc,Zk,Zm,Ye,hN]
  repeat (with_reducible refine And.intro (by first | exact Yi rfl | exact Yc) ?_)
  refine (vA (Zr:=Zr) (by omega) Zku).then ?_
  try simp only [push_cast,seval,Zc,Zk,Zm,Ye,hN]
  repeat (with_reducible refine And.intro (by first | exact Yi rfl | exact Yc) ?_)
  refine (vA (Zr:=Zr) (by omega) Zzv).then ?_
  try simp only [push_cast,seval,Zc,Zk,Zm,Ye,hN]
  repeat (with_reducible refine And.intro (by first | exact Yi rfl | exact Yc) ?_)
  refine And.intro rfl (Fit2.of (Xy hU rfl rfl ?_) (by omega))
  exact Qx Zk Zm
 refine Z7 ?_
 obtain ⟨y98,Ydq,h⟩:=bC h
 refine Kc [] Zk Zm ?_
 refine (kH (i0:=(n+4)) (Zr:=Zr) (Yt:=(n+5)) (Y1:=(n+6)) (Y2:=(n+7)) (Xz:=(n+8)) (by omega) (by omega) (by omega) (by omega) (by omega) (by omega) (by omega) (by omega) (by omega) (by omega) (by omega) (by omega) (by omega) (by omega) (by omega) (by omega) (by omega) (by omega) (by omega) (by omega) (by omega) (by simp only [push_cast,seval,Zc,Ya,Zk,Zm,Ye,hN] <;> rfl) (by simp only [push_cast,seval,Zc,Ya,Zk,Zm,Ye,hN] <;> rfl) (by simp only [push_cast,seval,Zc,Ya,Zk,Zm,Ye,hN] <;> rfl) (by simp only [push_cast,seval,Zc,Ya,Zk,Zm,Ye,hN] <;> rfl) (by simp only [push_cast,seval,Zc,Ya,Zk,Zm,Ye,hN] <;> rfl) (by simp only [push_cast,seval,Zc,Ya,Zk,Zm,Ye,hN] <;> rfl) Ydq).then ?_
 refine eR Zk Zm ?_
 refine lO [0,4,5,6,7,8,9] [true,true,true,true,true,false,false,false,false,true,true,true,true,true,true,true,true,true] ?_
 obtain ⟨Z7d,Z9m,h⟩:=bC h
 refine Kc [] Zk Zm ?_
 refine (kH (i0:=(n+9)) (Zr:=Zr) (Yt:=(n+10)) (Y1:=(n+11)) (Y2:=(n+12)) (Xz:=(n+13)) (by omega) (by omega) (by omega) (by omega) (by omega) (by omega) (by omega) (by omega) (by omega) (by omega) (by omega) (by omega) (by omega) (by omega) (by omega) (by omega) (by omega) (by omega) (by omega) (by omega) (by omega) (by simp only [push_cast,seval,Zc,Ya,Zk,Zm,Ye,hN] <;> rfl) (by simp only [push_cast,seval,Zc,Ya,Zk,Zm,Ye,hN] <;> rfl) (by simp only [push_cast,seval,Zc,Ya,Zk,Zm,Ye,hN] <;> rfl) (by simp only [push_cast,seval,Zc,Ya,Zk,Zm,Ye,hN] <;> rfl) (by simp only [push_cast,seval,Zc,Ya,Zk,Zm,Ye,hN] <;> rfl) (by simp only [push_cast,seval,Zc,Ya,Zk,Zm,Ye,hN] <;> rfl) Z9m).then ?_
 refine eR Zk Zm ?_
 refine lO [0,4,5,6,7,8,9] [true,true,true,true,true,false,false,false,false,true,false,false,false,false,true,true,true,true,true,true,true,true] ?_
 obtain ⟨uJ,Z9n,h⟩:=bC h
 refine Kc [] Zk Zm ?_
 refine (Gp (i1:=(n+4)) (i2:=(n+9)) (Zr:=Zr) (Q4:=(n+14)) (Q5:=(n+15)) (Q6:=(n+16)) (Q7:=(n+17)) (Q8:=(n+18)) (Q9:=(n+19)) (Ja:=(n+20)) (Jb:=(n+21)) (by omega) (by omega) (by omega) (by omega) (by omega) (by omega) (by omega) (by omega) (by omega) (by omega) (by omega) (by omega) (by omega) (by omega) (by omega) (by omega) (by omega) (by omega) (by omega) (by omega) (by omega) (by omega) (by omega) (by omega) (by omega) (by omega) (by omega) (by omega) (by omega) (by omega) (by omega) (by omega) (by omega) (by omega) (by omega) (by omega) (by omega) (by omega) (by omega) (by omega) (by omega) (by omega) (by omega) (by omega) (by omega) (by omega) (by omega) (by omega) (by omega) (by omega) (by omega) (by omega) (by omega) (by omega) (by omega) (by omega) (by omega) (by omega) (by omega) (by omega) (by omega) (by omega) (by omega) (by omega) (by omega) (by omega) (by simp only [push_cast,seval,Zc,Ya,Zk,Zm,Ye,hN] <;> rfl) (by simp only [push_cast,seval,Zc,Ya,Zk,Zm,Ye,hN] <;> rfl) (by simp only [push_cast,seval,Zc,Ya,Zk,Zm,Ye,hN] <;> rfl) (by simp only [push_cast,seval,Zc,Ya,Zk,Zm,Ye,hN] <;> rfl) (by simp only [push_cast,seval,Zc,Ya,Zk,Zm,Ye,hN] <;> rfl) (by simp only [push_cast,seval,Zc,Ya,Zk,Zm,Ye,hN] <;> rfl) (by simp only [push_cast,seval,Zc,Ya,Zk,Zm,Ye,hN] <;> rfl) (by simp only [push_cast,seval,Zc,Ya,Zk,Zm,Ye,hN] <;> rfl) (by simp only [push_cast,seval,Zc,Ya,Zk,Zm,Ye,hN] <;> rfl) (by simp only [push_cast,seval,Zc,Ya,Zk,Zm,Ye,hN] <;> rfl) (by simp only [push_cast,seval,Zc,Ya,Zk,Zm,Ye,hN] <;> rfl) Z9n).then ?_
 refine eR Zk Zm ?_
 refine zD [6,7,8,9] [false,false,true,true,true,false,false,false,false,true,false,false,false,false,false,false,false,false,false,false,false,false,true,true,true,true,true,true,true,true] ?_
 refine lB ⟨40,[],[(6,.ref (n+2) 0),(7,.ref (n+3) 0),(8,.ref (n+4) 0),(9,.ref (n+9) 0)]⟩ (Yn (O.upd Zr (some ⟨false,43,2,1,[(vB uJ.2.2.apart),(vB uJ.2.2.clash)]⟩)) n [none,none,some ⟨false,30,11,1,[(vI 0),(vI 0),nV,nV,(vI 0),nV,nV,nV,nV,(vI 0),nV]⟩,some ⟨false,30,11,1,[(vI 0),(vI 0),nV,nV,(vI 0),nV,nV,nV,nV,(vI 0),nV]⟩,some ⟨false,85,13,1,(Zj (.ref Zr 0) ((sL Zf uJ.1.left.Words)) ((sL Ze uJ.1.left.Kids)) ((sL Zh uJ.1.left.Ops)) ((sL Za uJ.1.come)) uJ.1)⟩,none,none,none,none,some ⟨false,85,13,1,(Zj (.ref Zr 0) (.row (n+26) uJ.2.1.left.Words.length) (.row (n+27) uJ.2.1.left.Kids.length) (.row (n+28) uJ.2.1.left.Ops.length) (.row (n+29) uJ.2.1.come.length) uJ.2.1)⟩,none,none,none,none,none,none,none,none,none,none,none,none,none,none,none,none,some (oR 48 4 Zf uJ.2.1.left.Words),some (oR 50 12 Ze uJ.2.1.left.Kids),some (oR 41 14 Zh uJ.2.1.left.Ops),some (oR 25 3 Za uJ.2.1.come)]) (Xy hU rfl rfl ?_) ?_
 ·exact Qx Zk Zm
 refine lB ⟨40,[],[(6,.ref (n+2) 0),(7,.ref (n+3) 0),(8,.ref (n+4) 0),(9,.ref (n+9) 0)]⟩ (Yn (O.upd Zr (some ⟨false,43,2,1,[(vB uJ.2.2.apart),(vB uJ.2.2.clash)]⟩)) n [none,none,some ⟨false,30,11,1,[(vI 0),(vI 0),nV,nV,(vI 0),nV,nV,nV,nV,(vI 0),nV]⟩,some ⟨false,30,11,1,[(vI 0),(vI 0),nV,nV,(vI 0),nV,nV,nV,nV,(vI 0),nV]⟩,some ⟨false,85,13,1,(Zj (.ref Zr 0) ((sL Zf uJ.1.left.Words)) ((sL Ze uJ.1.left.Kids)) ((sL Zh uJ.1.left.Ops)) ((sL Za uJ.1.come)) uJ.1)⟩,none,none,none,none,some ⟨false,85,13,1,(Zj (.ref Zr 0) ((sL Zf uJ.2.1.left.Words)) ((sL Ze uJ.2.1.left.Kids)) ((sL Zh uJ.2.1.left.Ops)) ((sL Za uJ.2.1.come)) uJ.2.1)⟩,none,none,none,none,none,none,none,none,none,none,none,none,none,none,none,none,none,none,none,none]) (Xy hU rfl rfl ?_) ?_
 ·exact Qx Zk Zm
 refine Z7 ?_
 obtain ⟨Zm8,Zzt,h⟩:=bC h
 obtain ⟨Zuv,Z9p,h⟩:=bC h
 refine Kc [] Zk Zm ?_
 refine (fV (i0:=(n+4)) (Zr:=Zr) (by omega) (by omega) (by omega) (by simp only [push_cast,seval,Zc,Ya,Zk,Zm,Ye,hN] <;> rfl) (by simp only [push_cast,seval,Zc,Ya,Zk,Zm,Ye,hN] <;> rfl) Zzt).then ?_
 refine eR Zk Zm ?_
 refine (fV (i0:=(n+9)) (Zr:=Zr) (by omega) (by omega) (by omega) (by simp only [push_cast,seval,Zc,Ya,Zk,Zm,Ye,hN] <;> rfl) (by simp only [push_cast,seval,Zc,Ya,Zk,Zm,Ye,hN] <;> rfl) Z9p).then ?_
 refine eR Zk Zm ?_
 refine zD [6,7] [false,false,true,true,false,false,false,false,false,false,false,false,false,false,false,false,false,false,false,false,false,false,false,false,false,false,false,false,false,false] ?_
 refine zW ?_
 obtain rfl:=sI h
 refine Jl (k:=0) (i:=Zr) (q1:=⟨false,43,2,1,[(vB Zuv.2.2.apart),(vB Zuv.2.2.clash)]⟩) (L3:=[some ⟨false,30,11,1,(Zl Zm8.1)⟩,some ⟨false,30,11,1,(Zl Zuv.1)⟩,none]) (E2:=(⟨40,[],[(6,.ref n 0),(7,.ref (n+1) 0)]⟩:Env)) (n3:=(n+3)) (.inr rfl) hU rfl [.agg (Zl Zm8.1),.agg (Zl Zuv.1)] ?_ ?_
 ·refine uS (k:=30) (k':=3) hU [2,2,0,1,2,2,2,2,2,2,2,2,2,2,2,2,2,2,2,2,2,2,2,2,2,2,2,2,2,2] [2,3,0] (lT Zk) ?_ ?_
  ·exact Qx Zk Zm
  exact Qx Zk Zm
 simp only [push_cast,seval,Zc,Try.results26,Zk,Zm,Ye,hN]
theorem xO {Xa:(Zd→Zd→Zg→Option (Zd×Zd×Zg))} {Y6:(Zd→Zd→Zg→Option (Zd×Zd×Zg))} {Xf:(Zd→Zd→Zg→Option (Zd×Zd×Zg))} {Xh:(Zi→Zi→(List Zq)→(List Zq)→Zg→Option (Zi×Zi×Zg))} {Xd:(Zi→Zi→Zo→Zo→Zg→Option (Zi×Zi×Zg))} (Jc:Vw Xa) (Vy:K0 Y6) (Gd:Vg Xf) (Gp:Vv Xh) (Gn:Vu Xd) {a1:Zd} {a2:Zd} {Yy:Zg} {r:(Zd×Zd×Zg)} {O:Objs} {n:Nat} {Zr:Nat} (Zk:Zr < n) (Ks:O Zr=some ⟨false,43,2,1,[(vB Yy.apart),(vB Yy.clash)]⟩) (h:Jd Xa Y6 Xf Xh Xd a1 a2 Yy=some r):GTo Try.prog 27 [.ref Zr 0,.agg (Zl a1),.agg (Zl a2)] O n (.tup [.agg (Zl r.1),.agg (Zl r.2.1)]) (Yn (O.upd Zr (some ⟨false,43,2,1,[(vB r.2.2.apart),(vB r.2.2.clash)]⟩)) n []) (n+0):=by
 unfold Jd at h
 refine vX Yd Try.call27 Try.func27 rfl (Nat.le_of_ble_eq_true rfl) (by omega) fun hU => ?_
 rw [show Yn O n []=Yn (O.upd Zr (some ⟨false,43,2,1,[(vB Yy.apart),(vB Yy.clash)]⟩)) n [] from by rw [Qw (show O Zr=_ from by exact Ks)]]
 have Zm:∀ k,Zr < n+k:=fun k=>by omega
 have Ye:∀ o,Objs.upd O Zr o n=none:=fun o=>Xb hU Zk _ (Nat.le_refl _)
 have hN:∀ o k,Objs.upd O Zr o (n+k)=none:=fun o k=>Xb hU Zk _ (Nat.le_add_right _ _)
 show W _ _ _ _ ⟨96,[],[(0,.ref Zr 0),(1,.agg (Zl a1)),(2,.agg (Zl a2))]⟩ (Yn (O.upd Zr (some ⟨false,43,2,1,[(vB Yy.apart),(vB Yy.clash)]⟩)) n []) _
 refine fZ [0,4,5,6,7] Zk Zm ?_
 refine Z7 ?_
 obtain ⟨y2,kE,h⟩:=bC h
 refine Kc [] Zk Zm ?_
 refine (Zh1 kE).then ?_
 refine eR Zk Zm ?_
 refine lO [0,4,5,6,7,8,9] [true,true,true,true] ?_
 refine Kc [none,none] Zk Zm ?_
 refine zG ?_
 refine zD [0,4,5,6,7,8] [true,true,true,true] ?_
 obtain ⟨y27,Z6r,h⟩:=bC h
 obtain ⟨y63,Ydp,h⟩:=bC h
 refine Qf (E':=⟨96,[],[(0,.ref Zr 0),(6,.ref (n+2) 0),(7,.ref (n+3) 0),(8,(sL Xm y2.1)),(10,.ref (n+4) 0),(11,.ref (n+9) 0)]⟩) (O':=(Yn (O.upd Zr (some ⟨false,43,2,1,[(vB (cond Yy.apart true (!y2.2))),(vB Yy.clash)]⟩)) n [none,none,some ⟨false,30,11,1,[(vI 0),(vI 0),nV,nV,(vI 0),nV,nV,nV,nV,(vI 0),nV]⟩,some ⟨false,30,11,1,[(vI 0),(vI 0),nV,nV,(vI 0),nV,nV,nV,nV,(vI 0),nV]⟩,some ⟨false,85,13,1,(Zj (.ref Zr 0) (.row (n+5) y27.left.Words.length) (.row (n+6) y27.left.Kids.length) (.row (n+7) y27.left.Ops.length) (.row (n+8) y27.come.length) y27)⟩,some (oR 48 4 Zf y27.left.Words),some (oR 50 12 Ze y27.left.Kids),some (oR 41 14 Zh y27.left.Ops),some (oR 25 3 Za y27.come),some ⟨false,85,13,1,(Zj (.ref Zr 0) (.row (n+10) y63.left.Words.length) (.row (n+11) y63.left.Kids.length) (.row (n+12) y63.left.Ops.length) (.row (n+13) y63.come.length) y63)⟩,some (oR 48 4 Zf y63.left.Words),some (oR 50 12 Ze y63.left.Kids),some (oR 41 14 Zh y63.left.Ops),some (oR 25 3 Za y63.come)])) (n0:=(n+14)) ?_ ?_
 ·refine Zed Yd (by kernel_rfl) [.plain,.low,.pass,.plain,.low,.pass,.plain,.plain] (fun i=>i < (n+4)) [0,1,3,4] [2,5] [6,7] (.seq [2,5]) [.plain,.low,.plain,.low] [] (by kernel_rfl) rfl ?_
  refine eR Zk Zm ?_
  repeat (with_reducible refine And.intro (by omega) ?_)
  try simp only [push_cast,seval,Zc,Zk,Zm,Ye,hN]
  repeat (with_reducible refine And.intro (by first | exact Yi rfl | exact Yc) ?_)
  refine (vA (Zr:=Zr) (by omega) Z6r).then ?_
  try simp only [push_cast,seval,Zc,Zk,Zm,Ye,hN]
  repeat (with_reducible refine And.intro (by first | exact Yi rfl | exact Yc) ?_)
  refine (vA (Zr:=Zr) (by omega) Ydp).then ?_
  try simp only [push_cast,seval,Zc,Zk,Zm,Ye,hN]
  repeat (with_reducible refine And.intro (by first | exact Yi rfl | exact Yc) ?_)
  refine And.intro rfl (Fit2.of (Xy hU rfl rfl ?_) (by omega))
  exact Qx Zk Zm
 refine Z7 ?_
 refine fZ [0,6,7,10,11,39,40,41] Zk Zm ?_
 refine zD [0,6,7,10,11,39,40,41] [false,false,true,true,true,true,true,true,true,true,true,true,true,true] ?_
 refine Xi (E':=(⟨96,[],[(0,.ref Zr 0),(6,.ref (n+2) 0),(7,.ref (n+3) 0),(10,.ref (n+4) 0),(11,.ref (n+9) 0),(39,(sL Xm y2.1)),(40,(vI (y2.1.length:Int))),(41,(vI 0))]⟩:Env)) (O':=(Yn (O.upd Zr (some ⟨false,43,2,1,[(vB (cond Yy.apart true (!y2.2))),(vB Yy.clash)]⟩)) n [none,none,some ⟨false,30,11,1,[(vI 0),(vI 0),nV,nV,(vI 0),nV,nV,nV,nV,(vI 0),nV]⟩,some ⟨false,30,11,1,[(vI 0),(vI 0),nV,nV,(vI 0),nV,nV,nV,nV,(vI 0),nV]⟩,some ⟨false,85,13,1,(Zj (.ref Zr 0) (.row (n+14) y27.left.Words.length) (.row (n+15) y27.left.Kids.length) (.row (n+16) y27.left.Ops.length) (.row (n+17) y27.come.length) y27)⟩,none,none,none,none,some ⟨false,85,13,1,(Zj (.ref Zr 0) (.row (n+18) y63.left.Words.length) (.row (n+19) y63.left.Kids.length) (.row (n+20) y63.left.Ops.length) (.row (n+21) y63.come.length) y63)⟩,none,none,none,none,some (oR 48 4 Zf y27.left.Words),some (oR 50 12 Ze y27.left.Kids),some (oR 41 14 Zh y27.left.Ops),some (oR 25 3 Za y27.come),some (oR 48 4 Zf y63.left.Words),some (oR 50 12 Ze y63.left.Kids),some (oR 41 14 Zh y63.left.Ops),some (oR 25 3 Za y63.come),none])) (n':=(n+23)) ?_ ?_
 ·refine uS (k:=14) (k':=23) hU [22,22,2,3,4,14,15,16,17,9,18,19,20,21] [0,0,2,3,4,0,0,0,0,9,0,0,0,0,5,6,7,8,10,11,12,13,0] (lT Zk) ?_ ?_
  ·exact Qx Zk Zm
  exact Qx Zk Zm
 obtain ⟨Vz,Z95,h⟩:=bC h
 refine X7 (E':=⟨96,[],[(0,.ref Zr 0),(6,.ref (n+2) 0),(7,.ref (n+3) 0),(10,.ref (n+4) 0),(11,.ref (n+9) 0)]⟩) (O':=(Yn (O.upd Zr (some ⟨false,43,2,1,[(vB Vz.2.2.2.2.2.2.2.2.2.2.1),(vB Vz.2.2.2.2.2.2.2.2.2.2.2)]⟩)) n [none,none,some ⟨false,30,11,1,[(vI 0),(vI 0),nV,nV,(vI 0),nV,nV,nV,nV,(vI 0),nV]⟩,some ⟨false,30,11,1,[(vI 0),(vI 0),nV,nV,(vI 0),nV,nV,nV,nV,(vI 0),nV]⟩,some ⟨false,85,13,1,(Zj (.ref Zr 0) (.row (n+14) Vz.2.2.1.length) (.row (n+15) Vz.2.2.2.1.length) (.row (n+16) Vz.2.2.2.2.1.length) (.row (n+17) Vz.2.2.2.2.2.1.length) Vz.1)⟩,none,none,none,none,some ⟨false,85,13,1,(Zj (.ref Zr 0) (.row (n+18) Vz.2.2.2.2.2.2.1.length) (.row (n+19) Vz.2.2.2.2.2.2.2.1.length) (.row (n+20) Vz.2.2.2.2.2.2.2.2.1.length) (.row (n+21) Vz.2.2.2.2.2.2.2.2.2.1.length) Vz.2.1)⟩,none,none,none,none,some (oR 48 4 Zf Vz.2.2.1),some (oR 50 12 Ze Vz.2.2.2.1),some (oR 41 14 Zh Vz.2.2.2.2.1),some (oR 25 3 Za Vz.2.2.2.2.2.1),some (oR 48 4 Zf Vz.2.2.2.2.2.2.1),some (oR 50 12 Ze Vz.2.2.2.2.2.2.2.1),some (oR 41 14 Zh Vz.2.2.2.2.2.2.2.2.1),some (oR 25 3 Za Vz.2.2.2.2.2.2.2.2.2.1),none])) (n0:=(n+23)) ?_ ?_
 ·refine Qy Z95 (fun Yf=>⟨96,[],[(0,.ref Zr 0),(6,.ref (n+2) 0),(7,.ref (n+3) 0),(10,.ref (n+4) 0),(11,.ref (n+9) 0),(39,(sL Xm y2.1)),(40,(vI (y2.1.length:Int))),(41,(vI Yf.1))]⟩) (fun Yf=>(Yn (O.upd Zr (some ⟨false,43,2,1,[(vB Yf.2.2.2.1),(vB Yf.2.2.2.2)]⟩)) n [none,none,some ⟨false,30,11,1,[(vI 0),(vI 0),nV,nV,(vI 0),nV,nV,nV,nV,(vI 0),nV]⟩,some ⟨false,30,11,1,[(vI 0),(vI 0),nV,nV,(vI 0),nV,nV,nV,nV,(vI 0),nV]⟩,some ⟨false,85,13,1,(Zj (.ref Zr 0) (.row (n+14) Yf.2.1.left.Words.length) (.row (n+15) Yf.2.1.left.Kids.length) (.row (n+16) Yf.2.1.left.Ops.length) (.row (n+17) Yf.2.1.come.length) Yf.2.1)⟩,none,none,none,none,some ⟨false,85,13,1,(Zj (.ref Zr 0) (.row (n+18) Yf.2.2.1.left.Words.length) (.row (n+19) Yf.2.2.1.left.Kids.length) (.row (n+20) Yf.2.2.1.left.Ops.length) (.row (n+21) Yf.2.2.1.come.length) Yf.2.2.1)⟩,none,none,none,none,some (oR 48 4 Zf Yf.2.1.left.Words),some (oR 50 12 Ze Yf.2.1.left.Kids),some (oR 41 14 Zh Yf.2.1.left.Ops),some (oR 25 3 Za Yf.2.1.come),some (oR 48 4 Zf Yf.2.2.1.left.Words),some (oR 50 12 Ze Yf.2.2.1.left.Kids),some (oR 41 14 Zh Yf.2.2.1.left.Ops),some (oR 25 3 Za Yf.2.2.1.come),none])) (fun Vz=>JX 0 n (⟨96,[],[(0,.ref Zr 0),(6,.ref (n+2) 0),(7,.ref (n+3) 0),(10,.ref (n+4) 0),(11,.ref (n+9) 0)]⟩:Env) (Yn (O.upd Zr (some ⟨false,43,2,1,[(vB Vz.2.2.2.2.2.2.2.2.2.2.1),(vB Vz.2.2.2.2.2.2.2.2.2.2.2)]⟩)) n [none,none,some ⟨false,30,11,1,[(vI 0),(vI 0),nV,nV,(vI 0),nV,nV,nV,nV,(vI 0),nV]⟩,some ⟨false,30,11,1,[(vI 0),(vI 0),nV,nV,(vI 0),nV,nV,nV,nV,(vI 0),nV]⟩,some ⟨false,85,13,1,(Zj (.ref Zr 0) (.row (n+14) Vz.2.2.1.length) (.row (n+15) Vz.2.2.2.1.length) (.row (n+16) Vz.2.2.2.2.1.length) (.row (n+17) Vz.2.2.2.2.2.1.length) Vz.1)⟩,none,none,none,none,some ⟨false,85,13,1,(Zj (.ref Zr 0) (.row (n+18) Vz.2.2.2.2.2.2.1.length) (.row (n+19) Vz.2.2.2.2.2.2.2.1.length) (.row (n+20) Vz.2.2.2.2.2.2.2.2.1.length) (.row (n+21) Vz.2.2.2.2.2.2.2.2.2.1.length) Vz.2.1)⟩,none,none,none,none,some (oR 48 4 Zf Vz.2.2.1),some (oR 50 12 Ze Vz.2.2.2.1),some (oR 41 14 Zh Vz.2.2.2.2.1),some (oR 25 3 Za Vz.2.2.2.2.2.1),some (oR 48 4 Zf Vz.2.2.2.2.2.2.1),some (oR 50 12 Ze Vz.2.2.2.2.2.2.2.1),some (oR 41 14 Zh Vz.2.2.2.2.2.2.2.2.1),some (oR 25 3 Za Vz.2.2.2.2.2.2.2.2.2.1),none]) (n+23)) ?_
  intro Yf x0_ Zu
  unfold Xx at Zu
  try dsimp only
  refine fZ [0,6,7,10,11,39,40,41,42] Zk Zm ?_
  refine Z7 ?_
  refine Yj (t:=(decide (Yf.1 < (y2.1.length:Int)))) rfl (fun Z5w => ?_) (fun Z5w => ?_)
  ·replace Zu:=Ym Z5w Zu
   refine uZ [0,6,7,10,11,39,40,41] [false,false,true,true,true,false,false,false,false,true,false,false,false,false,true,true,true,true,true,true,true,true,false] ?_
   obtain ⟨z99,xF,Zu⟩:=bC Zu
   refine Qf (E':=⟨96,[],[(0,.ref Zr 0),(6,.ref (n+2) 0),(7,.ref (n+3) 0),(10,.ref (n+4) 0),(11,.ref (n+9) 0),(39,(sL Xm y2.1)),(40,(vI (y2.1.length:Int))),(41,(vI Yf.1))]⟩) (O':=(Yn (O.upd Zr (some ⟨false,43,2,1,[(vB z99.2.2.1),(vB z99.2.2.2)]⟩)) n [none,none,some ⟨false,30,11,1,[(vI 0),(vI 0),nV,nV,(vI 0),nV,nV,nV,nV,(vI 0),nV]⟩,some ⟨false,30,11,1,[(vI 0),(vI 0),nV,nV,(vI 0),nV,nV,nV,nV,(vI 0),nV]⟩,some ⟨false,85,13,1,(Zj (.ref Zr 0) (.row (n+40) z99.1.left.Words.length) (.row (n+41) z99.1.left.Kids.length) (.row (n+42) z99.1.left.Ops.length) (.row (n+43) z99.1.come.length) z99.1)⟩,none,none,none,none,some ⟨false,85,13,1,(Zj (.ref Zr 0) (.row (n+44) z99.2.1.left.Words.length) (.row (n+45) z99.2.1.left.Kids.length) (.row (n+46) z99.2.1.left.Ops.length) (.row (n+47) z99.2.1.come.length) z99.2.1)⟩,none,none,none,none,none,none,none,none,none,none,none,none,none,none,none,none,none,none,none,none,none,none,none,none,none,none,none,none,none,none,some (oR 48 4 Zf z99.1.left.Words),some (oR 50 12 Ze z99.1.left.Kids),some (oR 41 14 Zh z99.1.left.Ops),some (oR 25 3 Za z99.1.come),some (oR 48 4 Zf z99.2.1.left.Words),some (oR 50 12 Ze z99.2.1.left.Kids),some (oR 41 14 Zh z99.2.1.left.Ops),some (oR 25 3 Za z99.2.1.come),none])) (n0:=(n+49)) ?_ ?_
   ·refine Xt ?_
    refine Z7 ?_
    obtain ⟨Zih,Yfi,Z7v,Z79,Z8m,xF⟩:=bE (f:=Xm) Zoo (fun _=>rfl) (by decide) xF
    refine Ztl [] Z7v Z79 Z8m Zk Zm ?_
    refine zD [0,6,7,10,11,13,39,40,41] [false,false,true,true,true,false,false,false,false,true,false,false,false,false,true,true,true,true,true,true,true,true,false,true] ?_
    refine fZ [0,6,7,10,11,13,39,40,41,46] Zk Zm ?_
    refine Xt ?_
    refine fZ [0,6,7,10,11,13,39,40,41,46,47] Zk Zm ?_
    refine Yj (t:=(Zih.Of == 1)) rfl (fun Z5v => ?_) (fun Z5v => ?_)
    ·replace xF:=Ym Z5v xF
     obtain ⟨Z99,Z43,Z45,Z4i,xF⟩:=bA (k:=Zih.P.L.length) rfl xF
     refine V4 Yd (by kernel_rfl) [.plain,.plain,.plain,.plain,.plain,.plain,.plain,.plain,.pass,.plain,.plain,.bar] (fun i=>i≠n+17) [0,1,2,3,4,5,6,7,8,9,10,11] [.plain,.plain,.plain,.plain,.plain,.plain,.plain,.plain,.pass,.plain,.plain,.bar] [] (by kernel_rfl) rfl ?_
     refine zX5 Z43 Z45 Z4i Zk Zm ?_
     refine zO ?_
     obtain rfl:=sI xF
     refine And.intro rfl ?_
     refine uS (k:=24) (k':=49) hU [48,48,2,3,4,48,48,48,48,9,48,48,48,48,40,41,42,43,44,45,46,47,48,48] [0,0,2,3,4,0,0,0,0,9,0,0,0,0,0,0,0,0,0,0,0,0,0,0,0,0,0,0,0,0,0,0,0,0,0,0,0,0,0,0,14,15,16,17,18,19,20,21,0] (lT Zk) ?_ ?_
     ·exact Z37 Z43 Z45 Z4i Zk Zm
     exact Qx Zk Zm
    replace xF:=Yl Z5v xF
    refine fZ [0,6,7,10,11,13,39,40,41,46,60] Zk Zm ?_
    refine Yj (t:=(Zih.Of == 2)) rfl (fun Z5u => ?_) (fun Z5u => ?_)
    ·replace xF:=Ym Z5u xF
     obtain ⟨Yaa,Z44,Z46,Z4j,xF⟩:=bA (k:=Zih.Q.L.length) rfl xF
     refine V4 Yd (by kernel_rfl) [.plain,.plain,.plain,.plain,.plain,.plain,.plain,.plain,.pass,.plain,.plain,.bar] (fun i=>i≠n+21) [0,1,2,3,4,5,6,7,8,9,10,11] [.plain,.plain,.plain,.plain,.plain,.plain,.plain,.plain,.pass,.plain,.plain,.bar] [] (by kernel_rfl) rfl ?_
     refine zX5 Z44 Z46 Z4j Zk Zm ?_
     refine zO ?_
     obtain rfl:=sI xF
     refine And.intro rfl ?_
     refine uS (k:=24) (k':=49) hU [48,48,2,3,4,48,48,48,48,9,48,48,48,48,40,41,42,43,44,45,46,47,48,48] [0,0,2,3,4,0,0,0,0,9,0,0,0,0,0,0,0,0,0,0,0,0,0,0,0,0,0,0,0,0,0,0,0,0,0,0,0,0,0,0,14,15,16,17,18,19,20,21,0] (lT Zk) ?_ ?_
     ·exact Z37 Z44 Z46 Z4j Zk Zm
     exact Qx Zk Zm
    replace xF:=Yl Z5u xF
    refine fZ [0,6,7,10,11,13,39,40,41,73] Zk Zm ?_
    refine Yj (t:=(Zih.Of == 0)) rfl (fun Z5t => ?_) (fun Z5t => ?_)
    ·replace xF:=Ym Z5t xF
     refine Z7 ?_
     obtain ⟨Z3y,Z9o,xF⟩:=bC xF
     refine Kc [] Zk Zm ?_
     refine (uI (i1:=(n+4)) (i2:=(n+9)) (Zr:=Zr) (Q4:=(n+14)) (Q5:=(n+15)) (Q6:=(n+16)) (Q7:=(n+17)) (Q8:=(n+18)) (Q9:=(n+19)) (Ja:=(n+20)) (Jb:=(n+21)) (by omega) (by omega) (by omega) (by omega) (by omega) (by omega) (by omega) (by omega) (by omega) (by omega) (by omega) (by omega) (by omega) (by omega) (by omega) (by omega) (by omega) (by omega) (by omega) (by omega) (by omega) (by omega) (by omega) (by omega) (by omega) (by omega) (by omega) (by omega) (by omega) (by omega) (by omega) (by omega) (by omega) (by omega) (by omega) (by omega) (by omega) (by omega) (by omega) (by omega) (by omega) (by omega) (by omega) (by omega) (by omega) (by omega) (by omega) (by omega) (by omega) (by omega) (by omega) (by omega) (by omega) (by omega) (by omega) (by omega) (by omega) (by omega) (by omega) (by omega) (by omega) (by omega) (by omega) (by omega) (by omega) (by omega) (by simp only [push_cast,seval,Zc,Ya,Zk,Zm,Ye,hN] <;> rfl) (by simp only [push_cast,seval,Zc,Ya,Zk,Zm,Ye,hN] <;> rfl) (by simp only [push_cast,seval,Zc,Ya,Zk,Zm,Ye,hN] <;> rfl) (by simp only [push_cast,seval,Zc,Ya,Zk,Zm,Ye,hN] <;> rfl) (by simp only [push_cast,seval,Zc,Ya,Zk,Zm,Ye,hN] <;> rfl) (by simp only [push_cast,seval,Zc,Ya,Zk,Zm,Ye,hN] <;> rfl) (by simp only [push_cast,seval,Zc,Ya,Zk,Zm,Ye,hN] <;> rfl) (by simp only [push_cast,seval,Zc,Ya,Zk,Zm,Ye,hN] <;> rfl) (by simp only [push_cast,seval,Zc,Ya,Zk,Zm,Ye,hN] <;> rfl) (by simp only [push_cast,seval,Zc,Ya,Zk,Zm,Ye,hN] <;> rfl) (by simp only [push_cast,seval,Zc,Ya,Zk,Zm,Ye,hN] <;> rfl) Z9o).then ?_
     refine eR Zk Zm ?_
     refine zD [0,6,7,10,11,13,39,40,41] [false,false,true,true,true,false,false,false,false,true,false,false,false,false,false,false,false,false,false,false,false,false,false,true,true,true,true,true,true,true,true,true] ?_
     obtain ⟨Zm8,Zzt,xF⟩:=bC xF
     refine Kc [] Zk Zm ?_
     refine (Gn (i1:=(n+4)) (i2:=(n+9)) (Zr:=Zr) (Q4:=(n+24)) (Q5:=(n+25)) (Q6:=(n+26)) (Q7:=(n+27)) (Q8:=(n+28)) (Q9:=(n+29)) (Ja:=(n+30)) (Jb:=(n+31)) (by omega) (by omega) (by omega) (by omega) (by omega) (by omega) (by omega) (by omega) (by omega) (by omega) (by omega) (by omega) (by omega) (by omega) (by omega) (by omega) (by omega) (by omega) (by omega) (by omega) (by omega) (by omega) (by omega) (by omega) (by omega) (by omega) (by omega) (by omega) (by omega) (by omega) (by omega) (by omega) (by omega) (by omega) (by omega) (by omega) (by omega) (by omega) (by omega) (by omega) (by omega) (by omega) (by omega) (by omega) (by omega) (by omega) (by omega) (by omega) (by omega) (by omega) (by omega) (by omega) (by omega) (by omega) (by omega) (by omega) (by omega) (by omega) (by omega) (by omega) (by omega) (by omega) (by omega) (by omega) (by omega) (by omega) (by simp only [push_cast,seval,Zc,Ya,Zk,Zm,Ye,hN] <;> rfl) (by simp only [push_cast,seval,Zc,Ya,Zk,Zm,Ye,hN] <;> rfl) (by simp only [push_cast,seval,Zc,Ya,Zk,Zm,Ye,hN] <;> rfl) (by simp only [push_cast,seval,Zc,Ya,Zk,Zm,Ye,hN] <;> rfl) (by simp only [push_cast,seval,Zc,Ya,Zk,Zm,Ye,hN] <;> rfl) (by simp only [push_cast,seval,Zc,Ya,Zk,Zm,Ye,hN] <;> rfl) (by simp only [push_cast,seval,Zc,Ya,Zk,Zm,Ye,hN] <;> rfl) (by simp only [push_cast,seval,Zc,Ya,Zk,Zm,Ye,hN] <;> rfl) (by simp only [push_cast,seval,Zc,Ya,Zk,Zm,Ye,hN] <;> rfl) (by simp only [push_cast,seval,Zc,Ya,Zk,Zm,Ye,hN] <;> rfl) (by simp only [push_cast,seval,Zc,Ya,Zk,Zm,Ye,hN] <;> rfl) Zzt).then ?_
     refine eR Zk Zm ?_
     obtain rfl:=sI xF
     refine And.intro rfl ?_
     refine uS (k:=40) (k':=49) hU [48,48,2,3,4,48,48,48,48,9,48,48,48,48,48,48,48,48,48,48,48,48,48,48,48,48,48,48,48,48,48,48,40,41,42,43,44,45,46,47] [0,0,2,3,4,0,0,0,0,9,0,0,0,0,0,0,0,0,0,0,0,0,0,0,0,0,0,0,0,0,0,0,0,0,0,0,0,0,0,0,32,33,34,35,36,37,38,39,0] (lT Zk) ?_ ?_
     ·exact Qx Zk Zm
     exact Qx Zk Zm
    replace xF:=Yl Z5t xF
    refine zK ?_
    obtain rfl:=sI xF
    refine And.intro rfl ?_
    refine uS (k:=24) (k':=49) hU [48,48,2,3,4,48,48,48,48,9,48,48,48,48,40,41,42,43,44,45,46,47,48,48] [0,0,2,3,4,0,0,0,0,9,0,0,0,0,0,0,0,0,0,0,0,0,0,0,0,0,0,0,0,0,0,0,0,0,0,0,0,0,0,0,14,15,16,17,18,19,20,21,0] (lT Zk) ?_ ?_
    ·exact Qx Zk Zm
    exact Qx Zk Zm
   refine Kc [] Zk Zm ?_
   obtain rfl:=sI Zu
   refine And.intro rfl ?_
   refine uS (k:=49) (k':=23) hU [22,22,2,3,4,22,22,22,22,9,22,22,22,22,22,22,22,22,22,22,22,22,22,22,22,22,22,22,22,22,22,22,22,22,22,22,22,22,22,22,14,15,16,17,18,19,20,21,22] [0,0,2,3,4,0,0,0,0,9,0,0,0,0,40,41,42,43,44,45,46,47,0] (lT Zk) ?_ ?_
   ·exact Qx Zk Zm
   exact Qx Zk Zm
  replace Zu:=Yl Z5w Zu
  refine zXt ?_
  obtain rfl:=sI Zu
  refine And.intro (fun h=>by cases h) (And.intro rfl (Fit2.of (Xy hU rfl rfl ?_) (by omega)))
  exact Qx Zk Zm
 try simp only [Qj,Xr,↓reduceIte,Nat.reduceEqDiff]
 refine lO [0,6,7,10,11] [false,false,true,true,true,false,false,false,false,true,false,false,false,false,true,true,true,true,true,true,true,true,false] ?_
 obtain ⟨Uv,Z9r,h⟩:=bC h
 refine Kc [] Zk Zm ?_
 refine (uI (i1:=(n+4)) (i2:=(n+9)) (Zr:=Zr) (Q4:=(n+14)) (Q5:=(n+15)) (Q6:=(n+16)) (Q7:=(n+17)) (Q8:=(n+18)) (Q9:=(n+19)) (Ja:=(n+20)) (Jb:=(n+21)) (by omega) (by omega) (by omega) (by omega) (by omega) (by omega) (by omega) (by omega) (by omega) (by omega) (by omega) (by omega) (by omega) (by omega) (by omega) (by omega) (by omega) (by omega) (by omega) (by omega) (by omega) (by omega) (by omega) (by omega) (by omega) (by omega) (by omega) (by omega) (by omega) (by omega) (by omega) (by omega) (by omega) (by omega) (by omega) (by omega) (by omega) (by omega) (by omega) (by omega) (by omega) (by omega) (by omega) (by omega) (by omega) (by omega) (by omega) (by omega) (by omega) (by omega) (by omega) (by omega) (by omega) (by omega) (by omega) (by omega) (by omega) (by omega) (by omega) (by omega) (by omega) (by omega) (by omega) (by omega) (by omega) (by omega) (by simp only [push_cast,seval,Zc,Ya,Zk,Zm,Ye,hN] <;> rfl) (by simp only [push_cast,seval,Zc,Ya,Zk,Zm,Ye,hN] <;> rfl) (by simp only [push_cast,seval,Zc,Ya,Zk,Zm,Ye,hN] <;> rfl) (by simp only [push_cast,seval,Zc,Ya,Zk,Zm,Ye,hN] <;> rfl) (by simp only [push_cast,seval,Zc,Ya,Zk,Zm,Ye,hN] <;> rfl) (by simp only [push_cast,seval,Zc,Ya,Zk,Zm,Ye,hN] <;> rfl) (by simp only [push_cast,seval,Zc,Ya,Zk,Zm,Ye,hN] <;> rfl) (by simp only [push_cast,seval,Zc,Ya,Zk,Zm,Ye,hN] <;> rfl) (by simp only [push_cast,seval,Zc,Ya,Zk,Zm,Ye,hN] <;> rfl) (by simp only [push_cast,seval,Zc,Ya,Zk,Zm,Ye,hN] <;> rfl) (by simp only [push_cast,seval,Zc,Ya,Zk,Zm,Ye,hN] <;> rfl) Z9r).then ?_
 refine eR Zk Zm ?_
 refine zD [6,7,10,11] [false,false,true,true,true,false,false,false,false,true,false,false,false,false,false,false,false,false,false,false,false,false,false,true,true,true,true,true,true,true,true] ?_
 refine lB ⟨96,[],[(6,.ref (n+2) 0),(7,.ref (n+3) 0),(10,.ref (n+4) 0),(11,.ref (n+9) 0)]⟩ (Yn (O.upd Zr (some ⟨false,43,2,1,[(vB Uv.2.2.apart),(vB Uv.2.2.clash)]⟩)) n [none,none,some ⟨false,30,11,1,[(vI 0),(vI 0),nV,nV,(vI 0),nV,nV,nV,nV,(vI 0),nV]⟩,some ⟨false,30,11,1,[(vI 0),(vI 0),nV,nV,(vI 0),nV,nV,nV,nV,(vI 0),nV]⟩,some ⟨false,85,13,1,(Zj (.ref Zr 0) ((sL Zf Uv.1.left.Words)) ((sL Ze Uv.1.left.Kids)) ((sL Zh Uv.1.left.Ops)) ((sL Za Uv.1.come)) Uv.1)⟩,none,none,none,none,some ⟨false,85,13,1,(Zj (.ref Zr 0) (.row (n+27) Uv.2.1.left.Words.length) (.row (n+28) Uv.2.1.left.Kids.length) (.row (n+29) Uv.2.1.left.Ops.length) (.row (n+30) Uv.2.1.come.length) Uv.2.1)⟩,none,none,none,none,none,none,none,none,none,none,none,none,none,none,none,none,none,some (oR 48 4 Zf Uv.2.1.left.Words),some (oR 50 12 Ze Uv.2.1.left.Kids),some (oR 41 14 Zh Uv.2.1.left.Ops),some (oR 25 3 Za Uv.2.1.come)]) (Xy hU rfl rfl ?_) ?_
 ·exact Qx Zk Zm
 refine lB ⟨96,[],[(6,.ref (n+2) 0),(7,.ref (n+3) 0),(10,.ref (n+4) 0),(11,.ref (n+9) 0)]⟩ (Yn (O.upd Zr (some ⟨false,43,2,1,[(vB Uv.2.2.apart),(vB Uv.2.2.clash)]⟩)) n [none,none,some ⟨false,30,11,1,[(vI 0),(vI 0),nV,nV,(vI 0),nV,nV,nV,nV,(vI 0),nV]⟩,some ⟨false,30,11,1,[(vI 0),(vI 0),nV,nV,(vI 0),nV,nV,nV,nV,(vI 0),nV]⟩,some ⟨false,85,13,1,(Zj (.ref Zr 0) ((sL Zf Uv.1.left.Words)) ((sL Ze Uv.1.left.Kids)) ((sL Zh Uv.1.left.Ops)) ((sL Za Uv.1.come)) Uv.1)⟩,none,none,none,none,some ⟨false,85,13,1,(Zj (.ref Zr 0) ((sL Zf Uv.2.1.left.Words)) ((sL Ze Uv.2.1.left.Kids)) ((sL Zh Uv.2.1.left.Ops)) ((sL Za Uv.2.1.come)) Uv.2.1)⟩,none,none,none,none,none,none,none,none,none,none,none,none,none,none,none,none,none,none,none,none,none]) (Xy hU rfl rfl ?_) ?_
 ·exact Qx Zk Zm
 refine Z7 ?_
 obtain ⟨Ztj,Z9s,h⟩:=bC h
 obtain ⟨Zd9,Zvj,h⟩:=bC h
 refine Kc [] Zk Zm ?_
 refine (fV (i0:=(n+4)) (Zr:=Zr) (by omega) (by omega) (by omega) (by simp only [push_cast,seval,Zc,Ya,Zk,Zm,Ye,hN] <;> rfl) (by simp only [push_cast,seval,Zc,Ya,Zk,Zm,Ye,hN] <;> rfl) Z9s).then ?_
 refine eR Zk Zm ?_
 refine (fV (i0:=(n+9)) (Zr:=Zr) (by omega) (by omega) (by omega) (by simp only [push_cast,seval,Zc,Ya,Zk,Zm,Ye,hN] <;> rfl) (by simp only [push_cast,seval,Zc,Ya,Zk,Zm,Ye,hN] <;> rfl) Zvj).then ?_
 refine eR Zk Zm ?_
 refine zD [6,7] [false,false,true,true,false,false,false,false,false,false,false,false,false,false,false,false,false,false,false,false,false,false,false,false,false,false,false,false,false,false,false] ?_
 refine zW ?_
 obtain rfl:=sI h
 refine Jl (k:=0) (i:=Zr) (q1:=⟨false,43,2,1,[(vB Zd9.2.2.apart),(vB Zd9.2.2.clash)]⟩) (L3:=[some ⟨false,30,11,1,(Zl Ztj.1)⟩,some ⟨false,30,11,1,(Zl Zd9.1)⟩,none]) (E2:=(⟨96,[],[(6,.ref n 0),(7,.ref (n+1) 0)]⟩:Env)) (n3:=(n+3)) (.inr rfl) hU rfl [.agg (Zl Ztj.1),.agg (Zl Zd9.1)] ?_ ?_
 ·refine uS (k:=31) (k':=3) hU [2,2,0,1,2,2,2,2,2,2,2,2,2,2,2,2,2,2,2,2,2,2,2,2,2,2,2,2,2,2,2] [2,3,0] (lT Zk) ?_ ?_
  ·exact Qx Zk Zm
  exact Qx Zk Zm
 simp only [push_cast,seval,Zc,Try.results27,Zk,Zm,Ye,hN]
theorem Za0 {Xa:(Zd→Zd→Zg→Option (Zd×Zd×Zg))} {Y6:(Zd→Zd→Zg→Option (Zd×Zd×Zg))} {Xf:(Zd→Zd→Zg→Option (Zd×Zd×Zg))} {Xh:(Zi→Zi→(List Zq)→(List Zq)→Zg→Option (Zi×Zi×Zg))} {Xd:(Zi→Zi→Zo→Zo→Zg→Option (Zi×Zi×Zg))} (Jc:Vw Xa) (Vy:K0 Y6) (Gd:Vg Xf) (Gp:Vv Xh) (Gn:Vu Xd) {a1:Zi} {a2:Zi} {a3:(List Zq)} {a4:(List Zq)} {Yy:Zg} {r:(Zi×Zi×Zg)} {O:Objs} {n:Nat} {i1 Q4 Q5 Q6 Q7 i2 Q8 Q9 Ja Jb Zr:Nat} (X2:i1 < n) (uR:Q4 < n) (vR:Q5 < n) (wR:Q6 < n) (xR:Q7 < n) (rG:i1≠Q4) (sG:i1≠Q5) (tG:i1≠Q6) (uG:i1≠Q7) (cQ:Q4≠Q5) (dQ:Q4≠Q6) (eQ:Q4≠Q7) (kQ:Q5≠Q6) (lQ:Q5≠Q7) (qQ:Q6≠Q7) (X0:i2 < n) (yR:Q8 < n) (aS:Q9 < n) (cS:Ja < n) (dS:Jb < n) (vG:i2≠Q8) (wG:i2≠Q9) (xG:i2≠Ja) (yG:i2≠Jb) (aJ:Q8≠Q9) (bJ:Q8≠Ja) (cJ:Q8≠Jb) (dJ:Q9≠Ja) (eJ:Q9≠Jb) (fJ:Ja≠Jb) (Zk:Zr < n) (qY:i1≠Q8) (rY:i1≠Q9) (sY:i1≠Ja) (tY:i1≠Jb) (uY:i2≠Q4) (vY:i2≠Q5) (wY:i2≠Q6) (xY:i2≠Q7) (V7:Zr≠Q4) (V8:Zr≠Q5) (V9:Zr≠Q6) (Ua:Zr≠Q7) (Ub:Zr≠Q8) (Uc:Zr≠Q9) (Ud:Zr≠Ja) (Ue:Zr≠Jb) (Jm:i1≠i2) (X8:i1≠Zr) (X9:i2≠Zr) (fQ:Q4≠Q8) (gQ:Q4≠Q9) (iQ:Q4≠Ja) (jQ:Q4≠Jb) (mQ:Q5≠Q8) (nQ:Q5≠Q9) (oQ:Q5≠Ja) (pQ:Q5≠Jb) (rQ:Q6≠Q8) (sQ:Q6≠Q9) (tQ:Q6≠Ja) (uQ:Q6≠Jb) (vQ:Q7≠Q8) (wQ:Q7≠Q9) (xQ:Q7≠Ja) (yQ:Q7≠Jb) (ho1:O i1=some ⟨false,85,13,1,(Zj (.ref Zr 0) (.row Q4 a1.left.Words.length) (.row Q5 a1.left.Kids.length) (.row Q6 a1.left.Ops.length) (.row Q7 a1.come.length) a1)⟩) (lN:O Q4=some (oR 48 4 Zf a1.left.Words)) (mN:O Q5=some (oR 50 12 Ze a1.left.Kids)) (nN:O Q6=some (oR 41 14 Zh a1.left.Ops)) (oN:O Q7=some (oR 25 3 Za a1.come)) (ho2:O i2=some ⟨false,85,13,1,(Zj (.ref Zr 0) (.row Q8 a2.left.Words.length) (.row Q9 a2.left.Kids.length) (.row Ja a2.left.Ops.length) (.row Jb a2.come.length) a2)⟩) (pN:O Q8=some (oR 48 4 Zf a2.left.Words)) (qN:O Q9=some (oR 50 12 Ze a2.left.Kids)) (rN:O Ja=some (oR 41 14 Zh a2.left.Ops)) (sN:O Jb=some (oR 25 3 Za a2.come)) (Ks:O Zr=some ⟨false,43,2,1,[(vB Yy.apart),(vB Yy.clash)]⟩) (h:V0 Xa Y6 Xf Xh Xd a1 a2 a3 a4 Yy=some r):GTo Try.prog 43 [.ref Zr 0,.ref i1 0,.ref i2 0,(sL Ze a3),(sL Ze a4)] O n (.tup []) (Yn (((((((((((O.upd Q4 none).upd Q5 none).upd Q6 none).upd Q7 none).upd Q8 none).upd Q9 none).upd Ja none).upd Jb none).upd i1 (some ⟨false,85,13,1,(Zj (.ref Zr 0) (.row n r.1.left.Words.length) (.row (n+1) r.1.left.Kids.length) (.row (n+2) r.1.left.Ops.length) (.row (n+3) r.1.come.length) r.1)⟩)).upd i2 (some ⟨false,85,13,1,(Zj (.ref Zr 0) (.row (n+4) r.2.1.left.Words.length) (.row (n+5) r.2.1.left.Kids.length) (.row (n+6) r.2.1.left.Ops.length) (.row (n+7) r.2.1.come.length) r.2.1)⟩)).upd Zr (some ⟨false,43,2,1,[(vB r.2.2.apart),(vB r.2.2.clash)]⟩)) n [some (oR 48 4 Zf r.1.left.Words),some (oR 50 12 Ze r.1.left.Kids),some (oR 41 14 Zh r.1.left.Ops),some (oR 25 3 Za r.1.come),some (oR 48 4 Zf r.2.1.left.Words),some (oR 50 12 Ze r.2.1.left.Kids),some (oR 41 14 Zh r.2.1.left.Ops),some (oR 25 3 Za r.2.1.come)]) (n+8):=by
 unfold V0 at h
 refine vX Yd Try.call43 Try.func43 rfl (Nat.le_of_ble_eq_true rfl) (by omega) fun hU => ?_
 rw [show Yn O n []=Yn (((O.upd i1 (some ⟨false,85,13,1,(Zj (.ref Zr 0) (.row Q4 a1.left.Words.length) (.row Q5 a1.left.Kids.length) (.row Q6 a1.left.Ops.length) (.row Q7 a1.come.length) a1)⟩)).upd i2 (some ⟨false,85,13,1,(Zj (.ref Zr 0) (.row Q8 a2.left.Words.length) (.row Q9 a2.left.Kids.length) (.row Ja a2.left.Ops.length) (.row Jb a2.come.length) a2)⟩)).upd Zr (some ⟨false,43,2,1,[(vB Yy.apart),(vB Yy.clash)]⟩)) n [] from by rw [Qw ho1,Qw ho2,Qw Ks]]
 refine Xi (Y0 (k:=8) (by rw [Yb _ X2];simp only [Yo,Zn Jm,Zn X8] <;> rfl) (by rfl) (by rw [Yb _ uR];simp only [Zn (Ne.symm rG),Zn (Ne.symm uY),Zn (Ne.symm V7)];exact lN) rG (by simp only [push_cast,Nat.reduceAdd,Z8 _ _ uR,Z8 _ _ X2,Z3 (Ne.symm rG),Z3 (Ne.symm uY),Z3 (Ne.symm V7),Z3 Jm,Z3 X8,Z3 X9] <;> rfl) (by omega)) ?_
 refine Xi (Y0 (k:=9) (by rw [Yb _ X2];simp only [Yo,Zn Jm,Zn X8] <;> rfl) (by rfl) (by rw [Yb _ vR];simp only [Zn (Ne.symm sG),Zn (Ne.symm vY),Zn (Ne.symm V8),Zn (Ne.symm cQ)];exact mN) sG (by simp only [push_cast,Nat.reduceAdd,Z8 _ _ vR,Z8 _ _ X2,Z3 (Ne.symm sG),Z3 (Ne.symm vY),Z3 (Ne.symm V8),Z3 Jm,Z3 X8,Z3 X9] <;> rfl) (by omega)) ?_
 refine Xi (Y0 (k:=11) (by rw [Yb _ X2];simp only [Yo,Zn Jm,Zn X8] <;> rfl) (by rfl) (by rw [Yb _ wR];simp only [Zn (Ne.symm tG),Zn (Ne.symm wY),Zn (Ne.symm V9),Zn (Ne.symm dQ),Zn (Ne.symm kQ)];exact nN) tG (by simp only [push_cast,Nat.reduceAdd,Z8 _ _ wR,Z8 _ _ X2,Z3 (Ne.symm tG),Z3 (Ne.symm wY),Z3 (Ne.symm V9),Z3 Jm,Z3 X8,Z3 X9] <;> rfl) (by omega)) ?_
 refine Xi (Y0 (k:=12) (by rw [Yb _ X2];simp only [Yo,Zn Jm,Zn X8] <;> rfl) (by rfl) (by rw [Yb _ xR];simp only [Zn (Ne.symm uG),Zn (Ne.symm xY),Zn (Ne.symm Ua),Zn (Ne.symm eQ),Zn (Ne.symm lQ),Zn (Ne.symm qQ)];exact oN) uG (by simp only [push_cast,Nat.reduceAdd,Z8 _ _ xR,Z8 _ _ X2,Z3 (Ne.symm uG),Z3 (Ne.symm xY),Z3 (Ne.symm Ua),Z3 Jm,Z3 X8,Z3 X9] <;> rfl) (by omega)) ?_
 refine Xi (Y0 (k:=8) (by rw [Yb _ X0];simp only [Yo,Zn (Ne.symm Jm),Zn X9] <;> rfl) (by rfl) (by rw [Yb _ yR];simp only [Zn (Ne.symm qY),Zn (Ne.symm vG),Zn (Ne.symm Ub),Zn (Ne.symm fQ),Zn (Ne.symm mQ),Zn (Ne.symm rQ),Zn (Ne.symm vQ)];exact pN) vG (by simp only [push_cast,Nat.reduceAdd,Z8 _ _ yR,Z8 _ _ X0,Z3 (Ne.symm qY),Z3 (Ne.symm vG),Z3 (Ne.symm Ub),Z3 Jm,Z3 X8,Z3 X9] <;> rfl) (by omega)) ?_
 refine Xi (Y0 (k:=9) (by rw [Yb _ X0];simp only [Yo,Zn (Ne.symm Jm),Zn X9] <;> rfl) (by rfl) (by rw [Yb _ aS];simp only [Zn (Ne.symm rY),Zn (Ne.symm wG),Zn (Ne.symm Uc),Zn (Ne.symm gQ),Zn (Ne.symm nQ),Zn (Ne.symm sQ),Zn (Ne.symm wQ),Zn (Ne.symm aJ)];exact qN) wG (by simp only [push_cast,Nat.reduceAdd,Z8 _ _ aS,Z8 _ _ X0,Z3 (Ne.symm rY),Z3 (Ne.symm wG),Z3 (Ne.symm Uc),Z3 Jm,Z3 X8,Z3 X9] <;> rfl) (by omega)) ?_
 refine Xi (Y0 (k:=11) (by rw [Yb _ X0];simp only [Yo,Zn (Ne.symm Jm),Zn X9] <;> rfl) (by rfl) (by rw [Yb _ cS];simp only [Zn (Ne.symm sY),Zn (Ne.symm xG),Zn (Ne.symm Ud),Zn (Ne.symm iQ),Zn (Ne.symm oQ),Zn (Ne.symm tQ),Zn (Ne.symm xQ),Zn (Ne.symm bJ),Zn (Ne.symm dJ)];exact rN) xG (by simp only [push_cast,Nat.reduceAdd,Z8 _ _ cS,Z8 _ _ X0,Z3 (Ne.symm sY),Z3 (Ne.symm xG),Z3 (Ne.symm Ud),Z3 Jm,Z3 X8,Z3 X9] <;> rfl) (by omega)) ?_
 refine Xi (Y0 (k:=12) (by rw [Yb _ X0];simp only [Yo,Zn (Ne.symm Jm),Zn X9] <;> rfl) (by rfl) (by rw [Yb _ dS];simp only [Zn (Ne.symm tY),Zn (Ne.symm yG),Zn (Ne.symm Ue),Zn (Ne.symm jQ),Zn (Ne.symm pQ),Zn (Ne.symm uQ),Zn (Ne.symm yQ),Zn (Ne.symm cJ),Zn (Ne.symm eJ),Zn (Ne.symm fJ)];exact sN) yG (by simp only [push_cast,Nat.reduceAdd,Z8 _ _ dS,Z8 _ _ X0,Z3 (Ne.symm tY),Z3 (Ne.symm yG),Z3 (Ne.symm Ue),Z3 Jm,Z3 X8,Z3 X9] <;> rfl) (by omega)) ?_
 have hU:=(Und.drop (Und.drop (Und.drop (Und.drop (Und.drop (Und.drop (Und.drop (Und.drop hU Q4) Q5) Q6) Q7) Q8) Q9) Ja) Jb)
 have Yp:=fun X=>@Zn X _ _ Jm
 have Yq:=fun X=>@Zn X _ _ (Ne.symm Jm)
 have Yr:=fun X b c=>@Z3 X _ _ b c Jm
 have Zv:=fun X=>@Zn X _ _ X8
 have Zx:=fun X=>@Zn X _ _ (Ne.symm X8)
 have Zz:=fun X b c=>@Z3 X _ _ b c X8
 have Zw:=fun X=>@Zn X _ _ X9
 have Zy:=fun X=>@Zn X _ _ (Ne.symm X9)
 have Z0:=fun X b c=>@Z3 X _ _ b c X9
 have Qz:∀ k,i1 < n+k:=fun k=>by omega
 have Qo:∀ k,i2 < n+k:=fun k=>by omega
 have Zm:∀ k,Zr < n+k:=fun k=>by omega
 have Ye:∀ o p r,Objs.upd (Objs.upd (Objs.upd ((((((((O.upd Q4 none).upd Q5 none).upd Q6 none).upd Q7 none).upd Q8 none).upd Q9 none).upd Ja none).upd Jb none) i1 o) i2 p) Zr r n=none:=fun o p r=>(Xe _ _ (by omega)).trans ((Xe _ _ (by omega)).trans (Xb hU X2 _ (Nat.le_refl _)))
 have hN:∀ o p r k,Objs.upd (Objs.upd (Objs.upd ((((((((O.upd Q4 none).upd Q5 none).upd Q6 none).upd Q7 none).upd Q8 none).upd Q9 none).upd Ja none).upd Jb none) i1 o) i2 p) Zr r (n+k)=none:=fun o p r k=>(Xe _ _ (by omega)).trans ((Xe _ _ (by omega)).trans (Xb hU X2 _ (Nat.le_add_right _ _)))
 show W _ _ _ _ ⟨110,[],[(0,.ref Zr 0),(1,.ref i1 0),(2,.ref i2 0),(3,(sL Ze a3)),(4,(sL Ze a4))]⟩ (Yn (((((((((((O.upd Q4 none).upd Q5 none).upd Q6 none).upd Q7 none).upd Q8 none).upd Q9 none).upd Ja none).upd Jb none).upd i1 (some ⟨false,85,13,1,(Zj (.ref Zr 0) (.row n a1.left.Words.length) (.row (n+1) a1.left.Kids.length) (.row (n+2) a1.left.Ops.length) (.row (n+3) a1.come.length) a1)⟩)).upd i2 (some ⟨false,85,13,1,(Zj (.ref Zr 0) (.row (n+4) a2.left.Words.length) (.row (n+5) a2.left.Kids.length) (.row (n+6) a2.left.Ops.length) (.row (n+7) a2.come.length) a2)⟩)).upd Zr (some ⟨false,43,2,1,[(vB Yy.apart),(vB Yy.clash)]⟩)) n [some (oR 48 4 Zf a1.left.Words),some (oR 50 12 Ze a1.left.Kids),some (oR 41 14 Zh a1.left.Ops),some (oR 25 3 Za a1.come),some (oR 48 4 Zf a2.left.Words),some (oR 50 12 Ze a2.left.Kids),some (oR 41 14 Zh a2.left.Ops),some (oR 25 3 Za a2.come)]) _
 refine zD [0,1,2,3,4] [true,true,true,true,true,true,true,true] ?_
 refine Xi (E':=(⟨110,[],[(0,.ref Zr 0),(1,.ref i1 0),(2,.ref i2 0),(3,(sL Ze a3)),(4,(sL Ze a4))]⟩:Env)) (O':=(Yn (((((((((((O.upd Q4 none).upd Q5 none).upd Q6 none).upd Q7 none).upd Q8 none).upd Q9 none).upd Ja none).upd Jb none).upd i1 (some ⟨false,85,13,1,(Zj (.ref Zr 0) (.row (n+8) a1.left.Words.length) (.row (n+9) a1.left.Kids.length) (.row (n+10) a1.left.Ops.length) (.row (n+11) a1.come.length) a1)⟩)).upd i2 (some ⟨false,85,13,1,(Zj (.ref Zr 0) (.row (n+12) a2.left.Words.length) (.row (n+13) a2.left.Kids.length) (.row (n+14) a2.left.Ops.length) (.row (n+15) a2.come.length) a2)⟩)).upd Zr (some ⟨false,43,2,1,[(vB Yy.apart),(vB Yy.clash)]⟩)) n [none,none,none,none,none,none,none,none,some (oR 48 4 Zf a1.left.Words),some (oR 50 12 Ze a1.left.Kids),some (oR 41 14 Zh a1.left.Ops),some (oR 25 3 Za a1.come),some (oR 48 4 Zf a2.left.Words),some (oR 50 12 Ze a2.left.Kids),some (oR 41 14 Zh a2.left.Ops),some (oR 25 3 Za a2.come)])) (n':=(n+16)) ?_ ?_
 ·refine fr3 (k:=8) (k':=16) hU [8,9,10,11,12,13,14,15] [0,0,0,0,0,0,0,0,0,1,2,3,4,5,6,7] (zM3 X2 X0 Zk) ?_ ?_
  ·simp only [push_cast,seval,Zc,X2,Qz,X0,Qo,Zk,Zm,Yp,Yq,Yr,Zv,Zx,Zz,Zw,Zy,Z0,Ye,hN]
  simp only [push_cast,seval,Zc,X2,Qz,X0,Qo,Zk,Zm,Yp,Yq,Yr,Zv,Zx,Zz,Zw,Zy,Z0,Ye,hN]
 obtain ⟨J6,Z98,h⟩:=bC h
 refine X7 (E':=⟨110,[],[]⟩) (O':=(Yn (((((((((((O.upd Q4 none).upd Q5 none).upd Q6 none).upd Q7 none).upd Q8 none).upd Q9 none).upd Ja none).upd Jb none).upd i1 (some ⟨false,85,13,1,(Zj (.ref Zr 0) (.row (n+8) J6.1.length) (.row (n+9) J6.2.1.length) (.row (n+10) J6.2.2.1.length) (.row (n+11) J6.2.2.2.1.length) J6.2.2.2.2.2.2.2.2.1)⟩)).upd i2 (some ⟨false,85,13,1,(Zj (.ref Zr 0) (.row (n+12) J6.2.2.2.2.1.length) (.row (n+13) J6.2.2.2.2.2.1.length) (.row (n+14) J6.2.2.2.2.2.2.1.length) (.row (n+15) J6.2.2.2.2.2.2.2.1.length) J6.2.2.2.2.2.2.2.2.2.1)⟩)).upd Zr (some ⟨false,43,2,1,[(vB J6.2.2.2.2.2.2.2.2.2.2.1),(vB J6.2.2.2.2.2.2.2.2.2.2.2)]⟩)) n [none,none,none,none,none,none,none,none,some (oR 48 4 Zf J6.1),some (oR 50 12 Ze J6.2.1),some (oR 41 14 Zh J6.2.2.1),some (oR 25 3 Za J6.2.2.2.1),some (oR 48 4 Zf J6.2.2.2.2.1),some (oR 50 12 Ze J6.2.2.2.2.2.1),some (oR 41 14 Zh J6.2.2.2.2.2.2.1),some (oR 25 3 Za J6.2.2.2.2.2.2.2.1)])) (n0:=(n+16)) ?_ ?_
 ·refine Qy Z98 (fun Yf=>⟨110,[],[(0,.ref Zr 0),(1,.ref i1 0),(2,.ref i2 0),(3,(sL Ze Yf.1)),(4,(sL Ze Yf.2.1))]⟩) (fun Yf=>(Yn (((((((((((O.upd Q4 none).upd Q5 none).upd Q6 none).upd Q7 none).upd Q8 none).upd Q9 none).upd Ja none).upd Jb none).upd i1 (some ⟨false,85,13,1,(Zj (.ref Zr 0) (.row (n+8) Yf.2.2.1.left.Words.length) (.row (n+9) Yf.2.2.1.left.Kids.length) (.row (n+10) Yf.2.2.1.left.Ops.length) (.row (n+11) Yf.2.2.1.come.length) Yf.2.2.1)⟩)).upd i2 (some ⟨false,85,13,1,(Zj (.ref Zr 0) (.row (n+12) Yf.2.2.2.1.left.Words.length) (.row (n+13) Yf.2.2.2.1.left.Kids.length) (.row (n+14) Yf.2.2.2.1.left.Ops.length) (.row (n+15) Yf.2.2.2.1.come.length) Yf.2.2.2.1)⟩)).upd Zr (some ⟨false,43,2,1,[(vB Yf.2.2.2.2.1),(vB Yf.2.2.2.2.2)]⟩)) n [none,none,none,none,none,none,none,none,some (oR 48 4 Zf Yf.2.2.1.left.Words),some (oR 50 12 Ze Yf.2.2.1.left.Kids),some (oR 41 14 Zh Yf.2.2.1.left.Ops),some (oR 25 3 Za Yf.2.2.1.come),some (oR 48 4 Zf Yf.2.2.2.1.left.Words),some (oR 50 12 Ze Yf.2.2.2.1.left.Kids),some (oR 41 14 Zh Yf.2.2.2.1.left.Ops),some (oR 25 3 Za Yf.2.2.2.1.come)])) (fun J6=>JX 0 n (⟨110,[],[]⟩:Env) (Yn (((((((((((O.upd Q4 none).upd Q5 none).upd Q6 none).upd Q7 none).upd Q8 none).upd Q9 none).upd Ja none).upd Jb none).upd i1 (some ⟨false,85,13,1,(Zj (.ref Zr 0) (.row (n+8) J6.1.length) (.row (n+9) J6.2.1.length) (.row (n+10) J6.2.2.1.length) (.row (n+11) J6.2.2.2.1.length) J6.2.2.2.2.2.2.2.2.1)⟩)).upd i2 (some ⟨false,85,13,1,(Zj (.ref Zr 0) (.row (n+12) J6.2.2.2.2.1.length) (.row (n+13) J6.2.2.2.2.2.1.length) (.row (n+14) J6.2.2.2.2.2.2.1.length) (.row (n+15) J6.2.2.2.2.2.2.2.1.length) J6.2.2.2.2.2.2.2.2.2.1)⟩)).upd Zr (some ⟨false,43,2,1,[(vB J6.2.2.2.2.2.2.2.2.2.2.1),(vB J6.2.2.2.2.2.2.2.2.2.2.2)]⟩)) n [none,none,none,none,none,none,none,none,some (oR 48 4 Zf J6.1),some (oR 50 12 Ze J6.2.1),some (oR 41 14 Zh J6.2.2.1),some (oR 25 3 Za J6.2.2.2.1),some (oR 48 4 Zf J6.2.2.2.2.1),some (oR 50 12 Ze J6.2.2.2.2.2.1),some (oR 41 14 Zh J6.2.2.2.2.2.2.1),some (oR 25 3 Za J6.2.2.2.2.2.2.2.1)]) (n+16)) ?_
  intro Yf x0_ Zu
  unfold Q3 at Zu
  try dsimp only
  refine Z7 ?_
  refine yJ [0,1,2,3,4,19] (Yv Yd [none,none,none] ?_)
  simp only [push_cast,seval,Zc,X2,Qz,X0,Qo,Zk,Zm,Yp,Yq,Yr,Zv,Zx,Zz,Zw,Zy,Z0,Ye,hN]
  refine zG ?_
  refine Yj (t:=(cond (decide (0 < (Yf.1.length:Int))) true (decide (0 < (Yf.2.1.length:Int))))) rfl (fun Z56 => ?_) (fun Z56 => ?_)
  ·replace Zu:=Ym Z56 Zu
   refine uZ [0,1,2,3,4] [false,false,false,false,false,false,false,false,true,true,true,true,true,true,true,true] ?_
   refine Xt ?_
   refine Xt ?_
   obtain ⟨z5,hz5,Zu⟩:=bC Zu
   refine Qf (E':=⟨110,[],[(0,.ref Zr 0),(1,.ref i1 0),(2,.ref i2 0),(3,(sL Ze Yf.1)),(4,(sL Ze Yf.2.1)),(51,(vB z5))]⟩) (O':=(Yn (((((((((((O.upd Q4 none).upd Q5 none).upd Q6 none).upd Q7 none).upd Q8 none).upd Q9 none).upd Ja none).upd Jb none).upd i1 (some ⟨false,85,13,1,(Zj (.ref Zr 0) (.row (n+8) Yf.2.2.1.left.Words.length) (.row (n+9) Yf.2.2.1.left.Kids.length) (.row (n+10) Yf.2.2.1.left.Ops.length) (.row (n+11) Yf.2.2.1.come.length) Yf.2.2.1)⟩)).upd i2 (some ⟨false,85,13,1,(Zj (.ref Zr 0) (.row (n+12) Yf.2.2.2.1.left.Words.length) (.row (n+13) Yf.2.2.2.1.left.Kids.length) (.row (n+14) Yf.2.2.2.1.left.Ops.length) (.row (n+15) Yf.2.2.2.1.come.length) Yf.2.2.2.1)⟩)).upd Zr (some ⟨false,43,2,1,[(vB Yf.2.2.2.2.1),(vB Yf.2.2.2.2.2)]⟩)) n [none,none,none,none,none,none,none,none,some (oR 48 4 Zf Yf.2.2.1.left.Words),some (oR 50 12 Ze Yf.2.2.1.left.Kids),some (oR 41 14 Zh Yf.2.2.1.left.Ops),some (oR 25 3 Za Yf.2.2.1.come),some (oR 48 4 Zf Yf.2.2.2.1.left.Words),some (oR 50 12 Ze Yf.2.2.2.1.left.Kids),some (oR 41 14 Zh Yf.2.2.2.1.left.Ops),some (oR 25 3 Za Yf.2.2.2.1.come)])) (n0:=(n+16)) ?_ ?_
   ·rcases Bool.eq_false_or_eq_true ((Yf.2.1.length:Int) == 0) with c14 | c14
    ·replace hz5:=Ym c14 hz5
     refine Jh Yd (by kernel_rfl) (Z4w []) (by kernel_rfl) ?_
     simp only [push_cast,seval,Zc,c14,X2,Qz,X0,Qo,Zk,Zm,Yp,Yq,Yr,Zv,Zx,Zz,Zw,Zy,Z0,Ye,hN]
     obtain rfl:=sI hz5
     refine And.intro rfl (Fit2.of (Kl hU rfl rfl ?_) (by omega))
     simp only [push_cast,seval,Zc,c14,X2,Qz,X0,Qo,Zk,Zm,Yp,Yq,Yr,Zv,Zx,Zz,Zw,Zy,Z0,Ye,hN]
    replace hz5:=Yl c14 hz5
    rcases Bool.eq_false_or_eq_true (decide (0 < (Yf.1.length:Int))) with c15 | c15
    ·replace hz5:=Ym c15 hz5
     try rw [c15] at c14
     obtain ⟨dB,Zi9,Zqn,Zqq,Zqv,hz5⟩:=bE (f:=Ze) aV (fun _=>rfl) (by decide) hz5
     have g11:=V1 (f:=Ze) (sz:=12) wP (fun _=>rfl) (by decide) (by decide) Zi9
     obtain ⟨gR,Ydc,Z7y,Z8c,Z8p,hz5⟩:=bE (f:=Ze) aV (fun _=>rfl) (by decide) hz5
     have g13:=V1 (f:=Ze) (sz:=12) wP (fun _=>rfl) (by decide) (by decide) Ydc
     refine Jh Yd (by kernel_rfl) (Z40 []) (by kernel_rfl) ?_
     simp only [push_cast,seval,-Int.reduceToNat,Zc,c14,c15,Zqn,Zqq,Zqv,g11,Z7y,Z8c,Z8p,g13,X2,Qz,X0,Qo,Zk,Zm,Yp,Yq,Yr,Zv,Zx,Zz,Zw,Zy,Z0,Ye,hN]
     obtain rfl:=sI hz5
     refine And.intro rfl (Fit2.of (Kl hU rfl rfl ?_) (by omega))
     simp only [push_cast,seval,-Int.reduceToNat,Zc,c14,c15,Zqn,Zqq,Zqv,g11,Z7y,Z8c,Z8p,g13,X2,Qz,X0,Qo,Zk,Zm,Yp,Yq,Yr,Zv,Zx,Zz,Zw,Zy,Z0,Ye,hN]
    replace hz5:=Yl c15 hz5
    try rw [c15] at c14
    refine Jh Yd (by kernel_rfl) (Z0k (Zrp [G7])) (by kernel_rfl) ?_
    simp only [push_cast,seval,Zc,c14,c15,X2,Qz,X0,Qo,Zk,Zm,Yp,Yq,Yr,Zv,Zx,Zz,Zw,Zy,Z0,Ye,hN]
    obtain rfl:=sI hz5
    refine And.intro rfl (Fit2.of (Kl hU rfl rfl ?_) (by omega))
    simp only [push_cast,seval,Zc,c14,c15,X2,Qz,X0,Qo,Zk,Zm,Yp,Yq,Yr,Zv,Zx,Zz,Zw,Zy,Z0,Ye,hN]
   refine Yj (t:=z5) rfl (fun Z55 => ?_) (fun Z55 => ?_)
   ·replace Zu:=Ym Z55 Zu
    refine Z7 ?_
    obtain ⟨x21,Z2t,Zj8,Zka,Zkc,Zu⟩:=bE (f:=Ze) aV (fun _=>rfl) (by decide) Zu
    have g22:=V1 (f:=Ze) (sz:=12) wP (fun _=>rfl) (by decide) (by decide) Z2t
    have g24:=iZ (f:=Ze) (off:=1) (sz:=12) xP (fun _=>rfl) (by decide) (by decide) Z2t
    obtain ⟨y25,Zku,Zu⟩:=bC Zu
    refine oY Yd (by kernel_rfl) [false,false,false,false,false,false,false,false,false,true] [] (by kernel_rfl) ?_
    simp only [push_cast,seval,-Int.reduceToNat,Zc,Zj8,Zka,Zkc,g22,g24,X2,Qz,X0,Qo,Zk,Zm,Yp,Yq,Yr,Zv,Zx,Zz,Zw,Zy,Z0,Ye,hN]
    refine (wI (i0:=i1) (Zr:=Zr) (Yt:=(n+8)) (Y1:=(n+9)) (Y2:=(n+10)) (Xz:=(n+11)) (by omega) (by omega) (by omega) (by omega) (by omega) (by omega) (by omega) (by omega) (by omega) (by omega) (by omega) (by omega) (by omega) (by omega) (by omega) (by omega) (by omega) (by omega) (by omega) (by omega) (by omega) (by simp only [push_cast,seval,Zc,Ya,Zj8,Zka,Zkc,g22,g24,X2,Qz,X0,Qo,Zk,Zm,Yp,Yq,Yr,Zv,Zx,Zz,Zw,Zy,Z0,Ye,hN] <;> rfl) (by simp only [push_cast,seval,Zc,Ya,Zj8,Zka,Zkc,g22,g24,X2,Qz,X0,Qo,Zk,Zm,Yp,Yq,Yr,Zv,Zx,Zz,Zw,Zy,Z0,Ye,hN] <;> rfl) (by simp only [push_cast,seval,Zc,Ya,Zj8,Zka,Zkc,g22,g24,X2,Qz,X0,Qo,Zk,Zm,Yp,Yq,Yr,Zv,Zx,Zz,Zw,Zy,Z0,Ye,hN] <;> rfl) (by simp only [push_cast,seval,Zc,Ya,Zj8,Zka,Zkc,g22,g24,X2,Qz,X0,Qo,Zk,Zm,Yp,Yq,Yr,Zv,Zx,Zz,Zw,Zy,Z0,Ye,hN] <;> rfl) (by simp only [push_cast,seval,Zc,Ya,Zj8,Zka,Zkc,g22,g24,X2,Qz,X0,Qo,Zk,Zm,Yp,Yq,Yr,Zv,Zx,Zz,Zw,Zy,Z0,Ye,hN] <;> rfl) (by simp only [push_cast,seval,Zc,Ya,Zj8,Zka,Zkc,g22,g24,X2,Qz,X0,Qo,Zk,Zm,Yp,Yq,Yr,Zv,Zx,Zz,Zw,Zy,Z0,Ye,hN] <;> rfl) Zku).then ?_
    simp only [push_cast,seval,-Int.reduceToNat,Zc,Zj8,Zka,Zkc,g22,g24,X2,Qz,X0,Qo,Zk,Zm,Yp,Yq,Yr,Zv,Zx,Zz,Zw,Zy,Z0,Ye,hN]
    refine zD [0,1,2,3,4] [false,false,false,false,false,false,false,false,false,false,false,false,true,true,true,true,true,true,true,true] ?_
    obtain ⟨l26,Z7p,Z77,Z8j,Z84,Zu⟩:=bS (lo:=(some (.i64,1))) (hi:=none) (f:=Ze) rfl rfl jM aV (fun _=>rfl) Zu
    refine Yv Yd [] ?_
    simp only [push_cast,seval,Zc,Z7p,Z77,Z8j,Z84,X2,Qz,X0,Qo,Zk,Zm,Yp,Yq,Yr,Zv,Zx,Zz,Zw,Zy,Z0,Ye,hN]
    obtain rfl:=sI Zu
    refine And.intro rfl ?_
    refine fr3 (k:=20) (k':=16) hU [7,7,7,7,7,7,7,7,7,7,7,7,12,13,14,15,8,9,10,11] [0,0,0,0,0,0,0,0,16,17,18,19,12,13,14,15] (zM3 X2 X0 Zk) ?_ ?_
    ·simp only [push_cast,seval,Zc,Z7p,Z77,Z8j,Z84,X2,Qz,X0,Qo,Zk,Zm,Yp,Yq,Yr,Zv,Zx,Zz,Zw,Zy,Z0,Ye,hN]
    simp only [push_cast,seval,Zc,X2,Qz,X0,Qo,Zk,Zm,Yp,Yq,Yr,Zv,Zx,Zz,Zw,Zy,Z0,Ye,hN]
   replace Zu:=Yl Z55 Zu
   obtain ⟨z31,Znj,Zu⟩:=bC Zu
   refine Qf (E':=⟨110,[],[(0,.ref Zr 0),(1,.ref i1 0),(2,.ref i2 0),(3,(sL Ze Yf.1)),(4,(sL Ze Yf.2.1)),(83,(vB z31))]⟩) (O':=(Yn (((((((((((O.upd Q4 none).upd Q5 none).upd Q6 none).upd Q7 none).upd Q8 none).upd Q9 none).upd Ja none).upd Jb none).upd i1 (some ⟨false,85,13,1,(Zj (.ref Zr 0) (.row (n+8) Yf.2.2.1.left.Words.length) (.row (n+9) Yf.2.2.1.left.Kids.length) (.row (n+10) Yf.2.2.1.left.Ops.length) (.row (n+11) Yf.2.2.1.come.length) Yf.2.2.1)⟩)).upd i2 (some ⟨false,85,13,1,(Zj (.ref Zr 0) (.row (n+12) Yf.2.2.2.1.left.Words.length) (.row (n+13) Yf.2.2.2.1.left.Kids.length) (.row (n+14) Yf.2.2.2.1.left.Ops.length) (.row (n+15) Yf.2.2.2.1.come.length) Yf.2.2.2.1)⟩)).upd Zr (some ⟨false,43,2,1,[(vB Yf.2.2.2.2.1),(vB Yf.2.2.2.2.2)]⟩)) n [none,none,none,none,none,none,none,none,some (oR 48 4 Zf Yf.2.2.1.left.Words),some (oR 50 12 Ze Yf.2.2.1.left.Kids),some (oR 41 14 Zh Yf.2.2.1.left.Ops),some (oR 25 3 Za Yf.2.2.1.come),some (oR 48 4 Zf Yf.2.2.2.1.left.Words),some (oR 50 12 Ze Yf.2.2.2.1.left.Kids),some (oR 41 14 Zh Yf.2.2.2.1.left.Ops),some (oR 25 3 Za Yf.2.2.2.1.come)])) (n0:=(n+16)) ?_ ?_
   ·rcases Bool.eq_false_or_eq_true ((Yf.1.length:Int) == 0) with c40 | c40
    ·replace Znj:=Ym c40 Znj
     refine Jh Yd (by kernel_rfl) (Zrp []) (by kernel_rfl) ?_
     simp only [push_cast,seval,Zc,c40,X2,Qz,X0,Qo,Zk,Zm,Yp,Yq,Yr,Zv,Zx,Zz,Zw,Zy,Z0,Ye,hN]
     obtain rfl:=sI Znj
     refine And.intro rfl (Fit2.of (Kl hU rfl rfl ?_) (by omega))
     simp only [push_cast,seval,Zc,c40,X2,Qz,X0,Qo,Zk,Zm,Yp,Yq,Yr,Zv,Zx,Zz,Zw,Zy,Z0,Ye,hN]
    replace Znj:=Yl c40 Znj
    obtain ⟨x36,Ydg,Z72,Z8g,Z8t,Znj⟩:=bE (f:=Ze) aV (fun _=>rfl) (by decide) Znj
    have g37:=V1 (f:=Ze) (sz:=12) wP (fun _=>rfl) (by decide) (by decide) Ydg
    obtain ⟨x38,Ydh,Z73,Z8h,Z8u,Znj⟩:=bE (f:=Ze) aV (fun _=>rfl) (by decide) Znj
    have g39:=V1 (f:=Ze) (sz:=12) wP (fun _=>rfl) (by decide) (by decide) Ydh
    refine Jh Yd (by kernel_rfl) (Z6z []) (by kernel_rfl) ?_
    simp only [push_cast,seval,-Int.reduceToNat,Zc,c40,Z72,Z8g,Z8t,g37,Z73,Z8h,Z8u,g39,X2,Qz,X0,Qo,Zk,Zm,Yp,Yq,Yr,Zv,Zx,Zz,Zw,Zy,Z0,Ye,hN]
    obtain rfl:=sI Znj
    refine And.intro rfl (Fit2.of (Kl hU rfl rfl ?_) (by omega))
    simp only [push_cast,seval,-Int.reduceToNat,Zc,c40,Z72,Z8g,Z8t,g37,Z73,Z8h,Z8u,g39,X2,Qz,X0,Qo,Zk,Zm,Yp,Yq,Yr,Zv,Zx,Zz,Zw,Zy,Z0,Ye,hN]
   refine Yj (t:=z31) rfl (fun Z54 => ?_) (fun Z54 => ?_)
   ·replace Zu:=Ym Z54 Zu
    refine Z7 ?_
    obtain ⟨x46,Z9l,Zqo,Zqr,Zqw,Zu⟩:=bE (f:=Ze) aV (fun _=>rfl) (by decide) Zu
    have g47:=V1 (f:=Ze) (sz:=12) wP (fun _=>rfl) (by decide) (by decide) Z9l
    have g49:=iZ (f:=Ze) (off:=1) (sz:=12) xP (fun _=>rfl) (by decide) (by decide) Z9l
    obtain ⟨y50,Ydm,Zu⟩:=bC Zu
    refine oY Yd (by kernel_rfl) [false,false,false,false,false,false,false,false,false,true] [] (by kernel_rfl) ?_
    simp only [push_cast,seval,-Int.reduceToNat,Zc,Zqo,Zqr,Zqw,g47,g49,X2,Qz,X0,Qo,Zk,Zm,Yp,Yq,Yr,Zv,Zx,Zz,Zw,Zy,Z0,Ye,hN]
    refine (wI (i0:=i2) (Zr:=Zr) (Yt:=(n+12)) (Y1:=(n+13)) (Y2:=(n+14)) (Xz:=(n+15)) (by omega) (by omega) (by omega) (by omega) (by omega) (by omega) (by omega) (by omega) (by omega) (by omega) (by omega) (by omega) (by omega) (by omega) (by omega) (by omega) (by omega) (by omega) (by omega) (by omega) (by omega) (by simp only [push_cast,seval,Zc,Ya,Zqo,Zqr,Zqw,g47,g49,X2,Qz,X0,Qo,Zk,Zm,Yp,Yq,Yr,Zv,Zx,Zz,Zw,Zy,Z0,Ye,hN] <;> rfl) (by simp only [push_cast,seval,Zc,Ya,Zqo,Zqr,Zqw,g47,g49,X2,Qz,X0,Qo,Zk,Zm,Yp,Yq,Yr,Zv,Zx,Zz,Zw,Zy,Z0,Ye,hN] <;> rfl) (by simp only [push_cast,seval,Zc,Ya,Zqo,Zqr,Zqw,g47,g49,X2,Qz,X0,Qo,Zk,Zm,Yp,Yq,Yr,Zv,Zx,Zz,Zw,Zy,Z0,Ye,hN] <;> rfl) (by simp only [push_cast,seval,Zc,Ya,Zqo,Zqr,Zqw,g47,g49,X2,Qz,X0,Qo,Zk,Zm,Yp,Yq,Yr,Zv,Zx,Zz,Zw,Zy,Z0,Ye,hN] <;> rfl) (by simp only [push_cast,seval,Zc,Ya,Zqo,Zqr,Zqw,g47,g49,X2,Qz,X0,Qo,Zk,Zm,Yp,Yq,Yr,Zv,Zx,Zz,Zw,Zy,Z0,Ye,hN] <;> rfl) (by simp only [push_cast,seval,Zc,Ya,Zqo,Zqr,Zqw,g47,g49,X2,Qz,X0,Qo,Zk,Zm,Yp,Yq,Yr,Zv,Zx,Zz,Zw,Zy,Z0,Ye,hN] <;> rfl) Ydm).then ?_
    simp only [push_cast,seval,-Int.reduceToNat,Zc,Zqo,Zqr,Zqw,g47,g49,X2,Qz,X0,Qo,Zk,Zm,Yp,Yq,Yr,Zv,Zx,Zz,Zw,Zy,Z0,Ye,hN]
    refine zD [0,1,2,3,4] [false,false,false,false,false,false,false,false,true,true,true,true,false,false,false,false,true,true,true,true] ?_
    obtain ⟨l51,Z7q,Z78,Z8k,Z85,Zu⟩:=bS (lo:=(some (.i64,1))) (hi:=none) (f:=Ze) rfl rfl jM aV (fun _=>rfl) Zu
    refine Yv Yd [] ?_
    simp only [push_cast,seval,Zc,Z7q,Z78,Z8k,Z85,X2,Qz,X0,Qo,Zk,Zm,Yp,Yq,Yr,Zv,Zx,Zz,Zw,Zy,Z0,Ye,hN]
    obtain rfl:=sI Zu
    refine And.intro rfl ?_
    refine fr3 (k:=20) (k':=16) hU [7,7,7,7,7,7,7,7,8,9,10,11,7,7,7,7,12,13,14,15] [0,0,0,0,0,0,0,0,8,9,10,11,16,17,18,19] (zM3 X2 X0 Zk) ?_ ?_
    ·simp only [push_cast,seval,Zc,Z7q,Z78,Z8k,Z85,X2,Qz,X0,Qo,Zk,Zm,Yp,Yq,Yr,Zv,Zx,Zz,Zw,Zy,Z0,Ye,hN]
    simp only [push_cast,seval,Zc,X2,Qz,X0,Qo,Zk,Zm,Yp,Yq,Yr,Zv,Zx,Zz,Zw,Zy,Z0,Ye,hN]
   replace Zu:=Yl Z54 Zu
   obtain ⟨x76,Ydi,Km,Ko,Kp,Zu⟩:=bE (f:=Ze) aV (fun _=>rfl) (by decide) Zu
   have Kq:=iZ (f:=Ze) (off:=1) (sz:=12) xP (fun _=>rfl) (by decide) (by decide) Ydi
   obtain ⟨Ycg,Z9d,Ql,Qm,Qn,Zu⟩:=bE (f:=Ze) aV (fun _=>rfl) (by decide) Zu
   have Kr:=iZ (f:=Ze) (off:=1) (sz:=12) xP (fun _=>rfl) (by decide) (by decide) Z9d
   obtain ⟨Ztk,Zre,Zu⟩:=bC Zu
   refine Qf (E':=⟨110,[],[(0,.ref Zr 0),(1,.ref i1 0),(2,.ref i2 0),(3,(sL Ze Yf.1)),(4,(sL Ze Yf.2.1)),(10,.ref (n+16) 0),(11,.ref (n+17) 0)]⟩) (O':=(Yn (((((((((((O.upd Q4 none).upd Q5 none).upd Q6 none).upd Q7 none).upd Q8 none).upd Q9 none).upd Ja none).upd Jb none).upd i1 (some ⟨false,85,13,1,(Zj (.ref Zr 0) (.row (n+8) Yf.2.2.1.left.Words.length) (.row (n+9) Yf.2.2.1.left.Kids.length) (.row (n+10) Yf.2.2.1.left.Ops.length) (.row (n+11) Yf.2.2.1.come.length) Yf.2.2.1)⟩)).upd i2 (some ⟨false,85,13,1,(Zj (.ref Zr 0) (.row (n+12) Yf.2.2.2.1.left.Words.length) (.row (n+13) Yf.2.2.2.1.left.Kids.length) (.row (n+14) Yf.2.2.2.1.left.Ops.length) (.row (n+15) Yf.2.2.2.1.come.length) Yf.2.2.2.1)⟩)).upd Zr (some ⟨false,43,2,1,[(vB Ztk.2.2.apart),(vB Ztk.2.2.clash)]⟩)) n [none,none,none,none,none,none,none,none,some (oR 48 4 Zf Yf.2.2.1.left.Words),some (oR 50 12 Ze Yf.2.2.1.left.Kids),some (oR 41 14 Zh Yf.2.2.1.left.Ops),some (oR 25 3 Za Yf.2.2.1.come),some (oR 48 4 Zf Yf.2.2.2.1.left.Words),some (oR 50 12 Ze Yf.2.2.2.1.left.Kids),some (oR 41 14 Zh Yf.2.2.2.1.left.Ops),some (oR 25 3 Za Yf.2.2.2.1.come),some ⟨false,30,11,1,(Zl Ztk.1)⟩,some ⟨false,30,11,1,(Zl Ztk.2.1)⟩])) (n0:=(n+18)) ?_ ?_
   ·refine Zed Yd (by kernel_rfl) [.plain,.plain,.low,.low,.low,.plain,.low,.low,.low,.pass,.plain,.plain,.plain,.pass,.pass,.pass,.pass] (fun i=>i < (n+16)∧¬ i=Zr) [0,1,2,3,4,5,6,7,8] [9,10,11,12,13,14] [15,16] (.alt 9 (.alt 10 (.alt 11 (.alt 12 (.alt 13 (.seq [14]) (.one 14 (.seq [13]))) (.alt 13 (.seq [12,14]) (.one 14 (.seq [12,13])))) (.alt 12 (.alt 11 (.alt 13 (.seq [14]) (.one 14 (.seq [13]))) (.alt 13 (.seq [11,14]) (.one 14 (.seq [11,13])))) (.alt 13 (.seq [11,12,14]) (.one 14 (.seq [11,12,13]))))) (.alt 13 (.seq [10,11,12,14]) (.one 14 (.seq [10,11,12,13])))) (.alt 13 (.alt 9 (.seq [10,11,12,14]) (.one 14 (.seq [9,10,11,12]))) (.one 14 (.alt 9 (.seq [10,11,12,13]) (.one 13 (.seq [9,10,11,12])))))) [.plain,.plain,.low,.low,.low,.plain,.low,.low,.low] [] (by kernel_rfl) rfl ?_
    simp (maxSteps:=4000000) only [push_cast,seval,-Int.reduceToNat,Zc,Km,Ko,Kp,Kq,Ql,Qm,Qn,Kr,X2,Qz,X0,Qo,Zk,Zm,Yp,Yq,Yr,Zv,Zx,Zz,Zw,Zy,Z0,Ye,hN]
    repeat (with_reducible refine And.intro (by omega) ?_)
    try simp only [push_cast,seval,-Int.reduceToNat,Zc,Km,Ko,Kp,Kq,Ql,Qm,Qn,Kr,X2,Qz,X0,Qo,Zk,Zm,Yp,Yq,Yr,Zv,Zx,Zz,Zw,Zy,Z0,Ye,hN]
    refine And.intro ?_ ?_
    ·try simp only [push_cast,seval,-Int.reduceToNat,Zc,Km,Ko,Kp,Kq,Ql,Qm,Qn,Kr,X2,Qz,X0,Qo,Zk,Zm,Yp,Yq,Yr,Zv,Zx,Zz,Zw,Zy,Z0,Ye,hN]
     repeat (with_reducible refine And.intro (by first | exact Yi rfl | exact Yc | exact Yk rfl | exact Yg rfl | exact Xs rfl | exact Xj) ?_)
     refine (Jc (Zr:=Zr) (by omega) (by simp only [push_cast,seval,Zc,Ya,Km,Ko,Kp,Kq,Ql,Qm,Qn,Kr,X2,Qz,X0,Qo,Zk,Zm,Yp,Yq,Yr,Zv,Zx,Zz,Zw,Zy,Z0,Ye,hN] <;> rfl) Zre).then ?_
     try simp only [push_cast,seval,-Int.reduceToNat,Zc,Km,Ko,Kp,Kq,Ql,Qm,Qn,Kr,X2,Qz,X0,Qo,Zk,Zm,Yp,Yq,Yr,Zv,Zx,Zz,Zw,Zy,Z0,Ye,hN]
     repeat (with_reducible refine And.intro (by first | exact Yi rfl | exact Yc | exact Yk rfl | exact Yg rfl | exact Xs rfl | exact Xj) ?_)
     try simp only [push_cast,seval,-Int.reduceToNat,Zc,Km,Ko,Kp,Kq,Ql,Qm,Qn,Kr,X2,Qz,X0,Qo,Zk,Zm,Yp,Yq,Yr,Zv,Zx,Zz,Zw,Zy,Z0,Ye,hN]
     refine And.intro ?_ ?_
     ·try simp only [push_cast,seval,-Int.reduceToNat,Zc,Km,Ko,Kp,Kq,Ql,Qm,Qn,Kr,X2,Qz,X0,Qo,Zk,Zm,Yp,Yq,Yr,Zv,Zx,Zz,Zw,Zy,Z0,Ye,hN]
      repeat (with_reducible refine And.intro (by first | exact Yi rfl | exact Yc | exact Yk rfl | exact Yg rfl | exact Xs rfl | exact Xj) ?_)
      try simp only [push_cast,seval,-Int.reduceToNat,Zc,Km,Ko,Kp,Kq,Ql,Qm,Qn,Kr,X2,Qz,X0,Qo,Zk,Zm,Yp,Yq,Yr,Zv,Zx,Zz,Zw,Zy,Z0,Ye,hN]
      refine And.intro ?_ ?_
      ·try simp only [push_cast,seval,-Int.reduceToNat,Zc,Km,Ko,Kp,Kq,Ql,Qm,Qn,Kr,X2,Qz,X0,Qo,Zk,Zm,Yp,Yq,Yr,Zv,Zx,Zz,Zw,Zy,Z0,Ye,hN]
       repeat (with_reducible refine And.intro (by first | exact Yi rfl | exact Yc | exact Yk rfl | exact Yg rfl | exact Xs rfl | exact Xj) ?_)
       try simp only [push_cast,seval,-Int.reduceToNat,Zc,Km,Ko,Kp,Kq,Ql,Qm,Qn,Kr,X2,Qz,X0,Qo,Zk,Zm,Yp,Yq,Yr,Zv,Zx,Zz,Zw,Zy,Z0,Ye,hN]
       refine And.intro ?_ ?_
       ·try simp only [push_cast,seval,-Int.reduceToNat,Zc,Km,Ko,Kp,Kq,Ql,Qm,Qn,Kr,X2,Qz,X0,Qo,Zk,Zm,Yp,Yq,Yr,Zv,Zx,Zz,Zw,Zy,Z0,Ye,hN]
        repeat (with_reducible refine And.intro (by first | exact Yi rfl | exact Yc | exact Yk rfl | exact Yg rfl | exact Xs rfl | exact Xj) ?_)
        try simp only [push_cast,seval,-Int.reduceToNat,Zc,Km,Ko,Kp,Kq,Ql,Qm,Qn,Kr,X2,Qz,X0,Qo,Zk,Zm,Yp,Yq,Yr,Zv,Zx,Zz,Zw,Zy,Z0,Ye,hN]
        refine And.intro ?_ ?_
        ·try simp only [push_cast,seval,-Int.reduceToNat,Zc,Km,Ko,Kp,Kq,Ql,Qm,Qn,Kr,X2,Qz,X0,Qo,Zk,Zm,Yp,Yq,Yr,Zv,Zx,Zz,Zw,Zy,Z0,Ye,hN]
         repeat (with_reducible refine And.intro (by first | exact Yi rfl | exact Yc | exact Yk rfl | exact Yg rfl | exact Xs rfl | exact Xj) ?_)
         try simp only [push_cast,seval,-Int.reduceToNat,Zc,Km,Ko,Kp,Kq,Ql,Qm,Qn,Kr,X2,Qz,X0,Qo,Zk,Zm,Yp,Yq,Yr,Zv,Zx,Zz,Zw,Zy,Z0,Ye,hN]
         repeat (with_reducible refine And.intro (by first | exact Yi rfl | exact Yc | exact Yk rfl | exact Yg rfl | exact Xs rfl | exact Xj) ?_)
         refine And.intro rfl (Fit2.of (Kl hU rfl rfl ?_) (by omega))
         simp only [push_cast,seval,-Int.reduceToNat,Zc,Km,Ko,Kp,Kq,Ql,Qm,Qn,Kr,X2,Qz,X0,Qo,Zk,Zm,Yp,Yq,Yr,Zv,Zx,Zz,Zw,Zy,Z0,Ye,hN]
        try simp only [push_cast,seval,-Int.reduceToNat,Zc,Km,Ko,Kp,Kq,Ql,Qm,Qn,Kr,X2,Qz,X0,Qo,Zk,Zm,Yp,Yq,Yr,Zv,Zx,Zz,Zw,Zy,Z0,Ye,hN]
        repeat (with_reducible refine And.intro (by first | exact Yi rfl | exact Yc | exact Yk rfl | exact Yg rfl | exact Xs rfl | exact Xj) ?_)
        try simp only [push_cast,seval,-Int.reduceToNat,Zc,Km,Ko,Kp,Kq,Ql,Qm,Qn,Kr,X2,Qz,X0,Qo,Zk,Zm,Yp,Yq,Yr,Zv,Zx,Zz,Zw,Zy,Z0,Ye,hN]
        repeat (with_reducible refine And.intro (by first | exact Yi rfl | exact Yc | exact Yk rfl | exact Yg rfl | exact Xs rfl | exact Xj) ?_)
        refine And.intro rfl ?_
        refine fr3 (k:=18) (k':=18) hU [0,1,2,3,4,5,6,7,8,9,10,11,12,13,14,15,17,16] [0,1,2,3,4,5,6,7,8,9,10,11,12,13,14,15,17,16] (zM3 X2 X0 Zk) ?_ ?_
        ·simp only [push_cast,seval,-Int.reduceToNat,Zc,Km,Ko,Kp,Kq,Ql,Qm,Qn,Kr,X2,Qz,X0,Qo,Zk,Zm,Yp,Yq,Yr,Zv,Zx,Zz,Zw,Zy,Z0,Ye,hN]
        simp only [push_cast,seval,Zc,X2,Qz,X0,Qo,Zk,Zm,Yp,Yq,Yr,Zv,Zx,Zz,Zw,Zy,Z0,Ye,hN]
       try simp only [push_cast,seval,-Int.reduceToNat,Zc,Km,Ko,Kp,Kq,Ql,Qm,Qn,Kr,X2,Qz,X0,Qo,Zk,Zm,Yp,Yq,Yr,Zv,Zx,Zz,Zw,Zy,Z0,Ye,hN]
       refine And.intro ?_ ?_
       ·try simp only [push_cast,seval,-Int.reduceToNat,Zc,Km,Ko,Kp,Kq,Ql,Qm,Qn,Kr,X2,Qz,X0,Qo,Zk,Zm,Yp,Yq,Yr,Zv,Zx,Zz,Zw,Zy,Z0,Ye,hN]
        repeat (with_reducible refine And.intro (by first | exact Yi rfl | exact Yc | exact Yk rfl | exact Yg rfl | exact Xs rfl | exact Xj) ?_)
        try simp only [push_cast,seval,-Int.reduceToNat,Zc,Km,Ko,Kp,Kq,Ql,Qm,Qn,Kr,X2,Qz,X0,Qo,Zk,Zm,Yp,Yq,Yr,Zv,Zx,Zz,Zw,Zy,Z0,Ye,hN]
        repeat (with_reducible refine And.intro (by first | exact Yi rfl | exact Yc | exact Yk rfl | exact Yg rfl | exact Xs rfl | exact Xj) ?_)
        refine And.intro rfl (Fit2.of (Kl hU rfl rfl ?_) (by omega))
        simp only [push_cast,seval,-Int.reduceToNat,Zc,Km,Ko,Kp,Kq,Ql,Qm,Qn,Kr,X2,Qz,X0,Qo,Zk,Zm,Yp,Yq,Yr,Zv,Zx,Zz,Zw,Zy,Z0,Ye,hN]
       try simp only [push_cast,seval,-Int.reduceToNat,Zc,Km,Ko,Kp,Kq,Ql,Qm,Qn,Kr,X2,Qz,X0,Qo,Zk,Zm,Yp,Yq,Yr,Zv,Zx,Zz,Zw,Zy,Z0,Ye,hN]
       repeat (with_reducible refine And.intro (by first | exact Yi rfl | exact Yc | exact Yk rfl | exact Yg rfl | exact Xs rfl | exact Xj) ?_)
       try simp only [push_cast,seval,-Int.reduceToNat,Zc,Km,Ko,Kp,Kq,Ql,Qm,Qn,Kr,X2,Qz,X0,Qo,Zk,Zm,Yp,Yq,Yr,Zv,Zx,Zz,Zw,Zy,Z0,Ye,hN]
       repeat (with_reducible refine And.intro (by first | exact Yi rfl | exact Yc | exact Yk rfl | exact Yg rfl | exact Xs rfl | exact Xj) ?_)
       refine And.intro rfl ?_
       refine fr3 (k:=18) (k':=18) hU [0,1,2,3,4,5,6,7,8,9,10,11,12,13,14,15,17,16] [0,1,2,3,4,5,6,7,8,9,10,11,12,13,14,15,17,16] (zM3 X2 X0 Zk) ?_ ?_
       ·simp only [push_cast,seval,-Int.reduceToNat,Zc,Km,Ko,Kp,Kq,Ql,Qm,Qn,Kr,X2,Qz,X0,Qo,Zk,Zm,Yp,Yq,Yr,Zv,Zx,Zz,Zw,Zy,Z0,Ye,hN]
       simp only [push_cast,seval,Zc,X2,Qz,X0,Qo,Zk,Zm,Yp,Yq,Yr,Zv,Zx,Zz,Zw,Zy,Z0,Ye,hN]
      try simp only [push_cast,seval,-Int.reduceToNat,Zc,Km,Ko,Kp,Kq,Ql,Qm,Qn,Kr,X2,Qz,X0,Qo,Zk,Zm,Yp,Yq,Yr,Zv,Zx,Zz,Zw,Zy,Z0,Ye,hN]
      refine And.intro ?_ ?_
      ·try simp only [push_cast,seval,-Int.reduceToNat,Zc,Km,Ko,Kp,Kq,Ql,Qm,Qn,Kr,X2,Qz,X0,Qo,Zk,Zm,Yp,Yq,Yr,Zv,Zx,Zz,Zw,Zy,Z0,Ye,hN]
       repeat (with_reducible refine And.intro (by first | exact Yi rfl | exact Yc | exact Yk rfl | exact Yg rfl | exact Xs rfl | exact Xj) ?_)
       try simp only [push_cast,seval,-Int.reduceToNat,Zc,Km,Ko,Kp,Kq,Ql,Qm,Qn,Kr,X2,Qz,X0,Qo,Zk,Zm,Yp,Yq,Yr,Zv,Zx,Zz,Zw,Zy,Z0,Ye,hN]
       refine And.intro ?_ ?_
       ·try simp only [push_cast,seval,-Int.reduceToNat,Zc,Km,Ko,Kp,Kq,Ql,Qm,Qn,Kr,X2,Qz,X0,Qo,Zk,Zm,Yp,Yq,Yr,Zv,Zx,Zz,Zw,Zy,Z0,Ye,hN]
        repeat (with_reducible refine And.intro (by first | exact Yi rfl | exact Yc | exact Yk rfl | exact Yg rfl | exact Xs rfl | exact Xj) ?_)
        try simp only [push_cast,seval,-Int.reduceToNat,Zc,Km,Ko,Kp,Kq,Ql,Qm,Qn,Kr,X2,Qz,X0,Qo,Zk,Zm,Yp,Yq,Yr,Zv,Zx,Zz,Zw,Zy,Z0,Ye,hN]
        refine And.intro ?_ ?_
        ·try simp only [push_cast,seval,-Int.reduceToNat,Zc,Km,Ko,Kp,Kq,Ql,Qm,Qn,Kr,X2,Qz,X0,Qo,Zk,Zm,Yp,Yq,Yr,Zv,Zx,Zz,Zw,Zy,Z0,Ye,hN]
         repeat (with_reducible refine And.intro (by first | exact Yi rfl | exact Yc | exact Yk rfl | exact Yg rfl | exact Xs rfl | exact Xj) ?_)
         try simp only [push_cast,seval,-Int.reduceToNat,Zc,Km,Ko,Kp,Kq,Ql,Qm,Qn,Kr,X2,Qz,X0,Qo,Zk,Zm,Yp,Yq,Yr,Zv,Zx,Zz,Zw,Zy,Z0,Ye,hN]
         repeat (with_reducible refine And.intro (by first | exact Yi rfl | exact Yc | exact Yk rfl | exact Yg rfl | exact Xs rfl | exact Xj) ?_)
         refine And.intro rfl (Fit2.of (Kl hU rfl rfl ?_) (by omega))
         simp only [push_cast,seval,-Int.reduceToNat,Zc,Km,Ko,Kp,Kq,Ql,Qm,Qn,Kr,X2,Qz,X0,Qo,Zk,Zm,Yp,Yq,Yr,Zv,Zx,Zz,Zw,Zy,Z0,Ye,hN]
        try simp only [push_cast,seval,-Int.reduceToNat,Zc,Km,Ko,Kp,Kq,Ql,Qm,Qn,Kr,X2,Qz,X0,Qo,Zk,Zm,Yp,Yq,Yr,Zv,Zx,Zz,Zw,Zy,Z0,Ye,hN]
        repeat (with_reducible refine And.intro (by first | exact Yi rfl | exact Yc | exact Yk rfl | exact Yg rfl | exact Xs rfl | exact Xj) ?_)
        try simp only [push_cast,seval,-Int.reduceToNat,Zc,Km,Ko,Kp,Kq,Ql,Qm,Qn,Kr,X2,Qz,X0,Qo,Zk,Zm,Yp,Yq,Yr,Zv,Zx,Zz,Zw,Zy,Z0,Ye,hN]
        repeat (with_reducible refine And.intro (by first | exact Yi rfl | exact Yc | exact Yk rfl | exact Yg rfl | exact Xs rfl | exact Xj) ?_)
        refine And.intro rfl ?_
        refine fr3 (k:=18) (k':=18) hU [0,1,2,3,4,5,6,7,8,9,10,11,12,13,14,15,17,16] [0,1,2,3,4,5,6,7,8,9,10,11,12,13,14,15,17,16] (zM3 X2 X0 Zk) ?_ ?_
        ·simp only [push_cast,seval,-Int.reduceToNat,Zc,Km,Ko,Kp,Kq,Ql,Qm,Qn,Kr,X2,Qz,X0,Qo,Zk,Zm,Yp,Yq,Yr,Zv,Zx,Zz,Zw,Zy,Z0,Ye,hN]
        simp only [push_cast,seval,Zc,X2,Qz,X0,Qo,Zk,Zm,Yp,Yq,Yr,Zv,Zx,Zz,Zw,Zy,Z0,Ye,hN]
       try simp only [push_cast,seval,-Int.reduceToNat,Zc,Km,Ko,Kp,Kq,Ql,Qm,Qn,Kr,X2,Qz,X0,Qo,Zk,Zm,Yp,Yq,Yr,Zv,Zx,Zz,Zw,Zy,Z0,Ye,hN]
       refine And.intro ?_ ?_
       ·try simp only [push_cast,seval,-Int.reduceToNat,Zc,Km,Ko,Kp,Kq,Ql,Qm,Qn,Kr,X2,Qz,X0,Qo,Zk,Zm,Yp,Yq,Yr,Zv,Zx,Zz,Zw,Zy,Z0,Ye,hN]
        repeat (with_reducible refine And.intro (by first | exact Yi rfl | exact Yc | exact Yk rfl | exact Yg rfl | exact Xs rfl | exact Xj) ?_)
        try simp only [push_cast,seval,-Int.reduceToNat,Zc,Km,Ko,Kp,Kq,Ql,Qm,Qn,Kr,X2,Qz,X0,Qo,Zk,Zm,Yp,Yq,Yr,Zv,Zx,Zz,Zw,Zy,Z0,Ye,hN]
        repeat (with_reducible refine And.intro (by first | exact Yi rfl | exact Yc | exact Yk rfl | exact Yg rfl | exact Xs rfl | exact Xj) ?_)
        refine And.intro rfl (Fit2.of (Kl hU rfl rfl ?_) (by omega))
        simp only [push_cast,seval,-Int.reduceToNat,Zc,Km,Ko,Kp,Kq,Ql,Qm,Qn,Kr,X2,Qz,X0,Qo,Zk,Zm,Yp,Yq,Yr,Zv,Zx,Zz,Zw,Zy,Z0,Ye,hN]
       try simp only [push_cast,seval,-Int.reduceToNat,Zc,Km,Ko,Kp,Kq,Ql,Qm,Qn,Kr,X2,Qz,X0,Qo,Zk,Zm,Yp,Yq,Yr,Zv,Zx,Zz,Zw,Zy,Z0,Ye,hN]
       repeat (with_reducible refine And.intro (by first | exact Yi rfl | exact Yc | exact Yk rfl | exact Yg rfl | exact Xs rfl | exact Xj) ?_)
       try simp only [push_cast,seval,-Int.reduceToNat,Zc,Km,Ko,Kp,Kq,Ql,Qm,Qn,Kr,X2,Qz,X0,Qo,Zk,Zm,Yp,Yq,Yr,Zv,Zx,Zz,Zw,Zy,Z0,Ye,hN]
       repeat (with_reducible refine And.intro (by first | exact Yi rfl | exact Yc | exact Yk rfl | exact Yg rfl | exact Xs rfl | exact Xj) ?_)
       refine And.intro rfl ?_
       refine fr3 (k:=18) (k':=18) hU [0,1,2,3,4,5,6,7,8,9,10,11,12,13,14,15,17,16] [0,1,2,3,4,5,6,7,8,9,10,11,12,13,14,15,17,16] (zM3 X2 X0 Zk) ?_ ?_
       ·simp only [push_cast,seval,-Int.reduceToNat,Zc,Km,Ko,Kp,Kq,Ql,Qm,Qn,Kr,X2,Qz,X0,Qo,Zk,Zm,Yp,Yq,Yr,Zv,Zx,Zz,Zw,Zy,Z0,Ye,hN]
       simp only [push_cast,seval,Zc,X2,Qz,X0,Qo,Zk,Zm,Yp,Yq,Yr,Zv,Zx,Zz,Zw,Zy,Z0,Ye,hN]
      try simp only [push_cast,seval,-Int.reduceToNat,Zc,Km,Ko,Kp,Kq,Ql,Qm,Qn,Kr,X2,Qz,X0,Qo,Zk,Zm,Yp,Yq,Yr,Zv,Zx,Zz,Zw,Zy,Z0,Ye,hN]
      refine And.intro ?_ ?_
      ·try simp only [push_cast,seval,-Int.reduceToNat,Zc,Km,Ko,Kp,Kq,Ql,Qm,Qn,Kr,X2,Qz,X0,Qo,Zk,Zm,Yp,Yq,Yr,Zv,Zx,Zz,Zw,Zy,Z0,Ye,hN]
       repeat (with_reducible refine And.intro (by first | exact Yi rfl | exact Yc | exact Yk rfl | exact Yg rfl | exact Xs rfl | exact Xj) ?_)
       try simp only [push_cast,seval,-Int.reduceToNat,Zc,Km,Ko,Kp,Kq,Ql,Qm,Qn,Kr,X2,Qz,X0,Qo,Zk,Zm,Yp,Yq,Yr,Zv,Zx,Zz,Zw,Zy,Z0,Ye,hN]
       repeat (with_reducible refine And.intro (by first | exact Yi rfl | exact Yc | exact Yk rfl | exact Yg rfl | exact Xs rfl | exact Xj) ?_)
       refine And.intro rfl (Fit2.of (Kl hU rfl rfl ?_) (by omega))
       simp only [push_cast,seval,-Int.reduceToNat,Zc,Km,Ko,Kp,Kq,Ql,Qm,Qn,Kr,X2,Qz,X0,Qo,Zk,Zm,Yp,Yq,Yr,Zv,Zx,Zz,Zw,Zy,Z0,Ye,hN]
      try simp only [push_cast,seval,-Int.reduceToNat,Zc,Km,Ko,Kp,Kq,Ql,Qm,Qn,Kr,X2,Qz,X0,Qo,Zk,Zm,Yp,Yq,Yr,Zv,Zx,Zz,Zw,Zy,Z0,Ye,hN]
      repeat (with_reducible refine And.intro (by first | exact Yi rfl | exact Yc | exact Yk rfl | exact Yg rfl | exact Xs rfl | exact Xj) ?_)
      try simp only [push_cast,seval,-Int.reduceToNat,Zc,Km,Ko,Kp,Kq,Ql,Qm,Qn,Kr,X2,Qz,X0,Qo,Zk,Zm,Yp,Yq,Yr,Zv,Zx,Zz,Zw,Zy,Z0,Ye,hN]
      repeat (with_reducible refine And.intro (by first | exact Yi rfl | exact Yc | exact Yk rfl | exact Yg rfl | exact Xs rfl | exact Xj) ?_)
      refine And.intro rfl ?_
      refine fr3 (k:=18) (k':=18) hU [0,1,2,3,4,5,6,7,8,9,10,11,12,13,14,15,17,16] [0,1,2,3,4,5,6,7,8,9,10,11,12,13,14,15,17,16] (zM3 X2 X0 Zk) ?_ ?_
      ·simp only [push_cast,seval,-Int.reduceToNat,Zc,Km,Ko,Kp,Kq,Ql,Qm,Qn,Kr,X2,Qz,X0,Qo,Zk,Zm,Yp,Yq,Yr,Zv,Zx,Zz,Zw,Zy,Z0,Ye,hN]
      simp only [push_cast,seval,Zc,X2,Qz,X0,Qo,Zk,Zm,Yp,Yq,Yr,Zv,Zx,Zz,Zw,Zy,Z0,Ye,hN]
     try simp only [push_cast,seval,-Int.reduceToNat,Zc,Km,Ko,Kp,Kq,Ql,Qm,Qn,Kr,X2,Qz,X0,Qo,Zk,Zm,Yp,Yq,Yr,Zv,Zx,Zz,Zw,Zy,Z0,Ye,hN]
     refine And.intro ?_ ?_
     ·try simp only [push_cast,seval,-Int.reduceToNat,Zc,Km,Ko,Kp,Kq,Ql,Qm,Qn,Kr,X2,Qz,X0,Qo,Zk,Zm,Yp,Yq,Yr,Zv,Zx,Zz,Zw,Zy,Z0,Ye,hN]
      repeat (with_reducible refine And.intro (by first | exact Yi rfl | exact Yc | exact Yk rfl | exact Yg rfl | exact Xs rfl | exact Xj) ?_)
      try simp only [push_cast,seval,-Int.reduceToNat,Zc,Km,Ko,Kp,Kq,Ql,Qm,Qn,Kr,X2,Qz,X0,Qo,Zk,Zm,Yp,Yq,Yr,Zv,Zx,Zz,Zw,Zy,Z0,Ye,hN]
      repeat (with_reducible refine And.intro (by first | exact Yi rfl | exact Yc | exact Yk rfl | exact Yg rfl | exact Xs rfl | exact Xj) ?_)
      refine And.intro rfl (Fit2.of (Kl hU rfl rfl ?_) (by omega))
      simp only [push_cast,seval,-Int.reduceToNat,Zc,Km,Ko,Kp,Kq,Ql,Qm,Qn,Kr,X2,Qz,X0,Qo,Zk,Zm,Yp,Yq,Yr,Zv,Zx,Zz,Zw,Zy,Z0,Ye,hN]
     try simp only [push_cast,seval,-Int.reduceToNat,Zc,Km,Ko,Kp,Kq,Ql,Qm,Qn,Kr,X2,Qz,X0,Qo,Zk,Zm,Yp,Yq,Yr,Zv,Zx,Zz,Zw,Zy,Z0,Ye,hN]
     repeat (with_reducible refine And.intro (by first | exact Yi rfl | exact Yc | exact Yk rfl | exact Yg rfl | exact Xs rfl | exact Xj) ?_)
     try simp only [push_cast,seval,-Int.reduceToNat,Zc,Km,Ko,Kp,Kq,Ql,Qm,Qn,Kr,X2,Qz,X0,Qo,Zk,Zm,Yp,Yq,Yr,Zv,Zx,Zz,Zw,Zy,Z0,Ye,hN]
     repeat (with_reducible refine And.intro (by first | exact Yi rfl | exact Yc | exact Yk rfl | exact Yg rfl | exact Xs rfl | exact Xj) ?_)
     refine And.intro rfl ?_
     refine fr3 (k:=18) (k':=18) hU [0,1,2,3,4,5,6,7,8,9,10,11,12,13,14,15,17,16] [0,1,2,3,4,5,6,7,8,9,10,11,12,13,14,15,17,16] (zM3 X2 X0 Zk) ?_ ?_
     ·simp only [push_cast,seval,-Int.reduceToNat,Zc,Km,Ko,Kp,Kq,Ql,Qm,Qn,Kr,X2,Qz,X0,Qo,Zk,Zm,Yp,Yq,Yr,Zv,Zx,Zz,Zw,Zy,Z0,Ye,hN]
     simp only [push_cast,seval,Zc,X2,Qz,X0,Qo,Zk,Zm,Yp,Yq,Yr,Zv,Zx,Zz,Zw,Zy,Z0,Ye,hN]
    try simp only [push_cast,seval,-Int.reduceToNat,Zc,Km,Ko,Kp,Kq,Ql,Qm,Qn,Kr,X2,Qz,X0,Qo,Zk,Zm,Yp,Yq,Yr,Zv,Zx,Zz,Zw,Zy,Z0,Ye,hN]
    refine And.intro ?_ ?_
    ·try simp only [push_cast,seval,-Int.reduceToNat,Zc,Km,Ko,Kp,Kq,Ql,Qm,Qn,Kr,X2,Qz,X0,Qo,Zk,Zm,Yp,Yq,Yr,Zv,Zx,Zz,Zw,Zy,Z0,Ye,hN]
     repeat (with_reducible refine And.intro (by first | exact Yi rfl | exact Yc | exact Yk rfl | exact Yg rfl | exact Xs rfl | exact Xj) ?_)
     try simp only [push_cast,seval,-Int.reduceToNat,Zc,Km,Ko,Kp,Kq,Ql,Qm,Qn,Kr,X2,Qz,X0,Qo,Zk,Zm,Yp,Yq,Yr,Zv,Zx,Zz,Zw,Zy,Z0,Ye,hN]
     refine And.intro ?_ ?_
     ·try simp only [push_cast,seval,-Int.reduceToNat,Zc,Km,Ko,Kp,Kq,Ql,Qm,Qn,Kr,X2,Qz,X0,Qo,Zk,Zm,Yp,Yq,Yr,Zv,Zx,Zz,Zw,Zy,Z0,Ye,hN]
      repeat (with_reducible refine And.intro (by first | exact Yi rfl | exact Yc | exact Yk rfl | exact Yg rfl | exact Xs rfl | exact Xj) ?_)
      refine (Jc (Zr:=Zr) (by omega) (by simp only [push_cast,seval,Zc,Ya,Km,Ko,Kp,Kq,Ql,Qm,Qn,Kr,X2,Qz,X0,Qo,Zk,Zm,Yp,Yq,Yr,Zv,Zx,Zz,Zw,Zy,Z0,Ye,hN] <;> rfl) Zre).then ?_
      try simp only [push_cast,seval,-Int.reduceToNat,Zc,Km,Ko,Kp,Kq,Ql,Qm,Qn,Kr,X2,Qz,X0,Qo,Zk,Zm,Yp,Yq,Yr,Zv,Zx,Zz,Zw,Zy,Z0,Ye,hN]
      repeat (with_reducible refine And.intro (by first | exact Yi rfl | exact Yc | exact Yk rfl | exact Yg rfl | exact Xs rfl | exact Xj) ?_)
      try simp only [push_cast,seval,-Int.reduceToNat,Zc,Km,Ko,Kp,Kq,Ql,Qm,Qn,Kr,X2,Qz,X0,Qo,Zk,Zm,Yp,Yq,Yr,Zv,Zx,Zz,Zw,Zy,Z0,Ye,hN]
      repeat (with_reducible refine And.intro (by first | exact Yi rfl | exact Yc | exact Yk rfl | exact Yg rfl | exact Xs rfl | exact Xj) ?_)
      refine And.intro rfl (Fit2.of (Kl hU rfl rfl ?_) (by omega))
      simp only [push_cast,seval,-Int.reduceToNat,Zc,Km,Ko,Kp,Kq,Ql,Qm,Qn,Kr,X2,Qz,X0,Qo,Zk,Zm,Yp,Yq,Yr,Zv,Zx,Zz,Zw,Zy,Z0,Ye,hN]
     try simp only [push_cast,seval,-Int.reduceToNat,Zc,Km,Ko,Kp,Kq,Ql,Qm,Qn,Kr,X2,Qz,X0,Qo,Zk,Zm,Yp,Yq,Yr,Zv,Zx,Zz,Zw,Zy,Z0,Ye,hN]
     repeat (with_reducible refine And.intro (by first | exact Yi rfl | exact Yc | exact Yk rfl | exact Yg rfl | exact Xs rfl | exact Xj) ?_)
     try simp only [push_cast,seval,-Int.reduceToNat,Zc,Km,Ko,Kp,Kq,Ql,Qm,Qn,Kr,X2,Qz,X0,Qo,Zk,Zm,Yp,Yq,Yr,Zv,Zx,Zz,Zw,Zy,Z0,Ye,hN]
     repeat (with_reducible refine And.intro (by first | exact Yi rfl | exact Yc | exact Yk rfl | exact Yg rfl | exact Xs rfl | exact Xj) ?_)
     refine (Jc (Zr:=Zr) (by omega) (by simp only [push_cast,seval,Zc,Ya,Km,Ko,Kp,Kq,Ql,Qm,Qn,Kr,X2,Qz,X0,Qo,Zk,Zm,Yp,Yq,Yr,Zv,Zx,Zz,Zw,Zy,Z0,Ye,hN] <;> rfl) Zre).then ?_
     try simp only [push_cast,seval,-Int.reduceToNat,Zc,Km,Ko,Kp,Kq,Ql,Qm,Qn,Kr,X2,Qz,X0,Qo,Zk,Zm,Yp,Yq,Yr,Zv,Zx,Zz,Zw,Zy,Z0,Ye,hN]
     repeat (with_reducible refine And.intro (by first | exact Yi rfl | exact Yc | exact Yk rfl | exact Yg rfl | exact Xs rfl | exact Xj) ?_)
     refine And.intro rfl (Fit2.of (Kl hU rfl rfl ?_) (by omega))
     simp only [push_cast,seval,-Int.reduceToNat,Zc,Km,Ko,Kp,Kq,Ql,Qm,Qn,Kr,X2,Qz,X0,Qo,Zk,Zm,Yp,Yq,Yr,Zv,Zx,Zz,Zw,Zy,Z0,Ye,hN]
    try simp only [push_cast,seval,-Int.reduceToNat,Zc,Km,Ko,Kp,Kq,Ql,Qm,Qn,Kr,X2,Qz,X0,Qo,Zk,Zm,Yp,Yq,Yr,Zv,Zx,Zz,Zw,Zy,Z0,Ye,hN]
    repeat (with_reducible refine And.intro (by first | exact Yi rfl | exact Yc | exact Yk rfl | exact Yg rfl | exact Xs rfl | exact Xj) ?_)
    try simp only [push_cast,seval,-Int.reduceToNat,Zc,Km,Ko,Kp,Kq,Ql,Qm,Qn,Kr,X2,Qz,X0,Qo,Zk,Zm,Yp,Yq,Yr,Zv,Zx,Zz,Zw,Zy,Z0,Ye,hN]
    refine And.intro ?_ ?_
    ·try simp only [push_cast,seval,-Int.reduceToNat,Zc,Km,Ko,Kp,Kq,Ql,Qm,Qn,Kr,X2,Qz,X0,Qo,Zk,Zm,Yp,Yq,Yr,Zv,Zx,Zz,Zw,Zy,Z0,Ye,hN]
     repeat (with_reducible refine And.intro (by first | exact Yi rfl | exact Yc | exact Yk rfl | exact Yg rfl | exact Xs rfl | exact Xj) ?_)
     refine (Jc (Zr:=Zr) (by omega) (by simp only [push_cast,seval,Zc,Ya,Km,Ko,Kp,Kq,Ql,Qm,Qn,Kr,X2,Qz,X0,Qo,Zk,Zm,Yp,Yq,Yr,Zv,Zx,Zz,Zw,Zy,Z0,Ye,hN] <;> rfl) Zre).then ?_
     try simp only [push_cast,seval,-Int.reduceToNat,Zc,Km,Ko,Kp,Kq,Ql,Qm,Qn,Kr,X2,Qz,X0,Qo,Zk,Zm,Yp,Yq,Yr,Zv,Zx,Zz,Zw,Zy,Z0,Ye,hN]
     repeat (with_reducible refine And.intro (by first | exact Yi rfl | exact Yc | exact Yk rfl | exact Yg rfl | exact Xs rfl | exact Xj) ?_)
     try simp only [push_cast,seval,-Int.reduceToNat,Zc,Km,Ko,Kp,Kq,Ql,Qm,Qn,Kr,X2,Qz,X0,Qo,Zk,Zm,Yp,Yq,Yr,Zv,Zx,Zz,Zw,Zy,Z0,Ye,hN]
     repeat (with_reducible refine And.intro (by first | exact Yi rfl | exact Yc | exact Yk rfl | exact Yg rfl | exact Xs rfl | exact Xj) ?_)
     refine And.intro rfl ?_
     refine fr3 (k:=18) (k':=18) hU [0,1,2,3,4,5,6,7,8,9,10,11,12,13,14,15,17,16] [0,1,2,3,4,5,6,7,8,9,10,11,12,13,14,15,17,16] (zM3 X2 X0 Zk) ?_ ?_
     ·simp only [push_cast,seval,-Int.reduceToNat,Zc,Km,Ko,Kp,Kq,Ql,Qm,Qn,Kr,X2,Qz,X0,Qo,Zk,Zm,Yp,Yq,Yr,Zv,Zx,Zz,Zw,Zy,Z0,Ye,hN]
     simp only [push_cast,seval,Zc,X2,Qz,X0,Qo,Zk,Zm,Yp,Yq,Yr,Zv,Zx,Zz,Zw,Zy,Z0,Ye,hN]
    try simp only [push_cast,seval,-Int.reduceToNat,Zc,Km,Ko,Kp,Kq,Ql,Qm,Qn,Kr,X2,Qz,X0,Qo,Zk,Zm,Yp,Yq,Yr,Zv,Zx,Zz,Zw,Zy,Z0,Ye,hN]
    repeat (with_reducible refine And.intro (by first | exact Yi rfl | exact Yc | exact Yk rfl | exact Yg rfl | exact Xs rfl | exact Xj) ?_)
    try simp only [push_cast,seval,-Int.reduceToNat,Zc,Km,Ko,Kp,Kq,Ql,Qm,Qn,Kr,X2,Qz,X0,Qo,Zk,Zm,Yp,Yq,Yr,Zv,Zx,Zz,Zw,Zy,Z0,Ye,hN]
    repeat (with_reducible refine And.intro (by first | exact Yi rfl | exact Yc | exact Yk rfl | exact Yg rfl | exact Xs rfl | exact Xj) ?_)
    refine (Jc (Zr:=Zr) (by omega) (by simp only [push_cast,seval,Zc,Ya,Km,Ko,Kp,Kq,Ql,Qm,Qn,Kr,X2,Qz,X0,Qo,Zk,Zm,Yp,Yq,Yr,Zv,Zx,Zz,Zw,Zy,Z0,Ye,hN] <;> rfl) Zre).then ?_
    try simp only [push_cast,seval,-Int.reduceToNat,Zc,Km,Ko,Kp,Kq,Ql,Qm,Qn,Kr,X2,Qz,X0,Qo,Zk,Zm,Yp,Yq,Yr,Zv,Zx,Zz,Zw,Zy,Z0,Ye,hN]
    repeat (with_reducible refine And.intro (by first | exact Yi rfl | exact Yc | exact Yk rfl | exact Yg rfl | exact Xs rfl | exact Xj) ?_)
    refine And.intro rfl ?_
    refine fr3 (k:=18) (k':=18) hU [0,1,2,3,4,5,6,7,8,9,10,11,12,13,14,15,17,16] [0,1,2,3,4,5,6,7,8,9,10,11,12,13,14,15,17,16] (zM3 X2 X0 Zk) ?_ ?_
    ·simp only [push_cast,seval,-Int.reduceToNat,Zc,Km,Ko,Kp,Kq,Ql,Qm,Qn,Kr,X2,Qz,X0,Qo,Zk,Zm,Yp,Yq,Yr,Zv,Zx,Zz,Zw,Zy,Z0,Ye,hN]
    simp only [push_cast,seval,Zc,X2,Qz,X0,Qo,Zk,Zm,Yp,Yq,Yr,Zv,Zx,Zz,Zw,Zy,Z0,Ye,hN]
   refine Z7 ?_
   obtain ⟨Ych,Z9h,Zii,Zik,Zim,Zu⟩:=bE (f:=Ze) aV (fun _=>rfl) (by decide) Zu
   have Zq3:=V1 (f:=Ze) (sz:=12) wP (fun _=>rfl) (by decide) (by decide) Z9h
   obtain ⟨Z7h,Z91,Zu⟩:=bC Zu
   refine oY Yd (by kernel_rfl) [false,false,false,false,false,false,true] [] (by kernel_rfl) ?_
   simp only [push_cast,seval,-Int.reduceToNat,Zc,Zii,Zik,Zim,Zq3,X2,Qz,X0,Qo,Zk,Zm,Yp,Yq,Yr,Zv,Zx,Zz,Zw,Zy,Z0,Ye,hN]
   refine (cP (i0:=i1) (Zr:=Zr) (Yt:=(n+8)) (Y1:=(n+9)) (Y2:=(n+10)) (Xz:=(n+11)) (by omega) (by omega) (by omega) (by omega) (by omega) (by omega) (by omega) (by omega) (by omega) (by omega) (by omega) (by omega) (by omega) (by omega) (by omega) (by omega) (by omega) (by omega) (by omega) (by omega) (by omega) (by simp only [push_cast,seval,Zc,Ya,Zii,Zik,Zim,Zq3,X2,Qz,X0,Qo,Zk,Zm,Yp,Yq,Yr,Zv,Zx,Zz,Zw,Zy,Z0,Ye,hN] <;> rfl) (by simp only [push_cast,seval,Zc,Ya,Zii,Zik,Zim,Zq3,X2,Qz,X0,Qo,Zk,Zm,Yp,Yq,Yr,Zv,Zx,Zz,Zw,Zy,Z0,Ye,hN] <;> rfl) (by simp only [push_cast,seval,Zc,Ya,Zii,Zik,Zim,Zq3,X2,Qz,X0,Qo,Zk,Zm,Yp,Yq,Yr,Zv,Zx,Zz,Zw,Zy,Z0,Ye,hN] <;> rfl) (by simp only [push_cast,seval,Zc,Ya,Zii,Zik,Zim,Zq3,X2,Qz,X0,Qo,Zk,Zm,Yp,Yq,Yr,Zv,Zx,Zz,Zw,Zy,Z0,Ye,hN] <;> rfl) (by simp only [push_cast,seval,Zc,Ya,Zii,Zik,Zim,Zq3,X2,Qz,X0,Qo,Zk,Zm,Yp,Yq,Yr,Zv,Zx,Zz,Zw,Zy,Z0,Ye,hN] <;> rfl) (by simp only [push_cast,seval,Zc,Ya,Zii,Zik,Zim,Zq3,X2,Qz,X0,Qo,Zk,Zm,Yp,Yq,Yr,Zv,Zx,Zz,Zw,Zy,Z0,Ye,hN] <;> rfl) Z91).then ?_
   simp only [push_cast,seval,-Int.reduceToNat,Zc,Zii,Zik,Zim,Zq3,X2,Qz,X0,Qo,Zk,Zm,Yp,Yq,Yr,Zv,Zx,Zz,Zw,Zy,Z0,Ye,hN]
   refine lO [0,1,2,3,4,11] [false,false,false,false,false,false,false,false,false,false,false,false,true,true,true,true,false,true,true,true,true,true] ?_
   obtain ⟨Yci,Z9i,Zij,Zil,Zin,Zu⟩:=bE (f:=Ze) aV (fun _=>rfl) (by decide) Zu
   have Zq4:=V1 (f:=Ze) (sz:=12) wP (fun _=>rfl) (by decide) (by decide) Z9i
   obtain ⟨Z33,Z92,Zu⟩:=bC Zu
   refine oY Yd (by kernel_rfl) [false,false,false,false,false,false,true] [] (by kernel_rfl) ?_
   simp only [push_cast,seval,-Int.reduceToNat,Zc,Zij,Zil,Zin,Zq4,X2,Qz,X0,Qo,Zk,Zm,Yp,Yq,Yr,Zv,Zx,Zz,Zw,Zy,Z0,Ye,hN]
   refine (cP (i0:=i2) (Zr:=Zr) (Yt:=(n+12)) (Y1:=(n+13)) (Y2:=(n+14)) (Xz:=(n+15)) (by omega) (by omega) (by omega) (by omega) (by omega) (by omega) (by omega) (by omega) (by omega) (by omega) (by omega) (by omega) (by omega) (by omega) (by omega) (by omega) (by omega) (by omega) (by omega) (by omega) (by omega) (by simp only [push_cast,seval,Zc,Ya,Zij,Zil,Zin,Zq4,X2,Qz,X0,Qo,Zk,Zm,Yp,Yq,Yr,Zv,Zx,Zz,Zw,Zy,Z0,Ye,hN] <;> rfl) (by simp only [push_cast,seval,Zc,Ya,Zij,Zil,Zin,Zq4,X2,Qz,X0,Qo,Zk,Zm,Yp,Yq,Yr,Zv,Zx,Zz,Zw,Zy,Z0,Ye,hN] <;> rfl) (by simp only [push_cast,seval,Zc,Ya,Zij,Zil,Zin,Zq4,X2,Qz,X0,Qo,Zk,Zm,Yp,Yq,Yr,Zv,Zx,Zz,Zw,Zy,Z0,Ye,hN] <;> rfl) (by simp only [push_cast,seval,Zc,Ya,Zij,Zil,Zin,Zq4,X2,Qz,X0,Qo,Zk,Zm,Yp,Yq,Yr,Zv,Zx,Zz,Zw,Zy,Z0,Ye,hN] <;> rfl) (by simp only [push_cast,seval,Zc,Ya,Zij,Zil,Zin,Zq4,X2,Qz,X0,Qo,Zk,Zm,Yp,Yq,Yr,Zv,Zx,Zz,Zw,Zy,Z0,Ye,hN] <;> rfl) (by simp only [push_cast,seval,Zc,Ya,Zij,Zil,Zin,Zq4,X2,Qz,X0,Qo,Zk,Zm,Yp,Yq,Yr,Zv,Zx,Zz,Zw,Zy,Z0,Ye,hN] <;> rfl) Z92).then ?_
   simp only [push_cast,seval,-Int.reduceToNat,Zc,Zij,Zil,Zin,Zq4,X2,Qz,X0,Qo,Zk,Zm,Yp,Yq,Yr,Zv,Zx,Zz,Zw,Zy,Z0,Ye,hN]
   refine zD [0,1,2,3,4] [false,false,false,false,false,false,false,false,false,false,false,false,false,false,false,false,false,false,true,true,true,true,true,true,true,true] ?_
   obtain ⟨Yab,Z39,Z4d,Z4f,Z4n,Zu⟩:=bS (lo:=(some (.i64,1))) (hi:=none) (f:=Ze) rfl rfl jM aV (fun _=>rfl) Zu
   obtain ⟨Yac,Z4a,Z4e,Z4g,Z4o,Zu⟩:=bS (lo:=(some (.i64,1))) (hi:=none) (f:=Ze) rfl rfl jM aV (fun _=>rfl) Zu
   refine Jh Yd (by kernel_rfl) [] (by kernel_rfl) ?_
   simp only [push_cast,seval,Zc,Z39,Z4d,Z4f,Z4n,Z4a,Z4e,Z4g,Z4o,X2,Qz,X0,Qo,Zk,Zm,Yp,Yq,Yr,Zv,Zx,Zz,Zw,Zy,Z0,Ye,hN]
   obtain rfl:=sI Zu
   refine And.intro rfl ?_
   refine fr3 (k:=26) (k':=16) hU [7,7,7,7,7,7,7,7,7,7,7,7,7,7,7,7,7,7,8,9,10,11,12,13,14,15] [0,0,0,0,0,0,0,0,18,19,20,21,22,23,24,25] (zM3 X2 X0 Zk) ?_ ?_
   ·simp only [push_cast,seval,Zc,Z39,Z4d,Z4f,Z4n,Z4a,Z4e,Z4g,Z4o,X2,Qz,X0,Qo,Zk,Zm,Yp,Yq,Yr,Zv,Zx,Zz,Zw,Zy,Z0,Ye,hN]
   simp only [push_cast,seval,Zc,X2,Qz,X0,Qo,Zk,Zm,Yp,Yq,Yr,Zv,Zx,Zz,Zw,Zy,Z0,Ye,hN]
  replace Zu:=Yl Z56 Zu
  refine zXt ?_
  obtain rfl:=sI Zu
  refine And.intro (fun h=>by cases h) (And.intro rfl (Fit2.of (Kl hU rfl rfl ?_) (by omega)))
  simp only [push_cast,seval,Zc,X2,Qz,X0,Qo,Zk,Zm,Yp,Yq,Yr,Zv,Zx,Zz,Zw,Zy,Z0,Ye,hN]
 try simp only [Qj,Xr,↓reduceIte,Nat.reduceEqDiff]
 obtain rfl:=sI h
 refine Zcs (k:=8) (i:=i1) (j:=i2) (u:=Zr) (q1:=⟨false,85,13,1,(Zj (.ref Zr 0) (.row n J6.1.length) (.row (n+1) J6.2.1.length) (.row (n+2) J6.2.2.1.length) (.row (n+3) J6.2.2.2.1.length) J6.2.2.2.2.2.2.2.2.1)⟩) (p1:=⟨false,85,13,1,(Zj (.ref Zr 0) (.row (n+4) J6.2.2.2.2.1.length) (.row (n+5) J6.2.2.2.2.2.1.length) (.row (n+6) J6.2.2.2.2.2.2.1.length) (.row (n+7) J6.2.2.2.2.2.2.2.1.length) J6.2.2.2.2.2.2.2.2.2.1)⟩) (s1:=⟨false,43,2,1,[(vB J6.2.2.2.2.2.2.2.2.2.2.1),(vB J6.2.2.2.2.2.2.2.2.2.2.2)]⟩) (L3:=[some (oR 48 4 Zf J6.1),some (oR 50 12 Ze J6.2.1),some (oR 41 14 Zh J6.2.2.1),some (oR 25 3 Za J6.2.2.2.1),some (oR 48 4 Zf J6.2.2.2.2.1),some (oR 50 12 Ze J6.2.2.2.2.2.1),some (oR 41 14 Zh J6.2.2.2.2.2.2.1),some (oR 25 3 Za J6.2.2.2.2.2.2.2.1),none]) (E2:=(⟨110,[],[]⟩:Env)) (n3:=(n+9)) (.inl rfl) hU rfl [] ?_ ?_
 ·refine fr3 (k:=16) (k':=9) hU [8,8,8,8,8,8,8,8,0,1,2,3,4,5,6,7] [8,9,10,11,12,13,14,15,0] (zM3 X2 X0 Zk) ?_ ?_
  ·simp only [push_cast,seval,Zc,X2,Qz,X0,Qo,Zk,Zm,Yp,Yq,Yr,Zv,Zx,Zz,Zw,Zy,Z0,Ye,hN]
  simp only [push_cast,seval,Zc,X2,Qz,X0,Qo,Zk,Zm,Yp,Yq,Yr,Zv,Zx,Zz,Zw,Zy,Z0,Ye,hN]
 simp only [push_cast,seval,Zc,Try.results43,X2,Qz,X0,Qo,Zk,Zm,Yp,Yq,Yr,Zv,Zx,Zz,Zw,Zy,Z0,Ye,hN]
theorem Zaz {Xa:(Zd→Zd→Zg→Option (Zd×Zd×Zg))} {Y6:(Zd→Zd→Zg→Option (Zd×Zd×Zg))} {Xf:(Zd→Zd→Zg→Option (Zd×Zd×Zg))} {Xh:(Zi→Zi→(List Zq)→(List Zq)→Zg→Option (Zi×Zi×Zg))} {Xd:(Zi→Zi→Zo→Zo→Zg→Option (Zi×Zi×Zg))} (Jc:Vw Xa) (Vy:K0 Y6) (Gd:Vg Xf) (Gp:Vv Xh) (Gn:Vu Xd) {a1:Zi} {a2:Zi} {a3:Zo} {a4:Zo} {Yy:Zg} {r:(Zi×Zi×Zg)} {O:Objs} {n:Nat} {i1 Q4 Q5 Q6 Q7 i2 Q8 Q9 Ja Jb Zr:Nat} (X2:i1 < n) (uR:Q4 < n) (vR:Q5 < n) (wR:Q6 < n) (xR:Q7 < n) (rG:i1≠Q4) (sG:i1≠Q5) (tG:i1≠Q6) (uG:i1≠Q7) (cQ:Q4≠Q5) (dQ:Q4≠Q6) (eQ:Q4≠Q7) (kQ:Q5≠Q6) (lQ:Q5≠Q7) (qQ:Q6≠Q7) (X0:i2 < n) (yR:Q8 < n) (aS:Q9 < n) (cS:Ja < n) (dS:Jb < n) (vG:i2≠Q8) (wG:i2≠Q9) (xG:i2≠Ja) (yG:i2≠Jb) (aJ:Q8≠Q9) (bJ:Q8≠Ja) (cJ:Q8≠Jb) (dJ:Q9≠Ja) (eJ:Q9≠Jb) (fJ:Ja≠Jb) (Zk:Zr < n) (qY:i1≠Q8) (rY:i1≠Q9) (sY:i1≠Ja) (tY:i1≠Jb) (uY:i2≠Q4) (vY:i2≠Q5) (wY:i2≠Q6) (xY:i2≠Q7) (V7:Zr≠Q4) (V8:Zr≠Q5) (V9:Zr≠Q6) (Ua:Zr≠Q7) (Ub:Zr≠Q8) (Uc:Zr≠Q9) (Ud:Zr≠Ja) (Ue:Zr≠Jb) (Jm:i1≠i2) (X8:i1≠Zr) (X9:i2≠Zr) (fQ:Q4≠Q8) (gQ:Q4≠Q9) (iQ:Q4≠Ja) (jQ:Q4≠Jb) (mQ:Q5≠Q8) (nQ:Q5≠Q9) (oQ:Q5≠Ja) (pQ:Q5≠Jb) (rQ:Q6≠Q8) (sQ:Q6≠Q9) (tQ:Q6≠Ja) (uQ:Q6≠Jb) (vQ:Q7≠Q8) (wQ:Q7≠Q9) (xQ:Q7≠Ja) (yQ:Q7≠Jb) (ho1:O i1=some ⟨false,85,13,1,(Zj (.ref Zr 0) (.row Q4 a1.left.Words.length) (.row Q5 a1.left.Kids.length) (.row Q6 a1.left.Ops.length) (.row Q7 a1.come.length) a1)⟩) (lN:O Q4=some (oR 48 4 Zf a1.left.Words)) (mN:O Q5=some (oR 50 12 Ze a1.left.Kids)) (nN:O Q6=some (oR 41 14 Zh a1.left.Ops)) (oN:O Q7=some (oR 25 3 Za a1.come)) (ho2:O i2=some ⟨false,85,13,1,(Zj (.ref Zr 0) (.row Q8 a2.left.Words.length) (.row Q9 a2.left.Kids.length) (.row Ja a2.left.Ops.length) (.row Jb a2.come.length) a2)⟩) (pN:O Q8=some (oR 48 4 Zf a2.left.Words)) (qN:O Q9=some (oR 50 12 Ze a2.left.Kids)) (rN:O Ja=some (oR 41 14 Zh a2.left.Ops)) (sN:O Jb=some (oR 25 3 Za a2.come)) (Ks:O Zr=some ⟨false,43,2,1,[(vB Yy.apart),(vB Yy.clash)]⟩) (h:Jt Xa Y6 Xf Xh Xd a1 a2 a3 a4 Yy=some r):GTo Try.prog 47 [.ref Zr 0,.ref i1 0,.ref i2 0,.agg (Xk a3),.agg (Xk a4)] O n (.tup []) (Yn (((((((((((O.upd Q4 none).upd Q5 none).upd Q6 none).upd Q7 none).upd Q8 none).upd Q9 none).upd Ja none).upd Jb none).upd i1 (some ⟨false,85,13,1,(Zj (.ref Zr 0) (.row n r.1.left.Words.length) (.row (n+1) r.1.left.Kids.length) (.row (n+2) r.1.left.Ops.length) (.row (n+3) r.1.come.length) r.1)⟩)).upd i2 (some ⟨false,85,13,1,(Zj (.ref Zr 0) (.row (n+4) r.2.1.left.Words.length) (.row (n+5) r.2.1.left.Kids.length) (.row (n+6) r.2.1.left.Ops.length) (.row (n+7) r.2.1.come.length) r.2.1)⟩)).upd Zr (some ⟨false,43,2,1,[(vB r.2.2.apart),(vB r.2.2.clash)]⟩)) n [some (oR 48 4 Zf r.1.left.Words),some (oR 50 12 Ze r.1.left.Kids),some (oR 41 14 Zh r.1.left.Ops),some (oR 25 3 Za r.1.come),some (oR 48 4 Zf r.2.1.left.Words),some (oR 50 12 Ze r.2.1.left.Kids),some (oR 41 14 Zh r.2.1.left.Ops),some (oR 25 3 Za r.2.1.come)]) (n+8):=by
 unfold Jt at h
 refine vX Yd Try.call47 Try.func47 rfl (Nat.le_of_ble_eq_true rfl) (by omega) fun hU => ?_
 rw [show Yn O n []=Yn (((O.upd i1 (some ⟨false,85,13,1,(Zj (.ref Zr 0) (.row Q4 a1.left.Words.length) (.row Q5 a1.left.Kids.length) (.row Q6 a1.left.Ops.length) (.row Q7 a1.come.length) a1)⟩)).upd i2 (some ⟨false,85,13,1,(Zj (.ref Zr 0) (.row Q8 a2.left.Words.length) (.row Q9 a2.left.Kids.length) (.row Ja a2.left.Ops.length) (.row Jb a2.come.length) a2)⟩)).upd Zr (some ⟨false,43,2,1,[(vB Yy.apart),(vB Yy.clash)]⟩)) n [] from by rw [Qw ho1,Qw ho2,Qw Ks]]
 refine Xi (Y0 (k:=8) (by rw [Yb _ X2];simp only [Yo,Zn Jm,Zn X8] <;> rfl) (by rfl) (by rw [Yb _ uR];simp only [Zn (Ne.symm rG),Zn (Ne.symm uY),Zn (Ne.symm V7)];exact lN) rG (by simp only [push_cast,Nat.reduceAdd,Z8 _ _ uR,Z8 _ _ X2,Z3 (Ne.symm rG),Z3 (Ne.symm uY),Z3 (Ne.symm V7),Z3 Jm,Z3 X8,Z3 X9] <;> rfl) (by omega)) ?_
 refine Xi (Y0 (k:=9) (by rw [Yb _ X2];simp only [Yo,Zn Jm,Zn X8] <;> rfl) (by rfl) (by rw [Yb _ vR];simp only [Zn (Ne.symm sG),Zn (Ne.symm vY),Zn (Ne.symm V8),Zn (Ne.symm cQ)];exact mN) sG (by simp only [push_cast,Nat.reduceAdd,Z8 _ _ vR,Z8 _ _ X2,Z3 (Ne.symm sG),Z3 (Ne.symm vY),Z3 (Ne.symm V8),Z3 Jm,Z3 X8,Z3 X9] <;> rfl) (by omega)) ?_
 refine Xi (Y0 (k:=11) (by rw [Yb _ X2];simp only [Yo,Zn Jm,Zn X8] <;> rfl) (by rfl) (by rw [Yb _ wR];simp only [Zn (Ne.symm tG),Zn (Ne.symm wY),Zn (Ne.symm V9),Zn (Ne.symm dQ),Zn (Ne.symm kQ)];exact nN) tG (by simp only [push_cast,Nat.reduceAdd,Z8 _ _ wR,Z8 _ _ X2,Z3 (Ne.symm tG),Z3 (Ne.symm wY),Z3 (Ne.symm V9),Z3 Jm,Z3 X8,Z3 X9] <;> rfl) (by omega)) ?_
 refine Xi (Y0 (k:=12) (by rw [Yb _ X2];simp only [Yo,Zn Jm,Zn X8] <;> rfl) (by rfl) (by rw [Yb _ xR];simp only [Zn (Ne.symm uG),Zn (Ne.symm xY),Zn (Ne.symm Ua),Zn (Ne.symm eQ),Zn (Ne.symm lQ),Zn (Ne.symm qQ)];exact oN) uG (by simp only [push_cast,Nat.reduceAdd,Z8 _ _ xR,Z8 _ _ X2,Z3 (Ne.symm uG),Z3 (Ne.symm xY),Z3 (Ne.symm Ua),Z3 Jm,Z3 X8,Z3 X9] <;> rfl) (by omega)) ?_
 refine Xi (Y0 (k:=8) (by rw [Yb _ X0];simp only [Yo,Zn (Ne.symm Jm),Zn X9] <;> rfl) (by rfl) (by rw [Yb _ yR];simp only [Zn (Ne.symm qY),Zn (Ne.symm vG),Zn (Ne.symm Ub),Zn (Ne.symm fQ),Zn (Ne.symm mQ),Zn (Ne.symm rQ),Zn (Ne.symm vQ)];exact pN) vG (by simp only [push_cast,Nat.reduceAdd,Z8 _ _ yR,Z8 _ _ X0,Z3 (Ne.symm qY),Z3 (Ne.symm vG),Z3 (Ne.symm Ub),Z3 Jm,Z3 X8,Z3 X9] <;> rfl) (by omega)) ?_
 refine Xi (Y0 (k:=9) (by rw [Yb _ X0];simp only [Yo,Zn (Ne.symm Jm),Zn X9] <;> rfl) (by rfl) (by rw [Yb _ aS];simp only [Zn (Ne.symm rY),Zn (Ne.symm wG),Zn (Ne.symm Uc),Zn (Ne.symm gQ),Zn (Ne.symm nQ),Zn (Ne.symm sQ),Zn (Ne.symm wQ),Zn (Ne.symm aJ)];exact qN) wG (by simp only [push_cast,Nat.reduceAdd,Z8 _ _ aS,Z8 _ _ X0,Z3 (Ne.symm rY),Z3 (Ne.symm wG),Z3 (Ne.symm Uc),Z3 Jm,Z3 X8,Z3 X9] <;> rfl) (by omega)) ?_
 refine Xi (Y0 (k:=11) (by rw [Yb _ X0];simp only [Yo,Zn (Ne.symm Jm),Zn X9] <;> rfl) (by rfl) (by rw [Yb _ cS];simp only [Zn (Ne.symm sY),Zn (Ne.symm xG),Zn (Ne.symm Ud),Zn (Ne.symm iQ),Zn (Ne.symm oQ),Zn (Ne.symm tQ),Zn (Ne.symm xQ),Zn (Ne.symm bJ),Zn (Ne.symm dJ)];exact rN) xG (by simp only [push_cast,Nat.reduceAdd,Z8 _ _ cS,Z8 _ _ X0,Z3 (Ne.symm sY),Z3 (Ne.symm xG),Z3 (Ne.symm Ud),Z3 Jm,Z3 X8,Z3 X9] <;> rfl) (by omega)) ?_
 refine Xi (Y0 (k:=12) (by rw [Yb _ X0];simp only [Yo,Zn (Ne.symm Jm),Zn X9] <;> rfl) (by rfl) (by rw [Yb _ dS];simp only [Zn (Ne.symm tY),Zn (Ne.symm yG),Zn (Ne.symm Ue),Zn (Ne.symm jQ),Zn (Ne.symm pQ),Zn (Ne.symm uQ),Zn (Ne.symm yQ),Zn (Ne.symm cJ),Zn (Ne.symm eJ),Zn (Ne.symm fJ)];exact sN) yG (by simp only [push_cast,Nat.reduceAdd,Z8 _ _ dS,Z8 _ _ X0,Z3 (Ne.symm tY),Z3 (Ne.symm yG),Z3 (Ne.symm Ue),Z3 Jm,Z3 X8,Z3 X9] <;> rfl) (by omega)) ?_
 have hU:=(Und.drop (Und.drop (Und.drop (Und.drop (Und.drop (Und.drop (Und.drop (Und.drop hU Q4) Q5) Q6) Q7) Q8) Q9) Ja) Jb)
 have Yp:=fun X=>@Zn X _ _ Jm
 have Yq:=fun X=>@Zn X _ _ (Ne.symm Jm)
 have Yr:=fun X b c=>@Z3 X _ _ b c Jm
 have Zv:=fun X=>@Zn X _ _ X8
 have Zx:=fun X=>@Zn X _ _ (Ne.symm X8)
 have Zz:=fun X b c=>@Z3 X _ _ b c X8
 have Zw:=fun X=>@Zn X _ _ X9
 have Zy:=fun X=>@Zn X _ _ (Ne.symm X9)
 have Z0:=fun X b c=>@Z3 X _ _ b c X9
 have Qz:∀ k,i1 < n+k:=fun k=>by omega
 have Qo:∀ k,i2 < n+k:=fun k=>by omega
 have Zm:∀ k,Zr < n+k:=fun k=>by omega
 have Ye:∀ o p r,Objs.upd (Objs.upd (Objs.upd ((((((((O.upd Q4 none).upd Q5 none).upd Q6 none).upd Q7 none).upd Q8 none).upd Q9 none).upd Ja none).upd Jb none) i1 o) i2 p) Zr r n=none:=fun o p r=>(Xe _ _ (by omega)).trans ((Xe _ _ (by omega)).trans (Xb hU X2 _ (Nat.le_refl _)))
 have hN:∀ o p r k,Objs.upd (Objs.upd (Objs.upd ((((((((O.upd Q4 none).upd Q5 none).upd Q6 none).upd Q7 none).upd Q8 none).upd Q9 none).upd Ja none).upd Jb none) i1 o) i2 p) Zr r (n+k)=none:=fun o p r k=>(Xe _ _ (by omega)).trans ((Xe _ _ (by omega)).trans (Xb hU X2 _ (Nat.le_add_right _ _)))
 show W _ _ _ _ ⟨43,[],[(0,.ref Zr 0),(1,.ref i1 0),(2,.ref i2 0),(3,.agg (Xk a3)),(4,.agg (Xk a4))]⟩ (Yn (((((((((((O.upd Q4 none).upd Q5 none).upd Q6 none).upd Q7 none).upd Q8 none).upd Q9 none).upd Ja none).upd Jb none).upd i1 (some ⟨false,85,13,1,(Zj (.ref Zr 0) (.row n a1.left.Words.length) (.row (n+1) a1.left.Kids.length) (.row (n+2) a1.left.Ops.length) (.row (n+3) a1.come.length) a1)⟩)).upd i2 (some ⟨false,85,13,1,(Zj (.ref Zr 0) (.row (n+4) a2.left.Words.length) (.row (n+5) a2.left.Kids.length) (.row (n+6) a2.left.Ops.length) (.row (n+7) a2.come.length) a2)⟩)).upd Zr (some ⟨false,43,2,1,[(vB Yy.apart),(vB Yy.clash)]⟩)) n [some (oR 48 4 Zf a1.left.Words),some (oR 50 12 Ze a1.left.Kids),some (oR 41 14 Zh a1.left.Ops),some (oR 25 3 Za a1.come),some (oR 48 4 Zf a2.left.Words),some (oR 50 12 Ze a2.left.Kids),some (oR 41 14 Zh a2.left.Ops),some (oR 25 3 Za a2.come)]) _
 refine yJ [0,1,2,8,9] (Yv Yd [] ?_)
 simp only [push_cast,seval,Zc,X2,Qz,X0,Qo,Zk,Zm,Yp,Yq,Yr,Zv,Zx,Zz,Zw,Zy,Z0,Ye,hN]
 refine Z7 ?_
 refine yJ [0,1,2,8,9,19] (Yv Yd [none,none,none] ?_)
 simp only [push_cast,seval,Zc,X2,Qz,X0,Qo,Zk,Zm,Yp,Yq,Yr,Zv,Zx,Zz,Zw,Zy,Z0,Ye,hN]
 refine zG ?_
 refine Yj (t:=(cond (a3.Kind == 3) (a4.Kind == 3) false)) rfl (fun iB => ?_) (fun iB => ?_)
 ·replace h:=Ym iB h
  refine Z7 ?_
  obtain ⟨y2,kE,h⟩:=bC h
  refine Yv Yd [] ?_
  simp only [push_cast,seval,Zc,X2,Qz,X0,Qo,Zk,Zm,Yp,Yq,Yr,Zv,Zx,Zz,Zw,Zy,Z0,Ye,hN]
  refine (Jc (Zr:=Zr) (by omega) (by simp only [push_cast,seval,Zc,Ya,X2,Qz,X0,Qo,Zk,Zm,Yp,Yq,Yr,Zv,Zx,Zz,Zw,Zy,Z0,Ye,hN] <;> rfl) kE).then ?_
  simp only [push_cast,seval,Zc,X2,Qz,X0,Qo,Zk,Zm,Yp,Yq,Yr,Zv,Zx,Zz,Zw,Zy,Z0,Ye,hN]
  refine lO [1,2,10,11] [true,true,true,true,true,true,true,true,false,false,true,true] ?_
  obtain ⟨y4,hy4,h⟩:=bC h
  refine Yv Yd [] ?_
  simp only [push_cast,seval,Zc,X2,Qz,X0,Qo,Zk,Zm,Yp,Yq,Yr,Zv,Zx,Zz,Zw,Zy,Z0,Ye,hN]
  refine (nD (i0:=i1) (Zr:=Zr) (Yt:=n) (Y1:=(n+1)) (Y2:=(n+2)) (Xz:=(n+3)) (by omega) (by omega) (by omega) (by omega) (by omega) (by omega) (by omega) (by omega) (by omega) (by omega) (by omega) (by omega) (by omega) (by omega) (by omega) (by omega) (by omega) (by omega) (by omega) (by omega) (by omega) (by simp only [push_cast,seval,Zc,Ya,X2,Qz,X0,Qo,Zk,Zm,Yp,Yq,Yr,Zv,Zx,Zz,Zw,Zy,Z0,Ye,hN] <;> rfl) (by simp only [push_cast,seval,Zc,Ya,X2,Qz,X0,Qo,Zk,Zm,Yp,Yq,Yr,Zv,Zx,Zz,Zw,Zy,Z0,Ye,hN] <;> rfl) (by simp only [push_cast,seval,Zc,Ya,X2,Qz,X0,Qo,Zk,Zm,Yp,Yq,Yr,Zv,Zx,Zz,Zw,Zy,Z0,Ye,hN] <;> rfl) (by simp only [push_cast,seval,Zc,Ya,X2,Qz,X0,Qo,Zk,Zm,Yp,Yq,Yr,Zv,Zx,Zz,Zw,Zy,Z0,Ye,hN] <;> rfl) (by simp only [push_cast,seval,Zc,Ya,X2,Qz,X0,Qo,Zk,Zm,Yp,Yq,Yr,Zv,Zx,Zz,Zw,Zy,Z0,Ye,hN] <;> rfl) (by simp only [push_cast,seval,Zc,Ya,X2,Qz,X0,Qo,Zk,Zm,Yp,Yq,Yr,Zv,Zx,Zz,Zw,Zy,Z0,Ye,hN] <;> rfl) hy4).then ?_
  simp only [push_cast,seval,Zc,X2,Qz,X0,Qo,Zk,Zm,Yp,Yq,Yr,Zv,Zx,Zz,Zw,Zy,Z0,Ye,hN]
  refine lO [2,11] [false,false,false,false,true,true,true,true,false,false,false,true,true,true,true,true] ?_
  obtain ⟨y6,hy6,h⟩:=bC h
  refine Yv Yd [] ?_
  simp only [push_cast,seval,Zc,X2,Qz,X0,Qo,Zk,Zm,Yp,Yq,Yr,Zv,Zx,Zz,Zw,Zy,Z0,Ye,hN]
  refine (nD (i0:=i2) (Zr:=Zr) (Yt:=(n+4)) (Y1:=(n+5)) (Y2:=(n+6)) (Xz:=(n+7)) (by omega) (by omega) (by omega) (by omega) (by omega) (by omega) (by omega) (by omega) (by omega) (by omega) (by omega) (by omega) (by omega) (by omega) (by omega) (by omega) (by omega) (by omega) (by omega) (by omega) (by omega) (by simp only [push_cast,seval,Zc,Ya,X2,Qz,X0,Qo,Zk,Zm,Yp,Yq,Yr,Zv,Zx,Zz,Zw,Zy,Z0,Ye,hN] <;> rfl) (by simp only [push_cast,seval,Zc,Ya,X2,Qz,X0,Qo,Zk,Zm,Yp,Yq,Yr,Zv,Zx,Zz,Zw,Zy,Z0,Ye,hN] <;> rfl) (by simp only [push_cast,seval,Zc,Ya,X2,Qz,X0,Qo,Zk,Zm,Yp,Yq,Yr,Zv,Zx,Zz,Zw,Zy,Z0,Ye,hN] <;> rfl) (by simp only [push_cast,seval,Zc,Ya,X2,Qz,X0,Qo,Zk,Zm,Yp,Yq,Yr,Zv,Zx,Zz,Zw,Zy,Z0,Ye,hN] <;> rfl) (by simp only [push_cast,seval,Zc,Ya,X2,Qz,X0,Qo,Zk,Zm,Yp,Yq,Yr,Zv,Zx,Zz,Zw,Zy,Z0,Ye,hN] <;> rfl) (by simp only [push_cast,seval,Zc,Ya,X2,Qz,X0,Qo,Zk,Zm,Yp,Yq,Yr,Zv,Zx,Zz,Zw,Zy,Z0,Ye,hN] <;> rfl) hy6).then ?_
  simp only [push_cast,seval,Zc,X2,Qz,X0,Qo,Zk,Zm,Yp,Yq,Yr,Zv,Zx,Zz,Zw,Zy,Z0,Ye,hN]
  refine zD [] [false,false,false,false,false,false,false,false,false,false,false,false,true,true,true,true,true,true,true,true] ?_
  refine zW ?_
  obtain rfl:=sI h
  refine Zcs (k:=8) (i:=i1) (j:=i2) (u:=Zr) (q1:=⟨false,85,13,1,(Zj (.ref Zr 0) (.row n y4.1.left.Words.length) (.row (n+1) y4.1.left.Kids.length) (.row (n+2) y4.1.left.Ops.length) (.row (n+3) y4.1.come.length) y4.1)⟩) (p1:=⟨false,85,13,1,(Zj (.ref Zr 0) (.row (n+4) y6.1.left.Words.length) (.row (n+5) y6.1.left.Kids.length) (.row (n+6) y6.1.left.Ops.length) (.row (n+7) y6.1.come.length) y6.1)⟩) (s1:=⟨false,43,2,1,[(vB y6.2.apart),(vB y6.2.clash)]⟩) (L3:=[some (oR 48 4 Zf y4.1.left.Words),some (oR 50 12 Ze y4.1.left.Kids),some (oR 41 14 Zh y4.1.left.Ops),some (oR 25 3 Za y4.1.come),some (oR 48 4 Zf y6.1.left.Words),some (oR 50 12 Ze y6.1.left.Kids),some (oR 41 14 Zh y6.1.left.Ops),some (oR 25 3 Za y6.1.come),none]) (E2:=(⟨43,[],[]⟩:Env)) (n3:=(n+9)) (.inr rfl) hU rfl [] ?_ ?_
  ·refine fr3 (k:=20) (k':=9) hU [8,8,8,8,8,8,8,8,8,8,8,8,0,1,2,3,4,5,6,7] [12,13,14,15,16,17,18,19,0] (zM3 X2 X0 Zk) ?_ ?_
   ·simp only [push_cast,seval,Zc,X2,Qz,X0,Qo,Zk,Zm,Yp,Yq,Yr,Zv,Zx,Zz,Zw,Zy,Z0,Ye,hN]
   simp only [push_cast,seval,Zc,X2,Qz,X0,Qo,Zk,Zm,Yp,Yq,Yr,Zv,Zx,Zz,Zw,Zy,Z0,Ye,hN]
  simp only [push_cast,seval,Zc,Try.results47,X2,Qz,X0,Qo,Zk,Zm,Yp,Yq,Yr,Zv,Zx,Zz,Zw,Zy,Z0,Ye,hN]
 replace h:=Yl iB h
 refine uZ [1,2,8,9] [true,true,true,true,true,true,true,true,true,true] ?_
 refine Z7 ?_
 obtain ⟨y8,hy8,h⟩:=bC h
 refine Yv Yd [] ?_
 simp only [push_cast,seval,Zc,X2,Qz,X0,Qo,Zk,Zm,Yp,Yq,Yr,Zv,Zx,Zz,Zw,Zy,Z0,Ye,hN]
 refine (xI (i0:=i1) (Zr:=Zr) (Yt:=n) (Y1:=(n+1)) (Y2:=(n+2)) (Xz:=(n+3)) (by omega) (by omega) (by omega) (by omega) (by omega) (by omega) (by omega) (by omega) (by omega) (by omega) (by omega) (by omega) (by omega) (by omega) (by omega) (by omega) (by omega) (by omega) (by omega) (by omega) (by omega) (by simp only [push_cast,seval,Zc,Ya,X2,Qz,X0,Qo,Zk,Zm,Yp,Yq,Yr,Zv,Zx,Zz,Zw,Zy,Z0,Ye,hN] <;> rfl) (by simp only [push_cast,seval,Zc,Ya,X2,Qz,X0,Qo,Zk,Zm,Yp,Yq,Yr,Zv,Zx,Zz,Zw,Zy,Z0,Ye,hN] <;> rfl) (by simp only [push_cast,seval,Zc,Ya,X2,Qz,X0,Qo,Zk,Zm,Yp,Yq,Yr,Zv,Zx,Zz,Zw,Zy,Z0,Ye,hN] <;> rfl) (by simp only [push_cast,seval,Zc,Ya,X2,Qz,X0,Qo,Zk,Zm,Yp,Yq,Yr,Zv,Zx,Zz,Zw,Zy,Z0,Ye,hN] <;> rfl) (by simp only [push_cast,seval,Zc,Ya,X2,Qz,X0,Qo,Zk,Zm,Yp,Yq,Yr,Zv,Zx,Zz,Zw,Zy,Z0,Ye,hN] <;> rfl) (by simp only [push_cast,seval,Zc,Ya,X2,Qz,X0,Qo,Zk,Zm,Yp,Yq,Yr,Zv,Zx,Zz,Zw,Zy,Z0,Ye,hN] <;> rfl) hy8).then ?_
 simp only [push_cast,seval,Zc,X2,Qz,X0,Qo,Zk,Zm,Yp,Yq,Yr,Zv,Zx,Zz,Zw,Zy,Z0,Ye,hN]
 refine zD [2,8,9] [false,false,false,false,true,true,true,true,true,true,true,true,true,true] ?_
 obtain ⟨y9,hy9,h⟩:=bC h
 refine Yv Yd [] ?_
 simp only [push_cast,seval,Zc,X2,Qz,X0,Qo,Zk,Zm,Yp,Yq,Yr,Zv,Zx,Zz,Zw,Zy,Z0,Ye,hN]
 refine (xI (i0:=i2) (Zr:=Zr) (Yt:=(n+4)) (Y1:=(n+5)) (Y2:=(n+6)) (Xz:=(n+7)) (by omega) (by omega) (by omega) (by omega) (by omega) (by omega) (by omega) (by omega) (by omega) (by omega) (by omega) (by omega) (by omega) (by omega) (by omega) (by omega) (by omega) (by omega) (by omega) (by omega) (by omega) (by simp only [push_cast,seval,Zc,Ya,X2,Qz,X0,Qo,Zk,Zm,Yp,Yq,Yr,Zv,Zx,Zz,Zw,Zy,Z0,Ye,hN] <;> rfl) (by simp only [push_cast,seval,Zc,Ya,X2,Qz,X0,Qo,Zk,Zm,Yp,Yq,Yr,Zv,Zx,Zz,Zw,Zy,Z0,Ye,hN] <;> rfl) (by simp only [push_cast,seval,Zc,Ya,X2,Qz,X0,Qo,Zk,Zm,Yp,Yq,Yr,Zv,Zx,Zz,Zw,Zy,Z0,Ye,hN] <;> rfl) (by simp only [push_cast,seval,Zc,Ya,X2,Qz,X0,Qo,Zk,Zm,Yp,Yq,Yr,Zv,Zx,Zz,Zw,Zy,Z0,Ye,hN] <;> rfl) (by simp only [push_cast,seval,Zc,Ya,X2,Qz,X0,Qo,Zk,Zm,Yp,Yq,Yr,Zv,Zx,Zz,Zw,Zy,Z0,Ye,hN] <;> rfl) (by simp only [push_cast,seval,Zc,Ya,X2,Qz,X0,Qo,Zk,Zm,Yp,Yq,Yr,Zv,Zx,Zz,Zw,Zy,Z0,Ye,hN] <;> rfl) hy9).then ?_
 simp only [push_cast,seval,Zc,X2,Qz,X0,Qo,Zk,Zm,Yp,Yq,Yr,Zv,Zx,Zz,Zw,Zy,Z0,Ye,hN]
 obtain rfl:=sI h
 refine Zcs (k:=8) (i:=i1) (j:=i2) (u:=Zr) (q1:=⟨false,85,13,1,(Zj (.ref Zr 0) (.row n y8.1.left.Words.length) (.row (n+1) y8.1.left.Kids.length) (.row (n+2) y8.1.left.Ops.length) (.row (n+3) y8.1.come.length) y8.1)⟩) (p1:=⟨false,85,13,1,(Zj (.ref Zr 0) (.row (n+4) y9.1.left.Words.length) (.row (n+5) y9.1.left.Kids.length) (.row (n+6) y9.1.left.Ops.length) (.row (n+7) y9.1.come.length) y9.1)⟩) (s1:=⟨false,43,2,1,[(vB y9.2.apart),(vB y9.2.clash)]⟩) (L3:=[some (oR 48 4 Zf y8.1.left.Words),some (oR 50 12 Ze y8.1.left.Kids),some (oR 41 14 Zh y8.1.left.Ops),some (oR 25 3 Za y8.1.come),some (oR 48 4 Zf y9.1.left.Words),some (oR 50 12 Ze y9.1.left.Kids),some (oR 41 14 Zh y9.1.left.Ops),some (oR 25 3 Za y9.1.come),none]) (E2:=(⟨43,[],[]⟩:Env)) (n3:=(n+9)) (.inl rfl) hU rfl [] ?_ ?_
 ·refine fr3 (k:=18) (k':=9) hU [8,8,8,8,8,8,8,8,8,8,0,1,2,3,4,5,6,7] [10,11,12,13,14,15,16,17,0] (zM3 X2 X0 Zk) ?_ ?_
  ·simp only [push_cast,seval,Zc,X2,Qz,X0,Qo,Zk,Zm,Yp,Yq,Yr,Zv,Zx,Zz,Zw,Zy,Z0,Ye,hN]
  simp only [push_cast,seval,Zc,X2,Qz,X0,Qo,Zk,Zm,Yp,Yq,Yr,Zv,Zx,Zz,Zw,Zy,Z0,Ye,hN]
 simp only [push_cast,seval,Zc,Try.results47,X2,Qz,X0,Qo,Zk,Zm,Yp,Yq,Yr,Zv,Zx,Zz,Zw,Zy,Z0,Ye,hN]
theorem aW:∀ k,(Vw ((Zp k).1))∧(K0 ((Zp k).2.1))∧(Vg ((Zp k).2.2.1))∧(Vv ((Zp k).2.2.2.1))∧(Vu ((Zp k).2.2.2.2)):=fun k=>by
 induction k with
 | zero=>exact ⟨@fun a1 a2 Yy r O n Zr Zk Ks h=>(nomatch (show (none:Option _)=some _ from h)),@fun a1 a2 Yy r O n Zr Zk Ks h=>(nomatch (show (none:Option _)=some _ from h)),@fun a1 a2 Yy r O n Zr Zk Ks h=>(nomatch (show (none:Option _)=some _ from h)),@fun a1 a2 a3 a4 Yy r O n i1 Q4 Q5 Q6 Q7 i2 Q8 Q9 Ja Jb Zr X2 uR vR wR xR rG sG tG uG cQ dQ eQ kQ lQ qQ X0 yR aS cS dS vG wG xG yG aJ bJ cJ dJ eJ fJ Zk qY rY sY tY uY vY wY xY V7 V8 V9 Ua Ub Uc Ud Ue Jm X8 X9 fQ gQ iQ jQ mQ nQ oQ pQ rQ sQ tQ uQ vQ wQ xQ yQ ho1 lN mN nN oN ho2 pN qN rN sN Ks h=>(nomatch (show (none:Option _)=some _ from h)),@fun a1 a2 a3 a4 Yy r O n i1 Q4 Q5 Q6 Q7 i2 Q8 Q9 Ja Jb Zr X2 uR vR wR xR rG sG tG uG cQ dQ eQ kQ lQ qQ X0 yR aS cS dS vG wG xG yG aJ bJ cJ dJ eJ fJ Zk qY rY sY tY uY vY wY xY V7 V8 V9 Ua Ub Uc Ud Ue Jm X8 X9 fQ gQ iQ jQ mQ nQ oQ pQ rQ sQ tQ uQ vQ wQ xQ yQ ho1 lN mN nN oN ho2 pN qN rN sN Ks h=>(nomatch (show (none:Option _)=some _ from h))⟩
 | succ k ih=>exact ⟨@fun a1 a2 Yy r O n Zr Zk Ks h=>Za1 (ih.1) (ih.2.1) (ih.2.2.1) (ih.2.2.2.1) (ih.2.2.2.2) Zk Ks h,@fun a1 a2 Yy r O n Zr Zk Ks h=>iT (ih.1) (ih.2.1) (ih.2.2.1) (ih.2.2.2.1) (ih.2.2.2.2) Zk Ks h,@fun a1 a2 Yy r O n Zr Zk Ks h=>xO (ih.1) (ih.2.1) (ih.2.2.1) (ih.2.2.2.1) (ih.2.2.2.2) Zk Ks h,@fun a1 a2 a3 a4 Yy r O n i1 Q4 Q5 Q6 Q7 i2 Q8 Q9 Ja Jb Zr X2 uR vR wR xR rG sG tG uG cQ dQ eQ kQ lQ qQ X0 yR aS cS dS vG wG xG yG aJ bJ cJ dJ eJ fJ Zk qY rY sY tY uY vY wY xY V7 V8 V9 Ua Ub Uc Ud Ue Jm X8 X9 fQ gQ iQ jQ mQ nQ oQ pQ rQ sQ tQ uQ vQ wQ xQ yQ ho1 lN mN nN oN ho2 pN qN rN sN Ks h=>Za0 (ih.1) (ih.2.1) (ih.2.2.1) (ih.2.2.2.1) (ih.2.2.2.2) X2 uR vR wR xR rG sG tG uG cQ dQ eQ kQ lQ qQ X0 yR aS cS dS vG wG xG yG aJ bJ cJ dJ eJ fJ Zk qY rY sY tY uY vY wY xY V7 V8 V9 Ua Ub Uc Ud Ue Jm X8 X9 fQ gQ iQ jQ mQ nQ oQ pQ rQ sQ tQ uQ vQ wQ xQ yQ ho1 lN mN nN oN ho2 pN qN rN sN Ks h,@fun a1 a2 a3 a4 Yy r O n i1 Q4 Q5 Q6 Q7 i2 Q8 Q9 Ja Jb Zr X2 uR vR wR xR rG sG tG uG cQ dQ eQ kQ lQ qQ X0 yR aS cS dS vG wG xG yG aJ bJ cJ dJ eJ fJ Zk qY rY sY tY uY vY wY xY V7 V8 V9 Ua Ub Uc Ud Ue Jm X8 X9 fQ gQ iQ jQ mQ nQ oQ pQ rQ sQ tQ uQ vQ wQ xQ yQ ho1 lN mN nN oN ho2 pN qN rN sN Ks h=>Zaz (ih.1) (ih.2.1) (ih.2.2.1) (ih.2.2.2.1) (ih.2.2.2.2) X2 uR vR wR xR rG sG tG uG cQ dQ eQ kQ lQ qQ X0 yR aS cS dS vG wG xG yG aJ bJ cJ dJ eJ fJ Zk qY rY sY tY uY vY wY xY V7 V8 V9 Ua Ub Uc Ud Ue Jm X8 X9 fQ gQ iQ jQ mQ nQ oQ pQ rQ sQ tQ uQ vQ wQ xQ yQ ho1 lN mN nN oN ho2 pN qN rN sN Ks h⟩
theorem kY {a1:Zd} {a2:Zd} {Yy:Zg} {r:(Zd×Zd×Zg)} {O:Objs} {n:Nat} {Zr:Nat} (Zk:Zr < n) (Ks:O Zr=some ⟨false,43,2,1,[(vB Yy.apart),(vB Yy.clash)]⟩) (h:Gr a1 a2 Yy=some r):GTo Try.prog 13 [.ref Zr 0,.agg (Zl a1),.agg (Zl a2)] O n (.tup [.agg (Zl r.1),.agg (Zl r.2.1)]) (Yn (O.upd Zr (some ⟨false,43,2,1,[(vB r.2.2.apart),(vB r.2.2.clash)]⟩)) n []) (n+0):=by
 obtain ⟨k,hk⟩:=pV h
 exact (aW k).1 Zk Ks hk
end Go.Proofs.Ytocpndlnbmjpmaa
