/- Part VM4 of this seat's mirrors: functions of the seat's program, and the plain functions that they are; each theorem bears its own conditions. -/
import Derived.Test.YtocpndlnbmjpmaaVM1
namespace Go.Proofs.Ytocpndlnbmjpmaa
open Go.RowKit
set_option linter.unusedVariables false
set_option linter.unusedSimpArgs false
set_option maxRecDepth 100000
set_option maxHeartbeats 4000000
attribute [local push_cast] Try.results25 Try.results39 Try.results59 Try.results71 Try.results72 Try.results85 Try.results86 Try.results87 Try.results89 vI vB nV sL oR Zl zJ Xk Z9 Qi Qj Xr Ku uD fB Ze4 Zdo xW dO wW cO Zb0 Zbw bO Zbz Zby Zbx yW Zbv vP evS wok Uw Op.operands Call.operands gop atK List.all_cons List.all_nil Bool.and_self Value.oneCell' List.take_zero List.take_succ_cons List.take_nil List.drop_zero List.drop_succ_cons List.drop_nil List.append_nil Nat.add_zero Nat.zero_add vJ Xw ev U2 Zkp Zer Zeq Zew Zeu Zev Zes Zet Zep Zhu Zi7 Zne yS qB sR zB tT cI kF pF fN aN nF eN dN bN mF zM lF oF yC Zar jN gU tR iU pO wS Zkr mG mT gF rB oO Zo6 vS Zah bF nK Zir Zpa qR uF Zpd pB Zq8 Zba Zbe Za9 Zbd Zfi Zfe Zfd yT Zbb Zfh Zfg Zff Zbc Ze9 Zfc Ze8 Zfb Zk1 Zky Zkx Zfa Zkz Zk0 xS gone pop TK.isAgg Zfw Zf0 Zfv Zfz Zbn Zlp Zll Zfy Zlo Zln Zlm Zfx Zlk G.under G.unders List.getD_cons_zero List.getD_cons_succ List.set_cons_zero List.set_cons_succ List.map_cons List.map_nil List.toList_toArray Array.toList_append Option.toArray_none Option.toArray_some Option.map_some Option.map_none Option.bind_some Option.bind_none List.getElem?_cons_zero List.getElem?_cons_succ List.getElem?_nil List.nil_append List.cons_append List.replicate_succ List.replicate_zero List.length_cons List.length_nil and_true true_and Bool.true_eq_false Bool.false_eq_true forall_const implies_true IntKind.bits ite_true ite_false eq_self or_false decide_true decide_eq_true_eq decide_eq_false_iff_not ne_eq beq_self_eq_true Option.some.injEq exists_eq_left' ge_iff_le gt_iff_lt Bool.not_true imp_self cond_true cond_false Zyx Zyw Gx tX oZ jB Up Kg Option.join_some Nat.add_assoc Int.toNat_natCast eI eL Ya rM wF Ze2 Ze0 Ze1 Zrt Zug vM mH Zga Zf8 Zf9 Znr fM Zkk yK Za4 pM List.length_append G.agg.injEq G.tup.injEq List.flatten_cons List.flatten_nil Nat.le_refl rH Yb Z8 Bool.not_eq_true' Zhi fO Zm7 Zm2 Zm6 Zth tW qC G.ren G.rens mR lI Zgf G.fn.injEq Zck Zcl Zm4 Zm3 Zk4 Zrg Option.join_none Yo tJ undef Zaj Arr.put_eq uM kW iP lH Zf7 Zf5 Zf6 onB Zrs Zip Zr9 Zqg Zjz Zea Zeb fW pW Zcx kP nH nW Zbr Zbq Zbp Zbo Zuf Zxw Znq Zlr G8 Znl Zdv Zh8 Zd2 Zpy Zgh tS Zag Zgd Zqh Znw Zwq sF prT cC Z1j Zms wP Zmt Z1k Zmu Znu Zmv Z1l Zmw Z1m Zmx Z1n Zmy Z1o Zmz Zsf Zgj Zsg Zgk Zsh Zgl Zsi Zgm Zsj Zgn Zsk Zgo Zsl Zgp Zsm Zgq Zsn Zgr Zso Zgs Zsp Zgt Zsq Zc4 Zmq zA Zsr Zgu mY Zgv Zss Zc5 Zst jM Zsu Zc6 Zsv Zgw xP Zgx Zsw Zgy yP Zgz Zsx Zg0 rJ Zg1 Zsy Zg2 Zsz Zg3 Zs0 Zg4 oS Zg5 Zs1 Zg6 aV Zg7 Zs2 Zg8 Zs3 Zg9 Zs4 Zha Zs5 Zhb Zoo Zhc Zs6 Zhd Zs7 Zhe Zs8 Zhf Zs9 Zhg Zta Zhh Zmr Zc7 Zl9 Zb1 Zma Zb2 Zmb Zb3 Zmc Zb4 Zmd Zb5 Zme Zb6 Zmf Zb7 Zmg Zb8 Zmh Zb9 Zmi Zca Zmj Zcb Zmk Zcc Zml Zcd Zmm Zce Zmn Zcf Zmo Zcg Zmp Zch Za Jn bR oH vV aF mE vE uK Zf Jz Zh Ze Vk Jj nY eZ sX lY pA wU Xm
theorem Zjf {a0:Zb} {a1:Int} {a2:Zb} {r:Zb} {O:Objs} {n:Nat} {i0 Yt:Nat} (Ys:i0 < n) (Jr:Yt < n) (X4:i0≠Yt) (uC:O i0=some ⟨false,25,3,1,[(vI a0.Kind),(sL (eI .u64) a0.Words),.row Yt a0.Kids.length]⟩) (J7:O Yt=some (oR 25 3 Za a0.Kids)) (h:eA a0 a1 a2=some r):GTo Try.prog 85 [.ref i0 0,(vI a1),.agg (Z9 a2)] O n (.tup []) (Yn ((O.upd Yt none).upd i0 (some ⟨false,25,3,1,[(vI r.Kind),(sL (eI .u64) r.Words),.row n r.Kids.length]⟩)) n [some (oR 25 3 Za r.Kids)]) (n+1):=by
 unfold eA at h
 refine vX Yd Try.call85 Try.func85 rfl (Nat.le_of_ble_eq_true rfl) (by omega) fun hU => ?_
 refine Xi (Y0 (k:=2) (by rw [Yb _ Ys];first | exact uC | exact Yo _ _ _ <;> rfl) (by rfl) (by rw [Yb _ Jr];exact J7) X4 (by simp only [push_cast,Nat.reduceAdd,Z8 _ _ Jr,Z8 _ _ Ys] <;> rfl) (by omega)) ?_
 have hU:=(Und.drop hU Yt)
 have Y4:∀ k,i0 < n+k:=fun k=>by omega
 have Ye:∀ o,Objs.upd (O.upd Yt none) i0 o n=none:=fun o=>Xb hU Ys _ (Nat.le_refl _)
 have hN:∀ o k,Objs.upd (O.upd Yt none) i0 o (n+k)=none:=fun o k=>Xb hU Ys _ (Nat.le_add_right _ _)
 show W _ _ _ _ ⟨43,[],[(0,.ref i0 0),(1,(vI a1)),(2,.agg (Z9 a2))]⟩ (Yn ((O.upd Yt none).upd i0 (some ⟨false,25,3,1,[(vI a0.Kind),(sL (eI .u64) a0.Words),.row n a0.Kids.length]⟩)) n [some (oR 25 3 Za a0.Kids)]) _
 refine fZ [0,1,5] Ys Y4 ?_
 refine Z7 ?_
 refine zD [0,1,5] [true,true] ?_
 obtain ⟨z5,hz5,h⟩:=bC h
 refine X7 (E':=⟨43,[],[(0,.ref i0 0),(1,(vI a1)),(5,.ref (n+1) 0)]⟩) (O':=(Yn ((O.upd Yt none).upd i0 (some ⟨false,25,3,1,[(vI a0.Kind),(sL (eI .u64) a0.Words),.row n z5.length]⟩)) n [some (oR 25 3 Za z5),some ⟨false,25,3,1,(Z9 a2)⟩])) (n0:=(n+2)) ?_ ?_
 ·refine Qy hz5 (fun Yf=>⟨43,[],[(0,.ref i0 0),(1,(vI a1)),(5,.ref (n+1) 0)]⟩) (fun Yf=>(Yn ((O.upd Yt none).upd i0 (some ⟨false,25,3,1,[(vI a0.Kind),(sL (eI .u64) a0.Words),.row n Yf.length]⟩)) n [some (oR 25 3 Za Yf),some ⟨false,25,3,1,(Z9 a2)⟩])) (fun z5=>JX 0 n (⟨43,[],[(0,.ref i0 0),(1,(vI a1)),(5,.ref (n+1) 0)]⟩:Env) (Yn ((O.upd Yt none).upd i0 (some ⟨false,25,3,1,[(vI a0.Kind),(sL (eI .u64) a0.Words),.row n z5.length]⟩)) n [some (oR 25 3 Za z5),some ⟨false,25,3,1,(Z9 a2)⟩]) (n+2)) ?_
  intro Yf x0_ Zu
  unfold oK at Zu
  try dsimp only
  refine Z7 ?_
  refine yJ [0,1,5,17] (Yv Yd [none,none,none] ?_)
  refine eR Ys Y4 ?_
  refine zG ?_
  refine Yj (t:=(cond (decide ((Yf.length:Int)≤a1)) (a2.Kind != 0) false)) rfl (fun c4 => ?_) (fun c4 => ?_)
  ·replace Zu:=Ym c4 Zu
   refine uZ [0,1,5] [true,true] ?_
   refine Xt ?_
   obtain ⟨l1,pl1,ql1,el1,Zu⟩:=bA (k:=1) rfl Zu
   obtain ⟨x2,hx2,ax2,bx2,cx2,Zu⟩:=bE (f:=Za) mY (fun _=>rfl) (by decide) Zu
   have gu3:Vb (fl Za Yf++[.val (.int .i64 0),.val (.slice none 0 0),.val (.slice none 0 0)]) [.val (.int .i64 0),.val (.slice none 0 0),.val (.slice none 0 0)] (List.length Yf * 3)=some (fl Za Yf++[.val (.int .i64 0),.val (.slice none 0 0),.val (.slice none 0 0)]):=U5 (f:=Za) (sz:=3) (fun _=>rfl) rfl rfl
   refine V4 Yd (by kernel_rfl) [.plain,.low,.low,.low,.plain,.low,.pass,.bar,.shp,.fill true,.shp,.shp,.fill false] (fun i=>i < (n+2)) [0,1,2,3,4,5,6,7,8,9,10,11,12] [.plain,.low,.low,.low,.plain,.low,.pass,.bar,.shp,.fill true,.shp,.shp,.fill false] [] (by kernel_rfl) rfl ?_
   refine zF9 pl1 ql1 el1 ax2 bx2 cx2 gu3 Ys Y4 ?_
   refine zO ?_
   obtain rfl:=sI Zu
   refine And.intro rfl (Fit2.of (Xy hU rfl rfl ?_) (by omega))
   exact Zqf pl1 ql1 el1 ax2 bx2 cx2 gu3 Ys Y4
  replace Zu:=Yl c4 Zu
  refine zXt ?_
  obtain rfl:=sI Zu
  refine And.intro (fun h=>by cases h) (And.intro rfl (Fit2.of (Xy hU rfl rfl ?_) (by omega)))
  exact Qx Ys Y4
 try simp only [Qj,Xr,↓reduceIte,Nat.reduceEqDiff]
 refine zD [0,1,5] [true,true] ?_
 refine fZ [0,1,5,35] Ys Y4 ?_
 refine Yj (t:=(decide (a1 < (z5.length:Int)))) rfl (fun c8 => ?_) (fun c8 => ?_)
 ·replace h:=Ym c8 h
  obtain ⟨x6,hx6,ax6,bx6,cx6,h⟩:=bE (f:=Za) mY (fun _=>rfl) (by decide) h
  have gu7:Vb (fl Za z5) [.val (.int .i64 a2.Kind),.sl a2.Words.length (fl (eI .u64) a2.Words),.sl a2.Kids.length (fl Za a2.Kids)] (Int.toNat a1 * 3)=some (fl Za (sP z5 a1 a2)):=(congrArg (fun c=>Vb (fl Za z5) c (Int.toNat a1 * 3)) (show [.val (.int .i64 a2.Kind),.sl a2.Words.length (fl (eI .u64) a2.Words),.sl a2.Kids.length (fl Za a2.Kids)]=Za a2 from by simp only [Za,Jn,eI,eB,eS,eL])).trans (uT (f:=Za) (ti:=⟨.bool,3,0,[],false⟩) (x:=a2) (fun _=>rfl) (cD hx6))
  refine oY Yd (by kernel_rfl) [false,false,false,false,false,false,false,true] [] (by kernel_rfl) ?_
  refine zF6 ax6 bx6 cx6 gu7 Ys Y4 ?_
  obtain rfl:=sI h
  refine Jl (k:=1) (i:=i0) (q1:=⟨false,25,3,1,[(vI a0.Kind),(sL (eI .u64) a0.Words),.row n (sP z5 a1 a2).length]⟩) (L3:=[some (oR 25 3 Za (sP z5 a1 a2)),none]) (E2:=(⟨43,[],[]⟩:Env)) (n3:=(n+2)) (.inl rfl) hU rfl [] ?_ ?_
  ·refine uS (k:=2) (k':=2) hU [0,1] [0,0] (lT Ys) ?_ ?_
   ·exact Z7j ax6 bx6 cx6 gu7 Ys Y4
   exact Qx Ys Y4
  simp only [push_cast,seval,Zc,Try.results85,Ys,Y4,Ye,hN]
 replace h:=Yl c8 h
 refine zK ?_
 obtain rfl:=sI h
 refine Jl (k:=1) (i:=i0) (q1:=⟨false,25,3,1,[(vI a0.Kind),(sL (eI .u64) a0.Words),.row n z5.length]⟩) (L3:=[some (oR 25 3 Za z5),none]) (E2:=(⟨43,[],[]⟩:Env)) (n3:=(n+2)) (.inl rfl) hU rfl [] ?_ ?_
 ·refine uS (k:=2) (k':=2) hU [0,1] [0,0] (lT Ys) ?_ ?_
  ·exact Qx Ys Y4
  exact Qx Ys Y4
 simp only [push_cast,seval,Zc,Try.results85,Ys,Y4,Ye,hN]
theorem Zpt {a0:Int} {r:Bool} {O:Objs} {n:Nat} (h:bH a0=some r):GTo Try.prog 86 [(vI a0)] O n ((vB r)) O n:=by
 unfold bH at h
 refine uH Try.call86 Try.func86 fun hU Ye hN => ?_
 show W _ _ _ _ ⟨9,[],[(0,(vI a0))]⟩ (Yn O n []) _
 refine zQ [0] ?_
 refine zQD [2] [none,none] ?_
 exact Jo [(vB (cond (decide (2≤a0)) (decide (a0≤9)) false))]
def eK (Qe:(Zd→Zb→Option (Zb×Bool))):Prop:=∀ {a0:Zd} {a1:Zb} {r:(Zb×Bool)} {O:Objs} {n:Nat},Qe a0 a1=some r→GTo Try.prog 59 [.agg (Zl a0),.agg (Z9 a1)] O n (.tup [.agg (Z9 r.1),(vB r.2)]) O n
def Gc (Xn:(Zd→Zb→Option (Zb×Bool))):Prop:=∀ {a0:Zd} {a1:Zb} {r:(Zb×Bool)} {O:Objs} {n:Nat},Xn a0 a1=some r→GTo Try.prog 71 [.agg (Zl a0),.agg (Z9 a1)] O n (.tup [.agg (Z9 r.1),(vB r.2)]) O n
def fK (Q0:(Zd→Zb→Option (Zb×Bool))):Prop:=∀ {a0:Zd} {a1:Zb} {r:(Zb×Bool)} {O:Objs} {n:Nat},Q0 a0 a1=some r→GTo Try.prog 72 [.agg (Zl a0),.agg (Z9 a1)] O n (.tup [.agg (Z9 r.1),(vB r.2)]) O n
def Vt (Xc:(Zt→Zo→Option (Bool×Zt))):Prop:=∀ {a0:Zt} {a1:Zo} {r:(Bool×Zt)} {O:Objs} {n:Nat} {i0 Yt:Nat},i0 < n→Yt < n→i0≠Yt→O i0=some ⟨false,124,2,1,[(sL Za a0.left),.row Yt a0.out.length]⟩→O Yt=some (oR 25 3 Za a0.out)→Xc a0 a1=some r→GTo Try.prog 87 [.ref i0 0,.agg (Xk a1)] O n ((vB r.1)) (Yn ((O.upd Yt none).upd i0 (some ⟨false,124,2,1,[(sL Za r.2.left),.row n r.2.out.length]⟩)) n [some (oR 25 3 Za r.2.out)]) (n+1)
def Kz (Y5:(Zt→Zd→Option (Bool×Zt))):Prop:=∀ {a0:Zt} {a1:Zd} {r:(Bool×Zt)} {O:Objs} {n:Nat} {i0 Yt:Nat},i0 < n→Yt < n→i0≠Yt→O i0=some ⟨false,124,2,1,[(sL Za a0.left),.row Yt a0.out.length]⟩→O Yt=some (oR 25 3 Za a0.out)→Y5 a0 a1=some r→GTo Try.prog 89 [.ref i0 0,.agg (Zl a1)] O n ((vB r.1)) (Yn ((O.upd Yt none).upd i0 (some ⟨false,124,2,1,[(sL Za r.2.left),.row n r.2.out.length]⟩)) n [some (oR 25 3 Za r.2.out)]) (n+1)
theorem Zlg {Qe:(Zd→Zb→Option (Zb×Bool))} {Xn:(Zd→Zb→Option (Zb×Bool))} {Q0:(Zd→Zb→Option (Zb×Bool))} {Xc:(Zt→Zo→Option (Bool×Zt))} {Y5:(Zt→Zd→Option (Bool×Zt))} (Gv:eK Qe) (jY:Gc Xn) (tU:fK Q0) (Gm:Vt Xc) (Vx:Kz Y5) {a0:Zd} {a1:Zb} {r:(Zb×Bool)} {O:Objs} {n:Nat} (h:pZ Qe Xn Q0 Xc Y5 a0 a1=some r):GTo Try.prog 59 [.agg (Zl a0),.agg (Z9 a1)] O n (.tup [.agg (Z9 r.1),(vB r.2)]) O n:=by
 unfold pZ at h
 refine uH Try.call59 Try.func59 fun hU Ye hN => ?_
 show W _ _ _ _ ⟨34,[],[(0,.agg (Zl a0)),(1,.agg (Z9 a1))]⟩ (Yn O n []) _
 refine zQ [2,3,4] ?_
 refine Z7 ?_
 refine zQ [2,3,4,7] ?_
 refine Xt ?_
 refine zQ [2,3,4,7,8] ?_
 refine Yj (t:=(a0.Kind == 0)) rfl (fun iB => ?_) (fun iB => ?_)
 ·replace h:=Ym iB h
  refine Z7 ?_
  refine zRd [4,5] [false,false,true] ?_
  exact Jo [.agg (Z9 a1),(vB true)]
 replace h:=Yl iB h
 refine zQ [2,3,4,7,11] ?_
 refine Yj (t:=(a0.Kind == 1)) rfl (fun c9 => ?_) (fun c9 => ?_)
 ·replace h:=Ym c9 h
  refine Z7 ?_
  obtain ⟨y2,kE,h⟩:=bC h
  refine oY Yd (by kernel_rfl) [false,false,false,false,false,false,true,false] [] (by kernel_rfl) ?_
  refine zS ?_
  refine PCall.of (fT kE) ?_
  refine zS ?_
  refine zD [4,5] [false,false,true] ?_
  exact Jo [.agg (Z9 a0.New),(vB y2)]
 replace h:=Yl c9 h
 refine zQ [2,3,4,7,19] ?_
 refine Yj (t:=(a0.Kind == 2)) rfl (fun c8 => ?_) (fun c8 => ?_)
 ·replace h:=Ym c8 h
  refine Z7 ?_
  obtain ⟨y4,hy4,h⟩:=bC h
  refine zCd (jY hy4) [4,5] [false,false,true] ?_
  exact Jo [.agg (Z9 y4.1),(vB y4.2)]
 replace h:=Yl c8 h
 refine zQ [2,3,4,26] ?_
 refine Yj (t:=(a0.Kind == 3)) rfl (fun c7 => ?_) (fun c7 => ?_)
 ·replace h:=Ym c7 h
  refine Z7 ?_
  obtain ⟨y6,hy6,h⟩:=bC h
  refine zCd (tU hy6) [4,5] [false,false,true] ?_
  exact Jo [.agg (Z9 y6.1),(vB y6.2)]
 replace h:=Yl c7 h
 refine uZ [4] [false,false,true] ?_
 refine Z7 ?_
 refine zRd [4,5] [false,false,true] ?_
 exact Jo [.agg [(vI 0),nV,nV],(vB false)]
theorem Zdc {Qe:(Zd→Zb→Option (Zb×Bool))} {Xn:(Zd→Zb→Option (Zb×Bool))} {Q0:(Zd→Zb→Option (Zb×Bool))} {Xc:(Zt→Zo→Option (Bool×Zt))} {Y5:(Zt→Zd→Option (Bool×Zt))} (Gv:eK Qe) (jY:Gc Xn) (tU:fK Q0) (Gm:Vt Xc) (Vx:Kz Y5) {a0:Zd} {a1:Zb} {r:(Zb×Bool)} {O:Objs} {n:Nat} (h:pY Qe Xn Q0 Xc Y5 a0 a1=some r):GTo Try.prog 71 [.agg (Zl a0),.agg (Z9 a1)] O n (.tup [.agg (Z9 r.1),(vB r.2)]) O n:=by
 unfold pY at h
 refine uH Try.call71 Try.func71 fun hU Ye hN => ?_
 show W _ _ _ _ ⟨92,[],[(0,.agg (Zl a0)),(1,.agg (Z9 a1))]⟩ (Yn O n []) _
 refine zQ [2,3,4] ?_
 refine Z7 ?_
 refine zQ [2,3,4,16] ?_
 refine Yj (t:=(a1.Kind != 1)) rfl (fun Z51 => ?_) (fun Z51 => ?_)
 ·replace h:=Ym Z51 h
  refine Z7 ?_
  refine zRd [4,5] [false,false,true] ?_
  exact Jo [.agg [(vI 0),nV,nV],(vB false)]
 replace h:=Yl Z51 h
 refine uZ [2,3,4] [true,true,true] ?_
 obtain ⟨y25,Zku,h⟩:=bC h
 obtain ⟨y61,Zzv,h⟩:=bC h
 refine Qf (E':=⟨92,[],[(2,.ref n 0),(3,.ref (n+1) 0),(4,.ref (n+2) 0),(6,.ref (n+5) 0)]⟩) (O':=(Yn O n [some ⟨false,30,11,1,(Zl a0)⟩,some ⟨false,25,3,1,(Z9 a1)⟩,some ⟨false,25,3,1,[(vI 0),nV,nV]⟩,some (oR 39 1 (eI .u64) y25),some (oR 25 3 Za y61),some ⟨false,25,3,1,[(vI 1),.row (n+3) y25.length,.row (n+4) y61.length]⟩])) (n0:=(n+6)) ?_ ?_
 ·refine Zed Yd (by kernel_rfl) [.low,.low,.pass,.low,.low,.pass,.plain,.pass,.pass] (fun i=>i < (n+3)) [0,1,3,4] [2,5,6,7] [8] (.alt 2 (.alt 5 (.seq [6,7]) (.one 7 (.seq [5,6]))) (.one 7 (.seq [2,5,6]))) [.low,.low,.low,.low] [] (by kernel_rfl) rfl ?_
  simp (maxSteps:=4000000) only [push_cast,seval,Zc,Ye,hN]
  repeat (with_reducible refine And.intro (by omega) ?_)
  try simp only [push_cast,seval,Zc,Ye,hN]
  refine And.intro ?_ ?_
  ·try simp only [push_cast,seval,Zc,Ye,hN]
   repeat (with_reducible refine And.intro (by first | exact Yi rfl | exact Yc) ?_)
   refine (aU Zku).then ?_
   try simp only [push_cast,seval,Zc,Ye,hN]
   repeat (with_reducible refine And.intro (by first | exact Yi rfl | exact Yc) ?_)
   try simp only [push_cast,seval,Zc,Ye,hN]
   refine And.intro ?_ ?_
   ·try simp only [push_cast,seval,Zc,Ye,hN]
    repeat (with_reducible refine And.intro (by first | exact Yi rfl | exact Yc) ?_)
    refine (Ge Zzv).then ?_
    try simp only [push_cast,seval,Zc,Ye,hN]
    repeat (with_reducible refine And.intro (by first | exact Yi rfl | exact Yc) ?_)
    try simp only [push_cast,seval,Zc,Ye,hN]
    repeat (with_reducible refine And.intro (by first | exact Yi rfl | exact Yc) ?_)
    exact zEf
   try simp only [push_cast,seval,Zc,Ye,hN]
   repeat (with_reducible refine And.intro (by first | exact Yi rfl | exact Yc) ?_)
   try simp only [push_cast,seval,Zc,Ye,hN]
   repeat (with_reducible refine And.intro (by first | exact Yi rfl | exact Yc) ?_)
   refine (Ge Zzv).then ?_
   try simp only [push_cast,seval,Zc,Ye,hN]
   repeat (with_reducible refine And.intro (by first | exact Yi rfl | exact Yc) ?_)
   refine And.intro rfl ?_
   refine fr0 (k:=6) (k':=6) hU [0,1,2,3,5,4] [0,1,2,3,5,4] zM0 ?_ ?_
   ·exact lC
   exact lC
  try simp only [push_cast,seval,Zc,Ye,hN]
  repeat (with_reducible refine And.intro (by first | exact Yi rfl | exact Yc) ?_)
  try simp only [push_cast,seval,Zc,Ye,hN]
  repeat (with_reducible refine And.intro (by first | exact Yi rfl | exact Yc) ?_)
  refine (aU Zku).then ?_
  try simp only [push_cast,seval,Zc,Ye,hN]
  repeat (with_reducible refine And.intro (by first | exact Yi rfl | exact Yc) ?_)
  refine (Ge Zzv).then ?_
  try simp only [push_cast,seval,Zc,Ye,hN]
  repeat (with_reducible refine And.intro (by first | exact Yi rfl | exact Yc) ?_)
  refine And.intro rfl ?_
  refine fr0 (k:=6) (k':=6) hU [0,1,2,5,3,4] [0,1,2,4,5,3] zM0 ?_ ?_
  ·exact lC
  exact lC
 refine Z7 ?_
 refine zQd [2,3,4,6,26,27,28] [2,3,4,6,26,27,28] [true,true,true,true,true,true] ?_
 refine Xi (E':=(⟨92,[],[(2,.ref n 0),(3,.ref (n+1) 0),(4,.ref (n+2) 0),(6,.ref (n+5) 0),(26,(sL Zf a0.Words)),(27,(vI (a0.Words.length:Int))),(28,(vI 0))]⟩:Env)) (O':=(Yn O n [some ⟨false,30,11,1,(Zl a0)⟩,some ⟨false,25,3,1,(Z9 a1)⟩,some ⟨false,25,3,1,[(vI 0),nV,nV]⟩,none,none,some ⟨false,25,3,1,[(vI 1),.row (n+6) y25.length,.row (n+7) y61.length]⟩,some (oR 39 1 (eI .u64) y25),some (oR 25 3 Za y61),none])) (n':=(n+9)) ?_ ?_
 ·refine fr0 (k:=6) (k':=9) hU [0,1,2,6,7,5] [0,1,2,0,0,5,3,4,0] zM0 ?_ ?_
  ·exact lC
  exact lC
 obtain ⟨tD,Z96,h⟩:=bC h
 refine gV (J:=(Kh (fun tD=>JR n (⟨92,[],[(4,.ref (n+2) 0),(5,(vB false))]⟩:Env) (Yn O n [none,none,some ⟨false,25,3,1,[(vI 0),nV,nV]⟩,none,none,none]) (n+6)) (fun tD=>JX 0 n (⟨92,[],[(2,.ref n 0),(3,.ref (n+1) 0),(4,.ref (n+2) 0),(6,.ref (n+5) 0)]⟩:Env) (Yn O n [some ⟨false,30,11,1,(Zl a0)⟩,some ⟨false,25,3,1,(Z9 a1)⟩,some ⟨false,25,3,1,[(vI 0),nV,nV]⟩,none,none,some ⟨false,25,3,1,[(vI tD.1),.row (n+6) tD.2.1.length,.row (n+7) tD.2.2.length]⟩,some (oR 39 1 (eI .u64) tD.2.1),some (oR 25 3 Za tD.2.2),none]) (n+9)))) (z:=tD) ?_ fun hw => ?_
 ·refine Qy Z96 (fun Yf=>⟨92,[],[(2,.ref n 0),(3,.ref (n+1) 0),(4,.ref (n+2) 0),(6,.ref (n+5) 0),(26,(sL Zf a0.Words)),(27,(vI (a0.Words.length:Int))),(28,(vI Yf.1))]⟩) (fun Yf=>(Yn O n [some ⟨false,30,11,1,(Zl a0)⟩,some ⟨false,25,3,1,(Z9 a1)⟩,some ⟨false,25,3,1,[(vI 0),nV,nV]⟩,none,none,some ⟨false,25,3,1,[(vI Yf.2.1),.row (n+6) Yf.2.2.1.length,.row (n+7) Yf.2.2.2.length]⟩,some (oR 39 1 (eI .u64) Yf.2.2.1),some (oR 25 3 Za Yf.2.2.2),none])) (Kh (fun tD=>JR n (⟨92,[],[(4,.ref (n+2) 0),(5,(vB false))]⟩:Env) (Yn O n [none,none,some ⟨false,25,3,1,[(vI 0),nV,nV]⟩,none,none,none]) (n+6)) (fun tD=>JX 0 n (⟨92,[],[(2,.ref n 0),(3,.ref (n+1) 0),(4,.ref (n+2) 0),(6,.ref (n+5) 0)]⟩:Env) (Yn O n [some ⟨false,30,11,1,(Zl a0)⟩,some ⟨false,25,3,1,(Z9 a1)⟩,some ⟨false,25,3,1,[(vI 0),nV,nV]⟩,none,none,some ⟨false,25,3,1,[(vI tD.1),.row (n+6) tD.2.1.length,.row (n+7) tD.2.2.length]⟩,some (oR 39 1 (eI .u64) tD.2.1),some (oR 25 3 Za tD.2.2),none]) (n+9))) ?_
  intro Yf x0_ Zu
  unfold Vh at Zu
  try dsimp only
  refine zQ [2,3,4,6,26,27,28,29] ?_
  refine Z7 ?_
  refine Yj (t:=(decide (Yf.1 < (a0.Words.length:Int)))) rfl (fun Z5y => ?_) (fun Z5y => ?_)
  ·replace Zu:=Ym Z5y Zu
   refine uZ [2,3,4,6,26,27,28] [true,true,true,false,false,true,true,true,false] ?_
   refine Z7 ?_
   refine Xt ?_
   refine Z7 ?_
   obtain ⟨Zqe,Yfj,Z7x,Z8b,Z8o,Zu⟩:=bE (f:=Zf) oS (fun _=>rfl) (by decide) Zu
   refine dM [] Z7x Z8b Z8o ?_
   refine lO [2,3,4,6,8,26,27,28] [true,true,true,false,false,true,true,true,false,true] ?_
   obtain ⟨Z3z,Z9q,Zu⟩:=bC Zu
   refine zCd (Zpu Z9q) [2,3,4,6,8,9,26,27,28] [true,true,true,false,false,true,true,true,false,true] ?_
   refine Z7 ?_
   obtain ⟨Z34,Zdi,Zu⟩:=bC Zu
   refine Qf (E':=⟨92,[],[(2,.ref n 0),(3,.ref (n+1) 0),(4,.ref (n+2) 0),(6,.ref (n+5) 0),(8,.ref (n+9) 0),(9,.val (.int .u64 Z3z)),(26,(sL Zf a0.Words)),(27,(vI (a0.Words.length:Int))),(28,(vI Yf.1)),(49,(vB Z34))]⟩) (O':=(Yn O n [some ⟨false,30,11,1,(Zl a0)⟩,some ⟨false,25,3,1,(Z9 a1)⟩,some ⟨false,25,3,1,[(vI 0),nV,nV]⟩,none,none,some ⟨false,25,3,1,[(vI Yf.2.1),.row (n+6) Yf.2.2.1.length,.row (n+7) Yf.2.2.2.length]⟩,some (oR 39 1 (eI .u64) Yf.2.2.1),some (oR 25 3 Za Yf.2.2.2),none,some ⟨false,48,4,1,(Qi Zqe)⟩])) (n0:=(n+10)) ?_ ?_
   ·obtain ⟨Zd9,Zvj,Zdi⟩:=bC Zdi
    rcases Bool.eq_false_or_eq_true Zd9 with Znb | Znb
    ·replace Zdi:=Ym Znb Zdi
     refine Jh Yd (by kernel_rfl) (Zrp []) (by kernel_rfl) ?_
     refine zX1 Znb ?_
     refine PCall.of (sE Zvj) ?_
     refine zX1 Znb ?_
     exact xJ Zdi Znb
    replace Zdi:=Yl Znb Zdi
    obtain ⟨Ycj,Z9t,Zdi⟩:=bC Zdi
    refine Jh Yd (by kernel_rfl) (Z6z []) (by kernel_rfl) ?_
    refine zX1 Znb ?_
    refine PCall.of (sE Zvj) ?_
    refine zX1 Znb ?_
    refine PCall.of (pD Z9t) ?_
    refine zX1 Znb ?_
    exact xJ Zdi Znb
   refine Yj (t:=Z34) rfl (fun Z5x => ?_) (fun Z5x => ?_)
   ·replace Zu:=Ym Z5x Zu
    refine Z7 ?_
    refine zRd [4,5] [false,false,true,false,false,false,false,false,false,false] ?_
    refine zW ?_
    exact zEy Zu
   replace Zu:=Yl Z5x Zu
   refine uZ [2,3,4,6,8,9,26,27,28] [true,true,true,false,false,true,true,true,false,true] ?_
   obtain ⟨Yck,Z9u,Zu⟩:=bC Zu
   obtain ⟨Z30,Z9v,Zu⟩:=bC Zu
   refine oY Yd (by kernel_rfl) [false,false,false,false,false,false,false,false,true] [] (by kernel_rfl) ?_
   refine zS ?_
   refine PCall.of (Zrr Z9u) ?_
   refine zS ?_
   refine (Zh2 (i0:=(n+5)) (Yt:=(n+7)) (Y1:=(n+6)) (by omega) (by omega) (by omega) (by omega) (by omega) (by omega) (by simp only [push_cast,seval,Zc,Ya,Ye,hN] <;> rfl) (by simp only [push_cast,seval,Zc,Ya,Ye,hN] <;> rfl) (by simp only [push_cast,seval,Zc,Ya,Ye,hN] <;> rfl) Z9v).then ?_
   refine zS ?_
   refine zD [2,3,4,6,26,27,28] [true,true,true,false,false,true,false,false,false,false,true,true] ?_
   refine zR ?_
   obtain rfl:=sI Zu
   refine And.intro rfl ?_
   refine fr0 (k:=12) (k':=9) hU [0,1,2,8,8,5,8,8,8,8,7,6] [0,1,2,0,0,5,11,10,0] zM0 ?_ ?_
   ·exact lC
   exact lC
  replace Zu:=Yl Z5y Zu
  exact zEx Zu
 rcases tD with tD | tD
 ·dsimp only [Kh] at hw h
  refine Uq hw ?_
  try simp only [Qj,Xr,↓reduceIte,Nat.reduceEqDiff]
  exact jO [.agg [(vI 0),nV,nV],(vB false)]
 dsimp only [Kh] at hw h
 refine X7 hw ?_
 try simp only [Qj,Xr,↓reduceIte,Nat.reduceEqDiff]
 refine lO [2,3,4,6] [true,true,true,false,false,true,true,true,false] ?_
 refine zQd [3,4,6,62,63,64] [3,4,6,62,63,64] [false,true,true,false,false,true,true,true,false] ?_
 refine Xi (E':=(⟨92,[],[(3,.ref (n+1) 0),(4,.ref (n+2) 0),(6,.ref (n+5) 0),(62,(sL Ze a0.Kids)),(63,(vI (a0.Kids.length:Int))),(64,(vI 0))]⟩:Env)) (O':=(Yn O n [none,some ⟨false,25,3,1,(Z9 a1)⟩,some ⟨false,25,3,1,[(vI 0),nV,nV]⟩,none,none,some ⟨false,25,3,1,[(vI tD.1),(sL (eI .u64) tD.2.1),.row (n+9) tD.2.2.length]⟩,none,none,none,some (oR 25 3 Za tD.2.2),none])) (n':=(n+11)) ?_ ?_
 ·refine fr0 (k:=9) (k':=11) hU [10,1,2,10,10,5,10,9,10] [0,1,2,0,0,5,0,0,0,7,0] zM0 ?_ ?_
  ·exact lC
  exact lC
 obtain ⟨tH,Z97,h⟩:=bC h
 refine gV (J:=(Kh (fun tH=>JR n (⟨92,[],[(4,.ref (n+2) 0),(5,(vB false))]⟩:Env) (Yn O n [none,none,some ⟨false,25,3,1,[(vI 0),nV,nV]⟩,none,none,none,none,none,none]) (n+9)) (fun tH=>JX 2 n (⟨92,[],[(4,.ref (n+2) 0),(6,.ref (n+5) 0)]⟩:Env) (Yn O n [none,none,some ⟨false,25,3,1,[(vI 0),nV,nV]⟩,none,none,some ⟨false,25,3,1,[(vI tH.1),(sL (eI .u64) tH.2.1),.row (n+9) tH.2.2.length]⟩,none,none,none,some (oR 25 3 Za tH.2.2),none]) (n+11)))) (z:=tH) ?_ fun hw => ?_
 ·refine Qy Z97 (fun xK=>⟨92,[],[(3,.ref (n+1) 0),(4,.ref (n+2) 0),(6,.ref (n+5) 0),(62,(sL Ze a0.Kids)),(63,(vI (a0.Kids.length:Int))),(64,(vI xK.1))]⟩) (fun xK=>(Yn O n [none,some ⟨false,25,3,1,(Z9 a1)⟩,some ⟨false,25,3,1,[(vI 0),nV,nV]⟩,none,none,some ⟨false,25,3,1,[(vI xK.2.1),(sL (eI .u64) xK.2.2.1),.row (n+9) xK.2.2.2.length]⟩,none,none,none,some (oR 25 3 Za xK.2.2.2),none])) (Kh (fun tH=>JR n (⟨92,[],[(4,.ref (n+2) 0),(5,(vB false))]⟩:Env) (Yn O n [none,none,some ⟨false,25,3,1,[(vI 0),nV,nV]⟩,none,none,none,none,none,none]) (n+9)) (fun tH=>JX 2 n (⟨92,[],[(4,.ref (n+2) 0),(6,.ref (n+5) 0)]⟩:Env) (Yn O n [none,none,some ⟨false,25,3,1,[(vI 0),nV,nV]⟩,none,none,some ⟨false,25,3,1,[(vI tH.1),(sL (eI .u64) tH.2.1),.row (n+9) tH.2.2.length]⟩,none,none,none,some (oR 25 3 Za tH.2.2),none]) (n+11))) ?_
  intro xK x1_ Js
  unfold Kv at Js
  try dsimp only
  refine zQ [3,4,6,62,63,64,65] ?_
  refine Z7 ?_
  refine Yj (t:=(decide (xK.1 < (a0.Kids.length:Int)))) rfl (fun Z50 => ?_) (fun Z50 => ?_)
  ·replace Js:=Ym Z50 Js
   refine uZ [3,4,6,62,63,64] [false,true,true,false,false,true,false,false,false,true,false] ?_
   refine Z7 ?_
   refine Xt ?_
   refine Z7 ?_
   obtain ⟨Z11,Yfk,Z7z,Z8d,Z8q,Js⟩:=bE (f:=Ze) aV (fun _=>rfl) (by decide) Js
   refine dM [] Z7z Z8d Z8q ?_
   refine lO [3,4,6,11,62,63,64] [false,true,true,false,false,true,false,false,false,true,false,true] ?_
   obtain ⟨Ycl,Z4q,Js⟩:=bC Js
   obtain ⟨Z31,Z4r,Js⟩:=bC Js
   refine V4 Yd (by kernel_rfl) [.low,.low,.low,.low,.low,.low,.low,.plain,.plain,.plain,.pass,.bar,.plain] (fun i=>i < (n+12)) [0,1,2,3,4,5,6,7,8,9,10,11,12] [.low,.low,.low,.low,.low,.low,.low,.plain,.plain,.plain,.pass,.bar,.plain] [] (by kernel_rfl) rfl ?_
   refine zS ?_
   refine zO ?_
   first | refine PCallA.of (fun _ _=>Zix Z4q) ?_ | refine PCall.of (Zix Z4q) ?_
   refine zS ?_
   refine zO ?_
   first | refine PCallA.of (fun _ _=>Gv Z4r) ?_ | refine PCall.of (Gv Z4r) ?_
   refine zS ?_
   refine zO ?_
   refine lO [3,4,6,11,12,13,62,63,64] [false,true,true,false,false,true,false,false,false,true,false,true,true] ?_
   refine Z7 ?_
   obtain ⟨Z7e,Z9x,Js⟩:=bC Js
   refine zRo [none,none] ?_
   refine zG ?_
   refine zTs (sE Z9x) ?_
   refine zG ?_
   refine zD [3,4,6,11,12,62,63,64,84] [false,true,true,false,false,true,false,false,false,true,false,true,true] ?_
   refine Yj (t:=(cond Z7e true (!Z31.2))) rfl (fun Z5z => ?_) (fun Z5z => ?_)
   ·replace Js:=Ym Z5z Js
    refine Z7 ?_
    refine zRd [4,5] [false,false,true,false,false,false,false,false,false,false,false,false,false] ?_
    refine zW ?_
    exact zEy Js
   replace Js:=Yl Z5z Js
   refine uZ [3,4,6,11,12,62,63,64] [false,true,true,false,false,true,false,false,false,true,false,true,true] ?_
   obtain ⟨Z32,Z9y,Js⟩:=bC Js
   refine zR ?_
   refine (Zjf (i0:=(n+5)) (Yt:=(n+9)) (by omega) (by omega) (by omega) (by simp only [push_cast,seval,Zc,Ya,Ye,hN] <;> rfl) (by simp only [push_cast,seval,Zc,Ya,Ye,hN] <;> rfl) Z9y).then ?_
   refine zS ?_
   refine zD [3,4,6,62,63,64] [false,true,true,false,false,true,false,false,false,false,false,false,false,true] ?_
   refine zR ?_
   obtain rfl:=sI Js
   refine And.intro rfl ?_
   refine fr0 (k:=14) (k':=11) hU [10,1,2,10,10,5,10,10,10,10,10,10,10,9] [0,1,2,0,0,5,0,0,0,13,0] zM0 ?_ ?_
   ·exact lC
   exact lC
  replace Js:=Yl Z50 Js
  exact zEx Js
 rcases tH with tH | tH
 ·dsimp only [Kh] at hw h
  refine Uq hw ?_
  try simp only [Qj,Xr,↓reduceIte,Nat.reduceEqDiff]
  exact jO [.agg [(vI 0),nV,nV],(vB false)]
 dsimp only [Kh] at hw h
 refine X7 hw ?_
 try simp only [Qj,Xr,↓reduceIte,Nat.reduceEqDiff]
 refine lO [4,6] [false,false,true,false,false,true,false,false,false,true,false] ?_
 refine zRd [4,5] [false,false,true,false,false,false,false,false,false,true,false] ?_
 exact Jo [.agg [(vI tH.1),(sL (eI .u64) tH.2.1),.row (n+9) tH.2.2.length],(vB true)]
theorem Zlh {Qe:(Zd→Zb→Option (Zb×Bool))} {Xn:(Zd→Zb→Option (Zb×Bool))} {Q0:(Zd→Zb→Option (Zb×Bool))} {Xc:(Zt→Zo→Option (Bool×Zt))} {Y5:(Zt→Zd→Option (Bool×Zt))} (Gv:eK Qe) (jY:Gc Xn) (tU:fK Q0) (Gm:Vt Xc) (Vx:Kz Y5) {a0:Zd} {a1:Zb} {r:(Zb×Bool)} {O:Objs} {n:Nat} (h:rA Qe Xn Q0 Xc Y5 a0 a1=some r):GTo Try.prog 72 [.agg (Zl a0),.agg (Z9 a1)] O n (.tup [.agg (Z9 r.1),(vB r.2)]) O n:=by
 unfold rA at h
 refine uH Try.call72 Try.func72 fun hU Ye hN => ?_
 show W _ _ _ _ ⟨45,[],[(0,.agg (Zl a0)),(1,.agg (Z9 a1))]⟩ (Yn O n []) _
 refine zQ [2,3,4] ?_
 refine Z7 ?_
 obtain ⟨z2,wD,h⟩:=bC h
 refine Qf (E':=⟨45,[],[(2,.ref n 0),(3,.ref (n+1) 0),(4,.ref (n+2) 0),(19,(vB z2))]⟩) (O':=(Yn O n [some ⟨false,30,11,1,(Zl a0)⟩,some ⟨false,25,3,1,(Z9 a1)⟩,some ⟨false,25,3,1,[(vI 0),nV,nV]⟩])) (n0:=(n+3)) ?_ ?_
 ·rcases Bool.eq_false_or_eq_true (a1.Kind != a0.List_) with c5 | c5
  ·replace wD:=Ym c5 wD
   refine yU (Z6y []) c5 ?_
   exact xJ wD c5
  replace wD:=Yl c5 wD
  obtain ⟨y4,hy4,wD⟩:=bC wD
  refine yU (Z0k []) c5 ?_
  refine (Zpt hy4).then ?_
  refine zX1 c5 ?_
  exact xJ wD c5
 refine Yj (t:=z2) rfl (fun nO => ?_) (fun nO => ?_)
 ·replace h:=Ym nO h
  refine Z7 ?_
  refine zRd [4,5] [false,false,true] ?_
  exact Jo [.agg [(vI 0),nV,nV],(vB false)]
 replace h:=Yl nO h
 refine uZ [2,3,4] [true,true,true] ?_
 refine Z7 ?_
 refine zRd [2,3,4,6] [true,true,true,true] ?_
 refine Z7 ?_
 refine zQd [3,4,6,25,26,27] [3,4,6,25,26,27] [false,true,true,true] ?_
 refine Xi (E':=(⟨45,[],[(3,.ref (n+1) 0),(4,.ref (n+2) 0),(6,.ref (n+3) 0),(25,(sL Zh a0.Ops)),(26,(vI (a0.Ops.length:Int))),(27,(vI 0))]⟩:Env)) (O':=(Yn O n [none,some ⟨false,25,3,1,(Z9 a1)⟩,some ⟨false,25,3,1,[(vI 0),nV,nV]⟩,some ⟨false,124,2,1,[(sL Za a1.Kids),.row (n+4) ([]:List Zb).length]⟩,some (oR 25 3 Za ([]:List Zb)),none])) (n':=(n+6)) ?_ ?_
 ·refine Fit2.trans (E':=(⟨45,[],[(3,.ref (n+1) 0),(4,.ref (n+2) 0),(6,.ref (n+3) 0),(25,(sL Zh a0.Ops)),(26,(vI (a0.Ops.length:Int))),(27,(vI 0))]⟩:Env)) (O':=(Yn O n [none,some ⟨false,25,3,1,(Z9 a1)⟩,some ⟨false,25,3,1,[(vI 0),nV,nV]⟩,some ⟨false,124,2,1,[(sL Za a1.Kids),nV]⟩])) (n':=(n+4)) (Fit2.of (Jw hU rfl rfl ?_) (by omega)) ?_
  ·exact lC
  refine Fit2.trans (Gh (p:=(n+3)) (k:=1) (q:=⟨false,124,2,1,[(sL Za a1.Kids),nV]⟩) 25 3 (by simp only [Gx,tX,List.getElem?_cons_zero,List.getElem?_cons_succ,Option.join_some,List.length_nil]) rfl (by omega)) ?_
  simp only [Up,Kg,oZ,List.set_cons_zero,List.set_cons_succ,List.cons_append,List.nil_append,List.length_cons,List.length_nil,Nat.zero_add,Nat.reduceAdd,Nat.reduceLT,Nat.add_assoc]
  refine Zc0 (k:=5) (k':=6) hU [5,1,2,3,4] [0,1,2,3,4,0] rfl rfl rfl rfl ⟨rfl,rfl⟩ ?_
  exact lC
 obtain ⟨eU,lE,h⟩:=bC h
 refine gV (J:=(Kh (fun eU=>JR n (⟨45,[],[(4,.ref (n+2) 0),(5,(vB false))]⟩:Env) (Yn O n [none,none,some ⟨false,25,3,1,[(vI 0),nV,nV]⟩,none]) (n+4)) (fun eU=>JX 0 n (⟨45,[],[(3,.ref (n+1) 0),(4,.ref (n+2) 0),(6,.ref (n+3) 0)]⟩:Env) (Yn O n [none,some ⟨false,25,3,1,(Z9 a1)⟩,some ⟨false,25,3,1,[(vI 0),nV,nV]⟩,some ⟨false,124,2,1,[(sL Za eU.1),.row (n+4) eU.2.length]⟩,some (oR 25 3 Za eU.2),none]) (n+6)))) (z:=eU) ?_ fun hw => ?_
 ·refine Qy lE (fun Yf=>⟨45,[],[(3,.ref (n+1) 0),(4,.ref (n+2) 0),(6,.ref (n+3) 0),(25,(sL Zh a0.Ops)),(26,(vI (a0.Ops.length:Int))),(27,(vI Yf.1))]⟩) (fun Yf=>(Yn O n [none,some ⟨false,25,3,1,(Z9 a1)⟩,some ⟨false,25,3,1,[(vI 0),nV,nV]⟩,some ⟨false,124,2,1,[(sL Za Yf.2.1),.row (n+4) Yf.2.2.length]⟩,some (oR 25 3 Za Yf.2.2),none])) (Kh (fun eU=>JR n (⟨45,[],[(4,.ref (n+2) 0),(5,(vB false))]⟩:Env) (Yn O n [none,none,some ⟨false,25,3,1,[(vI 0),nV,nV]⟩,none]) (n+4)) (fun eU=>JX 0 n (⟨45,[],[(3,.ref (n+1) 0),(4,.ref (n+2) 0),(6,.ref (n+3) 0)]⟩:Env) (Yn O n [none,some ⟨false,25,3,1,(Z9 a1)⟩,some ⟨false,25,3,1,[(vI 0),nV,nV]⟩,some ⟨false,124,2,1,[(sL Za eU.1),.row (n+4) eU.2.length]⟩,some (oR 25 3 Za eU.2),none]) (n+6))) ?_
  intro Yf x0_ Zu
  unfold Gu at Zu
  try dsimp only
  refine zQ [3,4,6,25,26,27,28] ?_
  refine Z7 ?_
  refine Yj (t:=(decide (Yf.1 < (a0.Ops.length:Int)))) rfl (fun jF => ?_) (fun jF => ?_)
  ·replace Zu:=Ym jF Zu
   refine uZ [3,4,6,25,26,27] [false,true,true,true,true,false] ?_
   refine Z7 ?_
   refine Xt ?_
   refine Z7 ?_
   obtain ⟨x7,hx7,ax7,bx7,cx7,Zu⟩:=bE (f:=Zh) rJ (fun _=>rfl) (by decide) Zu
   refine dM [] ax7 bx7 cx7 ?_
   refine lO [3,4,6,8,25,26,27] [false,true,true,true,true,false,true] ?_
   obtain ⟨y9,hy9,Zu⟩:=bC Zu
   refine zR ?_
   refine (Gm (i0:=(n+3)) (Yt:=(n+4)) (by omega) (by omega) (by omega) (by simp only [push_cast,seval,Zc,Ya,Ye,hN] <;> rfl) (by simp only [push_cast,seval,Zc,Ya,Ye,hN] <;> rfl) hy9).then ?_
   refine zS ?_
   refine zD [3,4,6,25,26,27,33] [false,true,true,true,false,false,false,true] ?_
   refine Yj (t:=(!y9.1)) rfl (fun iB => ?_) (fun iB => ?_)
   ·replace Zu:=Ym iB Zu
    refine Z7 ?_
    refine zRd [4,5] [false,false,true,false,false,false,false,false] ?_
    refine zW ?_
    exact zEy Zu
   replace Zu:=Yl iB Zu
   refine uZ [3,4,6,25,26,27] [false,true,true,true,false,false,false,true] ?_
   refine zR ?_
   obtain rfl:=sI Zu
   refine And.intro rfl ?_
   refine fr0 (k:=8) (k':=6) hU [5,1,2,3,5,5,5,4] [0,1,2,3,7,0] zM0 ?_ ?_
   ·exact lC
   exact lC
  replace Zu:=Yl jF Zu
  exact zEx Zu
 rcases eU with eU | eU
 ·dsimp only [Kh] at hw h
  refine Uq hw ?_
  try simp only [Qj,Xr,↓reduceIte,Nat.reduceEqDiff]
  exact jO [.agg [(vI 0),nV,nV],(vB false)]
 dsimp only [Kh] at hw h
 refine X7 hw ?_
 try simp only [Qj,Xr,↓reduceIte,Nat.reduceEqDiff]
 refine lO [3,4,6] [false,true,true,true,true,false] ?_
 refine V4 Yd (by kernel_rfl) [.plain,.plain,.plain,.plain,.plain,.low,.low,.low,.low,.pass,.plain] (fun i=>i≠n+2) [0,1,2,3,4,5,6,7,8,9,10] [.plain,.plain,.plain,.plain,.plain,.low,.low,.low,.low,.pass,.plain] [] (by kernel_rfl) rfl ?_
 refine zS ?_
 refine zO ?_
 refine zD [4,5] [false,false,true,false,true,false] ?_
 exact Jo [.agg [(vI a1.Kind),nV,.row (n+4) eU.2.length],(vB ((eU.1.length:Int) == 0))]
theorem Zay {Qe:(Zd→Zb→Option (Zb×Bool))} {Xn:(Zd→Zb→Option (Zb×Bool))} {Q0:(Zd→Zb→Option (Zb×Bool))} {Xc:(Zt→Zo→Option (Bool×Zt))} {Y5:(Zt→Zd→Option (Bool×Zt))} (Gv:eK Qe) (jY:Gc Xn) (tU:fK Q0) (Gm:Vt Xc) (Vx:Kz Y5) {a0:Zt} {a1:Zo} {r:(Bool×Zt)} {O:Objs} {n:Nat} {i0 Yt:Nat} (Ys:i0 < n) (Jr:Yt < n) (X4:i0≠Yt) (uC:O i0=some ⟨false,124,2,1,[(sL Za a0.left),.row Yt a0.out.length]⟩) (J7:O Yt=some (oR 25 3 Za a0.out)) (h:mX Qe Xn Q0 Xc Y5 a0 a1=some r):GTo Try.prog 87 [.ref i0 0,.agg (Xk a1)] O n ((vB r.1)) (Yn ((O.upd Yt none).upd i0 (some ⟨false,124,2,1,[(sL Za r.2.left),.row n r.2.out.length]⟩)) n [some (oR 25 3 Za r.2.out)]) (n+1):=by
 unfold mX at h
 refine vX Yd Try.call87 Try.func87 rfl (Nat.le_of_ble_eq_true rfl) (by omega) fun hU => ?_
 refine Xi (Y0 (k:=1) (by rw [Yb _ Ys];first | exact uC | exact Yo _ _ _ <;> rfl) (by rfl) (by rw [Yb _ Jr];exact J7) X4 (by simp only [push_cast,Nat.reduceAdd,Z8 _ _ Jr,Z8 _ _ Ys] <;> rfl) (by omega)) ?_
 have hU:=(Und.drop hU Yt)
 have Y4:∀ k,i0 < n+k:=fun k=>by omega
 have Ye:∀ o,Objs.upd (O.upd Yt none) i0 o n=none:=fun o=>Xb hU Ys _ (Nat.le_refl _)
 have hN:∀ o k,Objs.upd (O.upd Yt none) i0 o (n+k)=none:=fun o k=>Xb hU Ys _ (Nat.le_add_right _ _)
 show W _ _ _ _ ⟨99,[],[(0,.ref i0 0),(1,.agg (Xk a1))]⟩ (Yn ((O.upd Yt none).upd i0 (some ⟨false,124,2,1,[(sL Za a0.left),.row n a0.out.length]⟩)) n [some (oR 25 3 Za a0.out)]) _
 refine fZ [0,3] Ys Y4 ?_
 refine Z7 ?_
 refine fZ [0,3,7] Ys Y4 ?_
 refine Xt ?_
 refine fZ [0,3,7,8] Ys Y4 ?_
 refine Yj (t:=(a1.Kind == 0)) rfl (fun fU => ?_) (fun fU => ?_)
 ·replace h:=Ym fU h
  refine Z7 ?_
  obtain ⟨z1,Jx,h⟩:=bC h
  refine Qf (E':=⟨99,[],[(0,.ref i0 0),(3,.ref (n+1) 0),(22,(vB z1))]⟩) (O':=(Yn ((O.upd Yt none).upd i0 (some ⟨false,124,2,1,[(sL Za a0.left),.row n a0.out.length]⟩)) n [some (oR 25 3 Za a0.out),some ⟨false,41,14,1,(Xk a1)⟩])) (n0:=(n+2)) ?_ ?_
  ·rcases Bool.eq_false_or_eq_true (decide (a1.N < 0)) with c2 | c2
   ·replace Jx:=Ym c2 Jx
    refine Jh Yd (by kernel_rfl) (Yan []) (by kernel_rfl) ?_
    refine zX3 c2 Ys Y4 ?_
    obtain rfl:=sI Jx
    refine And.intro rfl (Fit2.of (Xy hU rfl rfl ?_) (by omega))
    exact Z36 c2 Ys Y4
   replace Jx:=Yl c2 Jx
   refine Jh Yd (by kernel_rfl) (Yav []) (by kernel_rfl) ?_
   refine zX3 c2 Ys Y4 ?_
   obtain rfl:=sI Jx
   refine And.intro rfl (Fit2.of (Xy hU rfl rfl ?_) (by omega))
   exact Z36 c2 Ys Y4
  refine Yj (t:=z1) rfl (fun c9 => ?_) (fun c9 => ?_)
  ·replace h:=Ym c9 h
   refine fZ [4] Ys Y4 ?_
   refine zW ?_
   obtain rfl:=sI h
   refine Jl (k:=1) (i:=i0) (q1:=⟨false,124,2,1,[(sL Za a0.left),.row n a0.out.length]⟩) (L3:=[some (oR 25 3 Za a0.out),none]) (E2:=(⟨99,[],[(4,(vB false))]⟩:Env)) (n3:=(n+2)) (.inr rfl) hU rfl [(vB false)] ?_ ?_
   ·refine uS (k:=2) (k':=2) hU [0,1] [0,0] (lT Ys) ?_ ?_
    ·exact Qx Ys Y4
    exact Qx Ys Y4
   simp only [push_cast,seval,Zc,Try.results87,Ys,Y4,Ye,hN]
  replace h:=Yl c9 h
  refine uZ [0,3] [true,true] ?_
  refine Z7 ?_
  obtain ⟨l5,al5,bl5,cl5,gl5,h⟩:=bS (lo:=none) (hi:=(some (.i64,a1.N))) (f:=Za) rfl rfl zA mY (fun _=>rfl) h
  obtain ⟨l6,pl6,ql6,el6,h⟩:=bA (k:=l5.length) rfl h
  refine V4 Yd (by kernel_rfl) [.plain,.plain,.plain,.plain,.plain,.plain,.plain,.plain,.plain,.plain,.plain,.plain,.pass,.plain,.plain,.bar] (fun i=>i≠n+0) [0,1,2,3,4,5,6,7,8,9,10,11,12,13,14,15] [.plain,.plain,.plain,.plain,.plain,.plain,.plain,.plain,.plain,.plain,.plain,.plain,.pass,.plain,.plain,.bar] [] (by kernel_rfl) rfl ?_
  simp only [push_cast,seval,Zc,al5,bl5,cl5,gl5,pl6,ql6,el6,Ys,Y4,Ye,hN]
  refine zO ?_
  refine lB ⟨99,[],[(0,.ref i0 0),(3,.ref (n+1) 0)]⟩ (Yn ((O.upd Yt none).upd i0 (some ⟨false,124,2,1,[(sL Za a0.left),.row n l6.length]⟩)) n [some (oR 25 3 Za l6),some ⟨false,41,14,1,(Xk a1)⟩]) (Xy hU rfl rfl ?_) ?_
  ·simp only [push_cast,seval,Zc,al5,bl5,cl5,gl5,pl6,ql6,el6,Ys,Y4,Ye,hN]
  refine Z7 ?_
  obtain ⟨l8,al8,bl8,cl8,gl8,h⟩:=bS (lo:=(some (.i64,a1.N))) (hi:=none) (f:=Za) rfl rfl zA mY (fun _=>rfl) h
  refine oY Yd (by kernel_rfl) [false,false,false,false,false,false,false,false,false,false,true] [] (by kernel_rfl) ?_
  refine zX6 al8 bl8 cl8 gl8 Ys Y4 ?_
  refine zD [] [true,false] ?_
  refine fZ [4] Ys Y4 ?_
  refine zW ?_
  obtain rfl:=sI h
  refine Jl (k:=1) (i:=i0) (q1:=⟨false,124,2,1,[(sL Za l8),.row n l6.length]⟩) (L3:=[some (oR 25 3 Za l6),none]) (E2:=(⟨99,[],[(4,(vB true))]⟩:Env)) (n3:=(n+2)) (.inr rfl) hU rfl [(vB true)] ?_ ?_
  ·refine uS (k:=2) (k':=2) hU [0,1] [0,0] (lT Ys) ?_ ?_
   ·exact Qx Ys Y4
   exact Qx Ys Y4
  simp only [push_cast,seval,Zc,Try.results87,Ys,Y4,Ye,hN]
 replace h:=Yl fU h
 refine fZ [0,3,7,48] Ys Y4 ?_
 refine Yj (t:=(a1.Kind == 1)) rfl (fun zH => ?_) (fun zH => ?_)
 ·replace h:=Ym zH h
  refine fZ [0,3,5] Ys Y4 ?_
  refine Z7 ?_
  obtain ⟨eU,lE,h⟩:=bC h
  refine Qf (E':=⟨99,[],[(0,.ref i0 0),(5,(vI (a1.L.length:Int))),(71,(vB eU))]⟩) (O':=(Yn ((O.upd Yt none).upd i0 (some ⟨false,124,2,1,[(sL Za a0.left),.row n a0.out.length]⟩)) n [some (oR 25 3 Za a0.out),none])) (n0:=(n+2)) ?_ ?_
  ·rcases Bool.eq_false_or_eq_true (decide ((a0.left.length:Int) < (a1.L.length:Int))) with c17 | c17
   ·replace lE:=Ym c17 lE
    refine Jh Yd (by kernel_rfl) (Z4v []) (by kernel_rfl) ?_
    refine zX3 c17 Ys Y4 ?_
    obtain rfl:=sI lE
    refine And.intro rfl (Fit2.of (Xy hU rfl rfl ?_) (by omega))
    exact Z36 c17 Ys Y4
   replace lE:=Yl c17 lE
   obtain ⟨l15,Z5l,Z5s,Z59,Z6h,lE⟩:=bS (lo:=none) (hi:=(some (.i64,(a1.L.length:Int)))) (f:=Za) rfl rfl zA mY (fun _=>rfl) lE
   obtain ⟨y16,Zrd,lE⟩:=bC lE
   refine Jh Yd (by kernel_rfl) (Yas []) (by kernel_rfl) ?_
   simp only [push_cast,seval,Zc,c17,Z5l,Z5s,Z59,Z6h,Ys,Y4,Ye,hN]
   refine PCall.of (Q1 Zrd) ?_
   simp only [push_cast,seval,Zc,c17,Z5l,Z5s,Z59,Z6h,Ys,Y4,Ye,hN]
   obtain rfl:=sI lE
   refine And.intro rfl (Fit2.of (Xy hU rfl rfl ?_) (by omega))
   simp only [push_cast,seval,Zc,c17,Z5l,Z5s,Z59,Z6h,Ys,Y4,Ye,hN]
  refine Yj (t:=eU) rfl (fun iR => ?_) (fun iR => ?_)
  ·replace h:=Ym iR h
   refine fZ [4] Ys Y4 ?_
   refine zW ?_
   obtain rfl:=sI h
   refine Jl (k:=1) (i:=i0) (q1:=⟨false,124,2,1,[(sL Za a0.left),.row n a0.out.length]⟩) (L3:=[some (oR 25 3 Za a0.out),none]) (E2:=(⟨99,[],[(4,(vB false))]⟩:Env)) (n3:=(n+2)) (.inr rfl) hU rfl [(vB false)] ?_ ?_
   ·refine uS (k:=2) (k':=2) hU [0,1] [0,0] (lT Ys) ?_ ?_
    ·exact Qx Ys Y4
    exact Qx Ys Y4
   simp only [push_cast,seval,Zc,Try.results87,Ys,Y4,Ye,hN]
  replace h:=Yl iR h
  refine uZ [0,5] [true,false] ?_
  refine Z7 ?_
  obtain ⟨l19,Ycy,Yc1,Yc5,Yc8,h⟩:=bS (lo:=(some (.i64,(a1.L.length:Int)))) (hi:=none) (f:=Za) rfl rfl zA mY (fun _=>rfl) h
  refine Z16 [] Ycy Yc1 Yc5 Yc8 Ys Y4 ?_
  refine zD [] [true,false] ?_
  refine fZ [4] Ys Y4 ?_
  refine zW ?_
  obtain rfl:=sI h
  refine Jl (k:=1) (i:=i0) (q1:=⟨false,124,2,1,[(sL Za l19),.row n a0.out.length]⟩) (L3:=[some (oR 25 3 Za a0.out),none]) (E2:=(⟨99,[],[(4,(vB true))]⟩:Env)) (n3:=(n+2)) (.inr rfl) hU rfl [(vB true)] ?_ ?_
  ·refine uS (k:=2) (k':=2) hU [0,1] [0,0] (lT Ys) ?_ ?_
   ·exact Qx Ys Y4
   exact Qx Ys Y4
  simp only [push_cast,seval,Zc,Try.results87,Ys,Y4,Ye,hN]
 replace h:=Yl zH h
 refine fZ [0,3,7,81] Ys Y4 ?_
 refine Yj (t:=(a1.Kind == 2)) rfl (fun oM => ?_) (fun oM => ?_)
 ·replace h:=Ym oM h
  refine Z7 ?_
  obtain ⟨l22,Ya4,Ya8,Z8x,h⟩:=bA (k:=a1.L.length) rfl h
  refine V4 Yd (by kernel_rfl) [.plain,.plain,.plain,.plain,.plain,.plain,.plain,.pass,.plain,.plain,.bar] (fun i=>i≠n+0) [0,1,2,3,4,5,6,7,8,9,10] [.plain,.plain,.plain,.plain,.plain,.plain,.plain,.pass,.plain,.plain,.bar] [] (by kernel_rfl) rfl ?_
  refine zX5 Ya4 Ya8 Z8x Ys Y4 ?_
  refine zO ?_
  refine lB ⟨99,[],[]⟩ (Yn ((O.upd Yt none).upd i0 (some ⟨false,124,2,1,[(sL Za a0.left),.row n l22.length]⟩)) n [some (oR 25 3 Za l22),none]) (Xy hU rfl rfl ?_) ?_
  ·exact Z37 Ya4 Ya8 Z8x Ys Y4
  refine fZ [4] Ys Y4 ?_
  refine zW ?_
  obtain rfl:=sI h
  refine Jl (k:=1) (i:=i0) (q1:=⟨false,124,2,1,[(sL Za a0.left),.row n l22.length]⟩) (L3:=[some (oR 25 3 Za l22),none]) (E2:=(⟨99,[],[(4,(vB true))]⟩:Env)) (n3:=(n+2)) (.inr rfl) hU rfl [(vB true)] ?_ ?_
  ·refine uS (k:=2) (k':=2) hU [0,1] [0,0] (lT Ys) ?_ ?_
   ·exact Qx Ys Y4
   exact Qx Ys Y4
  simp only [push_cast,seval,Zc,Try.results87,Ys,Y4,Ye,hN]
 replace h:=Yl oM h
 refine fZ [0,3,93] Ys Y4 ?_
 refine Yj (t:=(a1.Kind == 3)) rfl (fun nM => ?_) (fun nM => ?_)
 ·replace h:=Ym nM h
  refine Z7 ?_
  obtain ⟨y24,Zzu,h⟩:=bC h
  refine Kc [] Ys Y4 ?_
  refine (Vx (i0:=i0) (Yt:=n) (by omega) (by omega) (by omega) (by simp only [push_cast,seval,Zc,Ya,Ys,Y4,Ye,hN] <;> rfl) (by simp only [push_cast,seval,Zc,Ya,Ys,Y4,Ye,hN] <;> rfl) Zzu).then ?_
  refine eR Ys Y4 ?_
  refine zD [4] [false,false,true] ?_
  refine zW ?_
  obtain rfl:=sI h
  refine Jl (k:=1) (i:=i0) (q1:=⟨false,124,2,1,[(sL Za y24.2.left),.row n y24.2.out.length]⟩) (L3:=[some (oR 25 3 Za y24.2.out),none]) (E2:=(⟨99,[],[(4,(vB y24.1))]⟩:Env)) (n3:=(n+2)) (.inr rfl) hU rfl [(vB y24.1)] ?_ ?_
  ·refine uS (k:=3) (k':=2) hU [1,1,0] [2,0] (lT Ys) ?_ ?_
   ·exact Qx Ys Y4
   exact Qx Ys Y4
  simp only [push_cast,seval,Zc,Try.results87,Ys,Y4,Ye,hN]
 replace h:=Yl nM h
 refine uZ [] [true,false] ?_
 refine fZ [4] Ys Y4 ?_
 refine zW ?_
 obtain rfl:=sI h
 refine Jl (k:=1) (i:=i0) (q1:=⟨false,124,2,1,[(sL Za a0.left),.row n a0.out.length]⟩) (L3:=[some (oR 25 3 Za a0.out),none]) (E2:=(⟨99,[],[(4,(vB false))]⟩:Env)) (n3:=(n+2)) (.inr rfl) hU rfl [(vB false)] ?_ ?_
 ·refine uS (k:=2) (k':=2) hU [0,1] [0,0] (lT Ys) ?_ ?_
  ·exact Qx Ys Y4
  exact Qx Ys Y4
 simp only [push_cast,seval,Zc,Try.results87,Ys,Y4,Ye,hN]
theorem gT {Qe:(Zd→Zb→Option (Zb×Bool))} {Xn:(Zd→Zb→Option (Zb×Bool))} {Q0:(Zd→Zb→Option (Zb×Bool))} {Xc:(Zt→Zo→Option (Bool×Zt))} {Y5:(Zt→Zd→Option (Bool×Zt))} (Gv:eK Qe) (jY:Gc Xn) (tU:fK Q0) (Gm:Vt Xc) (Vx:Kz Y5) {a0:Zt} {a1:Zd} {r:(Bool×Zt)} {O:Objs} {n:Nat} {i0 Yt:Nat} (Ys:i0 < n) (Jr:Yt < n) (X4:i0≠Yt) (uC:O i0=some ⟨false,124,2,1,[(sL Za a0.left),.row Yt a0.out.length]⟩) (J7:O Yt=some (oR 25 3 Za a0.out)) (h:Gi Qe Xn Q0 Xc Y5 a0 a1=some r):GTo Try.prog 89 [.ref i0 0,.agg (Zl a1)] O n ((vB r.1)) (Yn ((O.upd Yt none).upd i0 (some ⟨false,124,2,1,[(sL Za r.2.left),.row n r.2.out.length]⟩)) n [some (oR 25 3 Za r.2.out)]) (n+1):=by
 unfold Gi at h
 refine vX Yd Try.call89 Try.func89 rfl (Nat.le_of_ble_eq_true rfl) (by omega) fun hU => ?_
 refine Xi (Y0 (k:=1) (by rw [Yb _ Ys];first | exact uC | exact Yo _ _ _ <;> rfl) (by rfl) (by rw [Yb _ Jr];exact J7) X4 (by simp only [push_cast,Nat.reduceAdd,Z8 _ _ Jr,Z8 _ _ Ys] <;> rfl) (by omega)) ?_
 have hU:=(Und.drop hU Yt)
 have Y4:∀ k,i0 < n+k:=fun k=>by omega
 have Ye:∀ o,Objs.upd (O.upd Yt none) i0 o n=none:=fun o=>Xb hU Ys _ (Nat.le_refl _)
 have hN:∀ o k,Objs.upd (O.upd Yt none) i0 o (n+k)=none:=fun o k=>Xb hU Ys _ (Nat.le_add_right _ _)
 show W _ _ _ _ ⟨44,[],[(0,.ref i0 0),(1,.agg (Zl a1))]⟩ (Yn ((O.upd Yt none).upd i0 (some ⟨false,124,2,1,[(sL Za a0.left),.row n a0.out.length]⟩)) n [some (oR 25 3 Za a0.out)]) _
 refine fZ [0,3] Ys Y4 ?_
 refine Z7 ?_
 refine fZ [0,3,12] Ys Y4 ?_
 refine Yj (t:=((a0.left.length:Int) == 0)) rfl (fun nO => ?_) (fun nO => ?_)
 ·replace h:=Ym nO h
  refine fZ [4] Ys Y4 ?_
  refine zW ?_
  obtain rfl:=sI h
  refine Jl (k:=1) (i:=i0) (q1:=⟨false,124,2,1,[(sL Za a0.left),.row n a0.out.length]⟩) (L3:=[some (oR 25 3 Za a0.out),none]) (E2:=(⟨44,[],[(4,(vB false))]⟩:Env)) (n3:=(n+2)) (.inr rfl) hU rfl [(vB false)] ?_ ?_
  ·refine uS (k:=2) (k':=2) hU [0,1] [0,0] (lT Ys) ?_ ?_
   ·exact Qx Ys Y4
   exact Qx Ys Y4
  simp only [push_cast,seval,Zc,Try.results89,Ys,Y4,Ye,hN]
 replace h:=Yl nO h
 refine uZ [0,3] [true,true] ?_
 refine Z7 ?_
 obtain ⟨x3,hx3,ax3,bx3,cx3,h⟩:=bE (f:=Za) mY (fun _=>rfl) (by decide) h
 obtain ⟨y4,hy4,h⟩:=bC h
 refine V4 Yd (by kernel_rfl) [.low,.plain,.low,.low,.low,.low,.low,.low,.plain,.plain,.plain,.pass,.bar,.plain] (fun i=>i < (n+2)) [0,1,2,3,4,5,6,7,8,9,10,11,12,13] [.low,.plain,.low,.low,.low,.low,.low,.low,.plain,.plain,.plain,.pass,.bar,.plain] [] (by kernel_rfl) rfl ?_
 refine zF5 ax3 bx3 cx3 Ys Y4 ?_
 refine zO ?_
 first | refine PCallA.of (fun _ _=>Gv hy4) ?_ | refine PCall.of (Gv hy4) ?_
 refine zF5 ax3 bx3 cx3 Ys Y4 ?_
 refine zO ?_
 refine lO [0,5,6] [true,false,true] ?_
 obtain ⟨l8,pl8,ql8,el8,h⟩:=bA (k:=1) rfl h
 obtain ⟨x9,hx9,ax9,bx9,cx9,h⟩:=bE (f:=Za) mY (fun _=>rfl) (by decide) h
 have Z87:Vb (fl Za a0.out++[.val (.int .i64 0),.val (.slice none 0 0),.val (.slice none 0 0)]) [.val (.int .i64 y4.1.Kind),.sl y4.1.Words.length (fl (eI .u64) y4.1.Words),.sl y4.1.Kids.length (fl Za y4.1.Kids)] (List.length a0.out * 3)=some (fl Za a0.out++[.val (.int .i64 y4.1.Kind),.sl y4.1.Words.length (fl (eI .u64) y4.1.Words),.sl y4.1.Kids.length (fl Za y4.1.Kids)]):=U5 (f:=Za) (sz:=3) (fun _=>rfl) rfl rfl
 refine V4 Yd (by kernel_rfl) [.plain,.low,.low,.low,.low,.low,.pass,.bar,.shp,.fill true,.shp,.shp,.fill false] (fun i=>i < (n+3)) [0,1,2,3,4,5,6,7,8,9,10,11,12] [.plain,.low,.low,.low,.low,.low,.pass,.bar,.shp,.fill true,.shp,.shp,.fill false] [] (by kernel_rfl) rfl ?_
 refine zF9 pl8 ql8 el8 ax9 bx9 cx9 Z87 Ys Y4 ?_
 refine zO ?_
 refine lB ⟨44,[],[(0,.ref i0 0),(6,(vB y4.2))]⟩ (Yn ((O.upd Yt none).upd i0 (some ⟨false,124,2,1,[(sL Za a0.left),.row n (a0.out++[y4.1]).length]⟩)) n [some (oR 25 3 Za (a0.out++[y4.1])),none,none,none]) (Xy hU rfl rfl ?_) ?_
 ·exact Zqf pl8 ql8 el8 ax9 bx9 cx9 Z87 Ys Y4
 refine Z7 ?_
 obtain ⟨l12,Zw4,Zw8,Zxb,Zxg,h⟩:=bS (lo:=(some (.i64,1))) (hi:=none) (f:=Za) rfl rfl zA mY (fun _=>rfl) h
 refine Z16 [] Zw4 Zw8 Zxb Zxg Ys Y4 ?_
 refine zD [6] [true,false,false,false] ?_
 refine fZ [4] Ys Y4 ?_
 refine zW ?_
 obtain rfl:=sI h
 refine Jl (k:=1) (i:=i0) (q1:=⟨false,124,2,1,[(sL Za l12),.row n (a0.out++[y4.1]).length]⟩) (L3:=[some (oR 25 3 Za (a0.out++[y4.1])),none]) (E2:=(⟨44,[],[(4,(vB y4.2))]⟩:Env)) (n3:=(n+2)) (.inr rfl) hU rfl [(vB y4.2)] ?_ ?_
 ·refine uS (k:=4) (k':=2) hU [0,1,1,1] [0,0] (lT Ys) ?_ ?_
  ·exact Qx Ys Y4
  exact Qx Ys Y4
 simp only [push_cast,seval,Zc,Try.results89,Ys,Y4,Ye,hN]
theorem Zhz:∀ k,(eK ((Yh k).1))∧(Gc ((Yh k).2.1))∧(fK ((Yh k).2.2.1))∧(Vt ((Yh k).2.2.2.1))∧(Kz ((Yh k).2.2.2.2)):=fun k=>by
 induction k with
 | zero=>exact ⟨@fun a0 a1 r O n h=>(nomatch (show (none:Option _)=some _ from h)),@fun a0 a1 r O n h=>(nomatch (show (none:Option _)=some _ from h)),@fun a0 a1 r O n h=>(nomatch (show (none:Option _)=some _ from h)),@fun a0 a1 r O n i0 Yt Ys Jr X4 uC J7 h=>(nomatch (show (none:Option _)=some _ from h)),@fun a0 a1 r O n i0 Yt Ys Jr X4 uC J7 h=>(nomatch (show (none:Option _)=some _ from h))⟩
 | succ k ih=>exact ⟨@fun a0 a1 r O n h=>Zlg (ih.1) (ih.2.1) (ih.2.2.1) (ih.2.2.2.1) (ih.2.2.2.2)  h,@fun a0 a1 r O n h=>Zdc (ih.1) (ih.2.1) (ih.2.2.1) (ih.2.2.2.1) (ih.2.2.2.2)  h,@fun a0 a1 r O n h=>Zlh (ih.1) (ih.2.1) (ih.2.2.1) (ih.2.2.2.1) (ih.2.2.2.2)  h,@fun a0 a1 r O n i0 Yt Ys Jr X4 uC J7 h=>Zay (ih.1) (ih.2.1) (ih.2.2.1) (ih.2.2.2.1) (ih.2.2.2.2) Ys Jr X4 uC J7 h,@fun a0 a1 r O n i0 Yt Ys Jr X4 uC J7 h=>gT (ih.1) (ih.2.1) (ih.2.2.1) (ih.2.2.2.1) (ih.2.2.2.2) Ys Jr X4 uC J7 h⟩
theorem Zno {a0:Zd} {a1:Zb} {r:(Zb×Bool)} {O:Objs} {n:Nat} (h:gM a0 a1=some r):GTo Try.prog 59 [.agg (Zl a0),.agg (Z9 a1)] O n (.tup [.agg (Z9 r.1),(vB r.2)]) O n:=by
 obtain ⟨k,hk⟩:=pV h
 exact (Zhz k).1  hk
theorem dF {a0:Zd} {a1:Zb} {r:(Zb×Bool)} {O:Objs} {n:Nat} (h:J3 a0 a1=some r):GTo Try.prog 39 [.agg (Zl a0),.agg (Z9 a1)] O n (.tup [.agg (Z9 r.1),(vB r.2)]) O n:=by
 unfold J3 at h
 refine uH Try.call39 Try.func39 fun hU Ye hN => ?_
 show W _ _ _ _ ⟨19,[],[(0,.agg (Zl a0)),(1,.agg (Z9 a1))]⟩ (Yn O n []) _
 refine zQ [2,3,4] ?_
 refine Z7 ?_
 obtain ⟨y2,kE,h⟩:=bC h
 refine zCd (Zno kE) [4,6,7] [false,false,true,true] ?_
 refine Z7 ?_
 refine zQ [4,6,15] ?_
 refine Yj (t:=(!y2.2)) rfl (fun c5 => ?_) (fun c5 => ?_)
 ·replace h:=Ym c5 h
  refine Z7 ?_
  refine zRd [4,5] [false,false,true,false] ?_
  exact Jo [.agg [(vI 0),nV,nV],(vB false)]
 replace h:=Yl c5 h
 refine uZ [4,6] [false,false,true,true] ?_
 refine Z7 ?_
 obtain ⟨y4,hy4,h⟩:=bC h
 refine zCd (nU hy4) [4,5] [false,false,true,false] ?_
 exact Jo [.agg (Z9 y4),(vB true)]
theorem eT {a1:Zd} {a2:Zd} {Yy:Zg} {r:Zg} {O:Objs} {n:Nat} {Zr:Nat} (Zk:Zr < n) (Ks:O Zr=some ⟨false,43,2,1,[(vB Yy.apart),(vB Yy.clash)]⟩) (h:Gb a1 a2 Yy=some r):GTo Try.prog 25 [.ref Zr 0,.agg (Zl a1),.agg (Zl a2)] O n (.tup []) (Yn (O.upd Zr (some ⟨false,43,2,1,[(vB r.apart),(vB r.clash)]⟩)) n []) (n+0):=by
 unfold Gb at h
 refine vX Yd Try.call25 Try.func25 rfl (Nat.le_of_ble_eq_true rfl) (by omega) fun hU => ?_
 rw [show Yn O n []=Yn (O.upd Zr (some ⟨false,43,2,1,[(vB Yy.apart),(vB Yy.clash)]⟩)) n [] from by rw [Qw (show O Zr=_ from by exact Ks)]]
 have Zm:∀ k,Zr < n+k:=fun k=>by omega
 have Ye:∀ o,Objs.upd O Zr o n=none:=fun o=>Xb hU Zk _ (Nat.le_refl _)
 have hN:∀ o k,Objs.upd O Zr o (n+k)=none:=fun o k=>Xb hU Zk _ (Nat.le_add_right _ _)
 show W _ _ _ _ ⟨30,[],[(0,.ref Zr 0),(1,.agg (Zl a1)),(2,.agg (Zl a2))]⟩ (Yn (O.upd Zr (some ⟨false,43,2,1,[(vB Yy.apart),(vB Yy.clash)]⟩)) n []) _
 refine fZ [0,4,5] Zk Zm ?_
 refine Z7 ?_
 obtain ⟨y2,kE,h⟩:=bC h
 refine Kc [] Zk Zm ?_
 refine (dF kE).then ?_
 refine eR Zk Zm ?_
 refine zD [0,4,6,7] [true,false,true] ?_
 refine Xt ?_
 refine fZ [0,4,6,15] Zk Zm ?_
 refine Yj (t:=(!y2.2)) rfl (fun c6 => ?_) (fun c6 => ?_)
 ·replace h:=Ym c6 h
  refine Kc [] Zk Zm ?_
  obtain rfl:=sI h
  refine Jl (k:=0) (i:=Zr) (q1:=⟨false,43,2,1,[(vB true),(vB Yy.clash)]⟩) (L3:=[none]) (E2:=(⟨30,[],[]⟩:Env)) (n3:=(n+1)) (.inl rfl) hU rfl [] ?_ ?_
  ·refine uS (k:=3) (k':=1) hU [0,0,0] [0] (lT Zk) ?_ ?_
   ·exact Qx Zk Zm
   exact Qx Zk Zm
  simp only [push_cast,seval,Zc,Try.results25,Zk,Zm,Ye,hN]
 replace h:=Yl c6 h
 refine Z7 ?_
 obtain ⟨y4,hy4,h⟩:=bC h
 refine Kc [] Zk Zm ?_
 refine (fT hy4).then ?_
 refine eR Zk Zm ?_
 refine zD [0,21] [false,false,false] ?_
 refine Yj (t:=(!y4)) rfl (fun c5 => ?_) (fun c5 => ?_)
 ·replace h:=Ym c5 h
  refine Kc [] Zk Zm ?_
  obtain rfl:=sI h
  refine Jl (k:=0) (i:=Zr) (q1:=⟨false,43,2,1,[(vB Yy.apart),(vB true)]⟩) (L3:=[none]) (E2:=(⟨30,[],[]⟩:Env)) (n3:=(n+1)) (.inl rfl) hU rfl [] ?_ ?_
  ·refine uS (k:=3) (k':=1) hU [0,0,0] [0] (lT Zk) ?_ ?_
   ·exact Qx Zk Zm
   exact Qx Zk Zm
  simp only [push_cast,seval,Zc,Try.results25,Zk,Zm,Ye,hN]
 replace h:=Yl c5 h
 refine zK ?_
 obtain rfl:=sI h
 refine Jl (k:=0) (i:=Zr) (q1:=⟨false,43,2,1,[(vB Yy.apart),(vB Yy.clash)]⟩) (L3:=[none]) (E2:=(⟨30,[],[]⟩:Env)) (n3:=(n+1)) (.inl rfl) hU rfl [] ?_ ?_
 ·refine uS (k:=3) (k':=1) hU [0,0,0] [0] (lT Zk) ?_ ?_
  ·exact Qx Zk Zm
  exact Qx Zk Zm
 simp only [push_cast,seval,Zc,Try.results25,Zk,Zm,Ye,hN]
attribute [local push_cast] Try.results41 Try.results42 Try.results44 Try.results62 Try.results63 Try.results64 Try.results65 Try.results74 Try.results75 Try.results88 Zj Z10 fF Zqi Zcn yI
theorem lR {a1:Zd} {a2:Zd} {Yy:Zg} {r:Zg} {O:Objs} {n:Nat} {Zr:Nat} (Zk:Zr < n) (Ks:O Zr=some ⟨false,43,2,1,[(vB Yy.apart),(vB Yy.clash)]⟩) (h:sZ a1 a2 Yy=some r):GTo Try.prog 25 [.ref Zr 0,.agg (Zl a1),.agg (Zl a2)] O n (.tup []) (Yn (O.upd Zr (some ⟨false,43,2,1,[(vB r.apart),(vB r.clash)]⟩)) n []) (n+0):=by
 unfold sZ at h
 refine vX Yd Try.call25 Try.func25 rfl (Nat.le_of_ble_eq_true rfl) (by omega) fun hU => ?_
 rw [show Yn O n []=Yn (O.upd Zr (some ⟨false,43,2,1,[(vB Yy.apart),(vB Yy.clash)]⟩)) n [] from by rw [Qw (show O Zr=_ from by exact Ks)]]
 have Zm:∀ k,Zr < n+k:=fun k=>by omega
 have Ye:∀ o,Objs.upd O Zr o n=none:=fun o=>Xb hU Zk _ (Nat.le_refl _)
 have hN:∀ o k,Objs.upd O Zr o (n+k)=none:=fun o k=>Xb hU Zk _ (Nat.le_add_right _ _)
 show W _ _ _ _ ⟨30,[],[(0,.ref Zr 0),(1,.agg (Zl a1)),(2,.agg (Zl a2))]⟩ (Yn (O.upd Zr (some ⟨false,43,2,1,[(vB Yy.apart),(vB Yy.clash)]⟩)) n []) _
 refine fZ [0,4,5] Zk Zm ?_
 refine Z7 ?_
 obtain ⟨y2,kE,h⟩:=bC h
 refine Kc [] Zk Zm ?_
 refine (dF kE).then ?_
 refine eR Zk Zm ?_
 refine zD [0,4,6,7] [true,false,true] ?_
 refine Xt ?_
 refine fZ [0,4,6,15] Zk Zm ?_
 refine Yj (t:=(!y2.2)) rfl (fun c6 => ?_) (fun c6 => ?_)
 ·replace h:=Ym c6 h
  refine Kc [] Zk Zm ?_
  obtain rfl:=sI h
  refine Jl (k:=0) (i:=Zr) (q1:=⟨false,43,2,1,[(vB true),(vB Yy.clash)]⟩) (L3:=[none]) (E2:=(⟨30,[],[]⟩:Env)) (n3:=(n+1)) (.inl rfl) hU rfl [] ?_ ?_
  ·refine uS (k:=3) (k':=1) hU [0,0,0] [0] (lT Zk) ?_ ?_
   ·exact Qx Zk Zm
   exact Qx Zk Zm
  simp only [push_cast,seval,Zc,Try.results25,Zk,Zm,Ye,hN]
 replace h:=Yl c6 h
 refine Z7 ?_
 obtain ⟨y4,hy4,h⟩:=bC h
 refine Kc [] Zk Zm ?_
 refine (fT hy4).then ?_
 refine eR Zk Zm ?_
 refine zD [0,21] [false,false,false] ?_
 refine Yj (t:=(!y4)) rfl (fun c5 => ?_) (fun c5 => ?_)
 ·replace h:=Ym c5 h
  refine Kc [] Zk Zm ?_
  obtain rfl:=sI h
  refine Jl (k:=0) (i:=Zr) (q1:=⟨false,43,2,1,[(vB Yy.apart),(vB true)]⟩) (L3:=[none]) (E2:=(⟨30,[],[]⟩:Env)) (n3:=(n+1)) (.inl rfl) hU rfl [] ?_ ?_
  ·refine uS (k:=3) (k':=1) hU [0,0,0] [0] (lT Zk) ?_ ?_
   ·exact Qx Zk Zm
   exact Qx Zk Zm
  simp only [push_cast,seval,Zc,Try.results25,Zk,Zm,Ye,hN]
 replace h:=Yl c5 h
 refine zK ?_
 obtain rfl:=sI h
 refine Jl (k:=0) (i:=Zr) (q1:=⟨false,43,2,1,[(vB Yy.apart),(vB Yy.clash)]⟩) (L3:=[none]) (E2:=(⟨30,[],[]⟩:Env)) (n3:=(n+1)) (.inl rfl) hU rfl [] ?_ ?_
 ·refine uS (k:=3) (k':=1) hU [0,0,0] [0] (lT Zk) ?_ ?_
  ·exact Qx Zk Zm
  exact Qx Zk Zm
 simp only [push_cast,seval,Zc,Try.results25,Zk,Zm,Ye,hN]
theorem vA {a1:Zd} {r:Zi} {O:Objs} {n:Nat} {Zr:Nat} (Zk:Zr < n) (h:Jf a1=some r):GTo Try.prog 41 [.ref Zr 0,.agg (Zl a1)] O n (.ref n 0) (Yn O n [some ⟨false,85,13,1,(Zj (.ref Zr 0) (.row (n+1) r.left.Words.length) (.row (n+2) r.left.Kids.length) (.row (n+3) r.left.Ops.length) (.row (n+4) r.come.length) r)⟩,some (oR 48 4 Zf r.left.Words),some (oR 50 12 Ze r.left.Kids),some (oR 41 14 Zh r.left.Ops),some (oR 25 3 Za r.come)]) (n+5):=by
 unfold Jf at h
 refine vX Yd Try.call41 Try.func41 rfl (Nat.le_of_ble_eq_true rfl) (by omega) fun hU => ?_
 have Zm:∀ k,Zr < n+k:=fun k=>by omega
 have Ye:O n=none:=hU.fresh _ (Nat.le_refl _)
 have hN:∀ k,O (n+k)=none:=fun k=>hU.fresh _ (Nat.le_add_right _ _)
 show W _ _ _ _ ⟨13,[],[(0,.ref Zr 0),(1,.agg (Zl a1))]⟩ (Yn O n []) _
 refine fZ [0,3] Zk Zm ?_
 refine fZ [4] Zk Zm ?_
 refine zW ?_
 obtain rfl:=sI h
 refine Zek (k:=5) (L3:=[some ⟨false,85,13,1,[.ref Zr 0,(vI a1.Kind),(vI 0),nV,nV,(vI 0),nV,nV,.row (n+1) ([]:List Zs).length,.row (n+2) ([]:List Zq).length,(vI a1.List_),.row (n+3) ([]:List Zo).length,.row (n+4) ([]:List Zb).length]⟩,some (oR 48 4 Zf ([]:List Zs)),some (oR 50 12 Ze ([]:List Zq)),some (oR 41 14 Zh ([]:List Zo)),some (oR 25 3 Za ([]:List Zb)),none]) (E2:=(⟨13,[],[(4,.ref n 0)]⟩:Env)) (n3:=(n+6)) (.inr rfl) hU rfl [.ref n 0] ?_ ?_
 ·refine Fit2.trans (E':=(⟨13,[],[(4,.ref (n+1) 0)]⟩:Env)) (O':=(Yn O n [none,some ⟨false,85,13,1,[.ref Zr 0,(vI a1.Kind),(vI 0),nV,nV,(vI 0),nV,nV,nV,nV,(vI a1.List_),nV,nV]⟩])) (n':=(n+2)) (Fit2.of (Jw hU rfl rfl ?_) (by omega)) ?_
  ·exact Qx Zk Zm
  refine Fit2.trans (Gh (p:=(n+1)) (k:=8) (q:=⟨false,85,13,1,[.ref Zr 0,(vI a1.Kind),(vI 0),nV,nV,(vI 0),nV,nV,nV,nV,(vI a1.List_),nV,nV]⟩) 48 4 (by simp only [Gx,tX,List.getElem?_cons_zero,List.getElem?_cons_succ,Option.join_some,List.length_nil]) rfl (by omega)) ?_
  simp only [Up,Kg,oZ,List.set_cons_zero,List.set_cons_succ,List.cons_append,List.nil_append,List.length_cons,List.length_nil,Nat.zero_add,Nat.reduceAdd,Nat.reduceLT,Nat.add_assoc]
  refine Fit2.trans (Gh (p:=(n+1)) (k:=9) (q:=⟨false,85,13,1,[.ref Zr 0,(vI a1.Kind),(vI 0),nV,nV,(vI 0),nV,nV,.row (n+2) ([]:List Zs).length,nV,(vI a1.List_),nV,nV]⟩) 50 12 (by simp only [Gx,tX,List.getElem?_cons_zero,List.getElem?_cons_succ,Option.join_some,List.length_nil]) rfl (by omega)) ?_
  simp only [Up,Kg,oZ,List.set_cons_zero,List.set_cons_succ,List.cons_append,List.nil_append,List.length_cons,List.length_nil,Nat.zero_add,Nat.reduceAdd,Nat.reduceLT,Nat.add_assoc]
  refine Fit2.trans (Gh (p:=(n+1)) (k:=11) (q:=⟨false,85,13,1,[.ref Zr 0,(vI a1.Kind),(vI 0),nV,nV,(vI 0),nV,nV,.row (n+2) ([]:List Zs).length,.row (n+3) ([]:List Zq).length,(vI a1.List_),nV,nV]⟩) 41 14 (by simp only [Gx,tX,List.getElem?_cons_zero,List.getElem?_cons_succ,Option.join_some,List.length_nil]) rfl (by omega)) ?_
  simp only [Up,Kg,oZ,List.set_cons_zero,List.set_cons_succ,List.cons_append,List.nil_append,List.length_cons,List.length_nil,Nat.zero_add,Nat.reduceAdd,Nat.reduceLT,Nat.add_assoc]
  refine Fit2.trans (Gh (p:=(n+1)) (k:=12) (q:=⟨false,85,13,1,[.ref Zr 0,(vI a1.Kind),(vI 0),nV,nV,(vI 0),nV,nV,.row (n+2) ([]:List Zs).length,.row (n+3) ([]:List Zq).length,(vI a1.List_),.row (n+4) ([]:List Zo).length,nV]⟩) 25 3 (by simp only [Gx,tX,List.getElem?_cons_zero,List.getElem?_cons_succ,Option.join_some,List.length_nil]) rfl (by omega)) ?_
  simp only [Up,Kg,oZ,List.set_cons_zero,List.set_cons_succ,List.cons_append,List.nil_append,List.length_cons,List.length_nil,Nat.zero_add,Nat.reduceAdd,Nat.reduceLT,Nat.add_assoc]
  refine Zc0 (k:=6) (k':=6) hU [5,0,1,2,3,4] [1,2,3,4,5,0] rfl rfl rfl rfl ⟨rfl,rfl⟩ ?_
  exact Qx Zk Zm
 simp only [push_cast,seval,Zc,Try.results41,Zk,Zm,Ye,hN]
theorem Zdb {a0:Zi} {a1:Zs} {a2:Zs} {Yy:Zg} {r:(Zs×Zi×Zg)} {O:Objs} {n:Nat} {i0 Yt Y1 Y2 Xz Zr:Nat} (Ys:i0 < n) (Jr:Yt < n) (Vn:Y1 < n) (V6:Y2 < n) (qG:Xz < n) (X4:i0≠Yt) (Qh:i0≠Y1) (Qs:i0≠Y2) (U0:i0≠Xz) (Qg:Yt≠Y1) (Qq:Yt≠Y2) (Ux:Yt≠Xz) (Qr:Y1≠Y2) (Uy:Y1≠Xz) (Uz:Y2≠Xz) (Zk:Zr < n) (Qa:Zr≠Yt) (Qb:Zr≠Y1) (Qc:Zr≠Y2) (Je:Zr≠Xz) (Yz:i0≠Zr) (uC:O i0=some ⟨false,85,13,1,(Zj (.ref Zr 0) (.row Yt a0.left.Words.length) (.row Y1 a0.left.Kids.length) (.row Y2 a0.left.Ops.length) (.row Xz a0.come.length) a0)⟩) (J7:O Yt=some (oR 48 4 Zf a0.left.Words)) (U1:O Y1=some (oR 50 12 Ze a0.left.Kids)) (Gj:O Y2=some (oR 41 14 Zh a0.left.Ops)) (aC:O Xz=some (oR 25 3 Za a0.come)) (Ks:O Zr=some ⟨false,43,2,1,[(vB Yy.apart),(vB Yy.clash)]⟩) (h:mJ a0 a1 a2 Yy=some r):GTo Try.prog 62 [.ref i0 0,.agg (Qi a1),.agg (Qi a2)] O n (.agg (Qi r.1)) (Yn ((((((O.upd Yt none).upd Y1 none).upd Y2 none).upd Xz none).upd i0 (some ⟨false,85,13,1,(Zj (.ref Zr 0) (.row n r.2.1.left.Words.length) (.row (n+1) r.2.1.left.Kids.length) (.row (n+2) r.2.1.left.Ops.length) (.row (n+3) r.2.1.come.length) r.2.1)⟩)).upd Zr (some ⟨false,43,2,1,[(vB r.2.2.apart),(vB r.2.2.clash)]⟩)) n [some (oR 48 4 Zf r.2.1.left.Words),some (oR 50 12 Ze r.2.1.left.Kids),some (oR 41 14 Zh r.2.1.left.Ops),some (oR 25 3 Za r.2.1.come)]) (n+4):=by
 unfold mJ at h
 refine vX Yd Try.call62 Try.func62 rfl (Nat.le_of_ble_eq_true rfl) (by omega) fun hU => ?_
 rw [show Yn O n []=Yn ((O.upd i0 (some ⟨false,85,13,1,(Zj (.ref Zr 0) (.row Yt a0.left.Words.length) (.row Y1 a0.left.Kids.length) (.row Y2 a0.left.Ops.length) (.row Xz a0.come.length) a0)⟩)).upd Zr (some ⟨false,43,2,1,[(vB Yy.apart),(vB Yy.clash)]⟩)) n [] from by rw [Qw uC,Qw Ks]]
 refine Xi (Y0 (k:=8) (by rw [Yb _ Ys];simp only [Yo,Zn Yz] <;> rfl) (by rfl) (by rw [Yb _ Jr];simp only [Zn (Ne.symm X4),Zn (Ne.symm Qa)];exact J7) X4 (by simp only [push_cast,Nat.reduceAdd,Z8 _ _ Jr,Z8 _ _ Ys,Z3 (Ne.symm X4),Z3 (Ne.symm Qa),Z3 Yz] <;> rfl) (by omega)) ?_
 refine Xi (Y0 (k:=9) (by rw [Yb _ Ys];simp only [Yo,Zn Yz] <;> rfl) (by rfl) (by rw [Yb _ Vn];simp only [Zn (Ne.symm Qh),Zn (Ne.symm Qb),Zn (Ne.symm Qg)];exact U1) Qh (by simp only [push_cast,Nat.reduceAdd,Z8 _ _ Vn,Z8 _ _ Ys,Z3 (Ne.symm Qh),Z3 (Ne.symm Qb),Z3 Yz] <;> rfl) (by omega)) ?_
 refine Xi (Y0 (k:=11) (by rw [Yb _ Ys];simp only [Yo,Zn Yz] <;> rfl) (by rfl) (by rw [Yb _ V6];simp only [Zn (Ne.symm Qs),Zn (Ne.symm Qc),Zn (Ne.symm Qq),Zn (Ne.symm Qr)];exact Gj) Qs (by simp only [push_cast,Nat.reduceAdd,Z8 _ _ V6,Z8 _ _ Ys,Z3 (Ne.symm Qs),Z3 (Ne.symm Qc),Z3 Yz] <;> rfl) (by omega)) ?_
 refine Xi (Y0 (k:=12) (by rw [Yb _ Ys];simp only [Yo,Zn Yz] <;> rfl) (by rfl) (by rw [Yb _ qG];simp only [Zn (Ne.symm U0),Zn (Ne.symm Je),Zn (Ne.symm Ux),Zn (Ne.symm Uy),Zn (Ne.symm Uz)];exact aC) U0 (by simp only [push_cast,Nat.reduceAdd,Z8 _ _ qG,Z8 _ _ Ys,Z3 (Ne.symm U0),Z3 (Ne.symm Je),Z3 Yz] <;> rfl) (by omega)) ?_
 have hU:=(Und.drop (Und.drop (Und.drop (Und.drop hU Yt) Y1) Y2) Xz)
 have Z4:=fun X=>@Zn X _ _ Yz
 have Z5:=fun X=>@Zn X _ _ (Ne.symm Yz)
 have Z6:=fun X b c=>@Z3 X _ _ b c Yz
 have Y4:∀ k,i0 < n+k:=fun k=>by omega
 have Zm:∀ k,Zr < n+k:=fun k=>by omega
 have Ye:∀ o p,Objs.upd (Objs.upd ((((O.upd Yt none).upd Y1 none).upd Y2 none).upd Xz none) i0 o) Zr p n=none:=fun o p=>(Xe _ _ (by omega)).trans (Xb hU Ys _ (Nat.le_refl _))
 have hN:∀ o p k,Objs.upd (Objs.upd ((((O.upd Yt none).upd Y1 none).upd Y2 none).upd Xz none) i0 o) Zr p (n+k)=none:=fun o p k=>(Xe _ _ (by omega)).trans (Xb hU Ys _ (Nat.le_add_right _ _))
 show W _ _ _ _ ⟨80,[],[(0,.ref i0 0),(1,.agg (Qi a1)),(2,.agg (Qi a2))]⟩ (Yn ((((((O.upd Yt none).upd Y1 none).upd Y2 none).upd Xz none).upd i0 (some ⟨false,85,13,1,(Zj (.ref Zr 0) (.row n a0.left.Words.length) (.row (n+1) a0.left.Kids.length) (.row (n+2) a0.left.Ops.length) (.row (n+3) a0.come.length) a0)⟩)).upd Zr (some ⟨false,43,2,1,[(vB Yy.apart),(vB Yy.clash)]⟩)) n [some (oR 48 4 Zf a0.left.Words),some (oR 50 12 Ze a0.left.Kids),some (oR 41 14 Zh a0.left.Ops),some (oR 25 3 Za a0.come)]) _
 refine yJ [0,4,5,6] (Yv Yd [] ?_)
 simp only [push_cast,seval,Zc,Ys,Y4,Zk,Zm,Z4,Z5,Z6,Ye,hN]
 refine Z7 ?_
 obtain ⟨y2,kE,h⟩:=bC h
 refine Yv Yd [] ?_
 simp only [push_cast,seval,Zc,Ys,Y4,Zk,Zm,Z4,Z5,Z6,Ye,hN]
 refine (pD kE).then ?_
 simp only [push_cast,seval,Zc,Ys,Y4,Zk,Zm,Z4,Z5,Z6,Ye,hN]
 refine lO [0,4,5,6,7] [true,true,true,true,true,true,true] ?_
 refine oY Yd (by kernel_rfl) [false,false,false,false,false,false,false,false,false,false,false,false,false,false,false,false,false,false,false,false,false,false,false,true] [none,none,none,none,none,none,none,none] (by kernel_rfl) ?_
 simp only [push_cast,seval,Zc,Ys,Y4,Zk,Zm,Z4,Z5,Z6,Ye,hN]
 refine zG ?_
 refine lO [0,4,5,6,7] [true,true,true,true,true,true,true] ?_
 refine oY Yd (by kernel_rfl) [false,false,false,false,false,false,false,false,false,false,false,false,false,false,false,false,false,false,false,false,false,false,false,true] [none,none,none,none,none,none,none,none] (by kernel_rfl) ?_
 simp only [push_cast,seval,Zc,Ys,Y4,Zk,Zm,Z4,Z5,Z6,Ye,hN]
 refine zG ?_
 refine zD [4,5,6] [true,true,true,true,true,true,true] ?_
 refine yJ [4,6,8] (Yv Yd [] ?_)
 simp only [push_cast,seval,Zc,Ys,Y4,Zk,Zm,Z4,Z5,Z6,Ye,hN]
 refine Z7 ?_
 obtain ⟨y5,hy5,h⟩:=bC h
 obtain ⟨y6,hy6,h⟩:=bC h
 refine oY Yd (by kernel_rfl) [false,false,false,false,false,false,false,false,false,false,false,false,false,false,true] [] (by kernel_rfl) ?_
 simp only [push_cast,seval,Zc,Ys,Y4,Zk,Zm,Z4,Z5,Z6,Ye,hN]
 refine PCall.of (pD hy5) ?_
 simp only [push_cast,seval,Zc,Ys,Y4,Zk,Zm,Z4,Z5,Z6,Ye,hN]
 refine PCall.of (pD hy6) ?_
 simp only [push_cast,seval,Zc,Ys,Y4,Zk,Zm,Z4,Z5,Z6,Ye,hN]
 refine zD [6] [true,true,true,true,false,false,true] ?_
 refine zW ?_
 obtain rfl:=sI h
 refine Kk (k:=4) (i:=i0) (j:=Zr) (q1:=⟨false,85,13,1,(Zj (.ref Zr 0) (.row n a0.left.Words.length) (.row (n+1) a0.left.Kids.length) (.row (n+2) a0.left.Ops.length) (.row (n+3) a0.come.length) a0)⟩) (p1:=⟨false,43,2,1,[(vB (cond Yy.apart true ((IntKind.u64.wrap (nX .u64 (IntKind.u64.wrap (xD .u64 a1.Old a2.Old)) y2)) != 0))),(vB (cond Yy.clash true ((IntKind.u64.wrap (nX .u64 (IntKind.u64.wrap (xD .u64 a1.New a2.New)) y2)) != 0)))]⟩) (L3:=[some (oR 48 4 Zf a0.left.Words),some (oR 50 12 Ze a0.left.Kids),some (oR 41 14 Zh a0.left.Ops),some (oR 25 3 Za a0.come),some ⟨false,48,4,1,[(vI a1.At),.val (.int .u8 (IntKind.u8.wrap (Zak .u8 a1.Mask a2.Mask))),.val (.int .u64 (IntKind.u64.wrap (nX .u64 a1.Old y5))),.val (.int .u64 (IntKind.u64.wrap (nX .u64 a1.New y6)))]⟩,none]) (E2:=(⟨80,[],[(6,.ref (n+4) 0)]⟩:Env)) (n3:=(n+6)) (.inr rfl) hU rfl [.agg [(vI a1.At),.val (.int .u8 (IntKind.u8.wrap (Zak .u8 a1.Mask a2.Mask))),.val (.int .u64 (IntKind.u64.wrap (nX .u64 a1.Old y5))),.val (.int .u64 (IntKind.u64.wrap (nX .u64 a1.New y6)))]] ?_ ?_
 ·refine fr2 (k:=7) (k':=6) hU [0,1,2,3,5,5,4] [0,1,2,3,6,0] (zM2 Ys Zk) ?_ ?_
  ·simp only [push_cast,seval,Zc,Ys,Y4,Zk,Zm,Z4,Z5,Z6,Ye,hN]
  simp only [push_cast,seval,Zc,Ys,Y4,Zk,Zm,Z4,Z5,Z6,Ye,hN]
 simp only [push_cast,seval,Zc,Try.results62,Ys,Y4,Zk,Zm,Z4,Z5,Z6,Ye,hN]
theorem kH {a0:Zi} {a1:(List Zs)} {a2:(List Zs)} {Yy:Zg} {r:(Zi×Zg)} {O:Objs} {n:Nat} {i0 Yt Y1 Y2 Xz Zr:Nat} (Ys:i0 < n) (Jr:Yt < n) (Vn:Y1 < n) (V6:Y2 < n) (qG:Xz < n) (X4:i0≠Yt) (Qh:i0≠Y1) (Qs:i0≠Y2) (U0:i0≠Xz) (Qg:Yt≠Y1) (Qq:Yt≠Y2) (Ux:Yt≠Xz) (Qr:Y1≠Y2) (Uy:Y1≠Xz) (Uz:Y2≠Xz) (Zk:Zr < n) (Qa:Zr≠Yt) (Qb:Zr≠Y1) (Qc:Zr≠Y2) (Je:Zr≠Xz) (Yz:i0≠Zr) (uC:O i0=some ⟨false,85,13,1,(Zj (.ref Zr 0) (.row Yt a0.left.Words.length) (.row Y1 a0.left.Kids.length) (.row Y2 a0.left.Ops.length) (.row Xz a0.come.length) a0)⟩) (J7:O Yt=some (oR 48 4 Zf a0.left.Words)) (U1:O Y1=some (oR 50 12 Ze a0.left.Kids)) (Gj:O Y2=some (oR 41 14 Zh a0.left.Ops)) (aC:O Xz=some (oR 25 3 Za a0.come)) (Ks:O Zr=some ⟨false,43,2,1,[(vB Yy.apart),(vB Yy.clash)]⟩) (h:Gs a0 a1 a2 Yy=some r):GTo Try.prog 42 [.ref i0 0,(sL Zf a1),(sL Zf a2)] O n (.tup []) (Yn ((((((O.upd Yt none).upd Y1 none).upd Y2 none).upd Xz none).upd i0 (some ⟨false,85,13,1,(Zj (.ref Zr 0) (.row n r.1.left.Words.length) (.row (n+1) r.1.left.Kids.length) (.row (n+2) r.1.left.Ops.length) (.row (n+3) r.1.come.length) r.1)⟩)).upd Zr (some ⟨false,43,2,1,[(vB r.2.apart),(vB r.2.clash)]⟩)) n [some (oR 48 4 Zf r.1.left.Words),some (oR 50 12 Ze r.1.left.Kids),some (oR 41 14 Zh r.1.left.Ops),some (oR 25 3 Za r.1.come)]) (n+4):=by
 unfold Gs at h
 refine vX Yd Try.call42 Try.func42 rfl (Nat.le_of_ble_eq_true rfl) (by omega) fun hU => ?_
 rw [show Yn O n []=Yn ((O.upd i0 (some ⟨false,85,13,1,(Zj (.ref Zr 0) (.row Yt a0.left.Words.length) (.row Y1 a0.left.Kids.length) (.row Y2 a0.left.Ops.length) (.row Xz a0.come.length) a0)⟩)).upd Zr (some ⟨false,43,2,1,[(vB Yy.apart),(vB Yy.clash)]⟩)) n [] from by rw [Qw uC,Qw Ks]]
 refine Xi (Y0 (k:=8) (by rw [Yb _ Ys];simp only [Yo,Zn Yz] <;> rfl) (by rfl) (by rw [Yb _ Jr];simp only [Zn (Ne.symm X4),Zn (Ne.symm Qa)];exact J7) X4 (by simp only [push_cast,Nat.reduceAdd,Z8 _ _ Jr,Z8 _ _ Ys,Z3 (Ne.symm X4),Z3 (Ne.symm Qa),Z3 Yz] <;> rfl) (by omega)) ?_
 refine Xi (Y0 (k:=9) (by rw [Yb _ Ys];simp only [Yo,Zn Yz] <;> rfl) (by rfl) (by rw [Yb _ Vn];simp only [Zn (Ne.symm Qh),Zn (Ne.symm Qb),Zn (Ne.symm Qg)];exact U1) Qh (by simp only [push_cast,Nat.reduceAdd,Z8 _ _ Vn,Z8 _ _ Ys,Z3 (Ne.symm Qh),Z3 (Ne.symm Qb),Z3 Yz] <;> rfl) (by omega)) ?_
 refine Xi (Y0 (k:=11) (by rw [Yb _ Ys];simp only [Yo,Zn Yz] <;> rfl) (by rfl) (by rw [Yb _ V6];simp only [Zn (Ne.symm Qs),Zn (Ne.symm Qc),Zn (Ne.symm Qq),Zn (Ne.symm Qr)];exact Gj) Qs (by simp only [push_cast,Nat.reduceAdd,Z8 _ _ V6,Z8 _ _ Ys,Z3 (Ne.symm Qs),Z3 (Ne.symm Qc),Z3 Yz] <;> rfl) (by omega)) ?_
 refine Xi (Y0 (k:=12) (by rw [Yb _ Ys];simp only [Yo,Zn Yz] <;> rfl) (by rfl) (by rw [Yb _ qG];simp only [Zn (Ne.symm U0),Zn (Ne.symm Je),Zn (Ne.symm Ux),Zn (Ne.symm Uy),Zn (Ne.symm Uz)];exact aC) U0 (by simp only [push_cast,Nat.reduceAdd,Z8 _ _ qG,Z8 _ _ Ys,Z3 (Ne.symm U0),Z3 (Ne.symm Je),Z3 Yz] <;> rfl) (by omega)) ?_
 have hU:=(Und.drop (Und.drop (Und.drop (Und.drop hU Yt) Y1) Y2) Xz)
 have Z4:=fun X=>@Zn X _ _ Yz
 have Z5:=fun X=>@Zn X _ _ (Ne.symm Yz)
 have Z6:=fun X b c=>@Z3 X _ _ b c Yz
 have Y4:∀ k,i0 < n+k:=fun k=>by omega
 have Zm:∀ k,Zr < n+k:=fun k=>by omega
 have Ye:∀ o p,Objs.upd (Objs.upd ((((O.upd Yt none).upd Y1 none).upd Y2 none).upd Xz none) i0 o) Zr p n=none:=fun o p=>(Xe _ _ (by omega)).trans (Xb hU Ys _ (Nat.le_refl _))
 have hN:∀ o p k,Objs.upd (Objs.upd ((((O.upd Yt none).upd Y1 none).upd Y2 none).upd Xz none) i0 o) Zr p (n+k)=none:=fun o p k=>(Xe _ _ (by omega)).trans (Xb hU Ys _ (Nat.le_add_right _ _))
 show W _ _ _ _ ⟨62,[],[(0,.ref i0 0),(1,(sL Zf a1)),(2,(sL Zf a2))]⟩ (Yn ((((((O.upd Yt none).upd Y1 none).upd Y2 none).upd Xz none).upd i0 (some ⟨false,85,13,1,(Zj (.ref Zr 0) (.row n a0.left.Words.length) (.row (n+1) a0.left.Kids.length) (.row (n+2) a0.left.Ops.length) (.row (n+3) a0.come.length) a0)⟩)).upd Zr (some ⟨false,43,2,1,[(vB Yy.apart),(vB Yy.clash)]⟩)) n [some (oR 48 4 Zf a0.left.Words),some (oR 50 12 Ze a0.left.Kids),some (oR 41 14 Zh a0.left.Ops),some (oR 25 3 Za a0.come)]) _
 refine yJ [0,2,8,9,10] (Yv Yd [] ?_)
 simp only [push_cast,seval,Zc,Ys,Y4,Zk,Zm,Z4,Z5,Z6,Ye,hN]
 refine zD [0,2,8,9,10] [true,true,true,true] ?_
 refine Xi (E':=(⟨62,[],[(0,.ref i0 0),(2,(sL Zf a2)),(8,(sL Zf a1)),(9,(vI (a1.length:Int))),(10,(vI 0))]⟩:Env)) (O':=(Yn ((((((O.upd Yt none).upd Y1 none).upd Y2 none).upd Xz none).upd i0 (some ⟨false,85,13,1,(Zj (.ref Zr 0) (.row (n+4) a0.left.Words.length) (.row (n+5) a0.left.Kids.length) (.row (n+6) a0.left.Ops.length) (.row (n+7) a0.come.length) a0)⟩)).upd Zr (some ⟨false,43,2,1,[(vB Yy.apart),(vB Yy.clash)]⟩)) n [none,none,none,none,some (oR 48 4 Zf a0.left.Words),some (oR 50 12 Ze a0.left.Kids),some (oR 41 14 Zh a0.left.Ops),some (oR 25 3 Za a0.come)])) (n':=(n+8)) ?_ ?_
 ·refine fr2 (k:=4) (k':=8) hU [4,5,6,7] [0,0,0,0,0,1,2,3] (zM2 Ys Zk) ?_ ?_
  ·simp only [push_cast,seval,Zc,Ys,Y4,Zk,Zm,Z4,Z5,Z6,Ye,hN]
  simp only [push_cast,seval,Zc,Ys,Y4,Zk,Zm,Z4,Z5,Z6,Ye,hN]
 obtain ⟨lM,Ydu,h⟩:=bC h
 refine X7 (E':=⟨62,[],[]⟩) (O':=(Yn ((((((O.upd Yt none).upd Y1 none).upd Y2 none).upd Xz none).upd i0 (some ⟨false,85,13,1,(Zj (.ref Zr 0) (.row (n+4) lM.1.length) (.row (n+5) lM.2.1.length) (.row (n+6) lM.2.2.1.length) (.row (n+7) lM.2.2.2.1.length) lM.2.2.2.2.1)⟩)).upd Zr (some ⟨false,43,2,1,[(vB lM.2.2.2.2.2.1),(vB lM.2.2.2.2.2.2)]⟩)) n [none,none,none,none,some (oR 48 4 Zf lM.1),some (oR 50 12 Ze lM.2.1),some (oR 41 14 Zh lM.2.2.1),some (oR 25 3 Za lM.2.2.2.1)])) (n0:=(n+8)) ?_ ?_
 ·refine Qy Ydu (fun Yf=>⟨62,[],[(0,.ref i0 0),(2,(sL Zf Yf.1)),(8,(sL Zf a1)),(9,(vI (a1.length:Int))),(10,(vI Yf.2.1))]⟩) (fun Yf=>(Yn ((((((O.upd Yt none).upd Y1 none).upd Y2 none).upd Xz none).upd i0 (some ⟨false,85,13,1,(Zj (.ref Zr 0) (.row (n+4) Yf.2.2.1.left.Words.length) (.row (n+5) Yf.2.2.1.left.Kids.length) (.row (n+6) Yf.2.2.1.left.Ops.length) (.row (n+7) Yf.2.2.1.come.length) Yf.2.2.1)⟩)).upd Zr (some ⟨false,43,2,1,[(vB Yf.2.2.2.1),(vB Yf.2.2.2.2)]⟩)) n [none,none,none,none,some (oR 48 4 Zf Yf.2.2.1.left.Words),some (oR 50 12 Ze Yf.2.2.1.left.Kids),some (oR 41 14 Zh Yf.2.2.1.left.Ops),some (oR 25 3 Za Yf.2.2.1.come)])) (fun lM=>JX 0 n (⟨62,[],[]⟩:Env) (Yn ((((((O.upd Yt none).upd Y1 none).upd Y2 none).upd Xz none).upd i0 (some ⟨false,85,13,1,(Zj (.ref Zr 0) (.row (n+4) lM.1.length) (.row (n+5) lM.2.1.length) (.row (n+6) lM.2.2.1.length) (.row (n+7) lM.2.2.2.1.length) lM.2.2.2.2.1)⟩)).upd Zr (some ⟨false,43,2,1,[(vB lM.2.2.2.2.2.1),(vB lM.2.2.2.2.2.2)]⟩)) n [none,none,none,none,some (oR 48 4 Zf lM.1),some (oR 50 12 Ze lM.2.1),some (oR 41 14 Zh lM.2.2.1),some (oR 25 3 Za lM.2.2.2.1)]) (n+8)) ?_
  intro Yf x0_ Zu
  unfold K5 at Zu
  try dsimp only
  refine yJ [0,2,8,9,10,11] (Yv Yd [] ?_)
  simp only [push_cast,seval,Zc,Ys,Y4,Zk,Zm,Z4,Z5,Z6,Ye,hN]
  refine Z7 ?_
  refine Yj (t:=(decide (Yf.2.1 < (a1.length:Int)))) rfl (fun tC => ?_) (fun tC => ?_)
  ·replace Zu:=Ym tC Zu
   refine uZ [0,2,8,9,10] [false,false,false,false,true,true,true,true] ?_
   obtain ⟨z1,Jx,Zu⟩:=bC Zu
   refine Qf (E':=⟨62,[],[(0,.ref i0 0),(2,(sL Zf z1.1)),(8,(sL Zf a1)),(9,(vI (a1.length:Int))),(10,(vI Yf.2.1))]⟩) (O':=(Yn ((((((O.upd Yt none).upd Y1 none).upd Y2 none).upd Xz none).upd i0 (some ⟨false,85,13,1,(Zj (.ref Zr 0) (.row (n+13) z1.2.1.length) (.row (n+14) z1.2.2.1.length) (.row (n+15) z1.2.2.2.1.length) (.row (n+16) z1.2.2.2.2.1.length) z1.2.2.2.2.2.1)⟩)).upd Zr (some ⟨false,43,2,1,[(vB z1.2.2.2.2.2.2.1),(vB z1.2.2.2.2.2.2.2)]⟩)) n [none,none,none,none,none,none,none,none,none,none,none,none,none,some (oR 48 4 Zf z1.2.1),some (oR 50 12 Ze z1.2.2.1),some (oR 41 14 Zh z1.2.2.2.1),some (oR 25 3 Za z1.2.2.2.2.1),none])) (n0:=(n+18)) ?_ ?_
   ·refine Xt ?_
    refine Z7 ?_
    obtain ⟨x3,hx3,ax3,bx3,cx3,Jx⟩:=bE (f:=Zf) oS (fun _=>rfl) (by decide) Jx
    refine Ycu ax3 bx3 cx3 Ys Y4 Zk Zm Z4 Z5 Z6 ?_
    refine lO [0,2,7,8,9,10] [false,false,false,false,true,true,true,true,true] ?_
    refine zD [0,2,7,8,9,10] [false,false,false,false,true,true,true,true,true] ?_
    obtain ⟨wV,Zkv,Jx⟩:=bC Jx
    refine X7 (E':=⟨62,[],[(0,.ref i0 0),(2,(sL Zf wV)),(7,.ref (n+8) 0),(8,(sL Zf a1)),(9,(vI (a1.length:Int))),(10,(vI Yf.2.1))]⟩) (O':=(Yn ((((((O.upd Yt none).upd Y1 none).upd Y2 none).upd Xz none).upd i0 (some ⟨false,85,13,1,(Zj (.ref Zr 0) (.row (n+4) Yf.2.2.1.left.Words.length) (.row (n+5) Yf.2.2.1.left.Kids.length) (.row (n+6) Yf.2.2.1.left.Ops.length) (.row (n+7) Yf.2.2.1.come.length) Yf.2.2.1)⟩)).upd Zr (some ⟨false,43,2,1,[(vB Yf.2.2.2.1),(vB Yf.2.2.2.2)]⟩)) n [none,none,none,none,some (oR 48 4 Zf Yf.2.2.1.left.Words),some (oR 50 12 Ze Yf.2.2.1.left.Kids),some (oR 41 14 Zh Yf.2.2.1.left.Ops),some (oR 25 3 Za Yf.2.2.1.come),some ⟨false,48,4,1,(Qi x3)⟩])) (n0:=(n+9)) ?_ ?_
    ·refine Qy Zkv (fun xK=>⟨62,[],[(0,.ref i0 0),(2,(sL Zf xK)),(7,.ref (n+8) 0),(8,(sL Zf a1)),(9,(vI (a1.length:Int))),(10,(vI Yf.2.1))]⟩) (fun xK=>(Yn ((((((O.upd Yt none).upd Y1 none).upd Y2 none).upd Xz none).upd i0 (some ⟨false,85,13,1,(Zj (.ref Zr 0) (.row (n+4) Yf.2.2.1.left.Words.length) (.row (n+5) Yf.2.2.1.left.Kids.length) (.row (n+6) Yf.2.2.1.left.Ops.length) (.row (n+7) Yf.2.2.1.come.length) Yf.2.2.1)⟩)).upd Zr (some ⟨false,43,2,1,[(vB Yf.2.2.2.1),(vB Yf.2.2.2.2)]⟩)) n [none,none,none,none,some (oR 48 4 Zf Yf.2.2.1.left.Words),some (oR 50 12 Ze Yf.2.2.1.left.Kids),some (oR 41 14 Zh Yf.2.2.1.left.Ops),some (oR 25 3 Za Yf.2.2.1.come),some ⟨false,48,4,1,(Qi x3)⟩])) (fun wV=>JX 2 n (⟨62,[],[(0,.ref i0 0),(2,(sL Zf wV)),(7,.ref (n+8) 0),(8,(sL Zf a1)),(9,(vI (a1.length:Int))),(10,(vI Yf.2.1))]⟩:Env) (Yn ((((((O.upd Yt none).upd Y1 none).upd Y2 none).upd Xz none).upd i0 (some ⟨false,85,13,1,(Zj (.ref Zr 0) (.row (n+4) Yf.2.2.1.left.Words.length) (.row (n+5) Yf.2.2.1.left.Kids.length) (.row (n+6) Yf.2.2.1.left.Ops.length) (.row (n+7) Yf.2.2.1.come.length) Yf.2.2.1)⟩)).upd Zr (some ⟨false,43,2,1,[(vB Yf.2.2.2.1),(vB Yf.2.2.2.2)]⟩)) n [none,none,none,none,some (oR 48 4 Zf Yf.2.2.1.left.Words),some (oR 50 12 Ze Yf.2.2.1.left.Kids),some (oR 41 14 Zh Yf.2.2.1.left.Ops),some (oR 25 3 Za Yf.2.2.1.come),some ⟨false,48,4,1,(Qi x3)⟩]) (n+9)) ?_
     intro xK x1_ Js
     unfold K6 at Js
     try dsimp only
     refine Z7 ?_
     obtain ⟨z6,hz6,Js⟩:=bC Js
     refine Qf (E':=⟨62,[],[(0,.ref i0 0),(2,(sL Zf xK)),(7,.ref (n+8) 0),(8,(sL Zf a1)),(9,(vI (a1.length:Int))),(10,(vI Yf.2.1)),(25,(vB z6))]⟩) (O':=(Yn ((((((O.upd Yt none).upd Y1 none).upd Y2 none).upd Xz none).upd i0 (some ⟨false,85,13,1,(Zj (.ref Zr 0) (.row (n+4) Yf.2.2.1.left.Words.length) (.row (n+5) Yf.2.2.1.left.Kids.length) (.row (n+6) Yf.2.2.1.left.Ops.length) (.row (n+7) Yf.2.2.1.come.length) Yf.2.2.1)⟩)).upd Zr (some ⟨false,43,2,1,[(vB Yf.2.2.2.1),(vB Yf.2.2.2.2)]⟩)) n [none,none,none,none,some (oR 48 4 Zf Yf.2.2.1.left.Words),some (oR 50 12 Ze Yf.2.2.1.left.Kids),some (oR 41 14 Zh Yf.2.2.1.left.Ops),some (oR 25 3 Za Yf.2.2.1.come),some ⟨false,48,4,1,(Qi x3)⟩])) (n0:=(n+9)) ?_ ?_
     ·rcases Bool.eq_false_or_eq_true (decide (0 < (xK.length:Int))) with jF | jF
      ·replace hz6:=Ym jF hz6
       obtain ⟨x9,hx9,ax9,bx9,cx9,hz6⟩:=bE (f:=Zf) oS (fun _=>rfl) (by decide) hz6
       have g10:=V1 (f:=Zf) (sz:=4) wP (fun _=>rfl) (by decide) (by decide) hx9
       refine Jh Yd (by kernel_rfl) (Z0l []) (by kernel_rfl) ?_
       refine Z7i jF ax9 bx9 cx9 g10 Ys Y4 Zk Zm Z4 Z5 Z6 ?_
       obtain rfl:=sI hz6
       refine And.intro rfl (Fit2.of (bK hU rfl rfl ?_) (by omega))
       exact Z14 jF ax9 bx9 cx9 g10 Ys Y4 Zk Zm Z4 Z5 Z6
      replace hz6:=Yl jF hz6
      refine Jh Yd (by kernel_rfl) (Z0j []) (by kernel_rfl) ?_
      simp only [push_cast,seval,Zc,jF,Ys,Y4,Zk,Zm,Z4,Z5,Z6,Ye,hN]
      obtain rfl:=sI hz6
      refine And.intro rfl (Fit2.of (bK hU rfl rfl ?_) (by omega))
      simp only [push_cast,seval,Zc,jF,Ys,Y4,Zk,Zm,Z4,Z5,Z6,Ye,hN]
     refine Yj (t:=z6) rfl (fun nO => ?_) (fun nO => ?_)
     ·replace Js:=Ym nO Js
      refine uZ [0,2,7,8,9,10] [false,false,false,false,true,true,true,true,true] ?_
      refine Xt ?_
      obtain ⟨l12,Zw4,Zw8,Zxb,Zxg,Js⟩:=bS (lo:=(some (.i64,1))) (hi:=none) (f:=Zf) rfl rfl Zc5 oS (fun _=>rfl) Js
      refine Yv Yd [] ?_
      simp only [push_cast,seval,Zc,Zw4,Zw8,Zxb,Zxg,Ys,Y4,Zk,Zm,Z4,Z5,Z6,Ye,hN]
      obtain rfl:=sI Js
      refine And.intro rfl (Fit2.of (bK hU rfl rfl ?_) (by omega))
      simp only [push_cast,seval,Zc,Zw4,Zw8,Zxb,Zxg,Ys,Y4,Zk,Zm,Z4,Z5,Z6,Ye,hN]
     replace Js:=Yl nO Js
     refine zXt ?_
     obtain rfl:=sI Js
     refine And.intro (fun h=>by cases h) (And.intro rfl (Fit2.of (bK hU rfl rfl ?_) (by omega)))
     simp only [push_cast,seval,Zc,Ys,Y4,Zk,Zm,Z4,Z5,Z6,Ye,hN]
    try simp only [Qj,Xr,↓reduceIte,Nat.reduceEqDiff]
    refine zD [0,2,7,8,9,10] [false,false,false,false,true,true,true,true,true] ?_
    obtain ⟨aM,dI,Jx⟩:=bC Jx
    refine Qf (E':=⟨62,[],[(0,.ref i0 0),(2,(sL Zf wV)),(7,.ref (n+8) 0),(8,(sL Zf a1)),(9,(vI (a1.length:Int))),(10,(vI Yf.2.1))]⟩) (O':=(Yn ((((((O.upd Yt none).upd Y1 none).upd Y2 none).upd Xz none).upd i0 (some ⟨false,85,13,1,(Zj (.ref Zr 0) (.row (n+13) aM.2.2.2.2.1.left.Words.length) (.row (n+14) aM.2.2.2.2.1.left.Kids.length) (.row (n+15) aM.2.2.2.2.1.left.Ops.length) (.row (n+16) aM.2.2.2.2.1.come.length) aM.2.2.2.2.1)⟩)).upd Zr (some ⟨false,43,2,1,[(vB aM.2.2.2.2.2.1),(vB aM.2.2.2.2.2.2)]⟩)) n [none,none,none,none,none,none,none,none,some ⟨false,48,4,1,[(vI aM.1),.val (.int .u8 aM.2.1),.val (.int .u64 aM.2.2.1),.val (.int .u64 aM.2.2.2.1)]⟩,none,none,none,none,some (oR 48 4 Zf aM.2.2.2.2.1.left.Words),some (oR 50 12 Ze aM.2.2.2.2.1.left.Kids),some (oR 41 14 Zh aM.2.2.2.2.1.left.Ops),some (oR 25 3 Za aM.2.2.2.2.1.come)])) (n0:=(n+17)) ?_ ?_
    ·obtain ⟨z18,gB,dI⟩:=bC dI
     refine Qf (E':=⟨62,[],[(0,.ref i0 0),(2,(sL Zf wV)),(7,.ref (n+8) 0),(8,(sL Zf a1)),(9,(vI (a1.length:Int))),(10,(vI Yf.2.1)),(39,(vB z18))]⟩) (O':=(Yn ((((((O.upd Yt none).upd Y1 none).upd Y2 none).upd Xz none).upd i0 (some ⟨false,85,13,1,(Zj (.ref Zr 0) (.row (n+4) Yf.2.2.1.left.Words.length) (.row (n+5) Yf.2.2.1.left.Kids.length) (.row (n+6) Yf.2.2.1.left.Ops.length) (.row (n+7) Yf.2.2.1.come.length) Yf.2.2.1)⟩)).upd Zr (some ⟨false,43,2,1,[(vB Yf.2.2.2.1),(vB Yf.2.2.2.2)]⟩)) n [none,none,none,none,some (oR 48 4 Zf Yf.2.2.1.left.Words),some (oR 50 12 Ze Yf.2.2.1.left.Kids),some (oR 41 14 Zh Yf.2.2.1.left.Ops),some (oR 25 3 Za Yf.2.2.1.come),some ⟨false,48,4,1,(Qi x3)⟩])) (n0:=(n+9)) ?_ ?_
     ·rcases Bool.eq_false_or_eq_true (decide (0 < (wV.length:Int))) with c23 | c23
      ·replace gB:=Ym c23 gB
       obtain ⟨x21,Z2t,Zj8,Zka,Zkc,gB⟩:=bE (f:=Zf) oS (fun _=>rfl) (by decide) gB
       have g22:=V1 (f:=Zf) (sz:=4) wP (fun _=>rfl) (by decide) (by decide) Z2t
       refine Jh Yd (by kernel_rfl) (Z0l []) (by kernel_rfl) ?_
       refine Z7i c23 Zj8 Zka Zkc g22 Ys Y4 Zk Zm Z4 Z5 Z6 ?_
       obtain rfl:=sI gB
       refine And.intro rfl (Fit2.of (bK hU rfl rfl ?_) (by omega))
       exact Z14 c23 Zj8 Zka Zkc g22 Ys Y4 Zk Zm Z4 Z5 Z6
      replace gB:=Yl c23 gB
      refine Jh Yd (by kernel_rfl) (Z0j []) (by kernel_rfl) ?_
      simp only [push_cast,seval,Zc,c23,Ys,Y4,Zk,Zm,Z4,Z5,Z6,Ye,hN]
      obtain rfl:=sI gB
      refine And.intro rfl (Fit2.of (bK hU rfl rfl ?_) (by omega))
      simp only [push_cast,seval,Zc,c23,Ys,Y4,Zk,Zm,Z4,Z5,Z6,Ye,hN]
     refine Yj (t:=z18) rfl (fun oM => ?_) (fun oM => ?_)
     ·replace dI:=Ym oM dI
      obtain ⟨x24,Z9g,Zee,Zef,Zeh,dI⟩:=bE (f:=Zf) oS (fun _=>rfl) (by decide) dI
      obtain ⟨y25,Zku,dI⟩:=bC dI
      refine oY Yd (by kernel_rfl) [false,false,false,false,false,true,true] [] (by kernel_rfl) ?_
      refine Z35 Zee Zef Zeh Ys Y4 Zk Zm Z4 Z5 Z6 ?_
      refine (Zdb (i0:=i0) (Zr:=Zr) (Yt:=(n+4)) (Y1:=(n+5)) (Y2:=(n+6)) (Xz:=(n+7)) (by omega) (by omega) (by omega) (by omega) (by omega) (by omega) (by omega) (by omega) (by omega) (by omega) (by omega) (by omega) (by omega) (by omega) (by omega) (by omega) (by omega) (by omega) (by omega) (by omega) (by omega) (by simp only [push_cast,seval,Zc,Ya,Zee,Zef,Zeh,Ys,Y4,Zk,Zm,Z4,Z5,Z6,Ye,hN] <;> rfl) (by simp only [push_cast,seval,Zc,Ya,Zee,Zef,Zeh,Ys,Y4,Zk,Zm,Z4,Z5,Z6,Ye,hN] <;> rfl) (by simp only [push_cast,seval,Zc,Ya,Zee,Zef,Zeh,Ys,Y4,Zk,Zm,Z4,Z5,Z6,Ye,hN] <;> rfl) (by simp only [push_cast,seval,Zc,Ya,Zee,Zef,Zeh,Ys,Y4,Zk,Zm,Z4,Z5,Z6,Ye,hN] <;> rfl) (by simp only [push_cast,seval,Zc,Ya,Zee,Zef,Zeh,Ys,Y4,Zk,Zm,Z4,Z5,Z6,Ye,hN] <;> rfl) (by simp only [push_cast,seval,Zc,Ya,Zee,Zef,Zeh,Ys,Y4,Zk,Zm,Z4,Z5,Z6,Ye,hN] <;> rfl) Zku).then ?_
      refine Z35 Zee Zef Zeh Ys Y4 Zk Zm Z4 Z5 Z6 ?_
      obtain rfl:=sI dI
      refine And.intro rfl ?_
      refine fr2 (k:=13) (k':=17) hU [12,12,12,12,12,12,12,12,8,13,14,15,16] [0,0,0,0,0,0,0,0,8,0,0,0,0,9,10,11,12] (zM2 Ys Zk) ?_ ?_
      ·exact Ycr Zee Zef Zeh Ys Y4 Zk Zm Z4 Z5 Z6
      simp only [push_cast,seval,Zc,Ys,Y4,Zk,Zm,Z4,Z5,Z6,Ye,hN]
     replace dI:=Yl oM dI
     refine zK ?_
     obtain rfl:=sI dI
     refine And.intro rfl ?_
     refine fr2 (k:=9) (k':=17) hU [12,12,12,12,13,14,15,16,8] [0,0,0,0,0,0,0,0,8,0,0,0,0,4,5,6,7] (zM2 Ys Zk) ?_ ?_
     ·simp only [push_cast,seval,Zc,Ys,Y4,Zk,Zm,Z4,Z5,Z6,Ye,hN]
     simp only [push_cast,seval,Zc,Ys,Y4,Zk,Zm,Z4,Z5,Z6,Ye,hN]
    refine yJ [0,2,7,8,9,10,48] (Yv Yd [] ?_)
    simp only [push_cast,seval,Zc,Ys,Y4,Zk,Zm,Z4,Z5,Z6,Ye,hN]
    refine Yj (t:=(aM.2.1 != 0)) rfl (fun fU => ?_) (fun fU => ?_)
    ·replace Jx:=Ym fU Jx
     obtain ⟨l27,Ya5,Ya9,Z8y,Jx⟩:=bA (k:=1) rfl Jx
     refine V4 Yd (by kernel_rfl) [.plain,.plain,.low,.low,.low,.low,.plain,.pass,.pass,.plain,.plain,.plain,.bar] (fun i=>i < (n+17)∧¬ i=n+13) [0,1,2,3,4,5,6,7,8,9,10,11,12] [.plain,.plain,.low,.low,.low,.low,.plain,.pass,.pass,.plain,.plain,.plain,.bar] [] (by kernel_rfl) rfl ?_
     simp only [push_cast,seval,Zc,Ya5,Ya9,Z8y,Ys,Y4,Zk,Zm,Z4,Z5,Z6,Ye,hN]
     refine zO ?_
     obtain rfl:=sI Jx
     refine And.intro rfl (Fit2.of (bK hU rfl rfl ?_) (by omega))
     simp only [push_cast,seval,Zc,Ya5,Ya9,Z8y,Ys,Y4,Zk,Zm,Z4,Z5,Z6,Ye,hN]
    replace Jx:=Yl fU Jx
    refine zK ?_
    obtain rfl:=sI Jx
    refine And.intro rfl (Fit2.of (bK hU rfl rfl ?_) (by omega))
    simp only [push_cast,seval,Zc,Ys,Y4,Zk,Zm,Z4,Z5,Z6,Ye,hN]
   refine Yv Yd [] ?_
   simp only [push_cast,seval,Zc,Ys,Y4,Zk,Zm,Z4,Z5,Z6,Ye,hN]
   obtain rfl:=sI Zu
   refine And.intro rfl ?_
   refine fr2 (k:=18) (k':=8) hU [3,3,3,3,3,3,3,3,3,3,3,3,3,4,5,6,7,3] [0,0,0,0,13,14,15,16] (zM2 Ys Zk) ?_ ?_
   ·simp only [push_cast,seval,Zc,Ys,Y4,Zk,Zm,Z4,Z5,Z6,Ye,hN]
   simp only [push_cast,seval,Zc,Ys,Y4,Zk,Zm,Z4,Z5,Z6,Ye,hN]
  replace Zu:=Yl tC Zu
  refine zXt ?_
  obtain rfl:=sI Zu
  refine And.intro (fun h=>by cases h) (And.intro rfl (Fit2.of (bK hU rfl rfl ?_) (by omega)))
  simp only [push_cast,seval,Zc,Ys,Y4,Zk,Zm,Z4,Z5,Z6,Ye,hN]
 try simp only [Qj,Xr,↓reduceIte,Nat.reduceEqDiff]
 obtain rfl:=sI h
 refine Kk (k:=4) (i:=i0) (j:=Zr) (q1:=⟨false,85,13,1,(Zj (.ref Zr 0) (.row n lM.1.length) (.row (n+1) lM.2.1.length) (.row (n+2) lM.2.2.1.length) (.row (n+3) lM.2.2.2.1.length) lM.2.2.2.2.1)⟩) (p1:=⟨false,43,2,1,[(vB lM.2.2.2.2.2.1),(vB lM.2.2.2.2.2.2)]⟩) (L3:=[some (oR 48 4 Zf lM.1),some (oR 50 12 Ze lM.2.1),some (oR 41 14 Zh lM.2.2.1),some (oR 25 3 Za lM.2.2.2.1),none]) (E2:=(⟨62,[],[]⟩:Env)) (n3:=(n+5)) (.inl rfl) hU rfl [] ?_ ?_
 ·refine fr2 (k:=8) (k':=5) hU [4,4,4,4,0,1,2,3] [4,5,6,7,0] (zM2 Ys Zk) ?_ ?_
  ·simp only [push_cast,seval,Zc,Ys,Y4,Zk,Zm,Z4,Z5,Z6,Ye,hN]
  simp only [push_cast,seval,Zc,Ys,Y4,Zk,Zm,Z4,Z5,Z6,Ye,hN]
 simp only [push_cast,seval,Zc,Try.results42,Ys,Y4,Zk,Zm,Z4,Z5,Z6,Ye,hN]
theorem wI {a0:Zi} {a1:Int} {a2:Zd} {Yy:Zg} {r:(Zi×Zg)} {O:Objs} {n:Nat} {i0 Yt Y1 Y2 Xz Zr:Nat} (Ys:i0 < n) (Jr:Yt < n) (Vn:Y1 < n) (V6:Y2 < n) (qG:Xz < n) (X4:i0≠Yt) (Qh:i0≠Y1) (Qs:i0≠Y2) (U0:i0≠Xz) (Qg:Yt≠Y1) (Qq:Yt≠Y2) (Ux:Yt≠Xz) (Qr:Y1≠Y2) (Uy:Y1≠Xz) (Uz:Y2≠Xz) (Zk:Zr < n) (Qa:Zr≠Yt) (Qb:Zr≠Y1) (Qc:Zr≠Y2) (Je:Zr≠Xz) (Yz:i0≠Zr) (uC:O i0=some ⟨false,85,13,1,(Zj (.ref Zr 0) (.row Yt a0.left.Words.length) (.row Y1 a0.left.Kids.length) (.row Y2 a0.left.Ops.length) (.row Xz a0.come.length) a0)⟩) (J7:O Yt=some (oR 48 4 Zf a0.left.Words)) (U1:O Y1=some (oR 50 12 Ze a0.left.Kids)) (Gj:O Y2=some (oR 41 14 Zh a0.left.Ops)) (aC:O Xz=some (oR 25 3 Za a0.come)) (Ks:O Zr=some ⟨false,43,2,1,[(vB Yy.apart),(vB Yy.clash)]⟩) (h:lJ a0 a1 a2 Yy=some r):GTo Try.prog 63 [.ref i0 0,(vI a1),.agg (Zl a2)] O n (.tup []) (Yn ((((((O.upd Yt none).upd Y1 none).upd Y2 none).upd Xz none).upd i0 (some ⟨false,85,13,1,(Zj (.ref Zr 0) (.row n r.1.left.Words.length) (.row (n+1) r.1.left.Kids.length) (.row (n+2) r.1.left.Ops.length) (.row (n+3) r.1.come.length) r.1)⟩)).upd Zr (some ⟨false,43,2,1,[(vB r.2.apart),(vB r.2.clash)]⟩)) n [some (oR 48 4 Zf r.1.left.Words),some (oR 50 12 Ze r.1.left.Kids),some (oR 41 14 Zh r.1.left.Ops),some (oR 25 3 Za r.1.come)]) (n+4):=by
 unfold lJ at h
 refine vX Yd Try.call63 Try.func63 rfl (Nat.le_of_ble_eq_true rfl) (by omega) fun hU => ?_
 rw [show Yn O n []=Yn ((O.upd i0 (some ⟨false,85,13,1,(Zj (.ref Zr 0) (.row Yt a0.left.Words.length) (.row Y1 a0.left.Kids.length) (.row Y2 a0.left.Ops.length) (.row Xz a0.come.length) a0)⟩)).upd Zr (some ⟨false,43,2,1,[(vB Yy.apart),(vB Yy.clash)]⟩)) n [] from by rw [Qw uC,Qw Ks]]
 refine Xi (Y0 (k:=8) (by rw [Yb _ Ys];simp only [Yo,Zn Yz] <;> rfl) (by rfl) (by rw [Yb _ Jr];simp only [Zn (Ne.symm X4),Zn (Ne.symm Qa)];exact J7) X4 (by simp only [push_cast,Nat.reduceAdd,Z8 _ _ Jr,Z8 _ _ Ys,Z3 (Ne.symm X4),Z3 (Ne.symm Qa),Z3 Yz] <;> rfl) (by omega)) ?_
 refine Xi (Y0 (k:=9) (by rw [Yb _ Ys];simp only [Yo,Zn Yz] <;> rfl) (by rfl) (by rw [Yb _ Vn];simp only [Zn (Ne.symm Qh),Zn (Ne.symm Qb),Zn (Ne.symm Qg)];exact U1) Qh (by simp only [push_cast,Nat.reduceAdd,Z8 _ _ Vn,Z8 _ _ Ys,Z3 (Ne.symm Qh),Z3 (Ne.symm Qb),Z3 Yz] <;> rfl) (by omega)) ?_
 refine Xi (Y0 (k:=11) (by rw [Yb _ Ys];simp only [Yo,Zn Yz] <;> rfl) (by rfl) (by rw [Yb _ V6];simp only [Zn (Ne.symm Qs),Zn (Ne.symm Qc),Zn (Ne.symm Qq),Zn (Ne.symm Qr)];exact Gj) Qs (by simp only [push_cast,Nat.reduceAdd,Z8 _ _ V6,Z8 _ _ Ys,Z3 (Ne.symm Qs),Z3 (Ne.symm Qc),Z3 Yz] <;> rfl) (by omega)) ?_
 refine Xi (Y0 (k:=12) (by rw [Yb _ Ys];simp only [Yo,Zn Yz] <;> rfl) (by rfl) (by rw [Yb _ qG];simp only [Zn (Ne.symm U0),Zn (Ne.symm Je),Zn (Ne.symm Ux),Zn (Ne.symm Uy),Zn (Ne.symm Uz)];exact aC) U0 (by simp only [push_cast,Nat.reduceAdd,Z8 _ _ qG,Z8 _ _ Ys,Z3 (Ne.symm U0),Z3 (Ne.symm Je),Z3 Yz] <;> rfl) (by omega)) ?_
 have hU:=(Und.drop (Und.drop (Und.drop (Und.drop hU Yt) Y1) Y2) Xz)
 have Z4:=fun X=>@Zn X _ _ Yz
 have Z5:=fun X=>@Zn X _ _ (Ne.symm Yz)
 have Z6:=fun X b c=>@Z3 X _ _ b c Yz
 have Y4:∀ k,i0 < n+k:=fun k=>by omega
 have Zm:∀ k,Zr < n+k:=fun k=>by omega
 have Ye:∀ o p,Objs.upd (Objs.upd ((((O.upd Yt none).upd Y1 none).upd Y2 none).upd Xz none) i0 o) Zr p n=none:=fun o p=>(Xe _ _ (by omega)).trans (Xb hU Ys _ (Nat.le_refl _))
 have hN:∀ o p k,Objs.upd (Objs.upd ((((O.upd Yt none).upd Y1 none).upd Y2 none).upd Xz none) i0 o) Zr p (n+k)=none:=fun o p k=>(Xe _ _ (by omega)).trans (Xb hU Ys _ (Nat.le_add_right _ _))
 show W _ _ _ _ ⟨24,[],[(0,.ref i0 0),(1,(vI a1)),(2,.agg (Zl a2))]⟩ (Yn ((((((O.upd Yt none).upd Y1 none).upd Y2 none).upd Xz none).upd i0 (some ⟨false,85,13,1,(Zj (.ref Zr 0) (.row n a0.left.Words.length) (.row (n+1) a0.left.Kids.length) (.row (n+2) a0.left.Ops.length) (.row (n+3) a0.come.length) a0)⟩)).upd Zr (some ⟨false,43,2,1,[(vB Yy.apart),(vB Yy.clash)]⟩)) n [some (oR 48 4 Zf a0.left.Words),some (oR 50 12 Ze a0.left.Kids),some (oR 41 14 Zh a0.left.Ops),some (oR 25 3 Za a0.come)]) _
 refine yJ [0,1,5] (Yv Yd [] ?_)
 simp only [push_cast,seval,Zc,Ys,Y4,Zk,Zm,Z4,Z5,Z6,Ye,hN]
 refine yJ [0,1,5,8] (Yv Yd [] ?_)
 simp only [push_cast,seval,Zc,Ys,Y4,Zk,Zm,Z4,Z5,Z6,Ye,hN]
 refine Yj (t:=(a2.Kind != 0)) rfl (fun c4 => ?_) (fun c4 => ?_)
 ·replace h:=Ym c4 h
  obtain ⟨l1,pl1,ql1,el1,h⟩:=bA (k:=1) rfl h
  obtain ⟨x2,hx2,ax2,bx2,cx2,h⟩:=bE (f:=Ze) aV (fun _=>rfl) (by decide) h
  have gu3:Vb (fl Ze a0.left.Kids++[.val (.int .i64 0),.val (.int .i64 0),.val (.int .i64 0),.val (.slice none 0 0),.val (.slice none 0 0),.val (.int .i64 0),.val (.slice none 0 0),.val (.slice none 0 0),.val (.slice none 0 0),.val (.slice none 0 0),.val (.int .i64 0),.val (.slice none 0 0)]) [.val (.int .i64 a1),.val (.int .i64 a2.Kind),.val (.int .i64 a2.Old.Kind),.sl a2.Old.Words.length (fl (eI .u64) a2.Old.Words),.sl a2.Old.Kids.length (fl Za a2.Old.Kids),.val (.int .i64 a2.New.Kind),.sl a2.New.Words.length (fl (eI .u64) a2.New.Words),.sl a2.New.Kids.length (fl Za a2.New.Kids),.sl a2.Words.length (fl Zf a2.Words),.sl a2.Kids.length (fl Ze a2.Kids),.val (.int .i64 a2.List_),.sl a2.Ops.length (fl Zh a2.Ops)] (List.length a0.left.Kids * 12)=some (fl Ze a0.left.Kids++[.val (.int .i64 a1),.val (.int .i64 a2.Kind),.val (.int .i64 a2.Old.Kind),.sl a2.Old.Words.length (fl (eI .u64) a2.Old.Words),.sl a2.Old.Kids.length (fl Za a2.Old.Kids),.val (.int .i64 a2.New.Kind),.sl a2.New.Words.length (fl (eI .u64) a2.New.Words),.sl a2.New.Kids.length (fl Za a2.New.Kids),.sl a2.Words.length (fl Zf a2.Words),.sl a2.Kids.length (fl Ze a2.Kids),.val (.int .i64 a2.List_),.sl a2.Ops.length (fl Zh a2.Ops)]):=U5 (f:=Ze) (sz:=12) (fun _=>rfl) rfl rfl
  refine V4 Yd (by kernel_rfl) [.plain,.low,.low,.low,.low,.plain,.low,.plain,.low,.pass,.bar,.shp,.fill true,.shp,.shp,.shp,.fill false] (fun i=>i < (n+5)) [0,1,2,3,4,5,6,7,8,9,10,11,12,13,14,15,16] [.plain,.low,.low,.low,.low,.plain,.low,.plain,.low,.pass,.bar,.shp,.fill true,.shp,.shp,.shp,.fill false] [] (by kernel_rfl) rfl ?_
  simp only [push_cast,seval,Zc,pl1,ql1,el1,ax2,bx2,cx2,gu3,Ys,Y4,Zk,Zm,Z4,Z5,Z6,Ye,hN]
  refine zO ?_
  obtain rfl:=sI h
  refine Kk (k:=4) (i:=i0) (j:=Zr) (q1:=⟨false,85,13,1,(Zj (.ref Zr 0) (.row n a0.left.Words.length) (.row (n+1) (a0.left.Kids++[(⟨a1,a2⟩:Zq)]).length) (.row (n+2) a0.left.Ops.length) (.row (n+3) a0.come.length) a0)⟩) (p1:=⟨false,43,2,1,[(vB Yy.apart),(vB Yy.clash)]⟩) (L3:=[some (oR 48 4 Zf a0.left.Words),some (oR 50 12 Ze (a0.left.Kids++[(⟨a1,a2⟩:Zq)])),some (oR 41 14 Zh a0.left.Ops),some (oR 25 3 Za a0.come),none]) (E2:=(⟨24,[],[]⟩:Env)) (n3:=(n+5)) (.inl rfl) hU rfl [] ?_ ?_
  ·refine fr2 (k:=6) (k':=5) hU [0,1,2,3,4,4] [0,1,2,3,0] (zM2 Ys Zk) ?_ ?_
   ·simp only [push_cast,seval,Zc,pl1,ql1,el1,ax2,bx2,cx2,gu3,Ys,Y4,Zk,Zm,Z4,Z5,Z6,Ye,hN]
   simp only [push_cast,seval,Zc,Ys,Y4,Zk,Zm,Z4,Z5,Z6,Ye,hN]
  simp only [push_cast,seval,Zc,Try.results63,Ys,Y4,Zk,Zm,Z4,Z5,Z6,Ye,hN]
 replace h:=Yl c4 h
 refine zK ?_
 obtain rfl:=sI h
 refine Kk (k:=4) (i:=i0) (j:=Zr) (q1:=⟨false,85,13,1,(Zj (.ref Zr 0) (.row n a0.left.Words.length) (.row (n+1) a0.left.Kids.length) (.row (n+2) a0.left.Ops.length) (.row (n+3) a0.come.length) a0)⟩) (p1:=⟨false,43,2,1,[(vB Yy.apart),(vB Yy.clash)]⟩) (L3:=[some (oR 48 4 Zf a0.left.Words),some (oR 50 12 Ze a0.left.Kids),some (oR 41 14 Zh a0.left.Ops),some (oR 25 3 Za a0.come),none]) (E2:=(⟨24,[],[]⟩:Env)) (n3:=(n+5)) (.inl rfl) hU rfl [] ?_ ?_
 ·refine fr2 (k:=5) (k':=5) hU [0,1,2,3,4] [0,1,2,3,0] (zM2 Ys Zk) ?_ ?_
  ·simp only [push_cast,seval,Zc,Ys,Y4,Zk,Zm,Z4,Z5,Z6,Ye,hN]
  simp only [push_cast,seval,Zc,Ys,Y4,Zk,Zm,Z4,Z5,Z6,Ye,hN]
 simp only [push_cast,seval,Zc,Try.results63,Ys,Y4,Zk,Zm,Z4,Z5,Z6,Ye,hN]
theorem cP {a0:Zi} {a1:Int} {a2:Zd} {Yy:Zg} {r:(Zi×Zg)} {O:Objs} {n:Nat} {i0 Yt Y1 Y2 Xz Zr:Nat} (Ys:i0 < n) (Jr:Yt < n) (Vn:Y1 < n) (V6:Y2 < n) (qG:Xz < n) (X4:i0≠Yt) (Qh:i0≠Y1) (Qs:i0≠Y2) (U0:i0≠Xz) (Qg:Yt≠Y1) (Qq:Yt≠Y2) (Ux:Yt≠Xz) (Qr:Y1≠Y2) (Uy:Y1≠Xz) (Uz:Y2≠Xz) (Zk:Zr < n) (Qa:Zr≠Yt) (Qb:Zr≠Y1) (Qc:Zr≠Y2) (Je:Zr≠Xz) (Yz:i0≠Zr) (uC:O i0=some ⟨false,85,13,1,(Zj (.ref Zr 0) (.row Yt a0.left.Words.length) (.row Y1 a0.left.Kids.length) (.row Y2 a0.left.Ops.length) (.row Xz a0.come.length) a0)⟩) (J7:O Yt=some (oR 48 4 Zf a0.left.Words)) (U1:O Y1=some (oR 50 12 Ze a0.left.Kids)) (Gj:O Y2=some (oR 41 14 Zh a0.left.Ops)) (aC:O Xz=some (oR 25 3 Za a0.come)) (Ks:O Zr=some ⟨false,43,2,1,[(vB Yy.apart),(vB Yy.clash)]⟩) (h:cX a0 a1 a2 Yy=some r):GTo Try.prog 63 [.ref i0 0,(vI a1),.agg (Zl a2)] O n (.tup []) (Yn ((((((O.upd Yt none).upd Y1 none).upd Y2 none).upd Xz none).upd i0 (some ⟨false,85,13,1,(Zj (.ref Zr 0) (.row n r.1.left.Words.length) (.row (n+1) r.1.left.Kids.length) (.row (n+2) r.1.left.Ops.length) (.row (n+3) r.1.come.length) r.1)⟩)).upd Zr (some ⟨false,43,2,1,[(vB r.2.apart),(vB r.2.clash)]⟩)) n [some (oR 48 4 Zf r.1.left.Words),some (oR 50 12 Ze r.1.left.Kids),some (oR 41 14 Zh r.1.left.Ops),some (oR 25 3 Za r.1.come)]) (n+4):=by
 unfold cX at h
 refine vX Yd Try.call63 Try.func63 rfl (Nat.le_of_ble_eq_true rfl) (by omega) fun hU => ?_
 rw [show Yn O n []=Yn ((O.upd i0 (some ⟨false,85,13,1,(Zj (.ref Zr 0) (.row Yt a0.left.Words.length) (.row Y1 a0.left.Kids.length) (.row Y2 a0.left.Ops.length) (.row Xz a0.come.length) a0)⟩)).upd Zr (some ⟨false,43,2,1,[(vB Yy.apart),(vB Yy.clash)]⟩)) n [] from by rw [Qw uC,Qw Ks]]
 refine Xi (Y0 (k:=8) (by rw [Yb _ Ys];simp only [Yo,Zn Yz] <;> rfl) (by rfl) (by rw [Yb _ Jr];simp only [Zn (Ne.symm X4),Zn (Ne.symm Qa)];exact J7) X4 (by simp only [push_cast,Nat.reduceAdd,Z8 _ _ Jr,Z8 _ _ Ys,Z3 (Ne.symm X4),Z3 (Ne.symm Qa),Z3 Yz] <;> rfl) (by omega)) ?_
 refine Xi (Y0 (k:=9) (by rw [Yb _ Ys];simp only [Yo,Zn Yz] <;> rfl) (by rfl) (by rw [Yb _ Vn];simp only [Zn (Ne.symm Qh),Zn (Ne.symm Qb),Zn (Ne.symm Qg)];exact U1) Qh (by simp only [push_cast,Nat.reduceAdd,Z8 _ _ Vn,Z8 _ _ Ys,Z3 (Ne.symm Qh),Z3 (Ne.symm Qb),Z3 Yz] <;> rfl) (by omega)) ?_
 refine Xi (Y0 (k:=11) (by rw [Yb _ Ys];simp only [Yo,Zn Yz] <;> rfl) (by rfl) (by rw [Yb _ V6];simp only [Zn (Ne.symm Qs),Zn (Ne.symm Qc),Zn (Ne.symm Qq),Zn (Ne.symm Qr)];exact Gj) Qs (by simp only [push_cast,Nat.reduceAdd,Z8 _ _ V6,Z8 _ _ Ys,Z3 (Ne.symm Qs),Z3 (Ne.symm Qc),Z3 Yz] <;> rfl) (by omega)) ?_
 refine Xi (Y0 (k:=12) (by rw [Yb _ Ys];simp only [Yo,Zn Yz] <;> rfl) (by rfl) (by rw [Yb _ qG];simp only [Zn (Ne.symm U0),Zn (Ne.symm Je),Zn (Ne.symm Ux),Zn (Ne.symm Uy),Zn (Ne.symm Uz)];exact aC) U0 (by simp only [push_cast,Nat.reduceAdd,Z8 _ _ qG,Z8 _ _ Ys,Z3 (Ne.symm U0),Z3 (Ne.symm Je),Z3 Yz] <;> rfl) (by omega)) ?_
 have hU:=(Und.drop (Und.drop (Und.drop (Und.drop hU Yt) Y1) Y2) Xz)
 have Z4:=fun X=>@Zn X _ _ Yz
 have Z5:=fun X=>@Zn X _ _ (Ne.symm Yz)
 have Z6:=fun X b c=>@Z3 X _ _ b c Yz
 have Y4:∀ k,i0 < n+k:=fun k=>by omega
 have Zm:∀ k,Zr < n+k:=fun k=>by omega
 have Ye:∀ o p,Objs.upd (Objs.upd ((((O.upd Yt none).upd Y1 none).upd Y2 none).upd Xz none) i0 o) Zr p n=none:=fun o p=>(Xe _ _ (by omega)).trans (Xb hU Ys _ (Nat.le_refl _))
 have hN:∀ o p k,Objs.upd (Objs.upd ((((O.upd Yt none).upd Y1 none).upd Y2 none).upd Xz none) i0 o) Zr p (n+k)=none:=fun o p k=>(Xe _ _ (by omega)).trans (Xb hU Ys _ (Nat.le_add_right _ _))
 show W _ _ _ _ ⟨24,[],[(0,.ref i0 0),(1,(vI a1)),(2,.agg (Zl a2))]⟩ (Yn ((((((O.upd Yt none).upd Y1 none).upd Y2 none).upd Xz none).upd i0 (some ⟨false,85,13,1,(Zj (.ref Zr 0) (.row n a0.left.Words.length) (.row (n+1) a0.left.Kids.length) (.row (n+2) a0.left.Ops.length) (.row (n+3) a0.come.length) a0)⟩)).upd Zr (some ⟨false,43,2,1,[(vB Yy.apart),(vB Yy.clash)]⟩)) n [some (oR 48 4 Zf a0.left.Words),some (oR 50 12 Ze a0.left.Kids),some (oR 41 14 Zh a0.left.Ops),some (oR 25 3 Za a0.come)]) _
 refine yJ [0,1,5] (Yv Yd [] ?_)
 simp only [push_cast,seval,Zc,Ys,Y4,Zk,Zm,Z4,Z5,Z6,Ye,hN]
 refine yJ [0,1,5,8] (Yv Yd [] ?_)
 simp only [push_cast,seval,Zc,Ys,Y4,Zk,Zm,Z4,Z5,Z6,Ye,hN]
 refine Yj (t:=(a2.Kind != 0)) rfl (fun c4 => ?_) (fun c4 => ?_)
 ·replace h:=Ym c4 h
  obtain ⟨l1,pl1,ql1,el1,h⟩:=bA (k:=1) rfl h
  obtain ⟨x2,hx2,ax2,bx2,cx2,h⟩:=bE (f:=Ze) aV (fun _=>rfl) (by decide) h
  have gu3:Vb (fl Ze a0.left.Kids++[.val (.int .i64 0),.val (.int .i64 0),.val (.int .i64 0),.val (.slice none 0 0),.val (.slice none 0 0),.val (.int .i64 0),.val (.slice none 0 0),.val (.slice none 0 0),.val (.slice none 0 0),.val (.slice none 0 0),.val (.int .i64 0),.val (.slice none 0 0)]) [.val (.int .i64 a1),.val (.int .i64 a2.Kind),.val (.int .i64 a2.Old.Kind),.sl a2.Old.Words.length (fl (eI .u64) a2.Old.Words),.sl a2.Old.Kids.length (fl Za a2.Old.Kids),.val (.int .i64 a2.New.Kind),.sl a2.New.Words.length (fl (eI .u64) a2.New.Words),.sl a2.New.Kids.length (fl Za a2.New.Kids),.sl a2.Words.length (fl Zf a2.Words),.sl a2.Kids.length (fl Ze a2.Kids),.val (.int .i64 a2.List_),.sl a2.Ops.length (fl Zh a2.Ops)] (List.length a0.left.Kids * 12)=some (fl Ze a0.left.Kids++[.val (.int .i64 a1),.val (.int .i64 a2.Kind),.val (.int .i64 a2.Old.Kind),.sl a2.Old.Words.length (fl (eI .u64) a2.Old.Words),.sl a2.Old.Kids.length (fl Za a2.Old.Kids),.val (.int .i64 a2.New.Kind),.sl a2.New.Words.length (fl (eI .u64) a2.New.Words),.sl a2.New.Kids.length (fl Za a2.New.Kids),.sl a2.Words.length (fl Zf a2.Words),.sl a2.Kids.length (fl Ze a2.Kids),.val (.int .i64 a2.List_),.sl a2.Ops.length (fl Zh a2.Ops)]):=U5 (f:=Ze) (sz:=12) (fun _=>rfl) rfl rfl
  refine V4 Yd (by kernel_rfl) [.plain,.low,.low,.low,.low,.plain,.low,.plain,.low,.pass,.bar,.shp,.fill true,.shp,.shp,.shp,.fill false] (fun i=>i < (n+5)) [0,1,2,3,4,5,6,7,8,9,10,11,12,13,14,15,16] [.plain,.low,.low,.low,.low,.plain,.low,.plain,.low,.pass,.bar,.shp,.fill true,.shp,.shp,.shp,.fill false] [] (by kernel_rfl) rfl ?_
  simp only [push_cast,seval,Zc,pl1,ql1,el1,ax2,bx2,cx2,gu3,Ys,Y4,Zk,Zm,Z4,Z5,Z6,Ye,hN]
  refine zO ?_
  obtain rfl:=sI h
  refine Kk (k:=4) (i:=i0) (j:=Zr) (q1:=⟨false,85,13,1,(Zj (.ref Zr 0) (.row n a0.left.Words.length) (.row (n+1) (a0.left.Kids++[(⟨a1,a2⟩:Zq)]).length) (.row (n+2) a0.left.Ops.length) (.row (n+3) a0.come.length) a0)⟩) (p1:=⟨false,43,2,1,[(vB Yy.apart),(vB Yy.clash)]⟩) (L3:=[some (oR 48 4 Zf a0.left.Words),some (oR 50 12 Ze (a0.left.Kids++[(⟨a1,a2⟩:Zq)])),some (oR 41 14 Zh a0.left.Ops),some (oR 25 3 Za a0.come),none]) (E2:=(⟨24,[],[]⟩:Env)) (n3:=(n+5)) (.inl rfl) hU rfl [] ?_ ?_
  ·refine fr2 (k:=6) (k':=5) hU [0,1,2,3,4,4] [0,1,2,3,0] (zM2 Ys Zk) ?_ ?_
   ·simp only [push_cast,seval,Zc,pl1,ql1,el1,ax2,bx2,cx2,gu3,Ys,Y4,Zk,Zm,Z4,Z5,Z6,Ye,hN]
   simp only [push_cast,seval,Zc,Ys,Y4,Zk,Zm,Z4,Z5,Z6,Ye,hN]
  simp only [push_cast,seval,Zc,Try.results63,Ys,Y4,Zk,Zm,Z4,Z5,Z6,Ye,hN]
 replace h:=Yl c4 h
 refine zK ?_
 obtain rfl:=sI h
 refine Kk (k:=4) (i:=i0) (j:=Zr) (q1:=⟨false,85,13,1,(Zj (.ref Zr 0) (.row n a0.left.Words.length) (.row (n+1) a0.left.Kids.length) (.row (n+2) a0.left.Ops.length) (.row (n+3) a0.come.length) a0)⟩) (p1:=⟨false,43,2,1,[(vB Yy.apart),(vB Yy.clash)]⟩) (L3:=[some (oR 48 4 Zf a0.left.Words),some (oR 50 12 Ze a0.left.Kids),some (oR 41 14 Zh a0.left.Ops),some (oR 25 3 Za a0.come),none]) (E2:=(⟨24,[],[]⟩:Env)) (n3:=(n+5)) (.inl rfl) hU rfl [] ?_ ?_
 ·refine fr2 (k:=5) (k':=5) hU [0,1,2,3,4] [0,1,2,3,0] (zM2 Ys Zk) ?_ ?_
  ·simp only [push_cast,seval,Zc,Ys,Y4,Zk,Zm,Z4,Z5,Z6,Ye,hN]
  simp only [push_cast,seval,Zc,Ys,Y4,Zk,Zm,Z4,Z5,Z6,Ye,hN]
 simp only [push_cast,seval,Zc,Try.results63,Ys,Y4,Zk,Zm,Z4,Z5,Z6,Ye,hN]
theorem Zax {a0:Zo} {r:Bool} {O:Objs} {n:Nat} (h:fY a0=some r):GTo Try.prog 64 [.agg (Xk a0)] O n ((vB r)) O n:=by
 unfold fY at h
 refine uH Try.call64 Try.func64 fun hU Ye hN => ?_
 show W _ _ _ _ ⟨6,[],[(0,.agg (Xk a0))]⟩ (Yn O n []) _
 refine zQ [1] ?_
 refine zQ [2] ?_
 exact Jo [(vB (a0.Kind != 0))]
theorem wA {a0:(List Zo)} {r:Int} {O:Objs} {n:Nat} (h:Qt a0=some r):GTo Try.prog 74 [(sL Zh a0),.fn 64 0 []] O n ((vI r)) O n:=by
 unfold Qt at h
 refine uH Try.call74 Try.func74 fun hU Ye hN => ?_
 show W _ _ _ _ ⟨19,[],[(0,(sL Zh a0)),(1,.fn 64 0 [])]⟩ (Yn O n []) _
 refine zQ [0,1] ?_
 refine Z7 ?_
 refine zQd [0,1,7,8] [0,1,7,8] [] ?_
 obtain ⟨z7,hz7,h⟩:=bC h
 refine gV (J:=(Kh (fun z7=>JR n (⟨19,[],[(4,(vI z7))]⟩:Env) (Yn O n []) n) (fun z7=>JX 0 n (⟨19,[],[]⟩:Env) (Yn O n []) n))) (z:=z7) ?_ fun hw => ?_
 ·refine Qy hz7 (fun Yf=>⟨19,[],[(0,(sL Zh a0)),(1,.fn 64 0 []),(7,(vI (a0.length:Int))),(8,(vI Yf))]⟩) (fun Yf=>(Yn O n [])) (Kh (fun z7=>JR n (⟨19,[],[(4,(vI z7))]⟩:Env) (Yn O n []) n) (fun z7=>JX 0 n (⟨19,[],[]⟩:Env) (Yn O n []) n)) ?_
  intro Yf x0_ Zu
  unfold Xq at Zu
  try dsimp only
  refine zQ [0,1,7,8,9] ?_
  refine Z7 ?_
  refine Yj (t:=(decide (Yf < (a0.length:Int)))) rfl (fun c6 => ?_) (fun c6 => ?_)
  ·replace Zu:=Ym c6 Zu
   refine uZ [0,1,7,8] [] ?_
   refine Z7 ?_
   refine Xt ?_
   refine zQ [0,1,5,7,8] ?_
   refine Z7 ?_
   obtain ⟨x3,hx3,ax3,bx3,cx3,Zu⟩:=bE (f:=Zh) rJ (fun _=>rfl) (by decide) Zu
   obtain ⟨y4,hy4,Zu⟩:=bC Zu
   refine dM [] ax3 bx3 cx3 ?_
   refine (Zax hy4).then ?_
   refine zF3 ax3 bx3 cx3 ?_
   refine zD [0,1,5,7,8,16] [] ?_
   refine Yj (t:=y4) rfl (fun c5 => ?_) (fun c5 => ?_)
   ·replace Zu:=Ym c5 Zu
    refine zQ [4] ?_
    refine zW ?_
    exact zEy Zu
   replace Zu:=Yl c5 Zu
   refine uZ [0,1,7,8] [] ?_
   refine zR ?_
   exact cM Zu
  replace Zu:=Yl c6 Zu
  exact zEx Zu
 rcases z7 with z7 | z7
 ·dsimp only [Kh] at hw h
  refine Uq hw ?_
  try simp only [Qj,Xr,↓reduceIte,Nat.reduceEqDiff]
  exact jO [(vI z7)]
 dsimp only [Kh] at hw h
 refine X7 hw ?_
 try simp only [Qj,Xr,↓reduceIte,Nat.reduceEqDiff]
 refine zD [] [] ?_
 refine zQ [4] ?_
 exact Jo [(vI (-1))]
theorem fG {a0:(List Zo)} {r:Bool} {O:Objs} {n:Nat} (h:Y9 a0=some r):GTo Try.prog 65 [(sL Zh a0),.fn 64 0 []] O n ((vB r)) O n:=by
 unfold Y9 at h
 refine uH Try.call65 Try.func65 fun hU Ye hN => ?_
 show W _ _ _ _ ⟨9,[],[(0,(sL Zh a0)),(1,.fn 64 0 [])]⟩ (Yn O n []) _
 refine zQ [0,1] ?_
 refine Z7 ?_
 obtain ⟨y2,kE,h⟩:=bC h
 refine zCd (wA kE) [4] [] ?_
 exact Jo [(vB (decide (0≤y2)))]
theorem fV {a0:Zi} {Yy:Zg} {r:(Zd×Zi×Zg)} {O:Objs} {n:Nat} {i0 Zr:Nat} (Ys:i0 < n) (Zk:Zr < n) (Yz:i0≠Zr) (uC:O i0=some ⟨false,85,13,1,(Zj (.ref Zr 0) ((sL Zf a0.left.Words)) ((sL Ze a0.left.Kids)) ((sL Zh a0.left.Ops)) ((sL Za a0.come)) a0)⟩) (Ks:O Zr=some ⟨false,43,2,1,[(vB Yy.apart),(vB Yy.clash)]⟩) (h:Jg a0 Yy=some r):GTo Try.prog 44 [.ref i0 0] O n (.agg (Zl r.1)) (Yn ((O.upd i0 (some ⟨false,85,13,1,(Zj (.ref Zr 0) ((sL Zf r.2.1.left.Words)) ((sL Ze r.2.1.left.Kids)) ((sL Zh r.2.1.left.Ops)) ((sL Za r.2.1.come)) r.2.1)⟩)).upd Zr (some ⟨false,43,2,1,[(vB r.2.2.apart),(vB r.2.2.clash)]⟩)) n []) (n+0):=by
 unfold Jg at h
 refine vX Yd Try.call44 Try.func44 rfl (Nat.le_of_ble_eq_true rfl) (by omega) fun hU => ?_
 rw [show Yn O n []=Yn ((O.upd i0 (some ⟨false,85,13,1,(Zj (.ref Zr 0) ((sL Zf a0.left.Words)) ((sL Ze a0.left.Kids)) ((sL Zh a0.left.Ops)) ((sL Za a0.come)) a0)⟩)).upd Zr (some ⟨false,43,2,1,[(vB Yy.apart),(vB Yy.clash)]⟩)) n [] from by rw [Qw uC,Qw Ks]]
 have Z4:=fun X=>@Zn X _ _ Yz
 have Z5:=fun X=>@Zn X _ _ (Ne.symm Yz)
 have Z6:=fun X b c=>@Z3 X _ _ b c Yz
 have Y4:∀ k,i0 < n+k:=fun k=>by omega
 have Zm:∀ k,Zr < n+k:=fun k=>by omega
 have Ye:∀ o p,Objs.upd (Objs.upd O i0 o) Zr p n=none:=fun o p=>(Xe _ _ (by omega)).trans (Xb hU Ys _ (Nat.le_refl _))
 have hN:∀ o p k,Objs.upd (Objs.upd O i0 o) Zr p (n+k)=none:=fun o p k=>(Xe _ _ (by omega)).trans (Xb hU Ys _ (Nat.le_add_right _ _))
 show W _ _ _ _ ⟨33,[],[(0,.ref i0 0)]⟩ (Yn ((O.upd i0 (some ⟨false,85,13,1,(Zj (.ref Zr 0) ((sL Zf a0.left.Words)) ((sL Ze a0.left.Kids)) ((sL Zh a0.left.Ops)) ((sL Za a0.come)) a0)⟩)).upd Zr (some ⟨false,43,2,1,[(vB Yy.apart),(vB Yy.clash)]⟩)) n []) _
 refine yJ [0,2] (Yv Yd [] ?_)
 simp only [push_cast,seval,Zc,Ys,Y4,Zk,Zm,Z4,Z5,Z6,Ye,hN]
 refine yJ [0,2,3] (Yv Yd [] ?_)
 simp only [push_cast,seval,Zc,Ys,Y4,Zk,Zm,Z4,Z5,Z6,Ye,hN]
 refine Z7 ?_
 obtain ⟨z2,wD,h⟩:=bC h
 refine Qf (E':=⟨33,[],[(0,.ref i0 0),(2,.ref n 0),(27,(vB z2))]⟩) (O':=(Yn ((O.upd i0 (some ⟨false,85,13,1,(Zj (.ref Zr 0) ((sL Zf a0.left.Words)) ((sL Ze a0.left.Kids)) ((sL Zh a0.left.Ops)) ((sL Za a0.come)) a0)⟩)).upd Zr (some ⟨false,43,2,1,[(vB Yy.apart),(vB Yy.clash)]⟩)) n [some ⟨false,30,11,1,[(vI 0),(vI 0),nV,nV,(vI 0),nV,nV,nV,nV,(vI 0),nV]⟩])) (n0:=(n+1)) ?_ ?_
 ·rcases Bool.eq_false_or_eq_true ((IntKind.i64.wrap ((a0.left.Words.length:Int)+(a0.left.Kids.length:Int))) == 0) with c5 | c5
  ·replace wD:=Ym c5 wD
   obtain ⟨y4,hy4,wD⟩:=bC wD
   refine Jh Yd (by kernel_rfl) (Yav []) (by kernel_rfl) ?_
   simp only [push_cast,seval,Zc,c5,Ys,Y4,Zk,Zm,Z4,Z5,Z6,Ye,hN]
   refine PCall.of (fG hy4) ?_
   simp only [push_cast,seval,Zc,c5,Ys,Y4,Zk,Zm,Z4,Z5,Z6,Ye,hN]
   obtain rfl:=sI wD
   refine And.intro rfl (Fit2.of (bK hU rfl rfl ?_) (by omega))
   simp only [push_cast,seval,Zc,c5,Ys,Y4,Zk,Zm,Z4,Z5,Z6,Ye,hN]
  replace wD:=Yl c5 wD
  refine Jh Yd (by kernel_rfl) (Yan []) (by kernel_rfl) ?_
  simp only [push_cast,seval,Zc,c5,Ys,Y4,Zk,Zm,Z4,Z5,Z6,Ye,hN]
  obtain rfl:=sI wD
  refine And.intro rfl (Fit2.of (bK hU rfl rfl ?_) (by omega))
  simp only [push_cast,seval,Zc,c5,Ys,Y4,Zk,Zm,Z4,Z5,Z6,Ye,hN]
 refine Yj (t:=z2) rfl (fun c6 => ?_) (fun c6 => ?_)
 ·replace h:=Ym c6 h
  refine Z7 ?_
  refine Yv Yd [] ?_
  simp only [push_cast,seval,Zc,Ys,Y4,Zk,Zm,Z4,Z5,Z6,Ye,hN]
  refine zD [2] [true] ?_
  refine zW ?_
  obtain rfl:=sI h
  refine Kk (k:=0) (i:=i0) (j:=Zr) (q1:=⟨false,85,13,1,(Zj (.ref Zr 0) ((sL Zf a0.left.Words)) ((sL Ze a0.left.Kids)) ((sL Zh a0.left.Ops)) ((sL Za a0.come)) a0)⟩) (p1:=⟨false,43,2,1,[(vB Yy.apart),(vB Yy.clash)]⟩) (L3:=[some ⟨false,30,11,1,[(vI 0),(vI 0),nV,nV,(vI 0),nV,nV,nV,nV,(vI 0),nV]⟩,none]) (E2:=(⟨33,[],[(2,.ref n 0)]⟩:Env)) (n3:=(n+2)) (.inr rfl) hU rfl [.agg [(vI 0),(vI 0),nV,nV,(vI 0),nV,nV,nV,nV,(vI 0),nV]] ?_ ?_
  ·refine fr2 (k:=1) (k':=2) hU [0] [0,0] (zM2 Ys Zk) ?_ ?_
   ·simp only [push_cast,seval,Zc,Ys,Y4,Zk,Zm,Z4,Z5,Z6,Ye,hN]
   simp only [push_cast,seval,Zc,Ys,Y4,Zk,Zm,Z4,Z5,Z6,Ye,hN]
  simp only [push_cast,seval,Zc,Try.results44,Ys,Y4,Zk,Zm,Z4,Z5,Z6,Ye,hN]
 replace h:=Yl c6 h
 refine uZ [0,2] [true] ?_
 refine Z7 ?_
 refine Yv Yd [] ?_
 simp only [push_cast,seval,Zc,Ys,Y4,Zk,Zm,Z4,Z5,Z6,Ye,hN]
 refine zD [2] [true] ?_
 refine zW ?_
 obtain rfl:=sI h
 refine Kk (k:=0) (i:=i0) (j:=Zr) (q1:=⟨false,85,13,1,(Zj (.ref Zr 0) ((sL Zf a0.left.Words)) ((sL Ze a0.left.Kids)) ((sL Zh a0.left.Ops)) ((sL Za a0.come)) a0)⟩) (p1:=⟨false,43,2,1,[(vB Yy.apart),(vB Yy.clash)]⟩) (L3:=[some ⟨false,30,11,1,(Zl a0.left)⟩,none]) (E2:=(⟨33,[],[(2,.ref n 0)]⟩:Env)) (n3:=(n+2)) (.inr rfl) hU rfl [.agg (Zl a0.left)] ?_ ?_
 ·refine fr2 (k:=1) (k':=2) hU [0] [0,0] (zM2 Ys Zk) ?_ ?_
  ·simp only [push_cast,seval,Zc,Ys,Y4,Zk,Zm,Z4,Z5,Z6,Ye,hN]
  simp only [push_cast,seval,Zc,Ys,Y4,Zk,Zm,Z4,Z5,Z6,Ye,hN]
 simp only [push_cast,seval,Zc,Try.results44,Ys,Y4,Zk,Zm,Z4,Z5,Z6,Ye,hN]
theorem Znn {a0:Zo} {r:Int} {O:Objs} {n:Nat} (h:iD a0=some r):GTo Try.prog 88 [.agg (Xk a0)] O n ((vI r)) O n:=by
 unfold iD at h
 refine uH Try.call88 Try.func88 fun hU Ye hN => ?_
 show W _ _ _ _ ⟨15,[],[(0,.agg (Xk a0))]⟩ (Yn O n []) _
 refine zQ [1] ?_
 refine Z7 ?_
 refine zQ [1,4] ?_
 refine Xt ?_
 refine zQ [1,4,5] ?_
 refine Yj (t:=(a0.Kind == 0)) rfl (fun c4 => ?_) (fun c4 => ?_)
 ·replace h:=Ym c4 h
  refine zQ [2] ?_
  exact Jo [(vI a0.N)]
 replace h:=Yl c4 h
 obtain ⟨z1,Jx,h⟩:=bC h
 refine Qf (E':=⟨15,[],[(1,.ref n 0),(9,(vB z1))]⟩) (O':=(Yn O n [some ⟨false,41,14,1,(Xk a0)⟩])) (n0:=(n+1)) ?_ ?_
 ·refine zQ [1,4,9] ?_
  refine Yj (t:=(a0.Kind == 1)) rfl (fun c2 => ?_) (fun c2 => ?_)
  ·replace Jx:=Ym c2 Jx
   refine zK ?_
   exact cM Jx
  replace Jx:=Yl c2 Jx
  refine zR ?_
  exact cM Jx
 refine Yj (t:=z1) rfl (fun c3 => ?_) (fun c3 => ?_)
 ·replace h:=Ym c3 h
  refine zQ [2] ?_
  exact Jo [(vI (a0.L.length:Int))]
 replace h:=Yl c3 h
 refine uZ [] [false] ?_
 refine zQ [2] ?_
 exact Jo [(vI 1)]
theorem hH {a0:Ji} {r:(Int×Int×Ji)} {O:Objs} {n:Nat} {i0:Nat} (Ys:i0 < n) (uC:O i0=some ⟨false,113,2,1,[(sL Zh a0.left),(vI a0.gone)]⟩) (h:K9 a0=some r):GTo Try.prog 75 [.ref i0 0] O n (.tup [(vI r.1),(vI r.2.1)]) (Yn (O.upd i0 (some ⟨false,113,2,1,[(sL Zh r.2.2.left),(vI r.2.2.gone)]⟩)) n []) (n+0):=by
 unfold K9 at h
 refine vX Yd Try.call75 Try.func75 rfl (Nat.le_of_ble_eq_true rfl) (by omega) fun hU => ?_
 rw [show Yn O n []=Yn (O.upd i0 (some ⟨false,113,2,1,[(sL Zh a0.left),(vI a0.gone)]⟩)) n [] from by rw [Qw (show O i0=_ from by exact uC)]]
 have Y4:∀ k,i0 < n+k:=fun k=>by omega
 have Ye:∀ o,Objs.upd O i0 o n=none:=fun o=>Xb hU Ys _ (Nat.le_refl _)
 have hN:∀ o k,Objs.upd O i0 o (n+k)=none:=fun o k=>Xb hU Ys _ (Nat.le_add_right _ _)
 show W _ _ _ _ ⟨44,[],[(0,.ref i0 0)]⟩ (Yn (O.upd i0 (some ⟨false,113,2,1,[(sL Zh a0.left),(vI a0.gone)]⟩)) n []) _
 refine fZ [0] Ys Y4 ?_
 refine Z7 ?_
 refine zD [0] [] ?_
 obtain ⟨eU,lE,h⟩:=bC h
 refine gV (J:=(Kh (fun eU=>JR n (⟨44,[],[(2,(vI eU.1)),(3,(vI eU.2.1))]⟩:Env) (Yn (O.upd i0 (some ⟨false,113,2,1,[(sL Zh eU.2.2.1),(vI eU.2.2.2)]⟩)) n []) n) (fun eU=>JX 0 n (⟨44,[],[]⟩:Env) (Yn (O.upd i0 (some ⟨false,113,2,1,[(sL Zh eU.1),(vI eU.2)]⟩)) n []) n))) (z:=eU) ?_ fun hw => ?_
 ·refine Qy lE (fun Yf=>⟨44,[],[(0,.ref i0 0)]⟩) (fun Yf=>(Yn (O.upd i0 (some ⟨false,113,2,1,[(sL Zh Yf.1),(vI Yf.2)]⟩)) n [])) (Kh (fun eU=>JR n (⟨44,[],[(2,(vI eU.1)),(3,(vI eU.2.1))]⟩:Env) (Yn (O.upd i0 (some ⟨false,113,2,1,[(sL Zh eU.2.2.1),(vI eU.2.2.2)]⟩)) n []) n) (fun eU=>JX 0 n (⟨44,[],[]⟩:Env) (Yn (O.upd i0 (some ⟨false,113,2,1,[(sL Zh eU.1),(vI eU.2)]⟩)) n []) n)) ?_
  intro Yf x0_ Zu
  unfold K3 at Zu
  try dsimp only
  refine Z7 ?_
  refine fZ [0,10] Ys Y4 ?_
  refine Yj (t:=(decide (0 < (Yf.1.length:Int)))) rfl (fun jF => ?_) (fun jF => ?_)
  ·replace Zu:=Ym jF Zu
   refine uZ [0] [] ?_
   refine Xt ?_
   refine Z7 ?_
   refine Z7 ?_
   obtain ⟨x3,hx3,ax3,bx3,cx3,Zu⟩:=bE (f:=Zh) rJ (fun _=>rfl) (by decide) Zu
   obtain ⟨y4,hy4,Zu⟩:=bC Zu
   refine Jh Yd (by kernel_rfl) [] (by kernel_rfl) ?_
   refine zF5 ax3 bx3 cx3 Ys Y4 ?_
   refine PCall.of (Znn hy4) ?_
   refine zF5 ax3 bx3 cx3 Ys Y4 ?_
   refine zD [0,4] [] ?_
   refine fZ [0,4,24] Ys Y4 ?_
   refine Yj (t:=(decide (0 < (IntKind.i64.wrap (y4 - Yf.2))))) rfl (fun iB => ?_) (fun iB => ?_)
   ·replace Zu:=Ym iB Zu
    obtain ⟨x7,hx7,ax7,bx7,cx7,Zu⟩:=bE (f:=Zh) rJ (fun _=>rfl) (by decide) Zu
    have g8:=V1 (f:=Zh) (sz:=14) wP (fun _=>rfl) (by decide) (by decide) hx7
    refine yJ [2,3] (Yv Yd [] ?_)
    refine zF6 ax7 bx7 cx7 g8 Ys Y4 ?_
    refine zW ?_
    obtain rfl:=sI Zu
    refine And.intro (fun h=>by cases h) (And.intro rfl (Fit2.of (Xy hU rfl rfl ?_) (by omega)))
    exact Qx Ys Y4
   replace Zu:=Yl iB Zu
   refine uZ [0] [] ?_
   obtain ⟨l9,al9,bl9,cl9,gl9,Zu⟩:=bS (lo:=(some (.i64,1))) (hi:=none) (f:=Zh) rfl rfl Zc6 rJ (fun _=>rfl) Zu
   refine Z16 [] al9 bl9 cl9 gl9 Ys Y4 ?_
   obtain rfl:=sI Zu
   refine And.intro rfl (Fit2.of (Xy hU rfl rfl ?_) (by omega))
   exact Ycx al9 bl9 cl9 gl9 Ys Y4
  replace Zu:=Yl jF Zu
  refine zXt ?_
  obtain rfl:=sI Zu
  refine And.intro (fun h=>by cases h) (And.intro rfl (Fit2.of (Xy hU rfl rfl ?_) (by omega)))
  exact Qx Ys Y4
 rcases eU with eU | eU
 ·dsimp only [Kh] at hw h
  refine Uq hw ?_
  try simp only [Qj,Xr,↓reduceIte,Nat.reduceEqDiff]
  obtain rfl:=sI h
  refine Jl (k:=0) (i:=i0) (q1:=⟨false,113,2,1,[(sL Zh eU.2.2.1),(vI eU.2.2.2)]⟩) (L3:=[none]) (E2:=(⟨44,[],[(2,(vI eU.1)),(3,(vI eU.2.1))]⟩:Env)) (n3:=(n+1)) (.inr rfl) hU rfl [(vI eU.1),(vI eU.2.1)] ?_ ?_
  ·refine uS (k:=0) (k':=1) hU [] [0] (lT Ys) ?_ ?_
   ·exact Qx Ys Y4
   exact Qx Ys Y4
  simp only [push_cast,seval,Zc,Try.results75,Ys,Y4,Ye,hN]
 dsimp only [Kh] at hw h
 refine X7 hw ?_
 try simp only [Qj,Xr,↓reduceIte,Nat.reduceEqDiff]
 refine zD [] [] ?_
 refine fZ [2,3] Ys Y4 ?_
 refine zW ?_
 obtain rfl:=sI h
 refine Jl (k:=0) (i:=i0) (q1:=⟨false,113,2,1,[(sL Zh eU.1),(vI eU.2)]⟩) (L3:=[none]) (E2:=(⟨44,[],[(2,(vI 0)),(3,(vI 0))]⟩:Env)) (n3:=(n+1)) (.inr rfl) hU rfl [(vI 0),(vI 0)] ?_ ?_
 ·refine uS (k:=0) (k':=1) hU [] [0] (lT Ys) ?_ ?_
  ·exact Qx Ys Y4
  exact Qx Ys Y4
 simp only [push_cast,seval,Zc,Try.results75,Ys,Y4,Ye,hN]
end Go.Proofs.Ytocpndlnbmjpmaa
