/- Part VM1 of this seat's mirrors: functions of the seat's program, and the plain functions that they are; each theorem bears its own conditions. -/
import Derived.Test.YtocpndlnbmjpmaaVD
namespace Go.Proofs.Ytocpndlnbmjpmaa
open Go.RowKit
set_option linter.unusedVariables false
set_option linter.unusedSimpArgs false
set_option maxRecDepth 100000
set_option maxHeartbeats 4000000
attribute [local push_cast] Try.results10 Try.results19 Try.results20 Try.results21 Try.results22 Try.results24 Try.results35 Try.results36 Try.results37 Try.results38 Try.results55 Try.results56 Try.results57 Try.results58 vI vB nV sL oR Zl zJ Xk Z9 Qi Qj Xr Ku uD fB Ze4 Zdo xW dO wW cO Zb0 Zbw bO Zbz Zby Zbx yW Zbv vP evS wok Uw Op.operands Call.operands gop atK List.all_cons List.all_nil Bool.true_and Bool.and_self Value.oneCell' List.take_zero List.take_succ_cons List.take_nil List.drop_zero List.drop_succ_cons List.drop_nil List.append_nil Nat.add_zero Nat.zero_add vJ Xw ev U2 Zkp Zer Zeq Zew Zeu Zev Zes Zet Zep Zhu Zi7 Zne yS qB sR zB tT cI kF pF fN aN nF eN dN bN mF zM lF oF yC Zar jN gU tR iU pO wS Zkr mG mT gF rB oO Zo6 vS Zah bF nK Zir Zpa qR uF Zpd pB Zq8 Zba Zbe Za9 Zbd Zfi Zfe Zfd yT Zbb Zfh Zfg Zff Zbc Ze9 Zfc Ze8 Zfb Zk1 Zky Zkx Zfa Zkz Zk0 xS gone pop TK.isAgg Zfw Zf0 Zfv Zfz Zbn Zlp Zll Zfy Zlo Zln Zlm Zfx Zlk G.under G.unders List.set_cons_zero List.set_cons_succ List.map_cons List.map_nil List.toList_toArray Array.toList_append Option.toArray_none Option.toArray_some Option.map_some Option.map_none Option.bind_some Option.bind_none List.getElem?_cons_zero List.getElem?_cons_succ List.getElem?_nil List.nil_append List.cons_append List.replicate_succ List.replicate_zero List.length_cons List.length_nil and_true true_and false_and Bool.true_eq_false Bool.false_eq_true forall_const implies_true IntKind.bits ite_true ite_false eq_self not_false_eq_true decide_eq_true_eq decide_eq_false_iff_not beq_iff_eq ne_eq beq_eq_false_iff_ne beq_self_eq_true bne_self_eq_false Option.some.injEq exists_eq_left' ge_iff_le gt_iff_lt Bool.not_true Bool.not_false imp_self cond_true cond_false Zyx Zyw Bool.and_false Bool.false_and Gx tX oZ jB Up Kg Option.join_some Nat.add_assoc Int.toNat_natCast eI eL Ya rM wF Ze2 Ze0 Ze1 Zrt Zug vM mH Zga Zf8 Zf9 Znr fM Zkk yK Za4 G.agg.injEq G.tup.injEq List.flatten_cons List.flatten_nil Nat.le_refl Bool.not_eq_true' Bool.not_eq_false' Zhi fO Zm7 Zm2 Zm6 Zth tW qC G.ren G.rens mR G.fn.injEq Z3x Zm3 Zk4 Zrg Option.join_none tJ undef Zaj Arr.len Arr.put_eq iP Zf7 Zf5 Zf6 onB Zrs Zip fW Zbr Zbq Zbp Zbo Zuf Zxw Znq Zlr G8 Znl Zdv Zpy Zgh tS Zag sF prT cC Z1j Zms wP Zmt Z1k Zmu Znu Zmv Z1l Zmw Z1m Zmx Z1n Zmy Z1o Zmz Zsf Zgj Zsg Zgk Zsh Zgl Zsi Zgm Zsj Zgn Zsk Zgo Zsl Zgp Zsm Zgq Zsn Zgr Zso Zgs Zsp Zgt Zsq Zc4 Zmq zA Zsr Zgu mY Zgv Zss Zc5 Zst jM Zsu Zc6 Zsv Zgw xP Zgx Zsw Zgy yP Zgz Zsx Zg0 rJ Zg1 Zsy Zg2 Zsz Zg3 Zs0 Zg4 oS Zg5 Zs1 Zg6 aV Zg7 Zs2 Zg8 Zs3 Zg9 Zs4 Zha Zs5 Zhb Zoo Zhc Zs6 Zhd Zs7 Zhe Zs8 Zhf Zs9 Zhg Zta Zhh Zmr Zc7 Zl9 Zb1 Zma Zb2 Zmb Zb3 Zmc Zb4 Zmd Zb5 Zme Zb6 Zmf Zb7 Zmg Zb8 Zmh Zb9 Zmi Zca Zmj Zcb Zmk Zcc Zml Zcd Zmm Zce Zmn Zcf Zmo Zcg Zmp Zch Za Jn bR vV Zf Jz Zh Ze Vk Jj nY sX pA Zyb Zxp Zxx Xm
def nC (Ky:(Zb→Int→Int→Option Int)):Prop:=∀ {a0:Zb} {a1:Int} {a2:Int} {r:Int} {O:Objs} {n:Nat},Ky a0 a1 a2=some r→GTo Try.prog 35 [.agg (Z9 a0),(vI a1),(vI a2)] O n ((vI r)) O n
theorem wO {Ky:(Zb→Int→Int→Option Int)} (iW:nC Ky) {a0:Zb} {a1:Int} {a2:Int} {r:Int} {O:Objs} {n:Nat} (h:Kw Ky a0 a1 a2=some r):GTo Try.prog 35 [.agg (Z9 a0),(vI a1),(vI a2)] O n ((vI r)) O n:=by
 unfold Kw at h
 refine uH Try.call35 Try.func35 fun hU Ye hN => ?_
 show W _ _ _ _ ⟨41,[],[(0,.agg (Z9 a0)),(1,(vI a1)),(2,(vI a2))]⟩ (Yn O n []) _
 refine zQ [1,2,3] ?_
 refine zQ [1,2,3] ?_
 refine Z7 ?_
 refine zQD [1,2,3,19] [none,none] ?_
 refine Yj (t:=(cond (a1 == 0) true (decide ((IntKind.i64.wrap ((IntKind.i64.wrap (a2 - 1)) - (a0.Words.length:Int))) < 0)))) rfl (fun c5 => ?_) (fun c5 => ?_)
 ·replace h:=Ym c5 h
  refine zQ [6] ?_
  exact Jo [(vI (-1))]
 replace h:=Yl c5 h
 refine uZ [1,2,3] [true] ?_
 refine Z7 ?_
 refine zQd [1,2,3,7] [1,2,3,7] [true] ?_
 obtain ⟨z4,hz4,h⟩:=bC h
 refine X7 (E':=⟨41,[],[(2,(vI z4))]⟩) (O':=(Yn O n [none])) (n0:=(n+1)) ?_ ?_
 ·refine Qy hz4 (fun Yf=>⟨41,[],[(1,(vI a1)),(2,(vI Yf.1)),(3,.ref n 0),(7,(vI Yf.2))]⟩) (fun Yf=>(Yn O n [some ⟨false,25,3,1,(Z9 a0)⟩])) (fun z4=>JX 0 n (⟨41,[],[(2,(vI z4))]⟩:Env) (Yn O n [none]) (n+1)) ?_
  intro Yf x0_ Zu
  unfold Ki at Zu
  try dsimp only
  refine Z7 ?_
  refine zQD [1,2,3,7,28] [none,none] ?_
  refine Yj (t:=(cond (decide (Yf.2 < (a0.Kids.length:Int))) (decide (0≤Yf.1)) false)) rfl (fun c3 => ?_) (fun c3 => ?_)
  ·replace Zu:=Ym c3 Zu
   refine uZ [1,2,3,7] [true] ?_
   refine Z7 ?_
   refine Xt ?_
   obtain ⟨x1,hx1,ax1,bx1,cx1,Zu⟩:=bE (f:=Za) mY (fun _=>rfl) (by decide) Zu
   obtain ⟨y2,kE,Zu⟩:=bC Zu
   refine dM [] ax1 bx1 cx1 ?_
   refine (iW kE).then ?_
   refine zF3 ax1 bx1 cx1 ?_
   refine zD [1,2,3,7] [true] ?_
   refine zR ?_
   exact cM Zu
  replace Zu:=Yl c3 Zu
  exact zEx Zu
 try simp only [Qj,Xr,↓reduceIte,Nat.reduceEqDiff]
 refine zD [2] [false] ?_
 refine zQ [6] ?_
 exact Jo [(vI z4)]
theorem aT:∀ k,(nC (Qd k)):=fun k=>by
 induction k with
 | zero=>exact @fun a0 a1 a2 r O n h=>(nomatch (show (none:Option _)=some _ from h))
 | succ k ih=>exact @fun a0 a1 a2 r O n h=>wO (ih)  h
theorem dG {a0:Zb} {a1:Int} {a2:Int} {r:Int} {O:Objs} {n:Nat} (h:U6 a0 a1 a2=some r):GTo Try.prog 35 [.agg (Z9 a0),(vI a1),(vI a2)] O n ((vI r)) O n:=by
 obtain ⟨k,hk⟩:=pV h
 exact (aT k)  hk
def fH (J4:(Zd→Int→Int→Option Int)):Prop:=∀ {a0:Zd} {a1:Int} {a2:Int} {r:Int} {O:Objs} {n:Nat},J4 a0 a1 a2=some r→GTo Try.prog 19 [.agg (Zl a0),(vI a1),(vI a2)] O n ((vI r)) O n
theorem Zde {J4:(Zd→Int→Int→Option Int)} (iH:fH J4) {a0:Zd} {a1:Int} {a2:Int} {r:Int} {O:Objs} {n:Nat} (h:V5 J4 a0 a1 a2=some r):GTo Try.prog 19 [.agg (Zl a0),(vI a1),(vI a2)] O n ((vI r)) O n:=by
 unfold V5 at h
 refine uH Try.call19 Try.func19 fun hU Ye hN => ?_
 show W _ _ _ _ ⟨107,[],[(0,.agg (Zl a0)),(1,(vI a1)),(2,(vI a2))]⟩ (Yn O n []) _
 refine zQ [1,2,3] ?_
 refine zQ [1,2,3] ?_
 refine Z7 ?_
 refine zQD [1,2,3,25] [none,none] ?_
 refine Yj (t:=(cond (a1 == 0) true (decide ((IntKind.i64.wrap ((IntKind.i64.wrap ((IntKind.i64.wrap (a2 - 1)) - (a0.Words.length:Int))) - (a0.Ops.length:Int))) < 0)))) rfl (fun fU => ?_) (fun fU => ?_)
 ·replace h:=Ym fU h
  refine zQ [6] ?_
  exact Jo [(vI (-1))]
 replace h:=Yl fU h
 refine uZ [1,2,3] [true] ?_
 refine Z7 ?_
 obtain ⟨y2,kE,h⟩:=bC h
 refine zCd (dG kE) [1,2,3] [true] ?_
 obtain ⟨z3,Gy,h⟩:=bC h
 refine Qf (E':=⟨107,[],[(1,(vI a1)),(2,(vI z3)),(3,.ref n 0)]⟩) (O':=(Yn O n [some ⟨false,30,11,1,(Zl a0)⟩])) (n0:=(n+1)) ?_ ?_
 ·refine zQ [1,2,3,31] ?_
  refine Yj (t:=(decide (0≤y2))) rfl (fun c5 => ?_) (fun c5 => ?_)
  ·replace Gy:=Ym c5 Gy
   obtain ⟨y4,hy4,Gy⟩:=bC Gy
   refine zC (dG hy4) ?_
   exact cM Gy
  replace Gy:=Yl c5 Gy
  refine zK ?_
  exact cM Gy
 refine Z7 ?_
 refine zQd [1,2,3,7] [1,2,3,7] [true] ?_
 obtain ⟨z10,Zng,h⟩:=bC h
 refine X7 (E':=⟨107,[],[(1,(vI a1)),(2,(vI z10)),(3,.ref n 0)]⟩) (O':=(Yn O n [some ⟨false,30,11,1,(Zl a0)⟩])) (n0:=(n+1)) ?_ ?_
 ·refine Qy Zng (fun Yf=>⟨107,[],[(1,(vI a1)),(2,(vI Yf.1)),(3,.ref n 0),(7,(vI Yf.2))]⟩) (fun Yf=>(Yn O n [some ⟨false,30,11,1,(Zl a0)⟩])) (fun z10=>JX 0 n (⟨107,[],[(1,(vI a1)),(2,(vI z10)),(3,.ref n 0)]⟩:Env) (Yn O n [some ⟨false,30,11,1,(Zl a0)⟩]) (n+1)) ?_
  intro Yf x0_ Zu
  unfold Vi at Zu
  try dsimp only
  refine Z7 ?_
  refine zQD [1,2,3,7,44] [none,none] ?_
  refine Yj (t:=(cond (decide (Yf.2 < (a0.Kids.length:Int))) (decide (0≤Yf.1)) false)) rfl (fun c9 => ?_) (fun c9 => ?_)
  ·replace Zu:=Ym c9 Zu
   refine uZ [1,2,3,7] [true] ?_
   refine Z7 ?_
   refine Xt ?_
   obtain ⟨x6,hx6,ax6,bx6,cx6,Zu⟩:=bE (f:=Ze) aV (fun _=>rfl) (by decide) Zu
   have g7:=iZ (f:=Ze) (off:=1) (sz:=12) xP (fun _=>rfl) (by decide) (by decide) hx6
   obtain ⟨y8,hy8,Zu⟩:=bC Zu
   refine Zor [] ax6 bx6 cx6 g7 ?_
   refine (iH hy8).then ?_
   refine zF4 ax6 bx6 cx6 g7 ?_
   refine zD [1,2,3,7] [true] ?_
   refine zR ?_
   exact cM Zu
  replace Zu:=Yl c9 Zu
  exact zEx Zu
 try simp only [Qj,Xr,↓reduceIte,Nat.reduceEqDiff]
 refine lO [1,2,3] [true] ?_
 refine zQd [1,2,3,8] [1,2,3,8] [true] ?_
 obtain ⟨z27,Ze5,h⟩:=bC h
 refine X7 (E':=⟨107,[],[(2,(vI z27))]⟩) (O':=(Yn O n [none])) (n0:=(n+1)) ?_ ?_
 ·refine Qy Ze5 (fun xK=>⟨107,[],[(1,(vI a1)),(2,(vI xK.1)),(3,.ref n 0),(8,(vI xK.2))]⟩) (fun xK=>(Yn O n [some ⟨false,30,11,1,(Zl a0)⟩])) (fun z27=>JX 2 n (⟨107,[],[(2,(vI z27))]⟩:Env) (Yn O n [none]) (n+1)) ?_
  intro xK x1_ Js
  unfold Vj at Js
  try dsimp only
  refine Z7 ?_
  refine zQD [1,2,3,8,65] [none,none] ?_
  refine Yj (t:=(cond (decide (xK.2 < (a0.Ops.length:Int))) (decide (0≤xK.1)) false)) rfl (fun oM => ?_) (fun oM => ?_)
  ·replace Js:=Ym oM Js
   refine uZ [1,2,3,8] [true] ?_
   obtain ⟨gO,Gt,Js⟩:=bC Js
   refine Qf (E':=⟨107,[],[(1,(vI a1)),(2,(vI gO)),(3,.ref n 0),(8,(vI xK.2))]⟩) (O':=(Yn O n [some ⟨false,30,11,1,(Zl a0)⟩])) (n0:=(n+1)) ?_ ?_
   ·refine Xt ?_
    refine Z7 ?_
    refine zQd [1,2,3,8,9] [1,2,3,8,9] [true] ?_
    obtain ⟨z21,vT,Gt⟩:=bC Gt
    refine X7 (E':=⟨107,[],[(1,(vI a1)),(2,(vI z21)),(3,.ref n 0),(8,(vI xK.2))]⟩) (O':=(Yn O n [some ⟨false,30,11,1,(Zl a0)⟩])) (n0:=(n+1)) ?_ ?_
    ·refine Qy vT (fun s2_=>⟨107,[],[(1,(vI a1)),(2,(vI s2_.1)),(3,.ref n 0),(8,(vI xK.2)),(9,(vI s2_.2))]⟩) (fun s2_=>(Yn O n [some ⟨false,30,11,1,(Zl a0)⟩])) (fun z21=>JX 4 n (⟨107,[],[(1,(vI a1)),(2,(vI z21)),(3,.ref n 0),(8,(vI xK.2))]⟩:Env) (Yn O n [some ⟨false,30,11,1,(Zl a0)⟩]) (n+1)) ?_
     intro s2_ x2_ iX
     unfold xZ at iX
     try dsimp only
     refine Z7 ?_
     obtain ⟨yH,Z6j,Ztr,Zts,Ztu,iX⟩:=bE (f:=Zh) rJ (fun _=>rfl) (by decide) iX
     have g15:=iZ (f:=Zh) (off:=2) (sz:=14) Zmq (fun _=>rfl) (by decide) (by decide) Z6j
     refine yJ [1,2,3,8,9,80] (Yv Yd [none,none] ?_)
     refine zF4 Ztr Zts Ztu g15 ?_
     refine zG ?_
     refine Yj (t:=(cond (decide (s2_.2 < (yH.L.length:Int))) (decide (0≤s2_.1)) false)) rfl (fun iR => ?_) (fun iR => ?_)
     ·replace iX:=Ym iR iX
      refine uZ [1,2,3,8,9] [true] ?_
      refine Z7 ?_
      refine Xt ?_
      obtain ⟨x16,Z9e,Zw7,Zw9,Zxc,iX⟩:=bE (f:=Zh) rJ (fun _=>rfl) (by decide) iX
      have g17:=iZ (f:=Zh) (off:=2) (sz:=14) Zmq (fun _=>rfl) (by decide) (by decide) Z9e
      obtain ⟨x18,Ydd,Zyr,Zy0,Zza,iX⟩:=bE (f:=Za) mY (fun _=>rfl) (by decide) iX
      obtain ⟨y19,Z6p,iX⟩:=bC iX
      refine Z15 [] Zw7 Zw9 Zxc g17 Zyr Zy0 Zza ?_
      refine (dG Z6p).then ?_
      refine zF7 Zw7 Zw9 Zxc g17 Zyr Zy0 Zza ?_
      refine zD [1,2,3,8,9] [true] ?_
      refine zR ?_
      exact cM iX
     replace iX:=Yl iR iX
     exact zEx iX
    try simp only [Qj,Xr,↓reduceIte,Nat.reduceEqDiff]
    refine zD [1,2,3,8] [true] ?_
    refine zQ [1,2,3,8,95] ?_
    refine Yj (t:=(decide (0≤z21))) rfl (fun nM => ?_) (fun nM => ?_)
    ·replace Gt:=Ym nM Gt
     obtain ⟨x22,Z6l,Zi2,Zi3,Zi5,Gt⟩:=bE (f:=Zh) rJ (fun _=>rfl) (by decide) Gt
     have g23:=iZ (f:=Zh) (off:=3) (sz:=14) xP (fun _=>rfl) (by decide) (by decide) Z6l
     obtain ⟨y24,Zzu,Gt⟩:=bC Gt
     refine Zor [] Zi2 Zi3 Zi5 g23 ?_
     refine (iH Zzu).then ?_
     refine zF4 Zi2 Zi3 Zi5 g23 ?_
     exact Z5g Gt Zi2 Zi3 Zi5 g23
    replace Gt:=Yl nM Gt
    refine zK ?_
    exact cM Gt
   refine zR ?_
   exact cM Js
  replace Js:=Yl oM Js
  exact zEx Js
 try simp only [Qj,Xr,↓reduceIte,Nat.reduceEqDiff]
 refine zD [2] [false] ?_
 refine zQ [6] ?_
 exact Jo [(vI z27)]
theorem Zau:∀ k,(fH (X1 k)):=fun k=>by
 induction k with
 | zero=>exact @fun a0 a1 a2 r O n h=>(nomatch (show (none:Option _)=some _ from h))
 | succ k ih=>exact @fun a0 a1 a2 r O n h=>Zde (ih)  h
theorem Zdy {a0:Zd} {a1:Int} {a2:Int} {r:Int} {O:Objs} {n:Nat} (h:jD a0 a1 a2=some r):GTo Try.prog 19 [.agg (Zl a0),(vI a1),(vI a2)] O n ((vI r)) O n:=by
 obtain ⟨k,hk⟩:=pV h
 exact (Zau k)  hk
theorem mD {a0:Zd} {r:Bool} {O:Objs} {n:Nat} (h:rV a0=some r):GTo Try.prog 10 [.agg (Zl a0)] O n ((vB r)) O n:=by
 unfold rV at h
 refine uH Try.call10 Try.func10 fun hU Ye hN => ?_
 show W _ _ _ _ ⟨6,[],[(0,.agg (Zl a0))]⟩ (Yn O n []) _
 refine zQ [1] ?_
 refine Z7 ?_
 obtain ⟨y2,kE,h⟩:=bC h
 refine zCd (Zdy kE) [2] [false] ?_
 exact Jo [(vB (decide (0≤y2)))]
theorem nZ {a0:Zb} {r:Bool} {O:Objs} {n:Nat} (h:Uf a0=some r):GTo Try.prog 20 [.agg (Z9 a0)] O n ((vB r)) O n:=by
 unfold Uf at h
 refine uH Try.call20 Try.func20 fun hU Ye hN => ?_
 show W _ _ _ _ ⟨16,[],[(0,.agg (Z9 a0))]⟩ (Yn O n []) _
 refine zQ [1] ?_
 refine zQD [2] [none,none,none,none,none,none,none,none] ?_
 exact Jo [(vB (cond (a0.Kind == 0) ((IntKind.i64.wrap ((a0.Words.length:Int)+(a0.Kids.length:Int))) == 0) false))]
theorem Zc9 {a0:Int} {r:Int} {O:Objs} {n:Nat} (h:dC a0=some r):GTo Try.prog 55 [(vI a0)] O n ((vI r)) O n:=by
 unfold dC at h
 refine uH Try.call55 Try.func55 fun hU Ye hN => ?_
 show W _ _ _ _ ⟨16,[],[(0,(vI a0))]⟩ (Yn O n []) _
 refine zQ [0] ?_
 refine Z7 ?_
 refine zQ [3] ?_
 refine Xt ?_
 refine zQ [3,4] ?_
 refine Yj (t:=(a0 == 0)) rfl (fun c6 => ?_) (fun c6 => ?_)
 ·replace h:=Ym c6 h
  refine zQ [2] ?_
  exact Jo [(vI 0)]
 replace h:=Yl c6 h
 refine zQ [3,6] ?_
 refine Yj (t:=(a0 == 1)) rfl (fun c5 => ?_) (fun c5 => ?_)
 ·replace h:=Ym c5 h
  refine zQ [2] ?_
  exact Jo [(vI 1)]
 replace h:=Yl c5 h
 refine zQ [3,8] ?_
 refine Yj (t:=(a0 == 2)) rfl (fun c4 => ?_) (fun c4 => ?_)
 ·replace h:=Ym c4 h
  refine zQ [2] ?_
  exact Jo [(vI 8)]
 replace h:=Yl c4 h
 refine zQ [3,10] ?_
 refine Yj (t:=(a0 == 3)) rfl (fun c3 => ?_) (fun c3 => ?_)
 ·replace h:=Ym c3 h
  refine zQ [2] ?_
  exact Jo [(vI 16)]
 replace h:=Yl c3 h
 refine zQ [3,12] ?_
 refine Yj (t:=(a0 == 4)) rfl (fun c2 => ?_) (fun c2 => ?_)
 ·replace h:=Ym c2 h
  refine zQ [2] ?_
  exact Jo [(vI 32)]
 replace h:=Yl c2 h
 refine zQ [14] ?_
 refine Yj (t:=(a0 == 5)) rfl (fun c1 => ?_) (fun c1 => ?_)
 ·replace h:=Ym c1 h
  refine zQ [2] ?_
  exact Jo [(vI 64)]
 replace h:=Yl c1 h
 refine uZ [] [] ?_
 refine zQ [2] ?_
 exact Jo [(vI (-1))]
theorem xN {a0:Int} {a1:Int} {r:Bool} {O:Objs} {n:Nat} (h:yY a0 a1=some r):GTo Try.prog 36 [(vI a0),.val (.int .u64 a1)] O n ((vB r)) O n:=by
 unfold yY at h
 refine uH Try.call36 Try.func36 fun hU Ye hN => ?_
 show W _ _ _ _ ⟨20,[],[(0,(vI a0)),(1,.val (.int .u64 a1))]⟩ (Yn O n []) _
 refine zQ [0,1] ?_
 refine Z7 ?_
 obtain ⟨y2,kE,h⟩:=bC h
 refine zCd (Zc9 kE) [1,5] [] ?_
 refine Z7 ?_
 refine zQ [1,5,10] ?_
 refine Yj (t:=(decide (y2 < 0))) rfl (fun c5 => ?_) (fun c5 => ?_)
 ·replace h:=Ym c5 h
  refine zQ [4] ?_
  exact Jo [(vB false)]
 replace h:=Yl c5 h
 refine uZ [1,5] [] ?_
 refine Z7 ?_
 refine zQd [1,5,6] [1,5,6] [] ?_
 obtain ⟨z4,hz4,h⟩:=bC h
 refine X7 (E':=⟨20,[],[(1,.val (.int .u64 z4))]⟩) (O':=(Yn O n [])) (n0:=n) ?_ ?_
 ·refine Qy hz4 (fun Yf=>⟨20,[],[(1,.val (.int .u64 Yf.1)),(5,(vI y2)),(6,(vI Yf.2))]⟩) (fun Yf=>(Yn O n [])) (fun z4=>JX 0 n (⟨20,[],[(1,.val (.int .u64 z4))]⟩:Env) (Yn O n []) n) ?_
  intro Yf x0_ Zu
  unfold Kx at Zu
  try dsimp only
  refine Z7 ?_
  refine zQ [1,5,6,13] ?_
  refine Yj (t:=(decide (Yf.2 < y2))) rfl (fun c3 => ?_) (fun c3 => ?_)
  ·replace Zu:=Ym c3 Zu
   refine uZ [1,5,6] [] ?_
   refine Z7 ?_
   refine Xt ?_
   refine zRd [1,5,6] [] ?_
   refine zR ?_
   exact cM Zu
  replace Zu:=Yl c3 Zu
  exact zEx Zu
 try simp only [Qj,Xr,↓reduceIte,Nat.reduceEqDiff]
 refine zD [1] [] ?_
 refine zQ [4] ?_
 exact Jo [(vB (z4 == 0))]
def yD (Vq:(Zb→Int→Option Bool)):Prop:=∀ {a0:Zb} {a1:Int} {r:Bool} {O:Objs} {n:Nat},Vq a0 a1=some r→GTo Try.prog 21 [.agg (Z9 a0),(vI a1)] O n ((vB r)) O n
theorem Zbj {Vq:(Zb→Int→Option Bool)} (Zaw:yD Vq) {a0:Zb} {a1:Int} {r:Bool} {O:Objs} {n:Nat} (h:xX Vq a0 a1=some r):GTo Try.prog 21 [.agg (Z9 a0),(vI a1)] O n ((vB r)) O n:=by
 unfold xX at h
 refine uH Try.call21 Try.func21 fun hU Ye hN => ?_
 show W _ _ _ _ ⟨132,[],[(0,.agg (Z9 a0)),(1,(vI a1))]⟩ (Yn O n []) _
 refine zQ [1,2] ?_
 refine Z7 ?_
 refine zQ [1,2,10] ?_
 refine Yj (t:=(a0.Kind == 0)) rfl (fun c32 => ?_) (fun c32 => ?_)
 ·replace h:=Ym c32 h
  refine zQD [4] [none,none,none,none] ?_
  exact Jo [(vB (cond ((a0.Words.length:Int) == 0) ((a0.Kids.length:Int) == 0) false))]
 replace h:=Yl c32 h
 refine uZ [1,2] [true] ?_
 refine Z7 ?_
 refine zQ [1,2,23] ?_
 refine Yj (t:=(a0.Kind == 10)) rfl (fun c31 => ?_) (fun c31 => ?_)
 ·replace h:=Ym c31 h
  refine zQD [4] [none,none,none,none] ?_
  exact Jo [(vB (cond ((a0.Words.length:Int) == 1) ((a0.Kids.length:Int) == 0) false))]
 replace h:=Yl c31 h
 refine uZ [1,2] [true] ?_
 refine Z7 ?_
 refine zQD [1,2,68] [none,none,none,none,none,none,none,none,none,none,none,none,none,none,none,none,none,none,none,none,none,none] ?_
 refine Yj (t:=(cond (cond (cond (cond (cond (decide (a0.Kind < 0)) true (decide (10 < a0.Kind))) true (a1 == 0)) true (decide (65536≤(a0.Words.length:Int)))) true (cond (a0.Kind == 1) (decide (65536≤(a0.Kids.length:Int))) false)) true (decide (1048576≤(a0.Kids.length:Int))))) rfl (fun wH => ?_) (fun wH => ?_)
 ·replace h:=Ym wH h
  refine zQ [4] ?_
  exact Jo [(vB false)]
 replace h:=Yl wH h
 refine uZ [1,2] [true] ?_
 refine Z7 ?_
 refine zQD [1,2,77] [none,none,none,none] ?_
 refine Yj (t:=(cond (decide (1 < a0.Kind)) (decide (0 < (a0.Words.length:Int))) false)) rfl (fun tC => ?_) (fun tC => ?_)
 ·replace h:=Ym tC h
  refine zQ [4] ?_
  exact Jo [(vB false)]
 replace h:=Yl tC h
 refine uZ [1,2] [true] ?_
 refine Z7 ?_
 refine zQd [1,2,5] [1,2,5] [true] ?_
 obtain ⟨z28,Ydt,h⟩:=bC h
 refine gV (J:=(Kh (fun z28=>JR n (⟨132,[],[(4,(vB false))]⟩:Env) (Yn O n [none]) (n+1)) (fun z28=>JX 0 n (⟨132,[],[]⟩:Env) (Yn O n [none]) (n+1)))) (z:=z28) ?_ fun hw => ?_
 ·refine Qy Ydt (fun Yf=>⟨132,[],[(1,(vI a1)),(2,.ref n 0),(5,(vI Yf))]⟩) (fun Yf=>(Yn O n [some ⟨false,25,3,1,(Z9 a0)⟩])) (Kh (fun z28=>JR n (⟨132,[],[(4,(vB false))]⟩:Env) (Yn O n [none]) (n+1)) (fun z28=>JX 0 n (⟨132,[],[]⟩:Env) (Yn O n [none]) (n+1))) ?_
  intro Yf x0_ Zu
  unfold G9 at Zu
  try dsimp only
  refine Z7 ?_
  refine zQ [1,2,5,82] ?_
  refine Yj (t:=(decide (Yf < (a0.Kids.length:Int)))) rfl (fun zH => ?_) (fun zH => ?_)
  ·replace Zu:=Ym zH Zu
   refine uZ [1,2,5] [true] ?_
   refine Z7 ?_
   refine Xt ?_
   refine Z7 ?_
   obtain ⟨x2,hx2,ax2,bx2,cx2,Zu⟩:=bE (f:=Za) mY (fun _=>rfl) (by decide) Zu
   refine dM [] ax2 bx2 cx2 ?_
   refine lO [1,2,5,6] [true,true] ?_
   refine Z7 ?_
   obtain ⟨y4,hy4,Zu⟩:=bC Zu
   refine zCd (Zaw hy4) [1,2,5,6,94] [true,true] ?_
   refine Yj (t:=(!y4)) rfl (fun oM => ?_) (fun oM => ?_)
   ·replace Zu:=Ym oM Zu
    refine zQ [4] ?_
    refine zW ?_
    exact zEy Zu
   replace Zu:=Yl oM Zu
   refine uZ [1,2,5,6] [true,true] ?_
   refine zQD [1,2,5,6,7] [none,none,none] ?_
   obtain ⟨z9,sM,Zu⟩:=bC Zu
   refine Qf (E':=⟨132,[],[(1,(vI a1)),(2,.ref n 0),(5,(vI Yf)),(131,(vB z9))]⟩) (O':=(Yn O n [some ⟨false,25,3,1,(Z9 a0)⟩,none])) (n0:=(n+2)) ?_ ?_
   ·rcases Bool.eq_false_or_eq_true ((cond (decide (2≤a0.Kind)) (decide (a0.Kind≤7)) false) != (x2.Kind == 10)) with eM | eM
    ·replace sM:=Ym eM sM
     refine Jh Yd (by kernel_rfl) (Znm (Zfr [])) (by kernel_rfl) ?_
     refine zX1 eM ?_
     refine zG ?_
     exact xJ sM eM
    replace sM:=Yl eM sM
    rcases Bool.eq_false_or_eq_true (a0.Kind == 9) with mM | mM
    ·replace sM:=Ym mM sM
     try rw [mM] at eM
     try simp only [Bool.cond_true,Bool.cond_false,Bool.true_bne,Bool.false_bne,Bool.not_eq_true',Bool.not_eq_false'] at eM
     rcases Bool.eq_false_or_eq_true (x2.Kind != 1) with iR | iR
     ·replace sM:=Ym iR sM
      try rw [iR] at eM
      try rw [iR] at mM
      try simp only [Bool.cond_true,Bool.cond_false,Bool.true_bne,Bool.false_bne,Bool.not_eq_true',Bool.not_eq_false'] at eM
      refine Jh Yd (by kernel_rfl) (Znm (Zfr [])) (by kernel_rfl) ?_
      refine zX3 eM mM iR ?_
      refine zG ?_
      exact gE sM eM mM iR
     replace sM:=Yl iR sM
     try rw [iR] at eM
     try rw [iR] at mM
     try simp only [Bool.cond_true,Bool.cond_false,Bool.true_bne,Bool.false_bne,Bool.not_eq_true',Bool.not_eq_false'] at eM
     rcases Bool.eq_false_or_eq_true (decide (2≤a0.Kind)) with c21 | c21
     ·replace sM:=Ym c21 sM
      try rw [c21] at eM
      try rw [c21] at mM
      try rw [c21] at iR
      try simp only [Bool.cond_true,Bool.cond_false,Bool.true_bne,Bool.false_bne,Bool.not_eq_true',Bool.not_eq_false'] at eM
      rcases Bool.eq_false_or_eq_true (decide (a0.Kind≤7)) with c22 | c22
      ·replace sM:=Ym c22 sM
       try rw [c22] at eM
       try rw [c22] at mM
       try rw [c22] at iR
       try rw [c22] at c21
       try simp only [Bool.cond_true,Bool.cond_false,Bool.true_bne,Bool.false_bne,Bool.not_eq_true',Bool.not_eq_false'] at eM
       obtain ⟨yH,Z6j,Ztr,Zts,Ztu,sM⟩:=bE (f:=(eI .u64)) yP (fun _=>rfl) (by decide) sM
       obtain ⟨y15,Zt6,sM⟩:=bC sM
       refine Jh Yd (by kernel_rfl) (Znm (Zdj [])) (by kernel_rfl) ?_
       refine zF8 eM mM iR c21 c22 Ztr Zts Ztu ?_
       refine zG ?_
       refine PCall.of (xN Zt6) ?_
       refine zF8 eM mM iR c21 c22 Ztr Zts Ztu ?_
       refine zG ?_
       exact Yco sM eM mM iR c21 c22 Ztr Zts Ztu
      replace sM:=Yl c22 sM
      try rw [c22] at eM
      try rw [c22] at mM
      try rw [c22] at iR
      try rw [c22] at c21
      try simp only [Bool.cond_true,Bool.cond_false,Bool.true_bne,Bool.false_bne,Bool.not_eq_true',Bool.not_eq_false'] at eM
      refine Jh Yd (by kernel_rfl) (Znm (G7::G7::Zrp [G7])) (by kernel_rfl) ?_
      refine zX5 eM mM iR c21 c22 ?_
      refine zG ?_
      exact Ycp sM eM mM iR c21 c22
     replace sM:=Yl c21 sM
     try rw [c21] at eM
     try rw [c21] at mM
     try rw [c21] at iR
     try simp only [Bool.cond_true,Bool.cond_false,Bool.true_bne,Bool.false_bne,Bool.not_eq_true',Bool.not_eq_false'] at eM
     refine Jh Yd (by kernel_rfl) (Znm (G7::G7::Zrp [G7])) (by kernel_rfl) ?_
     refine zX4 eM mM iR c21 ?_
     refine zG ?_
     exact Zwl sM eM mM iR c21
    replace sM:=Yl mM sM
    try rw [mM] at eM
    try simp only [Bool.cond_true,Bool.cond_false,Bool.true_bne,Bool.false_bne,Bool.not_eq_true',Bool.not_eq_false'] at eM
    rcases Bool.eq_false_or_eq_true (decide (2≤a0.Kind)) with c23 | c23
    ·replace sM:=Ym c23 sM
     try rw [c23] at eM
     try rw [c23] at mM
     try simp only [Bool.cond_true,Bool.cond_false,Bool.true_bne,Bool.false_bne,Bool.not_eq_true',Bool.not_eq_false'] at eM
     rcases Bool.eq_false_or_eq_true (decide (a0.Kind≤7)) with c24 | c24
     ·replace sM:=Ym c24 sM
      try rw [c24] at eM
      try rw [c24] at mM
      try rw [c24] at c23
      try simp only [Bool.cond_true,Bool.cond_false,Bool.true_bne,Bool.false_bne,Bool.not_eq_true',Bool.not_eq_false'] at eM
      obtain ⟨x16,Z9e,Zw7,Zw9,Zxc,sM⟩:=bE (f:=(eI .u64)) yP (fun _=>rfl) (by decide) sM
      obtain ⟨y17,Zt7,sM⟩:=bC sM
      refine Jh Yd (by kernel_rfl) (Znm (Zdj [])) (by kernel_rfl) ?_
      refine zF7 eM mM c23 c24 Zw7 Zw9 Zxc ?_
      refine zG ?_
      refine PCall.of (xN Zt7) ?_
      refine zF7 eM mM c23 c24 Zw7 Zw9 Zxc ?_
      refine zG ?_
      exact Z13 sM eM mM c23 c24 Zw7 Zw9 Zxc
     replace sM:=Yl c24 sM
     try rw [c24] at eM
     try rw [c24] at mM
     try rw [c24] at c23
     try simp only [Bool.cond_true,Bool.cond_false,Bool.true_bne,Bool.false_bne,Bool.not_eq_true',Bool.not_eq_false'] at eM
     refine Jh Yd (by kernel_rfl) (Znm (G7::G7::Zrp [G7])) (by kernel_rfl) ?_
     refine zX4 eM mM c23 c24 ?_
     refine zG ?_
     exact Zwl sM eM mM c23 c24
    replace sM:=Yl c23 sM
    try rw [c23] at eM
    try rw [c23] at mM
    try simp only [Bool.cond_true,Bool.cond_false,Bool.true_bne,Bool.false_bne,Bool.not_eq_true',Bool.not_eq_false'] at eM
    refine Jh Yd (by kernel_rfl) (Znm (G7::G7::Zrp [G7])) (by kernel_rfl) ?_
    refine zX3 eM mM c23 ?_
    refine zG ?_
    exact gE sM eM mM c23
   refine Yj (t:=z9) rfl (fun nM => ?_) (fun nM => ?_)
   ·replace Zu:=Ym nM Zu
    refine zQ [4] ?_
    refine zW ?_
    exact zEy Zu
   replace Zu:=Yl nM Zu
   refine uZ [1,2,5] [true,false] ?_
   refine zR ?_
   exact cM Zu
  replace Zu:=Yl zH Zu
  exact zEx Zu
 rcases z28 with z28 | z28
 ·dsimp only [Kh] at hw h
  refine Uq hw ?_
  try simp only [Qj,Xr,↓reduceIte,Nat.reduceEqDiff]
  exact jO [(vB false)]
 dsimp only [Kh] at hw h
 refine X7 hw ?_
 try simp only [Qj,Xr,↓reduceIte,Nat.reduceEqDiff]
 refine zD [] [false] ?_
 refine zQ [4] ?_
 exact Jo [(vB true)]
theorem rO:∀ k,(yD (V2 k)):=fun k=>by
 induction k with
 | zero=>exact @fun a0 a1 r O n h=>(nomatch (show (none:Option _)=some _ from h))
 | succ k ih=>exact @fun a0 a1 r O n h=>Zbj (ih)  h
theorem eV {a0:Zb} {a1:Int} {r:Bool} {O:Objs} {n:Nat} (h:kJ a0 a1=some r):GTo Try.prog 21 [.agg (Z9 a0),(vI a1)] O n ((vB r)) O n:=by
 obtain ⟨k,hk⟩:=pV h
 exact (rO k)  hk
theorem rI {a0:Int} {r:(Arr Int 8)} {O:Objs} {n:Nat} (h:kZ a0=some r):GTo Try.prog 56 [.val (.int .u64 a0)] O n (.agg (fl (eI .u8) r.1)) O n:=by
 unfold kZ at h
 refine uH Try.call56 Try.func56 fun hU Ye hN => ?_
 show W _ _ _ _ ⟨18,[],[(0,.val (.int .u64 a0))]⟩ (Yn O n []) _
 obtain ⟨y3,hy3,ey3,h⟩:=bY (f:=(eI .u8)) (cs:=[.val (.int .u8 0),.val (.int .u8 0),.val (.int .u8 0),.val (.int .u8 0),.val (.int .u8 0),.val (.int .u8 0),.val (.int .u8 0),.val (.int .u8 0)]) rfl h
 have g4:=congrArg (GObj.mk false 96 8 1) ey3
 refine Yfg [0,2] g4 ?_
 refine Z7 ?_
 obtain ⟨y9,hy9,ey9,h⟩:=bY (f:=(eI .u8)) (cs:=[.val (.int .u8 0),.val (.int .u8 0),.val (.int .u8 0),.val (.int .u8 0),.val (.int .u8 0),.val (.int .u8 0),.val (.int .u8 0),.val (.int .u8 0)]) rfl h
 have g10:=congrArg G.agg ey9
 have g11:=congrArg (GObj.mk false 96 8 1) ey9
 have g12:=qO (f:=(eI .u8)) y9 y9 (fun _=>rfl)
 refine vH [] g10 g11 g12 ?_
 refine lO [0,2,3] [true,true] ?_
 refine zQd [0,2,3,4] [0,2,3,4] [true,true] ?_
 obtain ⟨z18,gB,h⟩:=bC h
 refine X7 (E':=⟨18,[],[(2,.ref n 0),(3,.ref (n+1) 0)]⟩) (O':=(Yn O n [some ⟨false,96,8,1,fl (eI .u8) y3.1⟩,some ⟨false,96,8,1,fl (eI .u8) z18.1⟩])) (n0:=(n+2)) ?_ ?_
 ·refine Qy gB (fun Yf=>⟨18,[],[(0,.val (.int .u64 Yf.1)),(2,.ref n 0),(3,.ref (n+1) 0),(4,(vI Yf.2.1))]⟩) (fun Yf=>(Yn O n [some ⟨false,96,8,1,fl (eI .u8) y3.1⟩,some ⟨false,96,8,1,fl (eI .u8) Yf.2.2.1⟩])) (fun z18=>JX 0 n (⟨18,[],[(2,.ref n 0),(3,.ref (n+1) 0)]⟩:Env) (Yn O n [some ⟨false,96,8,1,fl (eI .u8) y3.1⟩,some ⟨false,96,8,1,fl (eI .u8) z18.1⟩]) (n+2)) ?_
  intro Yf x0_ Zu
  unfold dZ at Zu
  try dsimp only
  refine Z7 ?_
  refine zQ [0,2,3,4,7] ?_
  refine Yj (t:=(decide (Yf.2.1 < 8))) rfl (fun c17 => ?_) (fun c17 => ?_)
  ·replace Zu:=Ym c17 Zu
   refine uZ [0,2,3,4] [true,true] ?_
   refine Z7 ?_
   refine Xt ?_
   refine Z7 ?_
   obtain ⟨kO,Z6k,Z2d,Z2g,Z2j,Zu⟩:=bEA (f:=(eI .u8)) (b:=8) rfl Znu (fun _=>rfl) (by decide) Zu
   have Yc9:Vb (fl (eI .u8) Yf.2.2.1) [.val (.int .u8 (IntKind.u8.wrap (Int.tmod Yf.1 256)))] (Int.toNat Yf.2.1 * 1)=some (fl (eI .u8) (sP Yf.2.2.1 Yf.2.1 (IntKind.u8.wrap (Int.tmod Yf.1 256)))):=uT (f:=(eI .u8)) (ti:=⟨.bool,1,0,[],false⟩) (x:=(IntKind.u8.wrap (Int.tmod Yf.1 256))) (fun _=>rfl) (cD Z6k)
   refine Zor [] Z2d Z2g Z2j Yc9 ?_
   refine zD [0,2,3,4] [true,true] ?_
   refine zRd [0,2,3,4] [true,true] ?_
   refine zR ?_
   exact cM Zu
  replace Zu:=Yl c17 Zu
  exact zEx Zu
 try simp only [Qj,Xr,↓reduceIte,Nat.reduceEqDiff]
 refine lO [2,3] [true,true] ?_
 have g21:=Zn7 (f:=(eI .u8)) z18 Zmr rfl (fun _=>rfl) rfl
 have g22:=qO (f:=(eI .u8)) y3 z18 (fun _=>rfl)
 refine Kc [] g21 g22 ?_
 refine zD [2] [true,false] ?_
 refine zW ?_
 obtain rfl:=sI h
 have gR0:=Zn7 (f:=(eI .u8)) z18 Zmr rfl (fun _=>rfl) rfl
 refine Zo2 (.inr rfl) hU [.agg (fl (eI .u8) z18.1)] (by omega) ?_
 simp only [push_cast,seval,Zc,Try.results56,Ye,hN,gR0]
theorem Zc8 {a0:Int} {a1:Int} {r:Bool} {O:Objs} {n:Nat} (h:iJ a0 a1=some r):GTo Try.prog 57 [.val (.int .u8 a0),(vI a1)] O n ((vB r)) O n:=by
 unfold iJ at h
 refine uH Try.call57 Try.func57 fun hU Ye hN => ?_
 show W _ _ _ _ ⟨16,[],[(0,.val (.int .u8 a0)),(1,(vI a1))]⟩ (Yn O n []) _
 refine zQ [0,1] ?_
 refine Z7 ?_
 refine zQd [0,1,5] [0,1,5] [] ?_
 obtain ⟨z2,wD,h⟩:=bC h
 refine X7 (E':=⟨16,[],[(0,.val (.int .u8 z2))]⟩) (O':=(Yn O n [])) (n0:=n) ?_ ?_
 ·refine Qy wD (fun Yf=>⟨16,[],[(0,.val (.int .u8 Yf.1)),(1,(vI a1)),(5,(vI Yf.2))]⟩) (fun Yf=>(Yn O n [])) (fun z2=>JX 0 n (⟨16,[],[(0,.val (.int .u8 z2))]⟩:Env) (Yn O n []) n) ?_
  intro Yf x0_ Zu
  unfold Um at Zu
  try dsimp only
  refine Z7 ?_
  refine zQ [0,1,5,8] ?_
  refine Yj (t:=(decide (Yf.2 < a1))) rfl (fun c1 => ?_) (fun c1 => ?_)
  ·replace Zu:=Ym c1 Zu
   refine uZ [0,1,5] [] ?_
   refine Z7 ?_
   refine Xt ?_
   refine zRd [0,1,5] [] ?_
   refine zR ?_
   exact cM Zu
  replace Zu:=Yl c1 Zu
  exact zEx Zu
 try simp only [Qj,Xr,↓reduceIte,Nat.reduceEqDiff]
 refine zD [0] [] ?_
 refine zQ [4] ?_
 exact Jo [(vB ((Int.tmod z2 2) == 1))]
theorem Zh3 {a0:(List Int)} {a1:Int} {r:Int} {O:Objs} {n:Nat} (h:xB a0 a1=some r):GTo Try.prog 58 [(sL (eI .u8) a0),(vI a1)] O n (.val (.int .u64 r)) O n:=by
 unfold xB at h
 refine uH Try.call58 Try.func58 fun hU Ye hN => ?_
 show W _ _ _ _ ⟨22,[],[(0,(sL (eI .u8) a0)),(1,(vI a1))]⟩ (Yn O n []) _
 refine zQ [0,1] ?_
 refine zQ [0,1,5] ?_
 refine Z7 ?_
 refine zQd [0,1,5,6] [0,1,5,6] [] ?_
 obtain ⟨z3,Gy,h⟩:=bC h
 refine X7 (E':=⟨22,[],[(5,.val (.int .u64 z3))]⟩) (O':=(Yn O n [])) (n0:=n) ?_ ?_
 ·refine Qy Gy (fun Yf=>⟨22,[],[(0,(sL (eI .u8) a0)),(1,(vI a1)),(5,.val (.int .u64 Yf.1)),(6,(vI Yf.2))]⟩) (fun Yf=>(Yn O n [])) (fun z3=>JX 0 n (⟨22,[],[(5,.val (.int .u64 z3))]⟩:Env) (Yn O n []) n) ?_
  intro Yf x0_ Zu
  unfold jJ at Zu
  try dsimp only
  refine Z7 ?_
  refine zQ [0,1,5,6,8] ?_
  refine Yj (t:=(decide (0≤Yf.2))) rfl (fun c2 => ?_) (fun c2 => ?_)
  ·replace Zu:=Ym c2 Zu
   refine uZ [0,1,5,6] [] ?_
   refine Z7 ?_
   refine Xt ?_
   obtain ⟨x1,hx1,ax1,bx1,cx1,Zu⟩:=bE (f:=(eI .u8)) Znu (fun _=>rfl) (by decide) Zu
   refine dM [] ax1 bx1 cx1 ?_
   refine zD [0,1,5,6] [] ?_
   refine zR ?_
   exact cM Zu
  replace Zu:=Yl c2 Zu
  exact zEx Zu
 try simp only [Qj,Xr,↓reduceIte,Nat.reduceEqDiff]
 refine zD [5] [] ?_
 refine zQ [4] ?_
 exact Jo [.val (.int .u64 z3)]
theorem Zft {a0:Int} {a1:Int} {a2:Int} {r:Int} {O:Objs} {n:Nat} (h:qV a0 a1 a2=some r):GTo Try.prog 37 [.val (.int .u64 a0),.val (.int .u64 a1),.val (.int .u8 a2)] O n (.val (.int .u64 r)) O n:=by
 unfold qV at h
 refine uH Try.call37 Try.func37 fun hU Ye hN => ?_
 show W _ _ _ _ ⟨28,[],[(0,.val (.int .u64 a0)),(1,.val (.int .u64 a1)),(2,.val (.int .u8 a2))]⟩ (Yn O n []) _
 refine zQ [0,1,2] ?_
 refine Z7 ?_
 obtain ⟨y8,hy8,h⟩:=bC h
 obtain ⟨y9,hy9,h⟩:=bC h
 obtain ⟨vC,Znf,Z81,h⟩:=bY (f:=(eI .u8)) (cs:=[.val (.int .u8 0),.val (.int .u8 0),.val (.int .u8 0),.val (.int .u8 0),.val (.int .u8 0),.val (.int .u8 0),.val (.int .u8 0),.val (.int .u8 0)]) rfl h
 have g11:=congrArg (GObj.mk false 96 8 1) Z81
 have g12:=congrArg (GObj.mk false 96 8 1) Z81
 have g13:=qO (f:=(eI .u8)) vC y8 (fun _=>rfl)
 have g14:=qO (f:=(eI .u8)) vC y9 (fun _=>rfl)
 refine Zwm [] g11 g12 g13 g14 ?_
 refine (rI hy8).then ?_
 refine zX4 g11 g12 g13 g14 ?_
 refine (rI hy9).then ?_
 refine zX4 g11 g12 g13 g14 ?_
 refine lO [2,7,8] [true,true] ?_
 refine zQd [2,7,8,9] [2,7,8,9] [true,true] ?_
 obtain ⟨z23,Zja,h⟩:=bC h
 refine X7 (E':=⟨28,[],[(7,.ref n 0)]⟩) (O':=(Yn O n [some ⟨false,96,8,1,fl (eI .u8) z23.1⟩,none])) (n0:=(n+2)) ?_ ?_
 ·refine Qy Zja (fun Yf=>⟨28,[],[(2,.val (.int .u8 a2)),(7,.ref n 0),(8,.ref (n+1) 0),(9,(vI Yf.1))]⟩) (fun Yf=>(Yn O n [some ⟨false,96,8,1,fl (eI .u8) Yf.2.1⟩,some ⟨false,96,8,1,fl (eI .u8) y9.1⟩])) (fun z23=>JX 0 n (⟨28,[],[(7,.ref n 0)]⟩:Env) (Yn O n [some ⟨false,96,8,1,fl (eI .u8) z23.1⟩,none]) (n+2)) ?_
  intro Yf x0_ Zu
  unfold oX at Zu
  try dsimp only
  refine Z7 ?_
  refine zQ [2,7,8,9,15] ?_
  refine Yj (t:=(decide (Yf.1 < 8))) rfl (fun c22 => ?_) (fun c22 => ?_)
  ·replace Zu:=Ym c22 Zu
   refine uZ [2,7,8,9] [true,true] ?_
   obtain ⟨aM,dI,Zu⟩:=bC Zu
   refine Qf (E':=⟨28,[],[(2,.val (.int .u8 a2)),(7,.ref n 0),(8,.ref (n+1) 0),(9,(vI Yf.1))]⟩) (O':=(Yn O n [some ⟨false,96,8,1,fl (eI .u8) aM.1⟩,some ⟨false,96,8,1,fl (eI .u8) y9.1⟩])) (n0:=(n+2)) ?_ ?_
   ·refine Xt ?_
    refine Z7 ?_
    obtain ⟨y17,Zt7,dI⟩:=bC dI
    refine zCd (Zc8 Zt7) [2,7,8,9,20] [true,true] ?_
    refine Yj (t:=y17) rfl (fun c21 => ?_) (fun c21 => ?_)
    ·replace dI:=Ym c21 dI
     obtain ⟨x18,Ydd,Zyr,Zy0,Zza,dI⟩:=bEA (f:=(eI .u8)) (b:=8) rfl Znu (fun _=>rfl) (by decide) dI
     obtain ⟨nT,Z9f,Z2e,Z2h,Z2k,dI⟩:=bEA (f:=(eI .u8)) (b:=8) rfl Znu (fun _=>rfl) (by decide) dI
     have Z9b:Vb (fl (eI .u8) Yf.2.1) [.val (.int .u8 x18)] (Int.toNat Yf.1 * 1)=some (fl (eI .u8) (sP Yf.2.1 Yf.1 x18)):=uT (f:=(eI .u8)) (ti:=⟨.bool,1,0,[],false⟩) (x:=x18) (fun _=>rfl) (cD Z9f)
     refine Z15 [] Zyr Zy0 Zza Z2e Z2h Z2k Z9b ?_
     exact Z13 dI Zyr Zy0 Zza Z2e Z2h Z2k Z9b
    replace dI:=Yl c21 dI
    refine zK ?_
    exact cM dI
   refine zR ?_
   exact cM Zu
  replace Zu:=Yl c22 Zu
  exact zEx Zu
 try simp only [Qj,Xr,↓reduceIte,Nat.reduceEqDiff]
 refine lO [7] [true,false] ?_
 have g27:=Zt4 (j:=n) Zc7 Znu (by decide)
 have g28:=z23.2
 obtain ⟨y29,Ydj,h⟩:=bC h
 refine Kc [] g27 g28 ?_
 refine GCalls.lend (Zh3 Ydj) rfl ?_ ?_
 ·exact Qx g27 g28
 refine eR g27 g28 ?_
 refine zD [6] [false,false] ?_
 exact Jo [.val (.int .u64 y29)]
theorem gA {a0:Int} {a1:Int} {r:Bool} {O:Objs} {n:Nat} (h:Gq a0 a1=some r):GTo Try.prog 22 [.val (.int .u64 a0),.val (.int .u8 a1)] O n ((vB r)) O n:=by
 unfold Gq at h
 refine uH Try.call22 Try.func22 fun hU Ye hN => ?_
 show W _ _ _ _ ⟨9,[],[(0,.val (.int .u64 a0)),(1,.val (.int .u8 a1))]⟩ (Yn O n []) _
 refine zQ [0,1] ?_
 refine Z7 ?_
 obtain ⟨y2,kE,h⟩:=bC h
 refine zCd (Zft kE) [4] [] ?_
 exact Jo [(vB (y2 == 0))]
theorem yN {a0:Zd} {r:Bool} {O:Objs} {n:Nat} (h:aX a0=some r):GTo Try.prog 38 [.agg (Zl a0)] O n ((vB r)) O n:=by
 unfold aX at h
 refine uH Try.call38 Try.func38 fun hU Ye hN => ?_
 show W _ _ _ _ ⟨35,[],[(0,.agg (Zl a0))]⟩ (Yn O n []) _
 refine zQ [1] ?_
 obtain ⟨z3,Gy,h⟩:=bC h
 refine Qf (E':=⟨35,[],[(2,(vB z3))]⟩) (O':=(Yn O n [none])) (n0:=(n+1)) ?_ ?_
 ·rcases Bool.eq_false_or_eq_true (a0.Kind == 0) with c8 | c8
  ·replace Gy:=Ym c8 Gy
   obtain ⟨y6,hy6,Gy⟩:=bC Gy
   rcases Bool.eq_false_or_eq_true y6 with c9 | c9
   ·replace Gy:=Ym c9 Gy
    try rw [c9] at c8
    obtain ⟨y7,hy7,Gy⟩:=bC Gy
    refine Kc (Zjd (Yap [])) c8 c9 ?_
    refine zG ?_
    refine (nZ hy6).then ?_
    refine eR c8 c9 ?_
    refine zG ?_
    refine (nZ hy7).then ?_
    refine eR c8 c9 ?_
    refine zG ?_
    exact rS Gy c8 c9
   replace Gy:=Yl c9 Gy
   try rw [c9] at c8
   refine Kc (Zxu (Yak [])) c8 c9 ?_
   refine (nZ hy6).then ?_
   refine eR c8 c9 ?_
   exact rS Gy c8 c9
  replace Gy:=Yl c8 Gy
  refine yU (Yal []) c8 ?_
  exact xJ Gy c8
 exact Jo [(vB z3)]
theorem dE {a0:Zd} {r:(Int×Int)} {O:Objs} {n:Nat} (h:U7 a0=some r):GTo Try.prog 24 [.agg (Zl a0)] O n (.tup [(vI r.1),(vI r.2)]) O n:=by
 unfold U7 at h
 refine uH Try.call24 Try.func24 fun hU Ye hN => ?_
 show W _ _ _ _ ⟨48,[],[(0,.agg (Zl a0))]⟩ (Yn O n []) _
 refine zQ [1] ?_
 refine zQ [1,4,5] ?_
 refine Z7 ?_
 refine zQd [1,4,5,6] [1,4,5,6] [true] ?_
 obtain ⟨wV,Zkv,h⟩:=bC h
 refine X7 (E':=⟨48,[],[(4,(vI wV.1)),(5,(vI wV.2))]⟩) (O':=(Yn O n [none])) (n0:=(n+1)) ?_ ?_
 ·refine Qy Zkv (fun Yf=>⟨48,[],[(1,.ref n 0),(4,(vI Yf.1)),(5,(vI Yf.2.1)),(6,(vI Yf.2.2))]⟩) (fun Yf=>(Yn O n [some ⟨false,30,11,1,(Zl a0)⟩])) (fun wV=>JX 0 n (⟨48,[],[(4,(vI wV.1)),(5,(vI wV.2))]⟩:Env) (Yn O n [none]) (n+1)) ?_
  intro Yf x0_ Zu
  unfold U8 at Zu
  try dsimp only
  refine Z7 ?_
  refine zQ [1,4,5,6,13] ?_
  refine Yj (t:=(decide (Yf.2.2 < (a0.Ops.length:Int)))) rfl (fun nO => ?_) (fun nO => ?_)
  ·replace Zu:=Ym nO Zu
   refine uZ [1,4,5,6] [true] ?_
   obtain ⟨z1,Jx,Zu⟩:=bC Zu
   refine Qf (E':=⟨48,[],[(1,.ref n 0),(4,(vI z1.1)),(5,(vI z1.2)),(6,(vI Yf.2.2))]⟩) (O':=(Yn O n [some ⟨false,30,11,1,(Zl a0)⟩,none])) (n0:=(n+2)) ?_ ?_
   ·refine Xt ?_
    refine Z7 ?_
    obtain ⟨x3,hx3,ax3,bx3,cx3,Jx⟩:=bE (f:=Zh) rJ (fun _=>rfl) (by decide) Jx
    refine dM [] ax3 bx3 cx3 ?_
    refine zD [1,4,5,6,7] [true,true] ?_
    refine zQ [1,4,5,6,7,8] ?_
    obtain ⟨z4,hz4,Jx⟩:=bC Jx
    refine Qf (E':=⟨48,[],[(1,.ref n 0),(4,(vI Yf.1)),(5,(vI Yf.2.1)),(6,(vI Yf.2.2)),(7,.ref (n+1) 0),(8,(vI z4))]⟩) (O':=(Yn O n [some ⟨false,30,11,1,(Zl a0)⟩,some ⟨false,41,14,1,(Xk x3)⟩])) (n0:=(n+2)) ?_ ?_
    ·refine zQ [1,4,5,6,7,8,29] ?_
     refine Yj (t:=(x3.Kind == 3)) rfl (fun c5 => ?_) (fun c5 => ?_)
     ·replace hz4:=Ym c5 hz4
      refine zR ?_
      exact cM hz4
     replace hz4:=Yl c5 hz4
     refine zK ?_
     exact cM hz4
    obtain ⟨z6,hz6,Jx⟩:=bC Jx
    refine Qf (E':=⟨48,[],[(1,.ref n 0),(4,(vI z6)),(5,(vI Yf.2.1)),(6,(vI Yf.2.2)),(7,.ref (n+1) 0),(8,(vI z4))]⟩) (O':=(Yn O n [some ⟨false,30,11,1,(Zl a0)⟩,some ⟨false,41,14,1,(Xk x3)⟩])) (n0:=(n+2)) ?_ ?_
    ·refine zQ [1,4,5,6,7,8,32] ?_
     refine Yj (t:=(x3.Kind != 2)) rfl (fun c7 => ?_) (fun c7 => ?_)
     ·replace hz6:=Ym c7 hz6
      refine zR ?_
      exact cM hz6
     replace hz6:=Yl c7 hz6
     refine zK ?_
     exact cM hz6
    obtain ⟨z8,hz8,Jx⟩:=bC Jx
    refine Qf (E':=⟨48,[],[(1,.ref n 0),(4,(vI z6)),(5,(vI z8)),(6,(vI Yf.2.2))]⟩) (O':=(Yn O n [some ⟨false,30,11,1,(Zl a0)⟩,none])) (n0:=(n+2)) ?_ ?_
    ·refine zQ [1,4,5,6,8,38] ?_
     refine Yj (t:=(x3.Kind != 1)) rfl (fun c9 => ?_) (fun c9 => ?_)
     ·replace hz8:=Ym c9 hz8
      refine zR ?_
      exact cM hz8
     replace hz8:=Yl c9 hz8
     refine zK ?_
     exact cM hz8
    obtain ⟨z10,Zng,Jx⟩:=bC Jx
    refine Qf (E':=⟨48,[],[(1,.ref n 0),(4,(vI z10)),(5,(vI z8)),(6,(vI Yf.2.2))]⟩) (O':=(Yn O n [some ⟨false,30,11,1,(Zl a0)⟩,none])) (n0:=(n+2)) ?_ ?_
    ·refine zQ [1,4,5,6,43] ?_
     refine Yj (t:=(decide (1048576 < z6))) rfl (fun jF => ?_) (fun jF => ?_)
     ·replace Zng:=Ym jF Zng
      refine zR ?_
      exact cM Zng
     replace Zng:=Yl jF Zng
     refine zK ?_
     exact cM Zng
    refine zQ [1,4,5,6,45] ?_
    refine Yj (t:=(decide (1048576 < z8))) rfl (fun fR => ?_) (fun fR => ?_)
    ·replace Jx:=Ym fR Jx
     refine zR ?_
     exact cM Jx
    replace Jx:=Yl fR Jx
    refine zK ?_
    exact cM Jx
   refine zR ?_
   exact cM Zu
  replace Zu:=Yl nO Zu
  exact zEx Zu
 try simp only [Qj,Xr,↓reduceIte,Nat.reduceEqDiff]
 refine zD [4,5] [false] ?_
 refine zQ [2,3] ?_
 exact Jo [(vI wV.1),(vI wV.2)]
attribute [local push_cast] Try.results11 Try.results12 Try.results23 Try.results28 Try.results29 Try.results48 Try.results49 Try.results5 Try.results50 Try.results53 Bool.and_true List.getD_cons_zero List.getD_cons_succ or_false bne_iff_ne bne_eq_false_iff_eq Bool.not_not pM List.length_append Int.le_refl rH Yb Z8 lI Zgf Zck Zcl Zm4 Yo uM kW lH Zr9 Zjz pW Zcx kP nH nW Zh8 Zd2 fF oH uK Za8 Zbm Zcm wU
def cG (Q2:(Zd→Int→Option Bool)):Prop:=∀ {a0:Zd} {a1:Int} {r:Bool} {O:Objs} {n:Nat},Q2 a0 a1=some r→GTo Try.prog 11 [.agg (Zl a0),(vI a1)] O n ((vB r)) O n
def hC (Kf:(Int→Zo→Int→Option Bool)):Prop:=∀ {a0:Int} {a1:Zo} {a2:Int} {r:Bool} {O:Objs} {n:Nat},Kf a0 a1 a2=some r→GTo Try.prog 23 [(vI a0),.agg (Xk a1),(vI a2)] O n ((vB r)) O n
theorem Zbl {Q2:(Zd→Int→Option Bool)} {Kf:(Int→Zo→Int→Option Bool)} (eG:cG Q2) (zN:hC Kf) {a0:Zd} {a1:Int} {r:Bool} {O:Objs} {n:Nat} (h:zX Q2 Kf a0 a1=some r):GTo Try.prog 11 [.agg (Zl a0),(vI a1)] O n ((vB r)) O n:=by
 unfold zX at h
 refine uH Try.call11 Try.func11 fun hU Ye hN => ?_
 show W _ _ _ _ ⟨216,[],[(0,.agg (Zl a0)),(1,(vI a1))]⟩ (Yn O n []) _
 refine zQ [1,2] ?_
 refine Z7 ?_
 refine zQD [1,2,24] [none,none,none,none,none,none] ?_
 refine Yj (t:=(cond (cond (a1 == 0) true (decide (a0.Kind < 0))) true (decide (3 < a0.Kind)))) rfl (fun c58 => ?_) (fun c58 => ?_)
 ·replace h:=Ym c58 h
  refine zQ [4] ?_
  exact Jo [(vB false)]
 replace h:=Yl c58 h
 refine uZ [1,2] [true] ?_
 refine Z7 ?_
 obtain ⟨z3,Gy,h⟩:=bC h
 refine Qf (E':=⟨216,[],[(1,(vI a1)),(2,.ref n 0),(69,(vB z3))]⟩) (O':=(Yn O n [some ⟨false,30,11,1,(Zl a0)⟩])) (n0:=(n+1)) ?_ ?_
 ·rcases Bool.eq_false_or_eq_true (a0.Kind != 1) with c8 | c8
  ·replace Gy:=Ym c8 Gy
   obtain ⟨y6,hy6,Gy⟩:=bC Gy
   rcases Bool.eq_false_or_eq_true y6 with c9 | c9
   ·replace Gy:=Ym c9 Gy
    try rw [c9] at c8
    obtain ⟨y7,hy7,Gy⟩:=bC Gy
    refine Kc (Z6z (Yar [])) c8 c9 ?_
    refine zG ?_
    refine (nZ hy6).then ?_
    refine eR c8 c9 ?_
    refine zG ?_
    refine (nZ hy7).then ?_
    refine eR c8 c9 ?_
    refine zG ?_
    exact rS Gy c8 c9
   replace Gy:=Yl c9 Gy
   try rw [c9] at c8
   refine Kc (Z0k (Zxt (G7::G7::Z4x []))) c8 c9 ?_
   refine (nZ hy6).then ?_
   refine eR c8 c9 ?_
   exact rS Gy c8 c9
  replace Gy:=Yl c8 Gy
  refine yU (Zrp (Z0k (Znm (G7::Yao [])))) c8 ?_
  refine zG ?_
  exact xJ Gy c8
 refine Yj (t:=z3) rfl (fun c57 => ?_) (fun c57 => ?_)
 ·replace h:=Ym c57 h
  refine zQ [4] ?_
  exact Jo [(vB false)]
 replace h:=Yl c57 h
 refine uZ [1,2] [true] ?_
 refine Z7 ?_
 refine zQ [1,2,72] ?_
 refine Yj (t:=(a0.Kind == 1)) rfl (fun c56 => ?_) (fun c56 => ?_)
 ·replace h:=Ym c56 h
  obtain ⟨eU,lE,h⟩:=bC h
  refine Qf (E':=⟨216,[],[(4,(vB eU))]⟩) (O':=(Yn O n [none])) (n0:=(n+1)) ?_ ?_
  ·obtain ⟨y15,Zt6,lE⟩:=bC lE
   rcases Bool.eq_false_or_eq_true y15 with c17 | c17
   ·replace lE:=Ym c17 lE
    obtain ⟨y16,Zrd,lE⟩:=bC lE
    refine yU (Zxu (Znm [])) c17 ?_
    refine zG ?_
    refine (eV Zt6).then ?_
    refine zX1 c17 ?_
    refine zG ?_
    refine (eV Zrd).then ?_
    refine zX1 c17 ?_
    refine zG ?_
    exact xJ lE c17
   replace lE:=Yl c17 lE
   refine yU (Yah []) c17 ?_
   refine (eV Zt6).then ?_
   refine zX1 c17 ?_
   exact xJ lE c17
  exact Jo [(vB eU)]
 replace h:=Yl c56 h
 refine uZ [1,2] [true] ?_
 refine zQ [1,2,5] ?_
 refine Z7 ?_
 refine zQd [1,2,5,6] [1,2,5,6] [true] ?_
 obtain ⟨z33,Ydv,h⟩:=bC h
 refine gV (J:=(Kh (fun z33=>JR n (⟨216,[],[(4,(vB false))]⟩:Env) (Yn O n [none]) (n+1)) (fun z33=>JX 0 n (⟨216,[],[(1,(vI a1)),(2,.ref n 0)]⟩:Env) (Yn O n [some ⟨false,30,11,1,(Zl a0)⟩]) (n+1)))) (z:=z33) ?_ fun hw => ?_
 ·refine Qy Ydv (fun Yf=>⟨216,[],[(1,(vI a1)),(2,.ref n 0),(5,(vI Yf.1)),(6,(vI Yf.2))]⟩) (fun Yf=>(Yn O n [some ⟨false,30,11,1,(Zl a0)⟩])) (Kh (fun z33=>JR n (⟨216,[],[(4,(vB false))]⟩:Env) (Yn O n [none]) (n+1)) (fun z33=>JX 0 n (⟨216,[],[(1,(vI a1)),(2,.ref n 0)]⟩:Env) (Yn O n [some ⟨false,30,11,1,(Zl a0)⟩]) (n+1))) ?_
  intro Yf x0_ Zu
  unfold Uk at Zu
  try dsimp only
  refine Z7 ?_
  refine zQ [1,2,5,6,97] ?_
  refine Yj (t:=(decide (Yf.2 < (a0.Words.length:Int)))) rfl (fun c32 => ?_) (fun c32 => ?_)
  ·replace Zu:=Ym c32 Zu
   refine uZ [1,2,5,6] [true] ?_
   refine Z7 ?_
   refine Xt ?_
   refine Z7 ?_
   obtain ⟨nT,Z9f,Z2e,Z2h,Z2k,Zu⟩:=bE (f:=Zf) oS (fun _=>rfl) (by decide) Zu
   refine dM [] Z2e Z2h Z2k ?_
   refine lO [1,2,5,6,7] [true,true] ?_
   obtain ⟨z22,fI,Zu⟩:=bC Zu
   refine Qf (E':=⟨216,[],[(1,(vI a1)),(2,.ref n 0),(6,(vI Yf.2)),(7,.ref (n+1) 0),(134,(vB z22))]⟩) (O':=(Yn O n [some ⟨false,30,11,1,(Zl a0)⟩,some ⟨false,48,4,1,(Qi nT)⟩])) (n0:=(n+2)) ?_ ?_
   ·rcases Bool.eq_false_or_eq_true (decide (nT.At≤Yf.1)) with zH | zH
    ·replace fI:=Ym zH fI
     refine yU (Zpq (Zfr [])) zH ?_
     refine zG ?_
     exact xJ fI zH
    replace fI:=Yl zH fI
    rcases Bool.eq_false_or_eq_true (decide (65534 < nT.At)) with fU | fU
    ·replace fI:=Ym fU fI
     try rw [fU] at zH
     refine Kc (Zpq (Zfr [])) zH fU ?_
     refine zG ?_
     exact rS fI zH fU
    replace fI:=Yl fU fI
    try rw [fU] at zH
    rcases Bool.eq_false_or_eq_true (nT.Mask == 0) with tC | tC
    ·replace fI:=Ym tC fI
     try rw [tC] at zH
     try rw [tC] at fU
     refine vH (Zpq (Zfr [])) zH fU tC ?_
     refine zG ?_
     exact gE fI zH fU tC
    replace fI:=Yl tC fI
    try rw [tC] at zH
    try rw [tC] at fU
    obtain ⟨y25,Zku,fI⟩:=bC fI
    rcases Bool.eq_false_or_eq_true y25 with wH | wH
    ·replace fI:=Ym wH fI
     try rw [wH] at zH
     try rw [wH] at fU
     try rw [wH] at tC
     obtain ⟨y26,Z2v,fI⟩:=bC fI
     refine Zwm (Zpq (Zdj [])) zH fU tC wH ?_
     refine zG ?_
     refine (gA Zku).then ?_
     refine zX4 zH fU tC wH ?_
     refine zG ?_
     refine (gA Z2v).then ?_
     refine zX4 zH fU tC wH ?_
     refine zG ?_
     exact Zwl fI zH fU tC wH
    replace fI:=Yl wH fI
    try rw [wH] at zH
    try rw [wH] at fU
    try rw [wH] at tC
    refine Zwm (Zpq (Zjd (Zro []))) zH fU tC wH ?_
    refine zG ?_
    refine (gA Zku).then ?_
    refine zX4 zH fU tC wH ?_
    refine zG ?_
    exact Zwl fI zH fU tC wH
   refine Yj (t:=z22) rfl (fun c31 => ?_) (fun c31 => ?_)
   ·replace Zu:=Ym c31 Zu
    refine zQ [4] ?_
    refine zW ?_
    exact zEy Zu
   replace Zu:=Yl c31 Zu
   refine uZ [1,2,6,7] [true,true] ?_
   refine zRd [1,2,5,6] [true,false] ?_
   refine zR ?_
   exact cM Zu
  replace Zu:=Yl c32 Zu
  exact zEx Zu
 rcases z33 with z33 | z33
 ·dsimp only [Kh] at hw h
  refine Uq hw ?_
  try simp only [Qj,Xr,↓reduceIte,Nat.reduceEqDiff]
  exact jO [(vB false)]
 dsimp only [Kh] at hw h
 refine X7 hw ?_
 try simp only [Qj,Xr,↓reduceIte,Nat.reduceEqDiff]
 refine zD [1,2] [true] ?_
 refine zQ [1,2,5] ?_
 refine Z7 ?_
 refine zQd [1,2,5,8] [1,2,5,8] [true] ?_
 obtain ⟨z45,Ydw,h⟩:=bC h
 refine gV (J:=(Kh (fun z45=>JR n (⟨216,[],[(4,(vB false))]⟩:Env) (Yn O n [none]) (n+1)) (fun z45=>JX 2 n (⟨216,[],[(1,(vI a1)),(2,.ref n 0)]⟩:Env) (Yn O n [some ⟨false,30,11,1,(Zl a0)⟩]) (n+1)))) (z:=z45) ?_ fun hw => ?_
 ·refine Qy Ydw (fun xK=>⟨216,[],[(1,(vI a1)),(2,.ref n 0),(5,(vI xK.1)),(8,(vI xK.2))]⟩) (fun xK=>(Yn O n [some ⟨false,30,11,1,(Zl a0)⟩])) (Kh (fun z45=>JR n (⟨216,[],[(4,(vB false))]⟩:Env) (Yn O n [none]) (n+1)) (fun z45=>JX 2 n (⟨216,[],[(1,(vI a1)),(2,.ref n 0)]⟩:Env) (Yn O n [some ⟨false,30,11,1,(Zl a0)⟩]) (n+1))) ?_
  intro xK x1_ Js
  unfold Ul at Js
  try dsimp only
  refine Z7 ?_
  refine zQ [1,2,5,8,141] ?_
  refine Yj (t:=(decide (xK.2 < (a0.Kids.length:Int)))) rfl (fun c44 => ?_) (fun c44 => ?_)
  ·replace Js:=Ym c44 Js
   refine uZ [1,2,5,8] [true] ?_
   refine Z7 ?_
   refine Xt ?_
   refine Z7 ?_
   obtain ⟨x35,Yfo,Yc0,Yc3,Yc7,Js⟩:=bE (f:=Ze) aV (fun _=>rfl) (by decide) Js
   refine dM [] Yc0 Yc3 Yc7 ?_
   refine lO [1,2,5,8,9] [true,true] ?_
   obtain ⟨z37,Zas,Js⟩:=bC Js
   refine Qf (E':=⟨216,[],[(1,(vI a1)),(2,.ref n 0),(8,(vI xK.2)),(9,.ref (n+1) 0),(171,(vB z37))]⟩) (O':=(Yn O n [some ⟨false,30,11,1,(Zl a0)⟩,some ⟨false,50,12,1,(zJ x35)⟩])) (n0:=(n+2)) ?_ ?_
   ·rcases Bool.eq_false_or_eq_true (decide (x35.At≤xK.1)) with c40 | c40
    ·replace Zas:=Ym c40 Zas
     refine yU (Zpr (Zro [])) c40 ?_
     refine zG ?_
     exact xJ Zas c40
    replace Zas:=Yl c40 Zas
    rcases Bool.eq_false_or_eq_true (decide (65534 < x35.At)) with c41 | c41
    ·replace Zas:=Ym c41 Zas
     try rw [c41] at c40
     refine Kc (Zpr (Zro [])) c40 c41 ?_
     refine zG ?_
     exact rS Zas c40 c41
    replace Zas:=Yl c41 Zas
    try rw [c41] at c40
    rcases Bool.eq_false_or_eq_true (x35.E.Kind == 0) with c42 | c42
    ·replace Zas:=Ym c42 Zas
     try rw [c42] at c40
     try rw [c42] at c41
     refine vH (Zpr (Zro [])) c40 c41 c42 ?_
     refine zG ?_
     exact gE Zas c40 c41 c42
    replace Zas:=Yl c42 Zas
    try rw [c42] at c40
    try rw [c42] at c41
    obtain ⟨y39,Ydk,Zas⟩:=bC Zas
    refine vH (Zpr (Zjd [])) c40 c41 c42 ?_
    refine zG ?_
    refine (eG Ydk).then ?_
    refine zX3 c40 c41 c42 ?_
    refine zG ?_
    exact gE Zas c40 c41 c42
   refine Yj (t:=z37) rfl (fun c43 => ?_) (fun c43 => ?_)
   ·replace Js:=Ym c43 Js
    refine zQ [4] ?_
    refine zW ?_
    exact zEy Js
   replace Js:=Yl c43 Js
   refine uZ [1,2,8,9] [true,true] ?_
   refine zRd [1,2,5,8] [true,false] ?_
   refine zR ?_
   exact cM Js
  replace Js:=Yl c44 Js
  exact zEx Js
 rcases z45 with z45 | z45
 ·dsimp only [Kh] at hw h
  refine Uq hw ?_
  try simp only [Qj,Xr,↓reduceIte,Nat.reduceEqDiff]
  exact jO [(vB false)]
 dsimp only [Kh] at hw h
 refine X7 hw ?_
 try simp only [Qj,Xr,↓reduceIte,Nat.reduceEqDiff]
 refine lO [1,2] [true] ?_
 refine zQD [1,2,186] [none,none,none,none,none,none,none,none] ?_
 refine Yj (t:=(cond (a0.Kind == 3) (cond (decide (a0.List_ < 2)) true (decide (9 < a0.List_))) false)) rfl (fun c55 => ?_) (fun c55 => ?_)
 ·replace h:=Ym c55 h
  refine zQ [4] ?_
  exact Jo [(vB false)]
 replace h:=Yl c55 h
 refine uZ [1,2] [true] ?_
 refine Z7 ?_
 refine zQd [1,2,10] [1,2,10] [true] ?_
 obtain ⟨z52,Ydy,h⟩:=bC h
 refine gV (J:=(Kh (fun z52=>JR n (⟨216,[],[(4,(vB false))]⟩:Env) (Yn O n [none]) (n+1)) (fun z52=>JX 4 n (⟨216,[],[(2,.ref n 0)]⟩:Env) (Yn O n [some ⟨false,30,11,1,(Zl a0)⟩]) (n+1)))) (z:=z52) ?_ fun hw => ?_
 ·refine Qy Ydy (fun s2_=>⟨216,[],[(1,(vI a1)),(2,.ref n 0),(10,(vI s2_))]⟩) (fun s2_=>(Yn O n [some ⟨false,30,11,1,(Zl a0)⟩])) (Kh (fun z52=>JR n (⟨216,[],[(4,(vB false))]⟩:Env) (Yn O n [none]) (n+1)) (fun z52=>JX 4 n (⟨216,[],[(2,.ref n 0)]⟩:Env) (Yn O n [some ⟨false,30,11,1,(Zl a0)⟩]) (n+1))) ?_
  intro s2_ x2_ iX
  unfold Va at iX
  try dsimp only
  refine Z7 ?_
  refine zQ [1,2,10,191] ?_
  refine Yj (t:=(decide (s2_ < (a0.Ops.length:Int)))) rfl (fun c51 => ?_) (fun c51 => ?_)
  ·replace iX:=Ym c51 iX
   refine uZ [1,2,10] [true] ?_
   refine Z7 ?_
   refine Xt ?_
   refine Z7 ?_
   obtain ⟨x48,Yfp,Z74,Z8i,Z8v,iX⟩:=bE (f:=Zh) rJ (fun _=>rfl) (by decide) iX
   obtain ⟨y49,Zt8,iX⟩:=bC iX
   refine Jh Yd (by kernel_rfl) [] (by kernel_rfl) ?_
   refine zF3 Z74 Z8i Z8v ?_
   refine PCall.of (zN Zt8) ?_
   refine zF3 Z74 Z8i Z8v ?_
   refine zD [1,2,10,204] [true] ?_
   refine Yj (t:=(!y49)) rfl (fun c50 => ?_) (fun c50 => ?_)
   ·replace iX:=Ym c50 iX
    refine zQ [4] ?_
    refine zW ?_
    exact zEy iX
   replace iX:=Yl c50 iX
   refine uZ [1,2,10] [true] ?_
   refine zR ?_
   exact cM iX
  replace iX:=Yl c51 iX
  exact zEx iX
 rcases z52 with z52 | z52
 ·dsimp only [Kh] at hw h
  refine Uq hw ?_
  try simp only [Qj,Xr,↓reduceIte,Nat.reduceEqDiff]
  exact jO [(vB false)]
 dsimp only [Kh] at hw h
 refine X7 hw ?_
 try simp only [Qj,Xr,↓reduceIte,Nat.reduceEqDiff]
 refine lO [2] [true] ?_
 obtain ⟨y54,Ydn,h⟩:=bC h
 refine zCd (dE Ydn) [11,12] [false] ?_
 refine zQD [4] [none,none] ?_
 exact Jo [(vB (cond (decide (y54.1 < 1048576)) (decide (y54.2 < 1048576)) false))]
theorem Zfu {Q2:(Zd→Int→Option Bool)} {Kf:(Int→Zo→Int→Option Bool)} (eG:cG Q2) (zN:hC Kf) {a0:Int} {a1:Zo} {a2:Int} {r:Bool} {O:Objs} {n:Nat} (h:qU Q2 Kf a0 a1 a2=some r):GTo Try.prog 23 [(vI a0),.agg (Xk a1),(vI a2)] O n ((vB r)) O n:=by
 unfold qU at h
 refine uH Try.call23 Try.func23 fun hU Ye hN => ?_
 show W _ _ _ _ ⟨121,[],[(0,(vI a0)),(1,.agg (Xk a1)),(2,(vI a2))]⟩ (Yn O n []) _
 refine zQ [0,2,4] ?_
 refine Z7 ?_
 refine zQ [0,2,4,10] ?_
 refine Yj (t:=(a1.Kind == 0)) rfl (fun wH => ?_) (fun wH => ?_)
 ·replace h:=Ym wH h
  obtain ⟨z2,wD,h⟩:=bC h
  refine Qf (E':=⟨121,[],[(6,(vB z2))]⟩) (O':=(Yn O n [none])) (n0:=(n+1)) ?_ ?_
  ·rcases Bool.eq_false_or_eq_true (decide (1≤a1.N)) with c5 | c5
   ·replace wD:=Ym c5 wD
    rcases Bool.eq_false_or_eq_true (decide (a1.N≤1048576)) with c6 | c6
    ·replace wD:=Ym c6 wD
     try rw [c6] at c5
     rcases Bool.eq_false_or_eq_true ((a1.L.length:Int) == 0) with c7 | c7
     ·replace wD:=Ym c7 wD
      try rw [c7] at c5
      try rw [c7] at c6
      obtain ⟨y4,hy4,wD⟩:=bC wD
      refine vH (Zpr (Zxu [])) c5 c6 c7 ?_
      refine zG ?_
      refine (yN hy4).then ?_
      refine zX3 c5 c6 c7 ?_
      refine zG ?_
      exact gE wD c5 c6 c7
     replace wD:=Yl c7 wD
     try rw [c7] at c5
     try rw [c7] at c6
     refine vH (Zpr (Zxt [])) c5 c6 c7 ?_
     refine zG ?_
     exact gE wD c5 c6 c7
    replace wD:=Yl c6 wD
    try rw [c6] at c5
    refine Kc (Zpr (Zxt [])) c5 c6 ?_
    refine zG ?_
    exact rS wD c5 c6
   replace wD:=Yl c5 wD
   refine yU (Zpr (Zxt [])) c5 ?_
   refine zG ?_
   exact xJ wD c5
  exact Jo [(vB z2)]
 replace h:=Yl wH h
 refine uZ [0,2,4] [true] ?_
 refine Z7 ?_
 refine zQD [0,2,4,42] [none,none,none,none,none,none] ?_
 refine Yj (t:=(cond (cond (a1.N != 0) true (decide (a1.Kind < 0))) true (decide (3 < a1.Kind)))) rfl (fun tC => ?_) (fun tC => ?_)
 ·replace h:=Ym tC h
  refine zQ [6] ?_
  exact Jo [(vB false)]
 replace h:=Yl tC h
 refine uZ [0,2,4] [true] ?_
 refine Z7 ?_
 refine zQ [0,2,4,45] ?_
 refine Yj (t:=(decide (a1.Kind < 3))) rfl (fun fU => ?_) (fun fU => ?_)
 ·replace h:=Ym fU h
  refine Z7 ?_
  refine zQd [0,4,7] [0,4,7] [true] ?_
  obtain ⟨wV,Zkv,h⟩:=bC h
  refine gV (J:=(Kh (fun wV=>JR n (⟨121,[],[(6,(vB false))]⟩:Env) (Yn O n [none]) (n+1)) (fun wV=>JX 0 n (⟨121,[],[(4,.ref n 0)]⟩:Env) (Yn O n [some ⟨false,41,14,1,(Xk a1)⟩]) (n+1)))) (z:=wV) ?_ fun hw => ?_
  ·refine Qy Zkv (fun Yf=>⟨121,[],[(0,(vI a0)),(4,.ref n 0),(7,(vI Yf))]⟩) (fun Yf=>(Yn O n [some ⟨false,41,14,1,(Xk a1)⟩])) (Kh (fun wV=>JR n (⟨121,[],[(6,(vB false))]⟩:Env) (Yn O n [none]) (n+1)) (fun wV=>JX 0 n (⟨121,[],[(4,.ref n 0)]⟩:Env) (Yn O n [some ⟨false,41,14,1,(Xk a1)⟩]) (n+1))) ?_
   intro Yf x0_ Zu
   unfold aQ at Zu
   try dsimp only
   refine Z7 ?_
   refine zQ [0,4,7,50] ?_
   refine Yj (t:=(decide (Yf < (a1.L.length:Int)))) rfl (fun nO => ?_) (fun nO => ?_)
   ·replace Zu:=Ym nO Zu
    refine uZ [0,4,7] [true] ?_
    refine Z7 ?_
    refine Xt ?_
    refine Z7 ?_
    obtain ⟨l10,Z5k,Z5r,Z58,Z6g,Zu⟩:=bS (lo:=(some (.i64,Yf))) (hi:=(some (.i64,(IntKind.i64.wrap (Yf+1))))) (f:=Za) rfl rfl zA mY (fun _=>rfl) Zu
    obtain ⟨y11,Z6m,Zu⟩:=bC Zu
    refine Zwm [] Z5k Z5r Z58 Z6g ?_
    refine GCalls.argsW ?_ ((eV Z6m).then ?_)
    ·exact Yfh Z5k Z5r Z58 Z6g
    refine zX4 Z5k Z5r Z58 Z6g ?_
    refine zD [0,4,7,62] [true] ?_
    refine Yj (t:=(!y11)) rfl (fun fR => ?_) (fun fR => ?_)
    ·replace Zu:=Ym fR Zu
     refine zQ [6] ?_
     refine zW ?_
     exact zEy Zu
    replace Zu:=Yl fR Zu
    refine uZ [0,4,7] [true] ?_
    refine zR ?_
    exact cM Zu
   replace Zu:=Yl nO Zu
   exact zEx Zu
  rcases wV with wV | wV
  ·dsimp only [Kh] at hw h
   refine Uq hw ?_
   try simp only [Qj,Xr,↓reduceIte,Nat.reduceEqDiff]
   exact jO [(vB false)]
  dsimp only [Kh] at hw h
  refine X7 hw ?_
  try simp only [Qj,Xr,↓reduceIte,Nat.reduceEqDiff]
  refine zD [4] [true] ?_
  obtain ⟨z16,Zni,h⟩:=bC h
  refine Qf (E':=⟨121,[],[(6,(vB z16))]⟩) (O':=(Yn O n [none])) (n0:=(n+1)) ?_ ?_
  ·rcases Bool.eq_false_or_eq_true (decide (0 < (a1.L.length:Int))) with mM | mM
   ·replace Zni:=Ym mM Zni
    obtain ⟨y18,Z6o,Zni⟩:=bC Zni
    refine yU (Zxu []) mM ?_
    refine (yN Z6o).then ?_
    refine zX1 mM ?_
    exact xJ Zni mM
   replace Zni:=Yl mM Zni
   refine yU (Zxt []) mM ?_
   exact xJ Zni mM
  exact Jo [(vB z16)]
 replace h:=Yl fU h
 refine uZ [0,2,4] [true] ?_
 refine Z7 ?_
 obtain ⟨z21,vT,h⟩:=bC h
 refine Qf (E':=⟨121,[],[(0,(vI a0)),(4,.ref n 0),(92,(vB z21))]⟩) (O':=(Yn O n [some ⟨false,41,14,1,(Xk a1)⟩])) (n0:=(n+1)) ?_ ?_
 ·rcases Bool.eq_false_or_eq_true (decide (0 < (a1.L.length:Int))) with c24 | c24
  ·replace vT:=Ym c24 vT
   refine yU (Zpq (Z3a [])) c24 ?_
   refine zG ?_
   exact xJ vT c24
  replace vT:=Yl c24 vT
  rcases Bool.eq_false_or_eq_true (a1.E.Kind == 0) with nM | nM
  ·replace vT:=Ym nM vT
   try rw [nM] at c24
   refine Kc (Zpq (Z3a [])) c24 nM ?_
   refine zG ?_
   exact rS vT c24 nM
  replace vT:=Yl nM vT
  try rw [nM] at c24
  rcases Bool.eq_false_or_eq_true (decide (a0≤7)) with oM | oM
  ·replace vT:=Ym oM vT
   try rw [oM] at c24
   try rw [oM] at nM
   refine vH (Zpq (Z3a [])) c24 nM oM ?_
   refine zG ?_
   exact gE vT c24 nM oM
  replace vT:=Yl oM vT
  try rw [oM] at c24
  try rw [oM] at nM
  obtain ⟨y23,Z2u,vT⟩:=bC vT
  refine vH (Zpq (Yau [])) c24 nM oM ?_
  refine zG ?_
  refine (eG Z2u).then ?_
  refine zX3 c24 nM oM ?_
  refine zG ?_
  exact gE vT c24 nM oM
 refine Yj (t:=z21) rfl (fun zH => ?_) (fun zH => ?_)
 ·replace h:=Ym zH h
  refine zQ [6] ?_
  exact Jo [(vB false)]
 replace h:=Yl zH h
 refine uZ [0,4] [true] ?_
 refine zQD [6] [none,none,none,none,none,none,none,none,none,none,none,none,none,none,none,none,none,none,none,none,none,none] ?_
 exact Jo [(vB (cond (cond (a0 == 8) true (a1.E.Kind == 2)) true (cond (cond (a1.E.Kind == 1) (a1.E.Old.Kind == 1) false) (a1.E.New.Kind == 1) false)))]
theorem uO:∀ k,(cG ((Xu k).1))∧(hC ((Xu k).2)):=fun k=>by
 induction k with
 | zero=>exact ⟨@fun a0 a1 r O n h=>(nomatch (show (none:Option _)=some _ from h)),@fun a0 a1 a2 r O n h=>(nomatch (show (none:Option _)=some _ from h))⟩
 | succ k ih=>exact ⟨@fun a0 a1 r O n h=>Zbl (ih.1) (ih.2)  h,@fun a0 a1 a2 r O n h=>Zfu (ih.1) (ih.2)  h⟩
theorem Y0 {ba:Nat} {E:Env} {O O':Objs} {n i j k len:Nat} {q qj:GObj} (hi:O i=some q) (hk:q.cells[k]? = some (.row j len)) (hj:O j=some qj) (hij:i≠j) (hO:((O.upd j none).upd n (some qj)).upd i (some ⟨q.row,q.ty,q.sz,q.n,q.cells.set k (.row n len)⟩)=O') (hb:ba≤n):Fit2 ba E O n E O' (n+1):=hO ▸ Z1q hi hk hj hij hb
theorem tI {a0:Zd} {a1:Int} {r:Bool} {O:Objs} {n:Nat} (h:fC a0 a1=some r):GTo Try.prog 11 [.agg (Zl a0),(vI a1)] O n ((vB r)) O n:=by
 obtain ⟨k,hk⟩:=pV h
 exact (uO k).1  hk
def cE (Jq:(Zd→Option Bool)):Prop:=∀ {a0:Zd} {r:Bool} {O:Objs} {n:Nat},Jq a0=some r→GTo Try.prog 12 [.agg (Zl a0)] O n ((vB r)) O n
theorem Zbk {Jq:(Zd→Option Bool)} (fE:cE Jq) {a0:Zd} {r:Bool} {O:Objs} {n:Nat} (h:yX Jq a0=some r):GTo Try.prog 12 [.agg (Zl a0)] O n ((vB r)) O n:=by
 unfold yX at h
 refine uH Try.call12 Try.func12 fun hU Ye hN => ?_
 show W _ _ _ _ ⟨48,[],[(0,.agg (Zl a0))]⟩ (Yn O n []) _
 refine zQ [1] ?_
 refine Z7 ?_
 obtain ⟨y2,kE,h⟩:=bC h
 refine zCd (dE kE) [1,3,4] [true] ?_
 refine Z7 ?_
 refine zQD [1,17] [none,none] ?_
 refine Yj (t:=(cond (decide (2000 < y2.1)) true (decide (2000 < y2.2)))) rfl (fun c21 => ?_) (fun c21 => ?_)
 ·replace h:=Ym c21 h
  refine zQ [2] ?_
  exact Jo [(vB false)]
 replace h:=Yl c21 h
 refine uZ [1] [true] ?_
 refine Z7 ?_
 refine zQd [1,5] [1,5] [true] ?_
 obtain ⟨gO,Gt,h⟩:=bC h
 refine gV (J:=(Kh (fun gO=>JR n (⟨48,[],[(2,(vB false))]⟩:Env) (Yn O n [none]) (n+1)) (fun gO=>JX 0 n (⟨48,[],[(1,.ref n 0)]⟩:Env) (Yn O n [some ⟨false,30,11,1,(Zl a0)⟩]) (n+1)))) (z:=gO) ?_ fun hw => ?_
 ·refine Qy Gt (fun Yf=>⟨48,[],[(1,.ref n 0),(5,(vI Yf))]⟩) (fun Yf=>(Yn O n [some ⟨false,30,11,1,(Zl a0)⟩])) (Kh (fun gO=>JR n (⟨48,[],[(2,(vB false))]⟩:Env) (Yn O n [none]) (n+1)) (fun gO=>JX 0 n (⟨48,[],[(1,.ref n 0)]⟩:Env) (Yn O n [some ⟨false,30,11,1,(Zl a0)⟩]) (n+1))) ?_
  intro Yf x0_ Zu
  unfold aZ at Zu
  try dsimp only
  refine Z7 ?_
  refine zQ [1,5,22] ?_
  refine Yj (t:=(decide (Yf < (a0.Kids.length:Int)))) rfl (fun iB => ?_) (fun iB => ?_)
  ·replace Zu:=Ym iB Zu
   refine uZ [1,5] [true] ?_
   refine Z7 ?_
   refine Xt ?_
   refine Z7 ?_
   obtain ⟨x6,hx6,ax6,bx6,cx6,Zu⟩:=bE (f:=Ze) aV (fun _=>rfl) (by decide) Zu
   have g7:=iZ (f:=Ze) (off:=1) (sz:=12) xP (fun _=>rfl) (by decide) (by decide) hx6
   obtain ⟨y8,hy8,Zu⟩:=bC Zu
   refine Zor [] ax6 bx6 cx6 g7 ?_
   refine (fE hy8).then ?_
   refine zF4 ax6 bx6 cx6 g7 ?_
   refine zD [1,5,32] [true] ?_
   refine Yj (t:=(!y8)) rfl (fun c9 => ?_) (fun c9 => ?_)
   ·replace Zu:=Ym c9 Zu
    refine zQ [2] ?_
    refine zW ?_
    exact zEy Zu
   replace Zu:=Yl c9 Zu
   refine uZ [1,5] [true] ?_
   refine zR ?_
   exact cM Zu
  replace Zu:=Yl iB Zu
  exact zEx Zu
 rcases gO with gO | gO
 ·dsimp only [Kh] at hw h
  refine Uq hw ?_
  try simp only [Qj,Xr,↓reduceIte,Nat.reduceEqDiff]
  exact jO [(vB false)]
 dsimp only [Kh] at hw h
 refine X7 hw ?_
 try simp only [Qj,Xr,↓reduceIte,Nat.reduceEqDiff]
 refine lO [1] [true] ?_
 refine zQd [1,6] [1,6] [true] ?_
 obtain ⟨z20,Yds,h⟩:=bC h
 refine gV (J:=(Kh (fun z20=>JR n (⟨48,[],[(2,(vB false))]⟩:Env) (Yn O n [none]) (n+1)) (fun z20=>JX 2 n (⟨48,[],[]⟩:Env) (Yn O n [none]) (n+1)))) (z:=z20) ?_ fun hw => ?_
 ·refine Qy Yds (fun xK=>⟨48,[],[(1,.ref n 0),(6,(vI xK))]⟩) (fun xK=>(Yn O n [some ⟨false,30,11,1,(Zl a0)⟩])) (Kh (fun z20=>JR n (⟨48,[],[(2,(vB false))]⟩:Env) (Yn O n [none]) (n+1)) (fun z20=>JX 2 n (⟨48,[],[]⟩:Env) (Yn O n [none]) (n+1))) ?_
  intro xK x1_ Js
  unfold cZ at Js
  try dsimp only
  refine Z7 ?_
  refine zQ [1,6,37] ?_
  refine Yj (t:=(decide (xK < (a0.Ops.length:Int)))) rfl (fun mM => ?_) (fun mM => ?_)
  ·replace Js:=Ym mM Js
   refine uZ [1,6] [true] ?_
   refine Z7 ?_
   refine Xt ?_
   refine Z7 ?_
   obtain ⟨kO,Z6k,Z2d,Z2g,Z2j,Js⟩:=bE (f:=Zh) rJ (fun _=>rfl) (by decide) Js
   have g16:=iZ (f:=Zh) (off:=3) (sz:=14) xP (fun _=>rfl) (by decide) (by decide) Z6k
   obtain ⟨y17,Zt7,Js⟩:=bC Js
   refine Zor [] Z2d Z2g Z2j g16 ?_
   refine (fE Zt7).then ?_
   refine zF4 Z2d Z2g Z2j g16 ?_
   refine zD [1,6,47] [true] ?_
   refine Yj (t:=(!y17)) rfl (fun eM => ?_) (fun eM => ?_)
   ·replace Js:=Ym eM Js
    refine zQ [2] ?_
    refine zW ?_
    exact zEy Js
   replace Js:=Yl eM Js
   refine uZ [1,6] [true] ?_
   refine zR ?_
   exact cM Js
  replace Js:=Yl mM Js
  exact zEx Js
 rcases z20 with z20 | z20
 ·dsimp only [Kh] at hw h
  refine Uq hw ?_
  try simp only [Qj,Xr,↓reduceIte,Nat.reduceEqDiff]
  exact jO [(vB false)]
 dsimp only [Kh] at hw h
 refine X7 hw ?_
 try simp only [Qj,Xr,↓reduceIte,Nat.reduceEqDiff]
 refine zD [] [false] ?_
 refine zQ [2] ?_
 exact Jo [(vB true)]
theorem sO:∀ k,(cE (V3 k)):=fun k=>by
 induction k with
 | zero=>exact @fun a0 r O n h=>(nomatch (show (none:Option _)=some _ from h))
 | succ k ih=>exact @fun a0 r O n h=>Zbk (ih)  h
theorem Zda {a0:Zd} {r:Bool} {O:Objs} {n:Nat} (h:eC a0=some r):GTo Try.prog 12 [.agg (Zl a0)] O n ((vB r)) O n:=by
 obtain ⟨k,hk⟩:=pV h
 exact (sO k)  hk
theorem iC {a0:Zd} {r:Bool} {O:Objs} {n:Nat} (h:zY a0=some r):GTo Try.prog 5 [.agg (Zl a0)] O n ((vB r)) O n:=by
 unfold zY at h
 refine uH Try.call5 Try.func5 fun hU Ye hN => ?_
 show W _ _ _ _ ⟨13,[],[(0,.agg (Zl a0))]⟩ (Yn O n []) _
 refine zQ [1] ?_
 obtain ⟨z4,hz4,h⟩:=bC h
 refine Qf (E':=⟨13,[],[(2,(vB z4))]⟩) (O':=(Yn O n [none])) (n0:=(n+1)) ?_ ?_
 ·obtain ⟨y8,hy8,hz4⟩:=bC hz4
  rcases Bool.eq_false_or_eq_true y8 with jF | jF
  ·replace hz4:=Ym jF hz4
   obtain ⟨y9,hy9,hz4⟩:=bC hz4
   rcases Bool.eq_false_or_eq_true y9 with fR | fR
   ·replace hz4:=Ym fR hz4
    try rw [fR] at jF
    obtain ⟨vC,Znf,hz4⟩:=bC hz4
    refine Kc (Z0k []) jF fR ?_
    refine (mD hy8).then ?_
    refine eR jF fR ?_
    refine (tI hy9).then ?_
    refine eR jF fR ?_
    refine (Zda Znf).then ?_
    refine eR jF fR ?_
    exact rS hz4 jF fR
   replace hz4:=Yl fR hz4
   try rw [fR] at jF
   refine Kc (G7::G7::[X6,X6]) jF fR ?_
   refine (mD hy8).then ?_
   refine eR jF fR ?_
   refine (tI hy9).then ?_
   refine eR jF fR ?_
   exact rS hz4 jF fR
  replace hz4:=Yl jF hz4
  refine yU (Z6y []) jF ?_
  refine (mD hy8).then ?_
  refine zX1 jF ?_
  exact xJ hz4 jF
 exact Jo [(vB z4)]
theorem tK {a0:(List Int)} {r:(List Int)} {O:Objs} {n:Nat} (h:mZ a0=some r):GTo Try.prog 48 [(sL (eI .u64) a0)] O n ((sL (eI .u64) r)) O n:=by
 unfold mZ at h
 refine uH Try.call48 Try.func48 fun hU Ye hN => ?_
 show W _ _ _ _ ⟨22,[],[(0,(sL (eI .u64) a0))]⟩ (Yn O n []) _
 refine zQ [0] ?_
 refine zQ [0,3] ?_
 refine Z7 ?_
 refine zD [0,3] [] ?_
 obtain ⟨z7,hz7,h⟩:=bC h
 refine X7 (E':=⟨22,[],[(0,(sL (eI .u64) a0)),(3,(vI z7))]⟩) (O':=(Yn O n [])) (n0:=n) ?_ ?_
 ·refine Qy hz7 (fun Yf=>⟨22,[],[(0,(sL (eI .u64) a0)),(3,(vI Yf))]⟩) (fun Yf=>(Yn O n [])) (fun z7=>JX 0 n (⟨22,[],[(0,(sL (eI .u64) a0)),(3,(vI z7))]⟩:Env) (Yn O n []) n) ?_
  intro Yf x0_ Zu
  unfold pX at Zu
  try dsimp only
  refine Z7 ?_
  obtain ⟨z2,wD,Zu⟩:=bC Zu
  refine Qf (E':=⟨22,[],[(0,(sL (eI .u64) a0)),(3,(vI Yf)),(15,(vB z2))]⟩) (O':=(Yn O n [])) (n0:=n) ?_ ?_
  ·rcases Bool.eq_false_or_eq_true (decide (0 < Yf)) with c5 | c5
   ·replace wD:=Ym c5 wD
    obtain ⟨x4,hx4,ax4,bx4,cx4,wD⟩:=bE (f:=(eI .u64)) yP (fun _=>rfl) (by decide) wD
    refine Zor (Zjd []) c5 ax4 bx4 cx4 ?_
    exact Z5g wD c5 ax4 bx4 cx4
   replace wD:=Yl c5 wD
   refine yU (Zro []) c5 ?_
   exact xJ wD c5
  refine Yj (t:=z2) rfl (fun c6 => ?_) (fun c6 => ?_)
  ·replace Zu:=Ym c6 Zu
   refine uZ [0,3] [] ?_
   refine Xt ?_
   refine zR ?_
   exact cM Zu
  replace Zu:=Yl c6 Zu
  exact zEx Zu
 try simp only [Qj,Xr,↓reduceIte,Nat.reduceEqDiff]
 refine zD [0,3] [] ?_
 obtain ⟨l9,al9,bl9,cl9,gl9,h⟩:=bS3 (lo:=none) (hi:=(.i64,z7)) (f:=(eI .u64)) rfl rfl Zc4 yP (fun _=>rfl) h
 refine Yct [2] al9 bl9 cl9 gl9 ?_
 exact Jo [(sL (eI .u64) l9)]
theorem uE {a0:(List Zb)} {r:(List Zb)} {O:Objs} {n:Nat} (h:kX a0=some r):GTo Try.prog 49 [(sL Za a0)] O n ((sL Za r)) O n:=by
 unfold kX at h
 refine uH Try.call49 Try.func49 fun hU Ye hN => ?_
 show W _ _ _ _ ⟨23,[],[(0,(sL Za a0))]⟩ (Yn O n []) _
 refine zQ [0] ?_
 refine zQ [0,3] ?_
 refine Z7 ?_
 refine zD [0,3] [] ?_
 obtain ⟨z10,Zng,h⟩:=bC h
 refine X7 (E':=⟨23,[],[(0,(sL Za a0)),(3,(vI z10))]⟩) (O':=(Yn O n [])) (n0:=n) ?_ ?_
 ·refine Qy Zng (fun Yf=>⟨23,[],[(0,(sL Za a0)),(3,(vI Yf))]⟩) (fun Yf=>(Yn O n [])) (fun z10=>JX 0 n (⟨23,[],[(0,(sL Za a0)),(3,(vI z10))]⟩:Env) (Yn O n []) n) ?_
  intro Yf x0_ Zu
  unfold nJ at Zu
  try dsimp only
  refine Z7 ?_
  obtain ⟨z3,Gy,Zu⟩:=bC Zu
  refine Qf (E':=⟨23,[],[(0,(sL Za a0)),(3,(vI Yf)),(16,(vB z3))]⟩) (O':=(Yn O n [])) (n0:=n) ?_ ?_
  ·rcases Bool.eq_false_or_eq_true (decide (0 < Yf)) with c8 | c8
   ·replace Gy:=Ym c8 Gy
    obtain ⟨x6,hx6,ax6,bx6,cx6,Gy⟩:=bE (f:=Za) mY (fun _=>rfl) (by decide) Gy
    have g7:=V1 (f:=Za) (sz:=3) wP (fun _=>rfl) (by decide) (by decide) hx6
    refine Ztl (Z0l []) c8 ax6 bx6 cx6 g7 ?_
    exact Ycn Gy c8 ax6 bx6 cx6 g7
   replace Gy:=Yl c8 Gy
   refine yU (Z0j []) c8 ?_
   exact xJ Gy c8
  refine Yj (t:=z3) rfl (fun c9 => ?_) (fun c9 => ?_)
  ·replace Zu:=Ym c9 Zu
   refine uZ [0,3] [] ?_
   refine Xt ?_
   refine zR ?_
   exact cM Zu
  replace Zu:=Yl c9 Zu
  exact zEx Zu
 try simp only [Qj,Xr,↓reduceIte,Nat.reduceEqDiff]
 refine zD [0,3] [] ?_
 obtain ⟨l12,Zw4,Zw8,Zxb,Zxg,h⟩:=bS3 (lo:=none) (hi:=(.i64,z10)) (f:=Za) rfl rfl zA mY (fun _=>rfl) h
 refine Yct [2] Zw4 Zw8 Zxb Zxg ?_
 exact Jo [(sL Za l12)]
def Zbh (cU:(Zb→Option Zb)):Prop:=∀ {a0:Zb} {r:Zb} {O:Objs} {n:Nat},cU a0=some r→GTo Try.prog 28 [.agg (Z9 a0)] O n (.agg (Z9 r)) O n
theorem Znp {cU:(Zb→Option Zb)} (Zlf:Zbh cU) {a0:Zb} {r:Zb} {O:Objs} {n:Nat} (h:iF cU a0=some r):GTo Try.prog 28 [.agg (Z9 a0)] O n (.agg (Z9 r)) O n:=by
 unfold iF at h
 refine uH Try.call28 Try.func28 fun hU Ye hN => ?_
 show W _ _ _ _ ⟨49,[],[(0,.agg (Z9 a0))]⟩ (Yn O n []) _
 refine zQ [1,2] ?_
 refine Z7 ?_
 refine zQ [1,2,10] ?_
 refine Yj (t:=(a0.Kind == 0)) rfl (fun c15 => ?_) (fun c15 => ?_)
 ·replace h:=Ym c15 h
  refine Z7 ?_
  refine zRd [2] [false,true] ?_
  exact Jo [.agg [(vI 0),nV,nV]]
 replace h:=Yl c15 h
 refine uZ [1,2] [true,true] ?_
 refine yJ [1,2,3,4] (Jh Yd (by kernel_rfl) [] (by kernel_rfl) ?_)
 refine zS ?_
 obtain ⟨z1,Jx,h⟩:=bC h
 refine Qf (E':=⟨49,[],[(1,.ref n 0),(2,.ref (n+1) 0),(3,(sL (eI .u64) z1.1)),(4,(sL Za z1.2))]⟩) (O':=(Yn O n [some ⟨false,25,3,1,(Z9 a0)⟩,some ⟨false,25,3,1,[(vI 0),nV,nV]⟩])) (n0:=(n+2)) ?_ ?_
 ·refine zQ [1,2,3,4,18] ?_
  refine Yj (t:=(a0.Kind == 1)) rfl (fun c4 => ?_) (fun c4 => ?_)
  ·replace Jx:=Ym c4 Jx
   obtain ⟨y2,kE,Jx⟩:=bC Jx
   obtain ⟨y3,hy3,Jx⟩:=bC Jx
   refine zC (tK kE) ?_
   refine zTs (uE hy3) ?_
   exact cM Jx
  replace Jx:=Yl c4 Jx
  refine zK ?_
  exact cM Jx
 refine Z7 ?_
 refine zRd [2,4,5] [false,true,true] ?_
 obtain ⟨z5,hz5,h⟩:=bC h
 refine Qf (E':=⟨49,[],[(2,.ref (n+1) 0),(4,(sL Za z1.2)),(5,.ref (n+2) 0)]⟩) (O':=(Yn O n [none,some ⟨false,25,3,1,[(vI 0),nV,nV]⟩,some ⟨false,25,3,1,[(vI a0.Kind),(sL (eI .u64) z1.1),.row (n+4) z5.length]⟩,none,some (oR 25 3 Za z5),none])) (n0:=(n+6)) ?_ ?_
 ·refine zQ [2,4,5,29] ?_
  refine Yj (t:=(decide (0 < (z1.2.length:Int)))) rfl (fun c7 => ?_) (fun c7 => ?_)
  ·replace hz5:=Ym c7 hz5
   obtain ⟨l6,al6,bl6,cl6,el6,hz5⟩:=bM2 (c:=56) rfl hz5
   have nl6:Int.toNat (z1.2.length:Int)=List.length l6:=by rw [el6,List.length_replicate]
   have fl6:∀ O O' n,bV O O' n (List.replicate (List.length l6) [.val (.int .i64 0),.val (.slice none 0 0),.val (.slice none 0 0)]).flatten (fl Za l6)=True:=fun O O' n=>by rw [← nl6,el6];exact eq_true (Zti (by simp only [push_cast,seval,Zc]) _)
   clear el6
   refine Yv Yd [] ?_
   simp only [push_cast,seval,Zc,al6,bl6,cl6,fl6,nl6,Ye,hN]
   obtain rfl:=sI hz5
   refine And.intro rfl ?_
   refine fr0 (k:=4) (k':=6) hU [5,1,2,4] [0,1,2,0,3,0] zM0 ?_ ?_
   ·simp only [push_cast,seval,Zc,al6,bl6,cl6,fl6,nl6,Ye,hN]
   exact lC
  replace hz5:=Yl c7 hz5
  refine zK ?_
  obtain rfl:=sI hz5
  refine And.intro rfl ?_
  refine Fit2.trans (E':=(⟨49,[],[(2,.ref (n+1) 0),(4,(sL Za z1.2)),(5,.ref (n+2) 0)]⟩:Env)) (O':=(Yn O n [none,some ⟨false,25,3,1,[(vI 0),nV,nV]⟩,some ⟨false,25,3,1,[(vI a0.Kind),(sL (eI .u64) z1.1),nV]⟩])) (n':=(n+3)) (Fit2.of (Jw hU rfl rfl ?_) (by omega)) ?_
  ·exact lC
  refine Fit2.trans (Gh (p:=(n+2)) (k:=2) (q:=⟨false,25,3,1,[(vI a0.Kind),(sL (eI .u64) z1.1),nV]⟩) 25 3 (by simp only [Gx,tX,List.getElem?_cons_zero,List.getElem?_cons_succ,Option.join_some,List.length_nil]) rfl (by omega)) ?_
  simp only [Up,Kg,oZ,List.set_cons_zero,List.set_cons_succ,List.cons_append,List.nil_append,List.length_cons,List.length_nil,Nat.zero_add,Nat.reduceAdd,Nat.reduceLT,Nat.add_assoc]
  refine Zc0 (k:=4) (k':=6) hU [5,1,2,4] [0,1,2,0,3,0] rfl rfl rfl rfl ⟨rfl,rfl⟩ ?_
  exact lC
 refine Z7 ?_
 refine zQd [2,5,34,35,36] [2,5,34,35,36] [false,true,true,false,true,false] ?_
 obtain ⟨wV,Zkv,h⟩:=bC h
 refine X7 (E':=⟨49,[],[(2,.ref (n+1) 0),(5,.ref (n+2) 0)]⟩) (O':=(Yn O n [none,some ⟨false,25,3,1,[(vI 0),nV,nV]⟩,some ⟨false,25,3,1,[(vI a0.Kind),(sL (eI .u64) z1.1),.row (n+4) wV.length]⟩,none,some (oR 25 3 Za wV),none])) (n0:=(n+6)) ?_ ?_
 ·refine Qy Zkv (fun Yf=>⟨49,[],[(2,.ref (n+1) 0),(5,.ref (n+2) 0),(34,(sL Za z1.2)),(35,(vI (z1.2.length:Int))),(36,(vI Yf.1))]⟩) (fun Yf=>(Yn O n [none,some ⟨false,25,3,1,[(vI 0),nV,nV]⟩,some ⟨false,25,3,1,[(vI a0.Kind),(sL (eI .u64) z1.1),.row (n+4) Yf.2.length]⟩,none,some (oR 25 3 Za Yf.2),none])) (fun wV=>JX 0 n (⟨49,[],[(2,.ref (n+1) 0),(5,.ref (n+2) 0)]⟩:Env) (Yn O n [none,some ⟨false,25,3,1,[(vI 0),nV,nV]⟩,some ⟨false,25,3,1,[(vI a0.Kind),(sL (eI .u64) z1.1),.row (n+4) wV.length]⟩,none,some (oR 25 3 Za wV),none]) (n+6)) ?_
  intro Yf x0_ Zu
  unfold jV at Zu
  try dsimp only
  refine zQ [2,5,34,35,36,37] ?_
  refine Z7 ?_
  refine Yj (t:=(decide (Yf.1 < (z1.2.length:Int)))) rfl (fun nO => ?_) (fun nO => ?_)
  ·replace Zu:=Ym nO Zu
   refine uZ [2,5,34,35,36] [false,true,true,false,true,false] ?_
   refine Z7 ?_
   refine Xt ?_
   refine Z7 ?_
   obtain ⟨x9,hx9,ax9,bx9,cx9,Zu⟩:=bE (f:=Za) mY (fun _=>rfl) (by decide) Zu
   refine dM [] ax9 bx9 cx9 ?_
   refine zD [2,5,6,7,34,35,36] [false,true,true,false,true,false,true] ?_
   obtain ⟨vC,Znf,Zu⟩:=bC Zu
   obtain ⟨sH,Ydb,Z7w,Z8a,Z8n,Zu⟩:=bE (f:=Za) mY (fun _=>rfl) (by decide) Zu
   have Z89:Vb (fl Za Yf.2) [.val (.int .i64 vC.Kind),.sl vC.Words.length (fl (eI .u64) vC.Words),.sl vC.Kids.length (fl Za vC.Kids)] (Int.toNat Yf.1 * 3)=some (fl Za (sP Yf.2 Yf.1 vC)):=(congrArg (fun c=>Vb (fl Za Yf.2) c (Int.toNat Yf.1 * 3)) (show [.val (.int .i64 vC.Kind),.sl vC.Words.length (fl (eI .u64) vC.Words),.sl vC.Kids.length (fl Za vC.Kids)]=Za vC from by simp only [Za,Jn,eI,eB,eS,eL])).trans (uT (f:=Za) (ti:=⟨.bool,3,0,[],false⟩) (x:=vC) (fun _=>rfl) (cD Ydb))
   refine oY Yd (by kernel_rfl) [false,false,false,false,false,false,true] [] (by kernel_rfl) ?_
   refine zF4 Z7w Z8a Z8n Z89 ?_
   refine PCall.of (Zlf Znf) ?_
   refine zF4 Z7w Z8a Z8n Z89 ?_
   refine zD [2,5,34,35,36] [false,true,true,false,true,false,false] ?_
   refine zR ?_
   exact cM Zu
  replace Zu:=Yl nO Zu
  exact zEx Zu
 try simp only [Qj,Xr,↓reduceIte,Nat.reduceEqDiff]
 refine lO [2,5] [false,true,true,false,true,false] ?_
 refine zRd [2] [false,true,false,false,true,false] ?_
 exact Jo [.agg [(vI a0.Kind),(sL (eI .u64) z1.1),.row (n+4) wV.length]]
theorem Zjb:∀ k,(Zbh (uX k)):=fun k=>by
 induction k with
 | zero=>exact @fun a0 r O n h=>(nomatch (show (none:Option _)=some _ from h))
 | succ k ih=>exact @fun a0 r O n h=>Znp (ih)  h
theorem nU {a0:Zb} {r:Zb} {O:Objs} {n:Nat} (h:zV a0=some r):GTo Try.prog 28 [.agg (Z9 a0)] O n (.agg (Z9 r)) O n:=by
 obtain ⟨k,hk⟩:=pV h
 exact (Zjb k)  hk
theorem uU {a0 r:List Zs} {O:Objs} {n:Nat} (h:Vc a0=some r):GTo Try.prog 29 [(sL Zf a0)] O n (.row n r.length) (Yn O n [some (oR 48 4 Zf r)]) (n+1):=by
 have h1:=Zot h
 have h2:=Zou h
 have h3:=Zjj h
 rw [List.nil_append] at h3
 subst h3
 simp only [List.length_nil,Nat.zero_add] at h1 h2
 clear h
 refine uH Try.call29 Try.func29 fun hU Ye hN => ?_
 show W _ _ _ _ ⟨8,[],[(0,(sL Zf r))]⟩ (Yn O n []) _
 refine zQ [0] ?_
 refine Zto 0 r.length (fl Zf r) rfl (Nat.le_of_ble_eq_true rfl) (Ka qX _) fun A c hA => ?_
 refine zQ [0,4] ?_
 cases A with
 | none =>
  obtain rfl:r=[]:=List.eq_nil_of_length_eq_zero (hA rfl)
  refine Yj (t:=true) rfl (fun _ => ?_) (fun hc=>by cases hc)
  refine zQ [2] ?_
  refine zW ?_
  refine Zek (k:=1) (L3:=[some ⟨true,48,4,0,[]⟩]) (E2:=⟨8,[],[(2,.row n 0),(2,nV)]⟩) (n3:=(n+1)) (.inr rfl) hU rfl [.row n 0] ?_ ?_
  ·have ha:=Zcp (ba:=n) (E:=⟨8,[],[(2,.val (.slice none 0 0))]⟩) (O:=(Yn O n [])) (n:=n) 2 48 4 rfl (by omega)
   simp only [Kg] at ha
   exact ha
  simp only [push_cast,seval,Zc,Try.results29,Ye,hN]
 | some A =>
  refine Yj (t:=false) rfl (fun hc=>by cases hc) (fun _ => ?_)
  refine zK ?_
  refine And.intro rfl (And.intro (Nat.le_of_ble_eq_true rfl) ?_)
  refine Z7 ?_
  refine Yv Yd [] ?_
  simp only [push_cast,seval,Zc,h1,h2,Ye,hN]
  refine zW ?_
  refine Zkj (.inr rfl) hU rfl [.row n r.length] (by omega) ?_
  simp only [push_cast,seval,Zc,Try.results29,Ye,hN]
theorem iY {a0:Y3} {r:Y3} {O:Objs} {n:Nat} {i0 Yt Y1 Y2:Nat} (Ys:i0 < n) (Jr:Yt < n) (Vn:Y1 < n) (V6:Y2 < n) (X4:i0≠Yt) (Qh:i0≠Y1) (Qs:i0≠Y2) (Qg:Yt≠Y1) (Qq:Yt≠Y2) (Qr:Y1≠Y2) (uC:O i0=some ⟨false,90,4,1,[.row Y2 a0.out.length,(vI a0.kept),.row Yt a0.gone.length,.row Y1 a0.come.length]⟩) (J7:O Yt=some (oR 25 3 Za a0.gone)) (U1:O Y1=some (oR 25 3 Za a0.come)) (Gj:O Y2=some (oR 41 14 Zh a0.out)) (h:Jv a0=some r):GTo Try.prog 53 [.ref i0 0] O n (.tup []) (Yn ((((O.upd Yt none).upd Y1 none).upd Y2 none).upd i0 (some ⟨false,90,4,1,[.row (n+2) r.out.length,(vI r.kept),.row n r.gone.length,.row (n+1) r.come.length]⟩)) n [some (oR 25 3 Za r.gone),some (oR 25 3 Za r.come),some (oR 41 14 Zh r.out)]) (n+3):=by
 unfold Jv at h
 refine vX Yd Try.call53 Try.func53 rfl (Nat.le_of_ble_eq_true rfl) (by omega) fun hU => ?_
 refine Xi (Y0 (k:=2) (by rw [Yb _ Ys];first | exact uC | exact Yo _ _ _ <;> rfl) (by rfl) (by rw [Yb _ Jr];exact J7) X4 (by simp only [push_cast,Nat.reduceAdd,Z8 _ _ Jr,Z8 _ _ Ys,oA X4] <;> rfl) (by omega)) ?_
 refine Xi (Y0 (k:=3) (by rw [Yb _ Ys];first | exact uC | exact Yo _ _ _ <;> rfl) (by rfl) (by rw [Yb _ Vn,Xe _ _ (Ne.symm Qh),Xe _ _ (Ne.symm Qg)];exact U1) Qh (by simp only [push_cast,Nat.reduceAdd,Z8 _ _ Vn,Z8 _ _ Ys,oA Qh] <;> rfl) (by omega)) ?_
 refine Xi (Y0 (k:=0) (by rw [Yb _ Ys];first | exact uC | exact Yo _ _ _ <;> rfl) (by rfl) (by rw [Yb _ V6,Xe _ _ (Ne.symm Qs),Xe _ _ (Ne.symm Qr),Xe _ _ (Ne.symm Qq)];exact Gj) Qs (by simp only [push_cast,Nat.reduceAdd,Z8 _ _ V6,Z8 _ _ Ys,oA Qs] <;> rfl) (by omega)) ?_
 have hU:=(Und.drop (Und.drop (Und.drop hU Yt) Y1) Y2)
 have Y4:∀ k,i0 < n+k:=fun k=>by omega
 have Ye:∀ o,Objs.upd (((O.upd Yt none).upd Y1 none).upd Y2 none) i0 o n=none:=fun o=>Xb hU Ys _ (Nat.le_refl _)
 have hN:∀ o k,Objs.upd (((O.upd Yt none).upd Y1 none).upd Y2 none) i0 o (n+k)=none:=fun o k=>Xb hU Ys _ (Nat.le_add_right _ _)
 show W _ _ _ _ ⟨73,[],[(0,.ref i0 0)]⟩ (Yn ((((O.upd Yt none).upd Y1 none).upd Y2 none).upd i0 (some ⟨false,90,4,1,[.row (n+2) a0.out.length,(vI a0.kept),.row n a0.gone.length,.row (n+1) a0.come.length]⟩)) n [some (oR 25 3 Za a0.gone),some (oR 25 3 Za a0.come),some (oR 41 14 Zh a0.out)]) _
 obtain ⟨z1,Jx,h⟩:=bC h
 refine Qf (E':=⟨73,[],[(0,.ref i0 0)]⟩) (O':=(Yn ((((O.upd Yt none).upd Y1 none).upd Y2 none).upd i0 (some ⟨false,90,4,1,[.row (n+2) z1.length,(vI a0.kept),.row n a0.gone.length,.row (n+1) a0.come.length]⟩)) n [some (oR 25 3 Za a0.gone),some (oR 25 3 Za a0.come),some (oR 41 14 Zh z1),none])) (n0:=(n+4)) ?_ ?_
 ·refine fZ [0,6] Ys Y4 ?_
  refine Yj (t:=(decide (0 < a0.kept))) rfl (fun c5 => ?_) (fun c5 => ?_)
  ·replace Jx:=Ym c5 Jx
   obtain ⟨l2,pl2,ql2,el2,Jx⟩:=bA (k:=1) rfl Jx
   obtain ⟨x3,hx3,ax3,bx3,cx3,Jx⟩:=bE (f:=Zh) rJ (fun _=>rfl) (by decide) Jx
   have gu4:Vb (fl Zh a0.out++[.val (.int .i64 0),.val (.int .i64 0),.val (.slice none 0 0),.val (.int .i64 0),.val (.int .i64 0),.val (.slice none 0 0),.val (.slice none 0 0),.val (.int .i64 0),.val (.slice none 0 0),.val (.slice none 0 0),.val (.slice none 0 0),.val (.slice none 0 0),.val (.int .i64 0),.val (.slice none 0 0)]) [.val (.int .i64 0),.val (.int .i64 a0.kept),.val (.slice none 0 0),.val (.int .i64 0),.val (.int .i64 0),.val (.slice none 0 0),.val (.slice none 0 0),.val (.int .i64 0),.val (.slice none 0 0),.val (.slice none 0 0),.val (.slice none 0 0),.val (.slice none 0 0),.val (.int .i64 0),.val (.slice none 0 0)] (List.length a0.out * 14)=some (fl Zh a0.out++[.val (.int .i64 0),.val (.int .i64 a0.kept),.val (.slice none 0 0),.val (.int .i64 0),.val (.int .i64 0),.val (.slice none 0 0),.val (.slice none 0 0),.val (.int .i64 0),.val (.slice none 0 0),.val (.slice none 0 0),.val (.slice none 0 0),.val (.slice none 0 0),.val (.int .i64 0),.val (.slice none 0 0)]):=U5 (f:=Zh) (sz:=14) (fun _=>rfl) rfl rfl
   refine V4 Yd (by kernel_rfl) [.plain,.low,.low,.low,.plain,.low,.low,.low,.plain,.low,.pass,.bar,.shp,.fill true,.shp,.shp,.fill false] (fun i=>i < (n+3)) [0,1,2,3,4,5,6,7,8,9,10,11,12,13,14,15,16] [.plain,.low,.low,.low,.plain,.low,.low,.low,.plain,.low,.pass,.bar,.shp,.fill true,.shp,.shp,.fill false] [] (by kernel_rfl) rfl ?_
   refine zF9 pl2 ql2 el2 ax3 bx3 cx3 gu4 Ys Y4 ?_
   refine zO ?_
   obtain rfl:=sI Jx
   refine And.intro rfl (Fit2.of (Xy hU rfl rfl ?_) (by omega))
   exact Zqf pl2 ql2 el2 ax3 bx3 cx3 gu4 Ys Y4
  replace Jx:=Yl c5 Jx
  refine zK ?_
  obtain rfl:=sI Jx
  refine And.intro rfl (Fit2.of (Xy hU rfl rfl ?_) (by omega))
  exact Qx Ys Y4
 obtain ⟨z6,hz6,h⟩:=bC h
 refine Qf (E':=⟨73,[],[(0,.ref i0 0)]⟩) (O':=(Yn ((((O.upd Yt none).upd Y1 none).upd Y2 none).upd i0 (some ⟨false,90,4,1,[.row (n+2) z6.1.length,(vI a0.kept),(sL Za z6.2),.row (n+1) a0.come.length]⟩)) n [none,some (oR 25 3 Za a0.come),some (oR 41 14 Zh z6.1),none,none])) (n0:=(n+5)) ?_ ?_
 ·refine fZ [0,27] Ys Y4 ?_
  refine Yj (t:=(decide (0 < (a0.gone.length:Int)))) rfl (fun fR => ?_) (fun fR => ?_)
  ·replace hz6:=Ym fR hz6
   refine lB ⟨73,[],[(0,.ref i0 0)]⟩ (Yn ((((O.upd Yt none).upd Y1 none).upd Y2 none).upd i0 (some ⟨false,90,4,1,[.row (n+2) z1.length,(vI a0.kept),(sL Za a0.gone),.row (n+1) a0.come.length]⟩)) n [none,some (oR 25 3 Za a0.come),some (oR 41 14 Zh z1),none]) (Xy hU rfl rfl ?_) ?_
   ·exact Qx Ys Y4
   obtain ⟨l9,pl9,ql9,el9,hz6⟩:=bA (k:=1) rfl hz6
   obtain ⟨dB,Zi9,Zqn,Zqq,Zqv,hz6⟩:=bE (f:=Zh) rJ (fun _=>rfl) (by decide) hz6
   have Z88:Vb (fl Zh z1++[.val (.int .i64 0),.val (.int .i64 0),.val (.slice none 0 0),.val (.int .i64 0),.val (.int .i64 0),.val (.slice none 0 0),.val (.slice none 0 0),.val (.int .i64 0),.val (.slice none 0 0),.val (.slice none 0 0),.val (.slice none 0 0),.val (.slice none 0 0),.val (.int .i64 0),.val (.slice none 0 0)]) [.val (.int .i64 1),.val (.int .i64 0),.sl a0.gone.length (fl Za a0.gone),.val (.int .i64 0),.val (.int .i64 0),.val (.slice none 0 0),.val (.slice none 0 0),.val (.int .i64 0),.val (.slice none 0 0),.val (.slice none 0 0),.val (.slice none 0 0),.val (.slice none 0 0),.val (.int .i64 0),.val (.slice none 0 0)] (List.length z1 * 14)=some (fl Zh z1++[.val (.int .i64 1),.val (.int .i64 0),.sl a0.gone.length (fl Za a0.gone),.val (.int .i64 0),.val (.int .i64 0),.val (.slice none 0 0),.val (.slice none 0 0),.val (.int .i64 0),.val (.slice none 0 0),.val (.slice none 0 0),.val (.slice none 0 0),.val (.slice none 0 0),.val (.int .i64 0),.val (.slice none 0 0)]):=U5 (f:=Zh) (sz:=14) (fun _=>rfl) rfl rfl
   refine V4 Yd (by kernel_rfl) [.plain,.low,.low,.low,.plain,.low,.low,.low,.plain,.low,.pass,.bar,.shp,.fill true,.shp,.shp,.fill false] (fun i=>i < (n+4)) [0,1,2,3,4,5,6,7,8,9,10,11,12,13,14,15,16] [.plain,.low,.low,.low,.plain,.low,.low,.low,.plain,.low,.pass,.bar,.shp,.fill true,.shp,.shp,.fill false] [] (by kernel_rfl) rfl ?_
   refine zF9 pl9 ql9 el9 Zqn Zqq Zqv Z88 Ys Y4 ?_
   refine zO ?_
   obtain rfl:=sI hz6
   refine And.intro rfl (Fit2.of (Xy hU rfl rfl ?_) (by omega))
   exact Zqf pl9 ql9 el9 Zqn Zqq Zqv Z88 Ys Y4
  replace hz6:=Yl fR hz6
  refine zK ?_
  obtain rfl:=sI hz6
  refine And.intro rfl (Fit2.of (Xy hU rfl rfl ?_) (by omega))
  exact Qx Ys Y4
 obtain ⟨z13,Znh,h⟩:=bC h
 refine Qf (E':=⟨73,[],[(0,.ref i0 0)]⟩) (O':=(Yn ((((O.upd Yt none).upd Y1 none).upd Y2 none).upd i0 (some ⟨false,90,4,1,[.row (n+2) z13.1.length,(vI a0.kept),(sL Za z6.2),(sL Za z13.2)]⟩)) n [none,none,some (oR 41 14 Zh z13.1),none,none,none])) (n0:=(n+6)) ?_ ?_
 ·refine fZ [0,48] Ys Y4 ?_
  refine Yj (t:=(decide (0 < (a0.come.length:Int)))) rfl (fun mM => ?_) (fun mM => ?_)
  ·replace Znh:=Ym mM Znh
   refine lB ⟨73,[],[(0,.ref i0 0)]⟩ (Yn ((((O.upd Yt none).upd Y1 none).upd Y2 none).upd i0 (some ⟨false,90,4,1,[.row (n+2) z6.1.length,(vI a0.kept),(sL Za z6.2),(sL Za a0.come)]⟩)) n [none,none,some (oR 41 14 Zh z6.1),none,none]) (Xy hU rfl rfl ?_) ?_
   ·exact Qx Ys Y4
   obtain ⟨l16,Ya3,Ya7,Z8w,Znh⟩:=bA (k:=1) rfl Znh
   obtain ⟨x17,Yfn,Z70,Z8e,Z8r,Znh⟩:=bE (f:=Zh) rJ (fun _=>rfl) (by decide) Znh
   have Z9a:Vb (fl Zh z6.1++[.val (.int .i64 0),.val (.int .i64 0),.val (.slice none 0 0),.val (.int .i64 0),.val (.int .i64 0),.val (.slice none 0 0),.val (.slice none 0 0),.val (.int .i64 0),.val (.slice none 0 0),.val (.slice none 0 0),.val (.slice none 0 0),.val (.slice none 0 0),.val (.int .i64 0),.val (.slice none 0 0)]) [.val (.int .i64 2),.val (.int .i64 0),.sl a0.come.length (fl Za a0.come),.val (.int .i64 0),.val (.int .i64 0),.val (.slice none 0 0),.val (.slice none 0 0),.val (.int .i64 0),.val (.slice none 0 0),.val (.slice none 0 0),.val (.slice none 0 0),.val (.slice none 0 0),.val (.int .i64 0),.val (.slice none 0 0)] (List.length z6.1 * 14)=some (fl Zh z6.1++[.val (.int .i64 2),.val (.int .i64 0),.sl a0.come.length (fl Za a0.come),.val (.int .i64 0),.val (.int .i64 0),.val (.slice none 0 0),.val (.slice none 0 0),.val (.int .i64 0),.val (.slice none 0 0),.val (.slice none 0 0),.val (.slice none 0 0),.val (.slice none 0 0),.val (.int .i64 0),.val (.slice none 0 0)]):=U5 (f:=Zh) (sz:=14) (fun _=>rfl) rfl rfl
   refine V4 Yd (by kernel_rfl) [.plain,.low,.low,.low,.plain,.low,.low,.low,.plain,.low,.pass,.bar,.shp,.fill true,.shp,.shp,.fill false] (fun i=>i < (n+5)) [0,1,2,3,4,5,6,7,8,9,10,11,12,13,14,15,16] [.plain,.low,.low,.low,.plain,.low,.low,.low,.plain,.low,.pass,.bar,.shp,.fill true,.shp,.shp,.fill false] [] (by kernel_rfl) rfl ?_
   refine zF9 Ya3 Ya7 Z8w Z70 Z8e Z8r Z9a Ys Y4 ?_
   refine zO ?_
   obtain rfl:=sI Znh
   refine And.intro rfl (Fit2.of (Xy hU rfl rfl ?_) (by omega))
   exact Zqf Ya3 Ya7 Z8w Z70 Z8e Z8r Z9a Ys Y4
  replace Znh:=Yl mM Znh
  refine zK ?_
  obtain rfl:=sI Znh
  refine And.intro rfl (Fit2.of (Xy hU rfl rfl ?_) (by omega))
  exact Qx Ys Y4
 refine Kc [] Ys Y4 ?_
 obtain rfl:=sI h
 refine Jl (k:=3) (i:=i0) (q1:=⟨false,90,4,1,[.row (n+2) z13.1.length,(vI 0),.row n ([]:List Zb).length,.row (n+1) ([]:List Zb).length]⟩) (L3:=[some (oR 25 3 Za ([]:List Zb)),some (oR 25 3 Za ([]:List Zb)),some (oR 41 14 Zh z13.1),none]) (E2:=(⟨73,[],[]⟩:Env)) (n3:=(n+4)) (.inl rfl) hU rfl [] ?_ ?_
 ·refine Fit2.trans (E':=(⟨73,[],[]⟩:Env)) (O':=(Yn ((((O.upd Yt none).upd Y1 none).upd Y2 none).upd i0 (some ⟨false,90,4,1,[.row (n+2) z13.1.length,(vI 0),nV,nV]⟩)) n [none,none,some (oR 41 14 Zh z13.1),none,none,none])) (n':=(n+6)) (Fit2.of (Xy hU rfl rfl ?_) (by omega)) ?_
  ·exact Qx Ys Y4
  refine Fit2.trans (Gh (p:=i0) (k:=2) (q:=⟨false,90,4,1,[.row (n+2) z13.1.length,(vI 0),nV,nV]⟩) 25 3 (by simp only [Gx,tX,List.getElem?_cons_zero,List.getElem?_cons_succ,Option.join_some,List.length_nil,Yo,Yb,Ys,Y4,Ye,hN]) rfl (by omega)) ?_
  simp only [Up,Kg,oZ,List.set_cons_zero,List.set_cons_succ,List.cons_append,List.nil_append,List.length_cons,List.length_nil,Nat.zero_add,Nat.reduceAdd,Nat.reduceLT,Nat.add_assoc,Z8,rH,Ys,Y4,Ye,hN]
  refine Fit2.trans (Gh (p:=i0) (k:=3) (q:=⟨false,90,4,1,[.row (n+2) z13.1.length,(vI 0),.row (n+6) ([]:List Zb).length,nV]⟩) 25 3 (by simp only [Gx,tX,List.getElem?_cons_zero,List.getElem?_cons_succ,Option.join_some,List.length_nil,Yo,Yb,Ys,Y4,Ye,hN]) rfl (by omega)) ?_
  simp only [Up,Kg,oZ,List.set_cons_zero,List.set_cons_succ,List.cons_append,List.nil_append,List.length_cons,List.length_nil,Nat.zero_add,Nat.reduceAdd,Nat.reduceLT,Nat.add_assoc,Z8,rH,Ys,Y4,Ye,hN]
  refine Zr4 (k:=8) (k':=4) hU [3,3,2,3,3,3,0,1] [6,7,2,0] rfl rfl rfl rfl ⟨rfl,rfl⟩ ?_
  exact Qx Ys Y4
 simp only [push_cast,seval,Zc,Try.results53,Ys,Y4,Ye,hN]
theorem eE {a0:Y3} {a1:Int} {r:Y3} {O:Objs} {n:Nat} {i0 Yt Y1 Y2:Nat} (Ys:i0 < n) (Jr:Yt < n) (Vn:Y1 < n) (V6:Y2 < n) (X4:i0≠Yt) (Qh:i0≠Y1) (Qs:i0≠Y2) (Qg:Yt≠Y1) (Qq:Yt≠Y2) (Qr:Y1≠Y2) (uC:O i0=some ⟨false,90,4,1,[.row Y2 a0.out.length,(vI a0.kept),.row Yt a0.gone.length,.row Y1 a0.come.length]⟩) (J7:O Yt=some (oR 25 3 Za a0.gone)) (U1:O Y1=some (oR 25 3 Za a0.come)) (Gj:O Y2=some (oR 41 14 Zh a0.out)) (h:Ga a0 a1=some r):GTo Try.prog 50 [.ref i0 0,(vI a1)] O n (.tup []) (Yn ((((O.upd Yt none).upd Y1 none).upd Y2 none).upd i0 (some ⟨false,90,4,1,[.row (n+2) r.out.length,(vI r.kept),.row n r.gone.length,.row (n+1) r.come.length]⟩)) n [some (oR 25 3 Za r.gone),some (oR 25 3 Za r.come),some (oR 41 14 Zh r.out)]) (n+3):=by
 unfold Ga at h
 refine vX Yd Try.call50 Try.func50 rfl (Nat.le_of_ble_eq_true rfl) (by omega) fun hU => ?_
 refine Xi (Y0 (k:=2) (by rw [Yb _ Ys];first | exact uC | exact Yo _ _ _ <;> rfl) (by rfl) (by rw [Yb _ Jr];exact J7) X4 (by simp only [push_cast,Nat.reduceAdd,Z8 _ _ Jr,Z8 _ _ Ys,oA X4] <;> rfl) (by omega)) ?_
 refine Xi (Y0 (k:=3) (by rw [Yb _ Ys];first | exact uC | exact Yo _ _ _ <;> rfl) (by rfl) (by rw [Yb _ Vn,Xe _ _ (Ne.symm Qh),Xe _ _ (Ne.symm Qg)];exact U1) Qh (by simp only [push_cast,Nat.reduceAdd,Z8 _ _ Vn,Z8 _ _ Ys,oA Qh] <;> rfl) (by omega)) ?_
 refine Xi (Y0 (k:=0) (by rw [Yb _ Ys];first | exact uC | exact Yo _ _ _ <;> rfl) (by rfl) (by rw [Yb _ V6,Xe _ _ (Ne.symm Qs),Xe _ _ (Ne.symm Qr),Xe _ _ (Ne.symm Qq)];exact Gj) Qs (by simp only [push_cast,Nat.reduceAdd,Z8 _ _ V6,Z8 _ _ Ys,oA Qs] <;> rfl) (by omega)) ?_
 have hU:=(Und.drop (Und.drop (Und.drop hU Yt) Y1) Y2)
 have Y4:∀ k,i0 < n+k:=fun k=>by omega
 have Ye:∀ o,Objs.upd (((O.upd Yt none).upd Y1 none).upd Y2 none) i0 o n=none:=fun o=>Xb hU Ys _ (Nat.le_refl _)
 have hN:∀ o k,Objs.upd (((O.upd Yt none).upd Y1 none).upd Y2 none) i0 o (n+k)=none:=fun o k=>Xb hU Ys _ (Nat.le_add_right _ _)
 show W _ _ _ _ ⟨19,[],[(0,.ref i0 0),(1,(vI a1))]⟩ (Yn ((((O.upd Yt none).upd Y1 none).upd Y2 none).upd i0 (some ⟨false,90,4,1,[.row (n+2) a0.out.length,(vI a0.kept),.row n a0.gone.length,.row (n+1) a0.come.length]⟩)) n [some (oR 25 3 Za a0.gone),some (oR 25 3 Za a0.come),some (oR 41 14 Zh a0.out)]) _
 obtain ⟨z1,Jx,h⟩:=bC h
 refine Qf (E':=⟨19,[],[(0,.ref i0 0),(1,(vI a1))]⟩) (O':=(Yn ((((O.upd Yt none).upd Y1 none).upd Y2 none).upd i0 (some ⟨false,90,4,1,[.row (n+6) z1.1.length,(vI z1.2.2.2),.row (n+7) z1.2.1.length,.row (n+8) z1.2.2.1.length]⟩)) n [none,none,none,none,none,none,some (oR 41 14 Zh z1.1),some (oR 25 3 Za z1.2.1),some (oR 25 3 Za z1.2.2.1)])) (n0:=(n+9)) ?_ ?_
 ·refine fZ [0,1,8] Ys Y4 ?_
  refine Yj (t:=(a0.kept == 0)) rfl (fun c3 => ?_) (fun c3 => ?_)
  ·replace Jx:=Ym c3 Jx
   obtain ⟨y2,kE,Jx⟩:=bC Jx
   refine Kc [] Ys Y4 ?_
   refine (iY (i0:=i0) (Yt:=n) (Y1:=(n+1)) (Y2:=(n+2)) (by omega) (by omega) (by omega) (by omega) (by omega) (by omega) (by omega) (by omega) (by omega) (by omega) (by simp only [push_cast,seval,Zc,Ya,Ys,Y4,Ye,hN] <;> rfl) (by simp only [push_cast,seval,Zc,Ya,Ys,Y4,Ye,hN] <;> rfl) (by simp only [push_cast,seval,Zc,Ya,Ys,Y4,Ye,hN] <;> rfl) (by simp only [push_cast,seval,Zc,Ya,Ys,Y4,Ye,hN] <;> rfl) kE).then ?_
   refine eR Ys Y4 ?_
   obtain rfl:=sI Jx
   refine And.intro rfl ?_
   refine uS (k:=6) (k':=9) hU [5,5,5,7,8,6] [0,0,0,0,0,0,5,3,4] (lT Ys) ?_ ?_
   ·exact Qx Ys Y4
   exact Qx Ys Y4
  replace Jx:=Yl c3 Jx
  refine zK ?_
  obtain rfl:=sI Jx
  refine And.intro rfl ?_
  refine uS (k:=3) (k':=9) hU [7,8,6] [0,0,0,0,0,0,2,0,1] (lT Ys) ?_ ?_
  ·exact Qx Ys Y4
  exact Qx Ys Y4
 refine Kc [] Ys Y4 ?_
 obtain rfl:=sI h
 refine Jl (k:=3) (i:=i0) (q1:=⟨false,90,4,1,[.row (n+2) z1.1.length,(vI (IntKind.i64.wrap (z1.2.2.2+a1))),.row n z1.2.1.length,.row (n+1) z1.2.2.1.length]⟩) (L3:=[some (oR 25 3 Za z1.2.1),some (oR 25 3 Za z1.2.2.1),some (oR 41 14 Zh z1.1),none]) (E2:=(⟨19,[],[]⟩:Env)) (n3:=(n+4)) (.inl rfl) hU rfl [] ?_ ?_
 ·refine uS (k:=9) (k':=4) hU [3,3,3,3,3,3,2,0,1] [7,8,6,0] (lT Ys) ?_ ?_
  ·exact Qx Ys Y4
  exact Qx Ys Y4
 simp only [push_cast,seval,Zc,Try.results50,Ys,Y4,Ye,hN]
attribute [local push_cast] Try.results14 Try.results30 Try.results40 Try.results51 Try.results52 Try.results60 Try.results61 Try.results70 Try.results73 Try.results78 Try.results79 Try.results80 Try.results81 Try.results82 Try.results83 Try.results84 decide_true Z10 Zqg Zea Zeb Zgd Zj0 Zuu Zua Zuh aF mE vE eZ yI lY
theorem jR {a0:Y3} {a2:(List Zb)} {r:Y3} {O:Objs} {n:Nat} {i0 Yt Y1 Y2:Nat} (Ys:i0 < n) (Jr:Yt < n) (Vn:Y1 < n) (V6:Y2 < n) (X4:i0≠Yt) (Qh:i0≠Y1) (Qs:i0≠Y2) (Qg:Yt≠Y1) (Qq:Yt≠Y2) (Qr:Y1≠Y2) (uC:O i0=some ⟨false,90,4,1,[.row Y2 a0.out.length,(vI a0.kept),.row Yt a0.gone.length,.row Y1 a0.come.length]⟩) (J7:O Yt=some (oR 25 3 Za a0.gone)) (U1:O Y1=some (oR 25 3 Za a0.come)) (Gj:O Y2=some (oR 41 14 Zh a0.out)) (h:Ur a0 a2=some r):GTo Try.prog 51 [.ref i0 0,.ref i0 2,(sL Za a2)] O n (.tup []) (Yn ((((O.upd Yt none).upd Y1 none).upd Y2 none).upd i0 (some ⟨false,90,4,1,[.row (n+2) r.out.length,(vI r.kept),.row n r.gone.length,.row (n+1) r.come.length]⟩)) n [some (oR 25 3 Za r.gone),some (oR 25 3 Za r.come),some (oR 41 14 Zh r.out)]) (n+3):=by
 unfold Ur at h
 refine vX Yd Try.call51 Try.func51 rfl (Nat.le_of_ble_eq_true rfl) (by omega) fun hU => ?_
 refine Xi (Y0 (k:=2) (by rw [Yb _ Ys];first | exact uC | exact Yo _ _ _ <;> rfl) (by rfl) (by rw [Yb _ Jr];exact J7) X4 (by simp only [push_cast,Nat.reduceAdd,Z8 _ _ Jr,Z8 _ _ Ys,oA X4] <;> rfl) (by omega)) ?_
 refine Xi (Y0 (k:=3) (by rw [Yb _ Ys];first | exact uC | exact Yo _ _ _ <;> rfl) (by rfl) (by rw [Yb _ Vn,Xe _ _ (Ne.symm Qh),Xe _ _ (Ne.symm Qg)];exact U1) Qh (by simp only [push_cast,Nat.reduceAdd,Z8 _ _ Vn,Z8 _ _ Ys,oA Qh] <;> rfl) (by omega)) ?_
 refine Xi (Y0 (k:=0) (by rw [Yb _ Ys];first | exact uC | exact Yo _ _ _ <;> rfl) (by rfl) (by rw [Yb _ V6,Xe _ _ (Ne.symm Qs),Xe _ _ (Ne.symm Qr),Xe _ _ (Ne.symm Qq)];exact Gj) Qs (by simp only [push_cast,Nat.reduceAdd,Z8 _ _ V6,Z8 _ _ Ys,oA Qs] <;> rfl) (by omega)) ?_
 have hU:=(Und.drop (Und.drop (Und.drop hU Yt) Y1) Y2)
 have Y4:∀ k,i0 < n+k:=fun k=>by omega
 have Ye:∀ o,Objs.upd (((O.upd Yt none).upd Y1 none).upd Y2 none) i0 o n=none:=fun o=>Xb hU Ys _ (Nat.le_refl _)
 have hN:∀ o k,Objs.upd (((O.upd Yt none).upd Y1 none).upd Y2 none) i0 o (n+k)=none:=fun o k=>Xb hU Ys _ (Nat.le_add_right _ _)
 show W _ _ _ _ ⟨32,[],[(0,.ref i0 0),(1,.ref i0 2),(2,(sL Za a2))]⟩ (Yn ((((O.upd Yt none).upd Y1 none).upd Y2 none).upd i0 (some ⟨false,90,4,1,[.row (n+2) a0.out.length,(vI a0.kept),.row n a0.gone.length,.row (n+1) a0.come.length]⟩)) n [some (oR 25 3 Za a0.gone),some (oR 25 3 Za a0.come),some (oR 41 14 Zh a0.out)]) _
 obtain ⟨z1,Jx,h⟩:=bC h
 refine Qf (E':=⟨32,[],[(1,.ref i0 2),(2,(sL Za a2))]⟩) (O':=(Yn ((((O.upd Yt none).upd Y1 none).upd Y2 none).upd i0 (some ⟨false,90,4,1,[.row (n+6) z1.1.length,(vI z1.2.2.2),.row (n+7) z1.2.1.length,.row (n+8) z1.2.2.1.length]⟩)) n [none,none,none,none,none,none,some (oR 41 14 Zh z1.1),some (oR 25 3 Za z1.2.1),some (oR 25 3 Za z1.2.2.1)])) (n0:=(n+9)) ?_ ?_
 ·refine fZ [0,1,2,12] Ys Y4 ?_
  refine Yj (t:=(decide (0 < a0.kept))) rfl (fun c3 => ?_) (fun c3 => ?_)
  ·replace Jx:=Ym c3 Jx
   obtain ⟨y2,kE,Jx⟩:=bC Jx
   refine Kc [] Ys Y4 ?_
   refine (iY (i0:=i0) (Yt:=n) (Y1:=(n+1)) (Y2:=(n+2)) (by omega) (by omega) (by omega) (by omega) (by omega) (by omega) (by omega) (by omega) (by omega) (by omega) (by simp only [push_cast,seval,Zc,Ya,Ys,Y4,Ye,hN] <;> rfl) (by simp only [push_cast,seval,Zc,Ya,Ys,Y4,Ye,hN] <;> rfl) (by simp only [push_cast,seval,Zc,Ya,Ys,Y4,Ye,hN] <;> rfl) (by simp only [push_cast,seval,Zc,Ya,Ys,Y4,Ye,hN] <;> rfl) kE).then ?_
   refine eR Ys Y4 ?_
   obtain rfl:=sI Jx
   refine And.intro rfl ?_
   refine uS (k:=6) (k':=9) hU [5,5,5,7,8,6] [0,0,0,0,0,0,5,3,4] (lT Ys) ?_ ?_
   ·exact Qx Ys Y4
   exact Qx Ys Y4
  replace Jx:=Yl c3 Jx
  refine zK ?_
  obtain rfl:=sI Jx
  refine And.intro rfl ?_
  refine uS (k:=3) (k':=9) hU [7,8,6] [0,0,0,0,0,0,2,0,1] (lT Ys) ?_ ?_
  ·exact Qx Ys Y4
  exact Qx Ys Y4
 refine fZ [1,15,16,17] Ys Y4 ?_
 refine zD [1,15,16,17] [false,false,false,false,false,false,true,true,true] ?_
 obtain ⟨gO,Gt,h⟩:=bC h
 refine X7 (E':=⟨32,[],[]⟩) (O':=(Yn ((((O.upd Yt none).upd Y1 none).upd Y2 none).upd i0 (some ⟨false,90,4,1,[.row (n+6) z1.1.length,(vI z1.2.2.2),.row (n+7) gO.length,.row (n+8) z1.2.2.1.length]⟩)) n [none,none,none,none,none,none,some (oR 41 14 Zh z1.1),some (oR 25 3 Za gO),some (oR 25 3 Za z1.2.2.1)])) (n0:=(n+9)) ?_ ?_
 ·refine Qy Gt (fun Yf=>⟨32,[],[(1,.ref i0 2),(15,(sL Za a2)),(16,(vI (a2.length:Int))),(17,(vI Yf.1))]⟩) (fun Yf=>(Yn ((((O.upd Yt none).upd Y1 none).upd Y2 none).upd i0 (some ⟨false,90,4,1,[.row (n+6) z1.1.length,(vI z1.2.2.2),.row (n+7) Yf.2.length,.row (n+8) z1.2.2.1.length]⟩)) n [none,none,none,none,none,none,some (oR 41 14 Zh z1.1),some (oR 25 3 Za Yf.2),some (oR 25 3 Za z1.2.2.1)])) (fun gO=>JX 0 n (⟨32,[],[]⟩:Env) (Yn ((((O.upd Yt none).upd Y1 none).upd Y2 none).upd i0 (some ⟨false,90,4,1,[.row (n+6) z1.1.length,(vI z1.2.2.2),.row (n+7) gO.length,.row (n+8) z1.2.2.1.length]⟩)) n [none,none,none,none,none,none,some (oR 41 14 Zh z1.1),some (oR 25 3 Za gO),some (oR 25 3 Za z1.2.2.1)]) (n+9)) ?_
  intro Yf x0_ Zu
  unfold Ve at Zu
  try dsimp only
  refine fZ [1,15,16,17,18] Ys Y4 ?_
  refine Z7 ?_
  refine Yj (t:=(decide (Yf.1 < (a2.length:Int)))) rfl (fun iB => ?_) (fun iB => ?_)
  ·replace Zu:=Ym iB Zu
   refine uZ [1,15,16,17] [false,false,false,false,false,false,true,true,true] ?_
   refine Z7 ?_
   refine Xt ?_
   refine Z7 ?_
   obtain ⟨x5,hx5,ax5,bx5,cx5,Zu⟩:=bE (f:=Za) mY (fun _=>rfl) (by decide) Zu
   refine Ztl [] ax5 bx5 cx5 Ys Y4 ?_
   refine zD [1,7,15,16,17] [false,false,false,false,false,false,true,true,true,true] ?_
   obtain ⟨y6,hy6,Zu⟩:=bC Zu
   obtain ⟨l7,pl7,ql7,el7,Zu⟩:=bA (k:=1) rfl Zu
   obtain ⟨x8,hx8,ax8,bx8,cx8,Zu⟩:=bE (f:=Za) mY (fun _=>rfl) (by decide) Zu
   have gu9:Vb (fl Za Yf.2++[.val (.int .i64 0),.val (.slice none 0 0),.val (.slice none 0 0)]) [.val (.int .i64 y6.Kind),.sl y6.Words.length (fl (eI .u64) y6.Words),.sl y6.Kids.length (fl Za y6.Kids)] (List.length Yf.2 * 3)=some (fl Za Yf.2++[.val (.int .i64 y6.Kind),.sl y6.Words.length (fl (eI .u64) y6.Words),.sl y6.Kids.length (fl Za y6.Kids)]):=U5 (f:=Za) (sz:=3) (fun _=>rfl) rfl rfl
   refine V4 Yd (by kernel_rfl) [.plain,.low,.low,.low,.low,.low,.pass,.bar,.shp,.fill true,.shp,.fill false] (fun i=>i < (n+10)) [0,1,2,3,4,5,6,7,8,9,10,11] [.plain,.low,.low,.low,.low,.low,.pass,.bar,.shp,.fill true,.shp,.fill false] [] (by kernel_rfl) rfl ?_
   refine zF9 pl7 ql7 el7 ax8 bx8 cx8 gu9 Ys Y4 ?_
   refine zO ?_
   first | refine PCallA.of (fun _ _=>nU hy6) ?_ | refine PCall.of (nU hy6) ?_
   refine zF9 pl7 ql7 el7 ax8 bx8 cx8 gu9 Ys Y4 ?_
   refine zO ?_
   refine lB ⟨32,[],[(1,.ref i0 2),(15,(sL Za a2)),(16,(vI (a2.length:Int))),(17,(vI Yf.1))]⟩ (Yn ((((O.upd Yt none).upd Y1 none).upd Y2 none).upd i0 (some ⟨false,90,4,1,[.row (n+6) z1.1.length,(vI z1.2.2.2),.row (n+7) (Yf.2++[y6]).length,.row (n+8) z1.2.2.1.length]⟩)) n [none,none,none,none,none,none,some (oR 41 14 Zh z1.1),some (oR 25 3 Za (Yf.2++[y6])),some (oR 25 3 Za z1.2.2.1),none,none]) (Xy hU rfl rfl ?_) ?_
   ·exact Zqf pl7 ql7 el7 ax8 bx8 cx8 gu9 Ys Y4
   refine Kc [] Ys Y4 ?_
   obtain rfl:=sI Zu
   refine And.intro rfl (Fit2.of (Xy hU rfl rfl ?_) (by omega))
   exact Qx Ys Y4
  replace Zu:=Yl iB Zu
  refine zXt ?_
  obtain rfl:=sI Zu
  refine And.intro (fun h=>by cases h) (And.intro rfl (Fit2.of (Xy hU rfl rfl ?_) (by omega)))
  exact Qx Ys Y4
 try simp only [Qj,Xr,↓reduceIte,Nat.reduceEqDiff]
 obtain rfl:=sI h
 refine Jl (k:=3) (i:=i0) (q1:=⟨false,90,4,1,[.row (n+2) z1.1.length,(vI z1.2.2.2),.row n gO.length,.row (n+1) z1.2.2.1.length]⟩) (L3:=[some (oR 25 3 Za gO),some (oR 25 3 Za z1.2.2.1),some (oR 41 14 Zh z1.1),none]) (E2:=(⟨32,[],[]⟩:Env)) (n3:=(n+4)) (.inl rfl) hU rfl [] ?_ ?_
 ·refine uS (k:=9) (k':=4) hU [3,3,3,3,3,3,2,0,1] [7,8,6,0] (lT Ys) ?_ ?_
  ·exact Qx Ys Y4
  exact Qx Ys Y4
 simp only [push_cast,seval,Zc,Try.results51,Ys,Y4,Ye,hN]
theorem kR {a0:Y3} {a2:(List Zb)} {r:Y3} {O:Objs} {n:Nat} {i0 Yt Y1 Y2:Nat} (Ys:i0 < n) (Jr:Yt < n) (Vn:Y1 < n) (V6:Y2 < n) (X4:i0≠Yt) (Qh:i0≠Y1) (Qs:i0≠Y2) (Qg:Yt≠Y1) (Qq:Yt≠Y2) (Qr:Y1≠Y2) (uC:O i0=some ⟨false,90,4,1,[.row Y2 a0.out.length,(vI a0.kept),.row Yt a0.gone.length,.row Y1 a0.come.length]⟩) (J7:O Yt=some (oR 25 3 Za a0.gone)) (U1:O Y1=some (oR 25 3 Za a0.come)) (Gj:O Y2=some (oR 41 14 Zh a0.out)) (h:Us a0 a2=some r):GTo Try.prog 51 [.ref i0 0,.ref i0 3,(sL Za a2)] O n (.tup []) (Yn ((((O.upd Yt none).upd Y1 none).upd Y2 none).upd i0 (some ⟨false,90,4,1,[.row (n+2) r.out.length,(vI r.kept),.row n r.gone.length,.row (n+1) r.come.length]⟩)) n [some (oR 25 3 Za r.gone),some (oR 25 3 Za r.come),some (oR 41 14 Zh r.out)]) (n+3):=by
 unfold Us at h
 refine vX Yd Try.call51 Try.func51 rfl (Nat.le_of_ble_eq_true rfl) (by omega) fun hU => ?_
 refine Xi (Y0 (k:=2) (by rw [Yb _ Ys];first | exact uC | exact Yo _ _ _ <;> rfl) (by rfl) (by rw [Yb _ Jr];exact J7) X4 (by simp only [push_cast,Nat.reduceAdd,Z8 _ _ Jr,Z8 _ _ Ys,oA X4] <;> rfl) (by omega)) ?_
 refine Xi (Y0 (k:=3) (by rw [Yb _ Ys];first | exact uC | exact Yo _ _ _ <;> rfl) (by rfl) (by rw [Yb _ Vn,Xe _ _ (Ne.symm Qh),Xe _ _ (Ne.symm Qg)];exact U1) Qh (by simp only [push_cast,Nat.reduceAdd,Z8 _ _ Vn,Z8 _ _ Ys,oA Qh] <;> rfl) (by omega)) ?_
 refine Xi (Y0 (k:=0) (by rw [Yb _ Ys];first | exact uC | exact Yo _ _ _ <;> rfl) (by rfl) (by rw [Yb _ V6,Xe _ _ (Ne.symm Qs),Xe _ _ (Ne.symm Qr),Xe _ _ (Ne.symm Qq)];exact Gj) Qs (by simp only [push_cast,Nat.reduceAdd,Z8 _ _ V6,Z8 _ _ Ys,oA Qs] <;> rfl) (by omega)) ?_
 have hU:=(Und.drop (Und.drop (Und.drop hU Yt) Y1) Y2)
 have Y4:∀ k,i0 < n+k:=fun k=>by omega
 have Ye:∀ o,Objs.upd (((O.upd Yt none).upd Y1 none).upd Y2 none) i0 o n=none:=fun o=>Xb hU Ys _ (Nat.le_refl _)
 have hN:∀ o k,Objs.upd (((O.upd Yt none).upd Y1 none).upd Y2 none) i0 o (n+k)=none:=fun o k=>Xb hU Ys _ (Nat.le_add_right _ _)
 show W _ _ _ _ ⟨32,[],[(0,.ref i0 0),(1,.ref i0 3),(2,(sL Za a2))]⟩ (Yn ((((O.upd Yt none).upd Y1 none).upd Y2 none).upd i0 (some ⟨false,90,4,1,[.row (n+2) a0.out.length,(vI a0.kept),.row n a0.gone.length,.row (n+1) a0.come.length]⟩)) n [some (oR 25 3 Za a0.gone),some (oR 25 3 Za a0.come),some (oR 41 14 Zh a0.out)]) _
 obtain ⟨z1,Jx,h⟩:=bC h
 refine Qf (E':=⟨32,[],[(1,.ref i0 3),(2,(sL Za a2))]⟩) (O':=(Yn ((((O.upd Yt none).upd Y1 none).upd Y2 none).upd i0 (some ⟨false,90,4,1,[.row (n+6) z1.1.length,(vI z1.2.2.2),.row (n+7) z1.2.1.length,.row (n+8) z1.2.2.1.length]⟩)) n [none,none,none,none,none,none,some (oR 41 14 Zh z1.1),some (oR 25 3 Za z1.2.1),some (oR 25 3 Za z1.2.2.1)])) (n0:=(n+9)) ?_ ?_
 ·refine fZ [0,1,2,12] Ys Y4 ?_
  refine Yj (t:=(decide (0 < a0.kept))) rfl (fun c3 => ?_) (fun c3 => ?_)
  ·replace Jx:=Ym c3 Jx
   obtain ⟨y2,kE,Jx⟩:=bC Jx
   refine Kc [] Ys Y4 ?_
   refine (iY (i0:=i0) (Yt:=n) (Y1:=(n+1)) (Y2:=(n+2)) (by omega) (by omega) (by omega) (by omega) (by omega) (by omega) (by omega) (by omega) (by omega) (by omega) (by simp only [push_cast,seval,Zc,Ya,Ys,Y4,Ye,hN] <;> rfl) (by simp only [push_cast,seval,Zc,Ya,Ys,Y4,Ye,hN] <;> rfl) (by simp only [push_cast,seval,Zc,Ya,Ys,Y4,Ye,hN] <;> rfl) (by simp only [push_cast,seval,Zc,Ya,Ys,Y4,Ye,hN] <;> rfl) kE).then ?_
   refine eR Ys Y4 ?_
   obtain rfl:=sI Jx
   refine And.intro rfl ?_
   refine uS (k:=6) (k':=9) hU [5,5,5,7,8,6] [0,0,0,0,0,0,5,3,4] (lT Ys) ?_ ?_
   ·exact Qx Ys Y4
   exact Qx Ys Y4
  replace Jx:=Yl c3 Jx
  refine zK ?_
  obtain rfl:=sI Jx
  refine And.intro rfl ?_
  refine uS (k:=3) (k':=9) hU [7,8,6] [0,0,0,0,0,0,2,0,1] (lT Ys) ?_ ?_
  ·exact Qx Ys Y4
  exact Qx Ys Y4
 refine fZ [1,15,16,17] Ys Y4 ?_
 refine zD [1,15,16,17] [false,false,false,false,false,false,true,true,true] ?_
 obtain ⟨gO,Gt,h⟩:=bC h
 refine X7 (E':=⟨32,[],[]⟩) (O':=(Yn ((((O.upd Yt none).upd Y1 none).upd Y2 none).upd i0 (some ⟨false,90,4,1,[.row (n+6) z1.1.length,(vI z1.2.2.2),.row (n+7) z1.2.1.length,.row (n+8) gO.length]⟩)) n [none,none,none,none,none,none,some (oR 41 14 Zh z1.1),some (oR 25 3 Za z1.2.1),some (oR 25 3 Za gO)])) (n0:=(n+9)) ?_ ?_
 ·refine Qy Gt (fun Yf=>⟨32,[],[(1,.ref i0 3),(15,(sL Za a2)),(16,(vI (a2.length:Int))),(17,(vI Yf.1))]⟩) (fun Yf=>(Yn ((((O.upd Yt none).upd Y1 none).upd Y2 none).upd i0 (some ⟨false,90,4,1,[.row (n+6) z1.1.length,(vI z1.2.2.2),.row (n+7) z1.2.1.length,.row (n+8) Yf.2.length]⟩)) n [none,none,none,none,none,none,some (oR 41 14 Zh z1.1),some (oR 25 3 Za z1.2.1),some (oR 25 3 Za Yf.2)])) (fun gO=>JX 0 n (⟨32,[],[]⟩:Env) (Yn ((((O.upd Yt none).upd Y1 none).upd Y2 none).upd i0 (some ⟨false,90,4,1,[.row (n+6) z1.1.length,(vI z1.2.2.2),.row (n+7) z1.2.1.length,.row (n+8) gO.length]⟩)) n [none,none,none,none,none,none,some (oR 41 14 Zh z1.1),some (oR 25 3 Za z1.2.1),some (oR 25 3 Za gO)]) (n+9)) ?_
  intro Yf x0_ Zu
  unfold Vf at Zu
  try dsimp only
  refine fZ [1,15,16,17,18] Ys Y4 ?_
  refine Z7 ?_
  refine Yj (t:=(decide (Yf.1 < (a2.length:Int)))) rfl (fun iB => ?_) (fun iB => ?_)
  ·replace Zu:=Ym iB Zu
   refine uZ [1,15,16,17] [false,false,false,false,false,false,true,true,true] ?_
   refine Z7 ?_
   refine Xt ?_
   refine Z7 ?_
   obtain ⟨x5,hx5,ax5,bx5,cx5,Zu⟩:=bE (f:=Za) mY (fun _=>rfl) (by decide) Zu
   refine Ztl [] ax5 bx5 cx5 Ys Y4 ?_
   refine zD [1,7,15,16,17] [false,false,false,false,false,false,true,true,true,true] ?_
   obtain ⟨y6,hy6,Zu⟩:=bC Zu
   obtain ⟨l7,pl7,ql7,el7,Zu⟩:=bA (k:=1) rfl Zu
   obtain ⟨x8,hx8,ax8,bx8,cx8,Zu⟩:=bE (f:=Za) mY (fun _=>rfl) (by decide) Zu
   have gu9:Vb (fl Za Yf.2++[.val (.int .i64 0),.val (.slice none 0 0),.val (.slice none 0 0)]) [.val (.int .i64 y6.Kind),.sl y6.Words.length (fl (eI .u64) y6.Words),.sl y6.Kids.length (fl Za y6.Kids)] (List.length Yf.2 * 3)=some (fl Za Yf.2++[.val (.int .i64 y6.Kind),.sl y6.Words.length (fl (eI .u64) y6.Words),.sl y6.Kids.length (fl Za y6.Kids)]):=U5 (f:=Za) (sz:=3) (fun _=>rfl) rfl rfl
   refine V4 Yd (by kernel_rfl) [.plain,.low,.low,.low,.low,.low,.pass,.bar,.shp,.fill true,.shp,.fill false] (fun i=>i < (n+10)) [0,1,2,3,4,5,6,7,8,9,10,11] [.plain,.low,.low,.low,.low,.low,.pass,.bar,.shp,.fill true,.shp,.fill false] [] (by kernel_rfl) rfl ?_
   refine zF9 pl7 ql7 el7 ax8 bx8 cx8 gu9 Ys Y4 ?_
   refine zO ?_
   first | refine PCallA.of (fun _ _=>nU hy6) ?_ | refine PCall.of (nU hy6) ?_
   refine zF9 pl7 ql7 el7 ax8 bx8 cx8 gu9 Ys Y4 ?_
   refine zO ?_
   refine lB ⟨32,[],[(1,.ref i0 3),(15,(sL Za a2)),(16,(vI (a2.length:Int))),(17,(vI Yf.1))]⟩ (Yn ((((O.upd Yt none).upd Y1 none).upd Y2 none).upd i0 (some ⟨false,90,4,1,[.row (n+6) z1.1.length,(vI z1.2.2.2),.row (n+7) z1.2.1.length,.row (n+8) (Yf.2++[y6]).length]⟩)) n [none,none,none,none,none,none,some (oR 41 14 Zh z1.1),some (oR 25 3 Za z1.2.1),some (oR 25 3 Za (Yf.2++[y6])),none,none]) (Xy hU rfl rfl ?_) ?_
   ·exact Zqf pl7 ql7 el7 ax8 bx8 cx8 gu9 Ys Y4
   refine Kc [] Ys Y4 ?_
   obtain rfl:=sI Zu
   refine And.intro rfl (Fit2.of (Xy hU rfl rfl ?_) (by omega))
   exact Qx Ys Y4
  replace Zu:=Yl iB Zu
  refine zXt ?_
  obtain rfl:=sI Zu
  refine And.intro (fun h=>by cases h) (And.intro rfl (Fit2.of (Xy hU rfl rfl ?_) (by omega)))
  exact Qx Ys Y4
 try simp only [Qj,Xr,↓reduceIte,Nat.reduceEqDiff]
 obtain rfl:=sI h
 refine Jl (k:=3) (i:=i0) (q1:=⟨false,90,4,1,[.row (n+2) z1.1.length,(vI z1.2.2.2),.row n z1.2.1.length,.row (n+1) gO.length]⟩) (L3:=[some (oR 25 3 Za z1.2.1),some (oR 25 3 Za gO),some (oR 41 14 Zh z1.1),none]) (E2:=(⟨32,[],[]⟩:Env)) (n3:=(n+4)) (.inl rfl) hU rfl [] ?_ ?_
 ·refine uS (k:=9) (k':=4) hU [3,3,3,3,3,3,2,0,1] [7,8,6,0] (lT Ys) ?_ ?_
  ·exact Qx Ys Y4
  exact Qx Ys Y4
 simp only [push_cast,seval,Zc,Try.results51,Ys,Y4,Ye,hN]
theorem Zle {a0:Int} {a1:Zd} {r:Bool} {O:Objs} {n:Nat} (h:tB a0 a1=some r):GTo Try.prog 70 [(vI a0),.agg (Zl a1)] O n ((vB r)) O n:=by
 unfold tB at h
 refine uH Try.call70 Try.func70 fun hU Ye hN => ?_
 show W _ _ _ _ ⟨27,[],[(0,(vI a0)),(1,.agg (Zl a1))]⟩ (Yn O n []) _
 refine zQ [0,3] ?_
 refine zQD [4] [none,none,none,none,none,none,none,none,none,none,none,none,none,none,none,none,none] ?_
 exact Jo [(vB (cond (a1.Kind == 0) true (cond (cond (a0 == 9) (a1.Kind == 2) false) ((IntKind.i64.wrap ((a1.Words.length:Int)+(a1.Kids.length:Int))) == 0) false)))]
theorem dT {a0:Y3} {a1:Int} {a2:Zd} {r:Y3} {O:Objs} {n:Nat} {i0 Yt Y1 Y2:Nat} (Ys:i0 < n) (Jr:Yt < n) (Vn:Y1 < n) (V6:Y2 < n) (X4:i0≠Yt) (Qh:i0≠Y1) (Qs:i0≠Y2) (Qg:Yt≠Y1) (Qq:Yt≠Y2) (Qr:Y1≠Y2) (uC:O i0=some ⟨false,90,4,1,[.row Y2 a0.out.length,(vI a0.kept),.row Yt a0.gone.length,.row Y1 a0.come.length]⟩) (J7:O Yt=some (oR 25 3 Za a0.gone)) (U1:O Y1=some (oR 25 3 Za a0.come)) (Gj:O Y2=some (oR 41 14 Zh a0.out)) (h:U9 a0 a1 a2=some r):GTo Try.prog 52 [.ref i0 0,(vI a1),.agg (Zl a2)] O n (.tup []) (Yn ((((O.upd Yt none).upd Y1 none).upd Y2 none).upd i0 (some ⟨false,90,4,1,[.row (n+2) r.out.length,(vI r.kept),.row n r.gone.length,.row (n+1) r.come.length]⟩)) n [some (oR 25 3 Za r.gone),some (oR 25 3 Za r.come),some (oR 41 14 Zh r.out)]) (n+3):=by
 unfold U9 at h
 refine vX Yd Try.call52 Try.func52 rfl (Nat.le_of_ble_eq_true rfl) (by omega) fun hU => ?_
 refine Xi (Y0 (k:=2) (by rw [Yb _ Ys];first | exact uC | exact Yo _ _ _ <;> rfl) (by rfl) (by rw [Yb _ Jr];exact J7) X4 (by simp only [push_cast,Nat.reduceAdd,Z8 _ _ Jr,Z8 _ _ Ys,oA X4] <;> rfl) (by omega)) ?_
 refine Xi (Y0 (k:=3) (by rw [Yb _ Ys];first | exact uC | exact Yo _ _ _ <;> rfl) (by rfl) (by rw [Yb _ Vn,Xe _ _ (Ne.symm Qh),Xe _ _ (Ne.symm Qg)];exact U1) Qh (by simp only [push_cast,Nat.reduceAdd,Z8 _ _ Vn,Z8 _ _ Ys,oA Qh] <;> rfl) (by omega)) ?_
 refine Xi (Y0 (k:=0) (by rw [Yb _ Ys];first | exact uC | exact Yo _ _ _ <;> rfl) (by rfl) (by rw [Yb _ V6,Xe _ _ (Ne.symm Qs),Xe _ _ (Ne.symm Qr),Xe _ _ (Ne.symm Qq)];exact Gj) Qs (by simp only [push_cast,Nat.reduceAdd,Z8 _ _ V6,Z8 _ _ Ys,oA Qs] <;> rfl) (by omega)) ?_
 have hU:=(Und.drop (Und.drop (Und.drop hU Yt) Y1) Y2)
 have Y4:∀ k,i0 < n+k:=fun k=>by omega
 have Ye:∀ o,Objs.upd (((O.upd Yt none).upd Y1 none).upd Y2 none) i0 o n=none:=fun o=>Xb hU Ys _ (Nat.le_refl _)
 have hN:∀ o k,Objs.upd (((O.upd Yt none).upd Y1 none).upd Y2 none) i0 o (n+k)=none:=fun o k=>Xb hU Ys _ (Nat.le_add_right _ _)
 show W _ _ _ _ ⟨25,[],[(0,.ref i0 0),(1,(vI a1)),(2,.agg (Zl a2))]⟩ (Yn ((((O.upd Yt none).upd Y1 none).upd Y2 none).upd i0 (some ⟨false,90,4,1,[.row (n+2) a0.out.length,(vI a0.kept),.row n a0.gone.length,.row (n+1) a0.come.length]⟩)) n [some (oR 25 3 Za a0.gone),some (oR 25 3 Za a0.come),some (oR 41 14 Zh a0.out)]) _
 refine fZ [0,1,5] Ys Y4 ?_
 refine Z7 ?_
 refine Z7 ?_
 obtain ⟨y2,kE,h⟩:=bC h
 refine Kc [] Ys Y4 ?_
 refine (Zle kE).then ?_
 refine eR Ys Y4 ?_
 refine zD [0,5,8] [true,true,true,true] ?_
 refine Yj (t:=y2) rfl (fun iB => ?_) (fun iB => ?_)
 ·replace h:=Ym iB h
  refine Z7 ?_
  obtain ⟨y4,hy4,h⟩:=bC h
  refine Kc [] Ys Y4 ?_
  refine (eE (i0:=i0) (Yt:=n) (Y1:=(n+1)) (Y2:=(n+2)) (by omega) (by omega) (by omega) (by omega) (by omega) (by omega) (by omega) (by omega) (by omega) (by omega) (by simp only [push_cast,seval,Zc,Ya,Ys,Y4,Ye,hN] <;> rfl) (by simp only [push_cast,seval,Zc,Ya,Ys,Y4,Ye,hN] <;> rfl) (by simp only [push_cast,seval,Zc,Ya,Ys,Y4,Ye,hN] <;> rfl) (by simp only [push_cast,seval,Zc,Ya,Ys,Y4,Ye,hN] <;> rfl) hy4).then ?_
  refine eR Ys Y4 ?_
  refine zD [] [false,false,false,false,true,true,true] ?_
  refine zW ?_
  obtain rfl:=sI h
  refine Jl (k:=3) (i:=i0) (q1:=⟨false,90,4,1,[.row (n+2) y4.out.length,(vI y4.kept),.row n y4.gone.length,.row (n+1) y4.come.length]⟩) (L3:=[some (oR 25 3 Za y4.gone),some (oR 25 3 Za y4.come),some (oR 41 14 Zh y4.out),none]) (E2:=(⟨25,[],[]⟩:Env)) (n3:=(n+4)) (.inr rfl) hU rfl [] ?_ ?_
  ·refine uS (k:=7) (k':=4) hU [3,3,3,3,0,1,2] [4,5,6,0] (lT Ys) ?_ ?_
   ·exact Qx Ys Y4
   exact Qx Ys Y4
  simp only [push_cast,seval,Zc,Try.results52,Ys,Y4,Ye,hN]
 replace h:=Yl iB h
 refine uZ [0,5] [true,true,true,true] ?_
 refine Z7 ?_
 obtain ⟨y6,hy6,h⟩:=bC h
 refine Kc [] Ys Y4 ?_
 refine (iY (i0:=i0) (Yt:=n) (Y1:=(n+1)) (Y2:=(n+2)) (by omega) (by omega) (by omega) (by omega) (by omega) (by omega) (by omega) (by omega) (by omega) (by omega) (by simp only [push_cast,seval,Zc,Ya,Ys,Y4,Ye,hN] <;> rfl) (by simp only [push_cast,seval,Zc,Ya,Ys,Y4,Ye,hN] <;> rfl) (by simp only [push_cast,seval,Zc,Ya,Ys,Y4,Ye,hN] <;> rfl) (by simp only [push_cast,seval,Zc,Ya,Ys,Y4,Ye,hN] <;> rfl) hy6).then ?_
 refine eR Ys Y4 ?_
 refine zD [0,5] [false,false,false,true,true,true,true] ?_
 obtain ⟨l7,pl7,ql7,el7,h⟩:=bA (k:=1) rfl h
 obtain ⟨x8,hx8,ax8,bx8,cx8,h⟩:=bE (f:=Zh) rJ (fun _=>rfl) (by decide) h
 have gu9:Vb (fl Zh y6.out++[.val (.int .i64 0),.val (.int .i64 0),.val (.slice none 0 0),.val (.int .i64 0),.val (.int .i64 0),.val (.slice none 0 0),.val (.slice none 0 0),.val (.int .i64 0),.val (.slice none 0 0),.val (.slice none 0 0),.val (.slice none 0 0),.val (.slice none 0 0),.val (.int .i64 0),.val (.slice none 0 0)]) [.val (.int .i64 3),.val (.int .i64 0),.val (.slice none 0 0),.val (.int .i64 a2.Kind),.val (.int .i64 a2.Old.Kind),.sl a2.Old.Words.length (fl (eI .u64) a2.Old.Words),.sl a2.Old.Kids.length (fl Za a2.Old.Kids),.val (.int .i64 a2.New.Kind),.sl a2.New.Words.length (fl (eI .u64) a2.New.Words),.sl a2.New.Kids.length (fl Za a2.New.Kids),.sl a2.Words.length (fl Zf a2.Words),.sl a2.Kids.length (fl Ze a2.Kids),.val (.int .i64 a2.List_),.sl a2.Ops.length (fl Zh a2.Ops)] (List.length y6.out * 14)=some (fl Zh y6.out++[.val (.int .i64 3),.val (.int .i64 0),.val (.slice none 0 0),.val (.int .i64 a2.Kind),.val (.int .i64 a2.Old.Kind),.sl a2.Old.Words.length (fl (eI .u64) a2.Old.Words),.sl a2.Old.Kids.length (fl Za a2.Old.Kids),.val (.int .i64 a2.New.Kind),.sl a2.New.Words.length (fl (eI .u64) a2.New.Words),.sl a2.New.Kids.length (fl Za a2.New.Kids),.sl a2.Words.length (fl Zf a2.Words),.sl a2.Kids.length (fl Ze a2.Kids),.val (.int .i64 a2.List_),.sl a2.Ops.length (fl Zh a2.Ops)]):=U5 (f:=Zh) (sz:=14) (fun _=>rfl) rfl rfl
 refine V4 Yd (by kernel_rfl) [.plain,.low,.low,.low,.low,.plain,.low,.pass,.bar,.shp,.fill true,.shp,.shp,.fill false] (fun i=>i < (n+7)) [0,1,2,3,4,5,6,7,8,9,10,11,12,13] [.plain,.low,.low,.low,.low,.plain,.low,.pass,.bar,.shp,.fill true,.shp,.shp,.fill false] [] (by kernel_rfl) rfl ?_
 refine zF9 pl7 ql7 el7 ax8 bx8 cx8 gu9 Ys Y4 ?_
 refine zO ?_
 obtain rfl:=sI h
 refine Jl (k:=3) (i:=i0) (q1:=⟨false,90,4,1,[.row (n+2) (y6.out++[(⟨3,0,([]:(List Zb)),a2⟩:Zo)]).length,(vI y6.kept),.row n y6.gone.length,.row (n+1) y6.come.length]⟩) (L3:=[some (oR 25 3 Za y6.gone),some (oR 25 3 Za y6.come),some (oR 41 14 Zh (y6.out++[(⟨3,0,([]:(List Zb)),a2⟩:Zo)])),none]) (E2:=(⟨25,[],[]⟩:Env)) (n3:=(n+4)) (.inl rfl) hU rfl [] ?_ ?_
 ·refine uS (k:=8) (k':=4) hU [3,3,3,3,0,1,2,3] [4,5,6,0] (lT Ys) ?_ ?_
  ·exact Zqf pl7 ql7 el7 ax8 bx8 cx8 gu9 Ys Y4
  exact Qx Ys Y4
 simp only [push_cast,seval,Zc,Try.results52,Ys,Y4,Ye,hN]
def qE (J8:(Zd→Option Zd)):Prop:=∀ {a0:Zd} {r:Zd} {O:Objs} {n:Nat},J8 a0=some r→GTo Try.prog 14 [.agg (Zl a0)] O n (.agg (Zl r)) O n
def iI (tZ:(Int→(List Zo)→Option (List Zo))):Prop:=∀ {a0:Int} {a1:(List Zo)} {r:(List Zo)} {O:Objs} {n:Nat},tZ a0 a1=some r→GTo Try.prog 30 [(vI a0),(sL Zh a1)] O n ((sL Zh r)) O n
theorem Zjg {J8:(Zd→Option Zd)} {tZ:(Int→(List Zo)→Option (List Zo))} (uA:qE J8) (Zam:iI tZ) {a0:Zd} {r:Zd} {O:Objs} {n:Nat} (h:nB J8 tZ a0=some r):GTo Try.prog 14 [.agg (Zl a0)] O n (.agg (Zl r)) O n:=by
 unfold nB at h
 refine uH Try.call14 Try.func14 fun hU Ye hN => ?_
 show W _ _ _ _ ⟨54,[],[(0,.agg (Zl a0))]⟩ (Yn O n []) _
 refine zQ [1,2] ?_
 refine Z7 ?_
 refine zQ [1,2,7] ?_
 refine Xt ?_
 refine zQ [1,2,7,8] ?_
 refine Yj (t:=(a0.Kind == 1)) rfl (fun c17 => ?_) (fun c17 => ?_)
 ·replace h:=Ym c17 h
  refine Z7 ?_
  obtain ⟨y3,hy3,h⟩:=bC h
  obtain ⟨y4,hy4,h⟩:=bC h
  refine oY Yd (by kernel_rfl) [false,false,false,false,false,false,false,true] [] (by kernel_rfl) ?_
  refine zS ?_
  refine PCall.of (nU hy3) ?_
  refine zS ?_
  refine PCall.of (nU hy4) ?_
  refine zS ?_
  refine zD [2] [false,true] ?_
  exact Jo [.agg [(vI 1),(vI y3.Kind),(sL (eI .u64) y3.Words),(sL Za y3.Kids),(vI y4.Kind),(sL (eI .u64) y4.Words),(sL Za y4.Kids),nV,nV,(vI 0),nV]]
 replace h:=Yl c17 h
 refine zQ [1,2,7,17] ?_
 refine Yj (t:=(a0.Kind == 2)) rfl (fun c16 => ?_) (fun c16 => ?_)
 ·replace h:=Ym c16 h
  refine Z7 ?_
  obtain ⟨y6,hy6,h⟩:=bC h
  refine zR ?_
  refine (uU  hy6).then ?_
  refine zS ?_
  refine lO [1,2,3] [true,true,true,true] ?_
  refine zQd [2,3,24,25,26] [2,3,24,25,26] [false,true,true,true] ?_
  refine Xi (E':=(⟨54,[],[(2,.ref (n+1) 0),(3,.ref (n+3) 0),(24,(sL Ze a0.Kids)),(25,(vI (a0.Kids.length:Int))),(26,(vI 0))]⟩:Env)) (O':=(Yn O n [none,some ⟨false,30,11,1,[(vI 0),(vI 0),nV,nV,(vI 0),nV,nV,nV,nV,(vI 0),nV]⟩,some (oR 48 4 Zf y6),some ⟨false,30,11,1,[(vI 2),(vI 0),nV,nV,(vI 0),nV,nV,.row (n+2) y6.length,.row (n+4) ([]:List Zq).length,(vI 0),nV]⟩,some (oR 50 12 Ze ([]:List Zq)),none])) (n':=(n+6)) ?_ ?_
  ·refine Fit2.trans (E':=(⟨54,[],[(2,.ref (n+1) 0),(3,.ref (n+3) 0),(24,(sL Ze a0.Kids)),(25,(vI (a0.Kids.length:Int))),(26,(vI 0))]⟩:Env)) (O':=(Yn O n [none,some ⟨false,30,11,1,[(vI 0),(vI 0),nV,nV,(vI 0),nV,nV,nV,nV,(vI 0),nV]⟩,some (oR 48 4 Zf y6),some ⟨false,30,11,1,[(vI 2),(vI 0),nV,nV,(vI 0),nV,nV,.row (n+2) y6.length,nV,(vI 0),nV]⟩])) (n':=(n+4)) (Fit2.of (Jw hU rfl rfl ?_) (by omega)) ?_
   ·exact lC
   refine Fit2.trans (Gh (p:=(n+3)) (k:=8) (q:=⟨false,30,11,1,[(vI 2),(vI 0),nV,nV,(vI 0),nV,nV,.row (n+2) y6.length,nV,(vI 0),nV]⟩) 50 12 (by simp only [Gx,tX,List.getElem?_cons_zero,List.getElem?_cons_succ,Option.join_some,List.length_nil]) rfl (by omega)) ?_
   simp only [Up,Kg,oZ,List.set_cons_zero,List.set_cons_succ,List.cons_append,List.nil_append,List.length_cons,List.length_nil,Nat.zero_add,Nat.reduceAdd,Nat.reduceLT,Nat.add_assoc]
   refine Zc0 (k:=5) (k':=6) hU [5,1,2,3,4] [0,1,2,3,4,0] rfl rfl rfl rfl ⟨rfl,rfl⟩ ?_
   exact lC
  obtain ⟨eU,lE,h⟩:=bC h
  refine X7 (E':=⟨54,[],[(2,.ref (n+1) 0),(3,.ref (n+3) 0)]⟩) (O':=(Yn O n [none,some ⟨false,30,11,1,[(vI 0),(vI 0),nV,nV,(vI 0),nV,nV,nV,nV,(vI 0),nV]⟩,some (oR 48 4 Zf y6),some ⟨false,30,11,1,[(vI 2),(vI 0),nV,nV,(vI 0),nV,nV,.row (n+2) y6.length,.row (n+4) eU.length,(vI 0),nV]⟩,some (oR 50 12 Ze eU),none])) (n0:=(n+6)) ?_ ?_
  ·refine Qy lE (fun Yf=>⟨54,[],[(2,.ref (n+1) 0),(3,.ref (n+3) 0),(24,(sL Ze a0.Kids)),(25,(vI (a0.Kids.length:Int))),(26,(vI Yf.1))]⟩) (fun Yf=>(Yn O n [none,some ⟨false,30,11,1,[(vI 0),(vI 0),nV,nV,(vI 0),nV,nV,nV,nV,(vI 0),nV]⟩,some (oR 48 4 Zf y6),some ⟨false,30,11,1,[(vI 2),(vI 0),nV,nV,(vI 0),nV,nV,.row (n+2) y6.length,.row (n+4) Yf.2.length,(vI 0),nV]⟩,some (oR 50 12 Ze Yf.2),none])) (fun eU=>JX 1 n (⟨54,[],[(2,.ref (n+1) 0),(3,.ref (n+3) 0)]⟩:Env) (Yn O n [none,some ⟨false,30,11,1,[(vI 0),(vI 0),nV,nV,(vI 0),nV,nV,nV,nV,(vI 0),nV]⟩,some (oR 48 4 Zf y6),some ⟨false,30,11,1,[(vI 2),(vI 0),nV,nV,(vI 0),nV,nV,.row (n+2) y6.length,.row (n+4) eU.length,(vI 0),nV]⟩,some (oR 50 12 Ze eU),none]) (n+6)) ?_
   intro Yf x0_ Zu
   unfold iV at Zu
   try dsimp only
   refine zQ [2,3,24,25,26,27] ?_
   refine Z7 ?_
   refine Yj (t:=(decide (Yf.1 < (a0.Kids.length:Int)))) rfl (fun jF => ?_) (fun jF => ?_)
   ·replace Zu:=Ym jF Zu
    refine uZ [2,3,24,25,26] [false,true,true,true,true,false] ?_
    refine Z7 ?_
    refine Xt ?_
    refine Z7 ?_
    obtain ⟨x8,hx8,ax8,bx8,cx8,Zu⟩:=bE (f:=Ze) aV (fun _=>rfl) (by decide) Zu
    refine dM [] ax8 bx8 cx8 ?_
    refine zD [2,3,5,24,25,26] [false,true,true,true,true,false,true] ?_
    obtain ⟨y9,hy9,Zu⟩:=bC Zu
    obtain ⟨l10,Z64,Z65,Z6b,Zu⟩:=bA (k:=1) rfl Zu
    refine V4 Yd (by kernel_rfl) [.low,.low,.plain,.plain,.plain,.plain,.plain,.plain,.pass,.bar,.plain,.bar] (fun i=>i < (n+7)) [0,1,2,3,4,5,6,7,8,9,10,11] [.low,.low,.plain,.plain,.plain,.plain,.plain,.plain,.pass,.bar,.plain,.bar] [] (by kernel_rfl) rfl ?_
    refine zX3 Z64 Z65 Z6b ?_
    refine zO ?_
    first | refine PCallA.of (fun _ _=>uA hy9) ?_ | refine PCall.of (uA hy9) ?_
    refine zX3 Z64 Z65 Z6b ?_
    refine zO ?_
    refine lB ⟨54,[],[(2,.ref (n+1) 0),(3,.ref (n+3) 0),(24,(sL Ze a0.Kids)),(25,(vI (a0.Kids.length:Int))),(26,(vI Yf.1))]⟩ (Yn O n [none,some ⟨false,30,11,1,[(vI 0),(vI 0),nV,nV,(vI 0),nV,nV,nV,nV,(vI 0),nV]⟩,some (oR 48 4 Zf y6),some ⟨false,30,11,1,[(vI 2),(vI 0),nV,nV,(vI 0),nV,nV,.row (n+2) y6.length,.row (n+4) l10.length,(vI 0),nV]⟩,some (oR 50 12 Ze l10),none,none,none]) (Jw hU rfl rfl ?_) ?_
    ·exact Z36 Z64 Z65 Z6b
    refine zR ?_
    exact cM Zu
   replace Zu:=Yl jF Zu
   exact zEx Zu
  try simp only [Qj,Xr,↓reduceIte,Nat.reduceEqDiff]
  refine lO [2,3] [false,true,true,true,true,false] ?_
  refine zRd [2] [false,true,true,false,true,false] ?_
  exact Jo [.agg [(vI 2),(vI 0),nV,nV,(vI 0),nV,nV,.row (n+2) y6.length,.row (n+4) eU.length,(vI 0),nV]]
 replace h:=Yl c16 h
 refine zQ [1,2,43] ?_
 refine Yj (t:=(a0.Kind == 3)) rfl (fun c15 => ?_) (fun c15 => ?_)
 ·replace h:=Ym c15 h
  refine Z7 ?_
  obtain ⟨y14,Zxn,h⟩:=bC h
  refine oY Yd (by kernel_rfl) [false,false,false,false,false,false,false,false,true] [] (by kernel_rfl) ?_
  refine zS ?_
  refine PCall.of (Zam Zxn) ?_
  refine zS ?_
  refine zD [2] [false,true] ?_
  exact Jo [.agg [(vI 3),(vI 0),nV,nV,(vI 0),nV,nV,nV,nV,(vI a0.List_),(sL Zh y14)]]
 replace h:=Yl c15 h
 refine uZ [2] [false,true] ?_
 refine Z7 ?_
 refine zRd [2] [false,true] ?_
 exact Jo [.agg [(vI 0),(vI 0),nV,nV,(vI 0),nV,nV,nV,nV,(vI 0),nV]]
theorem Zli {J8:(Zd→Option Zd)} {tZ:(Int→(List Zo)→Option (List Zo))} (uA:qE J8) (Zam:iI tZ) {a0:Int} {a1:(List Zo)} {r:(List Zo)} {O:Objs} {n:Nat} (h:sA J8 tZ a0 a1=some r):GTo Try.prog 30 [(vI a0),(sL Zh a1)] O n ((sL Zh r)) O n:=by
 unfold sA at h
 refine uH Try.call30 Try.func30 fun hU Ye hN => ?_
 show W _ _ _ _ ⟨44,[],[(0,(vI a0)),(1,(sL Zh a1))]⟩ (Yn O n []) _
 refine zQ [0,1] ?_
 refine zQ [0,1,5] ?_
 refine Z7 ?_
 refine zQd [0,5,8,9,10] [0,5,8,9,10] [true] ?_
 refine Xi (E':=(⟨44,[],[(0,(vI a0)),(5,.ref n 0),(8,(sL Zh a1)),(9,(vI (a1.length:Int))),(10,(vI 0))]⟩:Env)) (O':=(Yn O n [some ⟨false,90,4,1,[.row (n+1) ([]:List Zo).length,(vI 0),.row (n+2) ([]:List Zb).length,.row (n+3) ([]:List Zb).length]⟩,some (oR 41 14 Zh ([]:List Zo)),some (oR 25 3 Za ([]:List Zb)),some (oR 25 3 Za ([]:List Zb)),none])) (n':=(n+5)) ?_ ?_
 ·refine Fit2.trans (E':=(⟨44,[],[(0,(vI a0)),(5,.ref n 0),(8,(sL Zh a1)),(9,(vI (a1.length:Int))),(10,(vI 0))]⟩:Env)) (O':=(Yn O n [some ⟨false,90,4,1,[nV,(vI 0),nV,nV]⟩])) (n':=(n+1)) (Fit2.of (Jw hU rfl rfl ?_) (by omega)) ?_
  ·exact lC
  refine Fit2.trans (Gh (p:=n) (k:=0) (q:=⟨false,90,4,1,[nV,(vI 0),nV,nV]⟩) 41 14 (by simp only [Gx,tX,List.getElem?_cons_zero,List.getElem?_cons_succ,Option.join_some,List.length_nil]) rfl (by omega)) ?_
  simp only [Up,Kg,oZ,jB,List.set_cons_zero,List.set_cons_succ,List.cons_append,List.nil_append,List.length_cons,List.length_nil,Nat.zero_add,Nat.reduceAdd,Nat.reduceLT,Nat.add_assoc]
  refine Fit2.trans (Gh (p:=n) (k:=2) (q:=⟨false,90,4,1,[.row (n+1) ([]:List Zo).length,(vI 0),nV,nV]⟩) 25 3 (by simp only [Gx,tX,List.getElem?_cons_zero,List.getElem?_cons_succ,Option.join_some,List.length_nil]) rfl (by omega)) ?_
  simp only [Up,Kg,oZ,jB,List.set_cons_zero,List.set_cons_succ,List.cons_append,List.nil_append,List.length_cons,List.length_nil,Nat.zero_add,Nat.reduceAdd,Nat.reduceLT,Nat.add_assoc]
  refine Fit2.trans (Gh (p:=n) (k:=3) (q:=⟨false,90,4,1,[.row (n+1) ([]:List Zo).length,(vI 0),.row (n+2) ([]:List Zb).length,nV]⟩) 25 3 (by simp only [Gx,tX,List.getElem?_cons_zero,List.getElem?_cons_succ,Option.join_some,List.length_nil]) rfl (by omega)) ?_
  simp only [Up,Kg,oZ,jB,List.set_cons_zero,List.set_cons_succ,List.cons_append,List.nil_append,List.length_cons,List.length_nil,Nat.zero_add,Nat.reduceAdd,Nat.reduceLT,Nat.add_assoc]
  refine Zc0 (k:=4) (k':=5) hU [0,1,2,3] [0,1,2,3,0] rfl rfl rfl rfl ⟨rfl,rfl⟩ ?_
  exact lC
 obtain ⟨wV,Zkv,h⟩:=bC h
 refine X7 (E':=⟨44,[],[(5,.ref n 0)]⟩) (O':=(Yn O n [some ⟨false,90,4,1,[.row (n+1) wV.2.1.length,(vI wV.1),.row (n+2) wV.2.2.1.length,.row (n+3) wV.2.2.2.length]⟩,some (oR 41 14 Zh wV.2.1),some (oR 25 3 Za wV.2.2.1),some (oR 25 3 Za wV.2.2.2),none])) (n0:=(n+5)) ?_ ?_
 ·refine Qy Zkv (fun Yf=>⟨44,[],[(0,(vI a0)),(5,.ref n 0),(8,(sL Zh a1)),(9,(vI (a1.length:Int))),(10,(vI Yf.1))]⟩) (fun Yf=>(Yn O n [some ⟨false,90,4,1,[.row (n+1) Yf.2.2.1.length,(vI Yf.2.1),.row (n+2) Yf.2.2.2.1.length,.row (n+3) Yf.2.2.2.2.length]⟩,some (oR 41 14 Zh Yf.2.2.1),some (oR 25 3 Za Yf.2.2.2.1),some (oR 25 3 Za Yf.2.2.2.2),none])) (fun wV=>JX 0 n (⟨44,[],[(5,.ref n 0)]⟩:Env) (Yn O n [some ⟨false,90,4,1,[.row (n+1) wV.2.1.length,(vI wV.1),.row (n+2) wV.2.2.1.length,.row (n+3) wV.2.2.2.length]⟩,some (oR 41 14 Zh wV.2.1),some (oR 25 3 Za wV.2.2.1),some (oR 25 3 Za wV.2.2.2),none]) (n+5)) ?_
  intro Yf x0_ Zu
  unfold gX at Zu
  try dsimp only
  refine zQ [0,5,8,9,10,11] ?_
  refine Z7 ?_
  refine Yj (t:=(decide (Yf.1 < (a1.length:Int)))) rfl (fun nO => ?_) (fun nO => ?_)
  ·replace Zu:=Ym nO Zu
   refine uZ [0,5,8,9,10] [true,true,true,true,false] ?_
   obtain ⟨z1,Jx,Zu⟩:=bC Zu
   refine Qf (E':=⟨44,[],[(0,(vI a0)),(5,.ref n 0),(8,(sL Zh a1)),(9,(vI (a1.length:Int))),(10,(vI Yf.1))]⟩) (O':=(Yn O n [some ⟨false,90,4,1,[.row (n+9) z1.2.1.length,(vI z1.1),.row (n+10) z1.2.2.1.length,.row (n+11) z1.2.2.2.length]⟩,none,none,none,none,none,none,none,none,some (oR 41 14 Zh z1.2.1),some (oR 25 3 Za z1.2.2.1),some (oR 25 3 Za z1.2.2.2),none])) (n0:=(n+13)) ?_ ?_
   ·refine Xt ?_
    refine Z7 ?_
    obtain ⟨x3,hx3,ax3,bx3,cx3,Jx⟩:=bE (f:=Zh) rJ (fun _=>rfl) (by decide) Jx
    refine dM [] ax3 bx3 cx3 ?_
    refine zD [0,5,7,8,9,10] [true,true,true,true,false,true] ?_
    refine zQ [0,5,7,8,9,10,15] ?_
    refine Xt ?_
    refine zQ [0,5,7,8,9,10,15,16] ?_
    refine Yj (t:=(x3.Kind == 0)) rfl (fun fR => ?_) (fun fR => ?_)
    ·replace Jx:=Ym fR Jx
     obtain ⟨y4,hy4,Jx⟩:=bC Jx
     refine zR ?_
     refine (eE (i0:=n) (Yt:=(n+2)) (Y1:=(n+3)) (Y2:=(n+1)) (by omega) (by omega) (by omega) (by omega) (by omega) (by omega) (by omega) (by omega) (by omega) (by omega) (by simp only [push_cast,seval,Zc,Ya,Ye,hN] <;> rfl) (by simp only [push_cast,seval,Zc,Ya,Ye,hN] <;> rfl) (by simp only [push_cast,seval,Zc,Ya,Ye,hN] <;> rfl) (by simp only [push_cast,seval,Zc,Ya,Ye,hN] <;> rfl) hy4).then ?_
     refine zS ?_
     obtain rfl:=sI Jx
     refine And.intro rfl ?_
     refine fr0 (k:=9) (k':=13) hU [0,12,12,12,12,12,10,11,9] [0,0,0,0,0,0,0,0,0,8,6,7,0] zM0 ?_ ?_
     ·exact lC
     exact lC
    replace Jx:=Yl fR Jx
    refine zQ [0,5,7,8,9,10,15,21] ?_
    refine Yj (t:=(x3.Kind == 1)) rfl (fun jF => ?_) (fun jF => ?_)
    ·replace Jx:=Ym jF Jx
     obtain ⟨y5,hy5,Jx⟩:=bC Jx
     refine zR ?_
     refine (jR (i0:=n) (Yt:=(n+2)) (Y1:=(n+3)) (Y2:=(n+1)) (by omega) (by omega) (by omega) (by omega) (by omega) (by omega) (by omega) (by omega) (by omega) (by omega) (by simp only [push_cast,seval,Zc,Ya,Ye,hN] <;> rfl) (by simp only [push_cast,seval,Zc,Ya,Ye,hN] <;> rfl) (by simp only [push_cast,seval,Zc,Ya,Ye,hN] <;> rfl) (by simp only [push_cast,seval,Zc,Ya,Ye,hN] <;> rfl) hy5).then ?_
     refine zS ?_
     obtain rfl:=sI Jx
     refine And.intro rfl ?_
     refine fr0 (k:=9) (k':=13) hU [0,12,12,12,12,12,10,11,9] [0,0,0,0,0,0,0,0,0,8,6,7,0] zM0 ?_ ?_
     ·exact lC
     exact lC
    replace Jx:=Yl jF Jx
    refine zQ [0,5,7,8,9,10,15,27] ?_
    refine Yj (t:=(x3.Kind == 2)) rfl (fun iB => ?_) (fun iB => ?_)
    ·replace Jx:=Ym iB Jx
     obtain ⟨y6,hy6,Jx⟩:=bC Jx
     refine zR ?_
     refine (kR (i0:=n) (Yt:=(n+2)) (Y1:=(n+3)) (Y2:=(n+1)) (by omega) (by omega) (by omega) (by omega) (by omega) (by omega) (by omega) (by omega) (by omega) (by omega) (by simp only [push_cast,seval,Zc,Ya,Ye,hN] <;> rfl) (by simp only [push_cast,seval,Zc,Ya,Ye,hN] <;> rfl) (by simp only [push_cast,seval,Zc,Ya,Ye,hN] <;> rfl) (by simp only [push_cast,seval,Zc,Ya,Ye,hN] <;> rfl) hy6).then ?_
     refine zS ?_
     obtain rfl:=sI Jx
     refine And.intro rfl ?_
     refine fr0 (k:=9) (k':=13) hU [0,12,12,12,12,12,10,11,9] [0,0,0,0,0,0,0,0,0,8,6,7,0] zM0 ?_ ?_
     ·exact lC
     exact lC
    replace Jx:=Yl iB Jx
    refine zQ [0,5,7,8,9,10,33] ?_
    refine Yj (t:=(x3.Kind == 3)) rfl (fun c9 => ?_) (fun c9 => ?_)
    ·replace Jx:=Ym c9 Jx
     obtain ⟨y7,hy7,Jx⟩:=bC Jx
     obtain ⟨y8,hy8,Jx⟩:=bC Jx
     refine zC (uA hy7) ?_
     refine (dT (i0:=n) (Yt:=(n+2)) (Y1:=(n+3)) (Y2:=(n+1)) (by omega) (by omega) (by omega) (by omega) (by omega) (by omega) (by omega) (by omega) (by omega) (by omega) (by simp only [push_cast,seval,Zc,Ya,Ye,hN] <;> rfl) (by simp only [push_cast,seval,Zc,Ya,Ye,hN] <;> rfl) (by simp only [push_cast,seval,Zc,Ya,Ye,hN] <;> rfl) (by simp only [push_cast,seval,Zc,Ya,Ye,hN] <;> rfl) hy8).then ?_
     refine zS ?_
     obtain rfl:=sI Jx
     refine And.intro rfl ?_
     refine fr0 (k:=9) (k':=13) hU [0,12,12,12,12,12,10,11,9] [0,0,0,0,0,0,0,0,0,8,6,7,0] zM0 ?_ ?_
     ·exact lC
     exact lC
    replace Jx:=Yl c9 Jx
    refine zK ?_
    obtain rfl:=sI Jx
    refine And.intro rfl ?_
    refine fr0 (k:=6) (k':=13) hU [0,9,10,11,12,12] [0,0,0,0,0,0,0,0,0,1,2,3,0] zM0 ?_ ?_
    ·exact lC
    exact lC
   refine zR ?_
   obtain rfl:=sI Zu
   refine And.intro rfl ?_
   refine fr0 (k:=13) (k':=5) hU [0,4,4,4,4,4,4,4,4,1,2,3,4] [0,9,10,11,0] zM0 ?_ ?_
   ·exact lC
   exact lC
  replace Zu:=Yl nO Zu
  exact zEx Zu
 try simp only [Qj,Xr,↓reduceIte,Nat.reduceEqDiff]
 refine lO [5] [true,true,true,true,false] ?_
 obtain ⟨y16,Zrd,h⟩:=bC h
 refine zR ?_
 refine (iY (i0:=n) (Yt:=(n+2)) (Y1:=(n+3)) (Y2:=(n+1)) (by omega) (by omega) (by omega) (by omega) (by omega) (by omega) (by omega) (by omega) (by omega) (by omega) (by simp only [push_cast,seval,Zc,Ya,Ye,hN] <;> rfl) (by simp only [push_cast,seval,Zc,Ya,Ye,hN] <;> rfl) (by simp only [push_cast,seval,Zc,Ya,Ye,hN] <;> rfl) (by simp only [push_cast,seval,Zc,Ya,Ye,hN] <;> rfl) Zrd).then ?_
 refine zS ?_
 refine zD [5] [true,false,false,false,false,true,true,true] ?_
 refine zQ [4] ?_
 exact Jo [.row (n+7) y16.out.length]
theorem Zfj:∀ k,(qE ((J0 k).1))∧(iI ((J0 k).2)):=fun k=>by
 induction k with
 | zero=>exact ⟨@fun a0 r O n h=>(nomatch (show (none:Option _)=some _ from h)),@fun a0 a1 r O n h=>(nomatch (show (none:Option _)=some _ from h))⟩
 | succ k ih=>exact ⟨@fun a0 r O n h=>Zjg (ih.1) (ih.2)  h,@fun a0 a1 r O n h=>Zli (ih.1) (ih.2)  h⟩
theorem sV {a0:Zd} {r:Zd} {O:Objs} {n:Nat} (h:Gf a0=some r):GTo Try.prog 14 [.agg (Zl a0)] O n (.agg (Zl r)) O n:=by
 obtain ⟨k,hk⟩:=pV h
 exact (Zfj k).1  hk
theorem Ug {a0:(List Int)} {a1:(List Int)} {r:Bool} {O:Objs} {n:Nat} (h:Jy a0 a1=some r):GTo Try.prog 60 [(sL (eI .u64) a0),(sL (eI .u64) a1)] O n ((vB r)) O n:=by
 unfold Jy at h
 refine uH Try.call60 Try.func60 fun hU Ye hN => ?_
 show W _ _ _ _ ⟨26,[],[(0,(sL (eI .u64) a0)),(1,(sL (eI .u64) a1))]⟩ (Yn O n []) _
 refine zQ [0,1] ?_
 refine Z7 ?_
 refine zQ [0,1,10] ?_
 refine Yj (t:=((a0.length:Int) != (a1.length:Int))) rfl (fun c8 => ?_) (fun c8 => ?_)
 ·replace h:=Ym c8 h
  refine zQ [4] ?_
  exact Jo [(vB false)]
 replace h:=Yl c8 h
 refine uZ [0,1] [] ?_
 refine Z7 ?_
 refine zQd [0,1,12,13] [0,1,12,13] [] ?_
 obtain ⟨z7,hz7,h⟩:=bC h
 refine gV (J:=(Kh (fun z7=>JR n (⟨26,[],[(4,(vB false))]⟩:Env) (Yn O n []) n) (fun z7=>JX 0 n (⟨26,[],[]⟩:Env) (Yn O n []) n))) (z:=z7) ?_ fun hw => ?_
 ·refine Qy hz7 (fun Yf=>⟨26,[],[(0,(sL (eI .u64) a0)),(1,(sL (eI .u64) a1)),(12,(vI (a0.length:Int))),(13,(vI Yf))]⟩) (fun Yf=>(Yn O n [])) (Kh (fun z7=>JR n (⟨26,[],[(4,(vB false))]⟩:Env) (Yn O n []) n) (fun z7=>JX 0 n (⟨26,[],[]⟩:Env) (Yn O n []) n)) ?_
  intro Yf x0_ Zu
  unfold J9 at Zu
  try dsimp only
  refine zQ [0,1,12,13,14] ?_
  refine Z7 ?_
  refine Yj (t:=(decide (Yf < (a0.length:Int)))) rfl (fun c6 => ?_) (fun c6 => ?_)
  ·replace Zu:=Ym c6 Zu
   refine uZ [0,1,12,13] [] ?_
   refine Z7 ?_
   refine Xt ?_
   refine zQ [0,1,5,12,13] ?_
   obtain ⟨x3,hx3,ax3,bx3,cx3,Zu⟩:=bE (f:=(eI .u64)) yP (fun _=>rfl) (by decide) Zu
   obtain ⟨x4,hx4,ax4,bx4,cx4,Zu⟩:=bE (f:=(eI .u64)) yP (fun _=>rfl) (by decide) Zu
   refine yJ [0,1,12,13,24] (Jh Yd (by kernel_rfl) [] (by kernel_rfl) ?_)
   refine zF6 ax3 bx3 cx3 ax4 bx4 cx4 ?_
   refine Yj (t:=(x3 != x4)) rfl (fun c5 => ?_) (fun c5 => ?_)
   ·replace Zu:=Ym c5 Zu
    refine zQ [4] ?_
    refine zW ?_
    exact zEy Zu
   replace Zu:=Yl c5 Zu
   refine uZ [0,1,12,13] [] ?_
   refine zR ?_
   exact cM Zu
  replace Zu:=Yl c6 Zu
  exact zEx Zu
 rcases z7 with z7 | z7
 ·dsimp only [Kh] at hw h
  refine Uq hw ?_
  try simp only [Qj,Xr,↓reduceIte,Nat.reduceEqDiff]
  exact jO [(vB false)]
 dsimp only [Kh] at hw h
 refine X7 hw ?_
 try simp only [Qj,Xr,↓reduceIte,Nat.reduceEqDiff]
 refine zD [] [] ?_
 refine zQ [4] ?_
 exact Jo [(vB true)]
def jI (Uu:(Zb→Zb→Option Bool)):Prop:=∀ {a0:Zb} {a1:Zb} {r:Bool} {O:Objs} {n:Nat},Uu a0 a1=some r→GTo Try.prog 40 [.agg (Z9 a0),.agg (Z9 a1)] O n ((vB r)) O n
def Qu (Yu:((List Zb)→(List Zb)→Option Bool)):Prop:=∀ {a0:(List Zb)} {a1:(List Zb)} {r:Bool} {O:Objs} {n:Nat},Yu a0 a1=some r→GTo Try.prog 61 [(sL Za a0),(sL Za a1),.fn 40 0 []] O n ((vB r)) O n
theorem Zlj {Uu:(Zb→Zb→Option Bool)} {Yu:((List Zb)→(List Zb)→Option Bool)} (Zan:jI Uu) (Qv:Qu Yu) {a0:Zb} {a1:Zb} {r:Bool} {O:Objs} {n:Nat} (h:xC Uu Yu a0 a1=some r):GTo Try.prog 40 [.agg (Z9 a0),.agg (Z9 a1)] O n ((vB r)) O n:=by
 unfold xC at h
 refine uH Try.call40 Try.func40 fun hU Ye hN => ?_
 show W _ _ _ _ ⟨44,[],[(0,.agg (Z9 a0)),(1,.agg (Z9 a1))]⟩ (Yn O n []) _
 refine zQ [2,3] ?_
 refine Z7 ?_
 refine zQ [2,3,9] ?_
 refine Yj (t:=(a0.Kind != a1.Kind)) rfl (fun c31 => ?_) (fun c31 => ?_)
 ·replace h:=Ym c31 h
  refine zQ [4] ?_
  exact Jo [(vB false)]
 replace h:=Yl c31 h
 refine uZ [2,3] [true,true] ?_
 refine Z7 ?_
 refine zQ [2,3,11] ?_
 refine Xt ?_
 refine zQ [2,3,11,12] ?_
 refine Yj (t:=(a0.Kind == 0)) rfl (fun wH => ?_) (fun wH => ?_)
 ·replace h:=Ym wH h
  refine zQ [4] ?_
  exact Jo [(vB true)]
 replace h:=Yl wH h
 refine zQ [2,3,14] ?_
 refine Yj (t:=(a0.Kind == 1)) rfl (fun tC => ?_) (fun tC => ?_)
 ·replace h:=Ym tC h
  obtain ⟨z7,hz7,h⟩:=bC h
  refine Qf (E':=⟨44,[],[(4,(vB z7))]⟩) (O':=(Yn O n [none,none])) (n0:=(n+2)) ?_ ?_
  ·obtain ⟨y14,Zxn,hz7⟩:=bC hz7
   obtain ⟨y15,Zt6,hz7⟩:=bC hz7
   obtain ⟨y16,Zrd,hz7⟩:=bC hz7
   rcases Bool.eq_false_or_eq_true y16 with iR | iR
   ·replace hz7:=Ym iR hz7
    obtain ⟨y17,Zt7,hz7⟩:=bC hz7
    obtain ⟨y18,Z6o,hz7⟩:=bC hz7
    obtain ⟨y19,Z6p,hz7⟩:=bC hz7
    refine Jh Yd (by kernel_rfl) (Z0l []) (by kernel_rfl) ?_
    refine zX1 iR ?_
    refine PCall.of (tK Zxn) ?_
    refine zX1 iR ?_
    refine PCall.of (tK Zt6) ?_
    refine zX1 iR ?_
    refine PCall.of (Ug Zrd) ?_
    refine zX1 iR ?_
    refine PCall.of (uE Zt7) ?_
    refine zX1 iR ?_
    refine PCall.of (uE Z6o) ?_
    refine zX1 iR ?_
    refine PCall.of (Qv Z6p) ?_
    refine zX1 iR ?_
    exact xJ hz7 iR
   replace hz7:=Yl iR hz7
   refine Jh Yd (by kernel_rfl) (Z0j []) (by kernel_rfl) ?_
   refine zX1 iR ?_
   refine PCall.of (tK Zxn) ?_
   refine zX1 iR ?_
   refine PCall.of (tK Zt6) ?_
   refine zX1 iR ?_
   refine PCall.of (Ug Zrd) ?_
   refine zX1 iR ?_
   exact xJ hz7 iR
  exact Jo [(vB z7)]
 replace h:=Yl tC h
 refine uZ [2,3] [true,true] ?_
 obtain ⟨z23,Zja,h⟩:=bC h
 refine Qf (E':=⟨44,[],[(4,(vB z23))]⟩) (O':=(Yn O n [none,none])) (n0:=(n+2)) ?_ ?_
 ·obtain ⟨y26,Z2v,Zja⟩:=bC Zja
  rcases Bool.eq_false_or_eq_true y26 with fU | fU
  ·replace Zja:=Ym fU Zja
   obtain ⟨y27,Z6r,Zja⟩:=bC Zja
   refine yU (Yau []) fU ?_
   refine (Ug Z2v).then ?_
   refine zX1 fU ?_
   refine (Qv Z6r).then ?_
   refine zX1 fU ?_
   exact xJ Zja fU
  replace Zja:=Yl fU Zja
  refine yU (Z3a []) fU ?_
  refine (Ug Z2v).then ?_
  refine zX1 fU ?_
  exact xJ Zja fU
 exact Jo [(vB z23)]
theorem Gz {Uu:(Zb→Zb→Option Bool)} {Yu:((List Zb)→(List Zb)→Option Bool)} (Zan:jI Uu) (Qv:Qu Yu) {a0:(List Zb)} {a1:(List Zb)} {r:Bool} {O:Objs} {n:Nat} (h:Xp Uu Yu a0 a1=some r):GTo Try.prog 61 [(sL Za a0),(sL Za a1),.fn 40 0 []] O n ((vB r)) O n:=by
 unfold Xp at h
 refine uH Try.call61 Try.func61 fun hU Ye hN => ?_
 show W _ _ _ _ ⟨32,[],[(0,(sL Za a0)),(1,(sL Za a1)),(2,.fn 40 0 [])]⟩ (Yn O n []) _
 refine zQ [0,1,2] ?_
 refine Z7 ?_
 refine zQ [0,1,2,14] ?_
 refine Yj (t:=((a0.length:Int) != (a1.length:Int))) rfl (fun iB => ?_) (fun iB => ?_)
 ·replace h:=Ym iB h
  refine zQ [6] ?_
  exact Jo [(vB false)]
 replace h:=Yl iB h
 refine uZ [0,1,2] [] ?_
 refine Z7 ?_
 refine zQd [1,2,15,16,17] [1,2,15,16,17] [] ?_
 obtain ⟨z9,sM,h⟩:=bC h
 refine gV (J:=(Kh (fun z9=>JR n (⟨32,[],[(6,(vB false))]⟩:Env) (Yn O n []) n) (fun z9=>JX 0 n (⟨32,[],[]⟩:Env) (Yn O n []) n))) (z:=z9) ?_ fun hw => ?_
 ·refine Qy sM (fun Yf=>⟨32,[],[(1,(sL Za a1)),(2,.fn 40 0 []),(15,(sL Za a0)),(16,(vI (a0.length:Int))),(17,(vI Yf))]⟩) (fun Yf=>(Yn O n [])) (Kh (fun z9=>JR n (⟨32,[],[(6,(vB false))]⟩:Env) (Yn O n []) n) (fun z9=>JX 0 n (⟨32,[],[]⟩:Env) (Yn O n []) n)) ?_
  intro Yf x0_ Zu
  unfold Xl at Zu
  try dsimp only
  refine zQ [1,2,15,16,17,18] ?_
  refine Z7 ?_
  refine Yj (t:=(decide (Yf < (a0.length:Int)))) rfl (fun c8 => ?_) (fun c8 => ?_)
  ·replace Zu:=Ym c8 Zu
   refine uZ [1,2,15,16,17] [] ?_
   refine Z7 ?_
   refine Xt ?_
   refine Z7 ?_
   obtain ⟨x2,hx2,ax2,bx2,cx2,Zu⟩:=bE (f:=Za) mY (fun _=>rfl) (by decide) Zu
   refine dM [] ax2 bx2 cx2 ?_
   refine lO [1,2,7,8,15,16,17] [true] ?_
   obtain ⟨x4,hx4,ax4,bx4,cx4,Zu⟩:=bE (f:=Za) mY (fun _=>rfl) (by decide) Zu
   refine dM [] ax4 bx4 cx4 ?_
   refine lO [1,2,8,9,15,16,17] [true,true] ?_
   obtain ⟨y6,hy6,Zu⟩:=bC Zu
   refine zCd (Zan hy6) [1,2,15,16,17,30] [false,false] ?_
   refine Yj (t:=(!y6)) rfl (fun c7 => ?_) (fun c7 => ?_)
   ·replace Zu:=Ym c7 Zu
    refine zQ [6] ?_
    refine zW ?_
    exact zEy Zu
   replace Zu:=Yl c7 Zu
   refine uZ [1,2,15,16,17] [false,false] ?_
   refine zR ?_
   exact cM Zu
  replace Zu:=Yl c8 Zu
  exact zEx Zu
 rcases z9 with z9 | z9
 ·dsimp only [Kh] at hw h
  refine Uq hw ?_
  try simp only [Qj,Xr,↓reduceIte,Nat.reduceEqDiff]
  exact jO [(vB false)]
 dsimp only [Kh] at hw h
 refine X7 hw ?_
 try simp only [Qj,Xr,↓reduceIte,Nat.reduceEqDiff]
 refine zD [] [] ?_
 refine zQ [6] ?_
 exact Jo [(vB true)]
theorem bW:∀ k,(jI ((Ju k).1))∧(Qu ((Ju k).2)):=fun k=>by
 induction k with
 | zero=>exact ⟨@fun a0 a1 r O n h=>(nomatch (show (none:Option _)=some _ from h)),@fun a0 a1 r O n h=>(nomatch (show (none:Option _)=some _ from h))⟩
 | succ k ih=>exact ⟨@fun a0 a1 r O n h=>Zlj (ih.1) (ih.2)  h,@fun a0 a1 r O n h=>Gz (ih.1) (ih.2)  h⟩
theorem fT {a0:Zb} {a1:Zb} {r:Bool} {O:Objs} {n:Nat} (h:kD a0 a1=some r):GTo Try.prog 40 [.agg (Z9 a0),.agg (Z9 a1)] O n ((vB r)) O n:=by
 obtain ⟨k,hk⟩:=pV h
 exact (bW k).1  hk
theorem Q1 {a0:(List Zb)} {a1:(List Zb)} {r:Bool} {O:Objs} {n:Nat} (h:Y8 a0 a1=some r):GTo Try.prog 61 [(sL Za a0),(sL Za a1),.fn 40 0 []] O n ((vB r)) O n:=by
 obtain ⟨k,hk⟩:=pV h
 exact (bW k).2  hk
theorem aU {a0 r:List Int} {O:Objs} {n:Nat} (h:jX a0=some r):GTo Try.prog 78 [(sL (eI .u64) a0)] O n (.row n r.length) (Yn O n [some (oR 39 1 (eI .u64) r)]) (n+1):=by
 have h1:=Zot h
 have h2:=Zou h
 have h3:=Zjj h
 rw [List.nil_append] at h3
 subst h3
 simp only [List.length_nil,Nat.zero_add] at h1 h2
 clear h
 refine uH Try.call78 Try.func78 fun hU Ye hN => ?_
 show W _ _ _ _ ⟨8,[],[(0,(sL (eI .u64) r))]⟩ (Yn O n []) _
 refine zQ [0] ?_
 refine Zto 0 r.length (fl (eI .u64) r) rfl (Nat.le_of_ble_eq_true rfl) (Ka Zcy _) fun A c hA => ?_
 refine zQ [0,4] ?_
 cases A with
 | none =>
  obtain rfl:r=[]:=List.eq_nil_of_length_eq_zero (hA rfl)
  refine Yj (t:=true) rfl (fun _ => ?_) (fun hc=>by cases hc)
  refine zQ [2] ?_
  refine zW ?_
  refine Zek (k:=1) (L3:=[some ⟨true,39,1,0,[]⟩]) (E2:=⟨8,[],[(2,.row n 0),(2,nV)]⟩) (n3:=(n+1)) (.inr rfl) hU rfl [.row n 0] ?_ ?_
  ·have ha:=Zcp (ba:=n) (E:=⟨8,[],[(2,.val (.slice none 0 0))]⟩) (O:=(Yn O n [])) (n:=n) 2 39 1 rfl (by omega)
   simp only [Kg] at ha
   exact ha
  simp only [push_cast,seval,Zc,Try.results78,Ye,hN]
 | some A =>
  refine Yj (t:=false) rfl (fun hc=>by cases hc) (fun _ => ?_)
  refine zK ?_
  refine And.intro rfl (And.intro (Nat.le_of_ble_eq_true rfl) ?_)
  refine Z7 ?_
  refine Yv Yd [] ?_
  simp only [push_cast,seval,Zc,h1,h2,Ye,hN]
  refine zW ?_
  refine Zkj (.inr rfl) hU rfl [.row n r.length] (by omega) ?_
  simp only [push_cast,seval,Zc,Try.results78,Ye,hN]
theorem Ge {a0 r:List Zb} {O:Objs} {n:Nat} (h:Gl a0=some r):GTo Try.prog 79 [(sL Za a0)] O n (.row n r.length) (Yn O n [some (oR 25 3 Za r)]) (n+1):=by
 have h1:=Zot h
 have h2:=Zou h
 have h3:=Zjj h
 rw [List.nil_append] at h3
 subst h3
 simp only [List.length_nil,Nat.zero_add] at h1 h2
 clear h
 refine uH Try.call79 Try.func79 fun hU Ye hN => ?_
 show W _ _ _ _ ⟨8,[],[(0,(sL Za r))]⟩ (Yn O n []) _
 refine zQ [0] ?_
 refine Zto 0 r.length (fl Za r) rfl (Nat.le_of_ble_eq_true rfl) (Ka Gw _) fun A c hA => ?_
 refine zQ [0,4] ?_
 cases A with
 | none =>
  obtain rfl:r=[]:=List.eq_nil_of_length_eq_zero (hA rfl)
  refine Yj (t:=true) rfl (fun _ => ?_) (fun hc=>by cases hc)
  refine zQ [2] ?_
  refine zW ?_
  refine Zek (k:=1) (L3:=[some ⟨true,25,3,0,[]⟩]) (E2:=⟨8,[],[(2,.row n 0),(2,nV)]⟩) (n3:=(n+1)) (.inr rfl) hU rfl [.row n 0] ?_ ?_
  ·have ha:=Zcp (ba:=n) (E:=⟨8,[],[(2,.val (.slice none 0 0))]⟩) (O:=(Yn O n [])) (n:=n) 2 25 3 rfl (by omega)
   simp only [Kg] at ha
   exact ha
  simp only [push_cast,seval,Zc,Try.results79,Ye,hN]
 | some A =>
  refine Yj (t:=false) rfl (fun hc=>by cases hc) (fun _ => ?_)
  refine zK ?_
  refine And.intro rfl (And.intro (Nat.le_of_ble_eq_true rfl) ?_)
  refine Z7 ?_
  refine Yv Yd [] ?_
  simp only [push_cast,seval,Zc,h1,h2,Ye,hN]
  refine zW ?_
  refine Zkj (.inr rfl) hU rfl [.row n r.length] (by omega) ?_
  simp only [push_cast,seval,Zc,Try.results79,Ye,hN]
theorem Zpu {a0:Zb} {a1:Int} {r:Int} {O:Objs} {n:Nat} (h:cH a0 a1=some r):GTo Try.prog 80 [.agg (Z9 a0),(vI a1)] O n (.val (.int .u64 r)) O n:=by
 unfold cH at h
 refine uH Try.call80 Try.func80 fun hU Ye hN => ?_
 show W _ _ _ _ ⟨19,[],[(0,.agg (Z9 a0)),(1,(vI a1))]⟩ (Yn O n []) _
 refine zQ [1,2] ?_
 refine Z7 ?_
 refine zQD [1,2,13] [none,none,none,none,none] ?_
 refine Yj (t:=(cond (decide (a1 < 0)) true (decide ((a0.Words.length:Int)≤a1)))) rfl (fun c3 => ?_) (fun c3 => ?_)
 ·replace h:=Ym c3 h
  refine zQ [4] ?_
  exact Jo [.val (.int .u64 0)]
 replace h:=Yl c3 h
 refine uZ [1,2] [true] ?_
 obtain ⟨x2,hx2,ax2,bx2,cx2,h⟩:=bE (f:=(eI .u64)) yP (fun _=>rfl) (by decide) h
 refine yJ [4] (Yv Yd [] ?_)
 refine zF3 ax2 bx2 cx2 ?_
 exact Jo [.val (.int .u64 x2)]
theorem sE {a0:Int} {r:Bool} {O:Objs} {n:Nat} (h:dK a0=some r):GTo Try.prog 81 [(vI a0)] O n ((vB r)) O n:=by
 unfold dK at h
 refine uH Try.call81 Try.func81 fun hU Ye hN => ?_
 show W _ _ _ _ ⟨9,[],[(0,(vI a0))]⟩ (Yn O n []) _
 refine zQ [0] ?_
 refine zQD [2] [none,none] ?_
 exact Jo [(vB (cond (decide (a0 < 0)) true (decide (65534 < a0))))]
theorem pD {a0:Int} {r:Int} {O:Objs} {n:Nat} (h:gY a0=some r):GTo Try.prog 73 [.val (.int .u8 a0)] O n (.val (.int .u64 r)) O n:=by
 unfold gY at h
 refine uH Try.call73 Try.func73 fun hU Ye hN => ?_
 show W _ _ _ _ ⟨20,[],[(0,.val (.int .u8 a0))]⟩ (Yn O n []) _
 refine zQ [0] ?_
 refine zQ [0,3] ?_
 refine Z7 ?_
 refine zQd [0,3,5] [0,3,5] [] ?_
 obtain ⟨z7,hz7,h⟩:=bC h
 refine X7 (E':=⟨20,[],[(3,.val (.int .u64 z7))]⟩) (O':=(Yn O n [])) (n0:=n) ?_ ?_
 ·refine Qy hz7 (fun Yf=>⟨20,[],[(0,.val (.int .u8 a0)),(3,.val (.int .u64 Yf.1)),(5,(vI Yf.2))]⟩) (fun Yf=>(Yn O n [])) (fun z7=>JX 0 n (⟨20,[],[(3,.val (.int .u64 z7))]⟩:Env) (Yn O n []) n) ?_
  intro Yf x0_ Zu
  unfold fA at Zu
  try dsimp only
  refine zQ [0,3,5,6] ?_
  refine Z7 ?_
  refine Yj (t:=(decide (Yf.2 < 8))) rfl (fun c6 => ?_) (fun c6 => ?_)
  ·replace Zu:=Ym c6 Zu
   refine uZ [0,3,5] [] ?_
   obtain ⟨z1,Jx,Zu⟩:=bC Zu
   refine Qf (E':=⟨20,[],[(0,.val (.int .u8 a0)),(3,.val (.int .u64 z1)),(5,(vI Yf.2))]⟩) (O':=(Yn O n [])) (n0:=n) ?_ ?_
   ·refine Xt ?_
    refine zQ [0,3,4,5] ?_
    obtain ⟨pu3,Jx⟩:=bG Jx
    refine yJ [0,3,4,5,12] (Yv Yd [] ?_)
    simp only [push_cast,seval,Zc,pu3,Ye,hN]
    refine Yj (t:=((IntKind.u8.wrap (nX .u8 (Int.fdiv a0 (2 ^ min (Int.toNat Yf.2) 8)) 1)) == 1)) rfl (fun c5 => ?_) (fun c5 => ?_)
    ·replace Jx:=Ym c5 Jx
     obtain ⟨pu4,Jx⟩:=bG Jx
     refine Yv Yd [] ?_
     simp only [push_cast,seval,Zc,pu4,Ye,hN]
     obtain rfl:=sI Jx
     refine And.intro rfl (Fit2.of (Jw hU rfl rfl ?_) (by omega))
     simp only [push_cast,seval,Zc,pu4,Ye,hN]
    replace Jx:=Yl c5 Jx
    refine zK ?_
    exact cM Jx
   refine zR ?_
   exact cM Zu
  replace Zu:=Yl c6 Zu
  exact zEx Zu
 try simp only [Qj,Xr,↓reduceIte,Nat.reduceEqDiff]
 refine zD [3] [] ?_
 refine zQ [2] ?_
 exact Jo [.val (.int .u64 z7)]
theorem Zrr {a0:Int} {a1:Int} {a2:Int} {r:Int} {O:Objs} {n:Nat} (h:pE a0 a1 a2=some r):GTo Try.prog 83 [.val (.int .u64 a0),.val (.int .u64 a1),.val (.int .u8 a2)] O n (.val (.int .u64 r)) O n:=by
 unfold pE at h
 refine uH Try.call83 Try.func83 fun hU Ye hN => ?_
 show W _ _ _ _ ⟨17,[],[(0,.val (.int .u64 a0)),(1,.val (.int .u64 a1)),(2,.val (.int .u8 a2))]⟩ (Yn O n []) _
 refine zQ [0,1,2] ?_
 refine Z7 ?_
 obtain ⟨y2,kE,h⟩:=bC h
 refine zCd (pD kE) [0,1,7] [] ?_
 refine zQ [6] ?_
 exact Jo [.val (.int .u64 (IntKind.u64.wrap (Zk8 .u64 (IntKind.u64.wrap (Zak .u64 a0 y2)) (IntKind.u64.wrap (nX .u64 a1 y2)))))]
theorem Zh2 {a0:Zb} {a1:Int} {a2:Int} {r:Zb} {O:Objs} {n:Nat} {i0 Yt Y1:Nat} (Ys:i0 < n) (Jr:Yt < n) (Vn:Y1 < n) (X4:i0≠Yt) (Qh:i0≠Y1) (Qg:Yt≠Y1) (uC:O i0=some ⟨false,25,3,1,[(vI a0.Kind),.row Y1 a0.Words.length,.row Yt a0.Kids.length]⟩) (J7:O Yt=some (oR 25 3 Za a0.Kids)) (U1:O Y1=some (oR 39 1 (eI .u64) a0.Words)) (h:sU a0 a1 a2=some r):GTo Try.prog 82 [.ref i0 0,(vI a1),.val (.int .u64 a2)] O n (.tup []) (Yn (((O.upd Yt none).upd Y1 none).upd i0 (some ⟨false,25,3,1,[(vI r.Kind),.row (n+1) r.Words.length,.row n r.Kids.length]⟩)) n [some (oR 25 3 Za r.Kids),some (oR 39 1 (eI .u64) r.Words)]) (n+2):=by
 unfold sU at h
 refine vX Yd Try.call82 Try.func82 rfl (Nat.le_of_ble_eq_true rfl) (by omega) fun hU => ?_
 refine Xi (Y0 (k:=2) (by rw [Yb _ Ys];first | exact uC | exact Yo _ _ _ <;> rfl) (by rfl) (by rw [Yb _ Jr];exact J7) X4 (by simp only [push_cast,Nat.reduceAdd,Z8 _ _ Jr,Z8 _ _ Ys,oA X4] <;> rfl) (by omega)) ?_
 refine Xi (Y0 (k:=1) (by rw [Yb _ Ys];first | exact uC | exact Yo _ _ _ <;> rfl) (by rfl) (by rw [Yb _ Vn,Xe _ _ (Ne.symm Qh),Xe _ _ (Ne.symm Qg)];exact U1) Qh (by simp only [push_cast,Nat.reduceAdd,Z8 _ _ Vn,Z8 _ _ Ys,oA Qh] <;> rfl) (by omega)) ?_
 have hU:=(Und.drop (Und.drop hU Yt) Y1)
 have Y4:∀ k,i0 < n+k:=fun k=>by omega
 have Ye:∀ o,Objs.upd ((O.upd Yt none).upd Y1 none) i0 o n=none:=fun o=>Xb hU Ys _ (Nat.le_refl _)
 have hN:∀ o k,Objs.upd ((O.upd Yt none).upd Y1 none) i0 o (n+k)=none:=fun o k=>Xb hU Ys _ (Nat.le_add_right _ _)
 show W _ _ _ _ ⟨40,[],[(0,.ref i0 0),(1,(vI a1)),(2,.val (.int .u64 a2))]⟩ (Yn (((O.upd Yt none).upd Y1 none).upd i0 (some ⟨false,25,3,1,[(vI a0.Kind),.row (n+1) a0.Words.length,.row n a0.Kids.length]⟩)) n [some (oR 25 3 Za a0.Kids),some (oR 39 1 (eI .u64) a0.Words)]) _
 refine Z7 ?_
 refine zD [0,1,2] [true,true] ?_
 obtain ⟨z3,Gy,h⟩:=bC h
 refine X7 (E':=⟨40,[],[(0,.ref i0 0),(1,(vI a1)),(2,.val (.int .u64 a2))]⟩) (O':=(Yn (((O.upd Yt none).upd Y1 none).upd i0 (some ⟨false,25,3,1,[(vI a0.Kind),.row (n+1) z3.length,.row n a0.Kids.length]⟩)) n [some (oR 25 3 Za a0.Kids),some (oR 39 1 (eI .u64) z3)])) (n0:=(n+2)) ?_ ?_
 ·refine Qy Gy (fun Yf=>⟨40,[],[(0,.ref i0 0),(1,(vI a1)),(2,.val (.int .u64 a2))]⟩) (fun Yf=>(Yn (((O.upd Yt none).upd Y1 none).upd i0 (some ⟨false,25,3,1,[(vI a0.Kind),.row (n+1) Yf.length,.row n a0.Kids.length]⟩)) n [some (oR 25 3 Za a0.Kids),some (oR 39 1 (eI .u64) Yf)])) (fun z3=>JX 0 n (⟨40,[],[(0,.ref i0 0),(1,(vI a1)),(2,.val (.int .u64 a2))]⟩:Env) (Yn (((O.upd Yt none).upd Y1 none).upd i0 (some ⟨false,25,3,1,[(vI a0.Kind),.row (n+1) z3.length,.row n a0.Kids.length]⟩)) n [some (oR 25 3 Za a0.Kids),some (oR 39 1 (eI .u64) z3)]) (n+2)) ?_
  intro Yf x0_ Zu
  unfold hJ at Zu
  try dsimp only
  refine Z7 ?_
  refine yJ [0,1,2,16] (Yv Yd [none,none] ?_)
  refine eR Ys Y4 ?_
  refine zG ?_
  refine Yj (t:=(cond (decide ((Yf.length:Int)≤a1)) (a2 != 0) false)) rfl (fun c2 => ?_) (fun c2 => ?_)
  ·replace Zu:=Ym c2 Zu
   refine uZ [0,1,2] [true,true] ?_
   refine Xt ?_
   obtain ⟨l1,pl1,ql1,el1,Zu⟩:=bA (k:=1) rfl Zu
   refine Ycw [] pl1 ql1 el1 Ys Y4 ?_
   obtain rfl:=sI Zu
   refine And.intro rfl (Fit2.of (Xy hU rfl rfl ?_) (by omega))
   exact Z37 pl1 ql1 el1 Ys Y4
  replace Zu:=Yl c2 Zu
  refine zXt ?_
  obtain rfl:=sI Zu
  refine And.intro (fun h=>by cases h) (And.intro rfl (Fit2.of (Xy hU rfl rfl ?_) (by omega)))
  exact Qx Ys Y4
 try simp only [Qj,Xr,↓reduceIte,Nat.reduceEqDiff]
 refine zD [0,1,2] [true,true] ?_
 refine fZ [0,1,2,32] Ys Y4 ?_
 refine Yj (t:=(decide (a1 < (z3.length:Int)))) rfl (fun c6 => ?_) (fun c6 => ?_)
 ·replace h:=Ym c6 h
  obtain ⟨x4,hx4,ax4,bx4,cx4,h⟩:=bE (f:=(eI .u64)) yP (fun _=>rfl) (by decide) h
  have gu5:Vb (fl (eI .u64) z3) [.val (.int .u64 a2)] (Int.toNat a1 * 1)=some (fl (eI .u64) (sP z3 a1 a2)):=uT (f:=(eI .u64)) (ti:=⟨.bool,1,0,[],false⟩) (x:=a2) (fun _=>rfl) (cD hx4)
  refine Ycv [] ax4 bx4 cx4 gu5 Ys Y4 ?_
  obtain rfl:=sI h
  refine Jl (k:=2) (i:=i0) (q1:=⟨false,25,3,1,[(vI a0.Kind),.row (n+1) (sP z3 a1 a2).length,.row n a0.Kids.length]⟩) (L3:=[some (oR 25 3 Za a0.Kids),some (oR 39 1 (eI .u64) (sP z3 a1 a2)),none]) (E2:=(⟨40,[],[]⟩:Env)) (n3:=(n+3)) (.inl rfl) hU rfl [] ?_ ?_
  ·refine uS (k:=2) (k':=3) hU [0,1] [0,1,0] (lT Ys) ?_ ?_
   ·exact Z7j ax4 bx4 cx4 gu5 Ys Y4
   exact Qx Ys Y4
  simp only [push_cast,seval,Zc,Try.results82,Ys,Y4,Ye,hN]
 replace h:=Yl c6 h
 refine zK ?_
 obtain rfl:=sI h
 refine Jl (k:=2) (i:=i0) (q1:=⟨false,25,3,1,[(vI a0.Kind),.row (n+1) z3.length,.row n a0.Kids.length]⟩) (L3:=[some (oR 25 3 Za a0.Kids),some (oR 39 1 (eI .u64) z3),none]) (E2:=(⟨40,[],[]⟩:Env)) (n3:=(n+3)) (.inl rfl) hU rfl [] ?_ ?_
 ·refine uS (k:=2) (k':=3) hU [0,1] [0,1,0] (lT Ys) ?_ ?_
  ·exact Qx Ys Y4
  exact Qx Ys Y4
 simp only [push_cast,seval,Zc,Try.results82,Ys,Y4,Ye,hN]
theorem Zix {a0:Zb} {a1:Int} {r:Zb} {O:Objs} {n:Nat} (h:vN a0 a1=some r):GTo Try.prog 84 [.agg (Z9 a0),(vI a1)] O n (.agg (Z9 r)) O n:=by
 unfold vN at h
 refine uH Try.call84 Try.func84 fun hU Ye hN => ?_
 show W _ _ _ _ ⟨20,[],[(0,.agg (Z9 a0)),(1,(vI a1))]⟩ (Yn O n []) _
 refine zQ [1,2,4] ?_
 refine Z7 ?_
 refine zQD [1,2,4,13] [none,none,none,none,none] ?_
 refine Yj (t:=(cond (decide (a1 < 0)) true (decide ((a0.Kids.length:Int)≤a1)))) rfl (fun c3 => ?_) (fun c3 => ?_)
 ·replace h:=Ym c3 h
  refine Z7 ?_
  refine zRd [4] [false,true] ?_
  exact Jo [.agg [(vI 0),nV,nV]]
 replace h:=Yl c3 h
 refine uZ [1,2,4] [true,true] ?_
 refine Z7 ?_
 obtain ⟨x2,hx2,ax2,bx2,cx2,h⟩:=bE (f:=Za) mY (fun _=>rfl) (by decide) h
 refine dM [] ax2 bx2 cx2 ?_
 refine zD [4] [false,true] ?_
 exact Jo [.agg (Z9 x2)]
end Go.Proofs.Ytocpndlnbmjpmaa
