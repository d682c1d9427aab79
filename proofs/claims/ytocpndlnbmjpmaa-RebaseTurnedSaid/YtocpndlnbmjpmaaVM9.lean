/- Part VM9 of this seat's mirrors: functions of the seat's program, and the plain functions that they are; each theorem bears its own conditions. -/
import Derived.Test.YtocpndlnbmjpmaaVM8
namespace Go.Proofs.Ytocpndlnbmjpmaa
open Go.RowKit
set_option linter.unusedVariables false
set_option linter.unusedSimpArgs false
set_option maxRecDepth 100000
set_option maxHeartbeats 4000000
attribute [local push_cast] Try.results15 Try.results16 Try.results3 Try.results31 Try.results6 Try.results7 Try.results8 vI vB nV sL oR Zl zJ Xk Z9 Qi Qj Xr Ku uD fB Ze4 Zdo xW dO wW cO Zb0 Zbw bO Zbz Zby Zbx yW Zbv vP evS wok Uw Op.operands Call.operands gop atK List.all_cons List.all_nil Bool.and_true Bool.and_self Value.oneCell' List.take_zero List.take_succ_cons List.take_nil List.drop_zero List.drop_succ_cons List.drop_nil List.append_nil Nat.add_zero Nat.zero_add vJ Xw ev U2 Zkp Zer Zeq Zew Zeu Zev Zes Zet Zep Zhu Zi7 Zne yS qB sR zB tT cI kF pF fN aN nF eN dN bN mF zM lF oF yC Zar jN gU tR iU pO wS Zkr mG mT gF rB oO Zo6 vS Zah bF nK Zir Zpa qR uF Zpd pB Zq8 Zba Zbe Za9 Zbd Zfi Zfe Zfd yT Zbb Zfh Zfg Zff Zbc Ze9 Zfc Ze8 Zfb Zk1 Zky Zkx Zfa Zkz Zk0 xS gone pop TK.isAgg Zfw Zf0 Zfv Zfz Zbn Zlp Zll Zfy Zlo Zln Zlm Zfx Zlk G.under G.unders List.getD_cons_zero List.getD_cons_succ List.set_cons_zero List.set_cons_succ List.map_cons List.map_nil List.toList_toArray Array.toList_append Option.toArray_none Option.toArray_some Option.map_some Option.map_none Option.bind_some Option.bind_none List.getElem?_cons_zero List.getElem?_cons_succ List.getElem?_nil List.nil_append List.cons_append List.replicate_succ List.replicate_zero List.length_cons List.length_nil and_true true_and and_false false_and Bool.true_eq_false Bool.false_eq_true forall_const implies_true IntKind.bits ite_true ite_false eq_self or_false ne_eq beq_self_eq_true Option.some.injEq exists_eq_left' gt_iff_lt Bool.not_true Bool.not_false imp_self cond_true cond_false Zyx Zyw Bool.not_not Gx tX oZ Up Kg Option.join_some Nat.add_assoc Int.toNat_natCast eI eL Ya rM wF Ze2 Ze0 Ze1 Zrt Zug vM mH Zga Zf8 Zf9 Znr fM Zkk yK Za4 G.agg.injEq G.tup.injEq List.flatten_cons List.flatten_nil Nat.le_refl Bool.not_eq_true' Bool.not_eq_false' Zhi fO Zm7 Zm2 Zm6 Zth tW qC G.ren G.rens mR lI Zgf G.fn.injEq Zck Zcl Zm4 Zm3 Zk4 Zrg Option.join_none Yo tJ undef Zaj Arr.put_eq uM kW iP lH Zf7 Zf5 Zf6 onB Zrs Zip Zeb fW pW kP nH nW Zbr Zbq Zbp Zbo Zuf Zxw Znq Zlr G8 Znl Zdv Zpy Zgh tS Zag Zj0 Zqh sF prT cC Z1j Zms wP Zmt Z1k Zmu Znu Zmv Z1l Zmw Z1m Zmx Z1n Zmy Z1o Zmz Zsf Zgj Zsg Zgk Zsh Zgl Zsi Zgm Zsj Zgn Zsk Zgo Zsl Zgp Zsm Zgq Zsn Zgr Zso Zgs Zsp Zgt Zsq Zc4 Zmq zA Zsr Zgu mY Zgv Zss Zc5 Zst jM Zsu Zc6 Zsv Zgw xP Zgx Zsw Zgy yP Zgz Zsx Zg0 rJ Zg1 Zsy Zg2 Zsz Zg3 Zs0 Zg4 oS Zg5 Zs1 Zg6 aV Zg7 Zs2 Zg8 Zs3 Zg9 Zs4 Zha Zs5 Zhb Zoo Zhc Zs6 Zhd Zs7 Zhe Zs8 Zhf Zs9 Zhg Zta Zhh Zmr Zc7 Zl9 Zb1 Zma Zb2 Zmb Zb3 Zmc Zb4 Zmd Zb5 Zme Zb6 Zmf Zb7 Zmg Zb8 Zmh Zb9 Zmi Zca Zmj Zcb Zmk Zcc Zml Zcd Zmm Zce Zmn Zcf Zmo Zcg Zmp Zch Za Jn bR oH vV uK Zf Jz Zh Ze Vk Jj nY eZ sX lY pA wU Xm
theorem kI {a0:Zd} {a1:Zd} {r:(Zd×Zd×Int)} {O:Objs} {n:Nat} (h:Vo a0 a1=some r):GTo Try.prog 7 [.agg (Zl a0),.agg (Zl a1)] O n (.tup [.agg (Zl r.1),.agg (Zl r.2.1),(vI r.2.2)]) O n:=by
 unfold Vo at h
 refine uH Try.call7 Try.func7 fun hU Ye hN => ?_
 show W _ _ _ _ ⟨32,[],[(0,.agg (Zl a0)),(1,.agg (Zl a1))]⟩ (Yn O n []) _
 refine zQ [2,3,4,5] ?_
 refine zQ [2,3,4,5,7] ?_
 obtain ⟨y13,Z9w,h⟩:=bC h
 obtain ⟨y37,Z93,h⟩:=bC h
 obtain ⟨y49,Zt8,h⟩:=bC h
 refine Qf (E':=⟨32,[],[(4,.ref (n+2) 0),(5,.ref (n+3) 0),(7,.ref (n+4) 0),(8,.ref (n+5) 0),(9,.ref (n+6) 0)]⟩) (O':=(Yn O n [none,none,some ⟨false,30,11,1,[(vI 0),(vI 0),nV,nV,(vI 0),nV,nV,nV,nV,(vI 0),nV]⟩,some ⟨false,30,11,1,[(vI 0),(vI 0),nV,nV,(vI 0),nV,nV,nV,nV,(vI 0),nV]⟩,some ⟨false,43,2,1,[(vB y49.2.2.apart),(vB y49.2.2.clash)]⟩,some ⟨false,30,11,1,(Zl y49.1)⟩,some ⟨false,30,11,1,(Zl y49.2.1)⟩])) (n0:=(n+7)) ?_ ?_
 ·refine Zed Yd (by kernel_rfl) [.low,.low,.low,.low,.pass,.plain,.plain,.plain,.pass,.pass,.pass,.pass] (fun i=>i < (n+5)∧¬ i=n+4) [0,1,2,3] [4,5,6,7,8,9] [10,11] (.alt 4 (.alt 5 (.alt 6 (.alt 7 (.alt 8 (.seq [9]) (.one 9 (.seq [8]))) (.alt 8 (.seq [7,9]) (.one 9 (.seq [7,8])))) (.alt 7 (.alt 6 (.alt 8 (.seq [9]) (.one 9 (.seq [8]))) (.alt 8 (.seq [6,9]) (.one 9 (.seq [6,8])))) (.alt 8 (.seq [6,7,9]) (.one 9 (.seq [6,7,8]))))) (.alt 8 (.seq [5,6,7,9]) (.one 9 (.seq [5,6,7,8])))) (.alt 8 (.alt 4 (.seq [5,6,7,9]) (.one 9 (.seq [4,5,6,7]))) (.one 9 (.alt 4 (.seq [5,6,7,8]) (.one 8 (.seq [4,5,6,7])))))) [.low,.low,.low,.low] [] (by kernel_rfl) rfl ?_
  simp (maxSteps:=4000000) only [push_cast,seval,Zc,Ye,hN]
  repeat (with_reducible refine And.intro (by omega) ?_)
  first | refine PCallA.of (fun _ _=>sV Z9w) ?_ | refine PCall.of (sV Z9w) ?_
  simp (maxSteps:=4000000) only [push_cast,seval,Zc,Ye,hN]
  repeat (with_reducible refine And.intro (by omega) ?_)
  first | refine PCallA.of (fun _ _=>sV Z93) ?_ | refine PCall.of (sV Z93) ?_
  try simp only [push_cast,seval,Zc,Ye,hN]
  repeat (with_reducible refine And.intro (by omega) ?_)
  try simp only [push_cast,seval,Zc,Ye,hN]
  refine And.intro ?_ ?_
  ·try simp only [push_cast,seval,Zc,Ye,hN]
   repeat (with_reducible refine And.intro (by first | exact Yi rfl | exact Yc | exact Yk rfl | exact Yg rfl) ?_)
   refine (kY (Zr:=(n+4)) (by omega) (by simp only [push_cast,seval,Zc,Ya,Ye,hN] <;> rfl) Zt8).then ?_
   try simp only [push_cast,seval,Zc,Ye,hN]
   repeat (with_reducible refine And.intro (by first | exact Yi rfl | exact Yc | exact Yk rfl | exact Yg rfl) ?_)
   try simp only [push_cast,seval,Zc,Ye,hN]
   refine And.intro ?_ ?_
   ·try simp only [push_cast,seval,Zc,Ye,hN]
    repeat (with_reducible refine And.intro (by first | exact Yi rfl | exact Yc | exact Yk rfl | exact Yg rfl) ?_)
    try simp only [push_cast,seval,Zc,Ye,hN]
    refine And.intro ?_ ?_
    ·try simp only [push_cast,seval,Zc,Ye,hN]
     repeat (with_reducible refine And.intro (by first | exact Yi rfl | exact Yc | exact Yk rfl | exact Yg rfl) ?_)
     try simp only [push_cast,seval,Zc,Ye,hN]
     refine And.intro ?_ ?_
     ·try simp only [push_cast,seval,Zc,Ye,hN]
      repeat (with_reducible refine And.intro (by first | exact Yi rfl | exact Yc | exact Yk rfl | exact Yg rfl) ?_)
      try simp only [push_cast,seval,Zc,Ye,hN]
      refine And.intro ?_ ?_
      ·try simp only [push_cast,seval,Zc,Ye,hN]
       repeat (with_reducible refine And.intro (by first | exact Yi rfl | exact Yc | exact Yk rfl | exact Yg rfl) ?_)
       try simp only [push_cast,seval,Zc,Ye,hN]
       repeat (with_reducible refine And.intro (by first | exact Yi rfl | exact Yc | exact Yk rfl | exact Yg rfl) ?_)
       exact zEf
      try simp only [push_cast,seval,Zc,Ye,hN]
      repeat (with_reducible refine And.intro (by first | exact Yi rfl | exact Yc | exact Yk rfl | exact Yg rfl) ?_)
      try simp only [push_cast,seval,Zc,Ye,hN]
      repeat (with_reducible refine And.intro (by first | exact Yi rfl | exact Yc | exact Yk rfl | exact Yg rfl) ?_)
      refine And.intro rfl ?_
      refine fr0 (k:=7) (k':=7) hU [0,1,2,3,4,6,5] [0,1,2,3,4,6,5] zM0 ?_ ?_
      ·exact lC
      exact lC
     try simp only [push_cast,seval,Zc,Ye,hN]
     refine And.intro ?_ ?_
     ·try simp only [push_cast,seval,Zc,Ye,hN]
      repeat (with_reducible refine And.intro (by first | exact Yi rfl | exact Yc | exact Yk rfl | exact Yg rfl) ?_)
      try simp only [push_cast,seval,Zc,Ye,hN]
      repeat (with_reducible refine And.intro (by first | exact Yi rfl | exact Yc | exact Yk rfl | exact Yg rfl) ?_)
      exact zEf
     try simp only [push_cast,seval,Zc,Ye,hN]
     repeat (with_reducible refine And.intro (by first | exact Yi rfl | exact Yc | exact Yk rfl | exact Yg rfl) ?_)
     try simp only [push_cast,seval,Zc,Ye,hN]
     repeat (with_reducible refine And.intro (by first | exact Yi rfl | exact Yc | exact Yk rfl | exact Yg rfl) ?_)
     refine And.intro rfl ?_
     refine fr0 (k:=7) (k':=7) hU [0,1,2,3,4,6,5] [0,1,2,3,4,6,5] zM0 ?_ ?_
     ·exact lC
     exact lC
    try simp only [push_cast,seval,Zc,Ye,hN]
    refine And.intro ?_ ?_
    ·try simp only [push_cast,seval,Zc,Ye,hN]
     repeat (with_reducible refine And.intro (by first | exact Yi rfl | exact Yc | exact Yk rfl | exact Yg rfl) ?_)
     try simp only [push_cast,seval,Zc,Ye,hN]
     refine And.intro ?_ ?_
     ·try simp only [push_cast,seval,Zc,Ye,hN]
      repeat (with_reducible refine And.intro (by first | exact Yi rfl | exact Yc | exact Yk rfl | exact Yg rfl) ?_)
      try simp only [push_cast,seval,Zc,Ye,hN]
      refine And.intro ?_ ?_
      ·try simp only [push_cast,seval,Zc,Ye,hN]
       repeat (with_reducible refine And.intro (by first | exact Yi rfl | exact Yc | exact Yk rfl | exact Yg rfl) ?_)
       try simp only [push_cast,seval,Zc,Ye,hN]
       repeat (with_reducible refine And.intro (by first | exact Yi rfl | exact Yc | exact Yk rfl | exact Yg rfl) ?_)
       exact zEf
      try simp only [push_cast,seval,Zc,Ye,hN]
      repeat (with_reducible refine And.intro (by first | exact Yi rfl | exact Yc | exact Yk rfl | exact Yg rfl) ?_)
      try simp only [push_cast,seval,Zc,Ye,hN]
      repeat (with_reducible refine And.intro (by first | exact Yi rfl | exact Yc | exact Yk rfl | exact Yg rfl) ?_)
      refine And.intro rfl ?_
      refine fr0 (k:=7) (k':=7) hU [0,1,2,3,4,6,5] [0,1,2,3,4,6,5] zM0 ?_ ?_
      ·exact lC
      exact lC
     try simp only [push_cast,seval,Zc,Ye,hN]
     refine And.intro ?_ ?_
     ·try simp only [push_cast,seval,Zc,Ye,hN]
      repeat (with_reducible refine And.intro (by first | exact Yi rfl | exact Yc | exact Yk rfl | exact Yg rfl) ?_)
      try simp only [push_cast,seval,Zc,Ye,hN]
      repeat (with_reducible refine And.intro (by first | exact Yi rfl | exact Yc | exact Yk rfl | exact Yg rfl) ?_)
      exact zEf
     try simp only [push_cast,seval,Zc,Ye,hN]
     repeat (with_reducible refine And.intro (by first | exact Yi rfl | exact Yc | exact Yk rfl | exact Yg rfl) ?_)
     try simp only [push_cast,seval,Zc,Ye,hN]
     repeat (with_reducible refine And.intro (by first | exact Yi rfl | exact Yc | exact Yk rfl | exact Yg rfl) ?_)
     refine And.intro rfl ?_
     refine fr0 (k:=7) (k':=7) hU [0,1,2,3,4,6,5] [0,1,2,3,4,6,5] zM0 ?_ ?_
     ·exact lC
     exact lC
    try simp only [push_cast,seval,Zc,Ye,hN]
    refine And.intro ?_ ?_
    ·try simp only [push_cast,seval,Zc,Ye,hN]
     repeat (with_reducible refine And.intro (by first | exact Yi rfl | exact Yc | exact Yk rfl | exact Yg rfl) ?_)
     try simp only [push_cast,seval,Zc,Ye,hN]
     repeat (with_reducible refine And.intro (by first | exact Yi rfl | exact Yc | exact Yk rfl | exact Yg rfl) ?_)
     exact zEf
    try simp only [push_cast,seval,Zc,Ye,hN]
    repeat (with_reducible refine And.intro (by first | exact Yi rfl | exact Yc | exact Yk rfl | exact Yg rfl) ?_)
    try simp only [push_cast,seval,Zc,Ye,hN]
    repeat (with_reducible refine And.intro (by first | exact Yi rfl | exact Yc | exact Yk rfl | exact Yg rfl) ?_)
    refine And.intro rfl ?_
    refine fr0 (k:=7) (k':=7) hU [0,1,2,3,4,6,5] [0,1,2,3,4,6,5] zM0 ?_ ?_
    ·exact lC
    exact lC
   try simp only [push_cast,seval,Zc,Ye,hN]
   refine And.intro ?_ ?_
   ·try simp only [push_cast,seval,Zc,Ye,hN]
    repeat (with_reducible refine And.intro (by first | exact Yi rfl | exact Yc | exact Yk rfl | exact Yg rfl) ?_)
    try simp only [push_cast,seval,Zc,Ye,hN]
    repeat (with_reducible refine And.intro (by first | exact Yi rfl | exact Yc | exact Yk rfl | exact Yg rfl) ?_)
    exact zEf
   try simp only [push_cast,seval,Zc,Ye,hN]
   repeat (with_reducible refine And.intro (by first | exact Yi rfl | exact Yc | exact Yk rfl | exact Yg rfl) ?_)
   try simp only [push_cast,seval,Zc,Ye,hN]
   repeat (with_reducible refine And.intro (by first | exact Yi rfl | exact Yc | exact Yk rfl | exact Yg rfl) ?_)
   refine And.intro rfl ?_
   refine fr0 (k:=7) (k':=7) hU [0,1,2,3,4,6,5] [0,1,2,3,4,6,5] zM0 ?_ ?_
   ·exact lC
   exact lC
  try simp only [push_cast,seval,Zc,Ye,hN]
  refine And.intro ?_ ?_
  ·try simp only [push_cast,seval,Zc,Ye,hN]
   repeat (with_reducible refine And.intro (by first | exact Yi rfl | exact Yc | exact Yk rfl | exact Yg rfl) ?_)
   try simp only [push_cast,seval,Zc,Ye,hN]
   refine And.intro ?_ ?_
   ·try simp only [push_cast,seval,Zc,Ye,hN]
    repeat (with_reducible refine And.intro (by first | exact Yi rfl | exact Yc | exact Yk rfl | exact Yg rfl) ?_)
    refine (kY (Zr:=(n+4)) (by omega) (by simp only [push_cast,seval,Zc,Ya,Ye,hN] <;> rfl) Zt8).then ?_
    try simp only [push_cast,seval,Zc,Ye,hN]
    repeat (with_reducible refine And.intro (by first | exact Yi rfl | exact Yc | exact Yk rfl | exact Yg rfl) ?_)
    try simp only [push_cast,seval,Zc,Ye,hN]
    repeat (with_reducible refine And.intro (by first | exact Yi rfl | exact Yc | exact Yk rfl | exact Yg rfl) ?_)
    exact zEf
   try simp only [push_cast,seval,Zc,Ye,hN]
   repeat (with_reducible refine And.intro (by first | exact Yi rfl | exact Yc | exact Yk rfl | exact Yg rfl) ?_)
   try simp only [push_cast,seval,Zc,Ye,hN]
   repeat (with_reducible refine And.intro (by first | exact Yi rfl | exact Yc | exact Yk rfl | exact Yg rfl) ?_)
   refine (kY (Zr:=(n+4)) (by omega) (by simp only [push_cast,seval,Zc,Ya,Ye,hN] <;> rfl) Zt8).then ?_
   try simp only [push_cast,seval,Zc,Ye,hN]
   repeat (with_reducible refine And.intro (by first | exact Yi rfl | exact Yc | exact Yk rfl | exact Yg rfl) ?_)
   exact zEf
  try simp only [push_cast,seval,Zc,Ye,hN]
  repeat (with_reducible refine And.intro (by first | exact Yi rfl | exact Yc | exact Yk rfl | exact Yg rfl) ?_)
  try simp only [push_cast,seval,Zc,Ye,hN]
  refine And.intro ?_ ?_
  ·try simp only [push_cast,seval,Zc,Ye,hN]
   repeat (with_reducible refine And.intro (by first | exact Yi rfl | exact Yc | exact Yk rfl | exact Yg rfl) ?_)
   refine (kY (Zr:=(n+4)) (by omega) (by simp only [push_cast,seval,Zc,Ya,Ye,hN] <;> rfl) Zt8).then ?_
   try simp only [push_cast,seval,Zc,Ye,hN]
   repeat (with_reducible refine And.intro (by first | exact Yi rfl | exact Yc | exact Yk rfl | exact Yg rfl) ?_)
   try simp only [push_cast,seval,Zc,Ye,hN]
   repeat (with_reducible refine And.intro (by first | exact Yi rfl | exact Yc | exact Yk rfl | exact Yg rfl) ?_)
   refine And.intro rfl ?_
   refine fr0 (k:=7) (k':=7) hU [0,1,2,3,4,6,5] [0,1,2,3,4,6,5] zM0 ?_ ?_
   ·exact lC
   exact lC
  try simp only [push_cast,seval,Zc,Ye,hN]
  repeat (with_reducible refine And.intro (by first | exact Yi rfl | exact Yc | exact Yk rfl | exact Yg rfl) ?_)
  try simp only [push_cast,seval,Zc,Ye,hN]
  repeat (with_reducible refine And.intro (by first | exact Yi rfl | exact Yc | exact Yk rfl | exact Yg rfl) ?_)
  refine (kY (Zr:=(n+4)) (by omega) (by simp only [push_cast,seval,Zc,Ya,Ye,hN] <;> rfl) Zt8).then ?_
  try simp only [push_cast,seval,Zc,Ye,hN]
  repeat (with_reducible refine And.intro (by first | exact Yi rfl | exact Yc | exact Yk rfl | exact Yg rfl) ?_)
  refine And.intro rfl ?_
  refine fr0 (k:=7) (k':=7) hU [0,1,2,3,4,6,5] [0,1,2,3,4,6,5] zM0 ?_ ?_
  ·exact lC
  exact lC
 refine Z7 ?_
 refine Xt ?_
 refine zQ [4,5,7,8,9,18] ?_
 refine Yj (t:=y49.2.2.apart) rfl (fun Z53 => ?_) (fun Z53 => ?_)
 ·replace h:=Ym Z53 h
  refine Z7 ?_
  refine zRd [4,5,6] [false,false,true,true,false,false,false] ?_
  exact Jo [.agg [(vI 0),(vI 0),nV,nV,(vI 0),nV,nV,nV,nV,(vI 0),nV],.agg [(vI 0),(vI 0),nV,nV,(vI 0),nV,nV,nV,nV,(vI 0),nV],(vI 14)]
 replace h:=Yl Z53 h
 refine zQ [4,5,8,9,23] ?_
 refine Yj (t:=y49.2.2.clash) rfl (fun Z52 => ?_) (fun Z52 => ?_)
 ·replace h:=Ym Z52 h
  refine Z7 ?_
  refine zRd [4,5,6] [false,false,true,true,false,false,false] ?_
  exact Jo [.agg [(vI 0),(vI 0),nV,nV,(vI 0),nV,nV,nV,nV,(vI 0),nV],.agg [(vI 0),(vI 0),nV,nV,(vI 0),nV,nV,nV,nV,(vI 0),nV],(vI 13)]
 replace h:=Yl Z52 h
 refine uZ [4,5,8,9] [false,false,true,true,false,true,true] ?_
 refine Z7 ?_
 obtain ⟨Z7f,Z9z,h⟩:=bC h
 obtain ⟨Z7g,Z90,h⟩:=bC h
 refine oY Yd (by kernel_rfl) [false,false,false,false,true,true,false] [] (by kernel_rfl) ?_
 refine zS ?_
 refine PCall.of (sV Z9z) ?_
 refine zS ?_
 refine PCall.of (sV Z90) ?_
 refine zS ?_
 refine zD [4,5,6] [false,false,true,true,false,false,false] ?_
 exact Jo [.agg (Zl Z7f),.agg (Zl Z7g),(vI 0)]
theorem qI  {r:Bool} {O:Objs} {n:Nat} (h:jZ=some r):GTo Try.prog 6 [] O n ((vB r)) O n:=by
 unfold jZ at h
 refine uH Try.call6 Try.func6 fun hU Ye hN => ?_
 show W _ _ _ _ ⟨77,[],[]⟩ (Yn O n []) _
 refine zQ [] ?_
 refine Z7 ?_
 refine zR ?_
 refine lB ⟨77,[],[(1,.row (n+1) ([(⟨10,([1]:List Int),([]:(List Zb))⟩:Zb)]:List Zb).length)]⟩ (Yn O n [none,some (oR 25 3 Za ([(⟨10,([1]:List Int),([]:(List Zb))⟩:Zb)]:List Zb))]) (Jw hU rfl rfl ?_) ?_
 ·exact lC
 refine Z7 ?_
 refine zR ?_
 refine lB ⟨77,[],[(1,.row (n+1) ([(⟨10,([1]:List Int),([]:(List Zb))⟩:Zb)]:List Zb).length),(2,.row (n+3) ([(⟨10,([2]:List Int),([]:(List Zb))⟩:Zb)]:List Zb).length)]⟩ (Yn O n [none,some (oR 25 3 Za ([(⟨10,([1]:List Int),([]:(List Zb))⟩:Zb)]:List Zb)),none,some (oR 25 3 Za ([(⟨10,([2]:List Int),([]:(List Zb))⟩:Zb)]:List Zb))]) (Jw hU rfl rfl ?_) ?_
 ·exact lC
 refine lB ⟨77,[],[(1,(sL Za ([(⟨10,([1]:List Int),([]:(List Zb))⟩:Zb)]:List Zb))),(2,.row (n+3) ([(⟨10,([2]:List Int),([]:(List Zb))⟩:Zb)]:List Zb).length)]⟩ (Yn O n [none,none,none,some (oR 25 3 Za ([(⟨10,([2]:List Int),([]:(List Zb))⟩:Zb)]:List Zb))]) (Jw hU rfl rfl ?_) ?_
 ·exact lC
 refine Z7 ?_
 refine zR ?_
 refine lB ⟨77,[],[(2,.row (n+3) ([(⟨10,([2]:List Int),([]:(List Zb))⟩:Zb)]:List Zb).length),(3,.ref (n+5) 0)]⟩ (Yn O n [none,none,none,some (oR 25 3 Za ([(⟨10,([2]:List Int),([]:(List Zb))⟩:Zb)]:List Zb)),some (oR 41 14 Zh ([(⟨2,0,([(⟨10,([1]:List Int),([]:(List Zb))⟩:Zb)]:List Zb),(⟨0,(⟨0,([]:(List Int)),([]:(List Zb))⟩:Zb),(⟨0,([]:(List Int)),([]:(List Zb))⟩:Zb),([]:(List Zs)),([]:(List Zq)),0,([]:(List Zo))⟩:Zd)⟩:Zo),(⟨0,1,([]:(List Zb)),(⟨0,(⟨0,([]:(List Int)),([]:(List Zb))⟩:Zb),(⟨0,([]:(List Int)),([]:(List Zb))⟩:Zb),([]:(List Zs)),([]:(List Zq)),0,([]:(List Zo))⟩:Zd)⟩:Zo)]:List Zo)),some ⟨false,30,11,1,[(vI 3),(vI 0),nV,nV,(vI 0),nV,nV,nV,nV,(vI 4),.row (n+4) ([(⟨2,0,([(⟨10,([1]:List Int),([]:(List Zb))⟩:Zb)]:List Zb),(⟨0,(⟨0,([]:(List Int)),([]:(List Zb))⟩:Zb),(⟨0,([]:(List Int)),([]:(List Zb))⟩:Zb),([]:(List Zs)),([]:(List Zq)),0,([]:(List Zo))⟩:Zd)⟩:Zo),(⟨0,1,([]:(List Zb)),(⟨0,(⟨0,([]:(List Int)),([]:(List Zb))⟩:Zb),(⟨0,([]:(List Int)),([]:(List Zb))⟩:Zb),([]:(List Zs)),([]:(List Zq)),0,([]:(List Zo))⟩:Zd)⟩:Zo)]:List Zo).length]⟩]) (Jw hU rfl rfl ?_) ?_
 ·exact lC
 refine lB ⟨77,[],[(2,(sL Za ([(⟨10,([2]:List Int),([]:(List Zb))⟩:Zb)]:List Zb))),(3,.ref (n+5) 0)]⟩ (Yn O n [none,none,none,none,some (oR 41 14 Zh ([(⟨2,0,([(⟨10,([1]:List Int),([]:(List Zb))⟩:Zb)]:List Zb),(⟨0,(⟨0,([]:(List Int)),([]:(List Zb))⟩:Zb),(⟨0,([]:(List Int)),([]:(List Zb))⟩:Zb),([]:(List Zs)),([]:(List Zq)),0,([]:(List Zo))⟩:Zd)⟩:Zo),(⟨0,1,([]:(List Zb)),(⟨0,(⟨0,([]:(List Int)),([]:(List Zb))⟩:Zb),(⟨0,([]:(List Int)),([]:(List Zb))⟩:Zb),([]:(List Zs)),([]:(List Zq)),0,([]:(List Zo))⟩:Zd)⟩:Zo)]:List Zo)),some ⟨false,30,11,1,[(vI 3),(vI 0),nV,nV,(vI 0),nV,nV,nV,nV,(vI 4),.row (n+4) ([(⟨2,0,([(⟨10,([1]:List Int),([]:(List Zb))⟩:Zb)]:List Zb),(⟨0,(⟨0,([]:(List Int)),([]:(List Zb))⟩:Zb),(⟨0,([]:(List Int)),([]:(List Zb))⟩:Zb),([]:(List Zs)),([]:(List Zq)),0,([]:(List Zo))⟩:Zd)⟩:Zo),(⟨0,1,([]:(List Zb)),(⟨0,(⟨0,([]:(List Int)),([]:(List Zb))⟩:Zb),(⟨0,([]:(List Int)),([]:(List Zb))⟩:Zb),([]:(List Zs)),([]:(List Zq)),0,([]:(List Zo))⟩:Zd)⟩:Zo)]:List Zo).length]⟩]) (Jw hU rfl rfl ?_) ?_
 ·exact lC
 refine Z7 ?_
 refine zR ?_
 refine lB ⟨77,[],[(3,.ref (n+5) 0),(4,.ref (n+7) 0)]⟩ (Yn O n [none,none,none,none,some (oR 41 14 Zh ([(⟨2,0,([(⟨10,([1]:List Int),([]:(List Zb))⟩:Zb)]:List Zb),(⟨0,(⟨0,([]:(List Int)),([]:(List Zb))⟩:Zb),(⟨0,([]:(List Int)),([]:(List Zb))⟩:Zb),([]:(List Zs)),([]:(List Zq)),0,([]:(List Zo))⟩:Zd)⟩:Zo),(⟨0,1,([]:(List Zb)),(⟨0,(⟨0,([]:(List Int)),([]:(List Zb))⟩:Zb),(⟨0,([]:(List Int)),([]:(List Zb))⟩:Zb),([]:(List Zs)),([]:(List Zq)),0,([]:(List Zo))⟩:Zd)⟩:Zo)]:List Zo)),some ⟨false,30,11,1,[(vI 3),(vI 0),nV,nV,(vI 0),nV,nV,nV,nV,(vI 4),.row (n+4) ([(⟨2,0,([(⟨10,([1]:List Int),([]:(List Zb))⟩:Zb)]:List Zb),(⟨0,(⟨0,([]:(List Int)),([]:(List Zb))⟩:Zb),(⟨0,([]:(List Int)),([]:(List Zb))⟩:Zb),([]:(List Zs)),([]:(List Zq)),0,([]:(List Zo))⟩:Zd)⟩:Zo),(⟨0,1,([]:(List Zb)),(⟨0,(⟨0,([]:(List Int)),([]:(List Zb))⟩:Zb),(⟨0,([]:(List Int)),([]:(List Zb))⟩:Zb),([]:(List Zs)),([]:(List Zq)),0,([]:(List Zo))⟩:Zd)⟩:Zo)]:List Zo).length]⟩,some (oR 41 14 Zh ([(⟨0,1,([]:(List Zb)),(⟨0,(⟨0,([]:(List Int)),([]:(List Zb))⟩:Zb),(⟨0,([]:(List Int)),([]:(List Zb))⟩:Zb),([]:(List Zs)),([]:(List Zq)),0,([]:(List Zo))⟩:Zd)⟩:Zo),(⟨2,0,([(⟨10,([2]:List Int),([]:(List Zb))⟩:Zb)]:List Zb),(⟨0,(⟨0,([]:(List Int)),([]:(List Zb))⟩:Zb),(⟨0,([]:(List Int)),([]:(List Zb))⟩:Zb),([]:(List Zs)),([]:(List Zq)),0,([]:(List Zo))⟩:Zd)⟩:Zo)]:List Zo)),some ⟨false,30,11,1,[(vI 3),(vI 0),nV,nV,(vI 0),nV,nV,nV,nV,(vI 4),.row (n+6) ([(⟨0,1,([]:(List Zb)),(⟨0,(⟨0,([]:(List Int)),([]:(List Zb))⟩:Zb),(⟨0,([]:(List Int)),([]:(List Zb))⟩:Zb),([]:(List Zs)),([]:(List Zq)),0,([]:(List Zo))⟩:Zd)⟩:Zo),(⟨2,0,([(⟨10,([2]:List Int),([]:(List Zb))⟩:Zb)]:List Zb),(⟨0,(⟨0,([]:(List Int)),([]:(List Zb))⟩:Zb),(⟨0,([]:(List Int)),([]:(List Zb))⟩:Zb),([]:(List Zs)),([]:(List Zq)),0,([]:(List Zo))⟩:Zd)⟩:Zo)]:List Zo).length]⟩]) (Jw hU rfl rfl ?_) ?_
 ·exact lC
 refine lB ⟨77,[],[(3,.ref (n+5) 0),(4,.ref (n+7) 0)]⟩ (Yn O n [none,none,none,none,none,some ⟨false,30,11,1,[(vI 3),(vI 0),nV,nV,(vI 0),nV,nV,nV,nV,(vI 4),(sL Zh ([(⟨2,0,([(⟨10,([1]:List Int),([]:(List Zb))⟩:Zb)]:List Zb),(⟨0,(⟨0,([]:(List Int)),([]:(List Zb))⟩:Zb),(⟨0,([]:(List Int)),([]:(List Zb))⟩:Zb),([]:(List Zs)),([]:(List Zq)),0,([]:(List Zo))⟩:Zd)⟩:Zo),(⟨0,1,([]:(List Zb)),(⟨0,(⟨0,([]:(List Int)),([]:(List Zb))⟩:Zb),(⟨0,([]:(List Int)),([]:(List Zb))⟩:Zb),([]:(List Zs)),([]:(List Zq)),0,([]:(List Zo))⟩:Zd)⟩:Zo)]:List Zo))]⟩,none,some ⟨false,30,11,1,[(vI 3),(vI 0),nV,nV,(vI 0),nV,nV,nV,nV,(vI 4),(sL Zh ([(⟨0,1,([]:(List Zb)),(⟨0,(⟨0,([]:(List Int)),([]:(List Zb))⟩:Zb),(⟨0,([]:(List Int)),([]:(List Zb))⟩:Zb),([]:(List Zs)),([]:(List Zq)),0,([]:(List Zo))⟩:Zd)⟩:Zo),(⟨2,0,([(⟨10,([2]:List Int),([]:(List Zb))⟩:Zb)]:List Zb),(⟨0,(⟨0,([]:(List Int)),([]:(List Zb))⟩:Zb),(⟨0,([]:(List Int)),([]:(List Zb))⟩:Zb),([]:(List Zs)),([]:(List Zq)),0,([]:(List Zo))⟩:Zd)⟩:Zo)]:List Zo))]⟩]) (Jw hU rfl rfl ?_) ?_
 ·exact lC
 refine Z7 ?_
 obtain ⟨y2,kE,h⟩:=bC h
 refine zR ?_
 refine GCalls.argsW ?_ ((kI kE).then ?_)
 ·exact lC
 refine zS ?_
 refine zD [5,6,7] [false,false,false,false,false,false,false,false,true,true] ?_
 obtain ⟨gO,Gt,h⟩:=bC h
 refine Qf (E':=⟨77,[],[(0,(vB gO))]⟩) (O':=(Yn O n [none,none,none,none,none,none,none,none,none,none])) (n0:=(n+10)) ?_ ?_
 ·rcases Bool.eq_false_or_eq_true (y2.2.2 == 0) with fU | fU
  ·replace Gt:=Ym fU Gt
   rcases Bool.eq_false_or_eq_true ((y2.1.Ops.length:Int) == 2) with tC | tC
   ·replace Gt:=Ym tC Gt
    try rw [tC] at fU
    obtain ⟨x20,Yde,Zm9,Zna,Znc,Gt⟩:=bE (f:=Zh) rJ (fun _=>rfl) (by decide) Gt
    have g21:=V1 (f:=Zh) (sz:=14) wP (fun _=>rfl) (by decide) (by decide) Yde
    rcases Bool.eq_false_or_eq_true (x20.Kind == 2) with wH | wH
    ·replace Gt:=Ym wH Gt
     try rw [wH] at fU
     try rw [wH] at tC
     obtain ⟨x22,Z6l,Zi2,Zi3,Zi5,Gt⟩:=bE (f:=Zh) rJ (fun _=>rfl) (by decide) Gt
     have g23:=iZ (f:=Zh) (off:=1) (sz:=14) wP (fun _=>rfl) (by decide) (by decide) Z6l
     rcases Bool.eq_false_or_eq_true (x22.N == 2) with c31 | c31
     ·replace Gt:=Ym c31 Gt
      try rw [c31] at fU
      try rw [c31] at tC
      try rw [c31] at wH
      rcases Bool.eq_false_or_eq_true ((y2.2.1.Ops.length:Int) == 2) with c32 | c32
      ·replace Gt:=Ym c32 Gt
       try rw [c32] at fU
       try rw [c32] at tC
       try rw [c32] at wH
       try rw [c32] at c31
       obtain ⟨x24,Z9g,Zee,Zef,Zeh,Gt⟩:=bE (f:=Zh) rJ (fun _=>rfl) (by decide) Gt
       have g25:=iZ (f:=Zh) (off:=1) (sz:=14) wP (fun _=>rfl) (by decide) (by decide) Z9g
       rcases Bool.eq_false_or_eq_true (x24.N == 2) with c33 | c33
       ·replace Gt:=Ym c33 Gt
        try rw [c33] at fU
        try rw [c33] at tC
        try rw [c33] at wH
        try rw [c33] at c31
        try rw [c33] at c32
        obtain ⟨x26,Ydf,Z71,Z8f,Z8s,Gt⟩:=bE (f:=Zh) rJ (fun _=>rfl) (by decide) Gt
        have g27:=V1 (f:=Zh) (sz:=14) wP (fun _=>rfl) (by decide) (by decide) Ydf
        refine Yv Yd (Zld (Zdj (Zld (Zdj [])))) ?_
        simp only [push_cast,seval,-Int.reduceToNat,Zc,fU,tC,Zm9,Zna,Znc,g21,wH,Zi2,Zi3,Zi5,g23,c31,c32,Zee,Zef,Zeh,g25,c33,Z71,Z8f,Z8s,g27,Ye,hN]
        refine zG ?_
        obtain rfl:=sI Gt
        refine And.intro rfl (Fit2.of (Jw hU rfl rfl ?_) (by omega))
        simp only [push_cast,seval,-Int.reduceToNat,Zc,fU,tC,Zm9,Zna,Znc,g21,wH,Zi2,Zi3,Zi5,g23,c31,c32,Zee,Zef,Zeh,g25,c33,Z71,Z8f,Z8s,g27,Ye,hN]
       replace Gt:=Yl c33 Gt
       try rw [c33] at fU
       try rw [c33] at tC
       try rw [c33] at wH
       try rw [c33] at c31
       try rw [c33] at c32
       refine Yv Yd (Zld (Zdj (Zld (Zjd (Zro []))))) ?_
       simp only [push_cast,seval,-Int.reduceToNat,Zc,fU,tC,Zm9,Zna,Znc,g21,wH,Zi2,Zi3,Zi5,g23,c31,c32,Zee,Zef,Zeh,g25,c33,Ye,hN]
       refine zG ?_
       obtain rfl:=sI Gt
       refine And.intro rfl (Fit2.of (Jw hU rfl rfl ?_) (by omega))
       simp only [push_cast,seval,-Int.reduceToNat,Zc,fU,tC,Zm9,Zna,Znc,g21,wH,Zi2,Zi3,Zi5,g23,c31,c32,Zee,Zef,Zeh,g25,c33,Ye,hN]
      replace Gt:=Yl c32 Gt
      try rw [c32] at fU
      try rw [c32] at tC
      try rw [c32] at wH
      try rw [c32] at c31
      refine Yv Yd (Zld (Zdj (Zld (Zfr [])))) ?_
      simp only [push_cast,seval,-Int.reduceToNat,Zc,fU,tC,Zm9,Zna,Znc,g21,wH,Zi2,Zi3,Zi5,g23,c31,c32,Ye,hN]
      refine zG ?_
      obtain rfl:=sI Gt
      refine And.intro rfl (Fit2.of (Jw hU rfl rfl ?_) (by omega))
      simp only [push_cast,seval,-Int.reduceToNat,Zc,fU,tC,Zm9,Zna,Znc,g21,wH,Zi2,Zi3,Zi5,g23,c31,c32,Ye,hN]
     replace Gt:=Yl c31 Gt
     try rw [c31] at fU
     try rw [c31] at tC
     try rw [c31] at wH
     refine Yv Yd (Zld (Zdj (Zld (Zfr [])))) ?_
     refine Z7i fU tC Zm9 Zna Znc g21 wH Zi2 Zi3 Zi5 g23 c31 ?_
     refine zG ?_
     obtain rfl:=sI Gt
     refine And.intro rfl (Fit2.of (Jw hU rfl rfl ?_) (by omega))
     exact Z14 fU tC Zm9 Zna Znc g21 wH Zi2 Zi3 Zi5 g23 c31
    replace Gt:=Yl wH Gt
    try rw [wH] at fU
    try rw [wH] at tC
    refine Z15 (Zld (Zjd (Yam []))) fU tC Zm9 Zna Znc g21 wH ?_
    refine zG ?_
    exact Z13 Gt fU tC Zm9 Zna Znc g21 wH
   replace Gt:=Yl tC Gt
   try rw [tC] at fU
   refine Kc (Zld (Z4y [])) fU tC ?_
   refine zG ?_
   exact rS Gt fU tC
  replace Gt:=Yl fU Gt
  refine yU (Zld (Z4y [])) fU ?_
  refine zG ?_
  exact xJ Gt fU
 exact Jo [(vB gO)]
theorem Zdx {a0:(List Int)} {a1:(List Int)} {r:Bool} {O:Objs} {n:Nat} (h:pK a0 a1=some r):GTo Try.prog 31 [(sL (eI .u64) a0),(sL (eI .u64) a1)] O n ((vB r)) O n:=by
 unfold pK at h
 refine uH Try.call31 Try.func31 fun hU Ye hN => ?_
 show W _ _ _ _ ⟨26,[],[(0,(sL (eI .u64) a0)),(1,(sL (eI .u64) a1))]⟩ (Yn O n []) _
 refine zQ [0,1] ?_
 refine Z7 ?_
 refine zQ [0,1,10] ?_
 refine Yj (t:=((a0.length:Int) != (a1.length:Int))) rfl (fun c8 => ?_) (fun c8 => ?_)
 ·replace h:=Ym c8 h
  refine zQ [4] ?_
  exact Jo [(vB false)]
 replace h:=Yl c8 h
 refine uZ [0,1] [] ?_
 refine Z7 ?_
 refine zQd [0,1,5] [0,1,5] [] ?_
 obtain ⟨z7,hz7,h⟩:=bC h
 refine gV (J:=(Kh (fun z7=>JR n (⟨26,[],[(4,(vB false))]⟩:Env) (Yn O n []) n) (fun z7=>JX 0 n (⟨26,[],[]⟩:Env) (Yn O n []) n))) (z:=z7) ?_ fun hw => ?_
 ·refine Qy hz7 (fun Yf=>⟨26,[],[(0,(sL (eI .u64) a0)),(1,(sL (eI .u64) a1)),(5,(vI Yf))]⟩) (fun Yf=>(Yn O n [])) (Kh (fun z7=>JR n (⟨26,[],[(4,(vB false))]⟩:Env) (Yn O n []) n) (fun z7=>JX 0 n (⟨26,[],[]⟩:Env) (Yn O n []) n)) ?_
  intro Yf x0_ Zu
  unfold eY at Zu
  try dsimp only
  refine Z7 ?_
  refine zQ [0,1,5,14] ?_
  refine Yj (t:=(decide (Yf < (a0.length:Int)))) rfl (fun c6 => ?_) (fun c6 => ?_)
  ·replace Zu:=Ym c6 Zu
   refine uZ [0,1,5] [] ?_
   refine Z7 ?_
   refine Xt ?_
   obtain ⟨x3,hx3,ax3,bx3,cx3,Zu⟩:=bE (f:=(eI .u64)) yP (fun _=>rfl) (by decide) Zu
   obtain ⟨x4,hx4,ax4,bx4,cx4,Zu⟩:=bE (f:=(eI .u64)) yP (fun _=>rfl) (by decide) Zu
   refine yJ [0,1,5,25] (Jh Yd (by kernel_rfl) [] (by kernel_rfl) ?_)
   refine zF6 ax3 bx3 cx3 ax4 bx4 cx4 ?_
   refine Yj (t:=(x3 != x4)) rfl (fun c5 => ?_) (fun c5 => ?_)
   ·replace Zu:=Ym c5 Zu
    refine zQ [4] ?_
    refine zW ?_
    exact zEy Zu
   replace Zu:=Yl c5 Zu
   refine uZ [0,1,5] [] ?_
   refine zR ?_
   exact cM Zu
  replace Zu:=Yl c6 Zu
  exact zEx Zu
 rcases z7 with z7 | z7
 ·dsimp only [Kh] at hw h
  refine Uq hw ?_
  try simp only [Qj,Xr,↓reduceIte,Nat.reduceEqDiff]
  exact jO [(vB false)]
 dsimp only [Kh] at hw h
 refine X7 hw ?_
 try simp only [Qj,Xr,↓reduceIte,Nat.reduceEqDiff]
 refine zD [] [] ?_
 refine zQ [4] ?_
 exact Jo [(vB true)]
def eH (Uh:(Zb→Zb→Option Bool)):Prop:=∀ {a0:Zb} {a1:Zb} {r:Bool} {O:Objs} {n:Nat},Uh a0 a1=some r→GTo Try.prog 15 [.agg (Z9 a0),.agg (Z9 a1)] O n ((vB r)) O n
theorem Zdd {Uh:(Zb→Zb→Option Bool)} (Zbi:eH Uh) {a0:Zb} {a1:Zb} {r:Bool} {O:Objs} {n:Nat} (h:kK Uh a0 a1=some r):GTo Try.prog 15 [.agg (Z9 a0),.agg (Z9 a1)] O n ((vB r)) O n:=by
 unfold kK at h
 refine uH Try.call15 Try.func15 fun hU Ye hN => ?_
 show W _ _ _ _ ⟨47,[],[(0,.agg (Z9 a0)),(1,.agg (Z9 a1))]⟩ (Yn O n []) _
 refine zQ [2,3] ?_
 refine Z7 ?_
 obtain ⟨z2,wD,h⟩:=bC h
 refine Qf (E':=⟨47,[],[(2,.ref n 0),(3,.ref (n+1) 0),(27,(vB z2))]⟩) (O':=(Yn O n [some ⟨false,25,3,1,(Z9 a0)⟩,some ⟨false,25,3,1,(Z9 a1)⟩])) (n0:=(n+2)) ?_ ?_
 ·rcases Bool.eq_false_or_eq_true (a0.Kind != a1.Kind) with c5 | c5
  ·replace wD:=Ym c5 wD
   refine yU (Yai []) c5 ?_
   exact xJ wD c5
  replace wD:=Yl c5 wD
  obtain ⟨y4,hy4,wD⟩:=bC wD
  refine yU (Zjd (Zpr [])) c5 ?_
  refine zG ?_
  refine (Zdx hy4).then ?_
  refine zX1 c5 ?_
  refine zG ?_
  exact xJ wD c5
 refine Yj (t:=z2) rfl (fun c15 => ?_) (fun c15 => ?_)
 ·replace h:=Ym c15 h
  refine zQ [4] ?_
  exact Jo [(vB false)]
 replace h:=Yl c15 h
 refine uZ [2,3] [true,true] ?_
 refine Z7 ?_
 refine zQd [2,3,5] [2,3,5] [true,true] ?_
 obtain ⟨wV,Zkv,h⟩:=bC h
 refine gV (J:=(Kh (fun wV=>JR n (⟨47,[],[(4,(vB false))]⟩:Env) (Yn O n [none,none]) (n+2)) (fun wV=>JX 0 n (⟨47,[],[]⟩:Env) (Yn O n [none,none]) (n+2)))) (z:=wV) ?_ fun hw => ?_
 ·refine Qy Zkv (fun Yf=>⟨47,[],[(2,.ref n 0),(3,.ref (n+1) 0),(5,(vI Yf))]⟩) (fun Yf=>(Yn O n [some ⟨false,25,3,1,(Z9 a0)⟩,some ⟨false,25,3,1,(Z9 a1)⟩])) (Kh (fun wV=>JR n (⟨47,[],[(4,(vB false))]⟩:Env) (Yn O n [none,none]) (n+2)) (fun wV=>JX 0 n (⟨47,[],[]⟩:Env) (Yn O n [none,none]) (n+2))) ?_
  intro Yf x0_ Zu
  unfold wZ at Zu
  try dsimp only
  refine Z7 ?_
  refine zQ [2,3,5,32] ?_
  refine Yj (t:=(decide (Yf < (a0.Kids.length:Int)))) rfl (fun nO => ?_) (fun nO => ?_)
  ·replace Zu:=Ym nO Zu
   refine uZ [2,3,5] [true,true] ?_
   refine Z7 ?_
   refine Xt ?_
   refine Z7 ?_
   obtain ⟨x9,hx9,ax9,bx9,cx9,Zu⟩:=bE (f:=Za) mY (fun _=>rfl) (by decide) Zu
   obtain ⟨dB,Zi9,Zqn,Zqq,Zqv,Zu⟩:=bE (f:=Za) mY (fun _=>rfl) (by decide) Zu
   obtain ⟨y11,Z6m,Zu⟩:=bC Zu
   refine Jh Yd (by kernel_rfl) [] (by kernel_rfl) ?_
   refine zF6 ax9 bx9 cx9 Zqn Zqq Zqv ?_
   refine PCall.of (Zbi Z6m) ?_
   refine zF6 ax9 bx9 cx9 Zqn Zqq Zqv ?_
   refine zD [2,3,5,46] [true,true] ?_
   refine Yj (t:=(!y11)) rfl (fun fR => ?_) (fun fR => ?_)
   ·replace Zu:=Ym fR Zu
    refine zQ [4] ?_
    refine zW ?_
    exact zEy Zu
   replace Zu:=Yl fR Zu
   refine uZ [2,3,5] [true,true] ?_
   refine zR ?_
   exact cM Zu
  replace Zu:=Yl nO Zu
  exact zEx Zu
 rcases wV with wV | wV
 ·dsimp only [Kh] at hw h
  refine Uq hw ?_
  try simp only [Qj,Xr,↓reduceIte,Nat.reduceEqDiff]
  exact jO [(vB false)]
 dsimp only [Kh] at hw h
 refine X7 hw ?_
 try simp only [Qj,Xr,↓reduceIte,Nat.reduceEqDiff]
 refine zD [] [false,false] ?_
 refine zQ [4] ?_
 exact Jo [(vB true)]
theorem Zat:∀ k,(eH (U3 k)):=fun k=>by
 induction k with
 | zero=>exact @fun a0 a1 r O n h=>(nomatch (show (none:Option _)=some _ from h))
 | succ k ih=>exact @fun a0 a1 r O n h=>Zdd (ih)  h
theorem mU {a0:Zb} {a1:Zb} {r:Bool} {O:Objs} {n:Nat} (h:qK a0 a1=some r):GTo Try.prog 15 [.agg (Z9 a0),.agg (Z9 a1)] O n ((vB r)) O n:=by
 obtain ⟨k,hk⟩:=pV h
 exact (Zat k)  hk
theorem oC {a0:(List Zb)} {a1:(List Zb)} {r:Bool} {O:Objs} {n:Nat} (h:Gk a0 a1=some r):GTo Try.prog 16 [(sL Za a0),(sL Za a1)] O n ((vB r)) O n:=by
 unfold Gk at h
 refine uH Try.call16 Try.func16 fun hU Ye hN => ?_
 show W _ _ _ _ ⟨27,[],[(0,(sL Za a0)),(1,(sL Za a1))]⟩ (Yn O n []) _
 refine zQ [0,1] ?_
 refine Z7 ?_
 refine zQ [0,1,10] ?_
 refine Yj (t:=((a0.length:Int) != (a1.length:Int))) rfl (fun iB => ?_) (fun iB => ?_)
 ·replace h:=Ym iB h
  refine zQ [4] ?_
  exact Jo [(vB false)]
 replace h:=Yl iB h
 refine uZ [0,1] [] ?_
 refine Z7 ?_
 refine zQd [0,1,5] [0,1,5] [] ?_
 obtain ⟨z9,sM,h⟩:=bC h
 refine gV (J:=(Kh (fun z9=>JR n (⟨27,[],[(4,(vB false))]⟩:Env) (Yn O n []) n) (fun z9=>JX 0 n (⟨27,[],[]⟩:Env) (Yn O n []) n))) (z:=z9) ?_ fun hw => ?_
 ·refine Qy sM (fun Yf=>⟨27,[],[(0,(sL Za a0)),(1,(sL Za a1)),(5,(vI Yf))]⟩) (fun Yf=>(Yn O n [])) (Kh (fun z9=>JR n (⟨27,[],[(4,(vB false))]⟩:Env) (Yn O n []) n) (fun z9=>JX 0 n (⟨27,[],[]⟩:Env) (Yn O n []) n)) ?_
  intro Yf x0_ Zu
  unfold G5 at Zu
  try dsimp only
  refine Z7 ?_
  refine zQ [0,1,5,14] ?_
  refine Yj (t:=(decide (Yf < (a0.length:Int)))) rfl (fun c8 => ?_) (fun c8 => ?_)
  ·replace Zu:=Ym c8 Zu
   refine uZ [0,1,5] [] ?_
   refine Z7 ?_
   refine Xt ?_
   refine Z7 ?_
   obtain ⟨x4,hx4,ax4,bx4,cx4,Zu⟩:=bE (f:=Za) mY (fun _=>rfl) (by decide) Zu
   obtain ⟨x5,hx5,ax5,bx5,cx5,Zu⟩:=bE (f:=Za) mY (fun _=>rfl) (by decide) Zu
   obtain ⟨y6,hy6,Zu⟩:=bC Zu
   refine Jh Yd (by kernel_rfl) [] (by kernel_rfl) ?_
   refine zF6 ax4 bx4 cx4 ax5 bx5 cx5 ?_
   refine PCall.of (mU hy6) ?_
   refine zF6 ax4 bx4 cx4 ax5 bx5 cx5 ?_
   refine zD [0,1,5,26] [] ?_
   refine Yj (t:=(!y6)) rfl (fun c7 => ?_) (fun c7 => ?_)
   ·replace Zu:=Ym c7 Zu
    refine zQ [4] ?_
    refine zW ?_
    exact zEy Zu
   replace Zu:=Yl c7 Zu
   refine uZ [0,1,5] [] ?_
   refine zR ?_
   exact cM Zu
  replace Zu:=Yl c8 Zu
  exact zEx Zu
 rcases z9 with z9 | z9
 ·dsimp only [Kh] at hw h
  refine Uq hw ?_
  try simp only [Qj,Xr,↓reduceIte,Nat.reduceEqDiff]
  exact jO [(vB false)]
 dsimp only [Kh] at hw h
 refine X7 hw ?_
 try simp only [Qj,Xr,↓reduceIte,Nat.reduceEqDiff]
 refine zD [] [] ?_
 refine zQ [4] ?_
 exact Jo [(vB true)]
def gH (J5:(Zd→Zd→Option Bool)):Prop:=∀ {a0:Zd} {a1:Zd} {r:Bool} {O:Objs} {n:Nat},J5 a0 a1=some r→GTo Try.prog 8 [.agg (Zl a0),.agg (Zl a1)] O n ((vB r)) O n
theorem Zdf {J5:(Zd→Zd→Option Bool)} (jH:gH J5) {a0:Zd} {a1:Zd} {r:Bool} {O:Objs} {n:Nat} (h:lK J5 a0 a1=some r):GTo Try.prog 8 [.agg (Zl a0),.agg (Zl a1)] O n ((vB r)) O n:=by
 unfold lK at h
 refine uH Try.call8 Try.func8 fun hU Ye hN => ?_
 show W _ _ _ _ ⟨164,[],[(0,.agg (Zl a0)),(1,.agg (Zl a1))]⟩ (Yn O n []) _
 refine zQ [2,3] ?_
 refine Z7 ?_
 obtain ⟨z3,Gy,h⟩:=bC h
 refine Qf (E':=⟨164,[],[(2,.ref n 0),(3,.ref (n+1) 0),(64,(vB z3))]⟩) (O':=(Yn O n [some ⟨false,30,11,1,(Zl a0)⟩,some ⟨false,30,11,1,(Zl a1)⟩])) (n0:=(n+2)) ?_ ?_
 ·rcases Bool.eq_false_or_eq_true (a0.Kind != a1.Kind) with c8 | c8
  ·replace Gy:=Ym c8 Gy
   refine yU (Zrq (Z4z [])) c8 ?_
   refine zG ?_
   exact xJ Gy c8
  replace Gy:=Yl c8 Gy
  rcases Bool.eq_false_or_eq_true (a0.List_ != a1.List_) with c9 | c9
  ·replace Gy:=Ym c9 Gy
   try rw [c9] at c8
   refine Kc (Zrq (Z4z [])) c8 c9 ?_
   refine zG ?_
   exact rS Gy c8 c9
  replace Gy:=Yl c9 Gy
  try rw [c9] at c8
  obtain ⟨y6,hy6,Gy⟩:=bC Gy
  rcases Bool.eq_false_or_eq_true y6 with iB | iB
  ·replace Gy:=Ym iB Gy
   try rw [iB] at c8
   try rw [iB] at c9
   obtain ⟨y7,hy7,Gy⟩:=bC Gy
   refine vH (Zrq (Zdj (Yaq []))) c8 c9 iB ?_
   refine zG ?_
   refine (mU hy6).then ?_
   refine zX3 c8 c9 iB ?_
   refine zG ?_
   refine (mU hy7).then ?_
   refine zX3 c8 c9 iB ?_
   refine zG ?_
   exact gE Gy c8 c9 iB
  replace Gy:=Yl iB Gy
  try rw [iB] at c8
  try rw [iB] at c9
  refine vH (Zrq (Zjd (Z4x []))) c8 c9 iB ?_
  refine zG ?_
  refine (mU hy6).then ?_
  refine zX3 c8 c9 iB ?_
  refine zG ?_
  exact gE Gy c8 c9 iB
 refine Yj (t:=z3) rfl (fun c65 => ?_) (fun c65 => ?_)
 ·replace h:=Ym c65 h
  refine zQ [4] ?_
  exact Jo [(vB false)]
 replace h:=Yl c65 h
 refine uZ [2,3] [true,true] ?_
 refine Z7 ?_
 refine zQd [2,3,5] [2,3,5] [true,true] ?_
 obtain ⟨z17,Ydr,h⟩:=bC h
 refine gV (J:=(Kh (fun z17=>JR n (⟨164,[],[(4,(vB false))]⟩:Env) (Yn O n [none,none]) (n+2)) (fun z17=>JX 0 n (⟨164,[],[(2,.ref n 0),(3,.ref (n+1) 0)]⟩:Env) (Yn O n [some ⟨false,30,11,1,(Zl a0)⟩,some ⟨false,30,11,1,(Zl a1)⟩]) (n+2)))) (z:=z17) ?_ fun hw => ?_
 ·refine Qy Ydr (fun Yf=>⟨164,[],[(2,.ref n 0),(3,.ref (n+1) 0),(5,(vI Yf))]⟩) (fun Yf=>(Yn O n [some ⟨false,30,11,1,(Zl a0)⟩,some ⟨false,30,11,1,(Zl a1)⟩])) (Kh (fun z17=>JR n (⟨164,[],[(4,(vB false))]⟩:Env) (Yn O n [none,none]) (n+2)) (fun z17=>JX 0 n (⟨164,[],[(2,.ref n 0),(3,.ref (n+1) 0)]⟩:Env) (Yn O n [some ⟨false,30,11,1,(Zl a0)⟩,some ⟨false,30,11,1,(Zl a1)⟩]) (n+2))) ?_
  intro Yf x0_ Zu
  unfold yZ at Zu
  try dsimp only
  refine Z7 ?_
  refine zQ [2,3,5,69] ?_
  refine Yj (t:=(decide (Yf < (a0.Words.length:Int)))) rfl (fun c16 => ?_) (fun c16 => ?_)
  ·replace Zu:=Ym c16 Zu
   refine uZ [2,3,5] [true,true] ?_
   refine Z7 ?_
   refine Xt ?_
   obtain ⟨kM,Yfm,Ycz,Yc2,Yc6,Zu⟩:=bE (f:=Zf) oS (fun _=>rfl) (by decide) Zu
   obtain ⟨yH,Z6j,Ztr,Zts,Ztu,Zu⟩:=bE (f:=Zf) oS (fun _=>rfl) (by decide) Zu
   refine yJ [2,3,5,82] (Jh Yd (by kernel_rfl) [] (by kernel_rfl) ?_)
   refine zF6 Ycz Yc2 Yc6 Ztr Zts Ztu ?_
   refine Yj (t:=(!((kM.At == yH.At) && ((kM.Mask == yH.Mask) && ((kM.Old == yH.Old) && (kM.New == yH.New)))))) rfl (fun c15 => ?_) (fun c15 => ?_)
   ·replace Zu:=Ym c15 Zu
    refine zQ [4] ?_
    refine zW ?_
    exact zEy Zu
   replace Zu:=Yl c15 Zu
   refine uZ [2,3,5] [true,true] ?_
   refine zR ?_
   exact cM Zu
  replace Zu:=Yl c16 Zu
  exact zEx Zu
 rcases z17 with z17 | z17
 ·dsimp only [Kh] at hw h
  refine Uq hw ?_
  try simp only [Qj,Xr,↓reduceIte,Nat.reduceEqDiff]
  exact jO [(vB false)]
 dsimp only [Kh] at hw h
 refine X7 hw ?_
 try simp only [Qj,Xr,↓reduceIte,Nat.reduceEqDiff]
 refine lO [2,3] [true,true] ?_
 refine zQd [2,3,6] [2,3,6] [true,true] ?_
 obtain ⟨z49,Ydx,h⟩:=bC h
 refine gV (J:=(Kh (fun z49=>JR n (⟨164,[],[(4,(vB false))]⟩:Env) (Yn O n [none,none]) (n+2)) (fun z49=>JX 2 n (⟨164,[],[(2,.ref n 0),(3,.ref (n+1) 0)]⟩:Env) (Yn O n [some ⟨false,30,11,1,(Zl a0)⟩,some ⟨false,30,11,1,(Zl a1)⟩]) (n+2)))) (z:=z49) ?_ fun hw => ?_
 ·refine Qy Ydx (fun xK=>⟨164,[],[(2,.ref n 0),(3,.ref (n+1) 0),(6,(vI xK))]⟩) (fun xK=>(Yn O n [some ⟨false,30,11,1,(Zl a0)⟩,some ⟨false,30,11,1,(Zl a1)⟩])) (Kh (fun z49=>JR n (⟨164,[],[(4,(vB false))]⟩:Env) (Yn O n [none,none]) (n+2)) (fun z49=>JX 2 n (⟨164,[],[(2,.ref n 0),(3,.ref (n+1) 0)]⟩:Env) (Yn O n [some ⟨false,30,11,1,(Zl a0)⟩,some ⟨false,30,11,1,(Zl a1)⟩]) (n+2))) ?_
  intro xK x1_ Js
  unfold zZ at Js
  try dsimp only
  refine Z7 ?_
  refine zQ [2,3,6,87] ?_
  refine Yj (t:=(decide (xK < (a0.Kids.length:Int)))) rfl (fun c48 => ?_) (fun c48 => ?_)
  ·replace Js:=Ym c48 Js
   refine uZ [2,3,6] [true,true] ?_
   refine Z7 ?_
   refine Xt ?_
   obtain ⟨z27,Ze5,Js⟩:=bC Js
   refine Qf (E':=⟨164,[],[(2,.ref n 0),(3,.ref (n+1) 0),(6,(vI xK)),(118,(vB z27))]⟩) (O':=(Yn O n [some ⟨false,30,11,1,(Zl a0)⟩,some ⟨false,30,11,1,(Zl a1)⟩])) (n0:=(n+2)) ?_ ?_
   ·obtain ⟨x37,Z9j,Zys,Zy1,Zzb,Ze5⟩:=bE (f:=Ze) aV (fun _=>rfl) (by decide) Ze5
    have g38:=V1 (f:=Ze) (sz:=12) wP (fun _=>rfl) (by decide) (by decide) Z9j
    obtain ⟨x39,Z9k,Zyt,Zy2,Zzc,Ze5⟩:=bE (f:=Ze) aV (fun _=>rfl) (by decide) Ze5
    have g40:=V1 (f:=Ze) (sz:=12) wP (fun _=>rfl) (by decide) (by decide) Z9k
    rcases Bool.eq_false_or_eq_true (x37.At != x39.At) with c46 | c46
    ·replace Ze5:=Ym c46 Ze5
     refine Jh Yd (by kernel_rfl) (Z4w []) (by kernel_rfl) ?_
     refine zF9 Zys Zy1 Zzb g38 Zyt Zy2 Zzc g40 c46 ?_
     obtain rfl:=sI Ze5
     refine And.intro rfl (Fit2.of (Jw hU rfl rfl ?_) (by omega))
     exact Zqf Zys Zy1 Zzb g38 Zyt Zy2 Zzc g40 c46
    replace Ze5:=Yl c46 Ze5
    have g42:=iZ (f:=Ze) (off:=1) (sz:=12) xP (fun _=>rfl) (by decide) (by decide) Z9j
    have g44:=iZ (f:=Ze) (off:=1) (sz:=12) xP (fun _=>rfl) (by decide) (by decide) Z9k
    obtain ⟨y45,Ydl,Ze5⟩:=bC Ze5
    refine Jh Yd (by kernel_rfl) (Z40 []) (by kernel_rfl) ?_
    refine Ycq Zys Zy1 Zzb g38 Zyt Zy2 Zzc g40 c46 g42 g44 ?_
    refine PCall.of (jH Ydl) ?_
    refine Ycq Zys Zy1 Zzb g38 Zyt Zy2 Zzc g40 c46 g42 g44 ?_
    obtain rfl:=sI Ze5
    refine And.intro rfl (Fit2.of (Jw hU rfl rfl ?_) (by omega))
    exact Ycs Zys Zy1 Zzb g38 Zyt Zy2 Zzc g40 c46 g42 g44
   refine Yj (t:=z27) rfl (fun c47 => ?_) (fun c47 => ?_)
   ·replace Js:=Ym c47 Js
    refine zQ [4] ?_
    refine zW ?_
    exact zEy Js
   replace Js:=Yl c47 Js
   refine uZ [2,3,6] [true,true] ?_
   refine zR ?_
   exact cM Js
  replace Js:=Yl c48 Js
  exact zEx Js
 rcases z49 with z49 | z49
 ·dsimp only [Kh] at hw h
  refine Uq hw ?_
  try simp only [Qj,Xr,↓reduceIte,Nat.reduceEqDiff]
  exact jO [(vB false)]
 dsimp only [Kh] at hw h
 refine X7 hw ?_
 try simp only [Qj,Xr,↓reduceIte,Nat.reduceEqDiff]
 refine lO [2,3] [true,true] ?_
 refine zQd [2,3,7] [2,3,7] [true,true] ?_
 obtain ⟨z64,Ydz,h⟩:=bC h
 refine gV (J:=(Kh (fun z64=>JR n (⟨164,[],[(4,(vB false))]⟩:Env) (Yn O n [none,none]) (n+2)) (fun z64=>JX 4 n (⟨164,[],[]⟩:Env) (Yn O n [none,none]) (n+2)))) (z:=z64) ?_ fun hw => ?_
 ·refine Qy Ydz (fun s2_=>⟨164,[],[(2,.ref n 0),(3,.ref (n+1) 0),(7,(vI s2_))]⟩) (fun s2_=>(Yn O n [some ⟨false,30,11,1,(Zl a0)⟩,some ⟨false,30,11,1,(Zl a1)⟩])) (Kh (fun z64=>JR n (⟨164,[],[(4,(vB false))]⟩:Env) (Yn O n [none,none]) (n+2)) (fun z64=>JX 4 n (⟨164,[],[]⟩:Env) (Yn O n [none,none]) (n+2))) ?_
  intro s2_ x2_ iX
  unfold aY at iX
  try dsimp only
  refine Z7 ?_
  refine zQ [2,3,7,123] ?_
  refine Yj (t:=(decide (s2_ < (a0.Ops.length:Int)))) rfl (fun c63 => ?_) (fun c63 => ?_)
  ·replace iX:=Ym c63 iX
   refine uZ [2,3,7] [true,true] ?_
   refine Z7 ?_
   refine Xt ?_
   obtain ⟨x50,Yfq,Zyu,Zy3,Zzd,iX⟩:=bE (f:=Zh) rJ (fun _=>rfl) (by decide) iX
   obtain ⟨x51,Yfr,Zyv,Zy4,Zze,iX⟩:=bE (f:=Zh) rJ (fun _=>rfl) (by decide) iX
   refine Qf (E':=⟨164,[],[(2,.ref n 0),(3,.ref (n+1) 0),(7,(vI s2_)),(8,.ref (n+2) 0),(9,.ref (n+3) 0)]⟩) (O':=(Yn O n [some ⟨false,30,11,1,(Zl a0)⟩,some ⟨false,30,11,1,(Zl a1)⟩,some ⟨false,41,14,1,(Xk x50)⟩,some ⟨false,41,14,1,(Xk x51)⟩])) (n0:=(n+4)) ?_ ?_
   ·refine Z2a Yd (by kernel_rfl) [.low,.low,.low,.low,.low,.low,.low,.low,.low,.low,.pass,.pass,.pass,.pass] (fun i=>i < (n+2)) 10 11 [0,1,2,3,4,5,6,7,8,9] [12,13] [.low,.low,.low,.low,.low,.low,.low,.low,.low,.low] [.pass,.pass,.pass,.pass] [.pass,.pass,.pass,.pass] [] (by kernel_rfl) rfl rfl rfl ?_
    refine zF6 Zyu Zy3 Zzd Zyv Zy4 Zze ?_
    repeat (with_reducible refine And.intro (by omega) ?_)
    refine And.intro ?_ ?_
    ·refine zF6 Zyu Zy3 Zzd Zyv Zy4 Zze ?_
     repeat (with_reducible refine And.intro (by first | exact Yi rfl | exact Yc) ?_)
     exact Ycm Zyu Zy3 Zzd Zyv Zy4 Zze
    refine zF6 Zyu Zy3 Zzd Zyv Zy4 Zze ?_
    repeat (with_reducible refine And.intro (by first | exact Yi rfl | exact Yc) ?_)
    refine And.intro rfl ?_
    refine fr0 (k:=4) (k':=4) hU [0,1,3,2] [0,1,3,2] zM0 ?_ ?_
    ·exact Z7j Zyu Zy3 Zzd Zyv Zy4 Zze
    exact lC
   obtain ⟨z54,wT,iX⟩:=bC iX
   refine Qf (E':=⟨164,[],[(2,.ref n 0),(3,.ref (n+1) 0),(7,(vI s2_)),(163,(vB z54))]⟩) (O':=(Yn O n [some ⟨false,30,11,1,(Zl a0)⟩,some ⟨false,30,11,1,(Zl a1)⟩,none,none])) (n0:=(n+4)) ?_ ?_
   ·rcases Bool.eq_false_or_eq_true (x50.Kind != x51.Kind) with c59 | c59
    ·replace wT:=Ym c59 wT
     refine yU (Zrq (Zfr [])) c59 ?_
     refine zG ?_
     exact xJ wT c59
    replace wT:=Yl c59 wT
    rcases Bool.eq_false_or_eq_true (x50.N != x51.N) with c60 | c60
    ·replace wT:=Ym c60 wT
     try rw [c60] at c59
     refine Kc (Zrq (Zfr [])) c59 c60 ?_
     refine zG ?_
     exact rS wT c59 c60
    replace wT:=Yl c60 wT
    try rw [c60] at c59
    obtain ⟨y57,Z94,wT⟩:=bC wT
    rcases Bool.eq_false_or_eq_true y57 with c61 | c61
    ·replace wT:=Ym c61 wT
     try rw [c61] at c59
     try rw [c61] at c60
     obtain ⟨y58,Ydo,wT⟩:=bC wT
     refine vH (Zrq (Zdj [])) c59 c60 c61 ?_
     refine zG ?_
     refine (oC Z94).then ?_
     refine zX3 c59 c60 c61 ?_
     refine zG ?_
     refine (jH Ydo).then ?_
     refine zX3 c59 c60 c61 ?_
     refine zG ?_
     exact gE wT c59 c60 c61
    replace wT:=Yl c61 wT
    try rw [c61] at c59
    try rw [c61] at c60
    refine vH (Zrq (Zjd (Zro []))) c59 c60 c61 ?_
    refine zG ?_
    refine (oC Z94).then ?_
    refine zX3 c59 c60 c61 ?_
    refine zG ?_
    exact gE wT c59 c60 c61
   refine Yj (t:=z54) rfl (fun c62 => ?_) (fun c62 => ?_)
   ·replace iX:=Ym c62 iX
    refine zQ [4] ?_
    refine zW ?_
    exact zEy iX
   replace iX:=Yl c62 iX
   refine uZ [2,3,7] [true,true,false,false] ?_
   refine zR ?_
   exact cM iX
  replace iX:=Yl c63 iX
  exact zEx iX
 rcases z64 with z64 | z64
 ·dsimp only [Kh] at hw h
  refine Uq hw ?_
  try simp only [Qj,Xr,↓reduceIte,Nat.reduceEqDiff]
  exact jO [(vB false)]
 dsimp only [Kh] at hw h
 refine X7 hw ?_
 try simp only [Qj,Xr,↓reduceIte,Nat.reduceEqDiff]
 refine zD [] [false,false] ?_
 refine zQ [4] ?_
 exact Jo [(vB true)]
theorem Zav:∀ k,(gH (U4 k)):=fun k=>by
 induction k with
 | zero=>exact @fun a0 a1 r O n h=>(nomatch (show (none:Option _)=some _ from h))
 | succ k ih=>exact @fun a0 a1 r O n h=>Zdf (ih)  h
theorem oJ {a0:Zd} {a1:Zd} {r:Bool} {O:Objs} {n:Nat} (h:kG a0 a1=some r):GTo Try.prog 8 [.agg (Zl a0),.agg (Zl a1)] O n ((vB r)) O n:=by
 obtain ⟨k,hk⟩:=pV h
 exact (Zav k)  hk
theorem wN {a0:Zd} {a1:Zd} {r:Bool} {O:Objs} {n:Nat} (h:G4 a0 a1=some r):GTo Try.prog 3 [.agg (Zl a0),.agg (Zl a1)] O n ((vB r)) O n:=by
 unfold G4 at h
 refine uH Try.call3 Try.func3 fun hU Ye hN => ?_
 show W _ _ _ _ ⟨50,[],[(0,.agg (Zl a0)),(1,.agg (Zl a1))]⟩ (Yn O n []) _
 refine zQ [2,3] ?_
 refine Z7 ?_
 obtain ⟨z3,Gy,h⟩:=bC h
 refine Qf (E':=⟨50,[],[(2,.ref n 0),(3,.ref (n+1) 0),(18,(vB z3))]⟩) (O':=(Yn O n [some ⟨false,30,11,1,(Zl a0)⟩,some ⟨false,30,11,1,(Zl a1)⟩])) (n0:=(n+2)) ?_ ?_
 ·obtain ⟨y6,hy6,Gy⟩:=bC Gy
  rcases Bool.eq_false_or_eq_true y6 with c8 | c8
  ·replace Gy:=Ym c8 Gy
   obtain ⟨y7,hy7,Gy⟩:=bC Gy
   refine yU (Zxu []) c8 ?_
   refine (iC hy6).then ?_
   refine zX1 c8 ?_
   refine (iC hy7).then ?_
   refine zX1 c8 ?_
   exact xJ Gy c8
  replace Gy:=Yl c8 Gy
  refine yU (Zxt []) c8 ?_
  refine (iC hy6).then ?_
  refine zX1 c8 ?_
  exact xJ Gy c8
 refine Yj (t:=z3) rfl (fun fU => ?_) (fun fU => ?_)
 ·replace h:=Ym fU h
  refine Z7 ?_
  obtain ⟨vC,Znf,h⟩:=bC h
  refine zCd (qI Znf) [4] [false,false] ?_
  exact Jo [(vB vC)]
 replace h:=Yl fU h
 refine uZ [2,3] [true,true] ?_
 refine Z7 ?_
 obtain ⟨y12,Z6n,h⟩:=bC h
 refine zCd (kI Z6n) [2,3,5,6,7] [true,true,true,true] ?_
 refine Z7 ?_
 obtain ⟨y14,Zxn,h⟩:=bC h
 refine zCd (kI Zxn) [5,6,7,8,9,10] [false,false,true,true,true,true] ?_
 obtain ⟨z18,gB,h⟩:=bC h
 refine Qf (E':=⟨50,[],[(4,(vB z18))]⟩) (O':=(Yn O n [none,none,none,none,none,none])) (n0:=(n+6)) ?_ ?_
 ·rcases Bool.eq_false_or_eq_true (y12.2.2 == y14.2.2) with nM | nM
  ·replace gB:=Ym nM gB
   all_goals
    obtain ⟨y22,Z6q,gB⟩:=bC gB
    rcases Bool.eq_false_or_eq_true y22 with oM | oM
    ·replace gB:=Ym oM gB
     try rw [oM] at nM
     obtain ⟨y23,Z2u,gB⟩:=bC gB
     rcases Bool.eq_false_or_eq_true y23 with zH | zH
     ·replace gB:=Ym zH gB
      try rw [zH] at nM
      try rw [zH] at oM
      obtain ⟨y24,Zzu,gB⟩:=bC gB
      refine vH (Z0l []) nM oM zH ?_
      refine (oJ Z6q).then ?_
      refine zX3 nM oM zH ?_
      refine (oJ Z2u).then ?_
      refine zX3 nM oM zH ?_
      refine (qI Zzu).then ?_
      refine zX3 nM oM zH ?_
      exact gE gB nM oM zH
     replace gB:=Yl zH gB
     try rw [zH] at nM
     try rw [zH] at oM
     refine vH (Zjd [X6]) nM oM zH ?_
     refine (oJ Z6q).then ?_
     refine zX3 nM oM zH ?_
     refine (oJ Z2u).then ?_
     refine zX3 nM oM zH ?_
     exact gE gB nM oM zH
    replace gB:=Yl oM gB
    try rw [oM] at nM
    refine Kc (Zxu (Z6y [])) nM oM ?_
    refine (oJ Z6q).then ?_
    refine eR nM oM ?_
    exact rS gB nM oM
  replace gB:=Yl nM gB
  all_goals
   refine yU (Z0j []) nM ?_
   exact xJ gB nM
 exact Jo [(vB z18)]
end Go.Proofs.Ytocpndlnbmjpmaa
