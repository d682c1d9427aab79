/- Part FM7 of this seat's mirrors: functions of the seat's program, and the plain functions that they are; each theorem bears its own conditions. -/
import Derived.Test.YtfjkcekfifobpaaFD
import Derived.Test.YtfjkcekfifobpaaFM4
namespace Go.Proofs.Ytfjkcekfifobpaa
open Go.RowKit
set_option linter.unusedVariables false
set_option linter.unusedSimpArgs false
set_option maxRecDepth 100000
set_option maxHeartbeats 4000000
attribute [local push_cast] Try.results109 Try.results139 Try.results14 Try.results31 Try.results45 Try.results59 Try.results71 Try.results72 vI vB nV sL oR Ze Vp Yz Zf G7 Zw8 Zw7 Zxx Zxw Ym Z4 Zsx Zm6 Zm5 onW Qz Zhr Zgd Zwb Zvi Zqq Zqu Zqp Zqt Zt7 Zt4 Zqs Zt6 Zt5 Zqr Zt2 Zn3 evS wok Kc Op.operands Call.operands gop onK onP atK List.all_cons List.all_nil Bool.and_true Bool.true_and Bool.and_self Value.oneCell' List.take_zero List.take_succ_cons List.take_nil List.drop_zero List.drop_succ_cons List.drop_nil List.append_nil Nat.add_zero Nat.zero_add Zbu Y1 ev Kg Zhf Zw1 Zw0 Zw6 Zw4 Zw5 Zw2 Zw3 Zwz Zwm Zz0 Z3k Zna Zht Zl4 Zhs Zp6 Zj1 Zku Zkz Zmz Zmw Zkx Zmy Zmx Zkw Zmu Zkv Zky Zjp Zmv Zq2 Zm7 Ze7 Zm8 Ze8 Zo6 Zm4 Z1r bLo bHi bMx Zhu Zo3 Z6n Zm3 Zo5 Zjq Zdj Zz3 Z6q Zm2 Z6u Zhq Z8i Zs0 Zs4 Zsz Zs3 Zxi Zxf Zxd Zp9 Zs1 Zxh Zxg Zs2 Zxe Zor gone Ztq Znu Znt pop TK.isAgg Zxq Zxu Zxp Zxt Zti Z4f Z4c Zxs Z4e Z4d Zxr Z4b G.under G.unders List.getD_cons_zero List.getD_cons_succ List.set_cons_zero List.set_cons_succ List.map_cons List.map_nil List.toList_toArray Array.toList_append Option.toArray_none Option.toArray_some Array.toList_map Option.map_some Option.map_none Option.bind_some Option.bind_none List.getElem?_cons_zero List.getElem?_cons_succ List.getElem?_nil List.nil_append List.cons_append List.replicate_succ List.replicate_zero List.length_cons List.length_nil and_true true_and and_false false_and Bool.true_eq_false Bool.false_eq_true forall_const false_implies implies_true IntKind.bits if_true if_false ite_true ite_false eq_self true_implies false_or or_false or_true true_or not_true_eq_false not_false_eq_true decide_true decide_false decide_eq_true_eq decide_eq_false_iff_not beq_iff_eq bne_iff_ne ne_eq Bool.not_eq_true Bool.not_eq_false beq_eq_false_iff_ne bne_eq_false_iff_eq beq_self_eq_true bne_self_eq_false Option.some.injEq exists_eq_left' exists_eq_left ge_iff_le gt_iff_lt decide_not Bool.not_true Bool.not_false imp_self Z3m cond_true cond_false Yfj Yfi Bool.not_not Bool.and_false Bool.false_and Bool.or_true Bool.true_or Bool.or_false Bool.false_or Zab Zes U3 K8 Xd Yv Option.join_some Nat.add_assoc Int.toNat_natCast eI eB eS eL Xo Zl5 Zk1 Zxb Zw9 Zxa Z8o Yb7 Zmh Zlb Zx4 Zx2 Zx3 Z4a Zq1 Z2e Zrk Z1n Zjt Zzu List.length_append G.agg.injEq G.row.injEq G.ref.injEq G.val.injEq G.sl.injEq G.tup.injEq Value.int.injEq Value.bool.injEq Value.string.injEq List.cons.injEq exists_and_left exists_const List.flatten_cons List.flatten_nil Int.le_refl Nat.le_refl Qw Yt Y5 Bool.not_eq_true' Bool.not_eq_false' Zza Zpt Z51 Z56 Z50 Z55 Ybg Ybc List.size_toArray Zvw Zwf G.ren G.rens Z00 Zkn Zx5 Zwx Zwy Zt3 Z57 Zh3 G.fn.injEq Zu3 Zu4 Zy9 Ybd Zu2 Z54 Ybf Ybe Z52 Z32 Z9q Option.join_none Yo Zaz undef Zo8 Arr.len Arr.put_eq Zmg Zqd Znq Zla Zx1 Zxz Zx0 onB Z8n Zzz Zty Zr9 Zsa Zsb Zsc Zsd Zse Zqb Zqg Zqe Zns Zlc Zqf Ztp Zto Ztn Ztm Yb6 Yd4 Z39 Z10 Vv Z34 Zvk Zqh Znr Z7c Zwg Zm0 Zo0 Zis Zpm Zsf Zsg Zsh Zsi Zpu Zpv Zpw Zpx Zpy Zpz Zp0 Zjg prT Zgz Ygl Z5q Zmp Z5r Ygm Z5s Z5o Z5t Ygn Z5u Ygo Z5v Ygp Z5w Ygq Z5x Yaf Zx9 Yag Zya Yah Zyb Yai Zyc Yaj Zyd Yak Zye Yal Zyf Yam Zyg Yan Zyh Yao Zyi Yap Zyj Yaq Zqw Z1e Zgw Yar Zyk Vh Zyl Yas Zym Yat Zyn Yau Zyo Yav Zyp Zmq Zyq Yaw Zyr Yax Zn5 Yay Zys Zja Zyt Yaz Zyu Ya0 Zyv Ya1 Zyw Ya2 Zyx Zh6 Zyy Ya3 Zyz Zbe Zy0 Ya4 Zy1 Ya5 Zy2 Ya6 Zy3 Zt9 Zy4 Ya7 Zy5 Zkq Zy6 Ya8 Zy7 Ya9 Zy8 Z4w Zua Z4x Zub Z4y Zuc Z4z Zud Z40 Zue Z41 Zuf Z42 Zug Z43 Zuh Z44 Zui Z45 Zuj Z46 Zuk Z47 Zul Z48 Zum Zv1 Zpr Z49 Zun Z5a Zuo Z5b Zup Z5c Zuq Z5d Zur Z5e Zus Z5f Zut Z5g Zuu Z5h Zuv Z5i Zuw Z5j Zux Z5k Zuy Z5l Zuz Z5m Zu0 Z5n Zu1 Za Yr Zoe Zoc Znd Znp Zog Zlk Zlh Zlf Zn9 Zf7 Zf5 Zfu Zfz Zf9 Ze0 Zey Zew Zf3 Zl Qh Zd Zi Xn Xv Y4 Zck Zci Zbv Zb9 Zcm Za9 Za6 Za4 Zcf Zc3 Zc2 Zcz Zc0 Zc4 Zch Zcc Zcb Zc1 Zh9 Zh8 Zhw Zh2 Zia Zgx Zgv Zgu Zh7 Zqz Zqy Zp8 Zqc Zq0 Zoa Zny Znx Zqx Zr Zf6 Zf4 Zft Zfy Zf8 Zez Zex Zev Zf2 Yj Zbc Zbb Za0 Za3 Zbd G0 Gz Gy Za8 Zod Zob Znc Zno Zof Zlj Zlg Zle Zn8 Ys Zcl Zcj Zbw Zca Zcn Zba Za7 Za5 Zcg
def Zbj (Xc:(Zc→Zb→Option (Zb×Bool))):Prop:=∀ {a0:Zc} {a1:Zb} {r:(Zb×Bool)} {O:Objs} {n:Nat},Xc a0 a1=some r→GTo Try.prog 45 [.agg (Ze a0),.agg (Zf a1)] O n (.tup [.agg (Zf r.1),(vB r.2)]) O n
def Kz (Yk:(Zc→Zb→Option (Zb×Bool))):Prop:=∀ {a0:Zc} {a1:Zb} {r:(Zb×Bool)} {O:Objs} {n:Nat},Yk a0 a1=some r→GTo Try.prog 71 [.agg (Ze a0),.agg (Zf a1)] O n (.tup [.agg (Zf r.1),(vB r.2)]) O n
def Zbk (Xm:(Zc→Zb→Option (Zb×Bool))):Prop:=∀ {a0:Zc} {a1:Zb} {r:(Zb×Bool)} {O:Objs} {n:Nat},Xm a0 a1=some r→GTo Try.prog 72 [.agg (Ze a0),.agg (Zf a1)] O n (.tup [.agg (Zf r.1),(vB r.2)]) O n
def Jp (Z5:(Zj→Zh→Option (Bool×Zj))):Prop:=∀ {a0:Zj} {a1:Zh} {r:(Bool×Zj)} {O:Objs} {n:Nat} {i0 j0_0:Nat},i0 < n→j0_0 < n→i0≠j0_0→O i0=some ⟨false,125,2,1,[(sL Za a0.left),.row j0_0 a0.out.length]⟩→O j0_0=some (oR 25 3 Za a0.out)→Z5 a0 a1=some r→GTo Try.prog 109 [.ref i0 0,.agg (Yz a1)] O n ((vB r.1)) (Zu ((O.upd j0_0 none).upd i0 (some ⟨false,125,2,1,[(sL Za r.2.left),.row n r.2.out.length]⟩)) n [some (oR 25 3 Za r.2.out)]) (n+1)
def Qx (Z3:(Zj→Zc→Option (Bool×Zj))):Prop:=∀ {a0:Zj} {a1:Zc} {r:(Bool×Zj)} {O:Objs} {n:Nat} {i0 j0_0:Nat},i0 < n→j0_0 < n→i0≠j0_0→O i0=some ⟨false,125,2,1,[(sL Za a0.left),.row j0_0 a0.out.length]⟩→O j0_0=some (oR 25 3 Za a0.out)→Z3 a0 a1=some r→GTo Try.prog 139 [.ref i0 0,.agg (Ze a1)] O n ((vB r.1)) (Zu ((O.upd j0_0 none).upd i0 (some ⟨false,125,2,1,[(sL Za r.2.left),.row n r.2.out.length]⟩)) n [some (oR 25 3 Za r.2.out)]) (n+1)
theorem Z0m {Xc:(Zc→Zb→Option (Zb×Bool))} {Yk:(Zc→Zb→Option (Zb×Bool))} {Xm:(Zc→Zb→Option (Zb×Bool))} {Z5:(Zj→Zh→Option (Bool×Zj))} {Z3:(Zj→Zc→Option (Bool×Zj))} (Vq:Zbj Xc) (U1:Kz Yk) (Zed:Zbk Xm) (Vf:Jp Z5) (Jq:Qx Z3) {a0:Zc} {a1:Zb} {r:(Zb×Bool)} {O:Objs} {n:Nat} (h:Zbo Xc Yk Xm Z5 Z3 a0 a1=some r):GTo Try.prog 45 [.agg (Ze a0),.agg (Zf a1)] O n (.tup [.agg (Zf r.1),(vB r.2)]) O n:=by
 unfold Zbo at h
 refine zFn Try.call45 Try.func45 fun hU hN0 hN => ?_
 show W _ _ _ _ ⟨34,[],[(0,.agg (Ze a0)),(1,.agg (Zf a1))]⟩ (Zu O n []) _
 refine zQ [2,3,4] ?_
 refine Zg ?_
 refine zQ [2,3,4,7] ?_
 refine Z9 ?_
 refine zQ [2,3,4,7,8] ?_
 refine Zq (t:=(a0.Kind == 0)) rfl (fun c10 => ?_) (fun c10 => ?_)
 ·replace h:=Zo c10 h
  refine Zg ?_
  refine zRd [4,5] [false,false,true] ?_
  exact Yi [.agg (Zf a1),(vB true)]
 replace h:=Zn c10 h
 refine zQ [2,3,4,7,11] ?_
 refine Zq (t:=(a0.Kind == 1)) rfl (fun c9 => ?_) (fun c9 => ?_)
 ·replace h:=Zo c9 h
  refine Zg ?_
  obtain ⟨y2,hy2,h⟩:=bC h
  refine Zgo Zz (by kernel_rfl) [false,false,false,false,false,false,true,false] [] (by kernel_rfl) ?_
  refine zS ?_
  refine PCall.of (Z1x hy2) ?_
  refine zS ?_
  refine zD [4,5] [false,false,true] ?_
  exact Yi [.agg (Zf a0.New),(vB y2)]
 replace h:=Zn c9 h
 refine zQ [2,3,4,7,19] ?_
 refine Zq (t:=(a0.Kind == 2)) rfl (fun c8 => ?_) (fun c8 => ?_)
 ·replace h:=Zo c8 h
  refine Zg ?_
  obtain ⟨y4,hy4,h⟩:=bC h
  refine zCd (U1 hy4) [4,5] [false,false,true] ?_
  exact Yi [.agg (Zf y4.1),(vB y4.2)]
 replace h:=Zn c8 h
 refine zQ [2,3,4,26] ?_
 refine Zq (t:=(a0.Kind == 3)) rfl (fun c7 => ?_) (fun c7 => ?_)
 ·replace h:=Zo c7 h
  refine Zg ?_
  obtain ⟨y6,hy6,h⟩:=bC h
  refine zCd (Zed hy6) [4,5] [false,false,true] ?_
  exact Yi [.agg (Zf y6.1),(vB y6.2)]
 replace h:=Zn c7 h
 refine Qp [4] [false,false,true] ?_
 refine Zg ?_
 refine zRd [4,5] [false,false,true] ?_
 exact Yi [.agg [(vI 0),nV,nV],(vB false)]
theorem Zra {Xc:(Zc→Zb→Option (Zb×Bool))} {Yk:(Zc→Zb→Option (Zb×Bool))} {Xm:(Zc→Zb→Option (Zb×Bool))} {Z5:(Zj→Zh→Option (Bool×Zj))} {Z3:(Zj→Zc→Option (Bool×Zj))} (Vq:Zbj Xc) (U1:Kz Yk) (Zed:Zbk Xm) (Vf:Jp Z5) (Jq:Qx Z3) {a0:Zc} {a1:Zb} {r:(Zb×Bool)} {O:Objs} {n:Nat} (h:U4 Xc Yk Xm Z5 Z3 a0 a1=some r):GTo Try.prog 71 [.agg (Ze a0),.agg (Zf a1)] O n (.tup [.agg (Zf r.1),(vB r.2)]) O n:=by
 unfold U4 at h
 refine zFn Try.call71 Try.func71 fun hU hN0 hN => ?_
 show W _ _ _ _ ⟨92,[],[(0,.agg (Ze a0)),(1,.agg (Zf a1))]⟩ (Zu O n []) _
 refine zQ [2,3,4] ?_
 refine Zg ?_
 refine zQ [2,3,4,16] ?_
 refine Zq (t:=(a1.Kind != 1)) rfl (fun c138 => ?_) (fun c138 => ?_)
 ·replace h:=Zo c138 h
  refine Zg ?_
  refine zRd [4,5] [false,false,true] ?_
  exact Yi [.agg [(vI 0),nV,nV],(vB false)]
 replace h:=Zn c138 h
 refine Qp [2,3,4] [true,true,true] ?_
 obtain ⟨y25,hy25,h⟩:=bC h
 obtain ⟨y61,hy61,h⟩:=bC h
 refine Yp (E':=⟨92,[],[(2,.ref n 0),(3,.ref (n+1) 0),(4,.ref (n+2) 0),(6,.ref (n+5) 0)]⟩) (O':=(Zu O n [some ⟨false,30,11,1,(Ze a0)⟩,some ⟨false,25,3,1,(Zf a1)⟩,some ⟨false,25,3,1,[(vI 0),nV,nV]⟩,some (oR 73 1 (eI .u64) y25),some (oR 25 3 Za y61),some ⟨false,25,3,1,[(vI 1),.row (n+3) y25.length,.row (n+4) y61.length]⟩])) (n0:=(n+6)) ?_ ?_
 ·refine Yfe Zz (by kernel_rfl) [.low,.low,.pass,.low,.low,.pass,.plain,.pass,.pass] (fun i=>i < (n+3)) [0,1,3,4] [2,5,6,7] [8] (.two 2 (.two 5 (.seq [6,7]) 7 (.seq [5,6])) 7 (.seq [2,5,6])) [.low,.low,.low,.low] [] (by kernel_rfl) rfl ?_
  refine zS ?_
  repeat (with_reducible refine And.intro (by omega) ?_)
  try simp only [push_cast,seval,↓reduceIte,Zm,hN0,hN]
  refine And.intro ?_ ?_
  ·try simp only [push_cast,seval,↓reduceIte,Zm,hN0,hN]
   repeat (with_reducible refine And.intro (by first | exact V4 rfl | exact Ko) ?_)
   refine (Zdm hy25).then ?_
   try simp only [push_cast,seval,↓reduceIte,Zm,hN0,hN]
   repeat (with_reducible refine And.intro (by first | exact V4 rfl | exact Ko) ?_)
   try simp only [push_cast,seval,↓reduceIte,Zm,hN0,hN]
   refine And.intro ?_ ?_
   ·try simp only [push_cast,seval,↓reduceIte,Zm,hN0,hN]
    repeat (with_reducible refine And.intro (by first | exact V4 rfl | exact Ko) ?_)
    refine (K4 hy61).then ?_
    try simp only [push_cast,seval,↓reduceIte,Zm,hN0,hN]
    repeat (with_reducible refine And.intro (by first | exact V4 rfl | exact Ko) ?_)
    try simp only [push_cast,seval,↓reduceIte,Zm,hN0,hN]
    repeat (with_reducible refine And.intro (by first | exact V4 rfl | exact Ko) ?_)
    exact zEf
   try simp only [push_cast,seval,↓reduceIte,Zm,hN0,hN]
   repeat (with_reducible refine And.intro (by first | exact V4 rfl | exact Ko) ?_)
   try simp only [push_cast,seval,↓reduceIte,Zm,hN0,hN]
   repeat (with_reducible refine And.intro (by first | exact V4 rfl | exact Ko) ?_)
   refine (K4 hy61).then ?_
   try simp only [push_cast,seval,↓reduceIte,Zm,hN0,hN]
   repeat (with_reducible refine And.intro (by first | exact V4 rfl | exact Ko) ?_)
   refine And.intro rfl ?_
   refine Fit2.trans (E':=(⟨92,[],[(2,.ref n 0),(3,.ref (n+1) 0),(4,.ref (n+2) 0),(6,.ref (n+4) 0)]⟩:Env)) (O':=(Zu O n [some ⟨false,30,11,1,(Ze a0)⟩,some ⟨false,25,3,1,(Zf a1)⟩,some ⟨false,25,3,1,[(vI 0),nV,nV]⟩,some (oR 73 1 (eI .u64) y25),some ⟨false,25,3,1,[(vI 1),.row (n+3) y25.length,.row (n+5) y61.length]⟩,some (oR 25 3 Za y61)])) (n':=(n+6)) (Fit2.of (Ya hU rfl rfl ?_) (by omega)) ?_
   ·exact zSe
   refine Ja (k:=6) (k':=6) hU [0,1,2,3,5,4] [0,1,2,3,5,4] rfl rfl rfl rfl ⟨rfl,rfl⟩ ?_
   exact zSe
  try simp only [push_cast,seval,↓reduceIte,Zm,hN0,hN]
  repeat (with_reducible refine And.intro (by first | exact V4 rfl | exact Ko) ?_)
  try simp only [push_cast,seval,↓reduceIte,Zm,hN0,hN]
  repeat (with_reducible refine And.intro (by first | exact V4 rfl | exact Ko) ?_)
  refine (Zdm hy25).then ?_
  try simp only [push_cast,seval,↓reduceIte,Zm,hN0,hN]
  repeat (with_reducible refine And.intro (by first | exact V4 rfl | exact Ko) ?_)
  refine (K4 hy61).then ?_
  try simp only [push_cast,seval,↓reduceIte,Zm,hN0,hN]
  repeat (with_reducible refine And.intro (by first | exact V4 rfl | exact Ko) ?_)
  refine And.intro rfl ?_
  refine Fit2.trans (E':=(⟨92,[],[(2,.ref n 0),(3,.ref (n+1) 0),(4,.ref (n+2) 0),(6,.ref (n+3) 0)]⟩:Env)) (O':=(Zu O n [some ⟨false,30,11,1,(Ze a0)⟩,some ⟨false,25,3,1,(Zf a1)⟩,some ⟨false,25,3,1,[(vI 0),nV,nV]⟩,some ⟨false,25,3,1,[(vI 1),.row (n+4) y25.length,.row (n+5) y61.length]⟩,some (oR 73 1 (eI .u64) y25),some (oR 25 3 Za y61)])) (n':=(n+6)) (Fit2.of (Ya hU rfl rfl ?_) (by omega)) ?_
  ·exact zSe
  refine Ja (k:=6) (k':=6) hU [0,1,2,5,3,4] [0,1,2,4,5,3] rfl rfl rfl rfl ⟨rfl,rfl⟩ ?_
  exact zSe
 refine Zg ?_
 refine zQd [2,3,4,6,26,27,28] [2,3,4,6,26,27,28] [true,true,true,true,true,true] ?_
 refine Jt (E':=(⟨92,[],[(2,.ref n 0),(3,.ref (n+1) 0),(4,.ref (n+2) 0),(6,.ref (n+5) 0),(26,(sL Zl a0.Words)),(27,(vI (a0.Words.length:Int))),(28,(vI 0))]⟩:Env)) (O':=(Zu O n [some ⟨false,30,11,1,(Ze a0)⟩,some ⟨false,25,3,1,(Zf a1)⟩,some ⟨false,25,3,1,[(vI 0),nV,nV]⟩,none,none,some ⟨false,25,3,1,[(vI 1),.row (n+6) y25.length,.row (n+7) y61.length]⟩,some (oR 73 1 (eI .u64) y25),some (oR 25 3 Za y61),none])) (n':=(n+9)) ?_ ?_
 ·refine Fit2.trans (E':=(⟨92,[],[(2,.ref n 0),(3,.ref (n+1) 0),(4,.ref (n+2) 0),(6,.ref (n+5) 0),(26,(sL Zl a0.Words)),(27,(vI (a0.Words.length:Int))),(28,(vI 0))]⟩:Env)) (O':=(Zu O n [some ⟨false,30,11,1,(Ze a0)⟩,some ⟨false,25,3,1,(Zf a1)⟩,some ⟨false,25,3,1,[(vI 0),nV,nV]⟩,some (oR 73 1 (eI .u64) y25),some (oR 25 3 Za y61),some ⟨false,25,3,1,[(vI 1),.row (n+3) y25.length,.row (n+4) y61.length]⟩])) (n':=(n+6)) (Fit2.of (Ya hU rfl rfl ?_) (by omega)) ?_
  ·exact zSe
  refine Ja (k:=6) (k':=9) hU [0,1,2,6,7,5] [0,1,2,0,0,5,3,4,0] rfl rfl rfl rfl ⟨rfl,rfl⟩ ?_
  exact zSe
 obtain ⟨z125,hz125,h⟩:=bC h
 refine K3 (J:=(Y6 (fun z125=>JR n (⟨92,[],[(4,.ref (n+2) 0),(5,(vB false))]⟩:Env) (Zu O n [none,none,some ⟨false,25,3,1,[(vI 0),nV,nV]⟩,none,none,none]) (n+6)) (fun z125=>JX 0 n (⟨92,[],[(2,.ref n 0),(3,.ref (n+1) 0),(4,.ref (n+2) 0),(6,.ref (n+5) 0)]⟩:Env) (Zu O n [some ⟨false,30,11,1,(Ze a0)⟩,some ⟨false,25,3,1,(Zf a1)⟩,some ⟨false,25,3,1,[(vI 0),nV,nV]⟩,none,none,some ⟨false,25,3,1,[(vI z125.1),.row (n+6) z125.2.1.length,.row (n+7) z125.2.2.length]⟩,some (oR 73 1 (eI .u64) z125.2.1),some (oR 25 3 Za z125.2.2),none]) (n+9)))) (z:=z125) ?_ fun hw => ?_
 ·refine Y2 hz125 (fun s0_=>⟨92,[],[(2,.ref n 0),(3,.ref (n+1) 0),(4,.ref (n+2) 0),(6,.ref (n+5) 0),(26,(sL Zl a0.Words)),(27,(vI (a0.Words.length:Int))),(28,(vI s0_.1))]⟩) (fun s0_=>(Zu O n [some ⟨false,30,11,1,(Ze a0)⟩,some ⟨false,25,3,1,(Zf a1)⟩,some ⟨false,25,3,1,[(vI 0),nV,nV]⟩,none,none,some ⟨false,25,3,1,[(vI s0_.2.1),.row (n+6) s0_.2.2.1.length,.row (n+7) s0_.2.2.2.length]⟩,some (oR 73 1 (eI .u64) s0_.2.2.1),some (oR 25 3 Za s0_.2.2.2),none])) (Y6 (fun z125=>JR n (⟨92,[],[(4,.ref (n+2) 0),(5,(vB false))]⟩:Env) (Zu O n [none,none,some ⟨false,25,3,1,[(vI 0),nV,nV]⟩,none,none,none]) (n+6)) (fun z125=>JX 0 n (⟨92,[],[(2,.ref n 0),(3,.ref (n+1) 0),(4,.ref (n+2) 0),(6,.ref (n+5) 0)]⟩:Env) (Zu O n [some ⟨false,30,11,1,(Ze a0)⟩,some ⟨false,25,3,1,(Zf a1)⟩,some ⟨false,25,3,1,[(vI 0),nV,nV]⟩,none,none,some ⟨false,25,3,1,[(vI z125.1),.row (n+6) z125.2.1.length,.row (n+7) z125.2.2.length]⟩,some (oR 73 1 (eI .u64) z125.2.1),some (oR 25 3 Za z125.2.2),none]) (n+9))) ?_
  intro s0_ x0_ hs0_
  unfold Je at hs0_
  try dsimp only
  refine zQ [2,3,4,6,26,27,28,29] ?_
  refine Zg ?_
  refine Zq (t:=(decide (s0_.1 < (a0.Words.length:Int)))) rfl (fun c124 => ?_) (fun c124 => ?_)
  ·replace hs0_:=Zo c124 hs0_
   refine Qp [2,3,4,6,26,27,28] [true,true,true,false,false,true,true,true,false] ?_
   refine Zg ?_
   refine Z9 ?_
   refine Zg ?_
   obtain ⟨x110,hx110,ax110,bx110,cx110,hs0_⟩:=bE (f:=Zl) Zt9 (fun _=>rfl) (by decide) hs0_
   refine Zcw [] ax110 bx110 cx110 ?_
   refine zDs [2,3,4,6,8,26,27,28] [true,true,true,false,false,true,true,true,false,true] ?_
   obtain ⟨y112,hy112,hs0_⟩:=bC hs0_
   refine zCd (Z37 hy112) [2,3,4,6,8,9,26,27,28] [true,true,true,false,false,true,true,true,false,true] ?_
   refine Zg ?_
   obtain ⟨z115,hz115,hs0_⟩:=bC hs0_
   refine Yp (E':=⟨92,[],[(2,.ref n 0),(3,.ref (n+1) 0),(4,.ref (n+2) 0),(6,.ref (n+5) 0),(8,.ref (n+9) 0),(9,.val (.int .u64 y112)),(26,(sL Zl a0.Words)),(27,(vI (a0.Words.length:Int))),(28,(vI s0_.1)),(49,(vB z115))]⟩) (O':=(Zu O n [some ⟨false,30,11,1,(Ze a0)⟩,some ⟨false,25,3,1,(Zf a1)⟩,some ⟨false,25,3,1,[(vI 0),nV,nV]⟩,none,none,some ⟨false,25,3,1,[(vI s0_.2.1),.row (n+6) s0_.2.2.1.length,.row (n+7) s0_.2.2.2.length]⟩,some (oR 73 1 (eI .u64) s0_.2.2.1),some (oR 25 3 Za s0_.2.2.2),none,some ⟨false,82,4,1,(G7 x110)⟩])) (n0:=(n+10)) ?_ ?_
   ·obtain ⟨y118,hy118,hz115⟩:=bC hz115
    rcases Bool.eq_false_or_eq_true y118 with c120 | c120
    ·replace hz115:=Zo c120 hz115
     refine X3 Zz (by kernel_rfl) [some false,some false,some false,some false,some false,some false,some false,some false,some false] (by kernel_rfl) ?_
     refine zX1 c120 ?_
     refine PCall.of (Zil hy118) ?_
     refine zX1 c120 ?_
     exact Qm hz115 c120
    replace hz115:=Zn c120 hz115
    obtain ⟨y119,hy119,hz115⟩:=bC hz115
    refine X3 Zz (by kernel_rfl) [some true,some true,some true,some true,some true,some true,some true,some true,some true] (by kernel_rfl) ?_
    refine zX1 c120 ?_
    refine PCall.of (Zil hy118) ?_
    refine zX1 c120 ?_
    refine PCall.of (Znm hy119) ?_
    refine zX1 c120 ?_
    exact Qm hz115 c120
   refine Zq (t:=z115) rfl (fun c123 => ?_) (fun c123 => ?_)
   ·replace hs0_:=Zo c123 hs0_
    refine Zg ?_
    refine zRd [4,5] [false,false,true,false,false,false,false,false,false,false] ?_
    refine zW ?_
    exact zEy hs0_
   replace hs0_:=Zn c123 hs0_
   refine Qp [2,3,4,6,8,9,26,27,28] [true,true,true,false,false,true,true,true,false,true] ?_
   obtain ⟨y121,hy121,hs0_⟩:=bC hs0_
   obtain ⟨y122,hy122,hs0_⟩:=bC hs0_
   refine Zgo Zz (by kernel_rfl) [false,false,false,false,false,false,false,false,true] [] (by kernel_rfl) ?_
   refine zS ?_
   refine PCall.of (Z7a hy121) ?_
   refine zS ?_
   refine (Zvp (i0:=(n+5)) (j0_0:=(n+7)) (j0_1:=(n+6)) (by omega) (by omega) (by omega) (by omega) (by omega) (by omega) (by simp only [push_cast,seval,↓reduceIte,Zm,Xo,hN0,hN] <;> rfl) (by simp only [push_cast,seval,↓reduceIte,Zm,Xo,hN0,hN] <;> rfl) (by simp only [push_cast,seval,↓reduceIte,Zm,Xo,hN0,hN] <;> rfl) hy122).then ?_
   refine zS ?_
   refine zD [2,3,4,6,26,27,28] [true,true,true,false,false,true,false,false,false,false,true,true] ?_
   refine zR ?_
   have hs0_:=Option.some.inj hs0_;subst hs0_
   refine And.intro rfl ?_
   refine Fit2.trans (E':=(⟨92,[],[(2,.ref n 0),(3,.ref (n+1) 0),(4,.ref (n+2) 0),(6,.ref (n+5) 0),(26,(sL Zl a0.Words)),(27,(vI (a0.Words.length:Int))),(28,(vI (IntKind.i64.wrap (s0_.1+1))))]⟩:Env)) (O':=(Zu O n [some ⟨false,30,11,1,(Ze a0)⟩,some ⟨false,25,3,1,(Zf a1)⟩,some ⟨false,25,3,1,[(vI 0),nV,nV]⟩,none,none,some ⟨false,25,3,1,[(vI y122.Kind),.row (n+11) y122.Words.length,.row (n+10) y122.Kids.length]⟩,none,none,none,none,some (oR 25 3 Za y122.Kids),some (oR 73 1 (eI .u64) y122.Words)])) (n':=(n+12)) (Fit2.of (Ya hU rfl rfl ?_) (by omega)) ?_
   ·exact zSe
   refine Ja (k:=12) (k':=9) hU [0,1,2,8,8,5,8,8,8,8,7,6] [0,1,2,0,0,5,11,10,0] rfl rfl rfl rfl ⟨rfl,rfl⟩ ?_
   exact zSe
  replace hs0_:=Zn c124 hs0_
  exact zEx hs0_
 rcases z125 with z125 | z125
 ·dsimp only [Y6] at hw h
  refine X1 hw ?_
  try simp only [Ym,Z4,↓reduceIte,Nat.reduceEqDiff]
  exact Zgn [.agg [(vI 0),nV,nV],(vB false)]
 dsimp only [Y6] at hw h
 refine Yg hw ?_
 try simp only [Ym,Z4,↓reduceIte,Nat.reduceEqDiff]
 refine zDs [2,3,4,6] [true,true,true,false,false,true,true,true,false] ?_
 refine zQd [3,4,6,62,63,64] [3,4,6,62,63,64] [false,true,true,false,false,true,true,true,false] ?_
 refine Jt (E':=(⟨92,[],[(3,.ref (n+1) 0),(4,.ref (n+2) 0),(6,.ref (n+5) 0),(62,(sL Zi a0.Kids)),(63,(vI (a0.Kids.length:Int))),(64,(vI 0))]⟩:Env)) (O':=(Zu O n [none,some ⟨false,25,3,1,(Zf a1)⟩,some ⟨false,25,3,1,[(vI 0),nV,nV]⟩,none,none,some ⟨false,25,3,1,[(vI z125.1),(sL (eI .u64) z125.2.1),.row (n+9) z125.2.2.length]⟩,none,none,none,some (oR 25 3 Za z125.2.2),none])) (n':=(n+11)) ?_ ?_
 ·refine Fit2.trans (E':=(⟨92,[],[(3,.ref (n+1) 0),(4,.ref (n+2) 0),(6,.ref (n+5) 0),(62,(sL Zi a0.Kids)),(63,(vI (a0.Kids.length:Int))),(64,(vI 0))]⟩:Env)) (O':=(Zu O n [none,some ⟨false,25,3,1,(Zf a1)⟩,some ⟨false,25,3,1,[(vI 0),nV,nV]⟩,none,none,some ⟨false,25,3,1,[(vI z125.1),(sL (eI .u64) z125.2.1),.row (n+7) z125.2.2.length]⟩,none,some (oR 25 3 Za z125.2.2),none])) (n':=(n+9)) (Fit2.of (Ya hU rfl rfl ?_) (by omega)) ?_
  ·exact zSe
  refine Ja (k:=9) (k':=11) hU [10,1,2,10,10,5,10,9,10] [0,1,2,0,0,5,0,0,0,7,0] rfl rfl rfl rfl ⟨rfl,rfl⟩ ?_
  exact zSe
 obtain ⟨z137,hz137,h⟩:=bC h
 refine K3 (J:=(Y6 (fun z137=>JR n (⟨92,[],[(4,.ref (n+2) 0),(5,(vB false))]⟩:Env) (Zu O n [none,none,some ⟨false,25,3,1,[(vI 0),nV,nV]⟩,none,none,none,none,none,none]) (n+9)) (fun z137=>JX 2 n (⟨92,[],[(4,.ref (n+2) 0),(6,.ref (n+5) 0)]⟩:Env) (Zu O n [none,none,some ⟨false,25,3,1,[(vI 0),nV,nV]⟩,none,none,some ⟨false,25,3,1,[(vI z137.1),(sL (eI .u64) z137.2.1),.row (n+9) z137.2.2.length]⟩,none,none,none,some (oR 25 3 Za z137.2.2),none]) (n+11)))) (z:=z137) ?_ fun hw => ?_
 ·refine Y2 hz137 (fun s1_=>⟨92,[],[(3,.ref (n+1) 0),(4,.ref (n+2) 0),(6,.ref (n+5) 0),(62,(sL Zi a0.Kids)),(63,(vI (a0.Kids.length:Int))),(64,(vI s1_.1))]⟩) (fun s1_=>(Zu O n [none,some ⟨false,25,3,1,(Zf a1)⟩,some ⟨false,25,3,1,[(vI 0),nV,nV]⟩,none,none,some ⟨false,25,3,1,[(vI s1_.2.1),(sL (eI .u64) s1_.2.2.1),.row (n+9) s1_.2.2.2.length]⟩,none,none,none,some (oR 25 3 Za s1_.2.2.2),none])) (Y6 (fun z137=>JR n (⟨92,[],[(4,.ref (n+2) 0),(5,(vB false))]⟩:Env) (Zu O n [none,none,some ⟨false,25,3,1,[(vI 0),nV,nV]⟩,none,none,none,none,none,none]) (n+9)) (fun z137=>JX 2 n (⟨92,[],[(4,.ref (n+2) 0),(6,.ref (n+5) 0)]⟩:Env) (Zu O n [none,none,some ⟨false,25,3,1,[(vI 0),nV,nV]⟩,none,none,some ⟨false,25,3,1,[(vI z137.1),(sL (eI .u64) z137.2.1),.row (n+9) z137.2.2.length]⟩,none,none,none,some (oR 25 3 Za z137.2.2),none]) (n+11))) ?_
  intro s1_ x1_ hs1_
  unfold Qr at hs1_
  try dsimp only
  refine zQ [3,4,6,62,63,64,65] ?_
  refine Zg ?_
  refine Zq (t:=(decide (s1_.1 < (a0.Kids.length:Int)))) rfl (fun c136 => ?_) (fun c136 => ?_)
  ·replace hs1_:=Zo c136 hs1_
   refine Qp [3,4,6,62,63,64] [false,true,true,false,false,true,false,false,false,true,false] ?_
   refine Zg ?_
   refine Z9 ?_
   refine Zg ?_
   obtain ⟨x127,hx127,ax127,bx127,cx127,hs1_⟩:=bE (f:=Zi) Zkq (fun _=>rfl) (by decide) hs1_
   refine Zcw [] ax127 bx127 cx127 ?_
   refine zDs [3,4,6,11,62,63,64] [false,true,true,false,false,true,false,false,false,true,false,true] ?_
   obtain ⟨y130,hy130,hs1_⟩:=bC hs1_
   obtain ⟨y131,hy131,hs1_⟩:=bC hs1_
   refine Vt Zz (by kernel_rfl) [.low,.low,.low,.low,.low,.low,.low,.plain,.plain,.plain,.pass,.bar,.plain] (fun i=>i < (n+12)) [0,1,2,3,4,5,6,7,8,9,10,11,12] [.low,.low,.low,.low,.low,.low,.low,.plain,.plain,.plain,.pass,.bar,.plain] [] (by kernel_rfl) rfl ?_
   refine zS ?_
   refine zO ?_
   first | refine PCallA.of (fun _ _=>Zk9 hy130) ?_ | refine PCall.of (Zk9 hy130) ?_
   refine zS ?_
   refine zO ?_
   first | refine PCallA.of (fun _ _=>Vq hy131) ?_ | refine PCall.of (Vq hy131) ?_
   refine zS ?_
   refine zO ?_
   refine zDs [3,4,6,11,12,13,62,63,64] [false,true,true,false,false,true,false,false,false,true,false,true,true] ?_
   refine Zg ?_
   obtain ⟨y133,hy133,hs1_⟩:=bC hs1_
   refine zRo [none,none] ?_
   refine zG ?_
   refine zTs (Zil hy133) ?_
   refine zG ?_
   refine zD [3,4,6,11,12,62,63,64,84] [false,true,true,false,false,true,false,false,false,true,false,true,true] ?_
   refine Zq (t:=(cond y133 true (!y131.2))) rfl (fun c135 => ?_) (fun c135 => ?_)
   ·replace hs1_:=Zo c135 hs1_
    refine Zg ?_
    refine zRd [4,5] [false,false,true,false,false,false,false,false,false,false,false,false,false] ?_
    refine zW ?_
    exact zEy hs1_
   replace hs1_:=Zn c135 hs1_
   refine Qp [3,4,6,11,12,62,63,64] [false,true,true,false,false,true,false,false,false,true,false,true,true] ?_
   obtain ⟨y134,hy134,hs1_⟩:=bC hs1_
   refine zR ?_
   refine (Zwo (i0:=(n+5)) (j0_0:=(n+9)) (by omega) (by omega) (by omega) (by simp only [push_cast,seval,↓reduceIte,Zm,Xo,hN0,hN] <;> rfl) (by simp only [push_cast,seval,↓reduceIte,Zm,Xo,hN0,hN] <;> rfl) hy134).then ?_
   refine zS ?_
   refine zD [3,4,6,62,63,64] [false,true,true,false,false,true,false,false,false,false,false,false,false,true] ?_
   refine zR ?_
   have hs1_:=Option.some.inj hs1_;subst hs1_
   refine And.intro rfl ?_
   refine Fit2.trans (E':=(⟨92,[],[(3,.ref (n+1) 0),(4,.ref (n+2) 0),(6,.ref (n+5) 0),(62,(sL Zi a0.Kids)),(63,(vI (a0.Kids.length:Int))),(64,(vI (IntKind.i64.wrap (s1_.1+1))))]⟩:Env)) (O':=(Zu O n [none,some ⟨false,25,3,1,(Zf a1)⟩,some ⟨false,25,3,1,[(vI 0),nV,nV]⟩,none,none,some ⟨false,25,3,1,[(vI y134.Kind),(sL (eI .u64) y134.Words),.row (n+13) y134.Kids.length]⟩,none,none,none,none,none,none,none,some (oR 25 3 Za y134.Kids)])) (n':=(n+14)) (Fit2.of (Ya hU rfl rfl ?_) (by omega)) ?_
   ·exact zSe
   refine Ja (k:=14) (k':=11) hU [10,1,2,10,10,5,10,10,10,10,10,10,10,9] [0,1,2,0,0,5,0,0,0,13,0] rfl rfl rfl rfl ⟨rfl,rfl⟩ ?_
   exact zSe
  replace hs1_:=Zn c136 hs1_
  exact zEx hs1_
 rcases z137 with z137 | z137
 ·dsimp only [Y6] at hw h
  refine X1 hw ?_
  try simp only [Ym,Z4,↓reduceIte,Nat.reduceEqDiff]
  exact Zgn [.agg [(vI 0),nV,nV],(vB false)]
 dsimp only [Y6] at hw h
 refine Yg hw ?_
 try simp only [Ym,Z4,↓reduceIte,Nat.reduceEqDiff]
 refine zDs [4,6] [false,false,true,false,false,true,false,false,false,true,false] ?_
 refine zRd [4,5] [false,false,true,false,false,false,false,false,false,true,false] ?_
 exact Yi [.agg [(vI z137.1),(sL (eI .u64) z137.2.1),.row (n+9) z137.2.2.length],(vB true)]
theorem Z0n {Xc:(Zc→Zb→Option (Zb×Bool))} {Yk:(Zc→Zb→Option (Zb×Bool))} {Xm:(Zc→Zb→Option (Zb×Bool))} {Z5:(Zj→Zh→Option (Bool×Zj))} {Z3:(Zj→Zc→Option (Bool×Zj))} (Vq:Zbj Xc) (U1:Kz Yk) (Zed:Zbk Xm) (Vf:Jp Z5) (Jq:Qx Z3) {a0:Zc} {a1:Zb} {r:(Zb×Bool)} {O:Objs} {n:Nat} (h:Zfp Xc Yk Xm Z5 Z3 a0 a1=some r):GTo Try.prog 72 [.agg (Ze a0),.agg (Zf a1)] O n (.tup [.agg (Zf r.1),(vB r.2)]) O n:=by
 unfold Zfp at h
 refine zFn Try.call72 Try.func72 fun hU hN0 hN => ?_
 show W _ _ _ _ ⟨45,[],[(0,.agg (Ze a0)),(1,.agg (Zf a1))]⟩ (Zu O n []) _
 refine zQ [2,3,4] ?_
 refine Zg ?_
 obtain ⟨z2,hz2,h⟩:=bC h
 refine Yp (E':=⟨45,[],[(2,.ref n 0),(3,.ref (n+1) 0),(4,.ref (n+2) 0),(19,(vB z2))]⟩) (O':=(Zu O n [some ⟨false,30,11,1,(Ze a0)⟩,some ⟨false,25,3,1,(Zf a1)⟩,some ⟨false,25,3,1,[(vI 0),nV,nV]⟩])) (n0:=(n+3)) ?_ ?_
 ·rcases Bool.eq_false_or_eq_true (a1.Kind != a0.List_) with c5 | c5
  ·replace hz2:=Zo c5 hz2
   refine Jb [some false,some false,some false,some false] c5 ?_
   exact Qm hz2 c5
  replace hz2:=Zn c5 hz2
  obtain ⟨y4,hy4,hz2⟩:=bC hz2
  refine Jb [some true,some true,some true,some true] c5 ?_
  refine (Zh1 hy4).then ?_
  refine zX1 c5 ?_
  exact Qm hz2 c5
 refine Zq (t:=z2) rfl (fun c13 => ?_) (fun c13 => ?_)
 ·replace h:=Zo c13 h
  refine Zg ?_
  refine zRd [4,5] [false,false,true] ?_
  exact Yi [.agg [(vI 0),nV,nV],(vB false)]
 replace h:=Zn c13 h
 refine Qp [2,3,4] [true,true,true] ?_
 refine Zg ?_
 refine zRd [2,3,4,6] [true,true,true,true] ?_
 refine Zg ?_
 refine zQd [3,4,6,25,26,27] [3,4,6,25,26,27] [false,true,true,true] ?_
 refine Jt (E':=(⟨45,[],[(3,.ref (n+1) 0),(4,.ref (n+2) 0),(6,.ref (n+3) 0),(25,(sL Zd a0.Ops)),(26,(vI (a0.Ops.length:Int))),(27,(vI 0))]⟩:Env)) (O':=(Zu O n [none,some ⟨false,25,3,1,(Zf a1)⟩,some ⟨false,25,3,1,[(vI 0),nV,nV]⟩,some ⟨false,125,2,1,[(sL Za a1.Kids),.row (n+4) ([]:List Zb).length]⟩,some (oR 25 3 Za ([]:List Zb)),none])) (n':=(n+6)) ?_ ?_
 ·refine Fit2.trans (E':=(⟨45,[],[(3,.ref (n+1) 0),(4,.ref (n+2) 0),(6,.ref (n+3) 0),(25,(sL Zd a0.Ops)),(26,(vI (a0.Ops.length:Int))),(27,(vI 0))]⟩:Env)) (O':=(Zu O n [none,some ⟨false,25,3,1,(Zf a1)⟩,some ⟨false,25,3,1,[(vI 0),nV,nV]⟩,some ⟨false,125,2,1,[(sL Za a1.Kids),nV]⟩])) (n':=(n+4)) (Fit2.of (Ya hU rfl rfl ?_) (by omega)) ?_
  ·exact zSe
  refine Fit2.trans (Zco (p:=(n+3)) (k:=1) (q:=⟨false,125,2,1,[(sL Za a1.Kids),nV]⟩) 25 3 (by simp only [Zab,Zes,List.getElem?_cons_zero,List.getElem?_cons_succ,Option.join_some,List.length_nil,Yo]) rfl (by omega)) ?_
  simp only [Xd,Yv,U3,K8,List.set_cons_zero,List.set_cons_succ,List.cons_append,List.nil_append,List.length_cons,List.length_nil,Nat.zero_add,Nat.reduceAdd,Nat.reduceLT,Nat.add_assoc]
  refine Ja (k:=5) (k':=6) hU [5,1,2,3,4] [0,1,2,3,4,0] rfl rfl rfl rfl ⟨rfl,rfl⟩ ?_
  exact zSe
 obtain ⟨z12,hz12,h⟩:=bC h
 refine K3 (J:=(Y6 (fun z12=>JR n (⟨45,[],[(4,.ref (n+2) 0),(5,(vB false))]⟩:Env) (Zu O n [none,none,some ⟨false,25,3,1,[(vI 0),nV,nV]⟩,none]) (n+4)) (fun z12=>JX 0 n (⟨45,[],[(3,.ref (n+1) 0),(4,.ref (n+2) 0),(6,.ref (n+3) 0)]⟩:Env) (Zu O n [none,some ⟨false,25,3,1,(Zf a1)⟩,some ⟨false,25,3,1,[(vI 0),nV,nV]⟩,some ⟨false,125,2,1,[(sL Za z12.1),.row (n+4) z12.2.length]⟩,some (oR 25 3 Za z12.2),none]) (n+6)))) (z:=z12) ?_ fun hw => ?_
 ·refine Y2 hz12 (fun s0_=>⟨45,[],[(3,.ref (n+1) 0),(4,.ref (n+2) 0),(6,.ref (n+3) 0),(25,(sL Zd a0.Ops)),(26,(vI (a0.Ops.length:Int))),(27,(vI s0_.1))]⟩) (fun s0_=>(Zu O n [none,some ⟨false,25,3,1,(Zf a1)⟩,some ⟨false,25,3,1,[(vI 0),nV,nV]⟩,some ⟨false,125,2,1,[(sL Za s0_.2.1),.row (n+4) s0_.2.2.length]⟩,some (oR 25 3 Za s0_.2.2),none])) (Y6 (fun z12=>JR n (⟨45,[],[(4,.ref (n+2) 0),(5,(vB false))]⟩:Env) (Zu O n [none,none,some ⟨false,25,3,1,[(vI 0),nV,nV]⟩,none]) (n+4)) (fun z12=>JX 0 n (⟨45,[],[(3,.ref (n+1) 0),(4,.ref (n+2) 0),(6,.ref (n+3) 0)]⟩:Env) (Zu O n [none,some ⟨false,25,3,1,(Zf a1)⟩,some ⟨false,25,3,1,[(vI 0),nV,nV]⟩,some ⟨false,125,2,1,[(sL Za z12.1),.row (n+4) z12.2.length]⟩,some (oR 25 3 Za z12.2),none]) (n+6))) ?_
  intro s0_ x0_ hs0_
  unfold Vo at hs0_
  try dsimp only
  refine zQ [3,4,6,25,26,27,28] ?_
  refine Zg ?_
  refine Zq (t:=(decide (s0_.1 < (a0.Ops.length:Int)))) rfl (fun c11 => ?_) (fun c11 => ?_)
  ·replace hs0_:=Zo c11 hs0_
   refine Qp [3,4,6,25,26,27] [false,true,true,true,true,false] ?_
   refine Zg ?_
   refine Z9 ?_
   refine Zg ?_
   obtain ⟨x7,hx7,ax7,bx7,cx7,hs0_⟩:=bE (f:=Zd) Zbe (fun _=>rfl) (by decide) hs0_
   refine Zcw [] ax7 bx7 cx7 ?_
   refine zDs [3,4,6,8,25,26,27] [false,true,true,true,true,false,true] ?_
   obtain ⟨y9,hy9,hs0_⟩:=bC hs0_
   refine zR ?_
   refine (Vf (i0:=(n+3)) (j0_0:=(n+4)) (by omega) (by omega) (by omega) (by simp only [push_cast,seval,↓reduceIte,Zm,Xo,hN0,hN] <;> rfl) (by simp only [push_cast,seval,↓reduceIte,Zm,Xo,hN0,hN] <;> rfl) hy9).then ?_
   refine zS ?_
   refine zD [3,4,6,25,26,27,33] [false,true,true,true,false,false,false,true] ?_
   refine Zq (t:=(!y9.1)) rfl (fun c10 => ?_) (fun c10 => ?_)
   ·replace hs0_:=Zo c10 hs0_
    refine Zg ?_
    refine zRd [4,5] [false,false,true,false,false,false,false,false] ?_
    refine zW ?_
    exact zEy hs0_
   replace hs0_:=Zn c10 hs0_
   refine Qp [3,4,6,25,26,27] [false,true,true,true,false,false,false,true] ?_
   refine zR ?_
   have hs0_:=Option.some.inj hs0_;subst hs0_
   refine And.intro rfl ?_
   refine Fit2.trans (E':=(⟨45,[],[(3,.ref (n+1) 0),(4,.ref (n+2) 0),(6,.ref (n+3) 0),(25,(sL Zd a0.Ops)),(26,(vI (a0.Ops.length:Int))),(27,(vI (IntKind.i64.wrap (s0_.1+1))))]⟩:Env)) (O':=(Zu O n [none,some ⟨false,25,3,1,(Zf a1)⟩,some ⟨false,25,3,1,[(vI 0),nV,nV]⟩,some ⟨false,125,2,1,[(sL Za y9.2.left),.row (n+7) y9.2.out.length]⟩,none,none,none,some (oR 25 3 Za y9.2.out)])) (n':=(n+8)) (Fit2.of (Ya hU rfl rfl ?_) (by omega)) ?_
   ·exact zSe
   refine Ja (k:=8) (k':=6) hU [5,1,2,3,5,5,5,4] [0,1,2,3,7,0] rfl rfl rfl rfl ⟨rfl,rfl⟩ ?_
   exact zSe
  replace hs0_:=Zn c11 hs0_
  exact zEx hs0_
 rcases z12 with z12 | z12
 ·dsimp only [Y6] at hw h
  refine X1 hw ?_
  try simp only [Ym,Z4,↓reduceIte,Nat.reduceEqDiff]
  exact Zgn [.agg [(vI 0),nV,nV],(vB false)]
 dsimp only [Y6] at hw h
 refine Yg hw ?_
 try simp only [Ym,Z4,↓reduceIte,Nat.reduceEqDiff]
 refine zDs [3,4,6] [false,true,true,true,true,false] ?_
 refine Vt Zz (by kernel_rfl) [.plain,.plain,.plain,.plain,.plain,.low,.low,.low,.low,.pass,.plain] (fun i=>i≠n+2) [0,1,2,3,4,5,6,7,8,9,10] [.plain,.plain,.plain,.plain,.plain,.low,.low,.low,.low,.pass,.plain] [] (by kernel_rfl) rfl ?_
 refine zS ?_
 refine zO ?_
 refine zD [4,5] [false,false,true,false,true,false] ?_
 exact Yi [.agg [(vI a1.Kind),nV,.row (n+4) z12.2.length],(vB ((z12.1.length:Int) == 0))]
theorem Zoy {Xc:(Zc→Zb→Option (Zb×Bool))} {Yk:(Zc→Zb→Option (Zb×Bool))} {Xm:(Zc→Zb→Option (Zb×Bool))} {Z5:(Zj→Zh→Option (Bool×Zj))} {Z3:(Zj→Zc→Option (Bool×Zj))} (Vq:Zbj Xc) (U1:Kz Yk) (Zed:Zbk Xm) (Vf:Jp Z5) (Jq:Qx Z3) {a0:Zj} {a1:Zh} {r:(Bool×Zj)} {O:Objs} {n:Nat} {i0 j0_0:Nat} (hi0:i0 < n) (G3:j0_0 < n) (Kf:i0≠j0_0) (ho0:O i0=some ⟨false,125,2,1,[(sL Za a0.left),.row j0_0 a0.out.length]⟩) (Zap:O j0_0=some (oR 25 3 Za a0.out)) (h:Gr Xc Yk Xm Z5 Z3 a0 a1=some r):GTo Try.prog 109 [.ref i0 0,.agg (Yz a1)] O n ((vB r.1)) (Zu ((O.upd j0_0 none).upd i0 (some ⟨false,125,2,1,[(sL Za r.2.left),.row n r.2.out.length]⟩)) n [some (oR 25 3 Za r.2.out)]) (n+1):=by
 unfold Gr at h
 refine Zo2 Zz Try.call109 Try.func109 rfl (Nat.le_of_ble_eq_true rfl) (by omega) fun hU => ?_
 have e0:=K1 (ba:=n) (E:=⟨99,[],Zhf 0 [.ref i0 0,.agg [.val (.int .i64 a1.Kind),.val (.int .i64 a1.N),.sl a1.L.length (fl Za a1.L),.val (.int .i64 a1.E.Kind),.val (.int .i64 a1.E.Old.Kind),.sl a1.E.Old.Words.length (fl (eI .u64) a1.E.Old.Words),.sl a1.E.Old.Kids.length (fl Za a1.E.Old.Kids),.val (.int .i64 a1.E.New.Kind),.sl a1.E.New.Words.length (fl (eI .u64) a1.E.New.Words),.sl a1.E.New.Kids.length (fl Za a1.E.New.Kids),.sl a1.E.Words.length (fl Zl a1.E.Words),.sl a1.E.Kids.length (fl Zi a1.E.Kids),.val (.int .i64 a1.E.List_),.sl a1.E.Ops.length (fl Zd a1.E.Ops)]]⟩) (O:=(Zu O n [])) (n:=n) (i:=i0) (j:=j0_0) (k:=1) (len:=a0.out.length) (q:=⟨false,125,2,1,[.sl a0.left.length (fl Za a0.left),.row j0_0 a0.out.length]⟩) (qj:=⟨true,25,3,a0.out.length,fl Za a0.out⟩) (by rw [Yt _ hi0];first | exact ho0 | exact Yo _ _ _) rfl (by rw [Yt _ G3];exact Zap) Kf (by omega)
 simp only [Y5 _ _ G3,Y5 _ _ hi0,Xd,Yv,Qw,Zdh Kf,List.set_cons_zero,List.set_cons_succ,List.cons_append,List.nil_append,List.length_cons,List.length_nil,Nat.zero_add,Nat.reduceAdd,Nat.add_assoc] at e0
 refine Jt e0 ?_
 have hU:=(Und.drop hU j0_0)
 have hk0:∀ k,i0 < n+k:=fun k=>by omega
 have hN0:∀ o,Objs.upd (O.upd j0_0 none) i0 o n=none:=fun o=>Kb hU hi0 _ (Nat.le_refl _)
 have hN:∀ o k,Objs.upd (O.upd j0_0 none) i0 o (n+k)=none:=fun o k=>Kb hU hi0 _ (Nat.le_add_right _ _)
 show W _ _ _ _ ⟨99,[],[(0,.ref i0 0),(1,.agg (Yz a1))]⟩ (Zu ((O.upd j0_0 none).upd i0 (some ⟨false,125,2,1,[(sL Za a0.left),.row n a0.out.length]⟩)) n [some (oR 25 3 Za a0.out)]) _
 refine Zg7 [0,3] hi0 hk0 ?_
 refine Zg ?_
 refine Zg7 [0,3,7] hi0 hk0 ?_
 refine Z9 ?_
 refine Zg7 [0,3,7,8] hi0 hk0 ?_
 refine Zq (t:=(a1.Kind == 0)) rfl (fun c28 => ?_) (fun c28 => ?_)
 ·replace h:=Zo c28 h
  refine Zg ?_
  obtain ⟨z1,hz1,h⟩:=bC h
  refine Yp (E':=⟨99,[],[(0,.ref i0 0),(3,.ref (n+1) 0),(22,(vB z1))]⟩) (O':=(Zu ((O.upd j0_0 none).upd i0 (some ⟨false,125,2,1,[(sL Za a0.left),.row n a0.out.length]⟩)) n [some (oR 25 3 Za a0.out),some ⟨false,75,14,1,(Yz a1)⟩])) (n0:=(n+2)) ?_ ?_
  ·rcases Bool.eq_false_or_eq_true (decide (a1.N < 0)) with c2 | c2
   ·replace hz1:=Zo c2 hz1
    refine X3 Zz (by kernel_rfl) [some false,some false,some false,some false,some false,some false,some false,some false] (by kernel_rfl) ?_
    refine zX3 c2 hi0 hk0 ?_
    have hz1:=Option.some.inj hz1;subst hz1
    refine And.intro rfl (Fit2.of (Yx hU rfl rfl ?_) (by omega))
    exact Z16 c2 hi0 hk0
   replace hz1:=Zn c2 hz1
   refine X3 Zz (by kernel_rfl) [some true,some true,some true,some true,some true,some true,some true,some true] (by kernel_rfl) ?_
   refine zX3 c2 hi0 hk0 ?_
   have hz1:=Option.some.inj hz1;subst hz1
   refine And.intro rfl (Fit2.of (Yx hU rfl rfl ?_) (by omega))
   exact Z16 c2 hi0 hk0
  refine Zq (t:=z1) rfl (fun c9 => ?_) (fun c9 => ?_)
  ·replace h:=Zo c9 h
   refine Zg7 [4] hi0 hk0 ?_
   refine zW ?_
   have h:=Option.some.inj h;subst h
   refine Va (k:=1) (i:=i0) (q1:=⟨false,125,2,1,[(sL Za a0.left),.row n a0.out.length]⟩) (L3:=[some (oR 25 3 Za a0.out),none]) (E2:=(⟨99,[],[(4,(vB false))]⟩:Env)) (n3:=(n+2)) (.inr rfl) hU rfl [(vB false)] ?_ ?_
   ·refine Fit2.trans (E':=(⟨99,[],[(4,(vB false))]⟩:Env)) (O':=(Zu ((O.upd j0_0 none).upd i0 (some ⟨false,125,2,1,[(sL Za a0.left),.row n a0.out.length]⟩)) n [some (oR 25 3 Za a0.out),none])) (n':=(n+2)) (Fit2.of (Yx hU rfl rfl ?_) (by omega)) ?_
    ·exact Js hi0 hk0
    refine Q0 (k:=2) (k':=2) hU [0,1] [0,0] rfl rfl rfl rfl ⟨rfl,rfl⟩ ?_
    exact Js hi0 hk0
   simp only [push_cast,seval,↓reduceIte,Zm,Try.results109,hi0,hk0,hN0,hN]
  replace h:=Zn c9 h
  refine Qp [0,3] [true,true] ?_
  refine Zg ?_
  obtain ⟨l5,al5,bl5,cl5,gl5,h⟩:=bS (lo:=none) (hi:=(some (.i64,a1.N))) (f:=Za) rfl rfl Zgw Vh (fun _=>rfl) h
  obtain ⟨l6,pl6,ql6,el6,h⟩:=bA (k:=l5.length) rfl h
  refine Vt Zz (by kernel_rfl) [.plain,.plain,.plain,.plain,.plain,.plain,.plain,.plain,.plain,.plain,.plain,.plain,.pass,.plain,.plain,.bar] (fun i=>i≠n+0) [0,1,2,3,4,5,6,7,8,9,10,11,12,13,14,15] [.plain,.plain,.plain,.plain,.plain,.plain,.plain,.plain,.plain,.plain,.plain,.plain,.pass,.plain,.plain,.bar] [] (by kernel_rfl) rfl ?_
  simp only [push_cast,seval,↓reduceIte,Zm,al5,bl5,cl5,gl5,pl6,ql6,el6,hi0,hk0,hN0,hN]
  refine zO ?_
  refine Zet ⟨99,[],[(0,.ref i0 0),(3,.ref (n+1) 0)]⟩ (Zu ((O.upd j0_0 none).upd i0 (some ⟨false,125,2,1,[(sL Za a0.left),.row n l6.length]⟩)) n [some (oR 25 3 Za l6),some ⟨false,75,14,1,(Yz a1)⟩]) (Yx hU rfl rfl ?_) ?_
  ·simp only [push_cast,seval,↓reduceIte,Zm,al5,bl5,cl5,gl5,pl6,ql6,el6,hi0,hk0,hN0,hN]
  refine Zg ?_
  obtain ⟨l8,al8,bl8,cl8,gl8,h⟩:=bS (lo:=(some (.i64,a1.N))) (hi:=none) (f:=Za) rfl rfl Zgw Vh (fun _=>rfl) h
  refine Zgo Zz (by kernel_rfl) [false,false,false,false,false,false,false,false,false,false,true] [] (by kernel_rfl) ?_
  refine zX6 al8 bl8 cl8 gl8 hi0 hk0 ?_
  refine zD [] [true,false] ?_
  refine Zg7 [4] hi0 hk0 ?_
  refine zW ?_
  have h:=Option.some.inj h;subst h
  refine Va (k:=1) (i:=i0) (q1:=⟨false,125,2,1,[(sL Za l8),.row n l6.length]⟩) (L3:=[some (oR 25 3 Za l6),none]) (E2:=(⟨99,[],[(4,(vB true))]⟩:Env)) (n3:=(n+2)) (.inr rfl) hU rfl [(vB true)] ?_ ?_
  ·refine Fit2.trans (E':=(⟨99,[],[(4,(vB true))]⟩:Env)) (O':=(Zu ((O.upd j0_0 none).upd i0 (some ⟨false,125,2,1,[(sL Za l8),.row n l6.length]⟩)) n [some (oR 25 3 Za l6),none])) (n':=(n+2)) (Fit2.of (Yx hU rfl rfl ?_) (by omega)) ?_
   ·exact Js hi0 hk0
   refine Q0 (k:=2) (k':=2) hU [0,1] [0,0] rfl rfl rfl rfl ⟨rfl,rfl⟩ ?_
   exact Js hi0 hk0
  simp only [push_cast,seval,↓reduceIte,Zm,Try.results109,hi0,hk0,hN0,hN]
 replace h:=Zn c28 h
 refine Zg7 [0,3,7,48] hi0 hk0 ?_
 refine Zq (t:=(a1.Kind == 1)) rfl (fun c27 => ?_) (fun c27 => ?_)
 ·replace h:=Zo c27 h
  refine Zg7 [0,3,5] hi0 hk0 ?_
  refine Zg ?_
  obtain ⟨z12,hz12,h⟩:=bC h
  refine Yp (E':=⟨99,[],[(0,.ref i0 0),(5,(vI (a1.L.length:Int))),(71,(vB z12))]⟩) (O':=(Zu ((O.upd j0_0 none).upd i0 (some ⟨false,125,2,1,[(sL Za a0.left),.row n a0.out.length]⟩)) n [some (oR 25 3 Za a0.out),none])) (n0:=(n+2)) ?_ ?_
  ·rcases Bool.eq_false_or_eq_true (decide ((a0.left.length:Int) < (a1.L.length:Int))) with c17 | c17
   ·replace hz12:=Zo c17 hz12
    refine X3 Zz (by kernel_rfl) [some false,some false,some false,some false,some false,some false,some false,some false,some false,some false] (by kernel_rfl) ?_
    refine zX3 c17 hi0 hk0 ?_
    have hz12:=Option.some.inj hz12;subst hz12
    refine And.intro rfl (Fit2.of (Yx hU rfl rfl ?_) (by omega))
    exact Z16 c17 hi0 hk0
   replace hz12:=Zn c17 hz12
   obtain ⟨l15,al15,bl15,cl15,gl15,hz12⟩:=bS (lo:=none) (hi:=(some (.i64,(a1.L.length:Int)))) (f:=Za) rfl rfl Zgw Vh (fun _=>rfl) hz12
   obtain ⟨y16,hy16,hz12⟩:=bC hz12
   refine X3 Zz (by kernel_rfl) [some true,some true,some true,some true,some true,some true,some true,some true,some true,some true] (by kernel_rfl) ?_
   simp only [push_cast,seval,↓reduceIte,Zm,c17,al15,bl15,cl15,gl15,hi0,hk0,hN0,hN]
   refine PCall.of (V2 hy16) ?_
   simp only [push_cast,seval,↓reduceIte,Zm,c17,al15,bl15,cl15,gl15,hi0,hk0,hN0,hN]
   have hz12:=Option.some.inj hz12;subst hz12
   refine And.intro rfl (Fit2.of (Yx hU rfl rfl ?_) (by omega))
   simp only [push_cast,seval,↓reduceIte,Zm,c17,al15,bl15,cl15,gl15,hi0,hk0,hN0,hN]
  refine Zq (t:=z12) rfl (fun c20 => ?_) (fun c20 => ?_)
  ·replace h:=Zo c20 h
   refine Zg7 [4] hi0 hk0 ?_
   refine zW ?_
   have h:=Option.some.inj h;subst h
   refine Va (k:=1) (i:=i0) (q1:=⟨false,125,2,1,[(sL Za a0.left),.row n a0.out.length]⟩) (L3:=[some (oR 25 3 Za a0.out),none]) (E2:=(⟨99,[],[(4,(vB false))]⟩:Env)) (n3:=(n+2)) (.inr rfl) hU rfl [(vB false)] ?_ ?_
   ·refine Fit2.trans (E':=(⟨99,[],[(4,(vB false))]⟩:Env)) (O':=(Zu ((O.upd j0_0 none).upd i0 (some ⟨false,125,2,1,[(sL Za a0.left),.row n a0.out.length]⟩)) n [some (oR 25 3 Za a0.out),none])) (n':=(n+2)) (Fit2.of (Yx hU rfl rfl ?_) (by omega)) ?_
    ·exact Js hi0 hk0
    refine Q0 (k:=2) (k':=2) hU [0,1] [0,0] rfl rfl rfl rfl ⟨rfl,rfl⟩ ?_
    exact Js hi0 hk0
   simp only [push_cast,seval,↓reduceIte,Zm,Try.results109,hi0,hk0,hN0,hN]
  replace h:=Zn c20 h
  refine Qp [0,5] [true,false] ?_
  refine Zg ?_
  obtain ⟨l19,al19,bl19,cl19,gl19,h⟩:=bS (lo:=(some (.i64,(a1.L.length:Int)))) (hi:=none) (f:=Za) rfl rfl Zgw Vh (fun _=>rfl) h
  refine Ybq [] al19 bl19 cl19 gl19 hi0 hk0 ?_
  refine zD [] [true,false] ?_
  refine Zg7 [4] hi0 hk0 ?_
  refine zW ?_
  have h:=Option.some.inj h;subst h
  refine Va (k:=1) (i:=i0) (q1:=⟨false,125,2,1,[(sL Za l19),.row n a0.out.length]⟩) (L3:=[some (oR 25 3 Za a0.out),none]) (E2:=(⟨99,[],[(4,(vB true))]⟩:Env)) (n3:=(n+2)) (.inr rfl) hU rfl [(vB true)] ?_ ?_
  ·refine Fit2.trans (E':=(⟨99,[],[(4,(vB true))]⟩:Env)) (O':=(Zu ((O.upd j0_0 none).upd i0 (some ⟨false,125,2,1,[(sL Za l19),.row n a0.out.length]⟩)) n [some (oR 25 3 Za a0.out),none])) (n':=(n+2)) (Fit2.of (Yx hU rfl rfl ?_) (by omega)) ?_
   ·exact Js hi0 hk0
   refine Q0 (k:=2) (k':=2) hU [0,1] [0,0] rfl rfl rfl rfl ⟨rfl,rfl⟩ ?_
   exact Js hi0 hk0
  simp only [push_cast,seval,↓reduceIte,Zm,Try.results109,hi0,hk0,hN0,hN]
 replace h:=Zn c27 h
 refine Zg7 [0,3,7,81] hi0 hk0 ?_
 refine Zq (t:=(a1.Kind == 2)) rfl (fun c26 => ?_) (fun c26 => ?_)
 ·replace h:=Zo c26 h
  refine Zg ?_
  obtain ⟨l22,pl22,ql22,el22,h⟩:=bA (k:=a1.L.length) rfl h
  refine Vt Zz (by kernel_rfl) [.plain,.plain,.plain,.plain,.plain,.plain,.plain,.pass,.plain,.plain,.bar] (fun i=>i≠n+0) [0,1,2,3,4,5,6,7,8,9,10] [.plain,.plain,.plain,.plain,.plain,.plain,.plain,.pass,.plain,.plain,.bar] [] (by kernel_rfl) rfl ?_
  refine zX5 pl22 ql22 el22 hi0 hk0 ?_
  refine zO ?_
  refine Zet ⟨99,[],[]⟩ (Zu ((O.upd j0_0 none).upd i0 (some ⟨false,125,2,1,[(sL Za a0.left),.row n l22.length]⟩)) n [some (oR 25 3 Za l22),none]) (Yx hU rfl rfl ?_) ?_
  ·exact Ykg pl22 ql22 el22 hi0 hk0
  refine Zg7 [4] hi0 hk0 ?_
  refine zW ?_
  have h:=Option.some.inj h;subst h
  refine Va (k:=1) (i:=i0) (q1:=⟨false,125,2,1,[(sL Za a0.left),.row n l22.length]⟩) (L3:=[some (oR 25 3 Za l22),none]) (E2:=(⟨99,[],[(4,(vB true))]⟩:Env)) (n3:=(n+2)) (.inr rfl) hU rfl [(vB true)] ?_ ?_
  ·refine Fit2.trans (E':=(⟨99,[],[(4,(vB true))]⟩:Env)) (O':=(Zu ((O.upd j0_0 none).upd i0 (some ⟨false,125,2,1,[(sL Za a0.left),.row n l22.length]⟩)) n [some (oR 25 3 Za l22),none])) (n':=(n+2)) (Fit2.of (Yx hU rfl rfl ?_) (by omega)) ?_
   ·exact Js hi0 hk0
   refine Q0 (k:=2) (k':=2) hU [0,1] [0,0] rfl rfl rfl rfl ⟨rfl,rfl⟩ ?_
   exact Js hi0 hk0
  simp only [push_cast,seval,↓reduceIte,Zm,Try.results109,hi0,hk0,hN0,hN]
 replace h:=Zn c26 h
 refine Zg7 [0,3,93] hi0 hk0 ?_
 refine Zq (t:=(a1.Kind == 3)) rfl (fun c25 => ?_) (fun c25 => ?_)
 ·replace h:=Zo c25 h
  refine Zg ?_
  obtain ⟨y24,hy24,h⟩:=bC h
  refine Jn [] hi0 hk0 ?_
  refine (Jq (i0:=i0) (j0_0:=n) (by omega) (by omega) (by omega) (by simp only [push_cast,seval,↓reduceIte,Zm,Xo,hi0,hk0,hN0,hN] <;> rfl) (by simp only [push_cast,seval,↓reduceIte,Zm,Xo,hi0,hk0,hN0,hN] <;> rfl) hy24).then ?_
  refine zX2 hi0 hk0 ?_
  refine zD [4] [false,false,true] ?_
  refine zW ?_
  have h:=Option.some.inj h;subst h
  refine Va (k:=1) (i:=i0) (q1:=⟨false,125,2,1,[(sL Za y24.2.left),.row n y24.2.out.length]⟩) (L3:=[some (oR 25 3 Za y24.2.out),none]) (E2:=(⟨99,[],[(4,(vB y24.1))]⟩:Env)) (n3:=(n+2)) (.inr rfl) hU rfl [(vB y24.1)] ?_ ?_
  ·refine Fit2.trans (E':=(⟨99,[],[(4,(vB y24.1))]⟩:Env)) (O':=(Zu ((O.upd j0_0 none).upd i0 (some ⟨false,125,2,1,[(sL Za y24.2.left),.row (n+2) y24.2.out.length]⟩)) n [none,none,some (oR 25 3 Za y24.2.out)])) (n':=(n+3)) (Fit2.of (Yx hU rfl rfl ?_) (by omega)) ?_
   ·exact Js hi0 hk0
   refine Q0 (k:=3) (k':=2) hU [1,1,0] [2,0] rfl rfl rfl rfl ⟨rfl,rfl⟩ ?_
   exact Js hi0 hk0
  simp only [push_cast,seval,↓reduceIte,Zm,Try.results109,hi0,hk0,hN0,hN]
 replace h:=Zn c25 h
 refine Qp [] [true,false] ?_
 refine Zg7 [4] hi0 hk0 ?_
 refine zW ?_
 have h:=Option.some.inj h;subst h
 refine Va (k:=1) (i:=i0) (q1:=⟨false,125,2,1,[(sL Za a0.left),.row n a0.out.length]⟩) (L3:=[some (oR 25 3 Za a0.out),none]) (E2:=(⟨99,[],[(4,(vB false))]⟩:Env)) (n3:=(n+2)) (.inr rfl) hU rfl [(vB false)] ?_ ?_
 ·refine Fit2.trans (E':=(⟨99,[],[(4,(vB false))]⟩:Env)) (O':=(Zu ((O.upd j0_0 none).upd i0 (some ⟨false,125,2,1,[(sL Za a0.left),.row n a0.out.length]⟩)) n [some (oR 25 3 Za a0.out),none])) (n':=(n+2)) (Fit2.of (Yx hU rfl rfl ?_) (by omega)) ?_
  ·exact Js hi0 hk0
  refine Q0 (k:=2) (k':=2) hU [0,1] [0,0] rfl rfl rfl rfl ⟨rfl,rfl⟩ ?_
  exact Js hi0 hk0
 simp only [push_cast,seval,↓reduceIte,Zm,Try.results109,hi0,hk0,hN0,hN]
theorem Zlr {Xc:(Zc→Zb→Option (Zb×Bool))} {Yk:(Zc→Zb→Option (Zb×Bool))} {Xm:(Zc→Zb→Option (Zb×Bool))} {Z5:(Zj→Zh→Option (Bool×Zj))} {Z3:(Zj→Zc→Option (Bool×Zj))} (Vq:Zbj Xc) (U1:Kz Yk) (Zed:Zbk Xm) (Vf:Jp Z5) (Jq:Qx Z3) {a0:Zj} {a1:Zc} {r:(Bool×Zj)} {O:Objs} {n:Nat} {i0 j0_0:Nat} (hi0:i0 < n) (G3:j0_0 < n) (Kf:i0≠j0_0) (ho0:O i0=some ⟨false,125,2,1,[(sL Za a0.left),.row j0_0 a0.out.length]⟩) (Zap:O j0_0=some (oR 25 3 Za a0.out)) (h:K9 Xc Yk Xm Z5 Z3 a0 a1=some r):GTo Try.prog 139 [.ref i0 0,.agg (Ze a1)] O n ((vB r.1)) (Zu ((O.upd j0_0 none).upd i0 (some ⟨false,125,2,1,[(sL Za r.2.left),.row n r.2.out.length]⟩)) n [some (oR 25 3 Za r.2.out)]) (n+1):=by
 unfold K9 at h
 refine Zo2 Zz Try.call139 Try.func139 rfl (Nat.le_of_ble_eq_true rfl) (by omega) fun hU => ?_
 have e0:=K1 (ba:=n) (E:=⟨44,[],Zhf 0 [.ref i0 0,.agg [.val (.int .i64 a1.Kind),.val (.int .i64 a1.Old.Kind),.sl a1.Old.Words.length (fl (eI .u64) a1.Old.Words),.sl a1.Old.Kids.length (fl Za a1.Old.Kids),.val (.int .i64 a1.New.Kind),.sl a1.New.Words.length (fl (eI .u64) a1.New.Words),.sl a1.New.Kids.length (fl Za a1.New.Kids),.sl a1.Words.length (fl Zl a1.Words),.sl a1.Kids.length (fl Zi a1.Kids),.val (.int .i64 a1.List_),.sl a1.Ops.length (fl Zd a1.Ops)]]⟩) (O:=(Zu O n [])) (n:=n) (i:=i0) (j:=j0_0) (k:=1) (len:=a0.out.length) (q:=⟨false,125,2,1,[.sl a0.left.length (fl Za a0.left),.row j0_0 a0.out.length]⟩) (qj:=⟨true,25,3,a0.out.length,fl Za a0.out⟩) (by rw [Yt _ hi0];first | exact ho0 | exact Yo _ _ _) rfl (by rw [Yt _ G3];exact Zap) Kf (by omega)
 simp only [Y5 _ _ G3,Y5 _ _ hi0,Xd,Yv,Qw,Zdh Kf,List.set_cons_zero,List.set_cons_succ,List.cons_append,List.nil_append,List.length_cons,List.length_nil,Nat.zero_add,Nat.reduceAdd,Nat.add_assoc] at e0
 refine Jt e0 ?_
 have hU:=(Und.drop hU j0_0)
 have hk0:∀ k,i0 < n+k:=fun k=>by omega
 have hN0:∀ o,Objs.upd (O.upd j0_0 none) i0 o n=none:=fun o=>Kb hU hi0 _ (Nat.le_refl _)
 have hN:∀ o k,Objs.upd (O.upd j0_0 none) i0 o (n+k)=none:=fun o k=>Kb hU hi0 _ (Nat.le_add_right _ _)
 show W _ _ _ _ ⟨44,[],[(0,.ref i0 0),(1,.agg (Ze a1))]⟩ (Zu ((O.upd j0_0 none).upd i0 (some ⟨false,125,2,1,[(sL Za a0.left),.row n a0.out.length]⟩)) n [some (oR 25 3 Za a0.out)]) _
 refine Zg7 [0,3] hi0 hk0 ?_
 refine Zg ?_
 refine Zg7 [0,3,12] hi0 hk0 ?_
 refine Zq (t:=((a0.left.length:Int) == 0)) rfl (fun c13 => ?_) (fun c13 => ?_)
 ·replace h:=Zo c13 h
  refine Zg7 [4] hi0 hk0 ?_
  refine zW ?_
  have h:=Option.some.inj h;subst h
  refine Va (k:=1) (i:=i0) (q1:=⟨false,125,2,1,[(sL Za a0.left),.row n a0.out.length]⟩) (L3:=[some (oR 25 3 Za a0.out),none]) (E2:=(⟨44,[],[(4,(vB false))]⟩:Env)) (n3:=(n+2)) (.inr rfl) hU rfl [(vB false)] ?_ ?_
  ·refine Fit2.trans (E':=(⟨44,[],[(4,(vB false))]⟩:Env)) (O':=(Zu ((O.upd j0_0 none).upd i0 (some ⟨false,125,2,1,[(sL Za a0.left),.row n a0.out.length]⟩)) n [some (oR 25 3 Za a0.out),none])) (n':=(n+2)) (Fit2.of (Yx hU rfl rfl ?_) (by omega)) ?_
   ·exact Js hi0 hk0
   refine Q0 (k:=2) (k':=2) hU [0,1] [0,0] rfl rfl rfl rfl ⟨rfl,rfl⟩ ?_
   exact Js hi0 hk0
  simp only [push_cast,seval,↓reduceIte,Zm,Try.results139,hi0,hk0,hN0,hN]
 replace h:=Zn c13 h
 refine Qp [0,3] [true,true] ?_
 refine Zg ?_
 obtain ⟨x3,hx3,ax3,bx3,cx3,h⟩:=bE (f:=Za) Vh (fun _=>rfl) (by decide) h
 obtain ⟨y4,hy4,h⟩:=bC h
 refine Vt Zz (by kernel_rfl) [.low,.plain,.low,.low,.low,.low,.low,.low,.plain,.plain,.plain,.pass,.bar,.plain] (fun i=>i < (n+2)) [0,1,2,3,4,5,6,7,8,9,10,11,12,13] [.low,.plain,.low,.low,.low,.low,.low,.low,.plain,.plain,.plain,.pass,.bar,.plain] [] (by kernel_rfl) rfl ?_
 refine zF5 ax3 bx3 cx3 hi0 hk0 ?_
 refine zO ?_
 first | refine PCallA.of (fun _ _=>Vq hy4) ?_ | refine PCall.of (Vq hy4) ?_
 refine zF5 ax3 bx3 cx3 hi0 hk0 ?_
 refine zO ?_
 refine zDs [0,5,6] [true,false,true] ?_
 obtain ⟨l8,pl8,ql8,el8,h⟩:=bA (k:=1) rfl h
 obtain ⟨x9,hx9,ax9,bx9,cx9,h⟩:=bE (f:=Za) Vh (fun _=>rfl) (by decide) h
 have gu10:Ke (fl Za a0.out++[.val (.int .i64 0),.val (.slice none 0 0),.val (.slice none 0 0)]) [.val (.int .i64 y4.1.Kind),.sl y4.1.Words.length (fl (eI .u64) y4.1.Words),.sl y4.1.Kids.length (fl Za y4.1.Kids)] (List.length a0.out * 3)=some (fl Za a0.out++[.val (.int .i64 y4.1.Kind),.sl y4.1.Words.length (fl (eI .u64) y4.1.Words),.sl y4.1.Kids.length (fl Za y4.1.Kids)]):=Zdk (f:=Za) (sz:=3) (fun _=>rfl) rfl rfl
 refine Vt Zz (by kernel_rfl) [.plain,.low,.low,.low,.low,.low,.pass,.bar,.shp,.fill true,.shp,.shp,.fill false] (fun i=>i < (n+3)) [0,1,2,3,4,5,6,7,8,9,10,11,12] [.plain,.low,.low,.low,.low,.low,.pass,.bar,.shp,.fill true,.shp,.shp,.fill false] [] (by kernel_rfl) rfl ?_
 refine zF9 pl8 ql8 el8 ax9 bx9 cx9 gu10 hi0 hk0 ?_
 refine zO ?_
 refine Zet ⟨44,[],[(0,.ref i0 0),(6,(vB y4.2))]⟩ (Zu ((O.upd j0_0 none).upd i0 (some ⟨false,125,2,1,[(sL Za a0.left),.row n (a0.out++[y4.1]).length]⟩)) n [some (oR 25 3 Za (a0.out++[y4.1])),none,none,none]) (Yx hU rfl rfl ?_) ?_
 ·exact Z15 pl8 ql8 el8 ax9 bx9 cx9 gu10 hi0 hk0
 refine Zg ?_
 obtain ⟨l12,al12,bl12,cl12,gl12,h⟩:=bS (lo:=(some (.i64,1))) (hi:=none) (f:=Za) rfl rfl Zgw Vh (fun _=>rfl) h
 refine Ybq [] al12 bl12 cl12 gl12 hi0 hk0 ?_
 refine zD [6] [true,false,false,false] ?_
 refine Zg7 [4] hi0 hk0 ?_
 refine zW ?_
 have h:=Option.some.inj h;subst h
 refine Va (k:=1) (i:=i0) (q1:=⟨false,125,2,1,[(sL Za l12),.row n (a0.out++[y4.1]).length]⟩) (L3:=[some (oR 25 3 Za (a0.out++[y4.1])),none]) (E2:=(⟨44,[],[(4,(vB y4.2))]⟩:Env)) (n3:=(n+2)) (.inr rfl) hU rfl [(vB y4.2)] ?_ ?_
 ·refine Fit2.trans (E':=(⟨44,[],[(4,(vB y4.2))]⟩:Env)) (O':=(Zu ((O.upd j0_0 none).upd i0 (some ⟨false,125,2,1,[(sL Za l12),.row n (a0.out++[y4.1]).length]⟩)) n [some (oR 25 3 Za (a0.out++[y4.1])),none,none,none])) (n':=(n+4)) (Fit2.of (Yx hU rfl rfl ?_) (by omega)) ?_
  ·exact Js hi0 hk0
  refine Q0 (k:=4) (k':=2) hU [0,1,1,1] [0,0] rfl rfl rfl rfl ⟨rfl,rfl⟩ ?_
  exact Js hi0 hk0
 simp only [push_cast,seval,↓reduceIte,Zm,Try.results139,hi0,hk0,hN0,hN]
theorem Zvl:∀ k,(Zbj ((Zs k).1))∧(Kz ((Zs k).2.1))∧(Zbk ((Zs k).2.2.1))∧(Jp ((Zs k).2.2.2.1))∧(Qx ((Zs k).2.2.2.2)):=fun k=>by
 induction k with
 | zero=>exact ⟨@fun a0 a1 r O n h=>(nomatch (show (none:Option _)=some _ from h)),@fun a0 a1 r O n h=>(nomatch (show (none:Option _)=some _ from h)),@fun a0 a1 r O n h=>(nomatch (show (none:Option _)=some _ from h)),@fun a0 a1 r O n i0 j0_0 hi0 G3 Kf ho0 Zap h=>(nomatch (show (none:Option _)=some _ from h)),@fun a0 a1 r O n i0 j0_0 hi0 G3 Kf ho0 Zap h=>(nomatch (show (none:Option _)=some _ from h))⟩
 | succ k ih=>exact ⟨@fun a0 a1 r O n h=>Z0m (ih.1) (ih.2.1) (ih.2.2.1) (ih.2.2.2.1) (ih.2.2.2.2)  h,@fun a0 a1 r O n h=>Zra (ih.1) (ih.2.1) (ih.2.2.1) (ih.2.2.2.1) (ih.2.2.2.2)  h,@fun a0 a1 r O n h=>Z0n (ih.1) (ih.2.1) (ih.2.2.1) (ih.2.2.2.1) (ih.2.2.2.2)  h,@fun a0 a1 r O n i0 j0_0 hi0 G3 Kf ho0 Zap h=>Zoy (ih.1) (ih.2.1) (ih.2.2.1) (ih.2.2.2.1) (ih.2.2.2.2) hi0 G3 Kf ho0 Zap h,@fun a0 a1 r O n i0 j0_0 hi0 G3 Kf ho0 Zap h=>Zlr (ih.1) (ih.2.1) (ih.2.2.1) (ih.2.2.2.1) (ih.2.2.2.2) hi0 G3 Kf ho0 Zap h⟩
theorem Z1v {a0:Zc} {a1:Zb} {r:(Zb×Bool)} {O:Objs} {n:Nat} (h:Znh a0 a1=some r):GTo Try.prog 45 [.agg (Ze a0),.agg (Zf a1)] O n (.tup [.agg (Zf r.1),(vB r.2)]) O n:=by
 obtain ⟨k,hk⟩:=V0 h
 exact (Zvl k).1  hk
theorem Z1u {a0:Zc} {a1:Zb} {r:(Zb×Bool)} {O:Objs} {n:Nat} (h:Zhx a0 a1=some r):GTo Try.prog 14 [.agg (Ze a0),.agg (Zf a1)] O n (.tup [.agg (Zf r.1),(vB r.2)]) O n:=by
 unfold Zhx at h
 refine zFn Try.call14 Try.func14 fun hU hN0 hN => ?_
 show W _ _ _ _ ⟨19,[],[(0,.agg (Ze a0)),(1,.agg (Zf a1))]⟩ (Zu O n []) _
 refine zQ [2,3,4] ?_
 refine Zg ?_
 obtain ⟨y2,hy2,h⟩:=bC h
 refine zCd (Z1v hy2) [4,6,7] [false,false,true,true] ?_
 refine Zg ?_
 refine zQ [4,6,15] ?_
 refine Zq (t:=(!y2.2)) rfl (fun c5 => ?_) (fun c5 => ?_)
 ·replace h:=Zo c5 h
  refine Zg ?_
  refine zRd [4,5] [false,false,true,false] ?_
  exact Yi [.agg [(vI 0),nV,nV],(vB false)]
 replace h:=Zn c5 h
 refine Qp [4,6] [false,false,true,true] ?_
 refine Zg ?_
 obtain ⟨y4,hy4,h⟩:=bC h
 refine zCd (Zdy hy4) [4,5] [false,false,true,false] ?_
 exact Yi [.agg (Zf y4),(vB true)]
theorem Zrw {a0:(List Int)} {r:(List Int)} {O:Objs} {n:Nat} (h:Zb0 a0=some r):GTo Try.prog 59 [(sL (eI .u64) a0)] O n ((sL (eI .u64) r)) O n:=by
 unfold Zb0 at h
 refine zFn Try.call59 Try.func59 fun hU hN0 hN => ?_
 show W _ _ _ _ ⟨24,[],[(0,(sL (eI .u64) a0))]⟩ (Zu O n []) _
 refine zQ [0] ?_
 refine zQ [0,3] ?_
 refine Zg ?_
 refine zD [0,3] [] ?_
 obtain ⟨z7,hz7,h⟩:=bC h
 refine Yg (E':=⟨24,[],[(0,(sL (eI .u64) a0)),(3,(vI z7))]⟩) (O':=(Zu O n [])) (n0:=n) ?_ ?_
 ·refine Y2 hz7 (fun s0_=>⟨24,[],[(0,(sL (eI .u64) a0)),(3,(vI s0_))]⟩) (fun s0_=>(Zu O n [])) (fun z7=>JX 0 n (⟨24,[],[(0,(sL (eI .u64) a0)),(3,(vI z7))]⟩:Env) (Zu O n []) n) ?_
  intro s0_ x0_ hs0_
  unfold Uu at hs0_
  try dsimp only
  refine Zg ?_
  obtain ⟨z2,hz2,hs0_⟩:=bC hs0_
  refine Yp (E':=⟨24,[],[(0,(sL (eI .u64) a0)),(3,(vI s0_)),(16,(vB z2))]⟩) (O':=(Zu O n [])) (n0:=n) ?_ ?_
  ·rcases Bool.eq_false_or_eq_true (decide (0 < s0_)) with c5 | c5
   ·replace hz2:=Zo c5 hz2
    obtain ⟨x4,hx4,ax4,bx4,cx4,hz2⟩:=bE (f:=(eI .u64)) Zh6 (fun _=>rfl) (by decide) hz2
    refine Zrm [some true,some true,some true,some true,some true,some true] c5 ax4 bx4 cx4 ?_
    exact Ybl hz2 c5 ax4 bx4 cx4
   replace hz2:=Zn c5 hz2
   refine Jb [some false,some false,some false,some false,some false,some false] c5 ?_
   exact Qm hz2 c5
  refine Zq (t:=z2) rfl (fun c6 => ?_) (fun c6 => ?_)
  ·replace hs0_:=Zo c6 hs0_
   refine Qp [0,3] [] ?_
   refine Z9 ?_
   refine zR ?_
   exact Gw hs0_
  replace hs0_:=Zn c6 hs0_
  exact zEx hs0_
 try simp only [Ym,Z4,↓reduceIte,Nat.reduceEqDiff]
 refine zD [0,3] [] ?_
 refine zQ [0,3,4] ?_
 refine Zg ?_
 obtain ⟨l10,al10,bl10,cl10,gl10,h⟩:=bS (lo:=none) (hi:=(some (.i64,z7))) (f:=(eI .u64)) rfl rfl Zqw Zh6 (fun _=>rfl) h
 obtain ⟨l11,pl11,ql11,el11,h⟩:=bA0 (k:=l10.length) rfl h
 refine Yke [] al10 bl10 cl10 gl10 pl11 ql11 el11 ?_
 refine Zet ⟨24,[],[(2,.row n l11.length)]⟩ (Zu O n [some (oR 73 1 (eI .u64) l11)]) (Ya hU rfl rfl ?_) ?_
 ·simp only [push_cast,seval,↓reduceIte,Zm,al10,bl10,cl10,gl10,pl11,ql11,el11,hN0,hN]
 exact Yi [.row n l11.length]
def Zi2 (J4:(Zb→Option Zb)):Prop:=∀ {a0:Zb} {r:Zb} {O:Objs} {n:Nat},J4 a0=some r→GTo Try.prog 31 [.agg (Zf a0)] O n (.agg (Zf r)) O n
theorem Zrb {J4:(Zb→Option Zb)} (Zpf:Zi2 J4) {a0:Zb} {r:Zb} {O:Objs} {n:Nat} (h:Zbp J4 a0=some r):GTo Try.prog 31 [.agg (Zf a0)] O n (.agg (Zf r)) O n:=by
 unfold Zbp at h
 refine zFn Try.call31 Try.func31 fun hU hN0 hN => ?_
 show W _ _ _ _ ⟨53,[],[(0,.agg (Zf a0))]⟩ (Zu O n []) _
 refine zQ [1,2] ?_
 refine Zg ?_
 refine zQ [1,2,10] ?_
 refine Zq (t:=(a0.Kind == 0)) rfl (fun c19 => ?_) (fun c19 => ?_)
 ·replace h:=Zo c19 h
  refine Zg ?_
  refine zRd [2] [false,true] ?_
  exact Yi [.agg [(vI 0),nV,nV]]
 replace h:=Zn c19 h
 refine Qp [1,2] [true,true] ?_
 refine zQ [1,2,3] ?_
 refine zQ [1,2,3,4] ?_
 refine Zg ?_
 refine zQd [1,2,3,4,5] [1,2,3,4,5] [true,true] ?_
 refine Jt (E':=(⟨53,[],[(1,.ref n 0),(2,.ref (n+1) 0),(3,.row (n+2) ([]:List Zb).length),(4,(vI 0)),(5,(vI 0))]⟩:Env)) (O':=(Zu O n [some ⟨false,25,3,1,(Zf a0)⟩,some ⟨false,25,3,1,[(vI 0),nV,nV]⟩,some (oR 25 3 Za ([]:List Zb)),none])) (n':=(n+4)) ?_ ?_
 ·refine Fit2.trans (E':=(⟨53,[],[(1,.ref n 0),(2,.ref (n+1) 0),(3,nV),(4,(vI 0)),(5,(vI 0))]⟩:Env)) (O':=(Zu O n [some ⟨false,25,3,1,(Zf a0)⟩,some ⟨false,25,3,1,[(vI 0),nV,nV]⟩])) (n':=(n+2)) (Fit2.of (Ya hU rfl rfl ?_) (by omega)) ?_
  ·exact zSe
  refine Fit2.trans (Zg8 3 25 3 rfl (by omega)) ?_
  simp only [Xd,Yv,U3,K8,List.set_cons_zero,List.set_cons_succ,List.cons_append,List.nil_append,List.length_cons,List.length_nil,Nat.zero_add,Nat.reduceAdd,Nat.reduceLT,Nat.add_assoc]
  refine Fit2.trans (E':=(⟨53,[],[(1,.ref n 0),(2,.ref (n+1) 0),(3,.row (n+2) ([]:List Zb).length),(4,(vI 0)),(5,(vI 0))]⟩:Env)) (O':=(Zu O n [some ⟨false,25,3,1,(Zf a0)⟩,some ⟨false,25,3,1,[(vI 0),nV,nV]⟩,some (oR 25 3 Za ([]:List Zb))])) (n':=(n+3)) (Fit2.of (Ya hU rfl rfl ?_) (by omega)) ?_
  ·exact zSe
  refine Ja (k:=3) (k':=4) hU [0,1,2] [0,1,2,0] rfl rfl rfl rfl ⟨rfl,rfl⟩ ?_
  exact zSe
 obtain ⟨z10,hz10,h⟩:=bC h
 refine Yg (E':=⟨53,[],[(1,.ref n 0),(2,.ref (n+1) 0),(3,.row (n+2) z10.2.length),(4,(vI z10.1))]⟩) (O':=(Zu O n [some ⟨false,25,3,1,(Zf a0)⟩,some ⟨false,25,3,1,[(vI 0),nV,nV]⟩,some (oR 25 3 Za z10.2),none])) (n0:=(n+4)) ?_ ?_
 ·refine Y2 hz10 (fun s0_=>⟨53,[],[(1,.ref n 0),(2,.ref (n+1) 0),(3,.row (n+2) s0_.2.2.length),(4,(vI s0_.1)),(5,(vI s0_.2.1))]⟩) (fun s0_=>(Zu O n [some ⟨false,25,3,1,(Zf a0)⟩,some ⟨false,25,3,1,[(vI 0),nV,nV]⟩,some (oR 25 3 Za s0_.2.2),none])) (fun z10=>JX 0 n (⟨53,[],[(1,.ref n 0),(2,.ref (n+1) 0),(3,.row (n+2) z10.2.length),(4,(vI z10.1))]⟩:Env) (Zu O n [some ⟨false,25,3,1,(Zf a0)⟩,some ⟨false,25,3,1,[(vI 0),nV,nV]⟩,some (oR 25 3 Za z10.2),none]) (n+4)) ?_
  intro s0_ x0_ hs0_
  unfold Jf at hs0_
  try dsimp only
  refine Zg ?_
  refine zQ [1,2,3,4,5,16] ?_
  refine Zq (t:=(decide (s0_.2.1 < (a0.Kids.length:Int)))) rfl (fun c9 => ?_) (fun c9 => ?_)
  ·replace hs0_:=Zo c9 hs0_
   refine Qp [1,2,3,4,5] [true,true,true,false] ?_
   obtain ⟨z1,hz1,hs0_⟩:=bC hs0_
   refine Yp (E':=⟨53,[],[(1,.ref n 0),(2,.ref (n+1) 0),(3,.row (n+2) z1.2.length),(4,(vI z1.1)),(5,(vI s0_.2.1))]⟩) (O':=(Zu O n [some ⟨false,25,3,1,(Zf a0)⟩,some ⟨false,25,3,1,[(vI 0),nV,nV]⟩,some (oR 25 3 Za z1.2),none,none,none])) (n0:=(n+6)) ?_ ?_
   ·refine Z9 ?_
    refine Zg ?_
    obtain ⟨x4,hx4,ax4,bx4,cx4,hz1⟩:=bE (f:=Za) Vh (fun _=>rfl) (by decide) hz1
    obtain ⟨y5,hy5,hz1⟩:=bC hz1
    refine Zcw [] ax4 bx4 cx4 ?_
    refine (Zpf hy5).then ?_
    refine zF3 ax4 bx4 cx4 ?_
    refine zDs [1,2,3,4,5,6] [true,true,true,false,true] ?_
    obtain ⟨l7,pl7,ql7,el7,hz1⟩:=bA (k:=1) rfl hz1
    refine Zbf [] pl7 ql7 el7 ?_
    refine Zet ⟨53,[],[(1,.ref n 0),(2,.ref (n+1) 0),(3,.row (n+2) l7.length),(4,(vI s0_.1)),(5,(vI s0_.2.1)),(6,.ref (n+4) 0)]⟩ (Zu O n [some ⟨false,25,3,1,(Zf a0)⟩,some ⟨false,25,3,1,[(vI 0),nV,nV]⟩,some (oR 25 3 Za l7),none,some ⟨false,25,3,1,(Zf y5)⟩,none]) (Ya hU rfl rfl ?_) ?_
    ·exact Z16 pl7 ql7 el7
    refine zQ [1,2,3,4,5,31] ?_
    refine Zq (t:=(y5.Kind != 0)) rfl (fun c8 => ?_) (fun c8 => ?_)
    ·replace hz1:=Zo c8 hz1
     refine zR ?_
     exact Gw hz1
    replace hz1:=Zn c8 hz1
    refine zK ?_
    exact Gw hz1
   refine zR ?_
   exact Gw hs0_
  replace hs0_:=Zn c9 hs0_
  exact zEx hs0_
 try simp only [Ym,Z4,↓reduceIte,Nat.reduceEqDiff]
 refine zDs [1,2,3,4] [true,true,true,false] ?_
 refine zQ [1,2,3,4,36] ?_
 refine Zq (t:=(a0.Kind == 1)) rfl (fun c18 => ?_) (fun c18 => ?_)
 ·replace h:=Zo c18 h
  refine Zet ⟨53,[],[(1,.ref n 0),(2,.ref (n+1) 0),(3,(sL Za z10.2)),(4,(vI z10.1))]⟩ (Zu O n [some ⟨false,25,3,1,(Zf a0)⟩,some ⟨false,25,3,1,[(vI 0),nV,nV]⟩,none,none]) (Ya hU rfl rfl ?_) ?_
  ·exact zSe
  refine Zg ?_
  obtain ⟨y14,hy14,h⟩:=bC h
  obtain ⟨l15,al15,bl15,cl15,gl15,h⟩:=bS (lo:=none) (hi:=(some (.i64,z10.1))) (f:=Za) rfl rfl Zgw Vh (fun _=>rfl) h
  refine Zgo Zz (by kernel_rfl) [false,false,false,false,false,false,false,true] [] (by kernel_rfl) ?_
  refine zX4 al15 bl15 cl15 gl15 ?_
  refine PCall.of (Zrw hy14) ?_
  refine zX4 al15 bl15 cl15 gl15 ?_
  refine zD [2] [false,true,false,false] ?_
  exact Yi [.agg [(vI 1),(sL (eI .u64) y14),(sL Za l15)]]
 replace h:=Zn c18 h
 refine Qp [1,2,3] [true,true,true,false] ?_
 refine zQ [1,2,3,7] ?_
 refine Zg ?_
 obtain ⟨l17,pl17,ql17,el17,h⟩:=bA0 (k:=a0.Words.length) rfl h
 refine Zbf [] pl17 ql17 el17 ?_
 refine Zet ⟨53,[],[(1,.ref n 0),(2,.ref (n+1) 0),(3,.row (n+2) z10.2.length),(7,.row (n+4) l17.length)]⟩ (Zu O n [some ⟨false,25,3,1,(Zf a0)⟩,some ⟨false,25,3,1,[(vI 0),nV,nV]⟩,some (oR 25 3 Za z10.2),none,some (oR 73 1 (eI .u64) l17)]) (Ya hU rfl rfl ?_) ?_
 ·exact Z16 pl17 ql17 el17
 refine Zg ?_
 refine zRd [2] [false,true,true,false,true] ?_
 exact Yi [.agg [(vI a0.Kind),.row (n+4) l17.length,.row (n+2) z10.2.length]]
theorem Zos:∀ k,(Zi2 (Qd k)):=fun k=>by
 induction k with
 | zero=>exact @fun a0 r O n h=>(nomatch (show (none:Option _)=some _ from h))
 | succ k ih=>exact @fun a0 r O n h=>Zrb (ih)  h
theorem Zdv {a0:Zb} {r:Zb} {O:Objs} {n:Nat} (h:U7 a0=some r):GTo Try.prog 31 [.agg (Zf a0)] O n (.agg (Zf r)) O n:=by
 obtain ⟨k,hk⟩:=V0 h
 exact (Zos k)  hk
attribute [local push_cast] Try.results121 Try.results16 Try.results24 Try.results49 Try.results54 Try.results7 Try.results80 Try.results81 Try.results86
def Zji (Ui:(Zb→(List Zx)→Option (Zb×Bool))):Prop:=∀ {a0:Zb} {a1:(List Zx)} {r:(Zb×Bool)} {O:Objs} {n:Nat},Ui a0 a1=some r→GTo Try.prog 24 [.agg (Zf a0),(sL Zr a1)] O n (.tup [.agg (Zf r.1),(vB r.2)]) O n
theorem Zr0 {Ui:(Zb→(List Zx)→Option (Zb×Bool))} (Zjn:Zji Ui) {a0:Zb} {a1:(List Zx)} {r:(Zb×Bool)} {O:Objs} {n:Nat} (h:V5 Ui a0 a1=some r):GTo Try.prog 24 [.agg (Zf a0),(sL Zr a1)] O n (.tup [.agg (Zf r.1),(vB r.2)]) O n:=by
 unfold V5 at h
 refine zFn Try.call24 Try.func24 fun hU hN0 hN => ?_
 show W _ _ _ _ ⟨124,[],[(0,.agg (Zf a0)),(1,(sL Zr a1))]⟩ (Zu O n []) _
 refine zQ [1,2,4] ?_
 refine Zg ?_
 refine zQ [1,2,4,11] ?_
 refine Zq (t:=((a1.length:Int) == 0)) rfl (fun c32 => ?_) (fun c32 => ?_)
 ·replace h:=Zo c32 h
  refine Zg ?_
  obtain ⟨y2,hy2,h⟩:=bC h
  refine zCd (Zdv hy2) [4,5] [false,true] ?_
  exact Yi [.agg (Zf y2),(vB true)]
 replace h:=Zn c32 h
 refine Qp [1,2,4] [true,true] ?_
 refine Zg ?_
 obtain ⟨x4,hx4,ax4,bx4,cx4,h⟩:=bE (f:=Zr) Zja (fun _=>rfl) (by decide) h
 refine Zcw [] ax4 bx4 cx4 ?_
 refine zD [1,2,4,6] [true,true,true] ?_
 refine zQD [1,2,4,6,7] [none,none,none] ?_
 refine Zg ?_
 refine zQD [1,2,4,6,7,37] [none,none,none,none,none,none,none,none] ?_
 refine Zq (t:=(cond (decide (x4.At < 0)) true (cond (a0.Kind == 1) (decide (65535≤x4.At)) false))) rfl (fun c31 => ?_) (fun c31 => ?_)
 ·replace h:=Zo c31 h
  refine Zg ?_
  refine zRd [4,5] [false,true,false] ?_
  exact Yi [.agg [(vI 0),nV,nV],(vB false)]
 replace h:=Zn c31 h
 refine Qp [1,2,4,6,7] [true,true,true] ?_
 obtain ⟨z5,hz5,h⟩:=bC h
 refine Z59 (J:=(Y6 (fun z5=>JN n (⟨124,[],[(4,.ref (n+1) 0)]⟩:Env) (Zu O n [none,some ⟨false,25,3,1,[(vI 0),nV,nV]⟩,none]) (n+3)) (fun z5=>JR n (⟨124,[],[(4,.ref (n+1) 0),(5,(vB z5.1))]⟩:Env) (Zu O n [none,some ⟨false,25,3,1,[(vI z5.2.1),(sL (eI .u64) z5.2.2.1),(sL Za z5.2.2.2)]⟩,none]) (n+3)))) (z:=z5) ?_ fun hw => ?_
 ·refine zQ [1,2,4,6,7,40] ?_
  refine Z9 ?_
  refine zQ [1,2,4,6,7,40,41] ?_
  refine Zq (t:=(x4.Kind == 0)) rfl (fun c30 => ?_) (fun c30 => ?_)
  ·replace hz5:=Zo c30 hz5
   refine Zg ?_
   refine zQ [1,2,4,6,48] ?_
   refine Zq (t:=(decide (x4.At < (a0.Kids.length:Int)))) rfl (fun c17 => ?_) (fun c17 => ?_)
   ·replace hz5:=Zo c17 hz5
    refine Zg ?_
    obtain ⟨x9,hx9,ax9,bx9,cx9,hz5⟩:=bE (f:=Za) Vh (fun _=>rfl) (by decide) hz5
    obtain ⟨l10,al10,bl10,cl10,gl10,hz5⟩:=bS (lo:=(some (.i64,1))) (hi:=none) (f:=Zr) rfl rfl Zn5 Zja (fun _=>rfl) hz5
    obtain ⟨y11,hy11,hz5⟩:=bC hz5
    refine Zgo Zz (by kernel_rfl) [false,false,false,false,false,false,false,false,false,false,false,true,false] [] (by kernel_rfl) ?_
    refine zF7 ax9 bx9 cx9 al10 bl10 cl10 gl10 ?_
    refine PCall.of (Zjn hy11) ?_
    refine zF7 ax9 bx9 cx9 al10 bl10 cl10 gl10 ?_
    refine zD [4,5] [false,true,false] ?_
    refine zW ?_
    exact Gw hz5
   replace hz5:=Zn c17 hz5
   refine Qp [1,2,4] [true,true,false] ?_
   refine zQ [1,4,62] ?_
   refine Zq (t:=(a0.Kind == 1)) rfl (fun c16 => ?_) (fun c16 => ?_)
   ·replace hz5:=Zo c16 hz5
    refine Zg ?_
    obtain ⟨l14,al14,bl14,cl14,gl14,hz5⟩:=bS (lo:=(some (.i64,1))) (hi:=none) (f:=Zr) rfl rfl Zn5 Zja (fun _=>rfl) hz5
    obtain ⟨y15,hy15,hz5⟩:=bC hz5
    refine Zms [] al14 bl14 cl14 gl14 ?_
    refine GCalls.argsW ?_ ((Zjn hy15).then ?_)
    ·exact Ykf al14 bl14 cl14 gl14
    refine zX4 al14 bl14 cl14 gl14 ?_
    refine zD [4,5] [false,true,false] ?_
    refine zW ?_
    exact Gw hz5
   replace hz5:=Zn c16 hz5
   refine zK ?_
   exact Gw hz5
  replace hz5:=Zn c30 hz5
  refine zQ [1,2,4,6,7,40,69] ?_
  refine Zq (t:=(x4.Kind == 1)) rfl (fun c29 => ?_) (fun c29 => ?_)
  ·replace hz5:=Zo c29 hz5
   refine zQD [2,4,6,78] [none,none,none] ?_
   refine Zq (t:=(cond ((a1.length:Int) == 1) (a0.Kind == 1) false)) rfl (fun c26 => ?_) (fun c26 => ?_)
   ·replace hz5:=Zo c26 hz5
    refine Zg ?_
    refine zRd [2,4,6,8] [true,true,true,true] ?_
    obtain ⟨z18,hz18,hz5⟩:=bC hz5
    refine Yp (E':=⟨124,[],[(4,.ref (n+1) 0),(8,.ref (n+3) 0)]⟩) (O':=(Zu O n [none,some ⟨false,25,3,1,[(vI 0),nV,nV]⟩,none,some ⟨false,25,3,1,[(vI 1),.row (n+5) z18.length,nV]⟩,none,some (oR 73 1 (eI .u64) z18),none])) (n0:=(n+7)) ?_ ?_
    ·obtain ⟨z20,hz20,hz18⟩:=bC hz18
     refine Yp (E':=⟨124,[],[(2,.ref n 0),(4,.ref (n+1) 0),(6,.ref (n+2) 0),(8,.ref (n+3) 0),(94,(vB z20))]⟩) (O':=(Zu O n [some ⟨false,25,3,1,(Zf a0)⟩,some ⟨false,25,3,1,[(vI 0),nV,nV]⟩,some ⟨false,54,2,1,[(vI x4.Kind),(vI x4.At)]⟩,some ⟨false,25,3,1,[(vI 1),nV,nV]⟩])) (n0:=(n+4)) ?_ ?_
     ·rcases Bool.eq_false_or_eq_true (decide (x4.At < (a0.Words.length:Int))) with c23 | c23
      ·replace hz20:=Zo c23 hz20
       obtain ⟨x22,hx22,ax22,bx22,cx22,hz20⟩:=bE (f:=(eI .u64)) Zh6 (fun _=>rfl) (by decide) hz20
       refine Zrm [some true,some true,some true,some true,some true,some true,some true] c23 ax22 bx22 cx22 ?_
       exact Ybl hz20 c23 ax22 bx22 cx22
      replace hz20:=Zn c23 hz20
      refine Jb [some false,some false,some false,some false,some false,some false,some false] c23 ?_
      exact Qm hz20 c23
     refine Zq (t:=z20) rfl (fun c25 => ?_) (fun c25 => ?_)
     ·replace hz18:=Zo c25 hz18
      obtain ⟨x24,hx24,ax24,bx24,cx24,hz18⟩:=bE (f:=(eI .u64)) Zh6 (fun _=>rfl) (by decide) hz18
      refine Zcw [] ax24 bx24 cx24 ?_
      have hz18:=Option.some.inj hz18;subst hz18
      refine And.intro rfl ?_
      refine Fit2.trans (E':=(⟨124,[],[(4,.ref (n+1) 0),(8,.ref (n+3) 0)]⟩:Env)) (O':=(Zu O n [none,some ⟨false,25,3,1,[(vI 0),nV,nV]⟩,none,some ⟨false,25,3,1,[(vI 1),.row (n+4) ([x24]:List Int).length,nV]⟩,some (oR 73 1 (eI .u64) ([x24]:List Int))])) (n':=(n+5)) (Fit2.of (Ya hU rfl rfl ?_) (by omega)) ?_
      ·exact Ykc ax24 bx24 cx24
      refine Ja (k:=5) (k':=7) hU [6,1,6,3,5] [0,1,0,3,0,4,0] rfl rfl rfl rfl ⟨rfl,rfl⟩ ?_
      exact zSe
     replace hz18:=Zn c25 hz18
     refine zK ?_
     have hz18:=Option.some.inj hz18;subst hz18
     refine And.intro rfl ?_
     refine Fit2.trans (E':=(⟨124,[],[(4,.ref (n+1) 0),(8,.ref (n+3) 0)]⟩:Env)) (O':=(Zu O n [none,some ⟨false,25,3,1,[(vI 0),nV,nV]⟩,none,some ⟨false,25,3,1,[(vI 1),nV,nV]⟩])) (n':=(n+4)) (Fit2.of (Ya hU rfl rfl ?_) (by omega)) ?_
     ·exact zSe
     refine Fit2.trans (Zco (p:=(n+3)) (k:=1) (q:=⟨false,25,3,1,[(vI 1),nV,nV]⟩) 73 1 (by simp only [Zab,Zes,List.getElem?_cons_zero,List.getElem?_cons_succ,Option.join_some,List.length_nil,Yo]) rfl (by omega)) ?_
     simp only [Xd,Yv,U3,K8,List.set_cons_zero,List.set_cons_succ,List.cons_append,List.nil_append,List.length_cons,List.length_nil,Nat.zero_add,Nat.reduceAdd,Nat.reduceLT,Nat.add_assoc]
     refine Ja (k:=5) (k':=7) hU [6,1,6,3,5] [0,1,0,3,0,4,0] rfl rfl rfl rfl ⟨rfl,rfl⟩ ?_
     exact zSe
    refine Zg ?_
    refine zRd [4,5] [false,true,false,false,false,true,false] ?_
    refine zW ?_
    exact Gw hz5
   replace hz5:=Zn c26 hz5
   refine zK ?_
   exact Gw hz5
  replace hz5:=Zn c29 hz5
  refine zQ [1,2,4,6,7,104] ?_
  refine Zq (t:=(x4.Kind == 2)) rfl (fun c28 => ?_) (fun c28 => ?_)
  ·replace hz5:=Zo c28 hz5
   refine zQD [2,4,119] [none,none,none,none,none,none,none] ?_
   refine Zq (t:=(cond (cond ((a1.length:Int) == 1) (cond (decide (2≤a0.Kind)) (decide (a0.Kind≤9)) false) false) (decide (x4.At≤(a0.Kids.length:Int))) false)) rfl (fun c27 => ?_) (fun c27 => ?_)
   ·replace hz5:=Zo c27 hz5
    refine Zg ?_
    refine zRd [4,5] [false,true,false] ?_
    refine zW ?_
    exact Gw hz5
   replace hz5:=Zn c27 hz5
   refine zK ?_
   exact Gw hz5
  replace hz5:=Zn c28 hz5
  refine zK ?_
  exact Gw hz5
 rcases z5 with z5 | z5
 ·dsimp only [Y6] at hw h
  refine Yp hw ?_
  refine Zg ?_
  refine zRd [4,5] [false,true,false] ?_
  exact Yi [.agg [(vI 0),nV,nV],(vB false)]
 dsimp only [Y6] at hw h
 refine Zzd hw ?_
 try simp only [Ym,Z4]
 exact Zgn [.agg [(vI z5.2.1),(sL (eI .u64) z5.2.2.1),(sL Za z5.2.2.2)],(vB z5.1)]
theorem Zo9:∀ k,(Zji (Vb k)):=fun k=>by
 induction k with
 | zero=>exact @fun a0 a1 r O n h=>(nomatch (show (none:Option _)=some _ from h))
 | succ k ih=>exact @fun a0 a1 r O n h=>Zr0 (ih)  h
theorem Zk8 {a0:Zb} {a1:(List Zx)} {r:(Zb×Bool)} {O:Objs} {n:Nat} (h:Zfv a0 a1=some r):GTo Try.prog 24 [.agg (Zf a0),(sL Zr a1)] O n (.tup [.agg (Zf r.1),(vB r.2)]) O n:=by
 obtain ⟨k,hk⟩:=V0 h
 exact (Zo9 k)  hk
theorem Zrv {a0:(List Int)} {a1:(List Int)} {r:Bool} {O:Objs} {n:Nat} (h:Zbz a0 a1=some r):GTo Try.prog 49 [(sL (eI .u64) a0),(sL (eI .u64) a1)] O n ((vB r)) O n:=by
 unfold Zbz at h
 refine zFn Try.call49 Try.func49 fun hU hN0 hN => ?_
 show W _ _ _ _ ⟨26,[],[(0,(sL (eI .u64) a0)),(1,(sL (eI .u64) a1))]⟩ (Zu O n []) _
 refine zQ [0,1] ?_
 refine Zg ?_
 refine zQ [0,1,10] ?_
 refine Zq (t:=((a0.length:Int) != (a1.length:Int))) rfl (fun c8 => ?_) (fun c8 => ?_)
 ·replace h:=Zo c8 h
  refine zQ [4] ?_
  exact Yi [(vB false)]
 replace h:=Zn c8 h
 refine Qp [0,1] [] ?_
 refine Zg ?_
 refine zQd [0,1,5] [0,1,5] [] ?_
 obtain ⟨z7,hz7,h⟩:=bC h
 refine K3 (J:=(Y6 (fun z7=>JR n (⟨26,[],[(4,(vB false))]⟩:Env) (Zu O n []) n) (fun z7=>JX 0 n (⟨26,[],[]⟩:Env) (Zu O n []) n))) (z:=z7) ?_ fun hw => ?_
 ·refine Y2 hz7 (fun s0_=>⟨26,[],[(0,(sL (eI .u64) a0)),(1,(sL (eI .u64) a1)),(5,(vI s0_))]⟩) (fun s0_=>(Zu O n [])) (Y6 (fun z7=>JR n (⟨26,[],[(4,(vB false))]⟩:Env) (Zu O n []) n) (fun z7=>JX 0 n (⟨26,[],[]⟩:Env) (Zu O n []) n)) ?_
  intro s0_ x0_ hs0_
  unfold Ut at hs0_
  try dsimp only
  refine Zg ?_
  refine zQ [0,1,5,14] ?_
  refine Zq (t:=(decide (s0_ < (a0.length:Int)))) rfl (fun c6 => ?_) (fun c6 => ?_)
  ·replace hs0_:=Zo c6 hs0_
   refine Qp [0,1,5] [] ?_
   refine Zg ?_
   refine Z9 ?_
   obtain ⟨x3,hx3,ax3,bx3,cx3,hs0_⟩:=bE (f:=(eI .u64)) Zh6 (fun _=>rfl) (by decide) hs0_
   obtain ⟨x4,hx4,ax4,bx4,cx4,hs0_⟩:=bE (f:=(eI .u64)) Zh6 (fun _=>rfl) (by decide) hs0_
   refine Zll [0,1,5,25] (X3 Zz (by kernel_rfl) [] (by kernel_rfl) ?_)
   refine zF6 ax3 bx3 cx3 ax4 bx4 cx4 ?_
   refine Zq (t:=(x3 != x4)) rfl (fun c5 => ?_) (fun c5 => ?_)
   ·replace hs0_:=Zo c5 hs0_
    refine zQ [4] ?_
    refine zW ?_
    exact zEy hs0_
   replace hs0_:=Zn c5 hs0_
   refine Qp [0,1,5] [] ?_
   refine zR ?_
   exact Gw hs0_
  replace hs0_:=Zn c6 hs0_
  exact zEx hs0_
 rcases z7 with z7 | z7
 ·dsimp only [Y6] at hw h
  refine X1 hw ?_
  try simp only [Ym,Z4,↓reduceIte,Nat.reduceEqDiff]
  exact Zgn [(vB false)]
 dsimp only [Y6] at hw h
 refine Yg hw ?_
 try simp only [Ym,Z4,↓reduceIte,Nat.reduceEqDiff]
 refine zD [] [] ?_
 refine zQ [4] ?_
 exact Yi [(vB true)]
def Zi3 (J5:(Zb→Zb→Option Bool)):Prop:=∀ {a0:Zb} {a1:Zb} {r:Bool} {O:Objs} {n:Nat},J5 a0 a1=some r→GTo Try.prog 16 [.agg (Zf a0),.agg (Zf a1)] O n ((vB r)) O n
theorem Zrc {J5:(Zb→Zb→Option Bool)} (Zpg:Zi3 J5) {a0:Zb} {a1:Zb} {r:Bool} {O:Objs} {n:Nat} (h:Zbq J5 a0 a1=some r):GTo Try.prog 16 [.agg (Zf a0),.agg (Zf a1)] O n ((vB r)) O n:=by
 unfold Zbq at h
 refine zFn Try.call16 Try.func16 fun hU hN0 hN => ?_
 show W _ _ _ _ ⟨47,[],[(0,.agg (Zf a0)),(1,.agg (Zf a1))]⟩ (Zu O n []) _
 refine zQ [2,3] ?_
 refine Zg ?_
 obtain ⟨z2,hz2,h⟩:=bC h
 refine Yp (E':=⟨47,[],[(2,.ref n 0),(3,.ref (n+1) 0),(27,(vB z2))]⟩) (O':=(Zu O n [some ⟨false,25,3,1,(Zf a0)⟩,some ⟨false,25,3,1,(Zf a1)⟩])) (n0:=(n+2)) ?_ ?_
 ·rcases Bool.eq_false_or_eq_true (a0.Kind != a1.Kind) with c5 | c5
  ·replace hz2:=Zo c5 hz2
   refine Jb [some false,some false,some false,some false,some false,some false,some false,some false,some false,some false,some false,some false,some false] c5 ?_
   exact Qm hz2 c5
  replace hz2:=Zn c5 hz2
  obtain ⟨y4,hy4,hz2⟩:=bC hz2
  refine Jb [some true,some true,some true,some true,some true,some true,none,none,none,none,none,none,none] c5 ?_
  refine zG ?_
  refine (Zrv hy4).then ?_
  refine zX1 c5 ?_
  refine zG ?_
  exact Qm hz2 c5
 refine Zq (t:=z2) rfl (fun c15 => ?_) (fun c15 => ?_)
 ·replace h:=Zo c15 h
  refine zQ [4] ?_
  exact Yi [(vB false)]
 replace h:=Zn c15 h
 refine Qp [2,3] [true,true] ?_
 refine Zg ?_
 refine zQd [2,3,5] [2,3,5] [true,true] ?_
 obtain ⟨z14,hz14,h⟩:=bC h
 refine K3 (J:=(Y6 (fun z14=>JR n (⟨47,[],[(4,(vB false))]⟩:Env) (Zu O n [none,none]) (n+2)) (fun z14=>JX 0 n (⟨47,[],[]⟩:Env) (Zu O n [none,none]) (n+2)))) (z:=z14) ?_ fun hw => ?_
 ·refine Y2 hz14 (fun s0_=>⟨47,[],[(2,.ref n 0),(3,.ref (n+1) 0),(5,(vI s0_))]⟩) (fun s0_=>(Zu O n [some ⟨false,25,3,1,(Zf a0)⟩,some ⟨false,25,3,1,(Zf a1)⟩])) (Y6 (fun z14=>JR n (⟨47,[],[(4,(vB false))]⟩:Env) (Zu O n [none,none]) (n+2)) (fun z14=>JX 0 n (⟨47,[],[]⟩:Env) (Zu O n [none,none]) (n+2))) ?_
  intro s0_ x0_ hs0_
  unfold Um at hs0_
  try dsimp only
  refine Zg ?_
  refine zQ [2,3,5,32] ?_
  refine Zq (t:=(decide (s0_ < (a0.Kids.length:Int)))) rfl (fun c13 => ?_) (fun c13 => ?_)
  ·replace hs0_:=Zo c13 hs0_
   refine Qp [2,3,5] [true,true] ?_
   refine Zg ?_
   refine Z9 ?_
   refine Zg ?_
   obtain ⟨x9,hx9,ax9,bx9,cx9,hs0_⟩:=bE (f:=Za) Vh (fun _=>rfl) (by decide) hs0_
   obtain ⟨x10,hx10,ax10,bx10,cx10,hs0_⟩:=bE (f:=Za) Vh (fun _=>rfl) (by decide) hs0_
   obtain ⟨y11,hy11,hs0_⟩:=bC hs0_
   refine X3 Zz (by kernel_rfl) [] (by kernel_rfl) ?_
   refine zF6 ax9 bx9 cx9 ax10 bx10 cx10 ?_
   refine PCall.of (Zpg hy11) ?_
   refine zF6 ax9 bx9 cx9 ax10 bx10 cx10 ?_
   refine zD [2,3,5,46] [true,true] ?_
   refine Zq (t:=(!y11)) rfl (fun c12 => ?_) (fun c12 => ?_)
   ·replace hs0_:=Zo c12 hs0_
    refine zQ [4] ?_
    refine zW ?_
    exact zEy hs0_
   replace hs0_:=Zn c12 hs0_
   refine Qp [2,3,5] [true,true] ?_
   refine zR ?_
   exact Gw hs0_
  replace hs0_:=Zn c13 hs0_
  exact zEx hs0_
 rcases z14 with z14 | z14
 ·dsimp only [Y6] at hw h
  refine X1 hw ?_
  try simp only [Ym,Z4,↓reduceIte,Nat.reduceEqDiff]
  exact Zgn [(vB false)]
 dsimp only [Y6] at hw h
 refine Yg hw ?_
 try simp only [Ym,Z4,↓reduceIte,Nat.reduceEqDiff]
 refine zD [] [false,false] ?_
 refine zQ [4] ?_
 exact Yi [(vB true)]
theorem Zot:∀ k,(Zi3 (Kp k)):=fun k=>by
 induction k with
 | zero=>exact @fun a0 a1 r O n h=>(nomatch (show (none:Option _)=some _ from h))
 | succ k ih=>exact @fun a0 a1 r O n h=>Zrc (ih)  h
theorem Ud {a0:Zb} {a1:Zb} {r:Bool} {O:Objs} {n:Nat} (h:U8 a0 a1=some r):GTo Try.prog 16 [.agg (Zf a0),.agg (Zf a1)] O n ((vB r)) O n:=by
 obtain ⟨k,hk⟩:=V0 h
 exact (Zot k)  hk
theorem Zq8 {a0:(List Zb)} {r:(List Zb)} {O:Objs} {n:Nat} (h:Zat a0=some r):GTo Try.prog 121 [(sL Za a0)] O n ((sL Za r)) O n:=by
 unfold Zat at h
 refine zFn Try.call121 Try.func121 fun hU hN0 hN => ?_
 show W _ _ _ _ ⟨20,[],[(0,(sL Za a0))]⟩ (Zu O n []) _
 refine zQ [0] ?_
 refine zQ [0,3] ?_
 refine Zg ?_
 refine zQd [0,3,4] [0,3,4] [] ?_
 refine Jt (E':=(⟨20,[],[(0,(sL Za a0)),(3,.row n ([]:List Zb).length),(4,(vI 0))]⟩:Env)) (O':=(Zu O n [some (oR 25 3 Za ([]:List Zb)),none])) (n':=(n+2)) ?_ ?_
 ·refine Fit2.trans (E':=(⟨20,[],[(0,(sL Za a0)),(3,nV),(4,(vI 0))]⟩:Env)) (O':=(Zu O n [])) (n':=n) (Fit2.of (Ya hU rfl rfl ?_) (by omega)) ?_
  ·exact zSe
  refine Fit2.trans (Zg8 3 25 3 rfl (by omega)) ?_
  simp only [Xd,Yv,U3,K8,List.set_cons_zero,List.set_cons_succ,List.cons_append,List.nil_append,List.length_cons,List.length_nil,Nat.zero_add,Nat.reduceAdd,Nat.reduceLT,Nat.add_assoc]
  refine Fit2.trans (E':=(⟨20,[],[(0,(sL Za a0)),(3,.row n ([]:List Zb).length),(4,(vI 0))]⟩:Env)) (O':=(Zu O n [some (oR 25 3 Za ([]:List Zb))])) (n':=(n+1)) (Fit2.of (Ya hU rfl rfl ?_) (by omega)) ?_
  ·exact zSe
  refine Ja (k:=1) (k':=2) hU [0] [0,0] rfl rfl rfl rfl ⟨rfl,rfl⟩ ?_
  exact zSe
 obtain ⟨z5,hz5,h⟩:=bC h
 refine Yg (E':=⟨20,[],[(3,.row n z5.length)]⟩) (O':=(Zu O n [some (oR 25 3 Za z5),none])) (n0:=(n+2)) ?_ ?_
 ·refine Y2 hz5 (fun s0_=>⟨20,[],[(0,(sL Za a0)),(3,.row n s0_.2.length),(4,(vI s0_.1))]⟩) (fun s0_=>(Zu O n [some (oR 25 3 Za s0_.2),none])) (fun z5=>JX 0 n (⟨20,[],[(3,.row n z5.length)]⟩:Env) (Zu O n [some (oR 25 3 Za z5),none]) (n+2)) ?_
  intro s0_ x0_ hs0_
  unfold Za1 at hs0_
  try dsimp only
  refine Zg ?_
  refine zQ [0,3,4,8] ?_
  refine Zq (t:=(decide (s0_.1 < (a0.length:Int)))) rfl (fun c4 => ?_) (fun c4 => ?_)
  ·replace hs0_:=Zo c4 hs0_
   refine Qp [0,3,4] [true,false] ?_
   refine Zg ?_
   refine Z9 ?_
   obtain ⟨x1,hx1,ax1,bx1,cx1,hs0_⟩:=bE (f:=Za) Vh (fun _=>rfl) (by decide) hs0_
   obtain ⟨y2,hy2,hs0_⟩:=bC hs0_
   obtain ⟨l3,pl3,ql3,el3,hs0_⟩:=bA (k:=1) rfl hs0_
   refine Ybo [] ax1 bx1 cx1 pl3 ql3 el3 ?_
   refine (Zdv hy2).then ?_
   refine zF6 ax1 bx1 cx1 pl3 ql3 el3 ?_
   refine Zet ⟨20,[],[(0,(sL Za a0)),(3,.row n l3.length),(4,(vI s0_.1))]⟩ (Zu O n [some (oR 25 3 Za l3),none,none]) (Ya hU rfl rfl ?_) ?_
   ·exact Yg3 ax1 bx1 cx1 pl3 ql3 el3
   refine zR ?_
   exact Gw hs0_
  replace hs0_:=Zn c4 hs0_
  exact zEx hs0_
 try simp only [Ym,Z4,↓reduceIte,Nat.reduceEqDiff]
 refine zD [3] [true,false] ?_
 refine zQ [2] ?_
 exact Yi [.row n z5.length]
theorem Zk7 {a0:(List Zh)} {a1:Int} {a2:Int} {r:((List Zb)×Int)} {O:Objs} {n:Nat} (h:G9 a0 a1 a2=some r):GTo Try.prog 80 [(sL Zd a0),(vI a1),(vI a2)] O n (.tup [(sL Za r.1),(vI r.2)]) O n:=by
 unfold G9 at h
 refine zFn Try.call80 Try.func80 fun hU hN0 hN => ?_
 show W _ _ _ _ ⟨50,[],[(0,(sL Zd a0)),(1,(vI a1)),(2,(vI a2))]⟩ (Zu O n []) _
 refine zQ [0,1,2] ?_
 refine zQ [0,1,2,8] ?_
 refine zQ [0,2,8,9] ?_
 refine Zg ?_
 refine zD [0,2,8,9] [] ?_
 refine Jt (E':=(⟨50,[],[(0,(sL Zd a0)),(2,(vI a2)),(8,.row n ([]:List Zb).length),(9,(vI a1))]⟩:Env)) (O':=(Zu O n [some (oR 25 3 Za ([]:List Zb)),none])) (n':=(n+2)) ?_ ?_
 ·refine Fit2.trans (E':=(⟨50,[],[(0,(sL Zd a0)),(2,(vI a2)),(8,nV),(9,(vI a1))]⟩:Env)) (O':=(Zu O n [])) (n':=n) (Fit2.of (Ya hU rfl rfl ?_) (by omega)) ?_
  ·exact zSe
  refine Fit2.trans (Zg8 8 25 3 rfl (by omega)) ?_
  simp only [Xd,Yv,U3,K8,List.set_cons_zero,List.set_cons_succ,List.cons_append,List.nil_append,List.length_cons,List.length_nil,Nat.zero_add,Nat.reduceAdd,Nat.reduceLT,Nat.add_assoc]
  refine Fit2.trans (E':=(⟨50,[],[(0,(sL Zd a0)),(2,(vI a2)),(8,.row n ([]:List Zb).length),(9,(vI a1))]⟩:Env)) (O':=(Zu O n [some (oR 25 3 Za ([]:List Zb))])) (n':=(n+1)) (Fit2.of (Ya hU rfl rfl ?_) (by omega)) ?_
  ·exact zSe
  refine Ja (k:=1) (k':=2) hU [0] [0,0] rfl rfl rfl rfl ⟨rfl,rfl⟩ ?_
  exact zSe
 obtain ⟨z27,hz27,h⟩:=bC h
 refine Yg (E':=⟨50,[],[(8,.row n z27.2.length),(9,(vI z27.1))]⟩) (O':=(Zu O n [some (oR 25 3 Za z27.2),none])) (n0:=(n+2)) ?_ ?_
 ·refine Y2 hz27 (fun s0_=>⟨50,[],[(0,(sL Zd a0)),(2,(vI a2)),(8,.row n s0_.2.length),(9,(vI s0_.1))]⟩) (fun s0_=>(Zu O n [some (oR 25 3 Za s0_.2),none])) (fun z27=>JX 0 n (⟨50,[],[(8,.row n z27.2.length),(9,(vI z27.1))]⟩:Env) (Zu O n [some (oR 25 3 Za z27.2),none]) (n+2)) ?_
  intro s0_ x0_ hs0_
  unfold Q5 at hs0_
  try dsimp only
  refine Zg ?_
  obtain ⟨z5,hz5,hs0_⟩:=bC hs0_
  refine Yp (E':=⟨50,[],[(0,(sL Zd a0)),(2,(vI a2)),(8,.row n s0_.2.length),(9,(vI s0_.1)),(30,(vB z5))]⟩) (O':=(Zu O n [some (oR 25 3 Za s0_.2),none])) (n0:=(n+2)) ?_ ?_
  ·rcases Bool.eq_false_or_eq_true (decide (s0_.1 < (a0.length:Int))) with c14 | c14
   ·replace hz5:=Zo c14 hz5
    obtain ⟨x10,hx10,ax10,bx10,cx10,hz5⟩:=bE (f:=Zd) Zbe (fun _=>rfl) (by decide) hz5
    have g11:=Zam (f:=Zd) (sz:=14) Zmp (fun _=>rfl) (by decide) (by decide) hx10
    rcases Bool.eq_false_or_eq_true (x10.Kind == 1) with c15 | c15
    ·replace hz5:=Zo c15 hz5
     try rw [c15] at c14
     refine Ybo [some true,some true,some true,some true,some true,some true,some true,some false,some false,some false,some false,some false,some false,some true] c14 ax10 bx10 cx10 g11 c15 ?_
     exact Yhh hz5 c14 ax10 bx10 cx10 g11 c15
    replace hz5:=Zn c15 hz5
    try rw [c15] at c14
    have g13:=Zam (f:=Zd) (sz:=14) Zmp (fun _=>rfl) (by decide) (by decide) hx10
    refine Ybp [some true,some true,some true,some true,some true,some true,some true,some true,some true,some true,some true,some true,some true,some true] c14 ax10 bx10 cx10 g11 c15 g13 ?_
    exact Ybm hz5 c14 ax10 bx10 cx10 g11 c15 g13
   replace hz5:=Zn c14 hz5
   refine Jb [some false,some false,some false,some false,some false,some false,some false,some false,some false,some false,some false,some false,some false,some false] c14 ?_
   exact Qm hz5 c14
  refine Zq (t:=z5) rfl (fun c26 => ?_) (fun c26 => ?_)
  ·replace hs0_:=Zo c26 hs0_
   refine Qp [0,2,8,9] [true,false] ?_
   refine Z9 ?_
   obtain ⟨z16,hz16,hs0_⟩:=bC hs0_
   refine Yp (E':=⟨50,[],[(0,(sL Zd a0)),(2,(vI a2)),(8,.row n z16.length),(9,(vI s0_.1))]⟩) (O':=(Zu O n [some (oR 25 3 Za z16),none])) (n0:=(n+2)) ?_ ?_
   ·obtain ⟨x19,hx19,ax19,bx19,cx19,hz16⟩:=bE (f:=Zd) Zbe (fun _=>rfl) (by decide) hz16
    have g20:=Zam (f:=Zd) (sz:=14) Zmp (fun _=>rfl) (by decide) (by decide) hx19
    refine Zll [0,2,8,9,37] (Yw Zz [] ?_)
    refine zF4 ax19 bx19 cx19 g20 ?_
    refine Zq (t:=(x19.Kind == a2)) rfl (fun c25 => ?_) (fun c25 => ?_)
    ·replace hz16:=Zo c25 hz16
     obtain ⟨x21,hx21,ax21,bx21,cx21,hz16⟩:=bE (f:=Zd) Zbe (fun _=>rfl) (by decide) hz16
     have g22:=Ks (f:=Zd) (off:=2) (sz:=14) Z1e (fun _=>rfl) (by decide) (by decide) hx21
     obtain ⟨y23,hy23,hz16⟩:=bC hz16
     obtain ⟨l24,pl24,ql24,el24,hz16⟩:=bA (k:=y23.length) rfl hz16
     refine Ybp [] ax21 bx21 cx21 g22 pl24 ql24 el24 ?_
     refine (Zq8 hy23).then ?_
     refine zF7 ax21 bx21 cx21 g22 pl24 ql24 el24 ?_
     exact Ybm hz16 ax21 bx21 cx21 g22 pl24 ql24 el24
    replace hz16:=Zn c25 hz16
    refine zK ?_
    exact Gw hz16
   refine zR ?_
   exact Gw hs0_
  replace hs0_:=Zn c26 hs0_
  exact zEx hs0_
 try simp only [Ym,Z4,↓reduceIte,Nat.reduceEqDiff]
 refine zD [8,9] [true,false] ?_
 refine zQ [6,7] ?_
 exact Yi [.row n z27.2.length,(vI z27.1)]
theorem Zry {a0:Int} {a1:Zc} {r:Bool} {O:Objs} {n:Nat} (h:Gc a0 a1=some r):GTo Try.prog 81 [(vI a0),.agg (Ze a1)] O n ((vB r)) O n:=by
 unfold Gc at h
 refine zFn Try.call81 Try.func81 fun hU hN0 hN => ?_
 show W _ _ _ _ ⟨29,[],[(0,(vI a0)),(1,.agg (Ze a1))]⟩ (Zu O n []) _
 refine zQ [0,3] ?_
 refine zQD [4] [none,none,none,none,none,none,none,none,none,none,none,none,none,none,none,none,none,none,none] ?_
 exact Yi [(vB (cond (a1.Kind == 0) true (cond (cond (cond (a1.Kind == 2) (a0 == 9) false) ((a1.Words.length:Int) == 0) false) ((a1.Kids.length:Int) == 0) false)))]
attribute [local push_cast] Try.results17 Try.results18 Try.results22 Try.results25 Try.results26 Try.results50 Try.results51 Try.results6
def Zfg (Xh:(Zc→Option Zc)):Prop:=∀ {a0:Zc} {r:Zc} {O:Objs} {n:Nat},Xh a0=some r→GTo Try.prog 18 [.agg (Ze a0)] O n (.agg (Ze r)) O n
def Zga (Q2:(Int→(List Zh)→Option (List Zh))):Prop:=∀ {a0:Int} {a1:(List Zh)} {r:(List Zh)} {O:Objs} {n:Nat},Q2 a0 a1=some r→GTo Try.prog 51 [(vI a0),(sL Zd a1)] O n ((sL Zd r)) O n
theorem Zre {Xh:(Zc→Option Zc)} {Q2:(Int→(List Zh)→Option (List Zh))} (Zb7:Zfg Xh) (Zjm:Zga Q2) {a0:Zc} {r:Zc} {O:Objs} {n:Nat} (h:Zbr Xh Q2 a0=some r):GTo Try.prog 18 [.agg (Ze a0)] O n (.agg (Ze r)) O n:=by
 unfold Zbr at h
 refine zFn Try.call18 Try.func18 fun hU hN0 hN => ?_
 show W _ _ _ _ ⟨63,[],[(0,.agg (Ze a0))]⟩ (Zu O n []) _
 refine zQ [1,2] ?_
 refine Zg ?_
 refine zQ [1,2,6] ?_
 refine Z9 ?_
 refine zQ [1,2,6,7] ?_
 refine Zq (t:=(a0.Kind == 1)) rfl (fun c19 => ?_) (fun c19 => ?_)
 ·replace h:=Zo c19 h
  refine Zg ?_
  obtain ⟨y3,hy3,h⟩:=bC h
  obtain ⟨y4,hy4,h⟩:=bC h
  refine Zgo Zz (by kernel_rfl) [false,false,false,false,false,false,false,true] [] (by kernel_rfl) ?_
  refine zS ?_
  refine PCall.of (Zdv hy3) ?_
  refine zS ?_
  refine PCall.of (Zdv hy4) ?_
  refine zS ?_
  refine zD [2] [false,true] ?_
  exact Yi [.agg [(vI 1),(vI y3.Kind),(sL (eI .u64) y3.Words),(sL Za y3.Kids),(vI y4.Kind),(sL (eI .u64) y4.Words),(sL Za y4.Kids),nV,nV,(vI 0),nV]]
 replace h:=Zn c19 h
 refine zQ [1,2,6,16] ?_
 refine Zq (t:=(a0.Kind == 2)) rfl (fun c18 => ?_) (fun c18 => ?_)
 ·replace h:=Zo c18 h
  refine Zg ?_
  refine zRd [1,2,3] [true,true,true] ?_
  refine Zg ?_
  obtain ⟨l6,pl6,ql6,el6,h⟩:=bA0 (k:=a0.Words.length) rfl h
  refine Zbf [] pl6 ql6 el6 ?_
  refine Zet ⟨63,[],[(1,.ref n 0),(2,.ref (n+1) 0),(3,.ref (n+2) 0)]⟩ (Zu O n [some ⟨false,30,11,1,(Ze a0)⟩,some ⟨false,30,11,1,[(vI 0),(vI 0),nV,nV,(vI 0),nV,nV,nV,nV,(vI 0),nV]⟩,some ⟨false,30,11,1,[(vI 2),(vI 0),nV,nV,(vI 0),nV,nV,.row (n+3) l6.length,nV,(vI 0),nV]⟩,some (oR 82 4 Zl l6)]) (Ya hU rfl rfl ?_) ?_
  ·exact Z16 pl6 ql6 el6
  refine Zg ?_
  refine zQd [1,2,3,4] [1,2,3,4] [true,true,true,true] ?_
  refine Jt (E':=(⟨63,[],[(1,.ref n 0),(2,.ref (n+1) 0),(3,.ref (n+2) 0),(4,(vI 0))]⟩:Env)) (O':=(Zu O n [some ⟨false,30,11,1,(Ze a0)⟩,some ⟨false,30,11,1,[(vI 0),(vI 0),nV,nV,(vI 0),nV,nV,nV,nV,(vI 0),nV]⟩,some ⟨false,30,11,1,[(vI 2),(vI 0),nV,nV,(vI 0),nV,nV,.row (n+3) l6.length,.row (n+4) ([]:List Zk).length,(vI 0),nV]⟩,some (oR 82 4 Zl l6),some (oR 84 12 Zi ([]:List Zk)),none])) (n':=(n+6)) ?_ ?_
  ·refine Fit2.trans (E':=(⟨63,[],[(1,.ref n 0),(2,.ref (n+1) 0),(3,.ref (n+2) 0),(4,(vI 0))]⟩:Env)) (O':=(Zu O n [some ⟨false,30,11,1,(Ze a0)⟩,some ⟨false,30,11,1,[(vI 0),(vI 0),nV,nV,(vI 0),nV,nV,nV,nV,(vI 0),nV]⟩,some ⟨false,30,11,1,[(vI 2),(vI 0),nV,nV,(vI 0),nV,nV,.row (n+3) l6.length,nV,(vI 0),nV]⟩,some (oR 82 4 Zl l6)])) (n':=(n+4)) (Fit2.of (Ya hU rfl rfl ?_) (by omega)) ?_
   ·exact zSe
   refine Fit2.trans (Zco (p:=(n+2)) (k:=8) (q:=⟨false,30,11,1,[(vI 2),(vI 0),nV,nV,(vI 0),nV,nV,.row (n+3) l6.length,nV,(vI 0),nV]⟩) 84 12 (by simp only [Zab,Zes,List.getElem?_cons_zero,List.getElem?_cons_succ,Option.join_some,List.length_nil,Yo]) rfl (by omega)) ?_
   simp only [Xd,Yv,U3,K8,List.set_cons_zero,List.set_cons_succ,List.cons_append,List.nil_append,List.length_cons,List.length_nil,Nat.zero_add,Nat.reduceAdd,Nat.reduceLT,Nat.add_assoc]
   refine Ja (k:=5) (k':=6) hU [0,1,2,3,4] [0,1,2,3,4,0] rfl rfl rfl rfl ⟨rfl,rfl⟩ ?_
   exact zSe
  obtain ⟨z14,hz14,h⟩:=bC h
  refine Yg (E':=⟨63,[],[(2,.ref (n+1) 0),(3,.ref (n+2) 0)]⟩) (O':=(Zu O n [none,some ⟨false,30,11,1,[(vI 0),(vI 0),nV,nV,(vI 0),nV,nV,nV,nV,(vI 0),nV]⟩,some ⟨false,30,11,1,[(vI 2),(vI 0),nV,nV,(vI 0),nV,nV,.row (n+3) l6.length,.row (n+4) z14.length,(vI 0),nV]⟩,some (oR 82 4 Zl l6),some (oR 84 12 Zi z14),none])) (n0:=(n+6)) ?_ ?_
  ·refine Y2 hz14 (fun s0_=>⟨63,[],[(1,.ref n 0),(2,.ref (n+1) 0),(3,.ref (n+2) 0),(4,(vI s0_.1))]⟩) (fun s0_=>(Zu O n [some ⟨false,30,11,1,(Ze a0)⟩,some ⟨false,30,11,1,[(vI 0),(vI 0),nV,nV,(vI 0),nV,nV,nV,nV,(vI 0),nV]⟩,some ⟨false,30,11,1,[(vI 2),(vI 0),nV,nV,(vI 0),nV,nV,.row (n+3) l6.length,.row (n+4) s0_.2.length,(vI 0),nV]⟩,some (oR 82 4 Zl l6),some (oR 84 12 Zi s0_.2),none])) (fun z14=>JX 1 n (⟨63,[],[(2,.ref (n+1) 0),(3,.ref (n+2) 0)]⟩:Env) (Zu O n [none,some ⟨false,30,11,1,[(vI 0),(vI 0),nV,nV,(vI 0),nV,nV,nV,nV,(vI 0),nV]⟩,some ⟨false,30,11,1,[(vI 2),(vI 0),nV,nV,(vI 0),nV,nV,.row (n+3) l6.length,.row (n+4) z14.length,(vI 0),nV]⟩,some (oR 82 4 Zl l6),some (oR 84 12 Zi z14),none]) (n+6)) ?_
   intro s0_ x0_ hs0_
   unfold Un at hs0_
   try dsimp only
   refine Zg ?_
   refine zQ [1,2,3,4,29] ?_
   refine Zq (t:=(decide (s0_.1 < (a0.Kids.length:Int)))) rfl (fun c13 => ?_) (fun c13 => ?_)
   ·replace hs0_:=Zo c13 hs0_
    refine Qp [1,2,3,4] [true,true,true,true,true,false] ?_
    refine Zg ?_
    refine Z9 ?_
    obtain ⟨x7,hx7,ax7,bx7,cx7,hs0_⟩:=bE (f:=Zi) Zkq (fun _=>rfl) (by decide) hs0_
    have g8:=Zam (f:=Zi) (sz:=12) Zmp (fun _=>rfl) (by decide) (by decide) hx7
    have g10:=Ks (f:=Zi) (off:=1) (sz:=12) Zmq (fun _=>rfl) (by decide) (by decide) hx7
    obtain ⟨y11,hy11,hs0_⟩:=bC hs0_
    obtain ⟨l12,pl12,ql12,el12,hs0_⟩:=bA (k:=1) rfl hs0_
    refine Vt Zz (by kernel_rfl) [.low,.low,.plain,.plain,.plain,.plain,.plain,.plain,.plain,.plain,.plain,.plain,.plain,.plain,.plain,.plain,.pass,.bar,.plain,.bar] (fun i=>i < (n+6)) [0,1,2,3,4,5,6,7,8,9,10,11,12,13,14,15,16,17,18,19] [.low,.low,.plain,.plain,.plain,.plain,.plain,.plain,.plain,.plain,.plain,.plain,.plain,.plain,.plain,.plain,.pass,.bar,.plain,.bar] [] (by kernel_rfl) rfl ?_
    refine zF8 ax7 bx7 cx7 g8 g10 pl12 ql12 el12 ?_
    refine zO ?_
    first | refine PCallA.of (fun _ _=>Zb7 hy11) ?_ | refine PCall.of (Zb7 hy11) ?_
    refine zF8 ax7 bx7 cx7 g8 g10 pl12 ql12 el12 ?_
    refine zO ?_
    refine Zet ⟨63,[],[(1,.ref n 0),(2,.ref (n+1) 0),(3,.ref (n+2) 0),(4,(vI s0_.1))]⟩ (Zu O n [some ⟨false,30,11,1,(Ze a0)⟩,some ⟨false,30,11,1,[(vI 0),(vI 0),nV,nV,(vI 0),nV,nV,nV,nV,(vI 0),nV]⟩,some ⟨false,30,11,1,[(vI 2),(vI 0),nV,nV,(vI 0),nV,nV,.row (n+3) l6.length,.row (n+4) l12.length,(vI 0),nV]⟩,some (oR 82 4 Zl l6),some (oR 84 12 Zi l12),none,none]) (Ya hU rfl rfl ?_) ?_
    ·exact Ylp ax7 bx7 cx7 g8 g10 pl12 ql12 el12
    refine zR ?_
    exact Gw hs0_
   replace hs0_:=Zn c13 hs0_
   exact zEx hs0_
  try simp only [Ym,Z4,↓reduceIte,Nat.reduceEqDiff]
  refine zDs [2,3] [false,true,true,true,true,false] ?_
  refine zRd [2] [false,true,false,true,true,false] ?_
  exact Yi [.agg [(vI 2),(vI 0),nV,nV,(vI 0),nV,nV,.row (n+3) l6.length,.row (n+4) z14.length,(vI 0),nV]]
 replace h:=Zn c18 h
 refine zQ [1,2,52] ?_
 refine Zq (t:=(a0.Kind == 3)) rfl (fun c17 => ?_) (fun c17 => ?_)
 ·replace h:=Zo c17 h
  refine Zg ?_
  obtain ⟨y16,hy16,h⟩:=bC h
  refine Zgo Zz (by kernel_rfl) [false,false,false,false,false,false,false,false,true] [] (by kernel_rfl) ?_
  refine zS ?_
  refine PCall.of (Zjm hy16) ?_
  refine zS ?_
  refine zD [2] [false,true] ?_
  exact Yi [.agg [(vI 3),(vI 0),nV,nV,(vI 0),nV,nV,nV,nV,(vI a0.List_),(sL Zd y16)]]
 replace h:=Zn c17 h
 refine Qp [2] [false,true] ?_
 refine Zg ?_
 refine zRd [2] [false,true] ?_
 exact Yi [.agg [(vI 0),(vI 0),nV,nV,(vI 0),nV,nV,nV,nV,(vI 0),nV]]
theorem Zrz {Xh:(Zc→Option Zc)} {Q2:(Int→(List Zh)→Option (List Zh))} (Zb7:Zfg Xh) (Zjm:Zga Q2) {a0:Int} {a1:(List Zh)} {r:(List Zh)} {O:Objs} {n:Nat} (h:G5 Xh Q2 a0 a1=some r):GTo Try.prog 51 [(vI a0),(sL Zd a1)] O n ((sL Zd r)) O n:=by
 unfold G5 at h
 refine zFn Try.call51 Try.func51 fun hU hN0 hN => ?_
 show W _ _ _ _ ⟨114,[],[(0,(vI a0)),(1,(sL Zd a1))]⟩ (Zu O n []) _
 refine zQ [0,1] ?_
 refine zQ [0,1,5] ?_
 refine Zg ?_
 refine zQd [0,1,5,6] [0,1,5,6] [] ?_
 refine Jt (E':=(⟨114,[],[(0,(vI a0)),(1,(sL Zd a1)),(5,.row n ([]:List Zh).length),(6,(vI 0))]⟩:Env)) (O':=(Zu O n [some (oR 75 14 Zd ([]:List Zh)),none])) (n':=(n+2)) ?_ ?_
 ·refine Fit2.trans (E':=(⟨114,[],[(0,(vI a0)),(1,(sL Zd a1)),(5,nV),(6,(vI 0))]⟩:Env)) (O':=(Zu O n [])) (n':=n) (Fit2.of (Ya hU rfl rfl ?_) (by omega)) ?_
  ·exact zSe
  refine Fit2.trans (Zg8 5 75 14 rfl (by omega)) ?_
  simp only [Xd,Yv,U3,K8,List.set_cons_zero,List.set_cons_succ,List.cons_append,List.nil_append,List.length_cons,List.length_nil,Nat.zero_add,Nat.reduceAdd,Nat.reduceLT,Nat.add_assoc]
  refine Fit2.trans (E':=(⟨114,[],[(0,(vI a0)),(1,(sL Zd a1)),(5,.row n ([]:List Zh).length),(6,(vI 0))]⟩:Env)) (O':=(Zu O n [some (oR 75 14 Zd ([]:List Zh))])) (n':=(n+1)) (Fit2.of (Ya hU rfl rfl ?_) (by omega)) ?_
  ·exact zSe
  refine Ja (k:=1) (k':=2) hU [0] [0,0] rfl rfl rfl rfl ⟨rfl,rfl⟩ ?_
  exact zSe
 obtain ⟨z48,hz48,h⟩:=bC h
 refine K3 (J:=(Y6 (fun z48=>JR n (⟨114,[],[(4,(sL Zd z48))]⟩:Env) (Zu O n []) n) (fun z48=>JX 0 n (⟨114,[],[(5,.row n z48.length)]⟩:Env) (Zu O n [some (oR 75 14 Zd z48),none]) (n+2)))) (z:=z48) ?_ fun hw => ?_
 ·refine Y2 hz48 (fun s0_=>⟨114,[],[(0,(vI a0)),(1,(sL Zd a1)),(5,.row n s0_.2.length),(6,(vI s0_.1))]⟩) (fun s0_=>(Zu O n [some (oR 75 14 Zd s0_.2),none])) (Y6 (fun z48=>JR n (⟨114,[],[(4,(sL Zd z48))]⟩:Env) (Zu O n []) n) (fun z48=>JX 0 n (⟨114,[],[(5,.row n z48.length)]⟩:Env) (Zu O n [some (oR 75 14 Zd z48),none]) (n+2))) ?_
  intro s0_ x0_ hs0_
  unfold Xy at hs0_
  try dsimp only
  refine Zg ?_
  refine zQ [0,1,5,6,16] ?_
  refine Zq (t:=(decide (s0_.1 < (a1.length:Int)))) rfl (fun c47 => ?_) (fun c47 => ?_)
  ·replace hs0_:=Zo c47 hs0_
   refine Qp [0,1,5,6] [true,false] ?_
   obtain ⟨z1,hz1,hs0_⟩:=bC hs0_
   refine Z59 (J:=(Y6 (fun z1=>JN n (⟨114,[],[(0,(vI a0)),(1,(sL Zd a1)),(5,.row n z1.2.length),(6,(vI z1.1))]⟩:Env) (Zu O n [some (oR 75 14 Zd z1.2),none,none,none,none,none]) (n+6)) (fun z1=>JR n (⟨114,[],[(4,.row n z1.length)]⟩:Env) (Zu O n [some (oR 75 14 Zd z1),none]) (n+2)))) (z:=z1) ?_ fun hw => ?_
   ·refine Z9 ?_
    refine Zg ?_
    obtain ⟨y3,hy3,hz1⟩:=bC hz1
    refine zCd (Zk7 hy3) [0,1,5,6,7,8] [true,false] ?_
    refine Zg ?_
    obtain ⟨y5,hy5,hz1⟩:=bC hz1
    refine zCd (Zk7 hy5) [0,1,5,7,8,9] [true,false] ?_
    obtain ⟨z6,hz6,hz1⟩:=bC hz1
    refine Yp (E':=⟨114,[],[(0,(vI a0)),(1,(sL Zd a1)),(5,.row n z6.length),(8,(vI y3.2)),(9,(sL Za y5.1))]⟩) (O':=(Zu O n [some (oR 75 14 Zd z6),none,none])) (n0:=(n+3)) ?_ ?_
    ·refine zQ [0,1,5,7,8,9,33] ?_
     refine Zq (t:=(decide (0 < (y3.1.length:Int)))) rfl (fun c8 => ?_) (fun c8 => ?_)
     ·replace hz6:=Zo c8 hz6
      obtain ⟨l7,pl7,ql7,el7,hz6⟩:=bA (k:=1) rfl hz6
      refine Zbf [] pl7 ql7 el7 ?_
      exact Zej hz6 pl7 ql7 el7
     replace hz6:=Zn c8 hz6
     refine zK ?_
     exact Gw hz6
    obtain ⟨z9,hz9,hz1⟩:=bC hz1
    refine Yp (E':=⟨114,[],[(0,(vI a0)),(1,(sL Zd a1)),(5,.row n z9.length),(8,(vI y3.2))]⟩) (O':=(Zu O n [some (oR 75 14 Zd z9),none,none,none])) (n0:=(n+4)) ?_ ?_
    ·refine zQ [0,1,5,8,9,41] ?_
     refine Zq (t:=(decide (0 < (y5.1.length:Int)))) rfl (fun c11 => ?_) (fun c11 => ?_)
     ·replace hz9:=Zo c11 hz9
      obtain ⟨l10,pl10,ql10,el10,hz9⟩:=bA (k:=1) rfl hz9
      refine Zbf [] pl10 ql10 el10 ?_
      exact Zej hz9 pl10 ql10 el10
     replace hz9:=Zn c11 hz9
     refine zK ?_
     exact Gw hz9
    refine zQ [0,1,5,6] ?_
    refine Zg ?_
    refine zQ [0,1,5,6,51] ?_
    refine Zq (t:=(decide ((a1.length:Int)≤y3.2))) rfl (fun c46 => ?_) (fun c46 => ?_)
    ·replace hz1:=Zo c46 hz1
     refine zQ [4] ?_
     refine zW ?_
     exact Gw hz1
    replace hz1:=Zn c46 hz1
    refine Qp [0,1,5,6] [true,false,false,false] ?_
    refine Zg ?_
    obtain ⟨x14,hx14,ax14,bx14,cx14,hz1⟩:=bE (f:=Zd) Zbe (fun _=>rfl) (by decide) hz1
    have g15:=Ks (f:=Zd) (off:=1) (sz:=14) Zmp (fun _=>rfl) (by decide) (by decide) hx14
    refine Zrm [] ax14 bx14 cx14 g15 ?_
    refine zD [0,1,5,6,11] [true,false,false,false,true] ?_
    obtain ⟨z16,hz16,hz1⟩:=bC hz1
    refine Yp (E':=⟨114,[],[(0,(vI a0)),(1,(sL Zd a1)),(5,.row n z9.length),(6,(vI y3.2)),(11,.ref (n+4) 0)]⟩) (O':=(Zu O n [some (oR 75 14 Zd z9),none,none,none,some ⟨false,75,14,1,[(vI z16.1),(vI z16.2.1),nV,(vI z16.2.2.1),(vI z16.2.2.2.1),(sL (eI .u64) z16.2.2.2.2.1),(sL Za z16.2.2.2.2.2.1),(vI z16.2.2.2.2.2.2.1),(sL (eI .u64) z16.2.2.2.2.2.2.2.1),(sL Za z16.2.2.2.2.2.2.2.2.1),(sL Zl z16.2.2.2.2.2.2.2.2.2.1),(sL Zi z16.2.2.2.2.2.2.2.2.2.2.1),(vI z16.2.2.2.2.2.2.2.2.2.2.2.1),(sL Zd z16.2.2.2.2.2.2.2.2.2.2.2.2)]⟩])) (n0:=(n+5)) ?_ ?_
    ·obtain ⟨x19,hx19,ax19,bx19,cx19,hz16⟩:=bE (f:=Zd) Zbe (fun _=>rfl) (by decide) hz16
     have g20:=Zam (f:=Zd) (sz:=14) Zmp (fun _=>rfl) (by decide) (by decide) hx19
     refine Zll [0,1,5,6,11,64] (Yw Zz [] ?_)
     refine zF4 ax19 bx19 cx19 g20 ?_
     refine Zq (t:=(x19.Kind == 3)) rfl (fun c30 => ?_) (fun c30 => ?_)
     ·replace hz16:=Zo c30 hz16
      refine Zg ?_
      obtain ⟨x24,hx24,ax24,bx24,cx24,hz16⟩:=bE (f:=Zd) Zbe (fun _=>rfl) (by decide) hz16
      have g25:=Ks (f:=Zd) (off:=3) (sz:=14) Zmq (fun _=>rfl) (by decide) (by decide) hx24
      obtain ⟨y26,hy26,hz16⟩:=bC hz16
      refine Zrm [] ax24 bx24 cx24 g25 ?_
      refine (Zb7 hy26).then ?_
      refine zF4 ax24 bx24 cx24 g25 ?_
      refine zDs [0,1,5,6,11] [true,false,false,false,true] ?_
      obtain ⟨y28,hy28,hz16⟩:=bC hz16
      refine zCd (Zry hy28) [0,1,5,6,11,75] [true,false,false,false,true] ?_
      refine Zq (t:=y28) rfl (fun c29 => ?_) (fun c29 => ?_)
      ·replace hz16:=Zo c29 hz16
       refine zR ?_
       exact Gw hz16
      replace hz16:=Zn c29 hz16
      refine zK ?_
      exact Gw hz16
     replace hz16:=Zn c30 hz16
     refine zK ?_
     exact Gw hz16
    refine zQ [0,1,5,6,11,12] ?_
    obtain ⟨z33,hz33,hz1⟩:=bC hz1
    refine Yp (E':=⟨114,[],[(0,(vI a0)),(1,(sL Zd a1)),(5,.row n z9.length),(6,(vI y3.2)),(11,.ref (n+4) 0),(12,(vI (z9.length:Int))),(94,(vB z33))]⟩) (O':=(Zu O n [some (oR 75 14 Zd z9),none,none,none,some ⟨false,75,14,1,[(vI z16.1),(vI z16.2.1),nV,(vI z16.2.2.1),(vI z16.2.2.2.1),(sL (eI .u64) z16.2.2.2.2.1),(sL Za z16.2.2.2.2.2.1),(vI z16.2.2.2.2.2.2.1),(sL (eI .u64) z16.2.2.2.2.2.2.2.1),(sL Za z16.2.2.2.2.2.2.2.2.1),(sL Zl z16.2.2.2.2.2.2.2.2.2.1),(sL Zi z16.2.2.2.2.2.2.2.2.2.2.1),(vI z16.2.2.2.2.2.2.2.2.2.2.2.1),(sL Zd z16.2.2.2.2.2.2.2.2.2.2.2.2)]⟩])) (n0:=(n+5)) ?_ ?_
    ·rcases Bool.eq_false_or_eq_true (z16.1 == 0) with c38 | c38
     ·replace hz33:=Zo c38 hz33
      rcases Bool.eq_false_or_eq_true (decide (0 < (z9.length:Int))) with c39 | c39
      ·replace hz33:=Zo c39 hz33
       try rw [c39] at c38
       obtain ⟨x36,hx36,ax36,bx36,cx36,hz33⟩:=bE (f:=Zd) Zbe (fun _=>rfl) (by decide) hz33
       have g37:=Zam (f:=Zd) (sz:=14) Zmp (fun _=>rfl) (by decide) (by decide) hx36
       refine Ybo [none,none,some true,some true,some true,some true,some true,some true,some true] c38 c39 ax36 bx36 cx36 g37 ?_
       refine zG ?_
       exact Yhh hz33 c38 c39 ax36 bx36 cx36 g37
      replace hz33:=Zn c39 hz33
      try rw [c39] at c38
      refine Jn [none,none,some false,some false,some false,some false,some false,some false,some false] c38 c39 ?_
      refine zG ?_
      exact U2 hz33 c38 c39
     replace hz33:=Zn c38 hz33
     refine Jb [none,none,some false,some false,some false,some false,some false,some false,some false] c38 ?_
     refine zG ?_
     exact Qm hz33 c38
    refine Zq (t:=z33) rfl (fun c45 => ?_) (fun c45 => ?_)
    ·replace hz1:=Zo c45 hz1
     obtain ⟨x40,hx40,ax40,bx40,cx40,hz1⟩:=bE (f:=Zd) Zbe (fun _=>rfl) (by decide) hz1
     have g41:=Ks (f:=Zd) (off:=1) (sz:=14) Zmp (fun _=>rfl) (by decide) (by decide) hx40
     have gu43:Ke (fl Zd z9) [.val (.int .i64 (IntKind.i64.wrap (x40.N+z16.2.1)))] (Int.toNat (IntKind.i64.wrap ((z9.length:Int) - 1)) * 14+1)=some (fl Zd (Zf0 z9 (IntKind.i64.wrap ((z9.length:Int) - 1)) (⟨x40.Kind,(IntKind.i64.wrap (x40.N+z16.2.1)),x40.L,x40.E⟩:Zh))):=Z8j (f:=Zd) (sz:=14) (fun _=>rfl) (Nat.le_of_ble_eq_true rfl) hx40 (by simp only [Zd,Xv,Za,Yr,Qh,Xn,Zl,Zi,Y4,eI,eB,eS,eL,List.take_zero,List.take_succ_cons,List.drop_zero,List.drop_succ_cons,List.cons_append,List.nil_append,List.length_cons,List.length_nil,Nat.zero_add,Nat.reduceAdd])
     refine Zgo Zz (by kernel_rfl) [false,false,false,false,false,false,false,false,false,false,false,false,false,false,true] [] (by kernel_rfl) ?_
     refine zF5 ax40 bx40 cx40 g41 gu43 ?_
     exact Yfa hz1 ax40 bx40 cx40 g41 gu43
    replace hz1:=Zn c45 hz1
    obtain ⟨l44,pl44,ql44,el44,hz1⟩:=bA (k:=1) rfl hz1
    refine Zbf [] pl44 ql44 el44 ?_
    exact Zej hz1 pl44 ql44 el44
   rcases z1 with z1 | z1
   ·dsimp only [Y6] at hw hs0_
    refine Yp hw ?_
    refine zR ?_
    exact Gw hs0_
   dsimp only [Y6] at hw hs0_
   refine Zzd hw ?_
   try simp only [Ym,Z4]
   exact zEy hs0_
  replace hs0_:=Zn c47 hs0_
  exact zEx hs0_
 rcases z48 with z48 | z48
 ·dsimp only [Y6] at hw h
  refine X1 hw ?_
  try simp only [Ym,Z4,↓reduceIte,Nat.reduceEqDiff]
  exact Zgn [(sL Zd z48)]
 dsimp only [Y6] at hw h
 refine Yg hw ?_
 try simp only [Ym,Z4,↓reduceIte,Nat.reduceEqDiff]
 refine zD [5] [true,false] ?_
 refine zQ [4] ?_
 exact Yi [.row n z48.length]
theorem Zov:∀ k,(Zfg ((Xg k).1))∧(Zga ((Xg k).2)):=fun k=>by
 induction k with
 | zero=>exact ⟨@fun a0 r O n h=>(nomatch (show (none:Option _)=some _ from h)),@fun a0 a1 r O n h=>(nomatch (show (none:Option _)=some _ from h))⟩
 | succ k ih=>exact ⟨@fun a0 r O n h=>Zre (ih.1) (ih.2)  h,@fun a0 a1 r O n h=>Zrz (ih.1) (ih.2)  h⟩
theorem Zka {a0:Zc} {r:Zc} {O:Objs} {n:Nat} (h:Ga a0=some r):GTo Try.prog 18 [.agg (Ze a0)] O n (.agg (Ze r)) O n:=by
 obtain ⟨k,hk⟩:=V0 h
 exact (Zov k).1  hk
theorem Zhc {a0:(List Zb)} {a1:(List Zb)} {r:Bool} {O:Objs} {n:Nat} (h:Vc a0 a1=some r):GTo Try.prog 50 [(sL Za a0),(sL Za a1)] O n ((vB r)) O n:=by
 unfold Vc at h
 refine zFn Try.call50 Try.func50 fun hU hN0 hN => ?_
 show W _ _ _ _ ⟨27,[],[(0,(sL Za a0)),(1,(sL Za a1))]⟩ (Zu O n []) _
 refine zQ [0,1] ?_
 refine Zg ?_
 refine zQ [0,1,10] ?_
 refine Zq (t:=((a0.length:Int) != (a1.length:Int))) rfl (fun c10 => ?_) (fun c10 => ?_)
 ·replace h:=Zo c10 h
  refine zQ [4] ?_
  exact Yi [(vB false)]
 replace h:=Zn c10 h
 refine Qp [0,1] [] ?_
 refine Zg ?_
 refine zQd [0,1,5] [0,1,5] [] ?_
 obtain ⟨z9,hz9,h⟩:=bC h
 refine K3 (J:=(Y6 (fun z9=>JR n (⟨27,[],[(4,(vB false))]⟩:Env) (Zu O n []) n) (fun z9=>JX 0 n (⟨27,[],[]⟩:Env) (Zu O n []) n))) (z:=z9) ?_ fun hw => ?_
 ·refine Y2 hz9 (fun s0_=>⟨27,[],[(0,(sL Za a0)),(1,(sL Za a1)),(5,(vI s0_))]⟩) (fun s0_=>(Zu O n [])) (Y6 (fun z9=>JR n (⟨27,[],[(4,(vB false))]⟩:Env) (Zu O n []) n) (fun z9=>JX 0 n (⟨27,[],[]⟩:Env) (Zu O n []) n)) ?_
  intro s0_ x0_ hs0_
  unfold Vu at hs0_
  try dsimp only
  refine Zg ?_
  refine zQ [0,1,5,14] ?_
  refine Zq (t:=(decide (s0_ < (a0.length:Int)))) rfl (fun c8 => ?_) (fun c8 => ?_)
  ·replace hs0_:=Zo c8 hs0_
   refine Qp [0,1,5] [] ?_
   refine Zg ?_
   refine Z9 ?_
   refine Zg ?_
   obtain ⟨x4,hx4,ax4,bx4,cx4,hs0_⟩:=bE (f:=Za) Vh (fun _=>rfl) (by decide) hs0_
   obtain ⟨x5,hx5,ax5,bx5,cx5,hs0_⟩:=bE (f:=Za) Vh (fun _=>rfl) (by decide) hs0_
   obtain ⟨y6,hy6,hs0_⟩:=bC hs0_
   refine X3 Zz (by kernel_rfl) [] (by kernel_rfl) ?_
   refine zF6 ax4 bx4 cx4 ax5 bx5 cx5 ?_
   refine PCall.of (Ud hy6) ?_
   refine zF6 ax4 bx4 cx4 ax5 bx5 cx5 ?_
   refine zD [0,1,5,26] [] ?_
   refine Zq (t:=(!y6)) rfl (fun c7 => ?_) (fun c7 => ?_)
   ·replace hs0_:=Zo c7 hs0_
    refine zQ [4] ?_
    refine zW ?_
    exact zEy hs0_
   replace hs0_:=Zn c7 hs0_
   refine Qp [0,1,5] [] ?_
   refine zR ?_
   exact Gw hs0_
  replace hs0_:=Zn c8 hs0_
  exact zEx hs0_
 rcases z9 with z9 | z9
 ·dsimp only [Y6] at hw h
  refine X1 hw ?_
  try simp only [Ym,Z4,↓reduceIte,Nat.reduceEqDiff]
  exact Zgn [(vB false)]
 dsimp only [Y6] at hw h
 refine Yg hw ?_
 try simp only [Ym,Z4,↓reduceIte,Nat.reduceEqDiff]
 refine zD [] [] ?_
 refine zQ [4] ?_
 exact Yi [(vB true)]
def Zi5 (Qc:(Zc→Zc→Option Bool)):Prop:=∀ {a0:Zc} {a1:Zc} {r:Bool} {O:Objs} {n:Nat},Qc a0 a1=some r→GTo Try.prog 17 [.agg (Ze a0),.agg (Ze a1)] O n ((vB r)) O n
theorem Zrf {Qc:(Zc→Zc→Option Bool)} (Zi7:Zi5 Qc) {a0:Zc} {a1:Zc} {r:Bool} {O:Objs} {n:Nat} (h:Zbs Qc a0 a1=some r):GTo Try.prog 17 [.agg (Ze a0),.agg (Ze a1)] O n ((vB r)) O n:=by
 unfold Zbs at h
 refine zFn Try.call17 Try.func17 fun hU hN0 hN => ?_
 show W _ _ _ _ ⟨164,[],[(0,.agg (Ze a0)),(1,.agg (Ze a1))]⟩ (Zu O n []) _
 refine zQ [2,3] ?_
 refine Zg ?_
 obtain ⟨z3,hz3,h⟩:=bC h
 refine Yp (E':=⟨164,[],[(2,.ref n 0),(3,.ref (n+1) 0),(64,(vB z3))]⟩) (O':=(Zu O n [some ⟨false,30,11,1,(Ze a0)⟩,some ⟨false,30,11,1,(Ze a1)⟩])) (n0:=(n+2)) ?_ ?_
 ·rcases Bool.eq_false_or_eq_true (a0.Kind != a1.Kind) with c8 | c8
  ·replace hz3:=Zo c8 hz3
   refine Jb [none,none,none,none,none,some false,some false,some false,some false,some false,some false,some false,some false,some false,some false,some false,some false,some false,some false,some false,some false,some false,some false,some false,some false,some false,some false,some false,some false,some false,some false,some false,some false,some false,some false,some false,some false,some false] c8 ?_
   refine zG ?_
   exact Qm hz3 c8
  replace hz3:=Zn c8 hz3
  rcases Bool.eq_false_or_eq_true (a0.List_ != a1.List_) with c9 | c9
  ·replace hz3:=Zo c9 hz3
   try rw [c9] at c8
   refine Jn [none,none,none,none,none,some false,some false,some false,some false,some false,some false,some false,some false,some false,some false,some false,some false,some false,some false,some false,some false,some false,some false,some false,some false,some false,some false,some false,some false,some false,some false,some false,some false,some false,some false,some false,some false,some false] c8 c9 ?_
   refine zG ?_
   exact U2 hz3 c8 c9
  replace hz3:=Zn c9 hz3
  try rw [c9] at c8
  obtain ⟨y6,hy6,hz3⟩:=bC hz3
  rcases Bool.eq_false_or_eq_true y6 with c10 | c10
  ·replace hz3:=Zo c10 hz3
   try rw [c10] at c8
   try rw [c10] at c9
   obtain ⟨y7,hy7,hz3⟩:=bC hz3
   refine Zbf [none,none,none,none,none,some true,some true,some true,some true,some true,some true,some true,some true,some true,some true,some true,some true,none,none,none,none,none,none,none,none,none,none,none,none,none,none,none,none,none,none,none,none,none] c8 c9 c10 ?_
   refine zG ?_
   refine (Ud hy6).then ?_
   refine zX3 c8 c9 c10 ?_
   refine zG ?_
   refine (Ud hy7).then ?_
   refine zX3 c8 c9 c10 ?_
   refine zG ?_
   exact Zej hz3 c8 c9 c10
  replace hz3:=Zn c10 hz3
  try rw [c10] at c8
  try rw [c10] at c9
  refine Zbf [none,none,none,none,none,some true,some true,some true,some true,some true,some true,some false,some false,some false,some false,some false,some false,some false,some false,some false,some false,some false,some false,some false,some false,some false,some false,some false,some false,some false,some false,some false,some false,some false,some false,some false,some false,some false] c8 c9 c10 ?_
  refine zG ?_
  refine (Ud hy6).then ?_
  refine zX3 c8 c9 c10 ?_
  refine zG ?_
  exact Zej hz3 c8 c9 c10
 refine Zq (t:=z3) rfl (fun c65 => ?_) (fun c65 => ?_)
 ·replace h:=Zo c65 h
  refine zQ [4] ?_
  exact Yi [(vB false)]
 replace h:=Zn c65 h
 refine Qp [2,3] [true,true] ?_
 refine Zg ?_
 refine zQd [2,3,5] [2,3,5] [true,true] ?_
 obtain ⟨z17,hz17,h⟩:=bC h
 refine K3 (J:=(Y6 (fun z17=>JR n (⟨164,[],[(4,(vB false))]⟩:Env) (Zu O n [none,none]) (n+2)) (fun z17=>JX 0 n (⟨164,[],[(2,.ref n 0),(3,.ref (n+1) 0)]⟩:Env) (Zu O n [some ⟨false,30,11,1,(Ze a0)⟩,some ⟨false,30,11,1,(Ze a1)⟩]) (n+2)))) (z:=z17) ?_ fun hw => ?_
 ·refine Y2 hz17 (fun s0_=>⟨164,[],[(2,.ref n 0),(3,.ref (n+1) 0),(5,(vI s0_))]⟩) (fun s0_=>(Zu O n [some ⟨false,30,11,1,(Ze a0)⟩,some ⟨false,30,11,1,(Ze a1)⟩])) (Y6 (fun z17=>JR n (⟨164,[],[(4,(vB false))]⟩:Env) (Zu O n [none,none]) (n+2)) (fun z17=>JX 0 n (⟨164,[],[(2,.ref n 0),(3,.ref (n+1) 0)]⟩:Env) (Zu O n [some ⟨false,30,11,1,(Ze a0)⟩,some ⟨false,30,11,1,(Ze a1)⟩]) (n+2))) ?_
  intro s0_ x0_ hs0_
  unfold Uo at hs0_
  try dsimp only
  refine Zg ?_
  refine zQ [2,3,5,69] ?_
  refine Zq (t:=(decide (s0_ < (a0.Words.length:Int)))) rfl (fun c16 => ?_) (fun c16 => ?_)
  ·replace hs0_:=Zo c16 hs0_
   refine Qp [2,3,5] [true,true] ?_
   refine Zg ?_
   refine Z9 ?_
   obtain ⟨x13,hx13,ax13,bx13,cx13,hs0_⟩:=bE (f:=Zl) Zt9 (fun _=>rfl) (by decide) hs0_
   obtain ⟨x14,hx14,ax14,bx14,cx14,hs0_⟩:=bE (f:=Zl) Zt9 (fun _=>rfl) (by decide) hs0_
   refine Zll [2,3,5,82] (X3 Zz (by kernel_rfl) [] (by kernel_rfl) ?_)
   refine zF6 ax13 bx13 cx13 ax14 bx14 cx14 ?_
   refine Zq (t:=(!((x13.At == x14.At) && ((x13.Mask == x14.Mask) && ((x13.Old == x14.Old) && (x13.New == x14.New)))))) rfl (fun c15 => ?_) (fun c15 => ?_)
   ·replace hs0_:=Zo c15 hs0_
    refine zQ [4] ?_
    refine zW ?_
    exact zEy hs0_
   replace hs0_:=Zn c15 hs0_
   refine Qp [2,3,5] [true,true] ?_
   refine zR ?_
   exact Gw hs0_
  replace hs0_:=Zn c16 hs0_
  exact zEx hs0_
 rcases z17 with z17 | z17
 ·dsimp only [Y6] at hw h
  refine X1 hw ?_
  try simp only [Ym,Z4,↓reduceIte,Nat.reduceEqDiff]
  exact Zgn [(vB false)]
 dsimp only [Y6] at hw h
 refine Yg hw ?_
 try simp only [Ym,Z4,↓reduceIte,Nat.reduceEqDiff]
 refine zDs [2,3] [true,true] ?_
 refine zQd [2,3,6] [2,3,6] [true,true] ?_
 obtain ⟨z49,hz49,h⟩:=bC h
 refine K3 (J:=(Y6 (fun z49=>JR n (⟨164,[],[(4,(vB false))]⟩:Env) (Zu O n [none,none]) (n+2)) (fun z49=>JX 2 n (⟨164,[],[(2,.ref n 0),(3,.ref (n+1) 0)]⟩:Env) (Zu O n [some ⟨false,30,11,1,(Ze a0)⟩,some ⟨false,30,11,1,(Ze a1)⟩]) (n+2)))) (z:=z49) ?_ fun hw => ?_
 ·refine Y2 hz49 (fun s1_=>⟨164,[],[(2,.ref n 0),(3,.ref (n+1) 0),(6,(vI s1_))]⟩) (fun s1_=>(Zu O n [some ⟨false,30,11,1,(Ze a0)⟩,some ⟨false,30,11,1,(Ze a1)⟩])) (Y6 (fun z49=>JR n (⟨164,[],[(4,(vB false))]⟩:Env) (Zu O n [none,none]) (n+2)) (fun z49=>JX 2 n (⟨164,[],[(2,.ref n 0),(3,.ref (n+1) 0)]⟩:Env) (Zu O n [some ⟨false,30,11,1,(Ze a0)⟩,some ⟨false,30,11,1,(Ze a1)⟩]) (n+2))) ?_
  intro s1_ x1_ hs1_
  unfold Up at hs1_
  try dsimp only
  refine Zg ?_
  refine zQ [2,3,6,87] ?_
  refine Zq (t:=(decide (s1_ < (a0.Kids.length:Int)))) rfl (fun c48 => ?_) (fun c48 => ?_)
  ·replace hs1_:=Zo c48 hs1_
   refine Qp [2,3,6] [true,true] ?_
   refine Zg ?_
   refine Z9 ?_
   obtain ⟨z27,hz27,hs1_⟩:=bC hs1_
   refine Yp (E':=⟨164,[],[(2,.ref n 0),(3,.ref (n+1) 0),(6,(vI s1_)),(118,(vB z27))]⟩) (O':=(Zu O n [some ⟨false,30,11,1,(Ze a0)⟩,some ⟨false,30,11,1,(Ze a1)⟩])) (n0:=(n+2)) ?_ ?_
   ·obtain ⟨x37,hx37,ax37,bx37,cx37,hz27⟩:=bE (f:=Zi) Zkq (fun _=>rfl) (by decide) hz27
    have g38:=Zam (f:=Zi) (sz:=12) Zmp (fun _=>rfl) (by decide) (by decide) hx37
    obtain ⟨x39,hx39,ax39,bx39,cx39,hz27⟩:=bE (f:=Zi) Zkq (fun _=>rfl) (by decide) hz27
    have g40:=Zam (f:=Zi) (sz:=12) Zmp (fun _=>rfl) (by decide) (by decide) hx39
    rcases Bool.eq_false_or_eq_true (x37.At != x39.At) with c46 | c46
    ·replace hz27:=Zo c46 hz27
     refine X3 Zz (by kernel_rfl) [some false,some false,some false,some false,some false,some false,some false,some false,some false,some false,some false,some false,some false,some false] (by kernel_rfl) ?_
     refine zF9 ax37 bx37 cx37 g38 ax39 bx39 cx39 g40 c46 ?_
     have hz27:=Option.some.inj hz27;subst hz27
     refine And.intro rfl (Fit2.of (Ya hU rfl rfl ?_) (by omega))
     exact Z15 ax37 bx37 cx37 g38 ax39 bx39 cx39 g40 c46
    replace hz27:=Zn c46 hz27
    have g42:=Ks (f:=Zi) (off:=1) (sz:=12) Zmq (fun _=>rfl) (by decide) (by decide) hx37
    have g44:=Ks (f:=Zi) (off:=1) (sz:=12) Zmq (fun _=>rfl) (by decide) (by decide) hx39
    obtain ⟨y45,hy45,hz27⟩:=bC hz27
    refine X3 Zz (by kernel_rfl) [some true,some true,some true,some true,some true,some true,some true,some true,some true,some true,some true,some true,some true,some true] (by kernel_rfl) ?_
    refine Yii ax37 bx37 cx37 g38 ax39 bx39 cx39 g40 c46 g42 g44 ?_
    refine PCall.of (Zi7 hy45) ?_
    refine Yii ax37 bx37 cx37 g38 ax39 bx39 cx39 g40 c46 g42 g44 ?_
    have hz27:=Option.some.inj hz27;subst hz27
    refine And.intro rfl (Fit2.of (Ya hU rfl rfl ?_) (by omega))
    exact Yhk ax37 bx37 cx37 g38 ax39 bx39 cx39 g40 c46 g42 g44
   refine Zq (t:=z27) rfl (fun c47 => ?_) (fun c47 => ?_)
   ·replace hs1_:=Zo c47 hs1_
    refine zQ [4] ?_
    refine zW ?_
    exact zEy hs1_
   replace hs1_:=Zn c47 hs1_
   refine Qp [2,3,6] [true,true] ?_
   refine zR ?_
   exact Gw hs1_
  replace hs1_:=Zn c48 hs1_
  exact zEx hs1_
 rcases z49 with z49 | z49
 ·dsimp only [Y6] at hw h
  refine X1 hw ?_
  try simp only [Ym,Z4,↓reduceIte,Nat.reduceEqDiff]
  exact Zgn [(vB false)]
 dsimp only [Y6] at hw h
 refine Yg hw ?_
 try simp only [Ym,Z4,↓reduceIte,Nat.reduceEqDiff]
 refine zDs [2,3] [true,true] ?_
 refine zQd [2,3,7] [2,3,7] [true,true] ?_
 obtain ⟨z64,hz64,h⟩:=bC h
 refine K3 (J:=(Y6 (fun z64=>JR n (⟨164,[],[(4,(vB false))]⟩:Env) (Zu O n [none,none]) (n+2)) (fun z64=>JX 4 n (⟨164,[],[]⟩:Env) (Zu O n [none,none]) (n+2)))) (z:=z64) ?_ fun hw => ?_
 ·refine Y2 hz64 (fun s2_=>⟨164,[],[(2,.ref n 0),(3,.ref (n+1) 0),(7,(vI s2_))]⟩) (fun s2_=>(Zu O n [some ⟨false,30,11,1,(Ze a0)⟩,some ⟨false,30,11,1,(Ze a1)⟩])) (Y6 (fun z64=>JR n (⟨164,[],[(4,(vB false))]⟩:Env) (Zu O n [none,none]) (n+2)) (fun z64=>JX 4 n (⟨164,[],[]⟩:Env) (Zu O n [none,none]) (n+2))) ?_
  intro s2_ x2_ hs2_
  unfold Uq at hs2_
  try dsimp only
  refine Zg ?_
  refine zQ [2,3,7,123] ?_
  refine Zq (t:=(decide (s2_ < (a0.Ops.length:Int)))) rfl (fun c63 => ?_) (fun c63 => ?_)
  ·replace hs2_:=Zo c63 hs2_
   refine Qp [2,3,7] [true,true] ?_
   refine Zg ?_
   refine Z9 ?_
   obtain ⟨x50,hx50,ax50,bx50,cx50,hs2_⟩:=bE (f:=Zd) Zbe (fun _=>rfl) (by decide) hs2_
   obtain ⟨x51,hx51,ax51,bx51,cx51,hs2_⟩:=bE (f:=Zd) Zbe (fun _=>rfl) (by decide) hs2_
   refine Yp (E':=⟨164,[],[(2,.ref n 0),(3,.ref (n+1) 0),(7,(vI s2_)),(8,.ref (n+2) 0),(9,.ref (n+3) 0)]⟩) (O':=(Zu O n [some ⟨false,30,11,1,(Ze a0)⟩,some ⟨false,30,11,1,(Ze a1)⟩,some ⟨false,75,14,1,(Yz x50)⟩,some ⟨false,75,14,1,(Yz x51)⟩])) (n0:=(n+4)) ?_ ?_
   ·refine Yff Zz (by kernel_rfl) [.low,.low,.low,.low,.low,.low,.low,.low,.low,.low,.pass,.pass,.pass,.pass] (fun i=>i < (n+2)) 10 11 [0,1,2,3,4,5,6,7,8,9] [12,13] [.low,.low,.low,.low,.low,.low,.low,.low,.low,.low] [.pass,.pass,.pass,.pass] [.pass,.pass,.pass,.pass] [] (by kernel_rfl) rfl rfl rfl ?_
    refine zF6 ax50 bx50 cx50 ax51 bx51 cx51 ?_
    repeat (with_reducible refine And.intro (by omega) ?_)
    refine And.intro ?_ ?_
    ·refine zF6 ax50 bx50 cx50 ax51 bx51 cx51 ?_
     repeat (with_reducible refine And.intro (by first | exact V4 rfl | exact Ko) ?_)
     exact Yka ax50 bx50 cx50 ax51 bx51 cx51
    refine zF6 ax50 bx50 cx50 ax51 bx51 cx51 ?_
    repeat (with_reducible refine And.intro (by first | exact V4 rfl | exact Ko) ?_)
    refine And.intro rfl ?_
    refine Fit2.trans (E':=(⟨164,[],[(2,.ref n 0),(3,.ref (n+1) 0),(7,(vI s2_)),(8,.ref (n+3) 0),(9,.ref (n+2) 0)]⟩:Env)) (O':=(Zu O n [some ⟨false,30,11,1,(Ze a0)⟩,some ⟨false,30,11,1,(Ze a1)⟩,some ⟨false,75,14,1,(Yz x51)⟩,some ⟨false,75,14,1,(Yz x50)⟩])) (n':=(n+4)) (Fit2.of (Ya hU rfl rfl ?_) (by omega)) ?_
    ·exact Yg3 ax50 bx50 cx50 ax51 bx51 cx51
    refine Ja (k:=4) (k':=4) hU [0,1,3,2] [0,1,3,2] rfl rfl rfl rfl ⟨rfl,rfl⟩ ?_
    exact zSe
   obtain ⟨z54,hz54,hs2_⟩:=bC hs2_
   refine Yp (E':=⟨164,[],[(2,.ref n 0),(3,.ref (n+1) 0),(7,(vI s2_)),(163,(vB z54))]⟩) (O':=(Zu O n [some ⟨false,30,11,1,(Ze a0)⟩,some ⟨false,30,11,1,(Ze a1)⟩,none,none])) (n0:=(n+4)) ?_ ?_
   ·rcases Bool.eq_false_or_eq_true (x50.Kind != x51.Kind) with c59 | c59
    ·replace hz54:=Zo c59 hz54
     refine Jb [none,none,none,none,none,some false,some false,some false,some false,some false,some false,some false,some false,some false,some false,some false,some false] c59 ?_
     refine zG ?_
     exact Qm hz54 c59
    replace hz54:=Zn c59 hz54
    rcases Bool.eq_false_or_eq_true (x50.N != x51.N) with c60 | c60
    ·replace hz54:=Zo c60 hz54
     try rw [c60] at c59
     refine Jn [none,none,none,none,none,some false,some false,some false,some false,some false,some false,some false,some false,some false,some false,some false,some false] c59 c60 ?_
     refine zG ?_
     exact U2 hz54 c59 c60
    replace hz54:=Zn c60 hz54
    try rw [c60] at c59
    obtain ⟨y57,hy57,hz54⟩:=bC hz54
    rcases Bool.eq_false_or_eq_true y57 with c61 | c61
    ·replace hz54:=Zo c61 hz54
     try rw [c61] at c59
     try rw [c61] at c60
     obtain ⟨y58,hy58,hz54⟩:=bC hz54
     refine Zbf [none,none,none,none,none,some true,some true,some true,some true,some true,some true,some true,some true,some true,some true,some true,some true] c59 c60 c61 ?_
     refine zG ?_
     refine (Zhc hy57).then ?_
     refine zX3 c59 c60 c61 ?_
     refine zG ?_
     refine (Zi7 hy58).then ?_
     refine zX3 c59 c60 c61 ?_
     refine zG ?_
     exact Zej hz54 c59 c60 c61
    replace hz54:=Zn c61 hz54
    try rw [c61] at c59
    try rw [c61] at c60
    refine Zbf [none,none,none,none,none,some true,some true,some true,some true,some true,some true,some false,some false,some false,some false,some false,some false] c59 c60 c61 ?_
    refine zG ?_
    refine (Zhc hy57).then ?_
    refine zX3 c59 c60 c61 ?_
    refine zG ?_
    exact Zej hz54 c59 c60 c61
   refine Zq (t:=z54) rfl (fun c62 => ?_) (fun c62 => ?_)
   ·replace hs2_:=Zo c62 hs2_
    refine zQ [4] ?_
    refine zW ?_
    exact zEy hs2_
   replace hs2_:=Zn c62 hs2_
   refine Qp [2,3,7] [true,true,false,false] ?_
   refine zR ?_
   exact Gw hs2_
  replace hs2_:=Zn c63 hs2_
  exact zEx hs2_
 rcases z64 with z64 | z64
 ·dsimp only [Y6] at hw h
  refine X1 hw ?_
  try simp only [Ym,Z4,↓reduceIte,Nat.reduceEqDiff]
  exact Zgn [(vB false)]
 dsimp only [Y6] at hw h
 refine Yg hw ?_
 try simp only [Ym,Z4,↓reduceIte,Nat.reduceEqDiff]
 refine zD [] [false,false] ?_
 refine zQ [4] ?_
 exact Yi [(vB true)]
theorem Zow:∀ k,(Zi5 (Kq k)):=fun k=>by
 induction k with
 | zero=>exact @fun a0 a1 r O n h=>(nomatch (show (none:Option _)=some _ from h))
 | succ k ih=>exact @fun a0 a1 r O n h=>Zrf (ih)  h
theorem Zkb {a0:Zc} {a1:Zc} {r:Bool} {O:Objs} {n:Nat} (h:Gb a0 a1=some r):GTo Try.prog 17 [.agg (Ze a0),.agg (Ze a1)] O n ((vB r)) O n:=by
 obtain ⟨k,hk⟩:=V0 h
 exact (Zow k)  hk
theorem Zru {a0:(List Zx)} {r:Bool} {O:Objs} {n:Nat} (h:Zby a0=some r):GTo Try.prog 25 [(sL Zr a0)] O n ((vB r)) O n:=by
 unfold Zby at h
 refine zFn Try.call25 Try.func25 fun hU hN0 hN => ?_
 show W _ _ _ _ ⟨16,[],[(0,(sL Zr a0))]⟩ (Zu O n []) _
 refine zQ [0] ?_
 refine Zg ?_
 refine zQd [0,3] [0,3] [] ?_
 obtain ⟨z7,hz7,h⟩:=bC h
 refine K3 (J:=(Y6 (fun z7=>JR n (⟨16,[],[(2,(vB false))]⟩:Env) (Zu O n []) n) (fun z7=>JX 0 n (⟨16,[],[]⟩:Env) (Zu O n []) n))) (z:=z7) ?_ fun hw => ?_
 ·refine Y2 hz7 (fun s0_=>⟨16,[],[(0,(sL Zr a0)),(3,(vI s0_))]⟩) (fun s0_=>(Zu O n [])) (Y6 (fun z7=>JR n (⟨16,[],[(2,(vB false))]⟩:Env) (Zu O n []) n) (fun z7=>JX 0 n (⟨16,[],[]⟩:Env) (Zu O n []) n)) ?_
  intro s0_ x0_ hs0_
  unfold Kt at hs0_
  try dsimp only
  refine Zg ?_
  refine zQ [0,3,7] ?_
  refine Zq (t:=(decide (s0_ < (a0.length:Int)))) rfl (fun c6 => ?_) (fun c6 => ?_)
  ·replace hs0_:=Zo c6 hs0_
   refine Qp [0,3] [] ?_
   refine Zg ?_
   refine Z9 ?_
   obtain ⟨x3,hx3,ax3,bx3,cx3,hs0_⟩:=bE (f:=Zr) Zja (fun _=>rfl) (by decide) hs0_
   have g4:=Zam (f:=Zr) (sz:=2) Zmp (fun _=>rfl) (by decide) (by decide) hx3
   refine Zll [0,3,15] (Yw Zz [] ?_)
   refine zF4 ax3 bx3 cx3 g4 ?_
   refine Zq (t:=(x3.Kind != 0)) rfl (fun c5 => ?_) (fun c5 => ?_)
   ·replace hs0_:=Zo c5 hs0_
    refine zQ [2] ?_
    refine zW ?_
    exact zEy hs0_
   replace hs0_:=Zn c5 hs0_
   refine Qp [0,3] [] ?_
   refine zR ?_
   exact Gw hs0_
  replace hs0_:=Zn c6 hs0_
  exact zEx hs0_
 rcases z7 with z7 | z7
 ·dsimp only [Y6] at hw h
  refine X1 hw ?_
  try simp only [Ym,Z4,↓reduceIte,Nat.reduceEqDiff]
  exact Zgn [(vB false)]
 dsimp only [Y6] at hw h
 refine Yg hw ?_
 try simp only [Ym,Z4,↓reduceIte,Nat.reduceEqDiff]
 refine zD [] [] ?_
 refine zQ [2] ?_
 exact Yi [(vB true)]
theorem Zax {a0:(List Zx)} {a1:(List Zx)} {r:Bool} {O:Objs} {n:Nat} (h:Gd a0 a1=some r):GTo Try.prog 26 [(sL Zr a0),(sL Zr a1)] O n ((vB r)) O n:=by
 unfold Gd at h
 refine zFn Try.call26 Try.func26 fun hU hN0 hN => ?_
 show W _ _ _ _ ⟨26,[],[(0,(sL Zr a0)),(1,(sL Zr a1))]⟩ (Zu O n []) _
 refine zQ [0,1] ?_
 refine Zg ?_
 refine zQ [0,1,10] ?_
 refine Zq (t:=((a0.length:Int) != (a1.length:Int))) rfl (fun c8 => ?_) (fun c8 => ?_)
 ·replace h:=Zo c8 h
  refine zQ [4] ?_
  exact Yi [(vB false)]
 replace h:=Zn c8 h
 refine Qp [0,1] [] ?_
 refine Zg ?_
 refine zQd [0,1,5] [0,1,5] [] ?_
 obtain ⟨z7,hz7,h⟩:=bC h
 refine K3 (J:=(Y6 (fun z7=>JR n (⟨26,[],[(4,(vB false))]⟩:Env) (Zu O n []) n) (fun z7=>JX 0 n (⟨26,[],[]⟩:Env) (Zu O n []) n))) (z:=z7) ?_ fun hw => ?_
 ·refine Y2 hz7 (fun s0_=>⟨26,[],[(0,(sL Zr a0)),(1,(sL Zr a1)),(5,(vI s0_))]⟩) (fun s0_=>(Zu O n [])) (Y6 (fun z7=>JR n (⟨26,[],[(4,(vB false))]⟩:Env) (Zu O n []) n) (fun z7=>JX 0 n (⟨26,[],[]⟩:Env) (Zu O n []) n)) ?_
  intro s0_ x0_ hs0_
  unfold Zfb at hs0_
  try dsimp only
  refine Zg ?_
  refine zQ [0,1,5,14] ?_
  refine Zq (t:=(decide (s0_ < (a0.length:Int)))) rfl (fun c6 => ?_) (fun c6 => ?_)
  ·replace hs0_:=Zo c6 hs0_
   refine Qp [0,1,5] [] ?_
   refine Zg ?_
   refine Z9 ?_
   obtain ⟨x3,hx3,ax3,bx3,cx3,hs0_⟩:=bE (f:=Zr) Zja (fun _=>rfl) (by decide) hs0_
   obtain ⟨x4,hx4,ax4,bx4,cx4,hs0_⟩:=bE (f:=Zr) Zja (fun _=>rfl) (by decide) hs0_
   refine Zll [0,1,5,25] (X3 Zz (by kernel_rfl) [] (by kernel_rfl) ?_)
   refine zF6 ax3 bx3 cx3 ax4 bx4 cx4 ?_
   refine Zq (t:=(!((x3.Kind == x4.Kind) && (x3.At == x4.At)))) rfl (fun c5 => ?_) (fun c5 => ?_)
   ·replace hs0_:=Zo c5 hs0_
    refine zQ [4] ?_
    refine zW ?_
    exact zEy hs0_
   replace hs0_:=Zn c5 hs0_
   refine Qp [0,1,5] [] ?_
   refine zR ?_
   exact Gw hs0_
  replace hs0_:=Zn c6 hs0_
  exact zEx hs0_
 rcases z7 with z7 | z7
 ·dsimp only [Y6] at hw h
  refine X1 hw ?_
  try simp only [Ym,Z4,↓reduceIte,Nat.reduceEqDiff]
  exact Zgn [(vB false)]
 dsimp only [Y6] at hw h
 refine Yg hw ?_
 try simp only [Ym,Z4,↓reduceIte,Nat.reduceEqDiff]
 refine zD [] [] ?_
 refine zQ [4] ?_
 exact Yi [(vB true)]
end Go.Proofs.Ytfjkcekfifobpaa
