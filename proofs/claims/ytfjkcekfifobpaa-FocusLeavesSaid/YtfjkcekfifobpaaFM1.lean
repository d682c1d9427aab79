/- Part FM1 of this seat's mirrors: functions of the seat's program, and the plain functions that they are; each theorem bears its own conditions. -/
import Derived.Test.YtfjkcekfifobpaaFD
namespace Go.Proofs.Ytfjkcekfifobpaa
open Go.RowKit
set_option linter.unusedVariables false
set_option linter.unusedSimpArgs false
set_option maxRecDepth 100000
set_option maxHeartbeats 4000000
attribute [local push_cast] Try.results136 Try.results137 Try.results138 Try.results19 Try.results32 Try.results33 Try.results42 Try.results60 Try.results61 Try.results65 Try.results66 Try.results67 Try.results69 Try.results93 Try.results96 Try.results97 vI vB nV sL oR Ze Vp Yz Zf G7 Zw8 Zw7 Zxx Zxw Ym Z4 Zsx Zm6 Zm5 onW Qz Zhr Zgd Zwb Zvi Zqq Zqu Zqp Zqt Zt7 Zt4 Zqs Zt6 Zt5 Zqr Zt2 Zn3 evS wok Kc Op.operands Call.operands gop onK onP atK List.all_cons List.all_nil Bool.and_true Bool.true_and Bool.and_self Value.oneCell' List.take_zero List.take_succ_cons List.take_nil List.drop_zero List.drop_succ_cons List.drop_nil List.append_nil Nat.add_zero Nat.zero_add Zbu Y1 ev Kg Zhf Zw1 Zw0 Zw6 Zw4 Zw5 Zw2 Zw3 Zwz Zwm Zz0 Z3k Zna Zht Zl4 Zhs Zp6 Zj1 Zku Zkz Zmz Zmw Zkx Zmy Zmx Zkw Zmu Zkv Zky Zjp Zmv Zq2 Zm7 Ze7 Zm8 Ze8 Zo6 Zm4 Z1r bLo bHi bMx Zhu Zo3 Z6n Zm3 Zo5 Zjq Zdj Zz3 Z6q Zm2 Z6u Zhq Z8i Zs0 Zs4 Zsz Zs3 Zxi Zxf Zxd Zp9 Zs1 Zxh Zxg Zs2 Zxe Zor gone Ztq Znu Znt pop TK.isAgg Zxq Zxu Zxp Zxt Zti Z4f Z4c Zxs Z4e Z4d Zxr Z4b G.under G.unders List.getD_cons_zero List.getD_cons_succ List.set_cons_zero List.set_cons_succ List.map_cons List.map_nil List.toList_toArray Array.toList_append Option.toArray_none Option.toArray_some Array.toList_map Option.map_some Option.map_none Option.bind_some Option.bind_none List.getElem?_cons_zero List.getElem?_cons_succ List.getElem?_nil List.nil_append List.cons_append List.replicate_succ List.replicate_zero List.length_cons List.length_nil and_true true_and and_false false_and Bool.true_eq_false Bool.false_eq_true forall_const false_implies implies_true IntKind.bits if_true if_false ite_true ite_false eq_self true_implies false_or or_false or_true true_or not_true_eq_false not_false_eq_true decide_true decide_false decide_eq_true_eq decide_eq_false_iff_not beq_iff_eq bne_iff_ne ne_eq Bool.not_eq_true Bool.not_eq_false beq_eq_false_iff_ne bne_eq_false_iff_eq beq_self_eq_true bne_self_eq_false Option.some.injEq exists_eq_left' exists_eq_left ge_iff_le gt_iff_lt decide_not Bool.not_true Bool.not_false imp_self Z3m cond_true cond_false Yfj Yfi Bool.not_not Bool.and_false Bool.false_and Bool.or_true Bool.true_or Bool.or_false Bool.false_or Zab Zes U3 K8 Xd Yv Option.join_some Nat.add_assoc Int.toNat_natCast eI eB eS eL Xo Zl5 Zk1 Zxb Zw9 Zxa Z8o Yb7 Zmh Zlb Zx4 Zx2 Zx3 Z4a Zq1 Z2e Zrk Z1n Zjt Zzu List.length_append G.agg.injEq G.row.injEq G.ref.injEq G.val.injEq G.sl.injEq G.tup.injEq Value.int.injEq Value.bool.injEq Value.string.injEq List.cons.injEq exists_and_left exists_const List.flatten_cons List.flatten_nil Int.le_refl Nat.le_refl Qw Yt Y5 Bool.not_eq_true' Bool.not_eq_false' Zza Zpt Z51 Z56 Z50 Z55 Ybg Ybc List.size_toArray Zvw Zwf G.ren G.rens Z00 Zkn Zx5 Zwx Zwy Zt3 Z57 Zh3 G.fn.injEq Zu3 Zu4 Zy9 Ybd Zu2 Z54 Ybf Ybe Z52 Z32 Z9q Option.join_none Yo Zaz undef Zo8 Arr.len Arr.put_eq Zmg Zqd Znq Zla Zx1 Zxz Zx0 onB Z8n Zzz Zty Zr9 Zsa Zsb Zsc Zsd Zse Zqb Zqg Zqe Zns Zlc Zqf Ztp Zto Ztn Ztm Yb6 Yd4 Z39 Z10 Vv Z34 Zvk Zqh Znr Z7c Zwg Zm0 Zo0 Zis Zpm Zsf Zsg Zsh Zsi Zpu Zpv Zpw Zpx Zpy Zpz Zp0 Zjg prT Zgz Ygl Z5q Zmp Z5r Ygm Z5s Z5o Z5t Ygn Z5u Ygo Z5v Ygp Z5w Ygq Z5x Yaf Zx9 Yag Zya Yah Zyb Yai Zyc Yaj Zyd Yak Zye Yal Zyf Yam Zyg Yan Zyh Yao Zyi Yap Zyj Yaq Zqw Z1e Zgw Yar Zyk Vh Zyl Yas Zym Yat Zyn Yau Zyo Yav Zyp Zmq Zyq Yaw Zyr Yax Zn5 Yay Zys Zja Zyt Yaz Zyu Ya0 Zyv Ya1 Zyw Ya2 Zyx Zh6 Zyy Ya3 Zyz Zbe Zy0 Ya4 Zy1 Ya5 Zy2 Ya6 Zy3 Zt9 Zy4 Ya7 Zy5 Zkq Zy6 Ya8 Zy7 Ya9 Zy8 Z4w Zua Z4x Zub Z4y Zuc Z4z Zud Z40 Zue Z41 Zuf Z42 Zug Z43 Zuh Z44 Zui Z45 Zuj Z46 Zuk Z47 Zul Z48 Zum Zv1 Zpr Z49 Zun Z5a Zuo Z5b Zup Z5c Zuq Z5d Zur Z5e Zus Z5f Zut Z5g Zuu Z5h Zuv Z5i Zuw Z5j Zux Z5k Zuy Z5l Zuz Z5m Zu0 Z5n Zu1 Za Yr Zoe Zoc Znd Znp Zog Zlk Zlh Zlf Zn9 Zf7 Zf5 Zfu Zfz Zf9 Ze0 Zey Zew Zf3 Zl Qh Zd Zi Xn Xv Y4 Zck Zci Zbv Zb9 Zcm Za9 Za6 Za4 Zcf Zc3 Zc2 Zcz Zc0 Zc4 Zch Zcc Zcb Zc1 Zh9 Zh8 Zhw Zh2 Zia Zgx Zgv Zgu Zh7 Zqz Zqy Zp8 Zqc Zq0 Zoa Zny Znx Zqx Zr Zf6 Zf4 Zft Zfy Zf8 Zez Zex Zev Zf2 Yj Zbc Zbb Za0 Za3 Zbd G0 Gz Gy Za8 Zod Zob Znc Zno Zof Zlj Zlg Zle Zn8 Ys Zcl Zcj Zbw Zca Zcn Zba Za7 Za5 Zcg
def Zhb (Qv:(Zb→Int→Int→Option Int)):Prop:=∀ {a0:Zb} {a1:Int} {a2:Int} {r:Int} {O:Objs} {n:Nat},Qv a0 a1 a2=some r→GTo Try.prog 60 [.agg (Zf a0),(vI a1),(vI a2)] O n ((vI r)) O n
theorem Znn {Qv:(Zb→Int→Int→Option Int)} (Zme:Zhb Qv) {a0:Zb} {a1:Int} {a2:Int} {r:Int} {O:Objs} {n:Nat} (h:Qs Qv a0 a1 a2=some r):GTo Try.prog 60 [.agg (Zf a0),(vI a1),(vI a2)] O n ((vI r)) O n:=by
 unfold Qs at h
 refine zFn Try.call60 Try.func60 fun hU hN0 hN => ?_
 show W _ _ _ _ ⟨41,[],[(0,.agg (Zf a0)),(1,(vI a1)),(2,(vI a2))]⟩ (Zu O n []) _
 refine zQ [1,2,3] ?_
 refine zQ [1,2,3] ?_
 refine Zg ?_
 refine zQD [1,2,3,19] [none,none] ?_
 refine Zq (t:=(cond (a1 == 0) true (decide ((IntKind.i64.wrap ((IntKind.i64.wrap (a2 - 1)) - (a0.Words.length:Int))) < 0)))) rfl (fun c5 => ?_) (fun c5 => ?_)
 ·replace h:=Zo c5 h
  refine zQ [6] ?_
  exact Yi [(vI (-1))]
 replace h:=Zn c5 h
 refine Qp [1,2,3] [true] ?_
 refine Zg ?_
 refine zQd [1,2,3,7] [1,2,3,7] [true] ?_
 obtain ⟨z4,hz4,h⟩:=bC h
 refine Yg (E':=⟨41,[],[(2,(vI z4))]⟩) (O':=(Zu O n [none])) (n0:=(n+1)) ?_ ?_
 ·refine Y2 hz4 (fun s0_=>⟨41,[],[(1,(vI a1)),(2,(vI s0_.1)),(3,.ref n 0),(7,(vI s0_.2))]⟩) (fun s0_=>(Zu O n [some ⟨false,25,3,1,(Zf a0)⟩])) (fun z4=>JX 0 n (⟨41,[],[(2,(vI z4))]⟩:Env) (Zu O n [none]) (n+1)) ?_
  intro s0_ x0_ hs0_
  unfold Qj at hs0_
  try dsimp only
  refine Zg ?_
  refine zQD [1,2,3,7,28] [none,none] ?_
  refine Zq (t:=(cond (decide (s0_.2 < (a0.Kids.length:Int))) (decide (0≤s0_.1)) false)) rfl (fun c3 => ?_) (fun c3 => ?_)
  ·replace hs0_:=Zo c3 hs0_
   refine Qp [1,2,3,7] [true] ?_
   refine Zg ?_
   refine Z9 ?_
   obtain ⟨x1,hx1,ax1,bx1,cx1,hs0_⟩:=bE (f:=Za) Vh (fun _=>rfl) (by decide) hs0_
   obtain ⟨y2,hy2,hs0_⟩:=bC hs0_
   refine Zcw [] ax1 bx1 cx1 ?_
   refine (Zme hy2).then ?_
   refine zF3 ax1 bx1 cx1 ?_
   refine zD [1,2,3,7] [true] ?_
   refine zR ?_
   exact Gw hs0_
  replace hs0_:=Zn c3 hs0_
  exact zEx hs0_
 try simp only [Ym,Z4,↓reduceIte,Nat.reduceEqDiff]
 refine zD [2] [false] ?_
 refine zQ [6] ?_
 exact Yi [(vI z4)]
theorem Zlm:∀ k,(Zhb (Xb k)):=fun k=>by
 induction k with
 | zero=>exact @fun a0 a1 a2 r O n h=>(nomatch (show (none:Option _)=some _ from h))
 | succ k ih=>exact @fun a0 a1 a2 r O n h=>Znn (ih)  h
theorem Za2 {a0:Zb} {a1:Int} {a2:Int} {r:Int} {O:Objs} {n:Nat} (h:X8 a0 a1 a2=some r):GTo Try.prog 60 [.agg (Zf a0),(vI a1),(vI a2)] O n ((vI r)) O n:=by
 obtain ⟨k,hk⟩:=V0 h
 exact (Zlm k)  hk
theorem Zk6 {a0:Zb} {r:Bool} {O:Objs} {n:Nat} (h:Zdc a0=some r):GTo Try.prog 32 [.agg (Zf a0)] O n ((vB r)) O n:=by
 unfold Zdc at h
 refine zFn Try.call32 Try.func32 fun hU hN0 hN => ?_
 show W _ _ _ _ ⟨6,[],[(0,.agg (Zf a0))]⟩ (Zu O n []) _
 refine zQ [1] ?_
 refine Zg ?_
 obtain ⟨y2,hy2,h⟩:=bC h
 refine zCd (Za2 hy2) [2] [false] ?_
 exact Yi [(vB (decide (0≤y2)))]
theorem Zq6 {a0:Int} {r:Int} {O:Objs} {n:Nat} (h:Zg0 a0=some r):GTo Try.prog 93 [(vI a0)] O n ((vI r)) O n:=by
 unfold Zg0 at h
 refine zFn Try.call93 Try.func93 fun hU hN0 hN => ?_
 show W _ _ _ _ ⟨16,[],[(0,(vI a0))]⟩ (Zu O n []) _
 refine zQ [0] ?_
 refine Zg ?_
 refine zQ [3] ?_
 refine Z9 ?_
 refine zQ [3,4] ?_
 refine Zq (t:=(a0 == 0)) rfl (fun c6 => ?_) (fun c6 => ?_)
 ·replace h:=Zo c6 h
  refine zQ [2] ?_
  exact Yi [(vI 0)]
 replace h:=Zn c6 h
 refine zQ [3,6] ?_
 refine Zq (t:=(a0 == 1)) rfl (fun c5 => ?_) (fun c5 => ?_)
 ·replace h:=Zo c5 h
  refine zQ [2] ?_
  exact Yi [(vI 1)]
 replace h:=Zn c5 h
 refine zQ [3,8] ?_
 refine Zq (t:=(a0 == 2)) rfl (fun c4 => ?_) (fun c4 => ?_)
 ·replace h:=Zo c4 h
  refine zQ [2] ?_
  exact Yi [(vI 8)]
 replace h:=Zn c4 h
 refine zQ [3,10] ?_
 refine Zq (t:=(a0 == 3)) rfl (fun c3 => ?_) (fun c3 => ?_)
 ·replace h:=Zo c3 h
  refine zQ [2] ?_
  exact Yi [(vI 16)]
 replace h:=Zn c3 h
 refine zQ [3,12] ?_
 refine Zq (t:=(a0 == 4)) rfl (fun c2 => ?_) (fun c2 => ?_)
 ·replace h:=Zo c2 h
  refine zQ [2] ?_
  exact Yi [(vI 32)]
 replace h:=Zn c2 h
 refine zQ [14] ?_
 refine Zq (t:=(a0 == 5)) rfl (fun c1 => ?_) (fun c1 => ?_)
 ·replace h:=Zo c1 h
  refine zQ [2] ?_
  exact Yi [(vI 64)]
 replace h:=Zn c1 h
 refine Qp [] [] ?_
 refine zQ [2] ?_
 exact Yi [(vI (-1))]
theorem Zj8 {a0:Int} {a1:Int} {r:Bool} {O:Objs} {n:Nat} (h:U6 a0 a1=some r):GTo Try.prog 61 [(vI a0),.val (.int .u64 a1)] O n ((vB r)) O n:=by
 unfold U6 at h
 refine zFn Try.call61 Try.func61 fun hU hN0 hN => ?_
 show W _ _ _ _ ⟨20,[],[(0,(vI a0)),(1,.val (.int .u64 a1))]⟩ (Zu O n []) _
 refine zQ [0,1] ?_
 refine Zg ?_
 obtain ⟨y2,hy2,h⟩:=bC h
 refine zCd (Zq6 hy2) [1,5] [] ?_
 refine Zg ?_
 refine zQ [1,5,10] ?_
 refine Zq (t:=(decide (y2 < 0))) rfl (fun c5 => ?_) (fun c5 => ?_)
 ·replace h:=Zo c5 h
  refine zQ [4] ?_
  exact Yi [(vB false)]
 replace h:=Zn c5 h
 refine Qp [1,5] [] ?_
 refine Zg ?_
 refine zQd [1,5,6] [1,5,6] [] ?_
 obtain ⟨z4,hz4,h⟩:=bC h
 refine Yg (E':=⟨20,[],[(1,.val (.int .u64 z4))]⟩) (O':=(Zu O n [])) (n0:=n) ?_ ?_
 ·refine Y2 hz4 (fun s0_=>⟨20,[],[(1,.val (.int .u64 s0_.1)),(5,(vI y2)),(6,(vI s0_.2))]⟩) (fun s0_=>(Zu O n [])) (fun z4=>JX 0 n (⟨20,[],[(1,.val (.int .u64 z4))]⟩:Env) (Zu O n []) n) ?_
  intro s0_ x0_ hs0_
  unfold Qu at hs0_
  try dsimp only
  refine Zg ?_
  refine zQ [1,5,6,13] ?_
  refine Zq (t:=(decide (s0_.2 < y2))) rfl (fun c3 => ?_) (fun c3 => ?_)
  ·replace hs0_:=Zo c3 hs0_
   refine Qp [1,5,6] [] ?_
   refine Zg ?_
   refine Z9 ?_
   refine zRd [1,5,6] [] ?_
   refine zR ?_
   exact Gw hs0_
  replace hs0_:=Zn c3 hs0_
  exact zEx hs0_
 try simp only [Ym,Z4,↓reduceIte,Nat.reduceEqDiff]
 refine zD [1] [] ?_
 refine zQ [4] ?_
 exact Yi [(vB (z4 == 0))]
def Zic (Ji:(Zb→Int→Option Bool)):Prop:=∀ {a0:Zb} {a1:Int} {r:Bool} {O:Objs} {n:Nat},Ji a0 a1=some r→GTo Try.prog 33 [.agg (Zf a0),(vI a1)] O n ((vB r)) O n
theorem Zph {Ji:(Zb→Int→Option Bool)} (Zox:Zic Ji) {a0:Zb} {a1:Int} {r:Bool} {O:Objs} {n:Nat} (h:Zad Ji a0 a1=some r):GTo Try.prog 33 [.agg (Zf a0),(vI a1)] O n ((vB r)) O n:=by
 unfold Zad at h
 refine zFn Try.call33 Try.func33 fun hU hN0 hN => ?_
 show W _ _ _ _ ⟨132,[],[(0,.agg (Zf a0)),(1,(vI a1))]⟩ (Zu O n []) _
 refine zQ [1,2] ?_
 refine Zg ?_
 refine zQ [1,2,10] ?_
 refine Zq (t:=(a0.Kind == 0)) rfl (fun c32 => ?_) (fun c32 => ?_)
 ·replace h:=Zo c32 h
  refine zQD [4] [none,none,none,none] ?_
  exact Yi [(vB (cond ((a0.Words.length:Int) == 0) ((a0.Kids.length:Int) == 0) false))]
 replace h:=Zn c32 h
 refine Qp [1,2] [true] ?_
 refine Zg ?_
 refine zQ [1,2,23] ?_
 refine Zq (t:=(a0.Kind == 10)) rfl (fun c31 => ?_) (fun c31 => ?_)
 ·replace h:=Zo c31 h
  refine zQD [4] [none,none,none,none] ?_
  exact Yi [(vB (cond ((a0.Words.length:Int) == 1) ((a0.Kids.length:Int) == 0) false))]
 replace h:=Zn c31 h
 refine Qp [1,2] [true] ?_
 refine Zg ?_
 refine zQD [1,2,68] [none,none,none,none,none,none,none,none,none,none,none,none,none,none,none,none,none,none,none,none,none,none] ?_
 refine Zq (t:=(cond (cond (cond (cond (cond (decide (a0.Kind < 0)) true (decide (10 < a0.Kind))) true (a1 == 0)) true (decide (65536≤(a0.Words.length:Int)))) true (cond (a0.Kind == 1) (decide (65536≤(a0.Kids.length:Int))) false)) true (decide (1048576≤(a0.Kids.length:Int))))) rfl (fun c30 => ?_) (fun c30 => ?_)
 ·replace h:=Zo c30 h
  refine zQ [4] ?_
  exact Yi [(vB false)]
 replace h:=Zn c30 h
 refine Qp [1,2] [true] ?_
 refine Zg ?_
 refine zQD [1,2,77] [none,none,none,none] ?_
 refine Zq (t:=(cond (decide (1 < a0.Kind)) (decide (0 < (a0.Words.length:Int))) false)) rfl (fun c29 => ?_) (fun c29 => ?_)
 ·replace h:=Zo c29 h
  refine zQ [4] ?_
  exact Yi [(vB false)]
 replace h:=Zn c29 h
 refine Qp [1,2] [true] ?_
 refine Zg ?_
 refine zQd [1,2,5] [1,2,5] [true] ?_
 obtain ⟨z28,hz28,h⟩:=bC h
 refine K3 (J:=(Y6 (fun z28=>JR n (⟨132,[],[(4,(vB false))]⟩:Env) (Zu O n [none]) (n+1)) (fun z28=>JX 0 n (⟨132,[],[]⟩:Env) (Zu O n [none]) (n+1)))) (z:=z28) ?_ fun hw => ?_
 ·refine Y2 hz28 (fun s0_=>⟨132,[],[(1,(vI a1)),(2,.ref n 0),(5,(vI s0_))]⟩) (fun s0_=>(Zu O n [some ⟨false,25,3,1,(Zf a0)⟩])) (Y6 (fun z28=>JR n (⟨132,[],[(4,(vB false))]⟩:Env) (Zu O n [none]) (n+1)) (fun z28=>JX 0 n (⟨132,[],[]⟩:Env) (Zu O n [none]) (n+1))) ?_
  intro s0_ x0_ hs0_
  unfold Vx at hs0_
  try dsimp only
  refine Zg ?_
  refine zQ [1,2,5,82] ?_
  refine Zq (t:=(decide (s0_ < (a0.Kids.length:Int)))) rfl (fun c27 => ?_) (fun c27 => ?_)
  ·replace hs0_:=Zo c27 hs0_
   refine Qp [1,2,5] [true] ?_
   refine Zg ?_
   refine Z9 ?_
   refine Zg ?_
   obtain ⟨x2,hx2,ax2,bx2,cx2,hs0_⟩:=bE (f:=Za) Vh (fun _=>rfl) (by decide) hs0_
   refine Zcw [] ax2 bx2 cx2 ?_
   refine zDs [1,2,5,6] [true,true] ?_
   refine Zg ?_
   obtain ⟨y4,hy4,hs0_⟩:=bC hs0_
   refine zCd (Zox hy4) [1,2,5,6,94] [true,true] ?_
   refine Zq (t:=(!y4)) rfl (fun c26 => ?_) (fun c26 => ?_)
   ·replace hs0_:=Zo c26 hs0_
    refine zQ [4] ?_
    refine zW ?_
    exact zEy hs0_
   replace hs0_:=Zn c26 hs0_
   refine Qp [1,2,5,6] [true,true] ?_
   refine zQD [1,2,5,6,7] [none,none,none] ?_
   obtain ⟨z9,hz9,hs0_⟩:=bC hs0_
   refine Yp (E':=⟨132,[],[(1,(vI a1)),(2,.ref n 0),(5,(vI s0_)),(131,(vB z9))]⟩) (O':=(Zu O n [some ⟨false,25,3,1,(Zf a0)⟩,none])) (n0:=(n+2)) ?_ ?_
   ·rcases Bool.eq_false_or_eq_true ((cond (decide (2≤a0.Kind)) (decide (a0.Kind≤7)) false) != (x2.Kind == 10)) with c18 | c18
    ·replace hz9:=Zo c18 hz9
     refine X3 Zz (by kernel_rfl) [none,none,none,none,none,none,none,none,some false,some false,some false,some false,some false,some false,some false,some false,some false,some false,some false,some false] (by kernel_rfl) ?_
     refine zX1 c18 ?_
     refine zG ?_
     exact Qm hz9 c18
    replace hz9:=Zn c18 hz9
    rcases Bool.eq_false_or_eq_true (a0.Kind == 9) with c19 | c19
    ·replace hz9:=Zo c19 hz9
     try rw [c19] at c18
     try simp only [Bool.cond_true,Bool.cond_false,Bool.true_bne,Bool.false_bne,Bool.true_beq,Bool.false_beq,Bool.not_eq_true',Bool.not_eq_false'] at c18
     rcases Bool.eq_false_or_eq_true (x2.Kind != 1) with c20 | c20
     ·replace hz9:=Zo c20 hz9
      try rw [c20] at c18
      try rw [c20] at c19
      try simp only [Bool.cond_true,Bool.cond_false,Bool.true_bne,Bool.false_bne,Bool.true_beq,Bool.false_beq,Bool.not_eq_true',Bool.not_eq_false'] at c18
      refine X3 Zz (by kernel_rfl) [none,none,none,none,none,none,none,none,some false,some false,some false,some false,some false,some false,some false,some false,some false,some false,some false,some false] (by kernel_rfl) ?_
      refine zX3 c18 c19 c20 ?_
      refine zG ?_
      exact Zej hz9 c18 c19 c20
     replace hz9:=Zn c20 hz9
     try rw [c20] at c18
     try rw [c20] at c19
     try simp only [Bool.cond_true,Bool.cond_false,Bool.true_bne,Bool.false_bne,Bool.true_beq,Bool.false_beq,Bool.not_eq_true',Bool.not_eq_false'] at c18
     rcases Bool.eq_false_or_eq_true (decide (2≤a0.Kind)) with c21 | c21
     ·replace hz9:=Zo c21 hz9
      try rw [c21] at c18
      try rw [c21] at c19
      try rw [c21] at c20
      try simp only [Bool.cond_true,Bool.cond_false,Bool.true_bne,Bool.false_bne,Bool.true_beq,Bool.false_beq,Bool.not_eq_true',Bool.not_eq_false'] at c18
      rcases Bool.eq_false_or_eq_true (decide (a0.Kind≤7)) with c22 | c22
      ·replace hz9:=Zo c22 hz9
       try rw [c22] at c18
       try rw [c22] at c19
       try rw [c22] at c20
       try rw [c22] at c21
       try simp only [Bool.cond_true,Bool.cond_false,Bool.true_bne,Bool.false_bne,Bool.true_beq,Bool.false_beq,Bool.not_eq_true',Bool.not_eq_false'] at c18
       obtain ⟨x14,hx14,ax14,bx14,cx14,hz9⟩:=bE (f:=(eI .u64)) Zh6 (fun _=>rfl) (by decide) hz9
       obtain ⟨y15,hy15,hz9⟩:=bC hz9
       refine X3 Zz (by kernel_rfl) [none,none,none,none,none,none,none,none,some true,some true,some true,some true,some true,some true,some true,some true,some true,some true,some true,some true] (by kernel_rfl) ?_
       refine zF8 c18 c19 c20 c21 c22 ax14 bx14 cx14 ?_
       refine zG ?_
       refine PCall.of (Zj8 hy15) ?_
       refine zF8 c18 c19 c20 c21 c22 ax14 bx14 cx14 ?_
       refine zG ?_
       exact Yhi hz9 c18 c19 c20 c21 c22 ax14 bx14 cx14
      replace hz9:=Zn c22 hz9
      try rw [c22] at c18
      try rw [c22] at c19
      try rw [c22] at c20
      try rw [c22] at c21
      try simp only [Bool.cond_true,Bool.cond_false,Bool.true_bne,Bool.false_bne,Bool.true_beq,Bool.false_beq,Bool.not_eq_true',Bool.not_eq_false'] at c18
      refine X3 Zz (by kernel_rfl) [none,none,none,none,none,none,none,none,some true,some true,some false,some false,some false,some false,some false,some false,some false,some false,some false,some true] (by kernel_rfl) ?_
      refine zX5 c18 c19 c20 c21 c22 ?_
      refine zG ?_
      exact Zwk hz9 c18 c19 c20 c21 c22
     replace hz9:=Zn c21 hz9
     try rw [c21] at c18
     try rw [c21] at c19
     try rw [c21] at c20
     try simp only [Bool.cond_true,Bool.cond_false,Bool.true_bne,Bool.false_bne,Bool.true_beq,Bool.false_beq,Bool.not_eq_true',Bool.not_eq_false'] at c18
     refine X3 Zz (by kernel_rfl) [none,none,none,none,none,none,none,none,some true,some true,some false,some false,some false,some false,some false,some false,some false,some false,some false,some true] (by kernel_rfl) ?_
     refine zX4 c18 c19 c20 c21 ?_
     refine zG ?_
     exact Zmr hz9 c18 c19 c20 c21
    replace hz9:=Zn c19 hz9
    try rw [c19] at c18
    try simp only [Bool.cond_true,Bool.cond_false,Bool.true_bne,Bool.false_bne,Bool.true_beq,Bool.false_beq,Bool.not_eq_true',Bool.not_eq_false'] at c18
    rcases Bool.eq_false_or_eq_true (decide (2≤a0.Kind)) with c23 | c23
    ·replace hz9:=Zo c23 hz9
     try rw [c23] at c18
     try rw [c23] at c19
     try simp only [Bool.cond_true,Bool.cond_false,Bool.true_bne,Bool.false_bne,Bool.true_beq,Bool.false_beq,Bool.not_eq_true',Bool.not_eq_false'] at c18
     rcases Bool.eq_false_or_eq_true (decide (a0.Kind≤7)) with c24 | c24
     ·replace hz9:=Zo c24 hz9
      try rw [c24] at c18
      try rw [c24] at c19
      try rw [c24] at c23
      try simp only [Bool.cond_true,Bool.cond_false,Bool.true_bne,Bool.false_bne,Bool.true_beq,Bool.false_beq,Bool.not_eq_true',Bool.not_eq_false'] at c18
      obtain ⟨x16,hx16,ax16,bx16,cx16,hz9⟩:=bE (f:=(eI .u64)) Zh6 (fun _=>rfl) (by decide) hz9
      obtain ⟨y17,hy17,hz9⟩:=bC hz9
      refine X3 Zz (by kernel_rfl) [none,none,none,none,none,none,none,none,some true,some true,some true,some true,some true,some true,some true,some true,some true,some true,some true,some true] (by kernel_rfl) ?_
      refine zF7 c18 c19 c23 c24 ax16 bx16 cx16 ?_
      refine zG ?_
      refine PCall.of (Zj8 hy17) ?_
      refine zF7 c18 c19 c23 c24 ax16 bx16 cx16 ?_
      refine zG ?_
      exact Ybm hz9 c18 c19 c23 c24 ax16 bx16 cx16
     replace hz9:=Zn c24 hz9
     try rw [c24] at c18
     try rw [c24] at c19
     try rw [c24] at c23
     try simp only [Bool.cond_true,Bool.cond_false,Bool.true_bne,Bool.false_bne,Bool.true_beq,Bool.false_beq,Bool.not_eq_true',Bool.not_eq_false'] at c18
     refine X3 Zz (by kernel_rfl) [none,none,none,none,none,none,none,none,some true,some true,some false,some false,some false,some false,some false,some false,some false,some false,some false,some true] (by kernel_rfl) ?_
     refine zX4 c18 c19 c23 c24 ?_
     refine zG ?_
     exact Zmr hz9 c18 c19 c23 c24
    replace hz9:=Zn c23 hz9
    try rw [c23] at c18
    try rw [c23] at c19
    try simp only [Bool.cond_true,Bool.cond_false,Bool.true_bne,Bool.false_bne,Bool.true_beq,Bool.false_beq,Bool.not_eq_true',Bool.not_eq_false'] at c18
    refine X3 Zz (by kernel_rfl) [none,none,none,none,none,none,none,none,some true,some true,some false,some false,some false,some false,some false,some false,some false,some false,some false,some true] (by kernel_rfl) ?_
    refine zX3 c18 c19 c23 ?_
    refine zG ?_
    exact Zej hz9 c18 c19 c23
   refine Zq (t:=z9) rfl (fun c25 => ?_) (fun c25 => ?_)
   ·replace hs0_:=Zo c25 hs0_
    refine zQ [4] ?_
    refine zW ?_
    exact zEy hs0_
   replace hs0_:=Zn c25 hs0_
   refine Qp [1,2,5] [true,false] ?_
   refine zR ?_
   exact Gw hs0_
  replace hs0_:=Zn c27 hs0_
  exact zEx hs0_
 rcases z28 with z28 | z28
 ·dsimp only [Y6] at hw h
  refine X1 hw ?_
  try simp only [Ym,Z4,↓reduceIte,Nat.reduceEqDiff]
  exact Zgn [(vB false)]
 dsimp only [Y6] at hw h
 refine Yg hw ?_
 try simp only [Ym,Z4,↓reduceIte,Nat.reduceEqDiff]
 refine zD [] [false] ?_
 refine zQ [4] ?_
 exact Yi [(vB true)]
theorem Zne:∀ k,(Zic (Ju k)):=fun k=>by
 induction k with
 | zero=>exact @fun a0 a1 r O n h=>(nomatch (show (none:Option _)=some _ from h))
 | succ k ih=>exact @fun a0 a1 r O n h=>Zph (ih)  h
theorem Gv {a0:Zb} {a1:Int} {r:Bool} {O:Objs} {n:Nat} (h:V8 a0 a1=some r):GTo Try.prog 33 [.agg (Zf a0),(vI a1)] O n ((vB r)) O n:=by
 obtain ⟨k,hk⟩:=V0 h
 exact (Zne k)  hk
theorem Uc {a0:Zb} {r:Bool} {O:Objs} {n:Nat} (h:U5 a0=some r):GTo Try.prog 19 [.agg (Zf a0)] O n ((vB r)) O n:=by
 unfold U5 at h
 refine zFn Try.call19 Try.func19 fun hU hN0 hN => ?_
 show W _ _ _ _ ⟨14,[],[(0,.agg (Zf a0))]⟩ (Zu O n []) _
 refine zQ [1] ?_
 obtain ⟨z3,hz3,h⟩:=bC h
 refine Yp (E':=⟨14,[],[(2,(vB z3))]⟩) (O':=(Zu O n [none])) (n0:=(n+1)) ?_ ?_
 ·obtain ⟨y6,hy6,hz3⟩:=bC hz3
  rcases Bool.eq_false_or_eq_true y6 with c8 | c8
  ·replace hz3:=Zo c8 hz3
   obtain ⟨y7,hy7,hz3⟩:=bC hz3
   refine Jb [some true,some true,none,none,none] c8 ?_
   refine zG ?_
   refine (Zk6 hy6).then ?_
   refine zX1 c8 ?_
   refine zG ?_
   refine (Gv hy7).then ?_
   refine zX1 c8 ?_
   refine zG ?_
   exact Qm hz3 c8
  replace hz3:=Zn c8 hz3
  refine Jb [some false,some false,some false,some false,some false] c8 ?_
  refine (Zk6 hy6).then ?_
  refine zX1 c8 ?_
  exact Qm hz3 c8
 exact Yi [(vB z3)]
def Zi4 (Qb:(Zc→Int→Int→Option Int)):Prop:=∀ {a0:Zc} {a1:Int} {a2:Int} {r:Int} {O:Objs} {n:Nat},Qb a0 a1 a2=some r→GTo Try.prog 65 [.agg (Ze a0),(vI a1),(vI a2)] O n ((vI r)) O n
theorem Zrd {Qb:(Zc→Int→Int→Option Int)} (Zi6:Zi4 Qb) {a0:Zc} {a1:Int} {a2:Int} {r:Int} {O:Objs} {n:Nat} (h:Qn Qb a0 a1 a2=some r):GTo Try.prog 65 [.agg (Ze a0),(vI a1),(vI a2)] O n ((vI r)) O n:=by
 unfold Qn at h
 refine zFn Try.call65 Try.func65 fun hU hN0 hN => ?_
 show W _ _ _ _ ⟨107,[],[(0,.agg (Ze a0)),(1,(vI a1)),(2,(vI a2))]⟩ (Zu O n []) _
 refine zQ [1,2,3] ?_
 refine zQ [1,2,3] ?_
 refine Zg ?_
 refine zQD [1,2,3,25] [none,none] ?_
 refine Zq (t:=(cond (a1 == 0) true (decide ((IntKind.i64.wrap ((IntKind.i64.wrap ((IntKind.i64.wrap (a2 - 1)) - (a0.Words.length:Int))) - (a0.Ops.length:Int))) < 0)))) rfl (fun c28 => ?_) (fun c28 => ?_)
 ·replace h:=Zo c28 h
  refine zQ [6] ?_
  exact Yi [(vI (-1))]
 replace h:=Zn c28 h
 refine Qp [1,2,3] [true] ?_
 refine Zg ?_
 obtain ⟨y2,hy2,h⟩:=bC h
 refine zCd (Za2 hy2) [1,2,3] [true] ?_
 obtain ⟨z3,hz3,h⟩:=bC h
 refine Yp (E':=⟨107,[],[(1,(vI a1)),(2,(vI z3)),(3,.ref n 0)]⟩) (O':=(Zu O n [some ⟨false,30,11,1,(Ze a0)⟩])) (n0:=(n+1)) ?_ ?_
 ·refine zQ [1,2,3,31] ?_
  refine Zq (t:=(decide (0≤y2))) rfl (fun c5 => ?_) (fun c5 => ?_)
  ·replace hz3:=Zo c5 hz3
   obtain ⟨y4,hy4,hz3⟩:=bC hz3
   refine zC (Za2 hy4) ?_
   exact Gw hz3
  replace hz3:=Zn c5 hz3
  refine zK ?_
  exact Gw hz3
 refine Zg ?_
 refine zQd [1,2,3,7] [1,2,3,7] [true] ?_
 obtain ⟨z10,hz10,h⟩:=bC h
 refine Yg (E':=⟨107,[],[(1,(vI a1)),(2,(vI z10)),(3,.ref n 0)]⟩) (O':=(Zu O n [some ⟨false,30,11,1,(Ze a0)⟩])) (n0:=(n+1)) ?_ ?_
 ·refine Y2 hz10 (fun s0_=>⟨107,[],[(1,(vI a1)),(2,(vI s0_.1)),(3,.ref n 0),(7,(vI s0_.2))]⟩) (fun s0_=>(Zu O n [some ⟨false,30,11,1,(Ze a0)⟩])) (fun z10=>JX 0 n (⟨107,[],[(1,(vI a1)),(2,(vI z10)),(3,.ref n 0)]⟩:Env) (Zu O n [some ⟨false,30,11,1,(Ze a0)⟩]) (n+1)) ?_
  intro s0_ x0_ hs0_
  unfold X5 at hs0_
  try dsimp only
  refine Zg ?_
  refine zQD [1,2,3,7,44] [none,none] ?_
  refine Zq (t:=(cond (decide (s0_.2 < (a0.Kids.length:Int))) (decide (0≤s0_.1)) false)) rfl (fun c9 => ?_) (fun c9 => ?_)
  ·replace hs0_:=Zo c9 hs0_
   refine Qp [1,2,3,7] [true] ?_
   refine Zg ?_
   refine Z9 ?_
   obtain ⟨x6,hx6,ax6,bx6,cx6,hs0_⟩:=bE (f:=Zi) Zkq (fun _=>rfl) (by decide) hs0_
   have g7:=Ks (f:=Zi) (off:=1) (sz:=12) Zmq (fun _=>rfl) (by decide) (by decide) hx6
   obtain ⟨y8,hy8,hs0_⟩:=bC hs0_
   refine Zrm [] ax6 bx6 cx6 g7 ?_
   refine (Zi6 hy8).then ?_
   refine zF4 ax6 bx6 cx6 g7 ?_
   refine zD [1,2,3,7] [true] ?_
   refine zR ?_
   exact Gw hs0_
  replace hs0_:=Zn c9 hs0_
  exact zEx hs0_
 try simp only [Ym,Z4,↓reduceIte,Nat.reduceEqDiff]
 refine zDs [1,2,3] [true] ?_
 refine zQd [1,2,3,8] [1,2,3,8] [true] ?_
 obtain ⟨z27,hz27,h⟩:=bC h
 refine Yg (E':=⟨107,[],[(2,(vI z27))]⟩) (O':=(Zu O n [none])) (n0:=(n+1)) ?_ ?_
 ·refine Y2 hz27 (fun s1_=>⟨107,[],[(1,(vI a1)),(2,(vI s1_.1)),(3,.ref n 0),(8,(vI s1_.2))]⟩) (fun s1_=>(Zu O n [some ⟨false,30,11,1,(Ze a0)⟩])) (fun z27=>JX 2 n (⟨107,[],[(2,(vI z27))]⟩:Env) (Zu O n [none]) (n+1)) ?_
  intro s1_ x1_ hs1_
  unfold X6 at hs1_
  try dsimp only
  refine Zg ?_
  refine zQD [1,2,3,8,65] [none,none] ?_
  refine Zq (t:=(cond (decide (s1_.2 < (a0.Ops.length:Int))) (decide (0≤s1_.1)) false)) rfl (fun c26 => ?_) (fun c26 => ?_)
  ·replace hs1_:=Zo c26 hs1_
   refine Qp [1,2,3,8] [true] ?_
   obtain ⟨z11,hz11,hs1_⟩:=bC hs1_
   refine Yp (E':=⟨107,[],[(1,(vI a1)),(2,(vI z11)),(3,.ref n 0),(8,(vI s1_.2))]⟩) (O':=(Zu O n [some ⟨false,30,11,1,(Ze a0)⟩])) (n0:=(n+1)) ?_ ?_
   ·refine Z9 ?_
    refine Zg ?_
    refine zQd [1,2,3,8,9] [1,2,3,8,9] [true] ?_
    obtain ⟨z21,hz21,hz11⟩:=bC hz11
    refine Yg (E':=⟨107,[],[(1,(vI a1)),(2,(vI z21)),(3,.ref n 0),(8,(vI s1_.2))]⟩) (O':=(Zu O n [some ⟨false,30,11,1,(Ze a0)⟩])) (n0:=(n+1)) ?_ ?_
    ·refine Y2 hz21 (fun s2_=>⟨107,[],[(1,(vI a1)),(2,(vI s2_.1)),(3,.ref n 0),(8,(vI s1_.2)),(9,(vI s2_.2))]⟩) (fun s2_=>(Zu O n [some ⟨false,30,11,1,(Ze a0)⟩])) (fun z21=>JX 4 n (⟨107,[],[(1,(vI a1)),(2,(vI z21)),(3,.ref n 0),(8,(vI s1_.2))]⟩:Env) (Zu O n [some ⟨false,30,11,1,(Ze a0)⟩]) (n+1)) ?_
     intro s2_ x2_ hs2_
     unfold Qt at hs2_
     try dsimp only
     refine Zg ?_
     obtain ⟨x14,hx14,ax14,bx14,cx14,hs2_⟩:=bE (f:=Zd) Zbe (fun _=>rfl) (by decide) hs2_
     have g15:=Ks (f:=Zd) (off:=2) (sz:=14) Z1e (fun _=>rfl) (by decide) (by decide) hx14
     refine Zll [1,2,3,8,9,80] (Yw Zz [none,none] ?_)
     refine zF4 ax14 bx14 cx14 g15 ?_
     refine zG ?_
     refine Zq (t:=(cond (decide (s2_.2 < (x14.L.length:Int))) (decide (0≤s2_.1)) false)) rfl (fun c20 => ?_) (fun c20 => ?_)
     ·replace hs2_:=Zo c20 hs2_
      refine Qp [1,2,3,8,9] [true] ?_
      refine Zg ?_
      refine Z9 ?_
      obtain ⟨x16,hx16,ax16,bx16,cx16,hs2_⟩:=bE (f:=Zd) Zbe (fun _=>rfl) (by decide) hs2_
      have g17:=Ks (f:=Zd) (off:=2) (sz:=14) Z1e (fun _=>rfl) (by decide) (by decide) hx16
      obtain ⟨x18,hx18,ax18,bx18,cx18,hs2_⟩:=bE (f:=Za) Vh (fun _=>rfl) (by decide) hs2_
      obtain ⟨y19,hy19,hs2_⟩:=bC hs2_
      refine Ybp [] ax16 bx16 cx16 g17 ax18 bx18 cx18 ?_
      refine (Za2 hy19).then ?_
      refine zF7 ax16 bx16 cx16 g17 ax18 bx18 cx18 ?_
      refine zD [1,2,3,8,9] [true] ?_
      refine zR ?_
      exact Gw hs2_
     replace hs2_:=Zn c20 hs2_
     exact zEx hs2_
    try simp only [Ym,Z4,↓reduceIte,Nat.reduceEqDiff]
    refine zD [1,2,3,8] [true] ?_
    refine zQ [1,2,3,8,95] ?_
    refine Zq (t:=(decide (0≤z21))) rfl (fun c25 => ?_) (fun c25 => ?_)
    ·replace hz11:=Zo c25 hz11
     obtain ⟨x22,hx22,ax22,bx22,cx22,hz11⟩:=bE (f:=Zd) Zbe (fun _=>rfl) (by decide) hz11
     have g23:=Ks (f:=Zd) (off:=3) (sz:=14) Zmq (fun _=>rfl) (by decide) (by decide) hx22
     obtain ⟨y24,hy24,hz11⟩:=bC hz11
     refine Zrm [] ax22 bx22 cx22 g23 ?_
     refine (Zi6 hy24).then ?_
     refine zF4 ax22 bx22 cx22 g23 ?_
     exact Ybl hz11 ax22 bx22 cx22 g23
    replace hz11:=Zn c25 hz11
    refine zK ?_
    exact Gw hz11
   refine zR ?_
   exact Gw hs1_
  replace hs1_:=Zn c26 hs1_
  exact zEx hs1_
 try simp only [Ym,Z4,↓reduceIte,Nat.reduceEqDiff]
 refine zD [2] [false] ?_
 refine zQ [6] ?_
 exact Yi [(vI z27)]
theorem Zou:∀ k,(Zi4 (Yd k)):=fun k=>by
 induction k with
 | zero=>exact @fun a0 a1 a2 r O n h=>(nomatch (show (none:Option _)=some _ from h))
 | succ k ih=>exact @fun a0 a1 a2 r O n h=>Zrd (ih)  h
theorem Zrx {a0:Zc} {a1:Int} {a2:Int} {r:Int} {O:Objs} {n:Nat} (h:Zeu a0 a1 a2=some r):GTo Try.prog 65 [.agg (Ze a0),(vI a1),(vI a2)] O n ((vI r)) O n:=by
 obtain ⟨k,hk⟩:=V0 h
 exact (Zou k)  hk
theorem Zhz {a0:Zc} {r:Bool} {O:Objs} {n:Nat} (h:V9 a0=some r):GTo Try.prog 42 [.agg (Ze a0)] O n ((vB r)) O n:=by
 unfold V9 at h
 refine zFn Try.call42 Try.func42 fun hU hN0 hN => ?_
 show W _ _ _ _ ⟨6,[],[(0,.agg (Ze a0))]⟩ (Zu O n []) _
 refine zQ [1] ?_
 refine Zg ?_
 obtain ⟨y2,hy2,h⟩:=bC h
 refine zCd (Zrx hy2) [2] [false] ?_
 exact Yi [(vB (decide (0≤y2)))]
theorem Ue {a0:Zb} {r:Bool} {O:Objs} {n:Nat} (h:J0 a0=some r):GTo Try.prog 66 [.agg (Zf a0)] O n ((vB r)) O n:=by
 unfold J0 at h
 refine zFn Try.call66 Try.func66 fun hU hN0 hN => ?_
 show W _ _ _ _ ⟨16,[],[(0,.agg (Zf a0))]⟩ (Zu O n []) _
 refine zQ [1] ?_
 refine zQD [2] [none,none,none,none,none,none,none,none] ?_
 exact Yi [(vB (cond (a0.Kind == 0) ((IntKind.i64.wrap ((a0.Words.length:Int)+(a0.Kids.length:Int))) == 0) false))]
theorem Zjj {a0:Int} {r:(Arr Int 8)} {O:Objs} {n:Nat} (h:V7 a0=some r):GTo Try.prog 136 [.val (.int .u64 a0)] O n (.agg (fl (eI .u8) r.1)) O n:=by
 unfold V7 at h
 refine zFn Try.call136 Try.func136 fun hU hN0 hN => ?_
 show W _ _ _ _ ⟨18,[],[(0,.val (.int .u64 a0))]⟩ (Zu O n []) _
 obtain ⟨y3,hy3,ey3,h⟩:=bY (f:=(eI .u8)) (cs:=[.val (.int .u8 0),.val (.int .u8 0),.val (.int .u8 0),.val (.int .u8 0),.val (.int .u8 0),.val (.int .u8 0),.val (.int .u8 0),.val (.int .u8 0)]) rfl h
 have g4:=congrArg (GObj.mk false 154 8 1) ey3
 refine Ylq [0,2] g4 ?_
 refine Zg ?_
 obtain ⟨y9,hy9,ey9,h⟩:=bY (f:=(eI .u8)) (cs:=[.val (.int .u8 0),.val (.int .u8 0),.val (.int .u8 0),.val (.int .u8 0),.val (.int .u8 0),.val (.int .u8 0),.val (.int .u8 0),.val (.int .u8 0)]) rfl h
 have g10:=congrArg G.agg ey9
 have g11:=congrArg (GObj.mk false 154 8 1) ey9
 have g12:=Zj0 (f:=(eI .u8)) y9 y9 (fun _=>rfl)
 refine Zbf [] g10 g11 g12 ?_
 refine zDs [0,2,3] [true,true] ?_
 refine zQd [0,2,3,4] [0,2,3,4] [true,true] ?_
 obtain ⟨z18,hz18,h⟩:=bC h
 refine Yg (E':=⟨18,[],[(2,.ref n 0),(3,.ref (n+1) 0)]⟩) (O':=(Zu O n [some ⟨false,154,8,1,fl (eI .u8) y3.1⟩,some ⟨false,154,8,1,fl (eI .u8) z18.1⟩])) (n0:=(n+2)) ?_ ?_
 ·refine Y2 hz18 (fun s0_=>⟨18,[],[(0,.val (.int .u64 s0_.1)),(2,.ref n 0),(3,.ref (n+1) 0),(4,(vI s0_.2.1))]⟩) (fun s0_=>(Zu O n [some ⟨false,154,8,1,fl (eI .u8) y3.1⟩,some ⟨false,154,8,1,fl (eI .u8) s0_.2.2.1⟩])) (fun z18=>JX 0 n (⟨18,[],[(2,.ref n 0),(3,.ref (n+1) 0)]⟩:Env) (Zu O n [some ⟨false,154,8,1,fl (eI .u8) y3.1⟩,some ⟨false,154,8,1,fl (eI .u8) z18.1⟩]) (n+2)) ?_
  intro s0_ x0_ hs0_
  unfold V1 at hs0_
  try dsimp only
  refine Zg ?_
  refine zQ [0,2,3,4,7] ?_
  refine Zq (t:=(decide (s0_.2.1 < 8))) rfl (fun c17 => ?_) (fun c17 => ?_)
  ·replace hs0_:=Zo c17 hs0_
   refine Qp [0,2,3,4] [true,true] ?_
   refine Zg ?_
   refine Z9 ?_
   refine Zg ?_
   obtain ⟨x15,hx15,ax15,bx15,cx15,hs0_⟩:=bEA (f:=(eI .u8)) (b:=8) rfl Z5o (fun _=>rfl) (by decide) hs0_
   have gu16:Ke (fl (eI .u8) s0_.2.2.1) [.val (.int .u8 (IntKind.u8.wrap (Int.tmod s0_.1 256)))] (Int.toNat s0_.2.1 * 1)=some (fl (eI .u8) (Zf0 s0_.2.2.1 s0_.2.1 (IntKind.u8.wrap (Int.tmod s0_.1 256)))):=Zl6 (f:=(eI .u8)) (ti:=⟨.bool,1,0,[],false⟩) (x:=(IntKind.u8.wrap (Int.tmod s0_.1 256))) (fun _=>rfl) (Zge hx15)
   refine Zrm [] ax15 bx15 cx15 gu16 ?_
   refine zD [0,2,3,4] [true,true] ?_
   refine zRd [0,2,3,4] [true,true] ?_
   refine zR ?_
   exact Gw hs0_
  replace hs0_:=Zn c17 hs0_
  exact zEx hs0_
 try simp only [Ym,Z4,↓reduceIte,Nat.reduceEqDiff]
 refine zDs [2,3] [true,true] ?_
 have g21:=Z2h (f:=(eI .u8)) z18 Zv1 rfl (fun _=>rfl) rfl
 have g22:=Zj0 (f:=(eI .u8)) y3 z18 (fun _=>rfl)
 refine Jn [] g21 g22 ?_
 refine zD [2] [true,false] ?_
 refine zW ?_
 have h:=Option.some.inj h;subst h
 have gR0:=Z2h (f:=(eI .u8)) z18 Zv1 rfl (fun _=>rfl) rfl
 refine Z3b (.inr rfl) hU [.agg (fl (eI .u8) z18.1)] (by omega) ?_
 simp only [push_cast,seval,↓reduceIte,Zm,Try.results136,hN0,hN,gR0]
theorem Zq5 {a0:Int} {a1:Int} {r:Bool} {O:Objs} {n:Nat} (h:Zar a0 a1=some r):GTo Try.prog 137 [.val (.int .u8 a0),(vI a1)] O n ((vB r)) O n:=by
 unfold Zar at h
 refine zFn Try.call137 Try.func137 fun hU hN0 hN => ?_
 show W _ _ _ _ ⟨16,[],[(0,.val (.int .u8 a0)),(1,(vI a1))]⟩ (Zu O n []) _
 refine zQ [0,1] ?_
 refine Zg ?_
 refine zQd [0,1,5] [0,1,5] [] ?_
 obtain ⟨z2,hz2,h⟩:=bC h
 refine Yg (E':=⟨16,[],[(0,.val (.int .u8 z2))]⟩) (O':=(Zu O n [])) (n0:=n) ?_ ?_
 ·refine Y2 hz2 (fun s0_=>⟨16,[],[(0,.val (.int .u8 s0_.1)),(1,(vI a1)),(5,(vI s0_.2))]⟩) (fun s0_=>(Zu O n [])) (fun z2=>JX 0 n (⟨16,[],[(0,.val (.int .u8 z2))]⟩:Env) (Zu O n []) n) ?_
  intro s0_ x0_ hs0_
  unfold Ka at hs0_
  try dsimp only
  refine Zg ?_
  refine zQ [0,1,5,8] ?_
  refine Zq (t:=(decide (s0_.2 < a1))) rfl (fun c1 => ?_) (fun c1 => ?_)
  ·replace hs0_:=Zo c1 hs0_
   refine Qp [0,1,5] [] ?_
   refine Zg ?_
   refine Z9 ?_
   refine zRd [0,1,5] [] ?_
   refine zR ?_
   exact Gw hs0_
  replace hs0_:=Zn c1 hs0_
  exact zEx hs0_
 try simp only [Ym,Z4,↓reduceIte,Nat.reduceEqDiff]
 refine zD [0] [] ?_
 refine zQ [4] ?_
 exact Yi [(vB ((Int.tmod z2 2) == 1))]
theorem Zvq {a0:(List Int)} {a1:Int} {r:Int} {O:Objs} {n:Nat} (h:Zgs a0 a1=some r):GTo Try.prog 138 [(sL (eI .u8) a0),(vI a1)] O n (.val (.int .u64 r)) O n:=by
 unfold Zgs at h
 refine zFn Try.call138 Try.func138 fun hU hN0 hN => ?_
 show W _ _ _ _ ⟨22,[],[(0,(sL (eI .u8) a0)),(1,(vI a1))]⟩ (Zu O n []) _
 refine zQ [0,1] ?_
 refine zQ [0,1,5] ?_
 refine Zg ?_
 refine zQd [0,1,5,6] [0,1,5,6] [] ?_
 obtain ⟨z3,hz3,h⟩:=bC h
 refine Yg (E':=⟨22,[],[(5,.val (.int .u64 z3))]⟩) (O':=(Zu O n [])) (n0:=n) ?_ ?_
 ·refine Y2 hz3 (fun s0_=>⟨22,[],[(0,(sL (eI .u8) a0)),(1,(vI a1)),(5,.val (.int .u64 s0_.1)),(6,(vI s0_.2))]⟩) (fun s0_=>(Zu O n [])) (fun z3=>JX 0 n (⟨22,[],[(5,.val (.int .u64 z3))]⟩:Env) (Zu O n []) n) ?_
  intro s0_ x0_ hs0_
  unfold Zas at hs0_
  try dsimp only
  refine Zg ?_
  refine zQ [0,1,5,6,8] ?_
  refine Zq (t:=(decide (0≤s0_.2))) rfl (fun c2 => ?_) (fun c2 => ?_)
  ·replace hs0_:=Zo c2 hs0_
   refine Qp [0,1,5,6] [] ?_
   refine Zg ?_
   refine Z9 ?_
   obtain ⟨x1,hx1,ax1,bx1,cx1,hs0_⟩:=bE (f:=(eI .u8)) Z5o (fun _=>rfl) (by decide) hs0_
   refine Zcw [] ax1 bx1 cx1 ?_
   refine zD [0,1,5,6] [] ?_
   refine zR ?_
   exact Gw hs0_
  replace hs0_:=Zn c2 hs0_
  exact zEx hs0_
 try simp only [Ym,Z4,↓reduceIte,Nat.reduceEqDiff]
 refine zD [5] [] ?_
 refine zQ [4] ?_
 exact Yi [.val (.int .u64 z3)]
theorem Ztb {a0:Int} {a1:Int} {a2:Int} {r:Int} {O:Objs} {n:Nat} (h:Zdb a0 a1 a2=some r):GTo Try.prog 96 [.val (.int .u64 a0),.val (.int .u64 a1),.val (.int .u8 a2)] O n (.val (.int .u64 r)) O n:=by
 unfold Zdb at h
 refine zFn Try.call96 Try.func96 fun hU hN0 hN => ?_
 show W _ _ _ _ ⟨28,[],[(0,.val (.int .u64 a0)),(1,.val (.int .u64 a1)),(2,.val (.int .u8 a2))]⟩ (Zu O n []) _
 refine zQ [0,1,2] ?_
 refine Zg ?_
 obtain ⟨y8,hy8,h⟩:=bC h
 obtain ⟨y9,hy9,h⟩:=bC h
 obtain ⟨y10,hy10,ey10,h⟩:=bY (f:=(eI .u8)) (cs:=[.val (.int .u8 0),.val (.int .u8 0),.val (.int .u8 0),.val (.int .u8 0),.val (.int .u8 0),.val (.int .u8 0),.val (.int .u8 0),.val (.int .u8 0)]) rfl h
 have g11:=congrArg (GObj.mk false 154 8 1) ey10
 have g12:=congrArg (GObj.mk false 154 8 1) ey10
 have g13:=Zj0 (f:=(eI .u8)) y10 y8 (fun _=>rfl)
 have g14:=Zj0 (f:=(eI .u8)) y10 y9 (fun _=>rfl)
 refine Zms [] g11 g12 g13 g14 ?_
 refine (Zjj hy8).then ?_
 refine zX4 g11 g12 g13 g14 ?_
 refine (Zjj hy9).then ?_
 refine zX4 g11 g12 g13 g14 ?_
 refine zDs [2,7,8] [true,true] ?_
 refine zQd [2,7,8,9] [2,7,8,9] [true,true] ?_
 obtain ⟨z23,hz23,h⟩:=bC h
 refine Yg (E':=⟨28,[],[(7,.ref n 0)]⟩) (O':=(Zu O n [some ⟨false,154,8,1,fl (eI .u8) z23.1⟩,none])) (n0:=(n+2)) ?_ ?_
 ·refine Y2 hz23 (fun s0_=>⟨28,[],[(2,.val (.int .u8 a2)),(7,.ref n 0),(8,.ref (n+1) 0),(9,(vI s0_.1))]⟩) (fun s0_=>(Zu O n [some ⟨false,154,8,1,fl (eI .u8) s0_.2.1⟩,some ⟨false,154,8,1,fl (eI .u8) y9.1⟩])) (fun z23=>JX 0 n (⟨28,[],[(7,.ref n 0)]⟩:Env) (Zu O n [some ⟨false,154,8,1,fl (eI .u8) z23.1⟩,none]) (n+2)) ?_
  intro s0_ x0_ hs0_
  unfold Gt at hs0_
  try dsimp only
  refine Zg ?_
  refine zQ [2,7,8,9,15] ?_
  refine Zq (t:=(decide (s0_.1 < 8))) rfl (fun c22 => ?_) (fun c22 => ?_)
  ·replace hs0_:=Zo c22 hs0_
   refine Qp [2,7,8,9] [true,true] ?_
   obtain ⟨z15,hz15,hs0_⟩:=bC hs0_
   refine Yp (E':=⟨28,[],[(2,.val (.int .u8 a2)),(7,.ref n 0),(8,.ref (n+1) 0),(9,(vI s0_.1))]⟩) (O':=(Zu O n [some ⟨false,154,8,1,fl (eI .u8) z15.1⟩,some ⟨false,154,8,1,fl (eI .u8) y9.1⟩])) (n0:=(n+2)) ?_ ?_
   ·refine Z9 ?_
    refine Zg ?_
    obtain ⟨y17,hy17,hz15⟩:=bC hz15
    refine zCd (Zq5 hy17) [2,7,8,9,20] [true,true] ?_
    refine Zq (t:=y17) rfl (fun c21 => ?_) (fun c21 => ?_)
    ·replace hz15:=Zo c21 hz15
     obtain ⟨x18,hx18,ax18,bx18,cx18,hz15⟩:=bEA (f:=(eI .u8)) (b:=8) rfl Z5o (fun _=>rfl) (by decide) hz15
     obtain ⟨x19,hx19,ax19,bx19,cx19,hz15⟩:=bEA (f:=(eI .u8)) (b:=8) rfl Z5o (fun _=>rfl) (by decide) hz15
     have gu20:Ke (fl (eI .u8) s0_.2.1) [.val (.int .u8 x18)] (Int.toNat s0_.1 * 1)=some (fl (eI .u8) (Zf0 s0_.2.1 s0_.1 x18)):=Zl6 (f:=(eI .u8)) (ti:=⟨.bool,1,0,[],false⟩) (x:=x18) (fun _=>rfl) (Zge hx19)
     refine Ybp [] ax18 bx18 cx18 ax19 bx19 cx19 gu20 ?_
     exact Ybm hz15 ax18 bx18 cx18 ax19 bx19 cx19 gu20
    replace hz15:=Zn c21 hz15
    refine zK ?_
    exact Gw hz15
   refine zR ?_
   exact Gw hs0_
  replace hs0_:=Zn c22 hs0_
  exact zEx hs0_
 try simp only [Ym,Z4,↓reduceIte,Nat.reduceEqDiff]
 refine zDs [7] [true,false] ?_
 have g27:=Z8k (j:=n) Zpr Z5o (by decide)
 have g28:=z23.2
 obtain ⟨y29,hy29,h⟩:=bC h
 refine Jn [] g27 g28 ?_
 refine GCalls.lend (Zvq hy29) rfl ?_ ?_
 ·exact Js g27 g28
 refine zX2 g27 g28 ?_
 refine zD [6] [false,false] ?_
 exact Yi [.val (.int .u64 y29)]
theorem Zfh {a0:Int} {a1:Int} {r:Bool} {O:Objs} {n:Nat} (h:Vi a0 a1=some r):GTo Try.prog 67 [.val (.int .u64 a0),.val (.int .u8 a1)] O n ((vB r)) O n:=by
 unfold Vi at h
 refine zFn Try.call67 Try.func67 fun hU hN0 hN => ?_
 show W _ _ _ _ ⟨9,[],[(0,.val (.int .u64 a0)),(1,.val (.int .u8 a1))]⟩ (Zu O n []) _
 refine zQ [0,1] ?_
 refine Zg ?_
 obtain ⟨y2,hy2,h⟩:=bC h
 refine zCd (Ztb hy2) [4] [] ?_
 exact Yi [(vB (y2 == 0))]
theorem Zj9 {a0:Zc} {r:Bool} {O:Objs} {n:Nat} (h:U9 a0=some r):GTo Try.prog 97 [.agg (Ze a0)] O n ((vB r)) O n:=by
 unfold U9 at h
 refine zFn Try.call97 Try.func97 fun hU hN0 hN => ?_
 show W _ _ _ _ ⟨35,[],[(0,.agg (Ze a0))]⟩ (Zu O n []) _
 refine zQ [1] ?_
 obtain ⟨z3,hz3,h⟩:=bC h
 refine Yp (E':=⟨35,[],[(2,(vB z3))]⟩) (O':=(Zu O n [none])) (n0:=(n+1)) ?_ ?_
 ·rcases Bool.eq_false_or_eq_true (a0.Kind == 0) with c8 | c8
  ·replace hz3:=Zo c8 hz3
   obtain ⟨y6,hy6,hz3⟩:=bC hz3
   rcases Bool.eq_false_or_eq_true y6 with c9 | c9
   ·replace hz3:=Zo c9 hz3
    try rw [c9] at c8
    obtain ⟨y7,hy7,hz3⟩:=bC hz3
    refine Jn [some true,some true,some true,some true,some true,some true,none,none,none,none,none,none,none,none,none,none,none,none,none,none,none] c8 c9 ?_
    refine zG ?_
    refine (Ue hy6).then ?_
    refine zX2 c8 c9 ?_
    refine zG ?_
    refine (Ue hy7).then ?_
    refine zX2 c8 c9 ?_
    refine zG ?_
    exact U2 hz3 c8 c9
   replace hz3:=Zn c9 hz3
   try rw [c9] at c8
   refine Jn [some true,some true,some true,some false,some false,some false,some false,some false,some false,some false,some false,some false,some false,some false,some false,some false,some false,some false,some false,some false,some false] c8 c9 ?_
   refine (Ue hy6).then ?_
   refine zX2 c8 c9 ?_
   exact U2 hz3 c8 c9
  replace hz3:=Zn c8 hz3
  refine Jb [some false,some false,some false,some false,some false,some false,some false,some false,some false,some false,some false,some false,some false,some false,some false,some false,some false,some false,some false,some false,some false] c8 ?_
  exact Qm hz3 c8
 exact Yi [(vB z3)]
theorem Zie {a0:Zc} {r:(Int×Int)} {O:Objs} {n:Nat} (h:Ku a0=some r):GTo Try.prog 69 [.agg (Ze a0)] O n (.tup [(vI r.1),(vI r.2)]) O n:=by
 unfold Ku at h
 refine zFn Try.call69 Try.func69 fun hU hN0 hN => ?_
 show W _ _ _ _ ⟨48,[],[(0,.agg (Ze a0))]⟩ (Zu O n []) _
 refine zQ [1] ?_
 refine zQ [1,4,5] ?_
 refine Zg ?_
 refine zQd [1,4,5,6] [1,4,5,6] [true] ?_
 obtain ⟨z14,hz14,h⟩:=bC h
 refine Yg (E':=⟨48,[],[(4,(vI z14.1)),(5,(vI z14.2))]⟩) (O':=(Zu O n [none])) (n0:=(n+1)) ?_ ?_
 ·refine Y2 hz14 (fun s0_=>⟨48,[],[(1,.ref n 0),(4,(vI s0_.1)),(5,(vI s0_.2.1)),(6,(vI s0_.2.2))]⟩) (fun s0_=>(Zu O n [some ⟨false,30,11,1,(Ze a0)⟩])) (fun z14=>JX 0 n (⟨48,[],[(4,(vI z14.1)),(5,(vI z14.2))]⟩:Env) (Zu O n [none]) (n+1)) ?_
  intro s0_ x0_ hs0_
  unfold Kv at hs0_
  try dsimp only
  refine Zg ?_
  refine zQ [1,4,5,6,13] ?_
  refine Zq (t:=(decide (s0_.2.2 < (a0.Ops.length:Int)))) rfl (fun c13 => ?_) (fun c13 => ?_)
  ·replace hs0_:=Zo c13 hs0_
   refine Qp [1,4,5,6] [true] ?_
   obtain ⟨z1,hz1,hs0_⟩:=bC hs0_
   refine Yp (E':=⟨48,[],[(1,.ref n 0),(4,(vI z1.1)),(5,(vI z1.2)),(6,(vI s0_.2.2))]⟩) (O':=(Zu O n [some ⟨false,30,11,1,(Ze a0)⟩,none])) (n0:=(n+2)) ?_ ?_
   ·refine Z9 ?_
    refine Zg ?_
    obtain ⟨x3,hx3,ax3,bx3,cx3,hz1⟩:=bE (f:=Zd) Zbe (fun _=>rfl) (by decide) hz1
    refine Zcw [] ax3 bx3 cx3 ?_
    refine zD [1,4,5,6,7] [true,true] ?_
    refine zQ [1,4,5,6,7,8] ?_
    obtain ⟨z4,hz4,hz1⟩:=bC hz1
    refine Yp (E':=⟨48,[],[(1,.ref n 0),(4,(vI s0_.1)),(5,(vI s0_.2.1)),(6,(vI s0_.2.2)),(7,.ref (n+1) 0),(8,(vI z4))]⟩) (O':=(Zu O n [some ⟨false,30,11,1,(Ze a0)⟩,some ⟨false,75,14,1,(Yz x3)⟩])) (n0:=(n+2)) ?_ ?_
    ·refine zQ [1,4,5,6,7,8,29] ?_
     refine Zq (t:=(x3.Kind == 3)) rfl (fun c5 => ?_) (fun c5 => ?_)
     ·replace hz4:=Zo c5 hz4
      refine zR ?_
      exact Gw hz4
     replace hz4:=Zn c5 hz4
     refine zK ?_
     exact Gw hz4
    obtain ⟨z6,hz6,hz1⟩:=bC hz1
    refine Yp (E':=⟨48,[],[(1,.ref n 0),(4,(vI z6)),(5,(vI s0_.2.1)),(6,(vI s0_.2.2)),(7,.ref (n+1) 0),(8,(vI z4))]⟩) (O':=(Zu O n [some ⟨false,30,11,1,(Ze a0)⟩,some ⟨false,75,14,1,(Yz x3)⟩])) (n0:=(n+2)) ?_ ?_
    ·refine zQ [1,4,5,6,7,8,32] ?_
     refine Zq (t:=(x3.Kind != 2)) rfl (fun c7 => ?_) (fun c7 => ?_)
     ·replace hz6:=Zo c7 hz6
      refine zR ?_
      exact Gw hz6
     replace hz6:=Zn c7 hz6
     refine zK ?_
     exact Gw hz6
    obtain ⟨z8,hz8,hz1⟩:=bC hz1
    refine Yp (E':=⟨48,[],[(1,.ref n 0),(4,(vI z6)),(5,(vI z8)),(6,(vI s0_.2.2))]⟩) (O':=(Zu O n [some ⟨false,30,11,1,(Ze a0)⟩,none])) (n0:=(n+2)) ?_ ?_
    ·refine zQ [1,4,5,6,8,38] ?_
     refine Zq (t:=(x3.Kind != 1)) rfl (fun c9 => ?_) (fun c9 => ?_)
     ·replace hz8:=Zo c9 hz8
      refine zR ?_
      exact Gw hz8
     replace hz8:=Zn c9 hz8
     refine zK ?_
     exact Gw hz8
    obtain ⟨z10,hz10,hz1⟩:=bC hz1
    refine Yp (E':=⟨48,[],[(1,.ref n 0),(4,(vI z10)),(5,(vI z8)),(6,(vI s0_.2.2))]⟩) (O':=(Zu O n [some ⟨false,30,11,1,(Ze a0)⟩,none])) (n0:=(n+2)) ?_ ?_
    ·refine zQ [1,4,5,6,43] ?_
     refine Zq (t:=(decide (1048576 < z6))) rfl (fun c11 => ?_) (fun c11 => ?_)
     ·replace hz10:=Zo c11 hz10
      refine zR ?_
      exact Gw hz10
     replace hz10:=Zn c11 hz10
     refine zK ?_
     exact Gw hz10
    refine zQ [1,4,5,6,45] ?_
    refine Zq (t:=(decide (1048576 < z8))) rfl (fun c12 => ?_) (fun c12 => ?_)
    ·replace hz1:=Zo c12 hz1
     refine zR ?_
     exact Gw hz1
    replace hz1:=Zn c12 hz1
    refine zK ?_
    exact Gw hz1
   refine zR ?_
   exact Gw hs0_
  replace hs0_:=Zn c13 hs0_
  exact zEx hs0_
 try simp only [Ym,Z4,↓reduceIte,Nat.reduceEqDiff]
 refine zD [4,5] [false] ?_
 refine zQ [2,3] ?_
 exact Yi [(vI z14.1),(vI z14.2)]
attribute [local push_cast] Try.results108 Try.results11 Try.results43 Try.results44 Try.results46 Try.results52 Try.results68 Try.results73 Try.results74 Try.results82 Try.results83 Try.results84
def Zeq (Xq:(Zc→Int→Option Bool)):Prop:=∀ {a0:Zc} {a1:Int} {r:Bool} {O:Objs} {n:Nat},Xq a0 a1=some r→GTo Try.prog 43 [.agg (Ze a0),(vI a1)] O n ((vB r)) O n
def Zg4 (Qi:(Int→Zh→Int→Option Bool)):Prop:=∀ {a0:Int} {a1:Zh} {a2:Int} {r:Bool} {O:Objs} {n:Nat},Qi a0 a1 a2=some r→GTo Try.prog 68 [(vI a0),.agg (Yz a1),(vI a2)] O n ((vB r)) O n
theorem Zpj {Xq:(Zc→Int→Option Bool)} {Qi:(Int→Zh→Int→Option Bool)} (Zer:Zeq Xq) (Zkd:Zg4 Qi) {a0:Zc} {a1:Int} {r:Bool} {O:Objs} {n:Nat} (h:Zaf Xq Qi a0 a1=some r):GTo Try.prog 43 [.agg (Ze a0),(vI a1)] O n ((vB r)) O n:=by
 unfold Zaf at h
 refine zFn Try.call43 Try.func43 fun hU hN0 hN => ?_
 show W _ _ _ _ ⟨216,[],[(0,.agg (Ze a0)),(1,(vI a1))]⟩ (Zu O n []) _
 refine zQ [1,2] ?_
 refine Zg ?_
 refine zQD [1,2,24] [none,none,none,none,none,none] ?_
 refine Zq (t:=(cond (cond (a1 == 0) true (decide (a0.Kind < 0))) true (decide (3 < a0.Kind)))) rfl (fun c58 => ?_) (fun c58 => ?_)
 ·replace h:=Zo c58 h
  refine zQ [4] ?_
  exact Yi [(vB false)]
 replace h:=Zn c58 h
 refine Qp [1,2] [true] ?_
 refine Zg ?_
 obtain ⟨z3,hz3,h⟩:=bC h
 refine Yp (E':=⟨216,[],[(1,(vI a1)),(2,.ref n 0),(69,(vB z3))]⟩) (O':=(Zu O n [some ⟨false,30,11,1,(Ze a0)⟩])) (n0:=(n+1)) ?_ ?_
 ·rcases Bool.eq_false_or_eq_true (a0.Kind != 1) with c8 | c8
  ·replace hz3:=Zo c8 hz3
   obtain ⟨y6,hy6,hz3⟩:=bC hz3
   rcases Bool.eq_false_or_eq_true y6 with c9 | c9
   ·replace hz3:=Zo c9 hz3
    try rw [c9] at c8
    obtain ⟨y7,hy7,hz3⟩:=bC hz3
    refine Jn [some true,some true,some true,some true,some true,some true,some true,some true,some true,none,none,none,none,none,none,none,none,none,none,none,none,none,none,none,none,none,none,none,none,none,none,none,none,none,none,none] c8 c9 ?_
    refine zG ?_
    refine (Ue hy6).then ?_
    refine zX2 c8 c9 ?_
    refine zG ?_
    refine (Ue hy7).then ?_
    refine zX2 c8 c9 ?_
    refine zG ?_
    exact U2 hz3 c8 c9
   replace hz3:=Zn c9 hz3
   try rw [c9] at c8
   refine Jn [some true,some true,some true,some true,some false,some false,some false,some true,some true,some false,some false,some false,some false,some false,some false,some false,some false,some false,some false,some false,some false,some false,some false,some false,some false,some false,some false,some false,some false,some false,some false,some false,some false,some false,some false,some false] c8 c9 ?_
   refine (Ue hy6).then ?_
   refine zX2 c8 c9 ?_
   exact U2 hz3 c8 c9
  replace hz3:=Zn c8 hz3
  refine Jb [some false,some false,some false,some false,some false,some false,some false,some false,some false,some true,some true,some true,some true,none,none,none,none,none,none,none,none,some true,none,none,none,none,none,none,none,none,none,none,none,none,none,none] c8 ?_
  refine zG ?_
  exact Qm hz3 c8
 refine Zq (t:=z3) rfl (fun c57 => ?_) (fun c57 => ?_)
 ·replace h:=Zo c57 h
  refine zQ [4] ?_
  exact Yi [(vB false)]
 replace h:=Zn c57 h
 refine Qp [1,2] [true] ?_
 refine Zg ?_
 refine zQ [1,2,72] ?_
 refine Zq (t:=(a0.Kind == 1)) rfl (fun c56 => ?_) (fun c56 => ?_)
 ·replace h:=Zo c56 h
  obtain ⟨z12,hz12,h⟩:=bC h
  refine Yp (E':=⟨216,[],[(4,(vB z12))]⟩) (O':=(Zu O n [none])) (n0:=(n+1)) ?_ ?_
  ·obtain ⟨y15,hy15,hz12⟩:=bC hz12
   rcases Bool.eq_false_or_eq_true y15 with c17 | c17
   ·replace hz12:=Zo c17 hz12
    obtain ⟨y16,hy16,hz12⟩:=bC hz12
    refine Jb [some true,some true,some true,none,none,none,none,none,none,none,none] c17 ?_
    refine zG ?_
    refine (Gv hy15).then ?_
    refine zX1 c17 ?_
    refine zG ?_
    refine (Gv hy16).then ?_
    refine zX1 c17 ?_
    refine zG ?_
    exact Qm hz12 c17
   replace hz12:=Zn c17 hz12
   refine Jb [some false,some false,some false,some false,some false,some false,some false,some false,some false,some false,some false] c17 ?_
   refine (Gv hy15).then ?_
   refine zX1 c17 ?_
   exact Qm hz12 c17
  exact Yi [(vB z12)]
 replace h:=Zn c56 h
 refine Qp [1,2] [true] ?_
 refine zQ [1,2,5] ?_
 refine Zg ?_
 refine zQd [1,2,5,6] [1,2,5,6] [true] ?_
 obtain ⟨z33,hz33,h⟩:=bC h
 refine K3 (J:=(Y6 (fun z33=>JR n (⟨216,[],[(4,(vB false))]⟩:Env) (Zu O n [none]) (n+1)) (fun z33=>JX 0 n (⟨216,[],[(1,(vI a1)),(2,.ref n 0)]⟩:Env) (Zu O n [some ⟨false,30,11,1,(Ze a0)⟩]) (n+1)))) (z:=z33) ?_ fun hw => ?_
 ·refine Y2 hz33 (fun s0_=>⟨216,[],[(1,(vI a1)),(2,.ref n 0),(5,(vI s0_.1)),(6,(vI s0_.2))]⟩) (fun s0_=>(Zu O n [some ⟨false,30,11,1,(Ze a0)⟩])) (Y6 (fun z33=>JR n (⟨216,[],[(4,(vB false))]⟩:Env) (Zu O n [none]) (n+1)) (fun z33=>JX 0 n (⟨216,[],[(1,(vI a1)),(2,.ref n 0)]⟩:Env) (Zu O n [some ⟨false,30,11,1,(Ze a0)⟩]) (n+1))) ?_
  intro s0_ x0_ hs0_
  unfold J8 at hs0_
  try dsimp only
  refine Zg ?_
  refine zQ [1,2,5,6,97] ?_
  refine Zq (t:=(decide (s0_.2 < (a0.Words.length:Int)))) rfl (fun c32 => ?_) (fun c32 => ?_)
  ·replace hs0_:=Zo c32 hs0_
   refine Qp [1,2,5,6] [true] ?_
   refine Zg ?_
   refine Z9 ?_
   refine Zg ?_
   obtain ⟨x19,hx19,ax19,bx19,cx19,hs0_⟩:=bE (f:=Zl) Zt9 (fun _=>rfl) (by decide) hs0_
   refine Zcw [] ax19 bx19 cx19 ?_
   refine zDs [1,2,5,6,7] [true,true] ?_
   obtain ⟨z22,hz22,hs0_⟩:=bC hs0_
   refine Yp (E':=⟨216,[],[(1,(vI a1)),(2,.ref n 0),(6,(vI s0_.2)),(7,.ref (n+1) 0),(134,(vB z22))]⟩) (O':=(Zu O n [some ⟨false,30,11,1,(Ze a0)⟩,some ⟨false,82,4,1,(G7 x19)⟩])) (n0:=(n+2)) ?_ ?_
   ·rcases Bool.eq_false_or_eq_true (decide (x19.At≤s0_.1)) with c27 | c27
    ·replace hz22:=Zo c27 hz22
     refine Jb [none,none,none,none,none,none,some false,some false,some false,some false,some false,some false,some false,some false,some false,some false,some false,some false] c27 ?_
     refine zG ?_
     exact Qm hz22 c27
    replace hz22:=Zn c27 hz22
    rcases Bool.eq_false_or_eq_true (decide (65534 < x19.At)) with c28 | c28
    ·replace hz22:=Zo c28 hz22
     try rw [c28] at c27
     refine Jn [none,none,none,none,none,none,some false,some false,some false,some false,some false,some false,some false,some false,some false,some false,some false,some false] c27 c28 ?_
     refine zG ?_
     exact U2 hz22 c27 c28
    replace hz22:=Zn c28 hz22
    try rw [c28] at c27
    rcases Bool.eq_false_or_eq_true (x19.Mask == 0) with c29 | c29
    ·replace hz22:=Zo c29 hz22
     try rw [c29] at c27
     try rw [c29] at c28
     refine Zbf [none,none,none,none,none,none,some false,some false,some false,some false,some false,some false,some false,some false,some false,some false,some false,some false] c27 c28 c29 ?_
     refine zG ?_
     exact Zej hz22 c27 c28 c29
    replace hz22:=Zn c29 hz22
    try rw [c29] at c27
    try rw [c29] at c28
    obtain ⟨y25,hy25,hz22⟩:=bC hz22
    rcases Bool.eq_false_or_eq_true y25 with c30 | c30
    ·replace hz22:=Zo c30 hz22
     try rw [c30] at c27
     try rw [c30] at c28
     try rw [c30] at c29
     obtain ⟨y26,hy26,hz22⟩:=bC hz22
     refine Zms [none,none,none,none,none,none,some true,some true,some true,some true,some true,some true,some true,some true,some true,some true,some true,some true] c27 c28 c29 c30 ?_
     refine zG ?_
     refine (Zfh hy25).then ?_
     refine zX4 c27 c28 c29 c30 ?_
     refine zG ?_
     refine (Zfh hy26).then ?_
     refine zX4 c27 c28 c29 c30 ?_
     refine zG ?_
     exact Zmr hz22 c27 c28 c29 c30
    replace hz22:=Zn c30 hz22
    try rw [c30] at c27
    try rw [c30] at c28
    try rw [c30] at c29
    refine Zms [none,none,none,none,none,none,some true,some true,some true,some true,some true,some true,some false,some false,some false,some false,some false,some false] c27 c28 c29 c30 ?_
    refine zG ?_
    refine (Zfh hy25).then ?_
    refine zX4 c27 c28 c29 c30 ?_
    refine zG ?_
    exact Zmr hz22 c27 c28 c29 c30
   refine Zq (t:=z22) rfl (fun c31 => ?_) (fun c31 => ?_)
   ·replace hs0_:=Zo c31 hs0_
    refine zQ [4] ?_
    refine zW ?_
    exact zEy hs0_
   replace hs0_:=Zn c31 hs0_
   refine Qp [1,2,6,7] [true,true] ?_
   refine zRd [1,2,5,6] [true,false] ?_
   refine zR ?_
   exact Gw hs0_
  replace hs0_:=Zn c32 hs0_
  exact zEx hs0_
 rcases z33 with z33 | z33
 ·dsimp only [Y6] at hw h
  refine X1 hw ?_
  try simp only [Ym,Z4,↓reduceIte,Nat.reduceEqDiff]
  exact Zgn [(vB false)]
 dsimp only [Y6] at hw h
 refine Yg hw ?_
 try simp only [Ym,Z4,↓reduceIte,Nat.reduceEqDiff]
 refine zD [1,2] [true] ?_
 refine zQ [1,2,5] ?_
 refine Zg ?_
 refine zQd [1,2,5,8] [1,2,5,8] [true] ?_
 obtain ⟨z45,hz45,h⟩:=bC h
 refine K3 (J:=(Y6 (fun z45=>JR n (⟨216,[],[(4,(vB false))]⟩:Env) (Zu O n [none]) (n+1)) (fun z45=>JX 2 n (⟨216,[],[(1,(vI a1)),(2,.ref n 0)]⟩:Env) (Zu O n [some ⟨false,30,11,1,(Ze a0)⟩]) (n+1)))) (z:=z45) ?_ fun hw => ?_
 ·refine Y2 hz45 (fun s1_=>⟨216,[],[(1,(vI a1)),(2,.ref n 0),(5,(vI s1_.1)),(8,(vI s1_.2))]⟩) (fun s1_=>(Zu O n [some ⟨false,30,11,1,(Ze a0)⟩])) (Y6 (fun z45=>JR n (⟨216,[],[(4,(vB false))]⟩:Env) (Zu O n [none]) (n+1)) (fun z45=>JX 2 n (⟨216,[],[(1,(vI a1)),(2,.ref n 0)]⟩:Env) (Zu O n [some ⟨false,30,11,1,(Ze a0)⟩]) (n+1))) ?_
  intro s1_ x1_ hs1_
  unfold J9 at hs1_
  try dsimp only
  refine Zg ?_
  refine zQ [1,2,5,8,141] ?_
  refine Zq (t:=(decide (s1_.2 < (a0.Kids.length:Int)))) rfl (fun c44 => ?_) (fun c44 => ?_)
  ·replace hs1_:=Zo c44 hs1_
   refine Qp [1,2,5,8] [true] ?_
   refine Zg ?_
   refine Z9 ?_
   refine Zg ?_
   obtain ⟨x35,hx35,ax35,bx35,cx35,hs1_⟩:=bE (f:=Zi) Zkq (fun _=>rfl) (by decide) hs1_
   refine Zcw [] ax35 bx35 cx35 ?_
   refine zDs [1,2,5,8,9] [true,true] ?_
   obtain ⟨z37,hz37,hs1_⟩:=bC hs1_
   refine Yp (E':=⟨216,[],[(1,(vI a1)),(2,.ref n 0),(8,(vI s1_.2)),(9,.ref (n+1) 0),(171,(vB z37))]⟩) (O':=(Zu O n [some ⟨false,30,11,1,(Ze a0)⟩,some ⟨false,84,12,1,(Vp x35)⟩])) (n0:=(n+2)) ?_ ?_
   ·rcases Bool.eq_false_or_eq_true (decide (x35.At≤s1_.1)) with c40 | c40
    ·replace hz37:=Zo c40 hz37
     refine Jb [none,none,none,none,none,none,none,some false,some false,some false,some false,some false,some false] c40 ?_
     refine zG ?_
     exact Qm hz37 c40
    replace hz37:=Zn c40 hz37
    rcases Bool.eq_false_or_eq_true (decide (65534 < x35.At)) with c41 | c41
    ·replace hz37:=Zo c41 hz37
     try rw [c41] at c40
     refine Jn [none,none,none,none,none,none,none,some false,some false,some false,some false,some false,some false] c40 c41 ?_
     refine zG ?_
     exact U2 hz37 c40 c41
    replace hz37:=Zn c41 hz37
    try rw [c41] at c40
    rcases Bool.eq_false_or_eq_true (x35.E.Kind == 0) with c42 | c42
    ·replace hz37:=Zo c42 hz37
     try rw [c42] at c40
     try rw [c42] at c41
     refine Zbf [none,none,none,none,none,none,none,some false,some false,some false,some false,some false,some false] c40 c41 c42 ?_
     refine zG ?_
     exact Zej hz37 c40 c41 c42
    replace hz37:=Zn c42 hz37
    try rw [c42] at c40
    try rw [c42] at c41
    obtain ⟨y39,hy39,hz37⟩:=bC hz37
    refine Zbf [none,none,none,none,none,none,none,some true,some true,some true,some true,some true,some true] c40 c41 c42 ?_
    refine zG ?_
    refine (Zer hy39).then ?_
    refine zX3 c40 c41 c42 ?_
    refine zG ?_
    exact Zej hz37 c40 c41 c42
   refine Zq (t:=z37) rfl (fun c43 => ?_) (fun c43 => ?_)
   ·replace hs1_:=Zo c43 hs1_
    refine zQ [4] ?_
    refine zW ?_
    exact zEy hs1_
   replace hs1_:=Zn c43 hs1_
   refine Qp [1,2,8,9] [true,true] ?_
   refine zRd [1,2,5,8] [true,false] ?_
   refine zR ?_
   exact Gw hs1_
  replace hs1_:=Zn c44 hs1_
  exact zEx hs1_
 rcases z45 with z45 | z45
 ·dsimp only [Y6] at hw h
  refine X1 hw ?_
  try simp only [Ym,Z4,↓reduceIte,Nat.reduceEqDiff]
  exact Zgn [(vB false)]
 dsimp only [Y6] at hw h
 refine Yg hw ?_
 try simp only [Ym,Z4,↓reduceIte,Nat.reduceEqDiff]
 refine zDs [1,2] [true] ?_
 refine zQD [1,2,186] [none,none,none,none,none,none,none,none] ?_
 refine Zq (t:=(cond (a0.Kind == 3) (cond (decide (a0.List_ < 2)) true (decide (9 < a0.List_))) false)) rfl (fun c55 => ?_) (fun c55 => ?_)
 ·replace h:=Zo c55 h
  refine zQ [4] ?_
  exact Yi [(vB false)]
 replace h:=Zn c55 h
 refine Qp [1,2] [true] ?_
 refine Zg ?_
 refine zQd [1,2,10] [1,2,10] [true] ?_
 obtain ⟨z52,hz52,h⟩:=bC h
 refine K3 (J:=(Y6 (fun z52=>JR n (⟨216,[],[(4,(vB false))]⟩:Env) (Zu O n [none]) (n+1)) (fun z52=>JX 4 n (⟨216,[],[(2,.ref n 0)]⟩:Env) (Zu O n [some ⟨false,30,11,1,(Ze a0)⟩]) (n+1)))) (z:=z52) ?_ fun hw => ?_
 ·refine Y2 hz52 (fun s2_=>⟨216,[],[(1,(vI a1)),(2,.ref n 0),(10,(vI s2_))]⟩) (fun s2_=>(Zu O n [some ⟨false,30,11,1,(Ze a0)⟩])) (Y6 (fun z52=>JR n (⟨216,[],[(4,(vB false))]⟩:Env) (Zu O n [none]) (n+1)) (fun z52=>JX 4 n (⟨216,[],[(2,.ref n 0)]⟩:Env) (Zu O n [some ⟨false,30,11,1,(Ze a0)⟩]) (n+1))) ?_
  intro s2_ x2_ hs2_
  unfold Q6 at hs2_
  try dsimp only
  refine Zg ?_
  refine zQ [1,2,10,191] ?_
  refine Zq (t:=(decide (s2_ < (a0.Ops.length:Int)))) rfl (fun c51 => ?_) (fun c51 => ?_)
  ·replace hs2_:=Zo c51 hs2_
   refine Qp [1,2,10] [true] ?_
   refine Zg ?_
   refine Z9 ?_
   refine Zg ?_
   obtain ⟨x48,hx48,ax48,bx48,cx48,hs2_⟩:=bE (f:=Zd) Zbe (fun _=>rfl) (by decide) hs2_
   obtain ⟨y49,hy49,hs2_⟩:=bC hs2_
   refine X3 Zz (by kernel_rfl) [] (by kernel_rfl) ?_
   refine zF3 ax48 bx48 cx48 ?_
   refine PCall.of (Zkd hy49) ?_
   refine zF3 ax48 bx48 cx48 ?_
   refine zD [1,2,10,204] [true] ?_
   refine Zq (t:=(!y49)) rfl (fun c50 => ?_) (fun c50 => ?_)
   ·replace hs2_:=Zo c50 hs2_
    refine zQ [4] ?_
    refine zW ?_
    exact zEy hs2_
   replace hs2_:=Zn c50 hs2_
   refine Qp [1,2,10] [true] ?_
   refine zR ?_
   exact Gw hs2_
  replace hs2_:=Zn c51 hs2_
  exact zEx hs2_
 rcases z52 with z52 | z52
 ·dsimp only [Y6] at hw h
  refine X1 hw ?_
  try simp only [Ym,Z4,↓reduceIte,Nat.reduceEqDiff]
  exact Zgn [(vB false)]
 dsimp only [Y6] at hw h
 refine Yg hw ?_
 try simp only [Ym,Z4,↓reduceIte,Nat.reduceEqDiff]
 refine zDs [2] [true] ?_
 obtain ⟨y54,hy54,h⟩:=bC h
 refine zCd (Zie hy54) [11,12] [false] ?_
 refine zQD [4] [none,none] ?_
 exact Yi [(vB (cond (decide (y54.1 < 1048576)) (decide (y54.2 < 1048576)) false))]
theorem Ztd {Xq:(Zc→Int→Option Bool)} {Qi:(Int→Zh→Int→Option Bool)} (Zer:Zeq Xq) (Zkd:Zg4 Qi) {a0:Int} {a1:Zh} {a2:Int} {r:Bool} {O:Objs} {n:Nat} (h:Zd1 Xq Qi a0 a1 a2=some r):GTo Try.prog 68 [(vI a0),.agg (Yz a1),(vI a2)] O n ((vB r)) O n:=by
 unfold Zd1 at h
 refine zFn Try.call68 Try.func68 fun hU hN0 hN => ?_
 show W _ _ _ _ ⟨121,[],[(0,(vI a0)),(1,.agg (Yz a1)),(2,(vI a2))]⟩ (Zu O n []) _
 refine zQ [0,2,4] ?_
 refine Zg ?_
 refine zQ [0,2,4,10] ?_
 refine Zq (t:=(a1.Kind == 0)) rfl (fun c30 => ?_) (fun c30 => ?_)
 ·replace h:=Zo c30 h
  obtain ⟨z2,hz2,h⟩:=bC h
  refine Yp (E':=⟨121,[],[(6,(vB z2))]⟩) (O':=(Zu O n [none])) (n0:=(n+1)) ?_ ?_
  ·rcases Bool.eq_false_or_eq_true (decide (1≤a1.N)) with c5 | c5
   ·replace hz2:=Zo c5 hz2
    rcases Bool.eq_false_or_eq_true (decide (a1.N≤1048576)) with c6 | c6
    ·replace hz2:=Zo c6 hz2
     try rw [c6] at c5
     rcases Bool.eq_false_or_eq_true ((a1.L.length:Int) == 0) with c7 | c7
     ·replace hz2:=Zo c7 hz2
      try rw [c7] at c5
      try rw [c7] at c6
      obtain ⟨y4,hy4,hz2⟩:=bC hz2
      refine Zbf [none,none,none,none,none,none,none,some true,some true,some true] c5 c6 c7 ?_
      refine zG ?_
      refine (Zj9 hy4).then ?_
      refine zX3 c5 c6 c7 ?_
      refine zG ?_
      exact Zej hz2 c5 c6 c7
     replace hz2:=Zn c7 hz2
     try rw [c7] at c5
     try rw [c7] at c6
     refine Zbf [none,none,none,none,none,none,none,some false,some false,some false] c5 c6 c7 ?_
     refine zG ?_
     exact Zej hz2 c5 c6 c7
    replace hz2:=Zn c6 hz2
    try rw [c6] at c5
    refine Jn [none,none,none,none,none,none,none,some false,some false,some false] c5 c6 ?_
    refine zG ?_
    exact U2 hz2 c5 c6
   replace hz2:=Zn c5 hz2
   refine Jb [none,none,none,none,none,none,none,some false,some false,some false] c5 ?_
   refine zG ?_
   exact Qm hz2 c5
  exact Yi [(vB z2)]
 replace h:=Zn c30 h
 refine Qp [0,2,4] [true] ?_
 refine Zg ?_
 refine zQD [0,2,4,42] [none,none,none,none,none,none] ?_
 refine Zq (t:=(cond (cond (a1.N != 0) true (decide (a1.Kind < 0))) true (decide (3 < a1.Kind)))) rfl (fun c29 => ?_) (fun c29 => ?_)
 ·replace h:=Zo c29 h
  refine zQ [6] ?_
  exact Yi [(vB false)]
 replace h:=Zn c29 h
 refine Qp [0,2,4] [true] ?_
 refine Zg ?_
 refine zQ [0,2,4,45] ?_
 refine Zq (t:=(decide (a1.Kind < 3))) rfl (fun c28 => ?_) (fun c28 => ?_)
 ·replace h:=Zo c28 h
  refine Zg ?_
  refine zQd [0,4,7] [0,4,7] [true] ?_
  obtain ⟨z14,hz14,h⟩:=bC h
  refine K3 (J:=(Y6 (fun z14=>JR n (⟨121,[],[(6,(vB false))]⟩:Env) (Zu O n [none]) (n+1)) (fun z14=>JX 0 n (⟨121,[],[(4,.ref n 0)]⟩:Env) (Zu O n [some ⟨false,75,14,1,(Yz a1)⟩]) (n+1)))) (z:=z14) ?_ fun hw => ?_
  ·refine Y2 hz14 (fun s0_=>⟨121,[],[(0,(vI a0)),(4,.ref n 0),(7,(vI s0_))]⟩) (fun s0_=>(Zu O n [some ⟨false,75,14,1,(Yz a1)⟩])) (Y6 (fun z14=>JR n (⟨121,[],[(6,(vB false))]⟩:Env) (Zu O n [none]) (n+1)) (fun z14=>JX 0 n (⟨121,[],[(4,.ref n 0)]⟩:Env) (Zu O n [some ⟨false,75,14,1,(Yz a1)⟩]) (n+1))) ?_
   intro s0_ x0_ hs0_
   unfold Zag at hs0_
   try dsimp only
   refine Zg ?_
   refine zQ [0,4,7,50] ?_
   refine Zq (t:=(decide (s0_ < (a1.L.length:Int)))) rfl (fun c13 => ?_) (fun c13 => ?_)
   ·replace hs0_:=Zo c13 hs0_
    refine Qp [0,4,7] [true] ?_
    refine Zg ?_
    refine Z9 ?_
    refine Zg ?_
    obtain ⟨l10,al10,bl10,cl10,gl10,hs0_⟩:=bS (lo:=(some (.i64,s0_))) (hi:=(some (.i64,(IntKind.i64.wrap (s0_+1))))) (f:=Za) rfl rfl Zgw Vh (fun _=>rfl) hs0_
    obtain ⟨y11,hy11,hs0_⟩:=bC hs0_
    refine Zms [] al10 bl10 cl10 gl10 ?_
    refine GCalls.argsW ?_ ((Gv hy11).then ?_)
    ·exact Ykf al10 bl10 cl10 gl10
    refine zX4 al10 bl10 cl10 gl10 ?_
    refine zD [0,4,7,62] [true] ?_
    refine Zq (t:=(!y11)) rfl (fun c12 => ?_) (fun c12 => ?_)
    ·replace hs0_:=Zo c12 hs0_
     refine zQ [6] ?_
     refine zW ?_
     exact zEy hs0_
    replace hs0_:=Zn c12 hs0_
    refine Qp [0,4,7] [true] ?_
    refine zR ?_
    exact Gw hs0_
   replace hs0_:=Zn c13 hs0_
   exact zEx hs0_
  rcases z14 with z14 | z14
  ·dsimp only [Y6] at hw h
   refine X1 hw ?_
   try simp only [Ym,Z4,↓reduceIte,Nat.reduceEqDiff]
   exact Zgn [(vB false)]
  dsimp only [Y6] at hw h
  refine Yg hw ?_
  try simp only [Ym,Z4,↓reduceIte,Nat.reduceEqDiff]
  refine zD [4] [true] ?_
  obtain ⟨z16,hz16,h⟩:=bC h
  refine Yp (E':=⟨121,[],[(6,(vB z16))]⟩) (O':=(Zu O n [none])) (n0:=(n+1)) ?_ ?_
  ·rcases Bool.eq_false_or_eq_true (decide (0 < (a1.L.length:Int))) with c19 | c19
   ·replace hz16:=Zo c19 hz16
    obtain ⟨y18,hy18,hz16⟩:=bC hz16
    refine Jb [some true,some true,some true] c19 ?_
    refine (Zj9 hy18).then ?_
    refine zX1 c19 ?_
    exact Qm hz16 c19
   replace hz16:=Zn c19 hz16
   refine Jb [some false,some false,some false] c19 ?_
   exact Qm hz16 c19
  exact Yi [(vB z16)]
 replace h:=Zn c28 h
 refine Qp [0,2,4] [true] ?_
 refine Zg ?_
 obtain ⟨z21,hz21,h⟩:=bC h
 refine Yp (E':=⟨121,[],[(0,(vI a0)),(4,.ref n 0),(92,(vB z21))]⟩) (O':=(Zu O n [some ⟨false,75,14,1,(Yz a1)⟩])) (n0:=(n+1)) ?_ ?_
 ·rcases Bool.eq_false_or_eq_true (decide (0 < (a1.L.length:Int))) with c24 | c24
  ·replace hz21:=Zo c24 hz21
   refine Jb [none,none,none,none,none,none,some false,some false,some false,some false,some false] c24 ?_
   refine zG ?_
   exact Qm hz21 c24
  replace hz21:=Zn c24 hz21
  rcases Bool.eq_false_or_eq_true (a1.E.Kind == 0) with c25 | c25
  ·replace hz21:=Zo c25 hz21
   try rw [c25] at c24
   refine Jn [none,none,none,none,none,none,some false,some false,some false,some false,some false] c24 c25 ?_
   refine zG ?_
   exact U2 hz21 c24 c25
  replace hz21:=Zn c25 hz21
  try rw [c25] at c24
  rcases Bool.eq_false_or_eq_true (decide (a0≤7)) with c26 | c26
  ·replace hz21:=Zo c26 hz21
   try rw [c26] at c24
   try rw [c26] at c25
   refine Zbf [none,none,none,none,none,none,some false,some false,some false,some false,some false] c24 c25 c26 ?_
   refine zG ?_
   exact Zej hz21 c24 c25 c26
  replace hz21:=Zn c26 hz21
  try rw [c26] at c24
  try rw [c26] at c25
  obtain ⟨y23,hy23,hz21⟩:=bC hz21
  refine Zbf [none,none,none,none,none,none,some true,some true,some true,some true,some true] c24 c25 c26 ?_
  refine zG ?_
  refine (Zer hy23).then ?_
  refine zX3 c24 c25 c26 ?_
  refine zG ?_
  exact Zej hz21 c24 c25 c26
 refine Zq (t:=z21) rfl (fun c27 => ?_) (fun c27 => ?_)
 ·replace h:=Zo c27 h
  refine zQ [6] ?_
  exact Yi [(vB false)]
 replace h:=Zn c27 h
 refine Qp [0,4] [true] ?_
 refine zQD [6] [none,none,none,none,none,none,none,none,none,none,none,none,none,none,none,none,none,none,none,none,none,none] ?_
 exact Yi [(vB (cond (cond (a0 == 8) true (a1.E.Kind == 2)) true (cond (cond (a1.E.Kind == 1) (a1.E.Old.Kind == 1) false) (a1.E.New.Kind == 1) false)))]
theorem Zng:∀ k,(Zeq ((Yy k).1))∧(Zg4 ((Yy k).2)):=fun k=>by
 induction k with
 | zero=>exact ⟨@fun a0 a1 r O n h=>(nomatch (show (none:Option _)=some _ from h)),@fun a0 a1 a2 r O n h=>(nomatch (show (none:Option _)=some _ from h))⟩
 | succ k ih=>exact ⟨@fun a0 a1 r O n h=>Zpj (ih.1) (ih.2)  h,@fun a0 a1 a2 r O n h=>Ztd (ih.1) (ih.2)  h⟩
theorem Zjk {a0:Zc} {a1:Int} {r:Bool} {O:Objs} {n:Nat} (h:Zg2 a0 a1=some r):GTo Try.prog 43 [.agg (Ze a0),(vI a1)] O n ((vB r)) O n:=by
 obtain ⟨k,hk⟩:=V0 h
 exact (Zng k).1  hk
def Zid (Xx:(Zc→Option Bool)):Prop:=∀ {a0:Zc} {r:Bool} {O:Objs} {n:Nat},Xx a0=some r→GTo Try.prog 44 [.agg (Ze a0)] O n ((vB r)) O n
theorem Zpi {Xx:(Zc→Option Bool)} (Zig:Zid Xx) {a0:Zc} {r:Bool} {O:Objs} {n:Nat} (h:Zae Xx a0=some r):GTo Try.prog 44 [.agg (Ze a0)] O n ((vB r)) O n:=by
 unfold Zae at h
 refine zFn Try.call44 Try.func44 fun hU hN0 hN => ?_
 show W _ _ _ _ ⟨48,[],[(0,.agg (Ze a0))]⟩ (Zu O n []) _
 refine zQ [1] ?_
 refine Zg ?_
 obtain ⟨y2,hy2,h⟩:=bC h
 refine zCd (Zie hy2) [1,3,4] [true] ?_
 refine Zg ?_
 refine zQD [1,17] [none,none] ?_
 refine Zq (t:=(cond (decide (2000 < y2.1)) true (decide (2000 < y2.2)))) rfl (fun c21 => ?_) (fun c21 => ?_)
 ·replace h:=Zo c21 h
  refine zQ [2] ?_
  exact Yi [(vB false)]
 replace h:=Zn c21 h
 refine Qp [1] [true] ?_
 refine Zg ?_
 refine zQd [1,5] [1,5] [true] ?_
 obtain ⟨z11,hz11,h⟩:=bC h
 refine K3 (J:=(Y6 (fun z11=>JR n (⟨48,[],[(2,(vB false))]⟩:Env) (Zu O n [none]) (n+1)) (fun z11=>JX 0 n (⟨48,[],[(1,.ref n 0)]⟩:Env) (Zu O n [some ⟨false,30,11,1,(Ze a0)⟩]) (n+1)))) (z:=z11) ?_ fun hw => ?_
 ·refine Y2 hz11 (fun s0_=>⟨48,[],[(1,.ref n 0),(5,(vI s0_))]⟩) (fun s0_=>(Zu O n [some ⟨false,30,11,1,(Ze a0)⟩])) (Y6 (fun z11=>JR n (⟨48,[],[(2,(vB false))]⟩:Env) (Zu O n [none]) (n+1)) (fun z11=>JX 0 n (⟨48,[],[(1,.ref n 0)]⟩:Env) (Zu O n [some ⟨false,30,11,1,(Ze a0)⟩]) (n+1))) ?_
  intro s0_ x0_ hs0_
  unfold Vy at hs0_
  try dsimp only
  refine Zg ?_
  refine zQ [1,5,22] ?_
  refine Zq (t:=(decide (s0_ < (a0.Kids.length:Int)))) rfl (fun c10 => ?_) (fun c10 => ?_)
  ·replace hs0_:=Zo c10 hs0_
   refine Qp [1,5] [true] ?_
   refine Zg ?_
   refine Z9 ?_
   refine Zg ?_
   obtain ⟨x6,hx6,ax6,bx6,cx6,hs0_⟩:=bE (f:=Zi) Zkq (fun _=>rfl) (by decide) hs0_
   have g7:=Ks (f:=Zi) (off:=1) (sz:=12) Zmq (fun _=>rfl) (by decide) (by decide) hx6
   obtain ⟨y8,hy8,hs0_⟩:=bC hs0_
   refine Zrm [] ax6 bx6 cx6 g7 ?_
   refine (Zig hy8).then ?_
   refine zF4 ax6 bx6 cx6 g7 ?_
   refine zD [1,5,32] [true] ?_
   refine Zq (t:=(!y8)) rfl (fun c9 => ?_) (fun c9 => ?_)
   ·replace hs0_:=Zo c9 hs0_
    refine zQ [2] ?_
    refine zW ?_
    exact zEy hs0_
   replace hs0_:=Zn c9 hs0_
   refine Qp [1,5] [true] ?_
   refine zR ?_
   exact Gw hs0_
  replace hs0_:=Zn c10 hs0_
  exact zEx hs0_
 rcases z11 with z11 | z11
 ·dsimp only [Y6] at hw h
  refine X1 hw ?_
  try simp only [Ym,Z4,↓reduceIte,Nat.reduceEqDiff]
  exact Zgn [(vB false)]
 dsimp only [Y6] at hw h
 refine Yg hw ?_
 try simp only [Ym,Z4,↓reduceIte,Nat.reduceEqDiff]
 refine zDs [1] [true] ?_
 refine zQd [1,6] [1,6] [true] ?_
 obtain ⟨z20,hz20,h⟩:=bC h
 refine K3 (J:=(Y6 (fun z20=>JR n (⟨48,[],[(2,(vB false))]⟩:Env) (Zu O n [none]) (n+1)) (fun z20=>JX 2 n (⟨48,[],[]⟩:Env) (Zu O n [none]) (n+1)))) (z:=z20) ?_ fun hw => ?_
 ·refine Y2 hz20 (fun s1_=>⟨48,[],[(1,.ref n 0),(6,(vI s1_))]⟩) (fun s1_=>(Zu O n [some ⟨false,30,11,1,(Ze a0)⟩])) (Y6 (fun z20=>JR n (⟨48,[],[(2,(vB false))]⟩:Env) (Zu O n [none]) (n+1)) (fun z20=>JX 2 n (⟨48,[],[]⟩:Env) (Zu O n [none]) (n+1))) ?_
  intro s1_ x1_ hs1_
  unfold Vz at hs1_
  try dsimp only
  refine Zg ?_
  refine zQ [1,6,37] ?_
  refine Zq (t:=(decide (s1_ < (a0.Ops.length:Int)))) rfl (fun c19 => ?_) (fun c19 => ?_)
  ·replace hs1_:=Zo c19 hs1_
   refine Qp [1,6] [true] ?_
   refine Zg ?_
   refine Z9 ?_
   refine Zg ?_
   obtain ⟨x15,hx15,ax15,bx15,cx15,hs1_⟩:=bE (f:=Zd) Zbe (fun _=>rfl) (by decide) hs1_
   have g16:=Ks (f:=Zd) (off:=3) (sz:=14) Zmq (fun _=>rfl) (by decide) (by decide) hx15
   obtain ⟨y17,hy17,hs1_⟩:=bC hs1_
   refine Zrm [] ax15 bx15 cx15 g16 ?_
   refine (Zig hy17).then ?_
   refine zF4 ax15 bx15 cx15 g16 ?_
   refine zD [1,6,47] [true] ?_
   refine Zq (t:=(!y17)) rfl (fun c18 => ?_) (fun c18 => ?_)
   ·replace hs1_:=Zo c18 hs1_
    refine zQ [2] ?_
    refine zW ?_
    exact zEy hs1_
   replace hs1_:=Zn c18 hs1_
   refine Qp [1,6] [true] ?_
   refine zR ?_
   exact Gw hs1_
  replace hs1_:=Zn c19 hs1_
  exact zEx hs1_
 rcases z20 with z20 | z20
 ·dsimp only [Y6] at hw h
  refine X1 hw ?_
  try simp only [Ym,Z4,↓reduceIte,Nat.reduceEqDiff]
  exact Zgn [(vB false)]
 dsimp only [Y6] at hw h
 refine Yg hw ?_
 try simp only [Ym,Z4,↓reduceIte,Nat.reduceEqDiff]
 refine zD [] [false] ?_
 refine zQ [2] ?_
 exact Yi [(vB true)]
theorem Znf:∀ k,(Zid (Jv k)):=fun k=>by
 induction k with
 | zero=>exact @fun a0 r O n h=>(nomatch (show (none:Option _)=some _ from h))
 | succ k ih=>exact @fun a0 r O n h=>Zpi (ih)  h
theorem Zq7 {a0:Zc} {r:Bool} {O:Objs} {n:Nat} (h:Zg1 a0=some r):GTo Try.prog 44 [.agg (Ze a0)] O n ((vB r)) O n:=by
 obtain ⟨k,hk⟩:=V0 h
 exact (Znf k)  hk
theorem Zdw {a0:Zc} {r:Bool} {O:Objs} {n:Nat} (h:Zb1 a0=some r):GTo Try.prog 11 [.agg (Ze a0)] O n ((vB r)) O n:=by
 unfold Zb1 at h
 refine zFn Try.call11 Try.func11 fun hU hN0 hN => ?_
 show W _ _ _ _ ⟨13,[],[(0,.agg (Ze a0))]⟩ (Zu O n []) _
 refine zQ [1] ?_
 obtain ⟨z4,hz4,h⟩:=bC h
 refine Yp (E':=⟨13,[],[(2,(vB z4))]⟩) (O':=(Zu O n [none])) (n0:=(n+1)) ?_ ?_
 ·obtain ⟨y8,hy8,hz4⟩:=bC hz4
  rcases Bool.eq_false_or_eq_true y8 with c11 | c11
  ·replace hz4:=Zo c11 hz4
   obtain ⟨y9,hy9,hz4⟩:=bC hz4
   rcases Bool.eq_false_or_eq_true y9 with c12 | c12
   ·replace hz4:=Zo c12 hz4
    try rw [c12] at c11
    obtain ⟨y10,hy10,hz4⟩:=bC hz4
    refine Jn [some true,some true,some true,some true] c11 c12 ?_
    refine (Zhz hy8).then ?_
    refine zX2 c11 c12 ?_
    refine (Zjk hy9).then ?_
    refine zX2 c11 c12 ?_
    refine (Zq7 hy10).then ?_
    refine zX2 c11 c12 ?_
    exact U2 hz4 c11 c12
   replace hz4:=Zn c12 hz4
   try rw [c12] at c11
   refine Jn [some true,some true,some false,some false] c11 c12 ?_
   refine (Zhz hy8).then ?_
   refine zX2 c11 c12 ?_
   refine (Zjk hy9).then ?_
   refine zX2 c11 c12 ?_
   exact U2 hz4 c11 c12
  replace hz4:=Zn c11 hz4
  refine Jb [some false,some false,some false,some false] c11 ?_
  refine (Zhz hy8).then ?_
  refine zX1 c11 ?_
  exact Qm hz4 c11
 exact Yi [(vB z4)]
theorem Zh1 {a0:Int} {r:Bool} {O:Objs} {n:Nat} (h:Uy a0=some r):GTo Try.prog 108 [(vI a0)] O n ((vB r)) O n:=by
 unfold Uy at h
 refine zFn Try.call108 Try.func108 fun hU hN0 hN => ?_
 show W _ _ _ _ ⟨9,[],[(0,(vI a0))]⟩ (Zu O n []) _
 refine zQ [0] ?_
 refine zQD [2] [none,none] ?_
 exact Yi [(vB (cond (decide (2≤a0)) (decide (a0≤9)) false))]
theorem Z0j {a0:Zb} {a1:Zx} {r:Bool} {O:Objs} {n:Nat} (h:Zcs a0 a1=some r):GTo Try.prog 82 [.agg (Zf a0),.agg [(vI a1.Kind),(vI a1.At)]] O n ((vB r)) O n:=by
 unfold Zcs at h
 refine zFn Try.call82 Try.func82 fun hU hN0 hN => ?_
 show W _ _ _ _ ⟨34,[],[(0,.agg (Zf a0)),(1,.agg [(vI a1.Kind),(vI a1.At)])]⟩ (Zu O n []) _
 refine zQ [2,3] ?_
 refine Zg ?_
 refine zQD [2,3,12] [none,none,none] ?_
 refine Zq (t:=(cond (a1.Kind != 0) true (decide (a1.At < 0)))) rfl (fun c10 => ?_) (fun c10 => ?_)
 ·replace h:=Zo c10 h
  refine zQ [4] ?_
  exact Yi [(vB false)]
 replace h:=Zn c10 h
 refine Qp [2,3] [true,true] ?_
 obtain ⟨z3,hz3,h⟩:=bC h
 refine Yp (E':=⟨34,[],[(4,(vB z3))]⟩) (O':=(Zu O n [none,none])) (n0:=(n+2)) ?_ ?_
 ·rcases Bool.eq_false_or_eq_true (a0.Kind == 1) with c8 | c8
  ·replace hz3:=Zo c8 hz3
   rcases Bool.eq_false_or_eq_true (decide (a1.At≤65534)) with c9 | c9
   ·replace hz3:=Zo c9 hz3
    try rw [c9] at c8
    refine Jn [none,none,none,some false,some false,some false,some false,some false,some false,some false,some false,some false,some false,some false] c8 c9 ?_
    refine zG ?_
    exact U2 hz3 c8 c9
   replace hz3:=Zn c9 hz3
   try rw [c9] at c8
   obtain ⟨y6,hy6,hz3⟩:=bC hz3
   refine Jn [none,none,none,some true,some true,some true,some true,none,none,none,none,none,none,some true] c8 c9 ?_
   refine zG ?_
   refine (Zh1 hy6).then ?_
   refine zX2 c8 c9 ?_
   refine zG ?_
   exact U2 hz3 c8 c9
  replace hz3:=Zn c8 hz3
  obtain ⟨y7,hy7,hz3⟩:=bC hz3
  refine Jb [none,none,none,some true,some true,some true,some true,none,none,none,none,none,none,some true] c8 ?_
  refine zG ?_
  refine (Zh1 hy7).then ?_
  refine zX1 c8 ?_
  refine zG ?_
  exact Qm hz3 c8
 exact Yi [(vB z3)]
theorem Zk9 {a0:Zb} {a1:Int} {r:Zb} {O:Objs} {n:Nat} (h:Zfe a0 a1=some r):GTo Try.prog 83 [.agg (Zf a0),(vI a1)] O n (.agg (Zf r)) O n:=by
 unfold Zfe at h
 refine zFn Try.call83 Try.func83 fun hU hN0 hN => ?_
 show W _ _ _ _ ⟨20,[],[(0,.agg (Zf a0)),(1,(vI a1))]⟩ (Zu O n []) _
 refine zQ [1,2,4] ?_
 refine Zg ?_
 refine zQD [1,2,4,13] [none,none,none,none,none] ?_
 refine Zq (t:=(cond (decide (a1 < 0)) true (decide ((a0.Kids.length:Int)≤a1)))) rfl (fun c3 => ?_) (fun c3 => ?_)
 ·replace h:=Zo c3 h
  refine Zg ?_
  refine zRd [4] [false,true] ?_
  exact Yi [.agg [(vI 0),nV,nV]]
 replace h:=Zn c3 h
 refine Qp [1,2,4] [true,true] ?_
 refine Zg ?_
 obtain ⟨x2,hx2,ax2,bx2,cx2,h⟩:=bE (f:=Za) Vh (fun _=>rfl) (by decide) h
 refine Zcw [] ax2 bx2 cx2 ?_
 refine zD [4] [false,true] ?_
 exact Yi [.agg (Zf x2)]
theorem Zjl {a0:(List Zh)} {a1:Int} {r:(List Zh)} {O:Objs} {n:Nat} {t0:Nat} (ht0:t0 < n) (hot0:O t0=some (oR 75 14 Zd a0)) (h:Ua a0 a1=some r):GTo Try.prog 84 [.row t0 a0.length,(vI a1)] O n (.row n r.length) (Zu (O.upd t0 none) n [some (oR 75 14 Zd r)]) (n+1):=by
 unfold Ua at h
 refine Zo2 Zz Try.call84 Try.func84 rfl (Nat.le_of_ble_eq_true rfl) (by omega) fun hU => ?_
 have e0:=Ycf (ba:=n) (E:=⟨13,[],[(0,.row t0 a0.length),(1,.val (.int .i64 a1))]⟩) (O:=(Zu O n [])) (n:=n) (j:=t0) (len:=a0.length) (q:=⟨true,75,14,a0.length,fl Zd a0⟩) 0 rfl (by rw [Yt _ ht0];exact hot0) (by omega)
 simp only [Y5 _ _ ht0,Xd,Yv,List.cons_append,List.nil_append,List.length_cons,List.length_nil,Nat.zero_add,Nat.reduceAdd,Nat.add_assoc] at e0
 refine Jt e0 ?_
 have hU:=(Und.drop hU t0)
 have hN0:(O.upd t0 none) n=none:=hU.fresh _ (Nat.le_refl _)
 have hN:∀ k,(O.upd t0 none) (n+k)=none:=fun k=>hU.fresh _ (Nat.le_add_right _ _)
 show W _ _ _ _ ⟨13,[],[(0,.row n a0.length),(0,.row t0 a0.length),(1,(vI a1))]⟩ (Zu (O.upd t0 none) n [some (oR 75 14 Zd a0)]) _
 refine zQ [0,1] ?_
 refine Zg ?_
 refine zQ [0,1,6] ?_
 refine Zq (t:=(a1 == 0)) rfl (fun c3 => ?_) (fun c3 => ?_)
 ·replace h:=Zo c3 h
  refine zQ [4] ?_
  refine zW ?_
  have h:=Option.some.inj h;subst h
  refine Zo1 (k:=1) (L3:=[some (oR 75 14 Zd a0),none]) (E2:=(⟨13,[],[(4,.row n a0.length)]⟩:Env)) (n3:=(n+2)) (.inr rfl) hU rfl [.row n a0.length] ?_ ?_
  ·refine Fit2.trans (E':=(⟨13,[],[(4,.row n a0.length)]⟩:Env)) (O':=(Zu (O.upd t0 none) n [some (oR 75 14 Zd a0)])) (n':=(n+1)) (Fit2.of (Ya hU rfl rfl ?_) (by omega)) ?_
   ·exact zSe
   refine Ja (k:=1) (k':=2) hU [0] [0,0] rfl rfl rfl rfl ⟨rfl,rfl⟩ ?_
   exact zSe
  simp only [push_cast,seval,↓reduceIte,Zm,Try.results84,hN0,hN]
 replace h:=Zn c3 h
 refine Qp [0,1] [true] ?_
 refine Zg ?_
 obtain ⟨l2,pl2,ql2,el2,h⟩:=bA (k:=1) rfl h
 refine Zbf [] pl2 ql2 el2 ?_
 refine Zet ⟨13,[],[(4,.row n l2.length)]⟩ (Zu (O.upd t0 none) n [some (oR 75 14 Zd l2),none]) (Ya hU rfl rfl ?_) ?_
 ·exact Z16 pl2 ql2 el2
 refine zW ?_
 have h:=Option.some.inj h;subst h
 refine Zo1 (k:=1) (L3:=[some (oR 75 14 Zd l2),none]) (E2:=(⟨13,[],[(4,.row n l2.length)]⟩:Env)) (n3:=(n+2)) (.inr rfl) hU rfl [.row n l2.length] ?_ ?_
 ·refine Fit2.trans (E':=(⟨13,[],[(4,.row n l2.length)]⟩:Env)) (O':=(Zu (O.upd t0 none) n [some (oR 75 14 Zd l2),none])) (n':=(n+2)) (Fit2.of (Ya hU rfl rfl ?_) (by omega)) ?_
  ·exact zSe
  refine Ja (k:=2) (k':=2) hU [0,1] [0,0] rfl rfl rfl rfl ⟨rfl,rfl⟩ ?_
  exact zSe
 simp only [push_cast,seval,↓reduceIte,Zm,Try.results84,hN0,hN]
def Zj7 (Zbl:(Zb→(List Zx)→Zc→Option (Zc×Bool))):Prop:=∀ {a0:Zb} {a1:(List Zx)} {a2:Zc} {r:(Zc×Bool)} {O:Objs} {n:Nat},Zbl a0 a1 a2=some r→GTo Try.prog 52 [.agg (Zf a0),(sL Zr a1),.agg (Ze a2)] O n (.tup [.agg (Ze r.1),(vB r.2)]) O n
theorem Ztf {Zbl:(Zb→(List Zx)→Zc→Option (Zc×Bool))} (Zke:Zj7 Zbl) {a0:Zb} {a1:(List Zx)} {a2:Zc} {r:(Zc×Bool)} {O:Objs} {n:Nat} (h:Gi Zbl a0 a1 a2=some r):GTo Try.prog 52 [.agg (Zf a0),(sL Zr a1),.agg (Ze a2)] O n (.tup [.agg (Ze r.1),(vB r.2)]) O n:=by
 unfold Gi at h
 refine zFn Try.call52 Try.func52 fun hU hN0 hN => ?_
 show W _ _ _ _ ⟨75,[],[(0,.agg (Zf a0)),(1,(sL Zr a1)),(2,.agg (Ze a2))]⟩ (Zu O n []) _
 refine zQ [1,3,5,6] ?_
 refine Zg ?_
 refine zQ [1,3,5,6,14] ?_
 refine Zq (t:=((a1.length:Int) == 0)) rfl (fun c24 => ?_) (fun c24 => ?_)
 ·replace h:=Zo c24 h
  refine Zg ?_
  refine Vt Zz (by kernel_rfl) [.plain,.low,.low,.low,.pass,.plain] (fun i=>i≠n+2) [0,1,2,3,4,5] [.plain,.low,.low,.low,.pass,.plain] [] (by kernel_rfl) rfl ?_
  refine zS ?_
  refine zO ?_
  refine zD [6,7] [false,false,true] ?_
  exact Yi [.agg (Ze a2),(vB (a0.Kind != 10))]
 replace h:=Zn c24 h
 refine Qp [1,3,5,6] [true,true,true] ?_
 obtain ⟨x3,hx3,ax3,bx3,cx3,h⟩:=bE (f:=Zr) Zja (fun _=>rfl) (by decide) h
 have g4:=Ks (f:=Zr) (off:=1) (sz:=2) Zmp (fun _=>rfl) (by decide) (by decide) hx3
 refine Zll [1,3,5,6,8] (Yw Zz [] ?_)
 refine zF4 ax3 bx3 cx3 g4 ?_
 refine Zg ?_
 refine Zg ?_
 obtain ⟨x7,hx7,ax7,bx7,cx7,h⟩:=bE (f:=Zr) Zja (fun _=>rfl) (by decide) h
 obtain ⟨y8,hy8,h⟩:=bC h
 refine X3 Zz (by kernel_rfl) [] (by kernel_rfl) ?_
 refine zF3 ax7 bx7 cx7 ?_
 refine PCall.of (Z0j hy8) ?_
 refine zF3 ax7 bx7 cx7 ?_
 refine zD [1,3,5,6,8,28] [true,true,true] ?_
 refine Zq (t:=(!y8)) rfl (fun c23 => ?_) (fun c23 => ?_)
 ·replace h:=Zo c23 h
  refine Zg ?_
  refine zRd [6,7] [false,false,true] ?_
  exact Yi [.agg [(vI 0),(vI 0),nV,nV,(vI 0),nV,nV,nV,nV,(vI 0),nV],(vB false)]
 replace h:=Zn c23 h
 refine Qp [1,3,5,6,8] [true,true,true] ?_
 refine Zg ?_
 obtain ⟨y12,hy12,h⟩:=bC h
 obtain ⟨l13,al13,bl13,cl13,gl13,h⟩:=bS (lo:=(some (.i64,1))) (hi:=none) (f:=Zr) rfl rfl Zn5 Zja (fun _=>rfl) h
 obtain ⟨y14,hy14,h⟩:=bC h
 refine Vt Zz (by kernel_rfl) [.low,.plain,.low,.plain,.low,.low,.low,.plain,.plain,.plain,.pass,.bar,.plain] (fun i=>i < (n+3)) [0,1,2,3,4,5,6,7,8,9,10,11,12] [.low,.plain,.low,.plain,.low,.low,.low,.plain,.plain,.plain,.pass,.bar,.plain] [] (by kernel_rfl) rfl ?_
 refine zX4 al13 bl13 cl13 gl13 ?_
 refine zO ?_
 first | refine PCallA.of (fun _ _=>Zk9 hy12) ?_ | refine PCall.of (Zk9 hy12) ?_
 refine zX4 al13 bl13 cl13 gl13 ?_
 refine zO ?_
 first | refine PCallA.of (fun _ _=>Zke hy14) ?_ | refine PCall.of (Zke hy14) ?_
 refine zX4 al13 bl13 cl13 gl13 ?_
 refine zO ?_
 refine zDs [3,6,8,9,10] [true,false,true,true] ?_
 refine zQD [3,6,8,9,10,46] [none,none,none] ?_
 refine Zq (t:=(cond (!y14.2) true (y14.1.Kind == 0))) rfl (fun c22 => ?_) (fun c22 => ?_)
 ·replace h:=Zo c22 h
  refine Zg ?_
  refine zRd [6,7] [false,false,true,false] ?_
  exact Yi [.agg [(vI 0),(vI 0),nV,nV,(vI 0),nV,nV,nV,nV,(vI 0),nV],(vB y14.2)]
 replace h:=Zn c22 h
 refine Qp [3,6,8,9] [true,false,true,true] ?_
 refine Zg ?_
 refine zQ [3,6,8,9,51] ?_
 refine Zq (t:=(a0.Kind == 1)) rfl (fun c21 => ?_) (fun c21 => ?_)
 ·replace h:=Zo c21 h
  refine Zg ?_
  refine zR ?_
  refine Zet ⟨75,[],[(6,.ref (n+2) 0),(7,(vB true))]⟩ (Zu O n [none,none,some ⟨false,30,11,1,[(vI 2),(vI 0),nV,nV,(vI 0),nV,nV,nV,.row (n+4) ([(⟨x3.At,y14.1⟩:Zk)]:List Zk).length,(vI 0),nV]⟩,none,some (oR 84 12 Zi ([(⟨x3.At,y14.1⟩:Zk)]:List Zk))]) (Ya hU rfl rfl ?_) ?_
  ·exact zSe
  exact Yi [.agg [(vI 2),(vI 0),nV,nV,(vI 0),nV,nV,nV,.row (n+4) ([(⟨x3.At,y14.1⟩:Zk)]:List Zk).length,(vI 0),nV],(vB true)]
 replace h:=Zn c21 h
 refine Qp [3,6,8,9] [true,false,true,true] ?_
 refine Zg ?_
 obtain ⟨y16,hy16,h⟩:=bC h
 refine zR ?_
 refine GCalls.adopt (pre:=[]) 75 14 ?_
 simp only [push_cast,seval,↓reduceIte,Zm,List.append_eq,List.cons_append,List.nil_append,hN0,hN]
 refine (Zjl (t0:=(n+4)) (by omega) (by simp only [push_cast,seval,↓reduceIte,Zm,Xo,hN0,hN] <;> rfl) hy16).then ?_
 refine zS ?_
 refine zDs [3,6,8,9,11] [true,false,true,true,false,true] ?_
 obtain ⟨l18,pl18,ql18,el18,h⟩:=bA (k:=1) rfl h
 refine Zbf [] pl18 ql18 el18 ?_
 refine Zet ⟨75,[],[(3,.ref n 0),(6,.ref (n+2) 0),(8,(vI x3.At)),(11,.row (n+5) l18.length)]⟩ (Zu O n [some ⟨false,25,3,1,(Zf a0)⟩,none,some ⟨false,30,11,1,[(vI 0),(vI 0),nV,nV,(vI 0),nV,nV,nV,nV,(vI 0),nV]⟩,none,none,some (oR 75 14 Zd l18),none]) (Ya hU rfl rfl ?_) ?_
 ·exact Z16 pl18 ql18 el18
 refine Zg ?_
 obtain ⟨y20,hy20,h⟩:=bC h
 refine Vt Zz (by kernel_rfl) [.low,.low,.plain,.plain,.plain,.plain,.plain,.plain,.plain,.pass,.plain,.bar,.plain] (fun i=>i < (n+7)∧¬ i=n+5) [0,1,2,3,4,5,6,7,8,9,10,11,12] [.low,.low,.plain,.plain,.plain,.plain,.plain,.plain,.plain,.pass,.plain,.bar,.plain] [] (by kernel_rfl) rfl ?_
 refine zS ?_
 refine zO ?_
 refine (Zjl (t0:=(n+5)) (by omega) (by simp only [push_cast,seval,↓reduceIte,Zm,Xo,hN0,hN] <;> rfl) hy20).then ?_
 refine zS ?_
 refine zO ?_
 refine zD [6,7] [false,false,true,false,false,false,false,true] ?_
 exact Yi [.agg [(vI 3),(vI 0),nV,nV,(vI 0),nV,nV,nV,nV,(vI a0.Kind),.row (n+7) y20.length],(vB true)]
theorem Zq3:∀ k,(Zj7 (G8 k)):=fun k=>by
 induction k with
 | zero=>exact @fun a0 a1 a2 r O n h=>(nomatch (show (none:Option _)=some _ from h))
 | succ k ih=>exact @fun a0 a1 a2 r O n h=>Ztf (ih)  h
theorem Zvr {a0:Zb} {a1:(List Zx)} {a2:Zc} {r:(Zc×Bool)} {O:Objs} {n:Nat} (h:Zgt a0 a1 a2=some r):GTo Try.prog 52 [.agg (Zf a0),(sL Zr a1),.agg (Ze a2)] O n (.tup [.agg (Ze r.1),(vB r.2)]) O n:=by
 obtain ⟨k,hk⟩:=V0 h
 exact (Zq3 k)  hk
theorem Zb8 {a0:(List Int)} {r:(List Int)} {O:Objs} {n:Nat} (h:Ub a0=some r):GTo Try.prog 73 [(sL (eI .u64) a0)] O n ((sL (eI .u64) r)) O n:=by
 unfold Ub at h
 refine zFn Try.call73 Try.func73 fun hU hN0 hN => ?_
 show W _ _ _ _ ⟨22,[],[(0,(sL (eI .u64) a0))]⟩ (Zu O n []) _
 refine zQ [0] ?_
 refine zQ [0,3] ?_
 refine Zg ?_
 refine zD [0,3] [] ?_
 obtain ⟨z7,hz7,h⟩:=bC h
 refine Yg (E':=⟨22,[],[(0,(sL (eI .u64) a0)),(3,(vI z7))]⟩) (O':=(Zu O n [])) (n0:=n) ?_ ?_
 ·refine Y2 hz7 (fun s0_=>⟨22,[],[(0,(sL (eI .u64) a0)),(3,(vI s0_))]⟩) (fun s0_=>(Zu O n [])) (fun z7=>JX 0 n (⟨22,[],[(0,(sL (eI .u64) a0)),(3,(vI z7))]⟩:Env) (Zu O n []) n) ?_
  intro s0_ x0_ hs0_
  unfold Gu at hs0_
  try dsimp only
  refine Zg ?_
  obtain ⟨z2,hz2,hs0_⟩:=bC hs0_
  refine Yp (E':=⟨22,[],[(0,(sL (eI .u64) a0)),(3,(vI s0_)),(15,(vB z2))]⟩) (O':=(Zu O n [])) (n0:=n) ?_ ?_
  ·rcases Bool.eq_false_or_eq_true (decide (0 < s0_)) with c5 | c5
   ·replace hz2:=Zo c5 hz2
    obtain ⟨x4,hx4,ax4,bx4,cx4,hz2⟩:=bE (f:=(eI .u64)) Zh6 (fun _=>rfl) (by decide) hz2
    refine Zrm [some true,some true,some true,some true,some true,some true] c5 ax4 bx4 cx4 ?_
    exact Ybl hz2 c5 ax4 bx4 cx4
   replace hz2:=Zn c5 hz2
   refine Jb [some false,some false,some false,some false,some false,some false] c5 ?_
   exact Qm hz2 c5
  refine Zq (t:=z2) rfl (fun c6 => ?_) (fun c6 => ?_)
  ·replace hs0_:=Zo c6 hs0_
   refine Qp [0,3] [] ?_
   refine Z9 ?_
   refine zR ?_
   exact Gw hs0_
  replace hs0_:=Zn c6 hs0_
  exact zEx hs0_
 try simp only [Ym,Z4,↓reduceIte,Nat.reduceEqDiff]
 refine zD [0,3] [] ?_
 obtain ⟨l9,al9,bl9,cl9,gl9,h⟩:=bS3 (lo:=none) (hi:=(.i64,z7)) (f:=(eI .u64)) rfl rfl Zqw Zh6 (fun _=>rfl) h
 refine Ykd [2] al9 bl9 cl9 gl9 ?_
 exact Yi [(sL (eI .u64) l9)]
theorem Zim {a0:(List Zb)} {r:(List Zb)} {O:Objs} {n:Nat} (h:Gl a0=some r):GTo Try.prog 74 [(sL Za a0)] O n ((sL Za r)) O n:=by
 unfold Gl at h
 refine zFn Try.call74 Try.func74 fun hU hN0 hN => ?_
 show W _ _ _ _ ⟨23,[],[(0,(sL Za a0))]⟩ (Zu O n []) _
 refine zQ [0] ?_
 refine zQ [0,3] ?_
 refine Zg ?_
 refine zD [0,3] [] ?_
 obtain ⟨z10,hz10,h⟩:=bC h
 refine Yg (E':=⟨23,[],[(0,(sL Za a0)),(3,(vI z10))]⟩) (O':=(Zu O n [])) (n0:=n) ?_ ?_
 ·refine Y2 hz10 (fun s0_=>⟨23,[],[(0,(sL Za a0)),(3,(vI s0_))]⟩) (fun s0_=>(Zu O n [])) (fun z10=>JX 0 n (⟨23,[],[(0,(sL Za a0)),(3,(vI z10))]⟩:Env) (Zu O n []) n) ?_
  intro s0_ x0_ hs0_
  unfold Zau at hs0_
  try dsimp only
  refine Zg ?_
  obtain ⟨z3,hz3,hs0_⟩:=bC hs0_
  refine Yp (E':=⟨23,[],[(0,(sL Za a0)),(3,(vI s0_)),(16,(vB z3))]⟩) (O':=(Zu O n [])) (n0:=n) ?_ ?_
  ·rcases Bool.eq_false_or_eq_true (decide (0 < s0_)) with c8 | c8
   ·replace hz3:=Zo c8 hz3
    obtain ⟨x6,hx6,ax6,bx6,cx6,hz3⟩:=bE (f:=Za) Vh (fun _=>rfl) (by decide) hz3
    have g7:=Zam (f:=Za) (sz:=3) Zmp (fun _=>rfl) (by decide) (by decide) hx6
    refine Ybn [some true,some true,some true,some true,some true,some true,some true] c8 ax6 bx6 cx6 g7 ?_
    exact Yfa hz3 c8 ax6 bx6 cx6 g7
   replace hz3:=Zn c8 hz3
   refine Jb [some false,some false,some false,some false,some false,some false,some false] c8 ?_
   exact Qm hz3 c8
  refine Zq (t:=z3) rfl (fun c9 => ?_) (fun c9 => ?_)
  ·replace hs0_:=Zo c9 hs0_
   refine Qp [0,3] [] ?_
   refine Z9 ?_
   refine zR ?_
   exact Gw hs0_
  replace hs0_:=Zn c9 hs0_
  exact zEx hs0_
 try simp only [Ym,Z4,↓reduceIte,Nat.reduceEqDiff]
 refine zD [0,3] [] ?_
 obtain ⟨l12,al12,bl12,cl12,gl12,h⟩:=bS3 (lo:=none) (hi:=(.i64,z10)) (f:=Za) rfl rfl Zgw Vh (fun _=>rfl) h
 refine Ykd [2] al12 bl12 cl12 gl12 ?_
 exact Yi [(sL Za l12)]
def Zpd (Zdo:(Zb→Option Zb)):Prop:=∀ {a0:Zb} {r:Zb} {O:Objs} {n:Nat},Zdo a0=some r→GTo Try.prog 46 [.agg (Zf a0)] O n (.agg (Zf r)) O n
theorem Z1z {Zdo:(Zb→Option Zb)} (Z0l:Zpd Zdo) {a0:Zb} {r:Zb} {O:Objs} {n:Nat} (h:Ziu Zdo a0=some r):GTo Try.prog 46 [.agg (Zf a0)] O n (.agg (Zf r)) O n:=by
 unfold Ziu at h
 refine zFn Try.call46 Try.func46 fun hU hN0 hN => ?_
 show W _ _ _ _ ⟨49,[],[(0,.agg (Zf a0))]⟩ (Zu O n []) _
 refine zQ [1,2] ?_
 refine Zg ?_
 refine zQ [1,2,10] ?_
 refine Zq (t:=(a0.Kind == 0)) rfl (fun c15 => ?_) (fun c15 => ?_)
 ·replace h:=Zo c15 h
  refine Zg ?_
  refine zRd [2] [false,true] ?_
  exact Yi [.agg [(vI 0),nV,nV]]
 replace h:=Zn c15 h
 refine Qp [1,2] [true,true] ?_
 refine Zll [1,2,3,4] (X3 Zz (by kernel_rfl) [] (by kernel_rfl) ?_)
 refine zS ?_
 obtain ⟨z1,hz1,h⟩:=bC h
 refine Yp (E':=⟨49,[],[(1,.ref n 0),(2,.ref (n+1) 0),(3,(sL (eI .u64) z1.1)),(4,(sL Za z1.2))]⟩) (O':=(Zu O n [some ⟨false,25,3,1,(Zf a0)⟩,some ⟨false,25,3,1,[(vI 0),nV,nV]⟩])) (n0:=(n+2)) ?_ ?_
 ·refine zQ [1,2,3,4,18] ?_
  refine Zq (t:=(a0.Kind == 1)) rfl (fun c4 => ?_) (fun c4 => ?_)
  ·replace hz1:=Zo c4 hz1
   obtain ⟨y2,hy2,hz1⟩:=bC hz1
   obtain ⟨y3,hy3,hz1⟩:=bC hz1
   refine zC (Zb8 hy2) ?_
   refine zTs (Zim hy3) ?_
   exact Gw hz1
  replace hz1:=Zn c4 hz1
  refine zK ?_
  exact Gw hz1
 refine Zg ?_
 refine zRd [2,4,5] [false,true,true] ?_
 obtain ⟨z5,hz5,h⟩:=bC h
 refine Yp (E':=⟨49,[],[(2,.ref (n+1) 0),(4,(sL Za z1.2)),(5,.ref (n+2) 0)]⟩) (O':=(Zu O n [none,some ⟨false,25,3,1,[(vI 0),nV,nV]⟩,some ⟨false,25,3,1,[(vI a0.Kind),(sL (eI .u64) z1.1),.row (n+4) z5.length]⟩,none,some (oR 25 3 Za z5),none])) (n0:=(n+6)) ?_ ?_
 ·refine zQ [2,4,5,29] ?_
  refine Zq (t:=(decide (0 < (z1.2.length:Int)))) rfl (fun c7 => ?_) (fun c7 => ?_)
  ·replace hz5:=Zo c7 hz5
   obtain ⟨l6,al6,bl6,cl6,el6,hz5⟩:=bM2 (c:=56) rfl hz5
   have nl6:Int.toNat (z1.2.length:Int)=List.length l6:=by rw [el6,List.length_replicate]
   have fl6:∀ O O' n,wkl O O' n (List.replicate (List.length l6) [.val (.int .i64 0),.val (.slice none 0 0),.val (.slice none 0 0)]).flatten (fl Za l6)=True:=fun O O' n=>by rw [← nl6,el6];exact eq_true (Z70 (by simp only [push_cast,seval,↓reduceIte,Zm]) _)
   clear el6
   refine Yw Zz [] ?_
   simp only [push_cast,seval,↓reduceIte,Zm,al6,bl6,cl6,fl6,nl6,hN0,hN]
   have hz5:=Option.some.inj hz5;subst hz5
   refine And.intro rfl ?_
   refine Fit2.trans (E':=(⟨49,[],[(2,.ref (n+1) 0),(4,(sL Za z1.2)),(5,.ref (n+2) 0)]⟩:Env)) (O':=(Zu O n [none,some ⟨false,25,3,1,[(vI 0),nV,nV]⟩,some ⟨false,25,3,1,[(vI a0.Kind),(sL (eI .u64) z1.1),.row (n+3) l6.length]⟩,some (oR 25 3 Za l6)])) (n':=(n+4)) (Fit2.of (Ya hU rfl rfl ?_) (by omega)) ?_
   ·simp only [push_cast,seval,↓reduceIte,Zm,al6,bl6,cl6,fl6,nl6,hN0,hN]
   refine Ja (k:=4) (k':=6) hU [5,1,2,4] [0,1,2,0,3,0] rfl rfl rfl rfl ⟨rfl,rfl⟩ ?_
   exact zSe
  replace hz5:=Zn c7 hz5
  refine zK ?_
  have hz5:=Option.some.inj hz5;subst hz5
  refine And.intro rfl ?_
  refine Fit2.trans (E':=(⟨49,[],[(2,.ref (n+1) 0),(4,(sL Za z1.2)),(5,.ref (n+2) 0)]⟩:Env)) (O':=(Zu O n [none,some ⟨false,25,3,1,[(vI 0),nV,nV]⟩,some ⟨false,25,3,1,[(vI a0.Kind),(sL (eI .u64) z1.1),nV]⟩])) (n':=(n+3)) (Fit2.of (Ya hU rfl rfl ?_) (by omega)) ?_
  ·exact zSe
  refine Fit2.trans (Zco (p:=(n+2)) (k:=2) (q:=⟨false,25,3,1,[(vI a0.Kind),(sL (eI .u64) z1.1),nV]⟩) 25 3 (by simp only [Zab,Zes,List.getElem?_cons_zero,List.getElem?_cons_succ,Option.join_some,List.length_nil,Yo]) rfl (by omega)) ?_
  simp only [Xd,Yv,U3,K8,List.set_cons_zero,List.set_cons_succ,List.cons_append,List.nil_append,List.length_cons,List.length_nil,Nat.zero_add,Nat.reduceAdd,Nat.reduceLT,Nat.add_assoc]
  refine Ja (k:=4) (k':=6) hU [5,1,2,4] [0,1,2,0,3,0] rfl rfl rfl rfl ⟨rfl,rfl⟩ ?_
  exact zSe
 refine Zg ?_
 refine zQd [2,5,34,35,36] [2,5,34,35,36] [false,true,true,false,true,false] ?_
 obtain ⟨z14,hz14,h⟩:=bC h
 refine Yg (E':=⟨49,[],[(2,.ref (n+1) 0),(5,.ref (n+2) 0)]⟩) (O':=(Zu O n [none,some ⟨false,25,3,1,[(vI 0),nV,nV]⟩,some ⟨false,25,3,1,[(vI a0.Kind),(sL (eI .u64) z1.1),.row (n+4) z14.length]⟩,none,some (oR 25 3 Za z14),none])) (n0:=(n+6)) ?_ ?_
 ·refine Y2 hz14 (fun s0_=>⟨49,[],[(2,.ref (n+1) 0),(5,.ref (n+2) 0),(34,(sL Za z1.2)),(35,(vI (z1.2.length:Int))),(36,(vI s0_.1))]⟩) (fun s0_=>(Zu O n [none,some ⟨false,25,3,1,[(vI 0),nV,nV]⟩,some ⟨false,25,3,1,[(vI a0.Kind),(sL (eI .u64) z1.1),.row (n+4) s0_.2.length]⟩,none,some (oR 25 3 Za s0_.2),none])) (fun z14=>JX 0 n (⟨49,[],[(2,.ref (n+1) 0),(5,.ref (n+2) 0)]⟩:Env) (Zu O n [none,some ⟨false,25,3,1,[(vI 0),nV,nV]⟩,some ⟨false,25,3,1,[(vI a0.Kind),(sL (eI .u64) z1.1),.row (n+4) z14.length]⟩,none,some (oR 25 3 Za z14),none]) (n+6)) ?_
  intro s0_ x0_ hs0_
  unfold Zc8 at hs0_
  try dsimp only
  refine zQ [2,5,34,35,36,37] ?_
  refine Zg ?_
  refine Zq (t:=(decide (s0_.1 < (z1.2.length:Int)))) rfl (fun c13 => ?_) (fun c13 => ?_)
  ·replace hs0_:=Zo c13 hs0_
   refine Qp [2,5,34,35,36] [false,true,true,false,true,false] ?_
   refine Zg ?_
   refine Z9 ?_
   refine Zg ?_
   obtain ⟨x9,hx9,ax9,bx9,cx9,hs0_⟩:=bE (f:=Za) Vh (fun _=>rfl) (by decide) hs0_
   refine Zcw [] ax9 bx9 cx9 ?_
   refine zD [2,5,6,7,34,35,36] [false,true,true,false,true,false,true] ?_
   obtain ⟨y10,hy10,hs0_⟩:=bC hs0_
   obtain ⟨x11,hx11,ax11,bx11,cx11,hs0_⟩:=bE (f:=Za) Vh (fun _=>rfl) (by decide) hs0_
   have gu12:Ke (fl Za s0_.2) [.val (.int .i64 y10.Kind),.sl y10.Words.length (fl (eI .u64) y10.Words),.sl y10.Kids.length (fl Za y10.Kids)] (Int.toNat s0_.1 * 3)=some (fl Za (Zf0 s0_.2 s0_.1 y10)):=(congrArg (fun c=>Ke (fl Za s0_.2) c (Int.toNat s0_.1 * 3)) (show [.val (.int .i64 y10.Kind),.sl y10.Words.length (fl (eI .u64) y10.Words),.sl y10.Kids.length (fl Za y10.Kids)]=Za y10 from by simp only [Za,Yr,eI,eB,eS,eL])).trans (Zl6 (f:=Za) (ti:=⟨.bool,3,0,[],false⟩) (x:=y10) (fun _=>rfl) (Zge hx11))
   refine Zgo Zz (by kernel_rfl) [false,false,false,false,false,false,true] [] (by kernel_rfl) ?_
   refine zF4 ax11 bx11 cx11 gu12 ?_
   refine PCall.of (Z0l hy10) ?_
   refine zF4 ax11 bx11 cx11 gu12 ?_
   refine zD [2,5,34,35,36] [false,true,true,false,true,false,false] ?_
   refine zR ?_
   exact Gw hs0_
  replace hs0_:=Zn c13 hs0_
  exact zEx hs0_
 try simp only [Ym,Z4,↓reduceIte,Nat.reduceEqDiff]
 refine zDs [2,5] [false,true,true,false,true,false] ?_
 refine zRd [2] [false,true,false,false,true,false] ?_
 exact Yi [.agg [(vI a0.Kind),(sL (eI .u64) z1.1),.row (n+4) z14.length]]
theorem Zwn:∀ k,(Zpd (Gx k)):=fun k=>by
 induction k with
 | zero=>exact @fun a0 r O n h=>(nomatch (show (none:Option _)=some _ from h))
 | succ k ih=>exact @fun a0 r O n h=>Z1z (ih)  h
theorem Zdy {a0:Zb} {r:Zb} {O:Objs} {n:Nat} (h:Zdl a0=some r):GTo Try.prog 46 [.agg (Zf a0)] O n (.agg (Zf r)) O n:=by
 obtain ⟨k,hk⟩:=V0 h
 exact (Zwn k)  hk
attribute [local push_cast] Try.results117 Try.results118 Try.results119 Try.results120 Try.results122 Try.results123 Try.results133 Try.results148 Try.results153 Try.results168 Try.results48 Try.results78 Try.results79
theorem Zeg {a0 r:List Zt} {O:Objs} {n:Nat} (h:Q7 a0=some r):GTo Try.prog 78 [(sL Zl a0)] O n (.row n r.length) (Zu O n [some (oR 82 4 Zl r)]) (n+1):=by
 have h1:=Zzg h
 have h2:=Zzh h
 have h3:=Zsl h
 rw [List.nil_append] at h3
 subst h3
 simp only [List.length_nil,Nat.zero_add] at h1 h2
 clear h
 refine zFn Try.call78 Try.func78 fun hU hN0 hN => ?_
 show W _ _ _ _ ⟨8,[],[(0,(sL Zl r))]⟩ (Zu O n []) _
 refine zQ [0] ?_
 refine Z73 0 r.length (fl Zl r) rfl (Nat.le_of_ble_eq_true rfl) (Yn Xi _) fun A c hA => ?_
 refine zQ [0,4] ?_
 cases A with
 | none =>
  obtain rfl:r=[]:=List.eq_nil_of_length_eq_zero (hA rfl)
  refine Zq (t:=true) rfl (fun _ => ?_) (fun hc=>by cases hc)
  refine zQ [2] ?_
  refine zW ?_
  refine Zo1 (k:=1) (L3:=[some ⟨true,82,4,0,[]⟩]) (E2:=⟨8,[],[(2,.row n 0),(2,nV)]⟩) (n3:=(n+1)) (.inr rfl) hU rfl [.row n 0] ?_ ?_
  ·have ha:=Zg8 (ba:=n) (E:=⟨8,[],[(2,.val (.slice none 0 0))]⟩) (O:=(Zu O n [])) (n:=n) 2 82 4 rfl (by omega)
   simp only [Yv] at ha
   exact ha
  simp only [push_cast,seval,↓reduceIte,Zm,Try.results78,hN0,hN]
 | some A =>
  refine Zq (t:=false) rfl (fun hc=>by cases hc) (fun _ => ?_)
  refine zK ?_
  refine And.intro rfl (And.intro (Nat.le_of_ble_eq_true rfl) ?_)
  refine Zg ?_
  refine Yw Zz [] ?_
  simp only [push_cast,seval,↓reduceIte,Zm,h1,h2,hN0,hN]
  refine zW ?_
  refine Zzt (.inr rfl) hU rfl [.row n r.length] (by omega) ?_
  simp only [push_cast,seval,↓reduceIte,Zm,Try.results78,hN0,hN]
theorem U0 {a0:Zy} {r:Zy} {O:Objs} {n:Nat} {i0 j0_0 j0_1 j0_2:Nat} (hi0:i0 < n) (G3:j0_0 < n) (Ziw:j0_1 < n) (Zk2:j0_2 < n) (Kf:i0≠j0_0) (Zao:i0≠j0_1) (Zdt:i0≠j0_2) (Zan:j0_0≠j0_1) (Zdr:j0_0≠j0_2) (Zds:j0_1≠j0_2) (ho0:O i0=some ⟨false,142,4,1,[.row j0_2 a0.out.length,(vI a0.kept),.row j0_0 a0.gone.length,.row j0_1 a0.come.length]⟩) (Zap:O j0_0=some (oR 25 3 Za a0.gone)) (Zj2:O j0_1=some (oR 25 3 Za a0.come)) (Znb:O j0_2=some (oR 75 14 Zd a0.out)) (h:X0 a0=some r):GTo Try.prog 120 [.ref i0 0] O n (.tup []) (Zu ((((O.upd j0_0 none).upd j0_1 none).upd j0_2 none).upd i0 (some ⟨false,142,4,1,[.row (n+2) r.out.length,(vI r.kept),.row n r.gone.length,.row (n+1) r.come.length]⟩)) n [some (oR 25 3 Za r.gone),some (oR 25 3 Za r.come),some (oR 75 14 Zd r.out)]) (n+3):=by
 unfold X0 at h
 refine Zo2 Zz Try.call120 Try.func120 rfl (Nat.le_of_ble_eq_true rfl) (by omega) fun hU => ?_
 have e0:=K1 (ba:=n) (E:=⟨73,[],Zhf 0 [.ref i0 0]⟩) (O:=(Zu O n [])) (n:=n) (i:=i0) (j:=j0_0) (k:=2) (len:=a0.gone.length) (q:=⟨false,142,4,1,[.row j0_2 a0.out.length,.val (.int .i64 a0.kept),.row j0_0 a0.gone.length,.row j0_1 a0.come.length]⟩) (qj:=⟨true,25,3,a0.gone.length,fl Za a0.gone⟩) (by rw [Yt _ hi0];first | exact ho0 | exact Yo _ _ _) rfl (by rw [Yt _ G3];exact Zap) Kf (by omega)
 simp only [Y5 _ _ G3,Y5 _ _ hi0,Xd,Yv,Qw,Zdh Kf,List.set_cons_zero,List.set_cons_succ,List.cons_append,List.nil_append,List.length_cons,List.length_nil,Nat.zero_add,Nat.reduceAdd,Nat.add_assoc] at e0
 refine Jt e0 ?_
 have e1:=K1 (ba:=n) (E:=⟨73,[],Zhf 0 [.ref i0 0]⟩) (O:=(Zu ((O.upd j0_0 none).upd i0 (some ⟨false,142,4,1,[.row j0_2 a0.out.length,.val (.int .i64 a0.kept),.row n a0.gone.length,.row j0_1 a0.come.length]⟩)) n [some ⟨true,25,3,a0.gone.length,fl Za a0.gone⟩])) (n:=(n+1)) (i:=i0) (j:=j0_1) (k:=3) (len:=a0.come.length) (q:=⟨false,142,4,1,[.row j0_2 a0.out.length,.val (.int .i64 a0.kept),.row n a0.gone.length,.row j0_1 a0.come.length]⟩) (qj:=⟨true,25,3,a0.come.length,fl Za a0.come⟩) (by rw [Yt _ hi0];first | exact ho0 | exact Yo _ _ _) rfl (by rw [Yt _ Ziw,Xf _ _ (Ne.symm Zao),Xf _ _ (Ne.symm Zan)];exact Zj2) Zao (by omega)
 simp only [Y5 _ _ Ziw,Y5 _ _ hi0,Xd,Yv,Qw,Zdh Zao,List.set_cons_zero,List.set_cons_succ,List.cons_append,List.nil_append,List.length_cons,List.length_nil,Nat.zero_add,Nat.reduceAdd,Nat.add_assoc] at e1
 refine Jt e1 ?_
 have e2:=K1 (ba:=n) (E:=⟨73,[],Zhf 0 [.ref i0 0]⟩) (O:=(Zu (((O.upd j0_0 none).upd j0_1 none).upd i0 (some ⟨false,142,4,1,[.row j0_2 a0.out.length,.val (.int .i64 a0.kept),.row n a0.gone.length,.row (n+1) a0.come.length]⟩)) n [some ⟨true,25,3,a0.gone.length,fl Za a0.gone⟩,some ⟨true,25,3,a0.come.length,fl Za a0.come⟩])) (n:=(n+2)) (i:=i0) (j:=j0_2) (k:=0) (len:=a0.out.length) (q:=⟨false,142,4,1,[.row j0_2 a0.out.length,.val (.int .i64 a0.kept),.row n a0.gone.length,.row (n+1) a0.come.length]⟩) (qj:=⟨true,75,14,a0.out.length,fl Zd a0.out⟩) (by rw [Yt _ hi0];first | exact ho0 | exact Yo _ _ _) rfl (by rw [Yt _ Zk2,Xf _ _ (Ne.symm Zdt),Xf _ _ (Ne.symm Zds),Xf _ _ (Ne.symm Zdr)];exact Znb) Zdt (by omega)
 simp only [Y5 _ _ Zk2,Y5 _ _ hi0,Xd,Yv,Qw,Zdh Zdt,List.set_cons_zero,List.set_cons_succ,List.cons_append,List.nil_append,List.length_cons,List.length_nil,Nat.zero_add,Nat.reduceAdd,Nat.add_assoc] at e2
 refine Jt e2 ?_
 have hU:=(Und.drop (Und.drop (Und.drop hU j0_0) j0_1) j0_2)
 have hk0:∀ k,i0 < n+k:=fun k=>by omega
 have hN0:∀ o,Objs.upd (((O.upd j0_0 none).upd j0_1 none).upd j0_2 none) i0 o n=none:=fun o=>Kb hU hi0 _ (Nat.le_refl _)
 have hN:∀ o k,Objs.upd (((O.upd j0_0 none).upd j0_1 none).upd j0_2 none) i0 o (n+k)=none:=fun o k=>Kb hU hi0 _ (Nat.le_add_right _ _)
 show W _ _ _ _ ⟨73,[],[(0,.ref i0 0)]⟩ (Zu ((((O.upd j0_0 none).upd j0_1 none).upd j0_2 none).upd i0 (some ⟨false,142,4,1,[.row (n+2) a0.out.length,(vI a0.kept),.row n a0.gone.length,.row (n+1) a0.come.length]⟩)) n [some (oR 25 3 Za a0.gone),some (oR 25 3 Za a0.come),some (oR 75 14 Zd a0.out)]) _
 obtain ⟨z1,hz1,h⟩:=bC h
 refine Yp (E':=⟨73,[],[(0,.ref i0 0)]⟩) (O':=(Zu ((((O.upd j0_0 none).upd j0_1 none).upd j0_2 none).upd i0 (some ⟨false,142,4,1,[.row (n+2) z1.length,(vI a0.kept),.row n a0.gone.length,.row (n+1) a0.come.length]⟩)) n [some (oR 25 3 Za a0.gone),some (oR 25 3 Za a0.come),some (oR 75 14 Zd z1),none])) (n0:=(n+4)) ?_ ?_
 ·refine Zg7 [0,6] hi0 hk0 ?_
  refine Zq (t:=(decide (0 < a0.kept))) rfl (fun c5 => ?_) (fun c5 => ?_)
  ·replace hz1:=Zo c5 hz1
   obtain ⟨l2,pl2,ql2,el2,hz1⟩:=bA (k:=1) rfl hz1
   obtain ⟨x3,hx3,ax3,bx3,cx3,hz1⟩:=bE (f:=Zd) Zbe (fun _=>rfl) (by decide) hz1
   have gu4:Ke (fl Zd a0.out++[.val (.int .i64 0),.val (.int .i64 0),.val (.slice none 0 0),.val (.int .i64 0),.val (.int .i64 0),.val (.slice none 0 0),.val (.slice none 0 0),.val (.int .i64 0),.val (.slice none 0 0),.val (.slice none 0 0),.val (.slice none 0 0),.val (.slice none 0 0),.val (.int .i64 0),.val (.slice none 0 0)]) [.val (.int .i64 0),.val (.int .i64 a0.kept),.val (.slice none 0 0),.val (.int .i64 0),.val (.int .i64 0),.val (.slice none 0 0),.val (.slice none 0 0),.val (.int .i64 0),.val (.slice none 0 0),.val (.slice none 0 0),.val (.slice none 0 0),.val (.slice none 0 0),.val (.int .i64 0),.val (.slice none 0 0)] (List.length a0.out * 14)=some (fl Zd a0.out++[.val (.int .i64 0),.val (.int .i64 a0.kept),.val (.slice none 0 0),.val (.int .i64 0),.val (.int .i64 0),.val (.slice none 0 0),.val (.slice none 0 0),.val (.int .i64 0),.val (.slice none 0 0),.val (.slice none 0 0),.val (.slice none 0 0),.val (.slice none 0 0),.val (.int .i64 0),.val (.slice none 0 0)]):=Zdk (f:=Zd) (sz:=14) (fun _=>rfl) rfl rfl
   refine Vt Zz (by kernel_rfl) [.plain,.low,.low,.low,.plain,.low,.low,.low,.plain,.low,.pass,.bar,.shp,.fill true,.shp,.shp,.fill false] (fun i=>i < (n+3)) [0,1,2,3,4,5,6,7,8,9,10,11,12,13,14,15,16] [.plain,.low,.low,.low,.plain,.low,.low,.low,.plain,.low,.pass,.bar,.shp,.fill true,.shp,.shp,.fill false] [] (by kernel_rfl) rfl ?_
   refine zF9 pl2 ql2 el2 ax3 bx3 cx3 gu4 hi0 hk0 ?_
   refine zO ?_
   have hz1:=Option.some.inj hz1;subst hz1
   refine And.intro rfl (Fit2.of (Yx hU rfl rfl ?_) (by omega))
   exact Z15 pl2 ql2 el2 ax3 bx3 cx3 gu4 hi0 hk0
  replace hz1:=Zn c5 hz1
  refine zK ?_
  have hz1:=Option.some.inj hz1;subst hz1
  refine And.intro rfl (Fit2.of (Yx hU rfl rfl ?_) (by omega))
  exact Js hi0 hk0
 obtain ⟨z6,hz6,h⟩:=bC h
 refine Yp (E':=⟨73,[],[(0,.ref i0 0)]⟩) (O':=(Zu ((((O.upd j0_0 none).upd j0_1 none).upd j0_2 none).upd i0 (some ⟨false,142,4,1,[.row (n+2) z6.1.length,(vI a0.kept),(sL Za z6.2),.row (n+1) a0.come.length]⟩)) n [none,some (oR 25 3 Za a0.come),some (oR 75 14 Zd z6.1),none,none])) (n0:=(n+5)) ?_ ?_
 ·refine Zg7 [0,27] hi0 hk0 ?_
  refine Zq (t:=(decide (0 < (a0.gone.length:Int)))) rfl (fun c12 => ?_) (fun c12 => ?_)
  ·replace hz6:=Zo c12 hz6
   refine Zet ⟨73,[],[(0,.ref i0 0)]⟩ (Zu ((((O.upd j0_0 none).upd j0_1 none).upd j0_2 none).upd i0 (some ⟨false,142,4,1,[.row (n+2) z1.length,(vI a0.kept),(sL Za a0.gone),.row (n+1) a0.come.length]⟩)) n [none,some (oR 25 3 Za a0.come),some (oR 75 14 Zd z1),none]) (Yx hU rfl rfl ?_) ?_
   ·exact Js hi0 hk0
   obtain ⟨l9,pl9,ql9,el9,hz6⟩:=bA (k:=1) rfl hz6
   obtain ⟨x10,hx10,ax10,bx10,cx10,hz6⟩:=bE (f:=Zd) Zbe (fun _=>rfl) (by decide) hz6
   have gu11:Ke (fl Zd z1++[.val (.int .i64 0),.val (.int .i64 0),.val (.slice none 0 0),.val (.int .i64 0),.val (.int .i64 0),.val (.slice none 0 0),.val (.slice none 0 0),.val (.int .i64 0),.val (.slice none 0 0),.val (.slice none 0 0),.val (.slice none 0 0),.val (.slice none 0 0),.val (.int .i64 0),.val (.slice none 0 0)]) [.val (.int .i64 1),.val (.int .i64 0),.sl a0.gone.length (fl Za a0.gone),.val (.int .i64 0),.val (.int .i64 0),.val (.slice none 0 0),.val (.slice none 0 0),.val (.int .i64 0),.val (.slice none 0 0),.val (.slice none 0 0),.val (.slice none 0 0),.val (.slice none 0 0),.val (.int .i64 0),.val (.slice none 0 0)] (List.length z1 * 14)=some (fl Zd z1++[.val (.int .i64 1),.val (.int .i64 0),.sl a0.gone.length (fl Za a0.gone),.val (.int .i64 0),.val (.int .i64 0),.val (.slice none 0 0),.val (.slice none 0 0),.val (.int .i64 0),.val (.slice none 0 0),.val (.slice none 0 0),.val (.slice none 0 0),.val (.slice none 0 0),.val (.int .i64 0),.val (.slice none 0 0)]):=Zdk (f:=Zd) (sz:=14) (fun _=>rfl) rfl rfl
   refine Vt Zz (by kernel_rfl) [.plain,.low,.low,.low,.plain,.low,.low,.low,.plain,.low,.pass,.bar,.shp,.fill true,.shp,.shp,.fill false] (fun i=>i < (n+4)) [0,1,2,3,4,5,6,7,8,9,10,11,12,13,14,15,16] [.plain,.low,.low,.low,.plain,.low,.low,.low,.plain,.low,.pass,.bar,.shp,.fill true,.shp,.shp,.fill false] [] (by kernel_rfl) rfl ?_
   refine zF9 pl9 ql9 el9 ax10 bx10 cx10 gu11 hi0 hk0 ?_
   refine zO ?_
   have hz6:=Option.some.inj hz6;subst hz6
   refine And.intro rfl (Fit2.of (Yx hU rfl rfl ?_) (by omega))
   exact Z15 pl9 ql9 el9 ax10 bx10 cx10 gu11 hi0 hk0
  replace hz6:=Zn c12 hz6
  refine zK ?_
  have hz6:=Option.some.inj hz6;subst hz6
  refine And.intro rfl (Fit2.of (Yx hU rfl rfl ?_) (by omega))
  exact Js hi0 hk0
 obtain ⟨z13,hz13,h⟩:=bC h
 refine Yp (E':=⟨73,[],[(0,.ref i0 0)]⟩) (O':=(Zu ((((O.upd j0_0 none).upd j0_1 none).upd j0_2 none).upd i0 (some ⟨false,142,4,1,[.row (n+2) z13.1.length,(vI a0.kept),(sL Za z6.2),(sL Za z13.2)]⟩)) n [none,none,some (oR 75 14 Zd z13.1),none,none,none])) (n0:=(n+6)) ?_ ?_
 ·refine Zg7 [0,48] hi0 hk0 ?_
  refine Zq (t:=(decide (0 < (a0.come.length:Int)))) rfl (fun c19 => ?_) (fun c19 => ?_)
  ·replace hz13:=Zo c19 hz13
   refine Zet ⟨73,[],[(0,.ref i0 0)]⟩ (Zu ((((O.upd j0_0 none).upd j0_1 none).upd j0_2 none).upd i0 (some ⟨false,142,4,1,[.row (n+2) z6.1.length,(vI a0.kept),(sL Za z6.2),(sL Za a0.come)]⟩)) n [none,none,some (oR 75 14 Zd z6.1),none,none]) (Yx hU rfl rfl ?_) ?_
   ·exact Js hi0 hk0
   obtain ⟨l16,pl16,ql16,el16,hz13⟩:=bA (k:=1) rfl hz13
   obtain ⟨x17,hx17,ax17,bx17,cx17,hz13⟩:=bE (f:=Zd) Zbe (fun _=>rfl) (by decide) hz13
   have gu18:Ke (fl Zd z6.1++[.val (.int .i64 0),.val (.int .i64 0),.val (.slice none 0 0),.val (.int .i64 0),.val (.int .i64 0),.val (.slice none 0 0),.val (.slice none 0 0),.val (.int .i64 0),.val (.slice none 0 0),.val (.slice none 0 0),.val (.slice none 0 0),.val (.slice none 0 0),.val (.int .i64 0),.val (.slice none 0 0)]) [.val (.int .i64 2),.val (.int .i64 0),.sl a0.come.length (fl Za a0.come),.val (.int .i64 0),.val (.int .i64 0),.val (.slice none 0 0),.val (.slice none 0 0),.val (.int .i64 0),.val (.slice none 0 0),.val (.slice none 0 0),.val (.slice none 0 0),.val (.slice none 0 0),.val (.int .i64 0),.val (.slice none 0 0)] (List.length z6.1 * 14)=some (fl Zd z6.1++[.val (.int .i64 2),.val (.int .i64 0),.sl a0.come.length (fl Za a0.come),.val (.int .i64 0),.val (.int .i64 0),.val (.slice none 0 0),.val (.slice none 0 0),.val (.int .i64 0),.val (.slice none 0 0),.val (.slice none 0 0),.val (.slice none 0 0),.val (.slice none 0 0),.val (.int .i64 0),.val (.slice none 0 0)]):=Zdk (f:=Zd) (sz:=14) (fun _=>rfl) rfl rfl
   refine Vt Zz (by kernel_rfl) [.plain,.low,.low,.low,.plain,.low,.low,.low,.plain,.low,.pass,.bar,.shp,.fill true,.shp,.shp,.fill false] (fun i=>i < (n+5)) [0,1,2,3,4,5,6,7,8,9,10,11,12,13,14,15,16] [.plain,.low,.low,.low,.plain,.low,.low,.low,.plain,.low,.pass,.bar,.shp,.fill true,.shp,.shp,.fill false] [] (by kernel_rfl) rfl ?_
   refine zF9 pl16 ql16 el16 ax17 bx17 cx17 gu18 hi0 hk0 ?_
   refine zO ?_
   have hz13:=Option.some.inj hz13;subst hz13
   refine And.intro rfl (Fit2.of (Yx hU rfl rfl ?_) (by omega))
   exact Z15 pl16 ql16 el16 ax17 bx17 cx17 gu18 hi0 hk0
  replace hz13:=Zn c19 hz13
  refine zK ?_
  have hz13:=Option.some.inj hz13;subst hz13
  refine And.intro rfl (Fit2.of (Yx hU rfl rfl ?_) (by omega))
  exact Js hi0 hk0
 refine Jn [] hi0 hk0 ?_
 have h:=Option.some.inj h;subst h
 refine Va (k:=3) (i:=i0) (q1:=⟨false,142,4,1,[.row (n+2) z13.1.length,(vI 0),.row n ([]:List Zb).length,.row (n+1) ([]:List Zb).length]⟩) (L3:=[some (oR 25 3 Za ([]:List Zb)),some (oR 25 3 Za ([]:List Zb)),some (oR 75 14 Zd z13.1),none]) (E2:=(⟨73,[],[]⟩:Env)) (n3:=(n+4)) (.inl rfl) hU rfl [] ?_ ?_
 ·refine Fit2.trans (E':=(⟨73,[],[]⟩:Env)) (O':=(Zu ((((O.upd j0_0 none).upd j0_1 none).upd j0_2 none).upd i0 (some ⟨false,142,4,1,[.row (n+2) z13.1.length,(vI 0),nV,nV]⟩)) n [none,none,some (oR 75 14 Zd z13.1),none,none,none])) (n':=(n+6)) (Fit2.of (Yx hU rfl rfl ?_) (by omega)) ?_
  ·exact Js hi0 hk0
  refine Fit2.trans (Zco (p:=i0) (k:=2) (q:=⟨false,142,4,1,[.row (n+2) z13.1.length,(vI 0),nV,nV]⟩) 25 3 (by simp only [Zab,Zes,List.getElem?_cons_zero,List.getElem?_cons_succ,Option.join_some,List.length_nil,Yo,Yt,hi0,hk0,hN0,hN]) rfl (by omega)) ?_
  simp only [Xd,Yv,U3,K8,List.set_cons_zero,List.set_cons_succ,List.cons_append,List.nil_append,List.length_cons,List.length_nil,Nat.zero_add,Nat.reduceAdd,Nat.reduceLT,Nat.add_assoc,Y5,Qw,hi0,hk0,hN0,hN]
  refine Fit2.trans (Zco (p:=i0) (k:=3) (q:=⟨false,142,4,1,[.row (n+2) z13.1.length,(vI 0),.row (n+6) ([]:List Zb).length,nV]⟩) 25 3 (by simp only [Zab,Zes,List.getElem?_cons_zero,List.getElem?_cons_succ,Option.join_some,List.length_nil,Yo,Yt,hi0,hk0,hN0,hN]) rfl (by omega)) ?_
  simp only [Xd,Yv,U3,K8,List.set_cons_zero,List.set_cons_succ,List.cons_append,List.nil_append,List.length_cons,List.length_nil,Nat.zero_add,Nat.reduceAdd,Nat.reduceLT,Nat.add_assoc,Y5,Qw,hi0,hk0,hN0,hN]
  refine Q0 (k:=8) (k':=4) hU [3,3,2,3,3,3,0,1] [6,7,2,0] rfl rfl rfl rfl ⟨rfl,rfl⟩ ?_
  exact Js hi0 hk0
 simp only [push_cast,seval,↓reduceIte,Zm,Try.results120,hi0,hk0,hN0,hN]
theorem Zif {a0:Zy} {a1:Int} {r:Zy} {O:Objs} {n:Nat} {i0 j0_0 j0_1 j0_2:Nat} (hi0:i0 < n) (G3:j0_0 < n) (Ziw:j0_1 < n) (Zk2:j0_2 < n) (Kf:i0≠j0_0) (Zao:i0≠j0_1) (Zdt:i0≠j0_2) (Zan:j0_0≠j0_1) (Zdr:j0_0≠j0_2) (Zds:j0_1≠j0_2) (ho0:O i0=some ⟨false,142,4,1,[.row j0_2 a0.out.length,(vI a0.kept),.row j0_0 a0.gone.length,.row j0_1 a0.come.length]⟩) (Zap:O j0_0=some (oR 25 3 Za a0.gone)) (Zj2:O j0_1=some (oR 25 3 Za a0.come)) (Znb:O j0_2=some (oR 75 14 Zd a0.out)) (h:Kx a0 a1=some r):GTo Try.prog 117 [.ref i0 0,(vI a1)] O n (.tup []) (Zu ((((O.upd j0_0 none).upd j0_1 none).upd j0_2 none).upd i0 (some ⟨false,142,4,1,[.row (n+2) r.out.length,(vI r.kept),.row n r.gone.length,.row (n+1) r.come.length]⟩)) n [some (oR 25 3 Za r.gone),some (oR 25 3 Za r.come),some (oR 75 14 Zd r.out)]) (n+3):=by
 unfold Kx at h
 refine Zo2 Zz Try.call117 Try.func117 rfl (Nat.le_of_ble_eq_true rfl) (by omega) fun hU => ?_
 have e0:=K1 (ba:=n) (E:=⟨19,[],Zhf 0 [.ref i0 0,.val (.int .i64 a1)]⟩) (O:=(Zu O n [])) (n:=n) (i:=i0) (j:=j0_0) (k:=2) (len:=a0.gone.length) (q:=⟨false,142,4,1,[.row j0_2 a0.out.length,.val (.int .i64 a0.kept),.row j0_0 a0.gone.length,.row j0_1 a0.come.length]⟩) (qj:=⟨true,25,3,a0.gone.length,fl Za a0.gone⟩) (by rw [Yt _ hi0];first | exact ho0 | exact Yo _ _ _) rfl (by rw [Yt _ G3];exact Zap) Kf (by omega)
 simp only [Y5 _ _ G3,Y5 _ _ hi0,Xd,Yv,Qw,Zdh Kf,List.set_cons_zero,List.set_cons_succ,List.cons_append,List.nil_append,List.length_cons,List.length_nil,Nat.zero_add,Nat.reduceAdd,Nat.add_assoc] at e0
 refine Jt e0 ?_
 have e1:=K1 (ba:=n) (E:=⟨19,[],Zhf 0 [.ref i0 0,.val (.int .i64 a1)]⟩) (O:=(Zu ((O.upd j0_0 none).upd i0 (some ⟨false,142,4,1,[.row j0_2 a0.out.length,.val (.int .i64 a0.kept),.row n a0.gone.length,.row j0_1 a0.come.length]⟩)) n [some ⟨true,25,3,a0.gone.length,fl Za a0.gone⟩])) (n:=(n+1)) (i:=i0) (j:=j0_1) (k:=3) (len:=a0.come.length) (q:=⟨false,142,4,1,[.row j0_2 a0.out.length,.val (.int .i64 a0.kept),.row n a0.gone.length,.row j0_1 a0.come.length]⟩) (qj:=⟨true,25,3,a0.come.length,fl Za a0.come⟩) (by rw [Yt _ hi0];first | exact ho0 | exact Yo _ _ _) rfl (by rw [Yt _ Ziw,Xf _ _ (Ne.symm Zao),Xf _ _ (Ne.symm Zan)];exact Zj2) Zao (by omega)
 simp only [Y5 _ _ Ziw,Y5 _ _ hi0,Xd,Yv,Qw,Zdh Zao,List.set_cons_zero,List.set_cons_succ,List.cons_append,List.nil_append,List.length_cons,List.length_nil,Nat.zero_add,Nat.reduceAdd,Nat.add_assoc] at e1
 refine Jt e1 ?_
 have e2:=K1 (ba:=n) (E:=⟨19,[],Zhf 0 [.ref i0 0,.val (.int .i64 a1)]⟩) (O:=(Zu (((O.upd j0_0 none).upd j0_1 none).upd i0 (some ⟨false,142,4,1,[.row j0_2 a0.out.length,.val (.int .i64 a0.kept),.row n a0.gone.length,.row (n+1) a0.come.length]⟩)) n [some ⟨true,25,3,a0.gone.length,fl Za a0.gone⟩,some ⟨true,25,3,a0.come.length,fl Za a0.come⟩])) (n:=(n+2)) (i:=i0) (j:=j0_2) (k:=0) (len:=a0.out.length) (q:=⟨false,142,4,1,[.row j0_2 a0.out.length,.val (.int .i64 a0.kept),.row n a0.gone.length,.row (n+1) a0.come.length]⟩) (qj:=⟨true,75,14,a0.out.length,fl Zd a0.out⟩) (by rw [Yt _ hi0];first | exact ho0 | exact Yo _ _ _) rfl (by rw [Yt _ Zk2,Xf _ _ (Ne.symm Zdt),Xf _ _ (Ne.symm Zds),Xf _ _ (Ne.symm Zdr)];exact Znb) Zdt (by omega)
 simp only [Y5 _ _ Zk2,Y5 _ _ hi0,Xd,Yv,Qw,Zdh Zdt,List.set_cons_zero,List.set_cons_succ,List.cons_append,List.nil_append,List.length_cons,List.length_nil,Nat.zero_add,Nat.reduceAdd,Nat.add_assoc] at e2
 refine Jt e2 ?_
 have hU:=(Und.drop (Und.drop (Und.drop hU j0_0) j0_1) j0_2)
 have hk0:∀ k,i0 < n+k:=fun k=>by omega
 have hN0:∀ o,Objs.upd (((O.upd j0_0 none).upd j0_1 none).upd j0_2 none) i0 o n=none:=fun o=>Kb hU hi0 _ (Nat.le_refl _)
 have hN:∀ o k,Objs.upd (((O.upd j0_0 none).upd j0_1 none).upd j0_2 none) i0 o (n+k)=none:=fun o k=>Kb hU hi0 _ (Nat.le_add_right _ _)
 show W _ _ _ _ ⟨19,[],[(0,.ref i0 0),(1,(vI a1))]⟩ (Zu ((((O.upd j0_0 none).upd j0_1 none).upd j0_2 none).upd i0 (some ⟨false,142,4,1,[.row (n+2) a0.out.length,(vI a0.kept),.row n a0.gone.length,.row (n+1) a0.come.length]⟩)) n [some (oR 25 3 Za a0.gone),some (oR 25 3 Za a0.come),some (oR 75 14 Zd a0.out)]) _
 obtain ⟨z1,hz1,h⟩:=bC h
 refine Yp (E':=⟨19,[],[(0,.ref i0 0),(1,(vI a1))]⟩) (O':=(Zu ((((O.upd j0_0 none).upd j0_1 none).upd j0_2 none).upd i0 (some ⟨false,142,4,1,[.row (n+6) z1.1.length,(vI z1.2.2.2),.row (n+7) z1.2.1.length,.row (n+8) z1.2.2.1.length]⟩)) n [none,none,none,none,none,none,some (oR 75 14 Zd z1.1),some (oR 25 3 Za z1.2.1),some (oR 25 3 Za z1.2.2.1)])) (n0:=(n+9)) ?_ ?_
 ·refine Zg7 [0,1,8] hi0 hk0 ?_
  refine Zq (t:=(a0.kept == 0)) rfl (fun c3 => ?_) (fun c3 => ?_)
  ·replace hz1:=Zo c3 hz1
   obtain ⟨y2,hy2,hz1⟩:=bC hz1
   refine Jn [] hi0 hk0 ?_
   refine (U0 (i0:=i0) (j0_0:=n) (j0_1:=(n+1)) (j0_2:=(n+2)) (by omega) (by omega) (by omega) (by omega) (by omega) (by omega) (by omega) (by omega) (by omega) (by omega) (by simp only [push_cast,seval,↓reduceIte,Zm,Xo,hi0,hk0,hN0,hN] <;> rfl) (by simp only [push_cast,seval,↓reduceIte,Zm,Xo,hi0,hk0,hN0,hN] <;> rfl) (by simp only [push_cast,seval,↓reduceIte,Zm,Xo,hi0,hk0,hN0,hN] <;> rfl) (by simp only [push_cast,seval,↓reduceIte,Zm,Xo,hi0,hk0,hN0,hN] <;> rfl) hy2).then ?_
   refine zX2 hi0 hk0 ?_
   have hz1:=Option.some.inj hz1;subst hz1
   refine And.intro rfl ?_
   refine Fit2.trans (E':=(⟨19,[],[(0,.ref i0 0),(1,(vI a1))]⟩:Env)) (O':=(Zu ((((O.upd j0_0 none).upd j0_1 none).upd j0_2 none).upd i0 (some ⟨false,142,4,1,[.row (n+5) y2.out.length,(vI y2.kept),.row (n+3) y2.gone.length,.row (n+4) y2.come.length]⟩)) n [none,none,none,some (oR 25 3 Za y2.gone),some (oR 25 3 Za y2.come),some (oR 75 14 Zd y2.out)])) (n':=(n+6)) (Fit2.of (Yx hU rfl rfl ?_) (by omega)) ?_
   ·exact Js hi0 hk0
   refine Q0 (k:=6) (k':=9) hU [5,5,5,7,8,6] [0,0,0,0,0,0,5,3,4] rfl rfl rfl rfl ⟨rfl,rfl⟩ ?_
   exact Js hi0 hk0
  replace hz1:=Zn c3 hz1
  refine zK ?_
  have hz1:=Option.some.inj hz1;subst hz1
  refine And.intro rfl ?_
  refine Fit2.trans (E':=(⟨19,[],[(0,.ref i0 0),(1,(vI a1))]⟩:Env)) (O':=(Zu ((((O.upd j0_0 none).upd j0_1 none).upd j0_2 none).upd i0 (some ⟨false,142,4,1,[.row (n+2) a0.out.length,(vI a0.kept),.row n a0.gone.length,.row (n+1) a0.come.length]⟩)) n [some (oR 25 3 Za a0.gone),some (oR 25 3 Za a0.come),some (oR 75 14 Zd a0.out)])) (n':=(n+3)) (Fit2.of (Yx hU rfl rfl ?_) (by omega)) ?_
  ·exact Js hi0 hk0
  refine Q0 (k:=3) (k':=9) hU [7,8,6] [0,0,0,0,0,0,2,0,1] rfl rfl rfl rfl ⟨rfl,rfl⟩ ?_
  exact Js hi0 hk0
 refine Jn [] hi0 hk0 ?_
 have h:=Option.some.inj h;subst h
 refine Va (k:=3) (i:=i0) (q1:=⟨false,142,4,1,[.row (n+2) z1.1.length,(vI (IntKind.i64.wrap (z1.2.2.2+a1))),.row n z1.2.1.length,.row (n+1) z1.2.2.1.length]⟩) (L3:=[some (oR 25 3 Za z1.2.1),some (oR 25 3 Za z1.2.2.1),some (oR 75 14 Zd z1.1),none]) (E2:=(⟨19,[],[]⟩:Env)) (n3:=(n+4)) (.inl rfl) hU rfl [] ?_ ?_
 ·refine Fit2.trans (E':=(⟨19,[],[]⟩:Env)) (O':=(Zu ((((O.upd j0_0 none).upd j0_1 none).upd j0_2 none).upd i0 (some ⟨false,142,4,1,[.row (n+6) z1.1.length,(vI (IntKind.i64.wrap (z1.2.2.2+a1))),.row (n+7) z1.2.1.length,.row (n+8) z1.2.2.1.length]⟩)) n [none,none,none,none,none,none,some (oR 75 14 Zd z1.1),some (oR 25 3 Za z1.2.1),some (oR 25 3 Za z1.2.2.1)])) (n':=(n+9)) (Fit2.of (Yx hU rfl rfl ?_) (by omega)) ?_
  ·exact Js hi0 hk0
  refine Q0 (k:=9) (k':=4) hU [3,3,3,3,3,3,2,0,1] [7,8,6,0] rfl rfl rfl rfl ⟨rfl,rfl⟩ ?_
  exact Js hi0 hk0
 simp only [push_cast,seval,↓reduceIte,Zm,Try.results117,hi0,hk0,hN0,hN]
theorem Zks {a0:Zy} {a2:(List Zb)} {r:Zy} {O:Objs} {n:Nat} {i0 j0_0 j0_1 j0_2:Nat} (hi0:i0 < n) (G3:j0_0 < n) (Ziw:j0_1 < n) (Zk2:j0_2 < n) (Kf:i0≠j0_0) (Zao:i0≠j0_1) (Zdt:i0≠j0_2) (Zan:j0_0≠j0_1) (Zdr:j0_0≠j0_2) (Zds:j0_1≠j0_2) (ho0:O i0=some ⟨false,142,4,1,[.row j0_2 a0.out.length,(vI a0.kept),.row j0_0 a0.gone.length,.row j0_1 a0.come.length]⟩) (Zap:O j0_0=some (oR 25 3 Za a0.gone)) (Zj2:O j0_1=some (oR 25 3 Za a0.come)) (Znb:O j0_2=some (oR 75 14 Zd a0.out)) (h:Kh a0 a2=some r):GTo Try.prog 118 [.ref i0 0,.ref i0 2,(sL Za a2)] O n (.tup []) (Zu ((((O.upd j0_0 none).upd j0_1 none).upd j0_2 none).upd i0 (some ⟨false,142,4,1,[.row (n+2) r.out.length,(vI r.kept),.row n r.gone.length,.row (n+1) r.come.length]⟩)) n [some (oR 25 3 Za r.gone),some (oR 25 3 Za r.come),some (oR 75 14 Zd r.out)]) (n+3):=by
 unfold Kh at h
 refine Zo2 Zz Try.call118 Try.func118 rfl (Nat.le_of_ble_eq_true rfl) (by omega) fun hU => ?_
 have e0:=K1 (ba:=n) (E:=⟨32,[],Zhf 0 [.ref i0 0,.ref i0 2,.sl a2.length (fl Za a2)]⟩) (O:=(Zu O n [])) (n:=n) (i:=i0) (j:=j0_0) (k:=2) (len:=a0.gone.length) (q:=⟨false,142,4,1,[.row j0_2 a0.out.length,.val (.int .i64 a0.kept),.row j0_0 a0.gone.length,.row j0_1 a0.come.length]⟩) (qj:=⟨true,25,3,a0.gone.length,fl Za a0.gone⟩) (by rw [Yt _ hi0];first | exact ho0 | exact Yo _ _ _) rfl (by rw [Yt _ G3];exact Zap) Kf (by omega)
 simp only [Y5 _ _ G3,Y5 _ _ hi0,Xd,Yv,Qw,Zdh Kf,List.set_cons_zero,List.set_cons_succ,List.cons_append,List.nil_append,List.length_cons,List.length_nil,Nat.zero_add,Nat.reduceAdd,Nat.add_assoc] at e0
 refine Jt e0 ?_
 have e1:=K1 (ba:=n) (E:=⟨32,[],Zhf 0 [.ref i0 0,.ref i0 2,.sl a2.length (fl Za a2)]⟩) (O:=(Zu ((O.upd j0_0 none).upd i0 (some ⟨false,142,4,1,[.row j0_2 a0.out.length,.val (.int .i64 a0.kept),.row n a0.gone.length,.row j0_1 a0.come.length]⟩)) n [some ⟨true,25,3,a0.gone.length,fl Za a0.gone⟩])) (n:=(n+1)) (i:=i0) (j:=j0_1) (k:=3) (len:=a0.come.length) (q:=⟨false,142,4,1,[.row j0_2 a0.out.length,.val (.int .i64 a0.kept),.row n a0.gone.length,.row j0_1 a0.come.length]⟩) (qj:=⟨true,25,3,a0.come.length,fl Za a0.come⟩) (by rw [Yt _ hi0];first | exact ho0 | exact Yo _ _ _) rfl (by rw [Yt _ Ziw,Xf _ _ (Ne.symm Zao),Xf _ _ (Ne.symm Zan)];exact Zj2) Zao (by omega)
 simp only [Y5 _ _ Ziw,Y5 _ _ hi0,Xd,Yv,Qw,Zdh Zao,List.set_cons_zero,List.set_cons_succ,List.cons_append,List.nil_append,List.length_cons,List.length_nil,Nat.zero_add,Nat.reduceAdd,Nat.add_assoc] at e1
 refine Jt e1 ?_
 have e2:=K1 (ba:=n) (E:=⟨32,[],Zhf 0 [.ref i0 0,.ref i0 2,.sl a2.length (fl Za a2)]⟩) (O:=(Zu (((O.upd j0_0 none).upd j0_1 none).upd i0 (some ⟨false,142,4,1,[.row j0_2 a0.out.length,.val (.int .i64 a0.kept),.row n a0.gone.length,.row (n+1) a0.come.length]⟩)) n [some ⟨true,25,3,a0.gone.length,fl Za a0.gone⟩,some ⟨true,25,3,a0.come.length,fl Za a0.come⟩])) (n:=(n+2)) (i:=i0) (j:=j0_2) (k:=0) (len:=a0.out.length) (q:=⟨false,142,4,1,[.row j0_2 a0.out.length,.val (.int .i64 a0.kept),.row n a0.gone.length,.row (n+1) a0.come.length]⟩) (qj:=⟨true,75,14,a0.out.length,fl Zd a0.out⟩) (by rw [Yt _ hi0];first | exact ho0 | exact Yo _ _ _) rfl (by rw [Yt _ Zk2,Xf _ _ (Ne.symm Zdt),Xf _ _ (Ne.symm Zds),Xf _ _ (Ne.symm Zdr)];exact Znb) Zdt (by omega)
 simp only [Y5 _ _ Zk2,Y5 _ _ hi0,Xd,Yv,Qw,Zdh Zdt,List.set_cons_zero,List.set_cons_succ,List.cons_append,List.nil_append,List.length_cons,List.length_nil,Nat.zero_add,Nat.reduceAdd,Nat.add_assoc] at e2
 refine Jt e2 ?_
 have hU:=(Und.drop (Und.drop (Und.drop hU j0_0) j0_1) j0_2)
 have hk0:∀ k,i0 < n+k:=fun k=>by omega
 have hN0:∀ o,Objs.upd (((O.upd j0_0 none).upd j0_1 none).upd j0_2 none) i0 o n=none:=fun o=>Kb hU hi0 _ (Nat.le_refl _)
 have hN:∀ o k,Objs.upd (((O.upd j0_0 none).upd j0_1 none).upd j0_2 none) i0 o (n+k)=none:=fun o k=>Kb hU hi0 _ (Nat.le_add_right _ _)
 show W _ _ _ _ ⟨32,[],[(0,.ref i0 0),(1,.ref i0 2),(2,(sL Za a2))]⟩ (Zu ((((O.upd j0_0 none).upd j0_1 none).upd j0_2 none).upd i0 (some ⟨false,142,4,1,[.row (n+2) a0.out.length,(vI a0.kept),.row n a0.gone.length,.row (n+1) a0.come.length]⟩)) n [some (oR 25 3 Za a0.gone),some (oR 25 3 Za a0.come),some (oR 75 14 Zd a0.out)]) _
 obtain ⟨z1,hz1,h⟩:=bC h
 refine Yp (E':=⟨32,[],[(1,.ref i0 2),(2,(sL Za a2))]⟩) (O':=(Zu ((((O.upd j0_0 none).upd j0_1 none).upd j0_2 none).upd i0 (some ⟨false,142,4,1,[.row (n+6) z1.1.length,(vI z1.2.2.2),.row (n+7) z1.2.1.length,.row (n+8) z1.2.2.1.length]⟩)) n [none,none,none,none,none,none,some (oR 75 14 Zd z1.1),some (oR 25 3 Za z1.2.1),some (oR 25 3 Za z1.2.2.1)])) (n0:=(n+9)) ?_ ?_
 ·refine Zg7 [0,1,2,12] hi0 hk0 ?_
  refine Zq (t:=(decide (0 < a0.kept))) rfl (fun c3 => ?_) (fun c3 => ?_)
  ·replace hz1:=Zo c3 hz1
   obtain ⟨y2,hy2,hz1⟩:=bC hz1
   refine Jn [] hi0 hk0 ?_
   refine (U0 (i0:=i0) (j0_0:=n) (j0_1:=(n+1)) (j0_2:=(n+2)) (by omega) (by omega) (by omega) (by omega) (by omega) (by omega) (by omega) (by omega) (by omega) (by omega) (by simp only [push_cast,seval,↓reduceIte,Zm,Xo,hi0,hk0,hN0,hN] <;> rfl) (by simp only [push_cast,seval,↓reduceIte,Zm,Xo,hi0,hk0,hN0,hN] <;> rfl) (by simp only [push_cast,seval,↓reduceIte,Zm,Xo,hi0,hk0,hN0,hN] <;> rfl) (by simp only [push_cast,seval,↓reduceIte,Zm,Xo,hi0,hk0,hN0,hN] <;> rfl) hy2).then ?_
   refine zX2 hi0 hk0 ?_
   have hz1:=Option.some.inj hz1;subst hz1
   refine And.intro rfl ?_
   refine Fit2.trans (E':=(⟨32,[],[(1,.ref i0 2),(2,(sL Za a2))]⟩:Env)) (O':=(Zu ((((O.upd j0_0 none).upd j0_1 none).upd j0_2 none).upd i0 (some ⟨false,142,4,1,[.row (n+5) y2.out.length,(vI y2.kept),.row (n+3) y2.gone.length,.row (n+4) y2.come.length]⟩)) n [none,none,none,some (oR 25 3 Za y2.gone),some (oR 25 3 Za y2.come),some (oR 75 14 Zd y2.out)])) (n':=(n+6)) (Fit2.of (Yx hU rfl rfl ?_) (by omega)) ?_
   ·exact Js hi0 hk0
   refine Q0 (k:=6) (k':=9) hU [5,5,5,7,8,6] [0,0,0,0,0,0,5,3,4] rfl rfl rfl rfl ⟨rfl,rfl⟩ ?_
   exact Js hi0 hk0
  replace hz1:=Zn c3 hz1
  refine zK ?_
  have hz1:=Option.some.inj hz1;subst hz1
  refine And.intro rfl ?_
  refine Fit2.trans (E':=(⟨32,[],[(1,.ref i0 2),(2,(sL Za a2))]⟩:Env)) (O':=(Zu ((((O.upd j0_0 none).upd j0_1 none).upd j0_2 none).upd i0 (some ⟨false,142,4,1,[.row (n+2) a0.out.length,(vI a0.kept),.row n a0.gone.length,.row (n+1) a0.come.length]⟩)) n [some (oR 25 3 Za a0.gone),some (oR 25 3 Za a0.come),some (oR 75 14 Zd a0.out)])) (n':=(n+3)) (Fit2.of (Yx hU rfl rfl ?_) (by omega)) ?_
  ·exact Js hi0 hk0
  refine Q0 (k:=3) (k':=9) hU [7,8,6] [0,0,0,0,0,0,2,0,1] rfl rfl rfl rfl ⟨rfl,rfl⟩ ?_
  exact Js hi0 hk0
 refine Zg7 [1,15,16,17] hi0 hk0 ?_
 refine zD [1,15,16,17] [false,false,false,false,false,false,true,true,true] ?_
 obtain ⟨z11,hz11,h⟩:=bC h
 refine Yg (E':=⟨32,[],[]⟩) (O':=(Zu ((((O.upd j0_0 none).upd j0_1 none).upd j0_2 none).upd i0 (some ⟨false,142,4,1,[.row (n+6) z1.1.length,(vI z1.2.2.2),.row (n+7) z11.length,.row (n+8) z1.2.2.1.length]⟩)) n [none,none,none,none,none,none,some (oR 75 14 Zd z1.1),some (oR 25 3 Za z11),some (oR 25 3 Za z1.2.2.1)])) (n0:=(n+9)) ?_ ?_
 ·refine Y2 hz11 (fun s0_=>⟨32,[],[(1,.ref i0 2),(15,(sL Za a2)),(16,(vI (a2.length:Int))),(17,(vI s0_.1))]⟩) (fun s0_=>(Zu ((((O.upd j0_0 none).upd j0_1 none).upd j0_2 none).upd i0 (some ⟨false,142,4,1,[.row (n+6) z1.1.length,(vI z1.2.2.2),.row (n+7) s0_.2.length,.row (n+8) z1.2.2.1.length]⟩)) n [none,none,none,none,none,none,some (oR 75 14 Zd z1.1),some (oR 25 3 Za s0_.2),some (oR 25 3 Za z1.2.2.1)])) (fun z11=>JX 0 n (⟨32,[],[]⟩:Env) (Zu ((((O.upd j0_0 none).upd j0_1 none).upd j0_2 none).upd i0 (some ⟨false,142,4,1,[.row (n+6) z1.1.length,(vI z1.2.2.2),.row (n+7) z11.length,.row (n+8) z1.2.2.1.length]⟩)) n [none,none,none,none,none,none,some (oR 75 14 Zd z1.1),some (oR 25 3 Za z11),some (oR 25 3 Za z1.2.2.1)]) (n+9)) ?_
  intro s0_ x0_ hs0_
  unfold Q8 at hs0_
  try dsimp only
  refine Zg7 [1,15,16,17,18] hi0 hk0 ?_
  refine Zg ?_
  refine Zq (t:=(decide (s0_.1 < (a2.length:Int)))) rfl (fun c10 => ?_) (fun c10 => ?_)
  ·replace hs0_:=Zo c10 hs0_
   refine Qp [1,15,16,17] [false,false,false,false,false,false,true,true,true] ?_
   refine Zg ?_
   refine Z9 ?_
   refine Zg ?_
   obtain ⟨x5,hx5,ax5,bx5,cx5,hs0_⟩:=bE (f:=Za) Vh (fun _=>rfl) (by decide) hs0_
   refine Ybn [] ax5 bx5 cx5 hi0 hk0 ?_
   refine zD [1,7,15,16,17] [false,false,false,false,false,false,true,true,true,true] ?_
   obtain ⟨y6,hy6,hs0_⟩:=bC hs0_
   obtain ⟨l7,pl7,ql7,el7,hs0_⟩:=bA (k:=1) rfl hs0_
   obtain ⟨x8,hx8,ax8,bx8,cx8,hs0_⟩:=bE (f:=Za) Vh (fun _=>rfl) (by decide) hs0_
   have gu9:Ke (fl Za s0_.2++[.val (.int .i64 0),.val (.slice none 0 0),.val (.slice none 0 0)]) [.val (.int .i64 y6.Kind),.sl y6.Words.length (fl (eI .u64) y6.Words),.sl y6.Kids.length (fl Za y6.Kids)] (List.length s0_.2 * 3)=some (fl Za s0_.2++[.val (.int .i64 y6.Kind),.sl y6.Words.length (fl (eI .u64) y6.Words),.sl y6.Kids.length (fl Za y6.Kids)]):=Zdk (f:=Za) (sz:=3) (fun _=>rfl) rfl rfl
   refine Vt Zz (by kernel_rfl) [.plain,.low,.low,.low,.low,.low,.pass,.bar,.shp,.fill true,.shp,.fill false] (fun i=>i < (n+10)) [0,1,2,3,4,5,6,7,8,9,10,11] [.plain,.low,.low,.low,.low,.low,.pass,.bar,.shp,.fill true,.shp,.fill false] [] (by kernel_rfl) rfl ?_
   refine zF9 pl7 ql7 el7 ax8 bx8 cx8 gu9 hi0 hk0 ?_
   refine zO ?_
   first | refine PCallA.of (fun _ _=>Zdy hy6) ?_ | refine PCall.of (Zdy hy6) ?_
   refine zF9 pl7 ql7 el7 ax8 bx8 cx8 gu9 hi0 hk0 ?_
   refine zO ?_
   refine Zet ⟨32,[],[(1,.ref i0 2),(15,(sL Za a2)),(16,(vI (a2.length:Int))),(17,(vI s0_.1))]⟩ (Zu ((((O.upd j0_0 none).upd j0_1 none).upd j0_2 none).upd i0 (some ⟨false,142,4,1,[.row (n+6) z1.1.length,(vI z1.2.2.2),.row (n+7) (s0_.2++[y6]).length,.row (n+8) z1.2.2.1.length]⟩)) n [none,none,none,none,none,none,some (oR 75 14 Zd z1.1),some (oR 25 3 Za (s0_.2++[y6])),some (oR 25 3 Za z1.2.2.1),none,none]) (Yx hU rfl rfl ?_) ?_
   ·exact Z15 pl7 ql7 el7 ax8 bx8 cx8 gu9 hi0 hk0
   refine Jn [] hi0 hk0 ?_
   have hs0_:=Option.some.inj hs0_;subst hs0_
   refine And.intro rfl (Fit2.of (Yx hU rfl rfl ?_) (by omega))
   exact Js hi0 hk0
  replace hs0_:=Zn c10 hs0_
  refine zXt ?_
  have hs0_:=Option.some.inj hs0_;subst hs0_
  refine And.intro (fun h=>by cases h) (And.intro rfl (Fit2.of (Yx hU rfl rfl ?_) (by omega)))
  exact Js hi0 hk0
 try simp only [Ym,Z4,↓reduceIte,Nat.reduceEqDiff]
 have h:=Option.some.inj h;subst h
 refine Va (k:=3) (i:=i0) (q1:=⟨false,142,4,1,[.row (n+2) z1.1.length,(vI z1.2.2.2),.row n z11.length,.row (n+1) z1.2.2.1.length]⟩) (L3:=[some (oR 25 3 Za z11),some (oR 25 3 Za z1.2.2.1),some (oR 75 14 Zd z1.1),none]) (E2:=(⟨32,[],[]⟩:Env)) (n3:=(n+4)) (.inl rfl) hU rfl [] ?_ ?_
 ·refine Fit2.trans (E':=(⟨32,[],[]⟩:Env)) (O':=(Zu ((((O.upd j0_0 none).upd j0_1 none).upd j0_2 none).upd i0 (some ⟨false,142,4,1,[.row (n+6) z1.1.length,(vI z1.2.2.2),.row (n+7) z11.length,.row (n+8) z1.2.2.1.length]⟩)) n [none,none,none,none,none,none,some (oR 75 14 Zd z1.1),some (oR 25 3 Za z11),some (oR 25 3 Za z1.2.2.1)])) (n':=(n+9)) (Fit2.of (Yx hU rfl rfl ?_) (by omega)) ?_
  ·exact Js hi0 hk0
  refine Q0 (k:=9) (k':=4) hU [3,3,3,3,3,3,2,0,1] [7,8,6,0] rfl rfl rfl rfl ⟨rfl,rfl⟩ ?_
  exact Js hi0 hk0
 simp only [push_cast,seval,↓reduceIte,Zm,Try.results118,hi0,hk0,hN0,hN]
theorem Zkt {a0:Zy} {a2:(List Zb)} {r:Zy} {O:Objs} {n:Nat} {i0 j0_0 j0_1 j0_2:Nat} (hi0:i0 < n) (G3:j0_0 < n) (Ziw:j0_1 < n) (Zk2:j0_2 < n) (Kf:i0≠j0_0) (Zao:i0≠j0_1) (Zdt:i0≠j0_2) (Zan:j0_0≠j0_1) (Zdr:j0_0≠j0_2) (Zds:j0_1≠j0_2) (ho0:O i0=some ⟨false,142,4,1,[.row j0_2 a0.out.length,(vI a0.kept),.row j0_0 a0.gone.length,.row j0_1 a0.come.length]⟩) (Zap:O j0_0=some (oR 25 3 Za a0.gone)) (Zj2:O j0_1=some (oR 25 3 Za a0.come)) (Znb:O j0_2=some (oR 75 14 Zd a0.out)) (h:Ki a0 a2=some r):GTo Try.prog 118 [.ref i0 0,.ref i0 3,(sL Za a2)] O n (.tup []) (Zu ((((O.upd j0_0 none).upd j0_1 none).upd j0_2 none).upd i0 (some ⟨false,142,4,1,[.row (n+2) r.out.length,(vI r.kept),.row n r.gone.length,.row (n+1) r.come.length]⟩)) n [some (oR 25 3 Za r.gone),some (oR 25 3 Za r.come),some (oR 75 14 Zd r.out)]) (n+3):=by
 unfold Ki at h
 refine Zo2 Zz Try.call118 Try.func118 rfl (Nat.le_of_ble_eq_true rfl) (by omega) fun hU => ?_
 have e0:=K1 (ba:=n) (E:=⟨32,[],Zhf 0 [.ref i0 0,.ref i0 3,.sl a2.length (fl Za a2)]⟩) (O:=(Zu O n [])) (n:=n) (i:=i0) (j:=j0_0) (k:=2) (len:=a0.gone.length) (q:=⟨false,142,4,1,[.row j0_2 a0.out.length,.val (.int .i64 a0.kept),.row j0_0 a0.gone.length,.row j0_1 a0.come.length]⟩) (qj:=⟨true,25,3,a0.gone.length,fl Za a0.gone⟩) (by rw [Yt _ hi0];first | exact ho0 | exact Yo _ _ _) rfl (by rw [Yt _ G3];exact Zap) Kf (by omega)
 simp only [Y5 _ _ G3,Y5 _ _ hi0,Xd,Yv,Qw,Zdh Kf,List.set_cons_zero,List.set_cons_succ,List.cons_append,List.nil_append,List.length_cons,List.length_nil,Nat.zero_add,Nat.reduceAdd,Nat.add_assoc] at e0
 refine Jt e0 ?_
 have e1:=K1 (ba:=n) (E:=⟨32,[],Zhf 0 [.ref i0 0,.ref i0 3,.sl a2.length (fl Za a2)]⟩) (O:=(Zu ((O.upd j0_0 none).upd i0 (some ⟨false,142,4,1,[.row j0_2 a0.out.length,.val (.int .i64 a0.kept),.row n a0.gone.length,.row j0_1 a0.come.length]⟩)) n [some ⟨true,25,3,a0.gone.length,fl Za a0.gone⟩])) (n:=(n+1)) (i:=i0) (j:=j0_1) (k:=3) (len:=a0.come.length) (q:=⟨false,142,4,1,[.row j0_2 a0.out.length,.val (.int .i64 a0.kept),.row n a0.gone.length,.row j0_1 a0.come.length]⟩) (qj:=⟨true,25,3,a0.come.length,fl Za a0.come⟩) (by rw [Yt _ hi0];first | exact ho0 | exact Yo _ _ _) rfl (by rw [Yt _ Ziw,Xf _ _ (Ne.symm Zao),Xf _ _ (Ne.symm Zan)];exact Zj2) Zao (by omega)
 simp only [Y5 _ _ Ziw,Y5 _ _ hi0,Xd,Yv,Qw,Zdh Zao,List.set_cons_zero,List.set_cons_succ,List.cons_append,List.nil_append,List.length_cons,List.length_nil,Nat.zero_add,Nat.reduceAdd,Nat.add_assoc] at e1
 refine Jt e1 ?_
 have e2:=K1 (ba:=n) (E:=⟨32,[],Zhf 0 [.ref i0 0,.ref i0 3,.sl a2.length (fl Za a2)]⟩) (O:=(Zu (((O.upd j0_0 none).upd j0_1 none).upd i0 (some ⟨false,142,4,1,[.row j0_2 a0.out.length,.val (.int .i64 a0.kept),.row n a0.gone.length,.row (n+1) a0.come.length]⟩)) n [some ⟨true,25,3,a0.gone.length,fl Za a0.gone⟩,some ⟨true,25,3,a0.come.length,fl Za a0.come⟩])) (n:=(n+2)) (i:=i0) (j:=j0_2) (k:=0) (len:=a0.out.length) (q:=⟨false,142,4,1,[.row j0_2 a0.out.length,.val (.int .i64 a0.kept),.row n a0.gone.length,.row (n+1) a0.come.length]⟩) (qj:=⟨true,75,14,a0.out.length,fl Zd a0.out⟩) (by rw [Yt _ hi0];first | exact ho0 | exact Yo _ _ _) rfl (by rw [Yt _ Zk2,Xf _ _ (Ne.symm Zdt),Xf _ _ (Ne.symm Zds),Xf _ _ (Ne.symm Zdr)];exact Znb) Zdt (by omega)
 simp only [Y5 _ _ Zk2,Y5 _ _ hi0,Xd,Yv,Qw,Zdh Zdt,List.set_cons_zero,List.set_cons_succ,List.cons_append,List.nil_append,List.length_cons,List.length_nil,Nat.zero_add,Nat.reduceAdd,Nat.add_assoc] at e2
 refine Jt e2 ?_
 have hU:=(Und.drop (Und.drop (Und.drop hU j0_0) j0_1) j0_2)
 have hk0:∀ k,i0 < n+k:=fun k=>by omega
 have hN0:∀ o,Objs.upd (((O.upd j0_0 none).upd j0_1 none).upd j0_2 none) i0 o n=none:=fun o=>Kb hU hi0 _ (Nat.le_refl _)
 have hN:∀ o k,Objs.upd (((O.upd j0_0 none).upd j0_1 none).upd j0_2 none) i0 o (n+k)=none:=fun o k=>Kb hU hi0 _ (Nat.le_add_right _ _)
 show W _ _ _ _ ⟨32,[],[(0,.ref i0 0),(1,.ref i0 3),(2,(sL Za a2))]⟩ (Zu ((((O.upd j0_0 none).upd j0_1 none).upd j0_2 none).upd i0 (some ⟨false,142,4,1,[.row (n+2) a0.out.length,(vI a0.kept),.row n a0.gone.length,.row (n+1) a0.come.length]⟩)) n [some (oR 25 3 Za a0.gone),some (oR 25 3 Za a0.come),some (oR 75 14 Zd a0.out)]) _
 obtain ⟨z1,hz1,h⟩:=bC h
 refine Yp (E':=⟨32,[],[(1,.ref i0 3),(2,(sL Za a2))]⟩) (O':=(Zu ((((O.upd j0_0 none).upd j0_1 none).upd j0_2 none).upd i0 (some ⟨false,142,4,1,[.row (n+6) z1.1.length,(vI z1.2.2.2),.row (n+7) z1.2.1.length,.row (n+8) z1.2.2.1.length]⟩)) n [none,none,none,none,none,none,some (oR 75 14 Zd z1.1),some (oR 25 3 Za z1.2.1),some (oR 25 3 Za z1.2.2.1)])) (n0:=(n+9)) ?_ ?_
 ·refine Zg7 [0,1,2,12] hi0 hk0 ?_
  refine Zq (t:=(decide (0 < a0.kept))) rfl (fun c3 => ?_) (fun c3 => ?_)
  ·replace hz1:=Zo c3 hz1
   obtain ⟨y2,hy2,hz1⟩:=bC hz1
   refine Jn [] hi0 hk0 ?_
   refine (U0 (i0:=i0) (j0_0:=n) (j0_1:=(n+1)) (j0_2:=(n+2)) (by omega) (by omega) (by omega) (by omega) (by omega) (by omega) (by omega) (by omega) (by omega) (by omega) (by simp only [push_cast,seval,↓reduceIte,Zm,Xo,hi0,hk0,hN0,hN] <;> rfl) (by simp only [push_cast,seval,↓reduceIte,Zm,Xo,hi0,hk0,hN0,hN] <;> rfl) (by simp only [push_cast,seval,↓reduceIte,Zm,Xo,hi0,hk0,hN0,hN] <;> rfl) (by simp only [push_cast,seval,↓reduceIte,Zm,Xo,hi0,hk0,hN0,hN] <;> rfl) hy2).then ?_
   refine zX2 hi0 hk0 ?_
   have hz1:=Option.some.inj hz1;subst hz1
   refine And.intro rfl ?_
   refine Fit2.trans (E':=(⟨32,[],[(1,.ref i0 3),(2,(sL Za a2))]⟩:Env)) (O':=(Zu ((((O.upd j0_0 none).upd j0_1 none).upd j0_2 none).upd i0 (some ⟨false,142,4,1,[.row (n+5) y2.out.length,(vI y2.kept),.row (n+3) y2.gone.length,.row (n+4) y2.come.length]⟩)) n [none,none,none,some (oR 25 3 Za y2.gone),some (oR 25 3 Za y2.come),some (oR 75 14 Zd y2.out)])) (n':=(n+6)) (Fit2.of (Yx hU rfl rfl ?_) (by omega)) ?_
   ·exact Js hi0 hk0
   refine Q0 (k:=6) (k':=9) hU [5,5,5,7,8,6] [0,0,0,0,0,0,5,3,4] rfl rfl rfl rfl ⟨rfl,rfl⟩ ?_
   exact Js hi0 hk0
  replace hz1:=Zn c3 hz1
  refine zK ?_
  have hz1:=Option.some.inj hz1;subst hz1
  refine And.intro rfl ?_
  refine Fit2.trans (E':=(⟨32,[],[(1,.ref i0 3),(2,(sL Za a2))]⟩:Env)) (O':=(Zu ((((O.upd j0_0 none).upd j0_1 none).upd j0_2 none).upd i0 (some ⟨false,142,4,1,[.row (n+2) a0.out.length,(vI a0.kept),.row n a0.gone.length,.row (n+1) a0.come.length]⟩)) n [some (oR 25 3 Za a0.gone),some (oR 25 3 Za a0.come),some (oR 75 14 Zd a0.out)])) (n':=(n+3)) (Fit2.of (Yx hU rfl rfl ?_) (by omega)) ?_
  ·exact Js hi0 hk0
  refine Q0 (k:=3) (k':=9) hU [7,8,6] [0,0,0,0,0,0,2,0,1] rfl rfl rfl rfl ⟨rfl,rfl⟩ ?_
  exact Js hi0 hk0
 refine Zg7 [1,15,16,17] hi0 hk0 ?_
 refine zD [1,15,16,17] [false,false,false,false,false,false,true,true,true] ?_
 obtain ⟨z11,hz11,h⟩:=bC h
 refine Yg (E':=⟨32,[],[]⟩) (O':=(Zu ((((O.upd j0_0 none).upd j0_1 none).upd j0_2 none).upd i0 (some ⟨false,142,4,1,[.row (n+6) z1.1.length,(vI z1.2.2.2),.row (n+7) z1.2.1.length,.row (n+8) z11.length]⟩)) n [none,none,none,none,none,none,some (oR 75 14 Zd z1.1),some (oR 25 3 Za z1.2.1),some (oR 25 3 Za z11)])) (n0:=(n+9)) ?_ ?_
 ·refine Y2 hz11 (fun s0_=>⟨32,[],[(1,.ref i0 3),(15,(sL Za a2)),(16,(vI (a2.length:Int))),(17,(vI s0_.1))]⟩) (fun s0_=>(Zu ((((O.upd j0_0 none).upd j0_1 none).upd j0_2 none).upd i0 (some ⟨false,142,4,1,[.row (n+6) z1.1.length,(vI z1.2.2.2),.row (n+7) z1.2.1.length,.row (n+8) s0_.2.length]⟩)) n [none,none,none,none,none,none,some (oR 75 14 Zd z1.1),some (oR 25 3 Za z1.2.1),some (oR 25 3 Za s0_.2)])) (fun z11=>JX 0 n (⟨32,[],[]⟩:Env) (Zu ((((O.upd j0_0 none).upd j0_1 none).upd j0_2 none).upd i0 (some ⟨false,142,4,1,[.row (n+6) z1.1.length,(vI z1.2.2.2),.row (n+7) z1.2.1.length,.row (n+8) z11.length]⟩)) n [none,none,none,none,none,none,some (oR 75 14 Zd z1.1),some (oR 25 3 Za z1.2.1),some (oR 25 3 Za z11)]) (n+9)) ?_
  intro s0_ x0_ hs0_
  unfold Q9 at hs0_
  try dsimp only
  refine Zg7 [1,15,16,17,18] hi0 hk0 ?_
  refine Zg ?_
  refine Zq (t:=(decide (s0_.1 < (a2.length:Int)))) rfl (fun c10 => ?_) (fun c10 => ?_)
  ·replace hs0_:=Zo c10 hs0_
   refine Qp [1,15,16,17] [false,false,false,false,false,false,true,true,true] ?_
   refine Zg ?_
   refine Z9 ?_
   refine Zg ?_
   obtain ⟨x5,hx5,ax5,bx5,cx5,hs0_⟩:=bE (f:=Za) Vh (fun _=>rfl) (by decide) hs0_
   refine Ybn [] ax5 bx5 cx5 hi0 hk0 ?_
   refine zD [1,7,15,16,17] [false,false,false,false,false,false,true,true,true,true] ?_
   obtain ⟨y6,hy6,hs0_⟩:=bC hs0_
   obtain ⟨l7,pl7,ql7,el7,hs0_⟩:=bA (k:=1) rfl hs0_
   obtain ⟨x8,hx8,ax8,bx8,cx8,hs0_⟩:=bE (f:=Za) Vh (fun _=>rfl) (by decide) hs0_
   have gu9:Ke (fl Za s0_.2++[.val (.int .i64 0),.val (.slice none 0 0),.val (.slice none 0 0)]) [.val (.int .i64 y6.Kind),.sl y6.Words.length (fl (eI .u64) y6.Words),.sl y6.Kids.length (fl Za y6.Kids)] (List.length s0_.2 * 3)=some (fl Za s0_.2++[.val (.int .i64 y6.Kind),.sl y6.Words.length (fl (eI .u64) y6.Words),.sl y6.Kids.length (fl Za y6.Kids)]):=Zdk (f:=Za) (sz:=3) (fun _=>rfl) rfl rfl
   refine Vt Zz (by kernel_rfl) [.plain,.low,.low,.low,.low,.low,.pass,.bar,.shp,.fill true,.shp,.fill false] (fun i=>i < (n+10)) [0,1,2,3,4,5,6,7,8,9,10,11] [.plain,.low,.low,.low,.low,.low,.pass,.bar,.shp,.fill true,.shp,.fill false] [] (by kernel_rfl) rfl ?_
   refine zF9 pl7 ql7 el7 ax8 bx8 cx8 gu9 hi0 hk0 ?_
   refine zO ?_
   first | refine PCallA.of (fun _ _=>Zdy hy6) ?_ | refine PCall.of (Zdy hy6) ?_
   refine zF9 pl7 ql7 el7 ax8 bx8 cx8 gu9 hi0 hk0 ?_
   refine zO ?_
   refine Zet ⟨32,[],[(1,.ref i0 3),(15,(sL Za a2)),(16,(vI (a2.length:Int))),(17,(vI s0_.1))]⟩ (Zu ((((O.upd j0_0 none).upd j0_1 none).upd j0_2 none).upd i0 (some ⟨false,142,4,1,[.row (n+6) z1.1.length,(vI z1.2.2.2),.row (n+7) z1.2.1.length,.row (n+8) (s0_.2++[y6]).length]⟩)) n [none,none,none,none,none,none,some (oR 75 14 Zd z1.1),some (oR 25 3 Za z1.2.1),some (oR 25 3 Za (s0_.2++[y6])),none,none]) (Yx hU rfl rfl ?_) ?_
   ·exact Z15 pl7 ql7 el7 ax8 bx8 cx8 gu9 hi0 hk0
   refine Jn [] hi0 hk0 ?_
   have hs0_:=Option.some.inj hs0_;subst hs0_
   refine And.intro rfl (Fit2.of (Yx hU rfl rfl ?_) (by omega))
   exact Js hi0 hk0
  replace hs0_:=Zn c10 hs0_
  refine zXt ?_
  have hs0_:=Option.some.inj hs0_;subst hs0_
  refine And.intro (fun h=>by cases h) (And.intro rfl (Fit2.of (Yx hU rfl rfl ?_) (by omega)))
  exact Js hi0 hk0
 try simp only [Ym,Z4,↓reduceIte,Nat.reduceEqDiff]
 have h:=Option.some.inj h;subst h
 refine Va (k:=3) (i:=i0) (q1:=⟨false,142,4,1,[.row (n+2) z1.1.length,(vI z1.2.2.2),.row n z1.2.1.length,.row (n+1) z11.length]⟩) (L3:=[some (oR 25 3 Za z1.2.1),some (oR 25 3 Za z11),some (oR 75 14 Zd z1.1),none]) (E2:=(⟨32,[],[]⟩:Env)) (n3:=(n+4)) (.inl rfl) hU rfl [] ?_ ?_
 ·refine Fit2.trans (E':=(⟨32,[],[]⟩:Env)) (O':=(Zu ((((O.upd j0_0 none).upd j0_1 none).upd j0_2 none).upd i0 (some ⟨false,142,4,1,[.row (n+6) z1.1.length,(vI z1.2.2.2),.row (n+7) z1.2.1.length,.row (n+8) z11.length]⟩)) n [none,none,none,none,none,none,some (oR 75 14 Zd z1.1),some (oR 25 3 Za z1.2.1),some (oR 25 3 Za z11)])) (n':=(n+9)) (Fit2.of (Yx hU rfl rfl ?_) (by omega)) ?_
  ·exact Js hi0 hk0
  refine Q0 (k:=9) (k':=4) hU [3,3,3,3,3,3,2,0,1] [7,8,6,0] rfl rfl rfl rfl ⟨rfl,rfl⟩ ?_
  exact Js hi0 hk0
 simp only [push_cast,seval,↓reduceIte,Zm,Try.results118,hi0,hk0,hN0,hN]
theorem Z0k {a0:Int} {a1:Zc} {r:Bool} {O:Objs} {n:Nat} (h:Zgh a0 a1=some r):GTo Try.prog 148 [(vI a0),.agg (Ze a1)] O n ((vB r)) O n:=by
 unfold Zgh at h
 refine zFn Try.call148 Try.func148 fun hU hN0 hN => ?_
 show W _ _ _ _ ⟨27,[],[(0,(vI a0)),(1,.agg (Ze a1))]⟩ (Zu O n []) _
 refine zQ [0,3] ?_
 refine zQD [4] [none,none,none,none,none,none,none,none,none,none,none,none,none,none,none,none,none] ?_
 exact Yi [(vB (cond (a1.Kind == 0) true (cond (cond (a0 == 9) (a1.Kind == 2) false) ((IntKind.i64.wrap ((a1.Words.length:Int)+(a1.Kids.length:Int))) == 0) false)))]
theorem Zlq {a0:Zy} {a1:Int} {a2:Zc} {r:Zy} {O:Objs} {n:Nat} {i0 j0_0 j0_1 j0_2:Nat} (hi0:i0 < n) (G3:j0_0 < n) (Ziw:j0_1 < n) (Zk2:j0_2 < n) (Kf:i0≠j0_0) (Zao:i0≠j0_1) (Zdt:i0≠j0_2) (Zan:j0_0≠j0_1) (Zdr:j0_0≠j0_2) (Zds:j0_1≠j0_2) (ho0:O i0=some ⟨false,142,4,1,[.row j0_2 a0.out.length,(vI a0.kept),.row j0_0 a0.gone.length,.row j0_1 a0.come.length]⟩) (Zap:O j0_0=some (oR 25 3 Za a0.gone)) (Zj2:O j0_1=some (oR 25 3 Za a0.come)) (Znb:O j0_2=some (oR 75 14 Zd a0.out)) (h:Kw a0 a1 a2=some r):GTo Try.prog 119 [.ref i0 0,(vI a1),.agg (Ze a2)] O n (.tup []) (Zu ((((O.upd j0_0 none).upd j0_1 none).upd j0_2 none).upd i0 (some ⟨false,142,4,1,[.row (n+2) r.out.length,(vI r.kept),.row n r.gone.length,.row (n+1) r.come.length]⟩)) n [some (oR 25 3 Za r.gone),some (oR 25 3 Za r.come),some (oR 75 14 Zd r.out)]) (n+3):=by
 unfold Kw at h
 refine Zo2 Zz Try.call119 Try.func119 rfl (Nat.le_of_ble_eq_true rfl) (by omega) fun hU => ?_
 have e0:=K1 (ba:=n) (E:=⟨25,[],Zhf 0 [.ref i0 0,.val (.int .i64 a1),.agg [.val (.int .i64 a2.Kind),.val (.int .i64 a2.Old.Kind),.sl a2.Old.Words.length (fl (eI .u64) a2.Old.Words),.sl a2.Old.Kids.length (fl Za a2.Old.Kids),.val (.int .i64 a2.New.Kind),.sl a2.New.Words.length (fl (eI .u64) a2.New.Words),.sl a2.New.Kids.length (fl Za a2.New.Kids),.sl a2.Words.length (fl Zl a2.Words),.sl a2.Kids.length (fl Zi a2.Kids),.val (.int .i64 a2.List_),.sl a2.Ops.length (fl Zd a2.Ops)]]⟩) (O:=(Zu O n [])) (n:=n) (i:=i0) (j:=j0_0) (k:=2) (len:=a0.gone.length) (q:=⟨false,142,4,1,[.row j0_2 a0.out.length,.val (.int .i64 a0.kept),.row j0_0 a0.gone.length,.row j0_1 a0.come.length]⟩) (qj:=⟨true,25,3,a0.gone.length,fl Za a0.gone⟩) (by rw [Yt _ hi0];first | exact ho0 | exact Yo _ _ _) rfl (by rw [Yt _ G3];exact Zap) Kf (by omega)
 simp only [Y5 _ _ G3,Y5 _ _ hi0,Xd,Yv,Qw,Zdh Kf,List.set_cons_zero,List.set_cons_succ,List.cons_append,List.nil_append,List.length_cons,List.length_nil,Nat.zero_add,Nat.reduceAdd,Nat.add_assoc] at e0
 refine Jt e0 ?_
 have e1:=K1 (ba:=n) (E:=⟨25,[],Zhf 0 [.ref i0 0,.val (.int .i64 a1),.agg [.val (.int .i64 a2.Kind),.val (.int .i64 a2.Old.Kind),.sl a2.Old.Words.length (fl (eI .u64) a2.Old.Words),.sl a2.Old.Kids.length (fl Za a2.Old.Kids),.val (.int .i64 a2.New.Kind),.sl a2.New.Words.length (fl (eI .u64) a2.New.Words),.sl a2.New.Kids.length (fl Za a2.New.Kids),.sl a2.Words.length (fl Zl a2.Words),.sl a2.Kids.length (fl Zi a2.Kids),.val (.int .i64 a2.List_),.sl a2.Ops.length (fl Zd a2.Ops)]]⟩) (O:=(Zu ((O.upd j0_0 none).upd i0 (some ⟨false,142,4,1,[.row j0_2 a0.out.length,.val (.int .i64 a0.kept),.row n a0.gone.length,.row j0_1 a0.come.length]⟩)) n [some ⟨true,25,3,a0.gone.length,fl Za a0.gone⟩])) (n:=(n+1)) (i:=i0) (j:=j0_1) (k:=3) (len:=a0.come.length) (q:=⟨false,142,4,1,[.row j0_2 a0.out.length,.val (.int .i64 a0.kept),.row n a0.gone.length,.row j0_1 a0.come.length]⟩) (qj:=⟨true,25,3,a0.come.length,fl Za a0.come⟩) (by rw [Yt _ hi0];first | exact ho0 | exact Yo _ _ _) rfl (by rw [Yt _ Ziw,Xf _ _ (Ne.symm Zao),Xf _ _ (Ne.symm Zan)];exact Zj2) Zao (by omega)
 simp only [Y5 _ _ Ziw,Y5 _ _ hi0,Xd,Yv,Qw,Zdh Zao,List.set_cons_zero,List.set_cons_succ,List.cons_append,List.nil_append,List.length_cons,List.length_nil,Nat.zero_add,Nat.reduceAdd,Nat.add_assoc] at e1
 refine Jt e1 ?_
 have e2:=K1 (ba:=n) (E:=⟨25,[],Zhf 0 [.ref i0 0,.val (.int .i64 a1),.agg [.val (.int .i64 a2.Kind),.val (.int .i64 a2.Old.Kind),.sl a2.Old.Words.length (fl (eI .u64) a2.Old.Words),.sl a2.Old.Kids.length (fl Za a2.Old.Kids),.val (.int .i64 a2.New.Kind),.sl a2.New.Words.length (fl (eI .u64) a2.New.Words),.sl a2.New.Kids.length (fl Za a2.New.Kids),.sl a2.Words.length (fl Zl a2.Words),.sl a2.Kids.length (fl Zi a2.Kids),.val (.int .i64 a2.List_),.sl a2.Ops.length (fl Zd a2.Ops)]]⟩) (O:=(Zu (((O.upd j0_0 none).upd j0_1 none).upd i0 (some ⟨false,142,4,1,[.row j0_2 a0.out.length,.val (.int .i64 a0.kept),.row n a0.gone.length,.row (n+1) a0.come.length]⟩)) n [some ⟨true,25,3,a0.gone.length,fl Za a0.gone⟩,some ⟨true,25,3,a0.come.length,fl Za a0.come⟩])) (n:=(n+2)) (i:=i0) (j:=j0_2) (k:=0) (len:=a0.out.length) (q:=⟨false,142,4,1,[.row j0_2 a0.out.length,.val (.int .i64 a0.kept),.row n a0.gone.length,.row (n+1) a0.come.length]⟩) (qj:=⟨true,75,14,a0.out.length,fl Zd a0.out⟩) (by rw [Yt _ hi0];first | exact ho0 | exact Yo _ _ _) rfl (by rw [Yt _ Zk2,Xf _ _ (Ne.symm Zdt),Xf _ _ (Ne.symm Zds),Xf _ _ (Ne.symm Zdr)];exact Znb) Zdt (by omega)
 simp only [Y5 _ _ Zk2,Y5 _ _ hi0,Xd,Yv,Qw,Zdh Zdt,List.set_cons_zero,List.set_cons_succ,List.cons_append,List.nil_append,List.length_cons,List.length_nil,Nat.zero_add,Nat.reduceAdd,Nat.add_assoc] at e2
 refine Jt e2 ?_
 have hU:=(Und.drop (Und.drop (Und.drop hU j0_0) j0_1) j0_2)
 have hk0:∀ k,i0 < n+k:=fun k=>by omega
 have hN0:∀ o,Objs.upd (((O.upd j0_0 none).upd j0_1 none).upd j0_2 none) i0 o n=none:=fun o=>Kb hU hi0 _ (Nat.le_refl _)
 have hN:∀ o k,Objs.upd (((O.upd j0_0 none).upd j0_1 none).upd j0_2 none) i0 o (n+k)=none:=fun o k=>Kb hU hi0 _ (Nat.le_add_right _ _)
 show W _ _ _ _ ⟨25,[],[(0,.ref i0 0),(1,(vI a1)),(2,.agg (Ze a2))]⟩ (Zu ((((O.upd j0_0 none).upd j0_1 none).upd j0_2 none).upd i0 (some ⟨false,142,4,1,[.row (n+2) a0.out.length,(vI a0.kept),.row n a0.gone.length,.row (n+1) a0.come.length]⟩)) n [some (oR 25 3 Za a0.gone),some (oR 25 3 Za a0.come),some (oR 75 14 Zd a0.out)]) _
 refine Zg7 [0,1,5] hi0 hk0 ?_
 refine Zg ?_
 refine Zg ?_
 obtain ⟨y2,hy2,h⟩:=bC h
 refine Jn [] hi0 hk0 ?_
 refine (Z0k hy2).then ?_
 refine zX2 hi0 hk0 ?_
 refine zD [0,5,8] [true,true,true,true] ?_
 refine Zq (t:=y2) rfl (fun c10 => ?_) (fun c10 => ?_)
 ·replace h:=Zo c10 h
  refine Zg ?_
  obtain ⟨y4,hy4,h⟩:=bC h
  refine Jn [] hi0 hk0 ?_
  refine (Zif (i0:=i0) (j0_0:=n) (j0_1:=(n+1)) (j0_2:=(n+2)) (by omega) (by omega) (by omega) (by omega) (by omega) (by omega) (by omega) (by omega) (by omega) (by omega) (by simp only [push_cast,seval,↓reduceIte,Zm,Xo,hi0,hk0,hN0,hN] <;> rfl) (by simp only [push_cast,seval,↓reduceIte,Zm,Xo,hi0,hk0,hN0,hN] <;> rfl) (by simp only [push_cast,seval,↓reduceIte,Zm,Xo,hi0,hk0,hN0,hN] <;> rfl) (by simp only [push_cast,seval,↓reduceIte,Zm,Xo,hi0,hk0,hN0,hN] <;> rfl) hy4).then ?_
  refine zX2 hi0 hk0 ?_
  refine zD [] [false,false,false,false,true,true,true] ?_
  refine zW ?_
  have h:=Option.some.inj h;subst h
  refine Va (k:=3) (i:=i0) (q1:=⟨false,142,4,1,[.row (n+2) y4.out.length,(vI y4.kept),.row n y4.gone.length,.row (n+1) y4.come.length]⟩) (L3:=[some (oR 25 3 Za y4.gone),some (oR 25 3 Za y4.come),some (oR 75 14 Zd y4.out),none]) (E2:=(⟨25,[],[]⟩:Env)) (n3:=(n+4)) (.inr rfl) hU rfl [] ?_ ?_
  ·refine Fit2.trans (E':=(⟨25,[],[]⟩:Env)) (O':=(Zu ((((O.upd j0_0 none).upd j0_1 none).upd j0_2 none).upd i0 (some ⟨false,142,4,1,[.row (n+6) y4.out.length,(vI y4.kept),.row (n+4) y4.gone.length,.row (n+5) y4.come.length]⟩)) n [none,none,none,none,some (oR 25 3 Za y4.gone),some (oR 25 3 Za y4.come),some (oR 75 14 Zd y4.out)])) (n':=(n+7)) (Fit2.of (Yx hU rfl rfl ?_) (by omega)) ?_
   ·exact Js hi0 hk0
   refine Q0 (k:=7) (k':=4) hU [3,3,3,3,0,1,2] [4,5,6,0] rfl rfl rfl rfl ⟨rfl,rfl⟩ ?_
   exact Js hi0 hk0
  simp only [push_cast,seval,↓reduceIte,Zm,Try.results119,hi0,hk0,hN0,hN]
 replace h:=Zn c10 h
 refine Qp [0,5] [true,true,true,true] ?_
 refine Zg ?_
 obtain ⟨y6,hy6,h⟩:=bC h
 refine Jn [] hi0 hk0 ?_
 refine (U0 (i0:=i0) (j0_0:=n) (j0_1:=(n+1)) (j0_2:=(n+2)) (by omega) (by omega) (by omega) (by omega) (by omega) (by omega) (by omega) (by omega) (by omega) (by omega) (by simp only [push_cast,seval,↓reduceIte,Zm,Xo,hi0,hk0,hN0,hN] <;> rfl) (by simp only [push_cast,seval,↓reduceIte,Zm,Xo,hi0,hk0,hN0,hN] <;> rfl) (by simp only [push_cast,seval,↓reduceIte,Zm,Xo,hi0,hk0,hN0,hN] <;> rfl) (by simp only [push_cast,seval,↓reduceIte,Zm,Xo,hi0,hk0,hN0,hN] <;> rfl) hy6).then ?_
 refine zX2 hi0 hk0 ?_
 refine zD [0,5] [false,false,false,true,true,true,true] ?_
 obtain ⟨l7,pl7,ql7,el7,h⟩:=bA (k:=1) rfl h
 obtain ⟨x8,hx8,ax8,bx8,cx8,h⟩:=bE (f:=Zd) Zbe (fun _=>rfl) (by decide) h
 have gu9:Ke (fl Zd y6.out++[.val (.int .i64 0),.val (.int .i64 0),.val (.slice none 0 0),.val (.int .i64 0),.val (.int .i64 0),.val (.slice none 0 0),.val (.slice none 0 0),.val (.int .i64 0),.val (.slice none 0 0),.val (.slice none 0 0),.val (.slice none 0 0),.val (.slice none 0 0),.val (.int .i64 0),.val (.slice none 0 0)]) [.val (.int .i64 3),.val (.int .i64 0),.val (.slice none 0 0),.val (.int .i64 a2.Kind),.val (.int .i64 a2.Old.Kind),.sl a2.Old.Words.length (fl (eI .u64) a2.Old.Words),.sl a2.Old.Kids.length (fl Za a2.Old.Kids),.val (.int .i64 a2.New.Kind),.sl a2.New.Words.length (fl (eI .u64) a2.New.Words),.sl a2.New.Kids.length (fl Za a2.New.Kids),.sl a2.Words.length (fl Zl a2.Words),.sl a2.Kids.length (fl Zi a2.Kids),.val (.int .i64 a2.List_),.sl a2.Ops.length (fl Zd a2.Ops)] (List.length y6.out * 14)=some (fl Zd y6.out++[.val (.int .i64 3),.val (.int .i64 0),.val (.slice none 0 0),.val (.int .i64 a2.Kind),.val (.int .i64 a2.Old.Kind),.sl a2.Old.Words.length (fl (eI .u64) a2.Old.Words),.sl a2.Old.Kids.length (fl Za a2.Old.Kids),.val (.int .i64 a2.New.Kind),.sl a2.New.Words.length (fl (eI .u64) a2.New.Words),.sl a2.New.Kids.length (fl Za a2.New.Kids),.sl a2.Words.length (fl Zl a2.Words),.sl a2.Kids.length (fl Zi a2.Kids),.val (.int .i64 a2.List_),.sl a2.Ops.length (fl Zd a2.Ops)]):=Zdk (f:=Zd) (sz:=14) (fun _=>rfl) rfl rfl
 refine Vt Zz (by kernel_rfl) [.plain,.low,.low,.low,.low,.plain,.low,.pass,.bar,.shp,.fill true,.shp,.shp,.fill false] (fun i=>i < (n+7)) [0,1,2,3,4,5,6,7,8,9,10,11,12,13] [.plain,.low,.low,.low,.low,.plain,.low,.pass,.bar,.shp,.fill true,.shp,.shp,.fill false] [] (by kernel_rfl) rfl ?_
 refine zF9 pl7 ql7 el7 ax8 bx8 cx8 gu9 hi0 hk0 ?_
 refine zO ?_
 have h:=Option.some.inj h;subst h
 refine Va (k:=3) (i:=i0) (q1:=⟨false,142,4,1,[.row (n+2) (y6.out++[(⟨3,0,([]:(List Zb)),a2⟩:Zh)]).length,(vI y6.kept),.row n y6.gone.length,.row (n+1) y6.come.length]⟩) (L3:=[some (oR 25 3 Za y6.gone),some (oR 25 3 Za y6.come),some (oR 75 14 Zd (y6.out++[(⟨3,0,([]:(List Zb)),a2⟩:Zh)])),none]) (E2:=(⟨25,[],[]⟩:Env)) (n3:=(n+4)) (.inl rfl) hU rfl [] ?_ ?_
 ·refine Fit2.trans (E':=(⟨25,[],[]⟩:Env)) (O':=(Zu ((((O.upd j0_0 none).upd j0_1 none).upd j0_2 none).upd i0 (some ⟨false,142,4,1,[.row (n+6) (y6.out++[(⟨3,0,([]:(List Zb)),a2⟩:Zh)]).length,(vI y6.kept),.row (n+4) y6.gone.length,.row (n+5) y6.come.length]⟩)) n [none,none,none,none,some (oR 25 3 Za y6.gone),some (oR 25 3 Za y6.come),some (oR 75 14 Zd (y6.out++[(⟨3,0,([]:(List Zb)),a2⟩:Zh)])),none])) (n':=(n+8)) (Fit2.of (Yx hU rfl rfl ?_) (by omega)) ?_
  ·exact Z15 pl7 ql7 el7 ax8 bx8 cx8 gu9 hi0 hk0
  refine Q0 (k:=8) (k':=4) hU [3,3,3,3,0,1,2,3] [4,5,6,0] rfl rfl rfl rfl ⟨rfl,rfl⟩ ?_
  exact Js hi0 hk0
 simp only [push_cast,seval,↓reduceIte,Zm,Try.results119,hi0,hk0,hN0,hN]
def Zik (Qf:(Zc→Option Zc)):Prop:=∀ {a0:Zc} {r:Zc} {O:Objs} {n:Nat},Qf a0=some r→GTo Try.prog 48 [.agg (Ze a0)] O n (.agg (Ze r)) O n
def Zjd (Uk:(Int→(List Zh)→Option (List Zh))):Prop:=∀ {a0:Int} {a1:(List Zh)} {r:(List Zh)} {O:Objs} {n:Nat},Uk a0 a1=some r→GTo Try.prog 79 [(vI a0),(sL Zd a1)] O n ((sL Zd r)) O n
theorem Zwr {Qf:(Zc→Option Zc)} {Uk:(Int→(List Zh)→Option (List Zh))} (Zfx:Zik Qf) (Zol:Zjd Uk) {a0:Zc} {r:Zc} {O:Objs} {n:Nat} (h:Zgb Qf Uk a0=some r):GTo Try.prog 48 [.agg (Ze a0)] O n (.agg (Ze r)) O n:=by
 unfold Zgb at h
 refine zFn Try.call48 Try.func48 fun hU hN0 hN => ?_
 show W _ _ _ _ ⟨54,[],[(0,.agg (Ze a0))]⟩ (Zu O n []) _
 refine zQ [1,2] ?_
 refine Zg ?_
 refine zQ [1,2,7] ?_
 refine Z9 ?_
 refine zQ [1,2,7,8] ?_
 refine Zq (t:=(a0.Kind == 1)) rfl (fun c17 => ?_) (fun c17 => ?_)
 ·replace h:=Zo c17 h
  refine Zg ?_
  obtain ⟨y3,hy3,h⟩:=bC h
  obtain ⟨y4,hy4,h⟩:=bC h
  refine Zgo Zz (by kernel_rfl) [false,false,false,false,false,false,false,true] [] (by kernel_rfl) ?_
  refine zS ?_
  refine PCall.of (Zdy hy3) ?_
  refine zS ?_
  refine PCall.of (Zdy hy4) ?_
  refine zS ?_
  refine zD [2] [false,true] ?_
  exact Yi [.agg [(vI 1),(vI y3.Kind),(sL (eI .u64) y3.Words),(sL Za y3.Kids),(vI y4.Kind),(sL (eI .u64) y4.Words),(sL Za y4.Kids),nV,nV,(vI 0),nV]]
 replace h:=Zn c17 h
 refine zQ [1,2,7,17] ?_
 refine Zq (t:=(a0.Kind == 2)) rfl (fun c16 => ?_) (fun c16 => ?_)
 ·replace h:=Zo c16 h
  refine Zg ?_
  obtain ⟨y6,hy6,h⟩:=bC h
  refine zR ?_
  refine (Zeg  hy6).then ?_
  refine zS ?_
  refine zDs [1,2,3] [true,true,true,true] ?_
  refine zQd [2,3,24,25,26] [2,3,24,25,26] [false,true,true,true] ?_
  refine Jt (E':=(⟨54,[],[(2,.ref (n+1) 0),(3,.ref (n+3) 0),(24,(sL Zi a0.Kids)),(25,(vI (a0.Kids.length:Int))),(26,(vI 0))]⟩:Env)) (O':=(Zu O n [none,some ⟨false,30,11,1,[(vI 0),(vI 0),nV,nV,(vI 0),nV,nV,nV,nV,(vI 0),nV]⟩,some (oR 82 4 Zl y6),some ⟨false,30,11,1,[(vI 2),(vI 0),nV,nV,(vI 0),nV,nV,.row (n+2) y6.length,.row (n+4) ([]:List Zk).length,(vI 0),nV]⟩,some (oR 84 12 Zi ([]:List Zk)),none])) (n':=(n+6)) ?_ ?_
  ·refine Fit2.trans (E':=(⟨54,[],[(2,.ref (n+1) 0),(3,.ref (n+3) 0),(24,(sL Zi a0.Kids)),(25,(vI (a0.Kids.length:Int))),(26,(vI 0))]⟩:Env)) (O':=(Zu O n [none,some ⟨false,30,11,1,[(vI 0),(vI 0),nV,nV,(vI 0),nV,nV,nV,nV,(vI 0),nV]⟩,some (oR 82 4 Zl y6),some ⟨false,30,11,1,[(vI 2),(vI 0),nV,nV,(vI 0),nV,nV,.row (n+2) y6.length,nV,(vI 0),nV]⟩])) (n':=(n+4)) (Fit2.of (Ya hU rfl rfl ?_) (by omega)) ?_
   ·exact zSe
   refine Fit2.trans (Zco (p:=(n+3)) (k:=8) (q:=⟨false,30,11,1,[(vI 2),(vI 0),nV,nV,(vI 0),nV,nV,.row (n+2) y6.length,nV,(vI 0),nV]⟩) 84 12 (by simp only [Zab,Zes,List.getElem?_cons_zero,List.getElem?_cons_succ,Option.join_some,List.length_nil,Yo]) rfl (by omega)) ?_
   simp only [Xd,Yv,U3,K8,List.set_cons_zero,List.set_cons_succ,List.cons_append,List.nil_append,List.length_cons,List.length_nil,Nat.zero_add,Nat.reduceAdd,Nat.reduceLT,Nat.add_assoc]
   refine Ja (k:=5) (k':=6) hU [5,1,2,3,4] [0,1,2,3,4,0] rfl rfl rfl rfl ⟨rfl,rfl⟩ ?_
   exact zSe
  obtain ⟨z12,hz12,h⟩:=bC h
  refine Yg (E':=⟨54,[],[(2,.ref (n+1) 0),(3,.ref (n+3) 0)]⟩) (O':=(Zu O n [none,some ⟨false,30,11,1,[(vI 0),(vI 0),nV,nV,(vI 0),nV,nV,nV,nV,(vI 0),nV]⟩,some (oR 82 4 Zl y6),some ⟨false,30,11,1,[(vI 2),(vI 0),nV,nV,(vI 0),nV,nV,.row (n+2) y6.length,.row (n+4) z12.length,(vI 0),nV]⟩,some (oR 84 12 Zi z12),none])) (n0:=(n+6)) ?_ ?_
  ·refine Y2 hz12 (fun s0_=>⟨54,[],[(2,.ref (n+1) 0),(3,.ref (n+3) 0),(24,(sL Zi a0.Kids)),(25,(vI (a0.Kids.length:Int))),(26,(vI s0_.1))]⟩) (fun s0_=>(Zu O n [none,some ⟨false,30,11,1,[(vI 0),(vI 0),nV,nV,(vI 0),nV,nV,nV,nV,(vI 0),nV]⟩,some (oR 82 4 Zl y6),some ⟨false,30,11,1,[(vI 2),(vI 0),nV,nV,(vI 0),nV,nV,.row (n+2) y6.length,.row (n+4) s0_.2.length,(vI 0),nV]⟩,some (oR 84 12 Zi s0_.2),none])) (fun z12=>JX 1 n (⟨54,[],[(2,.ref (n+1) 0),(3,.ref (n+3) 0)]⟩:Env) (Zu O n [none,some ⟨false,30,11,1,[(vI 0),(vI 0),nV,nV,(vI 0),nV,nV,nV,nV,(vI 0),nV]⟩,some (oR 82 4 Zl y6),some ⟨false,30,11,1,[(vI 2),(vI 0),nV,nV,(vI 0),nV,nV,.row (n+2) y6.length,.row (n+4) z12.length,(vI 0),nV]⟩,some (oR 84 12 Zi z12),none]) (n+6)) ?_
   intro s0_ x0_ hs0_
   unfold Zc7 at hs0_
   try dsimp only
   refine zQ [2,3,24,25,26,27] ?_
   refine Zg ?_
   refine Zq (t:=(decide (s0_.1 < (a0.Kids.length:Int)))) rfl (fun c11 => ?_) (fun c11 => ?_)
   ·replace hs0_:=Zo c11 hs0_
    refine Qp [2,3,24,25,26] [false,true,true,true,true,false] ?_
    refine Zg ?_
    refine Z9 ?_
    refine Zg ?_
    obtain ⟨x8,hx8,ax8,bx8,cx8,hs0_⟩:=bE (f:=Zi) Zkq (fun _=>rfl) (by decide) hs0_
    refine Zcw [] ax8 bx8 cx8 ?_
    refine zD [2,3,5,24,25,26] [false,true,true,true,true,false,true] ?_
    obtain ⟨y9,hy9,hs0_⟩:=bC hs0_
    obtain ⟨l10,pl10,ql10,el10,hs0_⟩:=bA (k:=1) rfl hs0_
    refine Vt Zz (by kernel_rfl) [.low,.low,.plain,.plain,.plain,.plain,.plain,.plain,.pass,.bar,.plain,.bar] (fun i=>i < (n+7)) [0,1,2,3,4,5,6,7,8,9,10,11] [.low,.low,.plain,.plain,.plain,.plain,.plain,.plain,.pass,.bar,.plain,.bar] [] (by kernel_rfl) rfl ?_
    refine zX3 pl10 ql10 el10 ?_
    refine zO ?_
    first | refine PCallA.of (fun _ _=>Zfx hy9) ?_ | refine PCall.of (Zfx hy9) ?_
    refine zX3 pl10 ql10 el10 ?_
    refine zO ?_
    refine Zet ⟨54,[],[(2,.ref (n+1) 0),(3,.ref (n+3) 0),(24,(sL Zi a0.Kids)),(25,(vI (a0.Kids.length:Int))),(26,(vI s0_.1))]⟩ (Zu O n [none,some ⟨false,30,11,1,[(vI 0),(vI 0),nV,nV,(vI 0),nV,nV,nV,nV,(vI 0),nV]⟩,some (oR 82 4 Zl y6),some ⟨false,30,11,1,[(vI 2),(vI 0),nV,nV,(vI 0),nV,nV,.row (n+2) y6.length,.row (n+4) l10.length,(vI 0),nV]⟩,some (oR 84 12 Zi l10),none,none,none]) (Ya hU rfl rfl ?_) ?_
    ·exact Z16 pl10 ql10 el10
    refine zR ?_
    exact Gw hs0_
   replace hs0_:=Zn c11 hs0_
   exact zEx hs0_
  try simp only [Ym,Z4,↓reduceIte,Nat.reduceEqDiff]
  refine zDs [2,3] [false,true,true,true,true,false] ?_
  refine zRd [2] [false,true,true,false,true,false] ?_
  exact Yi [.agg [(vI 2),(vI 0),nV,nV,(vI 0),nV,nV,.row (n+2) y6.length,.row (n+4) z12.length,(vI 0),nV]]
 replace h:=Zn c16 h
 refine zQ [1,2,43] ?_
 refine Zq (t:=(a0.Kind == 3)) rfl (fun c15 => ?_) (fun c15 => ?_)
 ·replace h:=Zo c15 h
  refine Zg ?_
  obtain ⟨y14,hy14,h⟩:=bC h
  refine Zgo Zz (by kernel_rfl) [false,false,false,false,false,false,false,false,true] [] (by kernel_rfl) ?_
  refine zS ?_
  refine PCall.of (Zol hy14) ?_
  refine zS ?_
  refine zD [2] [false,true] ?_
  exact Yi [.agg [(vI 3),(vI 0),nV,nV,(vI 0),nV,nV,nV,nV,(vI a0.List_),(sL Zd y14)]]
 replace h:=Zn c15 h
 refine Qp [2] [false,true] ?_
 refine Zg ?_
 refine zRd [2] [false,true] ?_
 exact Yi [.agg [(vI 0),(vI 0),nV,nV,(vI 0),nV,nV,nV,nV,(vI 0),nV]]
theorem Z0q {Qf:(Zc→Option Zc)} {Uk:(Int→(List Zh)→Option (List Zh))} (Zfx:Zik Qf) (Zol:Zjd Uk) {a0:Int} {a1:(List Zh)} {r:(List Zh)} {O:Objs} {n:Nat} (h:Zfq Qf Uk a0 a1=some r):GTo Try.prog 79 [(vI a0),(sL Zd a1)] O n ((sL Zd r)) O n:=by
 unfold Zfq at h
 refine zFn Try.call79 Try.func79 fun hU hN0 hN => ?_
 show W _ _ _ _ ⟨44,[],[(0,(vI a0)),(1,(sL Zd a1))]⟩ (Zu O n []) _
 refine zQ [0,1] ?_
 refine zQ [0,1,5] ?_
 refine Zg ?_
 refine zQd [0,5,8,9,10] [0,5,8,9,10] [true] ?_
 refine Jt (E':=(⟨44,[],[(0,(vI a0)),(5,.ref n 0),(8,(sL Zd a1)),(9,(vI (a1.length:Int))),(10,(vI 0))]⟩:Env)) (O':=(Zu O n [some ⟨false,142,4,1,[.row (n+1) ([]:List Zh).length,(vI 0),.row (n+2) ([]:List Zb).length,.row (n+3) ([]:List Zb).length]⟩,some (oR 75 14 Zd ([]:List Zh)),some (oR 25 3 Za ([]:List Zb)),some (oR 25 3 Za ([]:List Zb)),none])) (n':=(n+5)) ?_ ?_
 ·refine Fit2.trans (E':=(⟨44,[],[(0,(vI a0)),(5,.ref n 0),(8,(sL Zd a1)),(9,(vI (a1.length:Int))),(10,(vI 0))]⟩:Env)) (O':=(Zu O n [some ⟨false,142,4,1,[nV,(vI 0),nV,nV]⟩])) (n':=(n+1)) (Fit2.of (Ya hU rfl rfl ?_) (by omega)) ?_
  ·exact zSe
  refine Fit2.trans (Zco (p:=n) (k:=0) (q:=⟨false,142,4,1,[nV,(vI 0),nV,nV]⟩) 75 14 (by simp only [Zab,Zes,List.getElem?_cons_zero,List.getElem?_cons_succ,Option.join_some,List.length_nil,Yo]) rfl (by omega)) ?_
  simp only [Xd,Yv,U3,K8,List.set_cons_zero,List.set_cons_succ,List.cons_append,List.nil_append,List.length_cons,List.length_nil,Nat.zero_add,Nat.reduceAdd,Nat.reduceLT,Nat.add_assoc]
  refine Fit2.trans (Zco (p:=n) (k:=2) (q:=⟨false,142,4,1,[.row (n+1) ([]:List Zh).length,(vI 0),nV,nV]⟩) 25 3 (by simp only [Zab,Zes,List.getElem?_cons_zero,List.getElem?_cons_succ,Option.join_some,List.length_nil,Yo]) rfl (by omega)) ?_
  simp only [Xd,Yv,U3,K8,List.set_cons_zero,List.set_cons_succ,List.cons_append,List.nil_append,List.length_cons,List.length_nil,Nat.zero_add,Nat.reduceAdd,Nat.reduceLT,Nat.add_assoc]
  refine Fit2.trans (Zco (p:=n) (k:=3) (q:=⟨false,142,4,1,[.row (n+1) ([]:List Zh).length,(vI 0),.row (n+2) ([]:List Zb).length,nV]⟩) 25 3 (by simp only [Zab,Zes,List.getElem?_cons_zero,List.getElem?_cons_succ,Option.join_some,List.length_nil,Yo]) rfl (by omega)) ?_
  simp only [Xd,Yv,U3,K8,List.set_cons_zero,List.set_cons_succ,List.cons_append,List.nil_append,List.length_cons,List.length_nil,Nat.zero_add,Nat.reduceAdd,Nat.reduceLT,Nat.add_assoc]
  refine Ja (k:=4) (k':=5) hU [0,1,2,3] [0,1,2,3,0] rfl rfl rfl rfl ⟨rfl,rfl⟩ ?_
  exact zSe
 obtain ⟨z14,hz14,h⟩:=bC h
 refine Yg (E':=⟨44,[],[(5,.ref n 0)]⟩) (O':=(Zu O n [some ⟨false,142,4,1,[.row (n+1) z14.2.1.length,(vI z14.1),.row (n+2) z14.2.2.1.length,.row (n+3) z14.2.2.2.length]⟩,some (oR 75 14 Zd z14.2.1),some (oR 25 3 Za z14.2.2.1),some (oR 25 3 Za z14.2.2.2),none])) (n0:=(n+5)) ?_ ?_
 ·refine Y2 hz14 (fun s0_=>⟨44,[],[(0,(vI a0)),(5,.ref n 0),(8,(sL Zd a1)),(9,(vI (a1.length:Int))),(10,(vI s0_.1))]⟩) (fun s0_=>(Zu O n [some ⟨false,142,4,1,[.row (n+1) s0_.2.2.1.length,(vI s0_.2.1),.row (n+2) s0_.2.2.2.1.length,.row (n+3) s0_.2.2.2.2.length]⟩,some (oR 75 14 Zd s0_.2.2.1),some (oR 25 3 Za s0_.2.2.2.1),some (oR 25 3 Za s0_.2.2.2.2),none])) (fun z14=>JX 0 n (⟨44,[],[(5,.ref n 0)]⟩:Env) (Zu O n [some ⟨false,142,4,1,[.row (n+1) z14.2.1.length,(vI z14.1),.row (n+2) z14.2.2.1.length,.row (n+3) z14.2.2.2.length]⟩,some (oR 75 14 Zd z14.2.1),some (oR 25 3 Za z14.2.2.1),some (oR 25 3 Za z14.2.2.2),none]) (n+5)) ?_
  intro s0_ x0_ hs0_
  unfold Gj at hs0_
  try dsimp only
  refine zQ [0,5,8,9,10,11] ?_
  refine Zg ?_
  refine Zq (t:=(decide (s0_.1 < (a1.length:Int)))) rfl (fun c13 => ?_) (fun c13 => ?_)
  ·replace hs0_:=Zo c13 hs0_
   refine Qp [0,5,8,9,10] [true,true,true,true,false] ?_
   obtain ⟨z1,hz1,hs0_⟩:=bC hs0_
   refine Yp (E':=⟨44,[],[(0,(vI a0)),(5,.ref n 0),(8,(sL Zd a1)),(9,(vI (a1.length:Int))),(10,(vI s0_.1))]⟩) (O':=(Zu O n [some ⟨false,142,4,1,[.row (n+9) z1.2.1.length,(vI z1.1),.row (n+10) z1.2.2.1.length,.row (n+11) z1.2.2.2.length]⟩,none,none,none,none,none,none,none,none,some (oR 75 14 Zd z1.2.1),some (oR 25 3 Za z1.2.2.1),some (oR 25 3 Za z1.2.2.2),none])) (n0:=(n+13)) ?_ ?_
   ·refine Z9 ?_
    refine Zg ?_
    obtain ⟨x3,hx3,ax3,bx3,cx3,hz1⟩:=bE (f:=Zd) Zbe (fun _=>rfl) (by decide) hz1
    refine Zcw [] ax3 bx3 cx3 ?_
    refine zD [0,5,7,8,9,10] [true,true,true,true,false,true] ?_
    refine zQ [0,5,7,8,9,10,15] ?_
    refine Z9 ?_
    refine zQ [0,5,7,8,9,10,15,16] ?_
    refine Zq (t:=(x3.Kind == 0)) rfl (fun c12 => ?_) (fun c12 => ?_)
    ·replace hz1:=Zo c12 hz1
     obtain ⟨y4,hy4,hz1⟩:=bC hz1
     refine zR ?_
     refine (Zif (i0:=n) (j0_0:=(n+2)) (j0_1:=(n+3)) (j0_2:=(n+1)) (by omega) (by omega) (by omega) (by omega) (by omega) (by omega) (by omega) (by omega) (by omega) (by omega) (by simp only [push_cast,seval,↓reduceIte,Zm,Xo,hN0,hN] <;> rfl) (by simp only [push_cast,seval,↓reduceIte,Zm,Xo,hN0,hN] <;> rfl) (by simp only [push_cast,seval,↓reduceIte,Zm,Xo,hN0,hN] <;> rfl) (by simp only [push_cast,seval,↓reduceIte,Zm,Xo,hN0,hN] <;> rfl) hy4).then ?_
     refine zS ?_
     have hz1:=Option.some.inj hz1;subst hz1
     refine And.intro rfl ?_
     refine Fit2.trans (E':=(⟨44,[],[(0,(vI a0)),(5,.ref n 0),(8,(sL Zd a1)),(9,(vI (a1.length:Int))),(10,(vI s0_.1))]⟩:Env)) (O':=(Zu O n [some ⟨false,142,4,1,[.row (n+8) y4.out.length,(vI y4.kept),.row (n+6) y4.gone.length,.row (n+7) y4.come.length]⟩,none,none,none,none,none,some (oR 25 3 Za y4.gone),some (oR 25 3 Za y4.come),some (oR 75 14 Zd y4.out)])) (n':=(n+9)) (Fit2.of (Ya hU rfl rfl ?_) (by omega)) ?_
     ·exact zSe
     refine Ja (k:=9) (k':=13) hU [0,12,12,12,12,12,10,11,9] [0,0,0,0,0,0,0,0,0,8,6,7,0] rfl rfl rfl rfl ⟨rfl,rfl⟩ ?_
     exact zSe
    replace hz1:=Zn c12 hz1
    refine zQ [0,5,7,8,9,10,15,21] ?_
    refine Zq (t:=(x3.Kind == 1)) rfl (fun c11 => ?_) (fun c11 => ?_)
    ·replace hz1:=Zo c11 hz1
     obtain ⟨y5,hy5,hz1⟩:=bC hz1
     refine zR ?_
     refine (Zks (i0:=n) (j0_0:=(n+2)) (j0_1:=(n+3)) (j0_2:=(n+1)) (by omega) (by omega) (by omega) (by omega) (by omega) (by omega) (by omega) (by omega) (by omega) (by omega) (by simp only [push_cast,seval,↓reduceIte,Zm,Xo,hN0,hN] <;> rfl) (by simp only [push_cast,seval,↓reduceIte,Zm,Xo,hN0,hN] <;> rfl) (by simp only [push_cast,seval,↓reduceIte,Zm,Xo,hN0,hN] <;> rfl) (by simp only [push_cast,seval,↓reduceIte,Zm,Xo,hN0,hN] <;> rfl) hy5).then ?_
     refine zS ?_
     have hz1:=Option.some.inj hz1;subst hz1
     refine And.intro rfl ?_
     refine Fit2.trans (E':=(⟨44,[],[(0,(vI a0)),(5,.ref n 0),(8,(sL Zd a1)),(9,(vI (a1.length:Int))),(10,(vI s0_.1))]⟩:Env)) (O':=(Zu O n [some ⟨false,142,4,1,[.row (n+8) y5.out.length,(vI y5.kept),.row (n+6) y5.gone.length,.row (n+7) y5.come.length]⟩,none,none,none,none,none,some (oR 25 3 Za y5.gone),some (oR 25 3 Za y5.come),some (oR 75 14 Zd y5.out)])) (n':=(n+9)) (Fit2.of (Ya hU rfl rfl ?_) (by omega)) ?_
     ·exact zSe
     refine Ja (k:=9) (k':=13) hU [0,12,12,12,12,12,10,11,9] [0,0,0,0,0,0,0,0,0,8,6,7,0] rfl rfl rfl rfl ⟨rfl,rfl⟩ ?_
     exact zSe
    replace hz1:=Zn c11 hz1
    refine zQ [0,5,7,8,9,10,15,27] ?_
    refine Zq (t:=(x3.Kind == 2)) rfl (fun c10 => ?_) (fun c10 => ?_)
    ·replace hz1:=Zo c10 hz1
     obtain ⟨y6,hy6,hz1⟩:=bC hz1
     refine zR ?_
     refine (Zkt (i0:=n) (j0_0:=(n+2)) (j0_1:=(n+3)) (j0_2:=(n+1)) (by omega) (by omega) (by omega) (by omega) (by omega) (by omega) (by omega) (by omega) (by omega) (by omega) (by simp only [push_cast,seval,↓reduceIte,Zm,Xo,hN0,hN] <;> rfl) (by simp only [push_cast,seval,↓reduceIte,Zm,Xo,hN0,hN] <;> rfl) (by simp only [push_cast,seval,↓reduceIte,Zm,Xo,hN0,hN] <;> rfl) (by simp only [push_cast,seval,↓reduceIte,Zm,Xo,hN0,hN] <;> rfl) hy6).then ?_
     refine zS ?_
     have hz1:=Option.some.inj hz1;subst hz1
     refine And.intro rfl ?_
     refine Fit2.trans (E':=(⟨44,[],[(0,(vI a0)),(5,.ref n 0),(8,(sL Zd a1)),(9,(vI (a1.length:Int))),(10,(vI s0_.1))]⟩:Env)) (O':=(Zu O n [some ⟨false,142,4,1,[.row (n+8) y6.out.length,(vI y6.kept),.row (n+6) y6.gone.length,.row (n+7) y6.come.length]⟩,none,none,none,none,none,some (oR 25 3 Za y6.gone),some (oR 25 3 Za y6.come),some (oR 75 14 Zd y6.out)])) (n':=(n+9)) (Fit2.of (Ya hU rfl rfl ?_) (by omega)) ?_
     ·exact zSe
     refine Ja (k:=9) (k':=13) hU [0,12,12,12,12,12,10,11,9] [0,0,0,0,0,0,0,0,0,8,6,7,0] rfl rfl rfl rfl ⟨rfl,rfl⟩ ?_
     exact zSe
    replace hz1:=Zn c10 hz1
    refine zQ [0,5,7,8,9,10,33] ?_
    refine Zq (t:=(x3.Kind == 3)) rfl (fun c9 => ?_) (fun c9 => ?_)
    ·replace hz1:=Zo c9 hz1
     obtain ⟨y7,hy7,hz1⟩:=bC hz1
     obtain ⟨y8,hy8,hz1⟩:=bC hz1
     refine zC (Zfx hy7) ?_
     refine (Zlq (i0:=n) (j0_0:=(n+2)) (j0_1:=(n+3)) (j0_2:=(n+1)) (by omega) (by omega) (by omega) (by omega) (by omega) (by omega) (by omega) (by omega) (by omega) (by omega) (by simp only [push_cast,seval,↓reduceIte,Zm,Xo,hN0,hN] <;> rfl) (by simp only [push_cast,seval,↓reduceIte,Zm,Xo,hN0,hN] <;> rfl) (by simp only [push_cast,seval,↓reduceIte,Zm,Xo,hN0,hN] <;> rfl) (by simp only [push_cast,seval,↓reduceIte,Zm,Xo,hN0,hN] <;> rfl) hy8).then ?_
     refine zS ?_
     have hz1:=Option.some.inj hz1;subst hz1
     refine And.intro rfl ?_
     refine Fit2.trans (E':=(⟨44,[],[(0,(vI a0)),(5,.ref n 0),(8,(sL Zd a1)),(9,(vI (a1.length:Int))),(10,(vI s0_.1))]⟩:Env)) (O':=(Zu O n [some ⟨false,142,4,1,[.row (n+8) y8.out.length,(vI y8.kept),.row (n+6) y8.gone.length,.row (n+7) y8.come.length]⟩,none,none,none,none,none,some (oR 25 3 Za y8.gone),some (oR 25 3 Za y8.come),some (oR 75 14 Zd y8.out)])) (n':=(n+9)) (Fit2.of (Ya hU rfl rfl ?_) (by omega)) ?_
     ·exact zSe
     refine Ja (k:=9) (k':=13) hU [0,12,12,12,12,12,10,11,9] [0,0,0,0,0,0,0,0,0,8,6,7,0] rfl rfl rfl rfl ⟨rfl,rfl⟩ ?_
     exact zSe
    replace hz1:=Zn c9 hz1
    refine zK ?_
    have hz1:=Option.some.inj hz1;subst hz1
    refine And.intro rfl ?_
    refine Fit2.trans (E':=(⟨44,[],[(0,(vI a0)),(5,.ref n 0),(8,(sL Zd a1)),(9,(vI (a1.length:Int))),(10,(vI s0_.1))]⟩:Env)) (O':=(Zu O n [some ⟨false,142,4,1,[.row (n+1) s0_.2.2.1.length,(vI s0_.2.1),.row (n+2) s0_.2.2.2.1.length,.row (n+3) s0_.2.2.2.2.length]⟩,some (oR 75 14 Zd s0_.2.2.1),some (oR 25 3 Za s0_.2.2.2.1),some (oR 25 3 Za s0_.2.2.2.2),none,none])) (n':=(n+6)) (Fit2.of (Ya hU rfl rfl ?_) (by omega)) ?_
    ·exact zSe
    refine Ja (k:=6) (k':=13) hU [0,9,10,11,12,12] [0,0,0,0,0,0,0,0,0,1,2,3,0] rfl rfl rfl rfl ⟨rfl,rfl⟩ ?_
    exact zSe
   refine zR ?_
   have hs0_:=Option.some.inj hs0_;subst hs0_
   refine And.intro rfl ?_
   refine Fit2.trans (E':=(⟨44,[],[(0,(vI a0)),(5,.ref n 0),(8,(sL Zd a1)),(9,(vI (a1.length:Int))),(10,(vI (IntKind.i64.wrap (s0_.1+1))))]⟩:Env)) (O':=(Zu O n [some ⟨false,142,4,1,[.row (n+9) z1.2.1.length,(vI z1.1),.row (n+10) z1.2.2.1.length,.row (n+11) z1.2.2.2.length]⟩,none,none,none,none,none,none,none,none,some (oR 75 14 Zd z1.2.1),some (oR 25 3 Za z1.2.2.1),some (oR 25 3 Za z1.2.2.2),none])) (n':=(n+13)) (Fit2.of (Ya hU rfl rfl ?_) (by omega)) ?_
   ·exact zSe
   refine Ja (k:=13) (k':=5) hU [0,4,4,4,4,4,4,4,4,1,2,3,4] [0,9,10,11,0] rfl rfl rfl rfl ⟨rfl,rfl⟩ ?_
   exact zSe
  replace hs0_:=Zn c13 hs0_
  exact zEx hs0_
 try simp only [Ym,Z4,↓reduceIte,Nat.reduceEqDiff]
 refine zDs [5] [true,true,true,true,false] ?_
 obtain ⟨y16,hy16,h⟩:=bC h
 refine zR ?_
 refine (U0 (i0:=n) (j0_0:=(n+2)) (j0_1:=(n+3)) (j0_2:=(n+1)) (by omega) (by omega) (by omega) (by omega) (by omega) (by omega) (by omega) (by omega) (by omega) (by omega) (by simp only [push_cast,seval,↓reduceIte,Zm,Xo,hN0,hN] <;> rfl) (by simp only [push_cast,seval,↓reduceIte,Zm,Xo,hN0,hN] <;> rfl) (by simp only [push_cast,seval,↓reduceIte,Zm,Xo,hN0,hN] <;> rfl) (by simp only [push_cast,seval,↓reduceIte,Zm,Xo,hN0,hN] <;> rfl) hy16).then ?_
 refine zS ?_
 refine zD [5] [true,false,false,false,false,true,true,true] ?_
 refine zQ [4] ?_
 exact Yi [.row (n+7) y16.out.length]
theorem Zs7:∀ k,(Zik ((X7 k).1))∧(Zjd ((X7 k).2)):=fun k=>by
 induction k with
 | zero=>exact ⟨@fun a0 r O n h=>(nomatch (show (none:Option _)=some _ from h)),@fun a0 a1 r O n h=>(nomatch (show (none:Option _)=some _ from h))⟩
 | succ k ih=>exact ⟨@fun a0 r O n h=>Zwr (ih.1) (ih.2)  h,@fun a0 a1 r O n h=>Z0q (ih.1) (ih.2)  h⟩
theorem Zpe {a0:Zc} {r:Zc} {O:Objs} {n:Nat} (h:Zir a0=some r):GTo Try.prog 48 [.agg (Ze a0)] O n (.agg (Ze r)) O n:=by
 obtain ⟨k,hk⟩:=V0 h
 exact (Zs7 k).1  hk
theorem Zh0 {a0:Zb} {r:Bool} {O:Objs} {n:Nat} (h:Zaa a0=some r):GTo Try.prog 123 [.agg (Zf a0)] O n ((vB r)) O n:=by
 unfold Zaa at h
 refine zFn Try.call123 Try.func123 fun hU hN0 hN => ?_
 show W _ _ _ _ ⟨16,[],[(0,.agg (Zf a0))]⟩ (Zu O n []) _
 refine zQ [1] ?_
 refine zQD [2] [none,none,none,none,none,none,none,none] ?_
 exact Yi [(vB (cond (a0.Kind != 0) true (decide (0 < (IntKind.i64.wrap ((a0.Words.length:Int)+(a0.Kids.length:Int)))))))]
theorem Kj {a0:Bool} {a1:Bool} {a2:Bool} {a3:Zc} {r:Bool} {O:Objs} {n:Nat} (h:Uw a0 a1 a2 a3=some r):GTo Try.prog 122 [(vB a0),(vB a1),(vB a2),.ip (Ze a3) 0] O n ((vB r)) O n:=by
 unfold Uw at h
 refine zFn Try.call122 Try.func122 fun hU hN0 hN => ?_
 show W _ _ _ _ ⟨49,[],[(0,(vB a0)),(1,(vB a1)),(2,(vB a2)),(3,.ip (Ze a3) 0)]⟩ (Zu O n []) _
 refine zQ [0,1,2,3] ?_
 obtain ⟨z3,hz3,h⟩:=bC h
 refine Yp (E':=⟨49,[],[(7,(vB z3))]⟩) (O':=(Zu O n [])) (n0:=n) ?_ ?_
 ·rcases Bool.eq_false_or_eq_true a0 with c8 | c8
  ·replace hz3:=Zo c8 hz3
   obtain ⟨y6,hy6,hz3⟩:=bC hz3
   rcases Bool.eq_false_or_eq_true y6 with c9 | c9
   ·replace hz3:=Zo c9 hz3
    try rw [c9] at c8
    refine Jn [some true,some true,some true,some true,some false,some false,some false,some true,some false,some false,some false,some false,some false,some false,some false,some false,some false,some false,some false,some false,some false,some false,some false,some false,some false,some false,some false,some false,some false,some false,some false,some false,some false] c8 c9 ?_
    refine (Zh0 hy6).then ?_
    refine zX2 c8 c9 ?_
    exact U2 hz3 c8 c9
   replace hz3:=Zn c9 hz3
   try rw [c9] at c8
   obtain ⟨y7,hy7,hz3⟩:=bC hz3
   refine Jn [some true,some true,some true,some true,some true,some true,some true,some true,none,none,none,none,none,none,none,none,none,none,none,none,none,none,none,none,none,none,none,none,none,none,none,none,none] c8 c9 ?_
   refine zG ?_
   refine (Zh0 hy6).then ?_
   refine zX2 c8 c9 ?_
   refine zG ?_
   refine (Zh0 hy7).then ?_
   refine zX2 c8 c9 ?_
   refine zG ?_
   exact U2 hz3 c8 c9
  replace hz3:=Zn c8 hz3
  refine Jb [some false,some false,some false,some false,some false,some false,some false,some false,some true,some true,none,none,none,none,none,none,none,none,some true,some true,none,none,none,none,none,none,none,none,none,none,none,none,none] c8 ?_
  refine zG ?_
  exact Qm hz3 c8
 exact Yi [(vB z3)]
theorem Zkf {a0:(List Zb)} {r:Bool} {O:Objs} {n:Nat} (h:Zb5 a0=some r):GTo Try.prog 133 [(sL Za a0)] O n ((vB r)) O n:=by
 unfold Zb5 at h
 refine zFn Try.call133 Try.func133 fun hU hN0 hN => ?_
 show W _ _ _ _ ⟨15,[],[(0,(sL Za a0))]⟩ (Zu O n []) _
 refine zQ [0] ?_
 refine Zg ?_
 refine zQd [5,6,7] [5,6,7] [] ?_
 obtain ⟨z5,hz5,h⟩:=bC h
 refine K3 (J:=(Y6 (fun z5=>JR n (⟨15,[],[(2,(vB false))]⟩:Env) (Zu O n []) n) (fun z5=>JX 0 n (⟨15,[],[]⟩:Env) (Zu O n []) n))) (z:=z5) ?_ fun hw => ?_
 ·refine Y2 hz5 (fun s0_=>⟨15,[],[(5,(sL Za a0)),(6,(vI (a0.length:Int))),(7,(vI s0_))]⟩) (fun s0_=>(Zu O n [])) (Y6 (fun z5=>JR n (⟨15,[],[(2,(vB false))]⟩:Env) (Zu O n []) n) (fun z5=>JX 0 n (⟨15,[],[]⟩:Env) (Zu O n []) n)) ?_
  intro s0_ x0_ hs0_
  unfold Uz at hs0_
  try dsimp only
  refine zQ [5,6,7,8] ?_
  refine Zg ?_
  refine Zq (t:=(decide (s0_ < (a0.length:Int)))) rfl (fun c4 => ?_) (fun c4 => ?_)
  ·replace hs0_:=Zo c4 hs0_
   refine Qp [5,6,7] [] ?_
   refine Zg ?_
   refine Z9 ?_
   refine Zg ?_
   obtain ⟨x2,hx2,ax2,bx2,cx2,hs0_⟩:=bE (f:=Za) Vh (fun _=>rfl) (by decide) hs0_
   refine Zcw [] ax2 bx2 cx2 ?_
   refine zD [4,5,6,7] [true] ?_
   refine zQ [5,6,7,13] ?_
   refine Zq (t:=(x2.Kind != 1)) rfl (fun c3 => ?_) (fun c3 => ?_)
   ·replace hs0_:=Zo c3 hs0_
    refine zQ [2] ?_
    refine zW ?_
    exact zEy hs0_
   replace hs0_:=Zn c3 hs0_
   refine Qp [5,6,7] [false] ?_
   refine zR ?_
   exact Gw hs0_
  replace hs0_:=Zn c4 hs0_
  exact zEx hs0_
 rcases z5 with z5 | z5
 ·dsimp only [Y6] at hw h
  refine X1 hw ?_
  try simp only [Ym,Z4,↓reduceIte,Nat.reduceEqDiff]
  exact Zgn [(vB false)]
 dsimp only [Y6] at hw h
 refine Yg hw ?_
 try simp only [Ym,Z4,↓reduceIte,Nat.reduceEqDiff]
 refine zD [] [] ?_
 refine zQ [2] ?_
 exact Yi [(vB true)]
theorem Z1y {a0:Int} {r:(Int×Bool)} {O:Objs} {n:Nat} (h:Znk a0=some r):GTo Try.prog 168 [(vI a0)] O n (.tup [(vI r.1),(vB r.2)]) O n:=by
 unfold Znk at h
 refine zFn Try.call168 Try.func168 fun hU hN0 hN => ?_
 show W _ _ _ _ ⟨15,[],[(0,(vI a0))]⟩ (Zu O n []) _
 refine zQ [0] ?_
 refine Zg ?_
 obtain ⟨y6,hy6,ey6,h⟩:=bY (f:=(eI .i64)) (cs:=[.val (.int .i64 0),.val (.int .i64 1),.val (.int .i64 8),.val (.int .i64 16),.val (.int .i64 32),.val (.int .i64 64)]) rfl h
 have g7:=congrArg G.agg ey6
 obtain ⟨y8,hy8,ey8,h⟩:=bY (f:=(eI .i64)) (cs:=[.val (.int .i64 0),.val (.int .i64 0),.val (.int .i64 0),.val (.int .i64 0),.val (.int .i64 0),.val (.int .i64 0)]) rfl h
 have g9:=congrArg (GObj.mk false 187 6 1) ey8
 have g10:=Zj0 (f:=(eI .i64)) y8 y6 (fun _=>rfl)
 refine Zbf [] g7 g9 g10 ?_
 refine zDs [0,4] [true] ?_
 refine zQD [0,4,11] [none,none] ?_
 refine Zq (t:=(cond (decide (a0 < 0)) true (decide (6≤a0)))) rfl (fun c13 => ?_) (fun c13 => ?_)
 ·replace h:=Zo c13 h
  refine zQ [2,3] ?_
  exact Yi [(vI 0),(vB false)]
 replace h:=Zn c13 h
 refine Qp [0,4] [true] ?_
 obtain ⟨x12,hx12,ax12,bx12,cx12,h⟩:=bEA (f:=(eI .i64)) (b:=6) rfl Zmp (fun _=>rfl) (by decide) h
 refine Zll [2,3] (Yw Zz [] ?_)
 refine zF3 ax12 bx12 cx12 ?_
 exact Yi [(vI x12),(vB true)]
theorem Z38 {a0:Int} {a1:Int} {r:Bool} {O:Objs} {n:Nat} (h:Zi1 a0 a1=some r):GTo Try.prog 153 [(vI a0),.val (.int .u64 a1)] O n ((vB r)) O n:=by
 unfold Zi1 at h
 refine zFn Try.call153 Try.func153 fun hU hN0 hN => ?_
 show W _ _ _ _ ⟨19,[],[(0,(vI a0)),(1,.val (.int .u64 a1))]⟩ (Zu O n []) _
 refine zQ [0,1] ?_
 refine Zg ?_
 obtain ⟨y2,hy2,h⟩:=bC h
 refine zCd (Z1y hy2) [1,5,6] [] ?_
 obtain ⟨z4,hz4,h⟩:=bC h
 refine Yp (E':=⟨19,[],[(4,(vB z4))]⟩) (O':=(Zu O n [])) (n0:=n) ?_ ?_
 ·rcases Bool.eq_false_or_eq_true y2.2 with c7 | c7
  ·replace hz4:=Zo c7 hz4
   obtain ⟨pu6,hz4⟩:=bG hz4
   refine Yw Zz [some true,some true,some true,some true] ?_
   simp only [push_cast,seval,↓reduceIte,Zm,c7,pu6,hN0,hN]
   have hz4:=Option.some.inj hz4;subst hz4
   refine And.intro rfl (Fit2.of (Ya hU rfl rfl ?_) (by omega))
   simp only [push_cast,seval,↓reduceIte,Zm,c7,pu6,hN0,hN]
  replace hz4:=Zn c7 hz4
  refine Jb [some false,some false,some false,some false] c7 ?_
  exact Qm hz4 c7
 exact Yi [(vB z4)]
end Go.Proofs.Ytfjkcekfifobpaa
