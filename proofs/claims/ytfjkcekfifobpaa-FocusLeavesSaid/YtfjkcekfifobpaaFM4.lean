/- Part FM4 of this seat's mirrors: functions of the seat's program, and the plain functions that they are; each theorem bears its own conditions. -/
import Derived.Test.YtfjkcekfifobpaaFD
import Derived.Test.YtfjkcekfifobpaaFM1
namespace Go.Proofs.Ytfjkcekfifobpaa
open Go.RowKit
set_option linter.unusedVariables false
set_option linter.unusedSimpArgs false
set_option maxRecDepth 100000
set_option maxHeartbeats 4000000
attribute [local push_cast] Try.results104 Try.results124 Try.results125 Try.results129 Try.results132 Try.results134 Try.results152 Try.results159 Try.results62 Try.results94 vI vB nV sL oR Ze Vp Yz Zf G7 Zw8 Zw7 Zxx Zxw Ym Z4 Zsx Zm6 Zm5 onW Qz Zhr Zgd Zwb Zvi Zqq Zqu Zqp Zqt Zt7 Zt4 Zqs Zt6 Zt5 Zqr Zt2 Zn3 evS wok Kc Op.operands Call.operands gop onK onP atK List.all_cons List.all_nil Bool.and_true Bool.true_and Bool.and_self Value.oneCell' List.take_zero List.take_succ_cons List.take_nil List.drop_zero List.drop_succ_cons List.drop_nil List.append_nil Nat.add_zero Nat.zero_add Zbu Y1 ev Kg Zhf Zw1 Zw0 Zw6 Zw4 Zw5 Zw2 Zw3 Zwz Zwm Zz0 Z3k Zna Zht Zl4 Zhs Zp6 Zj1 Zku Zkz Zmz Zmw Zkx Zmy Zmx Zkw Zmu Zkv Zky Zjp Zmv Zq2 Zm7 Ze7 Zm8 Ze8 Zo6 Zm4 Z1r bLo bHi bMx Zhu Zo3 Z6n Zm3 Zo5 Zjq Zdj Zz3 Z6q Zm2 Z6u Zhq Z8i Zs0 Zs4 Zsz Zs3 Zxi Zxf Zxd Zp9 Zs1 Zxh Zxg Zs2 Zxe Zor gone Ztq Znu Znt pop TK.isAgg Zxq Zxu Zxp Zxt Zti Z4f Z4c Zxs Z4e Z4d Zxr Z4b G.under G.unders List.getD_cons_zero List.getD_cons_succ List.set_cons_zero List.set_cons_succ List.map_cons List.map_nil List.toList_toArray Array.toList_append Option.toArray_none Option.toArray_some Array.toList_map Option.map_some Option.map_none Option.bind_some Option.bind_none List.getElem?_cons_zero List.getElem?_cons_succ List.getElem?_nil List.nil_append List.cons_append List.replicate_succ List.replicate_zero List.length_cons List.length_nil and_true true_and and_false false_and Bool.true_eq_false Bool.false_eq_true forall_const false_implies implies_true IntKind.bits if_true if_false ite_true ite_false eq_self true_implies false_or or_false or_true true_or not_true_eq_false not_false_eq_true decide_true decide_false decide_eq_true_eq decide_eq_false_iff_not beq_iff_eq bne_iff_ne ne_eq Bool.not_eq_true Bool.not_eq_false beq_eq_false_iff_ne bne_eq_false_iff_eq beq_self_eq_true bne_self_eq_false Option.some.injEq exists_eq_left' exists_eq_left ge_iff_le gt_iff_lt decide_not Bool.not_true Bool.not_false imp_self Z3m cond_true cond_false Yfj Yfi Bool.not_not Bool.and_false Bool.false_and Bool.or_true Bool.true_or Bool.or_false Bool.false_or Zab Zes U3 K8 Xd Yv Option.join_some Nat.add_assoc Int.toNat_natCast eI eB eS eL Xo Zl5 Zk1 Zxb Zw9 Zxa Z8o Yb7 Zmh Zlb Zx4 Zx2 Zx3 Z4a Zq1 Z2e Zrk Z1n Zjt Zzu List.length_append G.agg.injEq G.row.injEq G.ref.injEq G.val.injEq G.sl.injEq G.tup.injEq Value.int.injEq Value.bool.injEq Value.string.injEq List.cons.injEq exists_and_left exists_const List.flatten_cons List.flatten_nil Int.le_refl Nat.le_refl Qw Yt Y5 Bool.not_eq_true' Bool.not_eq_false' Zza Zpt Z51 Z56 Z50 Z55 Ybg Ybc List.size_toArray Zvw Zwf G.ren G.rens Z00 Zkn Zx5 Zwx Zwy Zt3 Z57 Zh3 G.fn.injEq Zu3 Zu4 Zy9 Ybd Zu2 Z54 Ybf Ybe Z52 Z32 Z9q Option.join_none Yo Zaz undef Zo8 Arr.len Arr.put_eq Zmg Zqd Znq Zla Zx1 Zxz Zx0 onB Z8n Zzz Zty Zr9 Zsa Zsb Zsc Zsd Zse Zqb Zqg Zqe Zns Zlc Zqf Ztp Zto Ztn Ztm Yb6 Yd4 Z39 Z10 Vv Z34 Zvk Zqh Znr Z7c Zwg Zm0 Zo0 Zis Zpm Zsf Zsg Zsh Zsi Zpu Zpv Zpw Zpx Zpy Zpz Zp0 Zjg prT Zgz Ygl Z5q Zmp Z5r Ygm Z5s Z5o Z5t Ygn Z5u Ygo Z5v Ygp Z5w Ygq Z5x Yaf Zx9 Yag Zya Yah Zyb Yai Zyc Yaj Zyd Yak Zye Yal Zyf Yam Zyg Yan Zyh Yao Zyi Yap Zyj Yaq Zqw Z1e Zgw Yar Zyk Vh Zyl Yas Zym Yat Zyn Yau Zyo Yav Zyp Zmq Zyq Yaw Zyr Yax Zn5 Yay Zys Zja Zyt Yaz Zyu Ya0 Zyv Ya1 Zyw Ya2 Zyx Zh6 Zyy Ya3 Zyz Zbe Zy0 Ya4 Zy1 Ya5 Zy2 Ya6 Zy3 Zt9 Zy4 Ya7 Zy5 Zkq Zy6 Ya8 Zy7 Ya9 Zy8 Z4w Zua Z4x Zub Z4y Zuc Z4z Zud Z40 Zue Z41 Zuf Z42 Zug Z43 Zuh Z44 Zui Z45 Zuj Z46 Zuk Z47 Zul Z48 Zum Zv1 Zpr Z49 Zun Z5a Zuo Z5b Zup Z5c Zuq Z5d Zur Z5e Zus Z5f Zut Z5g Zuu Z5h Zuv Z5i Zuw Z5j Zux Z5k Zuy Z5l Zuz Z5m Zu0 Z5n Zu1 Za Yr Zoe Zoc Znd Znp Zog Zlk Zlh Zlf Zn9 Zf7 Zf5 Zfu Zfz Zf9 Ze0 Zey Zew Zf3 Zl Qh Zd Zi Xn Xv Y4 Zck Zci Zbv Zb9 Zcm Za9 Za6 Za4 Zcf Zc3 Zc2 Zcz Zc0 Zc4 Zch Zcc Zcb Zc1 Zh9 Zh8 Zhw Zh2 Zia Zgx Zgv Zgu Zh7 Zqz Zqy Zp8 Zqc Zq0 Zoa Zny Znx Zqx Zr Zf6 Zf4 Zft Zfy Zf8 Zez Zex Zev Zf2 Yj Zbc Zbb Za0 Za3 Zbd G0 Gz Gy Za8 Zod Zob Znc Zno Zof Zlj Zlg Zle Zn8 Ys Zcl Zcj Zbw Zca Zcn Zba Za7 Za5 Zcg
def Zeb (Xt:(Zb→Option Bool)):Prop:=∀ {a0:Zb} {r:Bool} {O:Objs} {n:Nat},Xt a0=some r→GTo Try.prog 62 [.agg (Zf a0)] O n ((vB r)) O n
def Zec (Xs:(Zb→Int→Option Bool)):Prop:=∀ {a0:Zb} {a1:Int} {r:Bool} {O:Objs} {n:Nat},Xs a0 a1=some r→GTo Try.prog 94 [.agg (Zf a0),(vI a1)] O n ((vB r)) O n
def Zaw (Xa:((List Zb)→Int→Option Bool)):Prop:=∀ {a0:(List Zb)} {a1:Int} {r:Bool} {O:Objs} {n:Nat},Xa a0 a1=some r→GTo Try.prog 132 [(sL Za a0),(vI a1)] O n ((vB r)) O n
def Zav (Xe:((List Zb)→Int→Option Bool)):Prop:=∀ {a0:(List Zb)} {a1:Int} {r:Bool} {O:Objs} {n:Nat},Xe a0 a1=some r→GTo Try.prog 134 [(sL Za a0),(vI a1)] O n ((vB r)) O n
theorem Z0s {Xt:(Zb→Option Bool)} {Xs:(Zb→Int→Option Bool)} {Xa:((List Zb)→Int→Option Bool)} {Xe:((List Zb)→Int→Option Bool)} (Zee:Zeb Xt) (Zef:Zec Xs) (Ug:Zaw Xa) (Zdx:Zav Xe) {a0:Zb} {r:Bool} {O:Objs} {n:Nat} (h:Zhl Xt Xs Xa Xe a0=some r):GTo Try.prog 62 [.agg (Zf a0)] O n ((vB r)) O n:=by
 unfold Zhl at h
 refine zFn Try.call62 Try.func62 fun hU hN0 hN => ?_
 show W _ _ _ _ ⟨18,[],[(0,.agg (Zf a0))]⟩ (Zu O n []) _
 refine zQ [1] ?_
 refine Zg ?_
 refine zQ [1,5] ?_
 refine Zq (t:=(a0.Kind == 10)) rfl (fun c3 => ?_) (fun c3 => ?_)
 ·replace h:=Zo c3 h
  refine zQD [2] [none,none,none,none] ?_
  exact Yi [(vB (cond ((a0.Words.length:Int) == 1) ((a0.Kids.length:Int) == 0) false))]
 replace h:=Zn c3 h
 refine Qp [1] [true] ?_
 refine Zg ?_
 obtain ⟨y2,hy2,h⟩:=bC h
 refine zCd (Zef hy2) [2] [false] ?_
 exact Yi [(vB y2)]
theorem Z0t {Xt:(Zb→Option Bool)} {Xs:(Zb→Int→Option Bool)} {Xa:((List Zb)→Int→Option Bool)} {Xe:((List Zb)→Int→Option Bool)} (Zee:Zeb Xt) (Zef:Zec Xs) (Ug:Zaw Xa) (Zdx:Zav Xe) {a0:Zb} {a1:Int} {r:Bool} {O:Objs} {n:Nat} (h:Zhm Xt Xs Xa Xe a0 a1=some r):GTo Try.prog 94 [.agg (Zf a0),(vI a1)] O n ((vB r)) O n:=by
 unfold Zhm at h
 refine zFn Try.call94 Try.func94 fun hU hN0 hN => ?_
 show W _ _ _ _ ⟨83,[],[(0,.agg (Zf a0)),(1,(vI a1))]⟩ (Zu O n []) _
 refine zQ [1,2] ?_
 refine Zg ?_
 refine zQ [1,2,7] ?_
 refine Zq (t:=(a0.Kind == 0)) rfl (fun c26 => ?_) (fun c26 => ?_)
 ·replace h:=Zo c26 h
  refine zQD [4] [none,none,none,none] ?_
  exact Yi [(vB (cond ((a0.Words.length:Int) == 0) ((a0.Kids.length:Int) == 0) false))]
 replace h:=Zn c26 h
 refine Qp [1,2] [true] ?_
 refine Zg ?_
 refine zQ [1,2,19] ?_
 refine Zq (t:=(a1 == 0)) rfl (fun c25 => ?_) (fun c25 => ?_)
 ·replace h:=Zo c25 h
  refine zQ [4] ?_
  exact Yi [(vB false)]
 replace h:=Zn c25 h
 refine Qp [1,2] [true] ?_
 refine Zg ?_
 refine zQ [1,2,22] ?_
 refine Zq (t:=(a0.Kind == 1)) rfl (fun c24 => ?_) (fun c24 => ?_)
 ·replace h:=Zo c24 h
  obtain ⟨z2,hz2,h⟩:=bC h
  refine Yp (E':=⟨83,[],[(4,(vB z2))]⟩) (O':=(Zu O n [none])) (n0:=(n+1)) ?_ ?_
  ·rcases Bool.eq_false_or_eq_true (decide ((a0.Words.length:Int) < 65536)) with c5 | c5
   ·replace hz2:=Zo c5 hz2
    rcases Bool.eq_false_or_eq_true (decide ((a0.Kids.length:Int) < 65536)) with c6 | c6
    ·replace hz2:=Zo c6 hz2
     try rw [c6] at c5
     obtain ⟨y4,hy4,hz2⟩:=bC hz2
     refine Jn [none,none,none,none,some true,some true,some true,some true,some true] c5 c6 ?_
     refine zG ?_
     refine (Ug hy4).then ?_
     refine zX2 c5 c6 ?_
     refine zG ?_
     exact U2 hz2 c5 c6
    replace hz2:=Zn c6 hz2
    try rw [c6] at c5
    refine Jn [none,none,none,none,some false,some false,some false,some false,some false] c5 c6 ?_
    refine zG ?_
    exact U2 hz2 c5 c6
   replace hz2:=Zn c5 hz2
   refine Jb [none,none,none,none,some false,some false,some false,some false,some false] c5 ?_
   refine zG ?_
   exact Qm hz2 c5
  exact Yi [(vB z2)]
 replace h:=Zn c24 h
 refine Qp [1,2] [true] ?_
 refine Zg ?_
 refine Zg ?_
 obtain ⟨y8,hy8,h⟩:=bC h
 refine zRo [none,none,none,none,none,none,none,none] ?_
 refine zG ?_
 refine zTs (Zh1 hy8) ?_
 refine zG ?_
 refine zD [1,2,55] [true] ?_
 refine Zq (t:=(cond (cond (!y8) true (decide (0 < (a0.Words.length:Int)))) true (decide (1048576≤(a0.Kids.length:Int))))) rfl (fun c23 => ?_) (fun c23 => ?_)
 ·replace h:=Zo c23 h
  refine zQ [4] ?_
  exact Yi [(vB false)]
 replace h:=Zn c23 h
 refine Qp [1,2] [true] ?_
 refine Zg ?_
 refine zQ [1,2,57] ?_
 refine Z9 ?_
 refine zQ [1,2,57,58] ?_
 refine Zq (t:=(a0.Kind == 8)) rfl (fun c22 => ?_) (fun c22 => ?_)
 ·replace h:=Zo c22 h
  refine Zg ?_
  obtain ⟨y10,hy10,h⟩:=bC h
  refine zCd (Ug hy10) [4] [false] ?_
  exact Yi [(vB y10)]
 replace h:=Zn c22 h
 refine zQ [1,2,65] ?_
 refine Zq (t:=(a0.Kind == 9)) rfl (fun c21 => ?_) (fun c21 => ?_)
 ·replace h:=Zo c21 h
  obtain ⟨z13,hz13,h⟩:=bC h
  refine Yp (E':=⟨83,[],[(4,(vB z13))]⟩) (O':=(Zu O n [none])) (n0:=(n+1)) ?_ ?_
  ·obtain ⟨y16,hy16,hz13⟩:=bC hz13
   rcases Bool.eq_false_or_eq_true y16 with c18 | c18
   ·replace hz13:=Zo c18 hz13
    obtain ⟨y17,hy17,hz13⟩:=bC hz13
    refine Jb [some true,some true,some true,some true,some true] c18 ?_
    refine (Zkf hy16).then ?_
    refine zX1 c18 ?_
    refine (Ug hy17).then ?_
    refine zX1 c18 ?_
    exact Qm hz13 c18
   replace hz13:=Zn c18 hz13
   refine Jb [some false,some false,some false,some false,some false] c18 ?_
   refine (Zkf hy16).then ?_
   refine zX1 c18 ?_
   exact Qm hz13 c18
  exact Yi [(vB z13)]
 replace h:=Zn c21 h
 refine Qp [2] [true] ?_
 refine Zg ?_
 obtain ⟨y20,hy20,h⟩:=bC h
 refine zCd (Zdx hy20) [4] [false] ?_
 exact Yi [(vB y20)]
theorem Zth {Xt:(Zb→Option Bool)} {Xs:(Zb→Int→Option Bool)} {Xa:((List Zb)→Int→Option Bool)} {Xe:((List Zb)→Int→Option Bool)} (Zee:Zeb Xt) (Zef:Zec Xs) (Ug:Zaw Xa) (Zdx:Zav Xe) {a0:(List Zb)} {a1:Int} {r:Bool} {O:Objs} {n:Nat} (h:Zd4 Xt Xs Xa Xe a0 a1=some r):GTo Try.prog 132 [(sL Za a0),(vI a1)] O n ((vB r)) O n:=by
 unfold Zd4 at h
 refine zFn Try.call132 Try.func132 fun hU hN0 hN => ?_
 show W _ _ _ _ ⟨18,[],[(0,(sL Za a0)),(1,(vI a1))]⟩ (Zu O n []) _
 refine zQ [0,1] ?_
 refine Zg ?_
 refine zQd [1,7,8,9] [1,7,8,9] [] ?_
 obtain ⟨z7,hz7,h⟩:=bC h
 refine K3 (J:=(Y6 (fun z7=>JR n (⟨18,[],[(4,(vB false))]⟩:Env) (Zu O n []) n) (fun z7=>JX 0 n (⟨18,[],[]⟩:Env) (Zu O n []) n))) (z:=z7) ?_ fun hw => ?_
 ·refine Y2 hz7 (fun s0_=>⟨18,[],[(1,(vI a1)),(7,(sL Za a0)),(8,(vI (a0.length:Int))),(9,(vI s0_))]⟩) (fun s0_=>(Zu O n [])) (Y6 (fun z7=>JR n (⟨18,[],[(4,(vB false))]⟩:Env) (Zu O n []) n) (fun z7=>JX 0 n (⟨18,[],[]⟩:Env) (Zu O n []) n)) ?_
  intro s0_ x0_ hs0_
  unfold Zaj at hs0_
  try dsimp only
  refine zQ [1,7,8,9,10] ?_
  refine Zg ?_
  refine Zq (t:=(decide (s0_ < (a0.length:Int)))) rfl (fun c6 => ?_) (fun c6 => ?_)
  ·replace hs0_:=Zo c6 hs0_
   refine Qp [1,7,8,9] [] ?_
   refine Zg ?_
   refine Z9 ?_
   refine Zg ?_
   obtain ⟨x2,hx2,ax2,bx2,cx2,hs0_⟩:=bE (f:=Za) Vh (fun _=>rfl) (by decide) hs0_
   refine Zcw [] ax2 bx2 cx2 ?_
   refine zDs [1,6,7,8,9] [true] ?_
   obtain ⟨y4,hy4,hs0_⟩:=bC hs0_
   refine zCd (Zef hy4) [1,7,8,9,16] [false] ?_
   refine Zq (t:=(!y4)) rfl (fun c5 => ?_) (fun c5 => ?_)
   ·replace hs0_:=Zo c5 hs0_
    refine zQ [4] ?_
    refine zW ?_
    exact zEy hs0_
   replace hs0_:=Zn c5 hs0_
   refine Qp [1,7,8,9] [false] ?_
   refine zR ?_
   exact Gw hs0_
  replace hs0_:=Zn c6 hs0_
  exact zEx hs0_
 rcases z7 with z7 | z7
 ·dsimp only [Y6] at hw h
  refine X1 hw ?_
  try simp only [Ym,Z4,↓reduceIte,Nat.reduceEqDiff]
  exact Zgn [(vB false)]
 dsimp only [Y6] at hw h
 refine Yg hw ?_
 try simp only [Ym,Z4,↓reduceIte,Nat.reduceEqDiff]
 refine zD [] [] ?_
 refine zQ [4] ?_
 exact Yi [(vB true)]
theorem Ztg {Xt:(Zb→Option Bool)} {Xs:(Zb→Int→Option Bool)} {Xa:((List Zb)→Int→Option Bool)} {Xe:((List Zb)→Int→Option Bool)} (Zee:Zeb Xt) (Zef:Zec Xs) (Ug:Zaw Xa) (Zdx:Zav Xe) {a0:(List Zb)} {a1:Int} {r:Bool} {O:Objs} {n:Nat} (h:Zd3 Xt Xs Xa Xe a0 a1=some r):GTo Try.prog 134 [(sL Za a0),(vI a1)] O n ((vB r)) O n:=by
 unfold Zd3 at h
 refine zFn Try.call134 Try.func134 fun hU hN0 hN => ?_
 show W _ _ _ _ ⟨31,[],[(0,(sL Za a0)),(1,(vI a1))]⟩ (Zu O n []) _
 refine zQ [0,1] ?_
 refine Zg ?_
 refine zQd [1,7,8,9] [1,7,8,9] [] ?_
 obtain ⟨z17,hz17,h⟩:=bC h
 refine K3 (J:=(Y6 (fun z17=>JR n (⟨31,[],[(4,(vB false))]⟩:Env) (Zu O n []) n) (fun z17=>JX 0 n (⟨31,[],[]⟩:Env) (Zu O n []) n))) (z:=z17) ?_ fun hw => ?_
 ·refine Y2 hz17 (fun s0_=>⟨31,[],[(1,(vI a1)),(7,(sL Za a0)),(8,(vI (a0.length:Int))),(9,(vI s0_))]⟩) (fun s0_=>(Zu O n [])) (Y6 (fun z17=>JR n (⟨31,[],[(4,(vB false))]⟩:Env) (Zu O n []) n) (fun z17=>JX 0 n (⟨31,[],[]⟩:Env) (Zu O n []) n)) ?_
  intro s0_ x0_ hs0_
  unfold Zai at hs0_
  try dsimp only
  refine zQ [1,7,8,9,10] ?_
  refine Zg ?_
  refine Zq (t:=(decide (s0_ < (a0.length:Int)))) rfl (fun c16 => ?_) (fun c16 => ?_)
  ·replace hs0_:=Zo c16 hs0_
   refine Qp [1,7,8,9] [] ?_
   refine Zg ?_
   refine Z9 ?_
   refine Zg ?_
   obtain ⟨x2,hx2,ax2,bx2,cx2,hs0_⟩:=bE (f:=Za) Vh (fun _=>rfl) (by decide) hs0_
   refine Zcw [] ax2 bx2 cx2 ?_
   refine zD [1,6,7,8,9] [true] ?_
   obtain ⟨z6,hz6,hs0_⟩:=bC hs0_
   refine Yp (E':=⟨31,[],[(1,(vI a1)),(7,(sL Za a0)),(8,(vI (a0.length:Int))),(9,(vI s0_)),(29,(vB z6))]⟩) (O':=(Zu O n [none])) (n0:=(n+1)) ?_ ?_
   ·rcases Bool.eq_false_or_eq_true (x2.Kind != 10) with c13 | c13
    ·replace hz6:=Zo c13 hz6
     refine Jb [some false,some false,some false,some false,some false,some false,some false,some false,some false,some false] c13 ?_
     exact Qm hz6 c13
    replace hz6:=Zn c13 hz6
    obtain ⟨y10,hy10,hz6⟩:=bC hz6
    rcases Bool.eq_false_or_eq_true y10 with c14 | c14
    ·replace hz6:=Zo c14 hz6
     try rw [c14] at c13
     obtain ⟨x11,hx11,ax11,bx11,cx11,hz6⟩:=bE (f:=(eI .u64)) Zh6 (fun _=>rfl) (by decide) hz6
     obtain ⟨y12,hy12,hz6⟩:=bC hz6
     refine Ybn [some true,some true,some true,some true,some true,some true,some true,some true,some true,some true] c13 c14 ax11 bx11 cx11 ?_
     refine (Zee hy10).then ?_
     refine zF5 c13 c14 ax11 bx11 cx11 ?_
     refine (Z38 hy12).then ?_
     refine zF5 c13 c14 ax11 bx11 cx11 ?_
     exact Yfa hz6 c13 c14 ax11 bx11 cx11
    replace hz6:=Zn c14 hz6
    try rw [c14] at c13
    refine Jn [some true,some true,some true,some false,some false,some false,some false,some false,some false,some false] c13 c14 ?_
    refine (Zee hy10).then ?_
    refine zX2 c13 c14 ?_
    exact U2 hz6 c13 c14
   refine Zq (t:=z6) rfl (fun c15 => ?_) (fun c15 => ?_)
   ·replace hs0_:=Zo c15 hs0_
    refine zQ [4] ?_
    refine zW ?_
    exact zEy hs0_
   replace hs0_:=Zn c15 hs0_
   refine Qp [1,7,8,9] [false] ?_
   refine zR ?_
   exact Gw hs0_
  replace hs0_:=Zn c16 hs0_
  exact zEx hs0_
 rcases z17 with z17 | z17
 ·dsimp only [Y6] at hw h
  refine X1 hw ?_
  try simp only [Ym,Z4,↓reduceIte,Nat.reduceEqDiff]
  exact Zgn [(vB false)]
 dsimp only [Y6] at hw h
 refine Yg hw ?_
 try simp only [Ym,Z4,↓reduceIte,Nat.reduceEqDiff]
 refine zD [] [] ?_
 refine zQ [4] ?_
 exact Yi [(vB true)]
theorem Zvn:∀ k,(Zeb ((Z0 k).1))∧(Zec ((Z0 k).2.1))∧(Zaw ((Z0 k).2.2.1))∧(Zav ((Z0 k).2.2.2)):=fun k=>by
 induction k with
 | zero=>exact ⟨@fun a0 r O n h=>(nomatch (show (none:Option _)=some _ from h)),@fun a0 a1 r O n h=>(nomatch (show (none:Option _)=some _ from h)),@fun a0 a1 r O n h=>(nomatch (show (none:Option _)=some _ from h)),@fun a0 a1 r O n h=>(nomatch (show (none:Option _)=some _ from h))⟩
 | succ k ih=>exact ⟨@fun a0 r O n h=>Z0s (ih.1) (ih.2.1) (ih.2.2.1) (ih.2.2.2)  h,@fun a0 a1 r O n h=>Z0t (ih.1) (ih.2.1) (ih.2.2.1) (ih.2.2.2)  h,@fun a0 a1 r O n h=>Zth (ih.1) (ih.2.1) (ih.2.2.1) (ih.2.2.2)  h,@fun a0 a1 r O n h=>Ztg (ih.1) (ih.2.1) (ih.2.2.1) (ih.2.2.2)  h⟩
theorem Zri {a0:Zb} {r:Bool} {O:Objs} {n:Nat} (h:Zjr a0=some r):GTo Try.prog 62 [.agg (Zf a0)] O n ((vB r)) O n:=by
 obtain ⟨k,hk⟩:=V0 h
 exact (Zvn k).1  hk
theorem Zlp {a0:Zb} {r:Bool} {O:Objs} {n:Nat} (h:Zfw a0=some r):GTo Try.prog 124 [.agg (Zf a0)] O n ((vB r)) O n:=by
 unfold Zfw at h
 refine zFn Try.call124 Try.func124 fun hU hN0 hN => ?_
 show W _ _ _ _ ⟨10,[],[(0,.agg (Zf a0))]⟩ (Zu O n []) _
 refine zQ [1] ?_
 obtain ⟨z2,hz2,h⟩:=bC h
 refine Yp (E':=⟨10,[],[(2,(vB z2))]⟩) (O':=(Zu O n [none])) (n0:=(n+1)) ?_ ?_
 ·rcases Bool.eq_false_or_eq_true (a0.Kind != 10) with c5 | c5
  ·replace hz2:=Zo c5 hz2
   obtain ⟨y4,hy4,hz2⟩:=bC hz2
   refine Jb [some true,some true] c5 ?_
   refine (Zri hy4).then ?_
   refine zX1 c5 ?_
   exact Qm hz2 c5
  replace hz2:=Zn c5 hz2
  refine Jb [some false,some false] c5 ?_
  exact Qm hz2 c5
 exact Yi [(vB z2)]
theorem Znm {a0:Int} {r:Int} {O:Objs} {n:Nat} (h:Zb6 a0=some r):GTo Try.prog 104 [.val (.int .u8 a0)] O n (.val (.int .u64 r)) O n:=by
 unfold Zb6 at h
 refine zFn Try.call104 Try.func104 fun hU hN0 hN => ?_
 show W _ _ _ _ ⟨20,[],[(0,.val (.int .u8 a0))]⟩ (Zu O n []) _
 refine zQ [0] ?_
 refine zQ [0,3] ?_
 refine Zg ?_
 refine zQd [0,3,5] [0,3,5] [] ?_
 obtain ⟨z7,hz7,h⟩:=bC h
 refine Yg (E':=⟨20,[],[(3,.val (.int .u64 z7))]⟩) (O':=(Zu O n [])) (n0:=n) ?_ ?_
 ·refine Y2 hz7 (fun s0_=>⟨20,[],[(0,.val (.int .u8 a0)),(3,.val (.int .u64 s0_.1)),(5,(vI s0_.2))]⟩) (fun s0_=>(Zu O n [])) (fun z7=>JX 0 n (⟨20,[],[(3,.val (.int .u64 z7))]⟩:Env) (Zu O n []) n) ?_
  intro s0_ x0_ hs0_
  unfold Zff at hs0_
  try dsimp only
  refine zQ [0,3,5,6] ?_
  refine Zg ?_
  refine Zq (t:=(decide (s0_.2 < 8))) rfl (fun c6 => ?_) (fun c6 => ?_)
  ·replace hs0_:=Zo c6 hs0_
   refine Qp [0,3,5] [] ?_
   obtain ⟨z1,hz1,hs0_⟩:=bC hs0_
   refine Yp (E':=⟨20,[],[(0,.val (.int .u8 a0)),(3,.val (.int .u64 z1)),(5,(vI s0_.2))]⟩) (O':=(Zu O n [])) (n0:=n) ?_ ?_
   ·refine Z9 ?_
    refine zQ [0,3,4,5] ?_
    obtain ⟨pu3,hz1⟩:=bG hz1
    refine Zll [0,3,4,5,12] (Yw Zz [] ?_)
    simp only [push_cast,seval,↓reduceIte,Zm,pu3,hN0,hN]
    refine Zq (t:=((IntKind.u8.wrap (Zha .u8 (Int.fdiv a0 (2 ^ min (Int.toNat s0_.2) 8)) 1)) == 1)) rfl (fun c5 => ?_) (fun c5 => ?_)
    ·replace hz1:=Zo c5 hz1
     obtain ⟨pu4,hz1⟩:=bG hz1
     refine Yw Zz [] ?_
     simp only [push_cast,seval,↓reduceIte,Zm,pu4,hN0,hN]
     have hz1:=Option.some.inj hz1;subst hz1
     refine And.intro rfl (Fit2.of (Ya hU rfl rfl ?_) (by omega))
     simp only [push_cast,seval,↓reduceIte,Zm,pu4,hN0,hN]
    replace hz1:=Zn c5 hz1
    refine zK ?_
    exact Gw hz1
   refine zR ?_
   exact Gw hs0_
  replace hs0_:=Zn c6 hs0_
  exact zEx hs0_
 try simp only [Ym,Z4,↓reduceIte,Nat.reduceEqDiff]
 refine zD [3] [] ?_
 refine zQ [2] ?_
 exact Yi [.val (.int .u64 z7)]
theorem Zkc {a0:(List Zt)} {r:Bool} {O:Objs} {n:Nat} (h:Zb3 a0=some r):GTo Try.prog 125 [(sL Zl a0)] O n ((vB r)) O n:=by
 unfold Zb3 at h
 refine zFn Try.call125 Try.func125 fun hU hN0 hN => ?_
 show W _ _ _ _ ⟨48,[],[(0,(sL Zl a0))]⟩ (Zu O n []) _
 refine zQ [0] ?_
 refine zQ [0,3] ?_
 refine Zg ?_
 refine zQd [3,7,8,9] [3,7,8,9] [] ?_
 obtain ⟨z7,hz7,h⟩:=bC h
 refine K3 (J:=(Y6 (fun z7=>JR n (⟨48,[],[(2,(vB false))]⟩:Env) (Zu O n []) n) (fun z7=>JX 0 n (⟨48,[],[]⟩:Env) (Zu O n []) n))) (z:=z7) ?_ fun hw => ?_
 ·refine Y2 hz7 (fun s0_=>⟨48,[],[(3,(vI s0_.1)),(7,(sL Zl a0)),(8,(vI (a0.length:Int))),(9,(vI s0_.2))]⟩) (fun s0_=>(Zu O n [])) (Y6 (fun z7=>JR n (⟨48,[],[(2,(vB false))]⟩:Env) (Zu O n []) n) (fun z7=>JX 0 n (⟨48,[],[]⟩:Env) (Zu O n []) n)) ?_
  intro s0_ x0_ hs0_
  unfold Uv at hs0_
  try dsimp only
  refine zQ [3,7,8,9,10] ?_
  refine Zg ?_
  refine Zq (t:=(decide (s0_.2 < (a0.length:Int)))) rfl (fun c6 => ?_) (fun c6 => ?_)
  ·replace hs0_:=Zo c6 hs0_
   refine Qp [3,7,8,9] [] ?_
   refine Zg ?_
   refine Z9 ?_
   refine Zg ?_
   obtain ⟨x2,hx2,ax2,bx2,cx2,hs0_⟩:=bE (f:=Zl) Zt9 (fun _=>rfl) (by decide) hs0_
   refine Zcw [] ax2 bx2 cx2 ?_
   refine zDs [3,5,7,8,9] [true] ?_
   obtain ⟨y4,hy4,hs0_⟩:=bC hs0_
   refine zCd (Znm hy4) [3,5,6,7,8,9] [true] ?_
   refine Zg ?_
   refine zQD [5,7,8,9,44] [none,none,none,none,none,none,none,none,none,none,none,none,none,none,none,none] ?_
   refine Zq (t:=(cond (cond (cond (cond (decide (x2.At≤s0_.1)) true (decide (65534 < x2.At))) true (x2.Mask == 0)) true ((IntKind.u64.wrap (Zha .u64 x2.Old (IntKind.u64.wrap (Ziz .u64 (if IntKind.signed .u64=true then -1 else IntKind.max .u64) y4)))) != 0)) true ((IntKind.u64.wrap (Zha .u64 x2.New (IntKind.u64.wrap (Ziz .u64 (if IntKind.signed .u64=true then -1 else IntKind.max .u64) y4)))) != 0))) rfl (fun c5 => ?_) (fun c5 => ?_)
   ·replace hs0_:=Zo c5 hs0_
    refine zQ [2] ?_
    refine zW ?_
    exact zEy hs0_
   replace hs0_:=Zn c5 hs0_
   refine Qp [5,7,8,9] [true] ?_
   refine zRd [3,7,8,9] [false] ?_
   refine zR ?_
   exact Gw hs0_
  replace hs0_:=Zn c6 hs0_
  exact zEx hs0_
 rcases z7 with z7 | z7
 ·dsimp only [Y6] at hw h
  refine X1 hw ?_
  try simp only [Ym,Z4,↓reduceIte,Nat.reduceEqDiff]
  exact Zgn [(vB false)]
 dsimp only [Y6] at hw h
 refine Yg hw ?_
 try simp only [Ym,Z4,↓reduceIte,Nat.reduceEqDiff]
 refine zD [] [] ?_
 refine zQ [2] ?_
 exact Yi [(vB true)]
theorem Zmd {a0:Int} {a1:Zc} {r:Bool} {O:Objs} {n:Nat} (h:Zd8 a0 a1=some r):GTo Try.prog 159 [(vI a0),.agg (Ze a1)] O n ((vB r)) O n:=by
 unfold Zd8 at h
 refine zFn Try.call159 Try.func159 fun hU hN0 hN => ?_
 show W _ _ _ _ ⟨33,[],[(0,(vI a0)),(1,.agg (Ze a1))]⟩ (Zu O n []) _
 refine zQ [0,3] ?_
 refine Zg ?_
 refine zQ [3,5] ?_
 refine Z9 ?_
 refine zQ [3,5,6] ?_
 refine Zq (t:=(a0 == 8)) rfl (fun c2 => ?_) (fun c2 => ?_)
 ·replace h:=Zo c2 h
  refine zQ [4] ?_
  exact Yi [(vB (a1.Kind != 0))]
 replace h:=Zn c2 h
 refine zQ [3,11] ?_
 refine Zq (t:=(a0 == 9)) rfl (fun c1 => ?_) (fun c1 => ?_)
 ·replace h:=Zo c1 h
  refine zQD [4] [none,none,none,none,none,none,none,none,none,none,none,none,none,none,none] ?_
  exact Yi [(vB (cond (a1.Kind == 2) true (cond (cond (a1.Kind == 1) (a1.Old.Kind == 1) false) (a1.New.Kind == 1) false)))]
 replace h:=Zn c1 h
 refine Qp [] [false] ?_
 refine zQ [4] ?_
 exact Yi [(vB false)]
theorem Zoj {a0:Zh} {r:Int} {O:Objs} {n:Nat} (h:Zdd a0=some r):GTo Try.prog 152 [.agg (Yz a0)] O n ((vI r)) O n:=by
 unfold Zdd at h
 refine zFn Try.call152 Try.func152 fun hU hN0 hN => ?_
 show W _ _ _ _ ⟨19,[],[(0,.agg (Yz a0))]⟩ (Zu O n []) _
 refine zQ [1] ?_
 refine Zg ?_
 refine zQ [1,4] ?_
 refine Z9 ?_
 refine zQ [1,4,5] ?_
 refine Zq (t:=(a0.Kind == 0)) rfl (fun c5 => ?_) (fun c5 => ?_)
 ·replace h:=Zo c5 h
  refine zQ [2] ?_
  exact Yi [(vI (if 1048576 < (if a0.N < 0 then 0 else a0.N) then 1048576 else (if a0.N < 0 then 0 else a0.N)))]
 replace h:=Zn c5 h
 obtain ⟨z1,hz1,h⟩:=bC h
 refine Yp (E':=⟨19,[],[(1,.ref n 0),(4,(vI a0.Kind)),(11,(vB z1))]⟩) (O':=(Zu O n [some ⟨false,75,14,1,(Yz a0)⟩])) (n0:=(n+1)) ?_ ?_
 ·refine zQ [1,4,11] ?_
  refine Zq (t:=(a0.Kind == 1)) rfl (fun c2 => ?_) (fun c2 => ?_)
  ·replace hz1:=Zo c2 hz1
   refine zK ?_
   exact Gw hz1
  replace hz1:=Zn c2 hz1
  refine zR ?_
  exact Gw hz1
 refine Zq (t:=z1) rfl (fun c4 => ?_) (fun c4 => ?_)
 ·replace h:=Zo c4 h
  refine zQ [2] ?_
  exact Yi [(vI (a0.L.length:Int))]
 replace h:=Zn c4 h
 refine zQ [17] ?_
 refine Zq (t:=(a0.Kind == 3)) rfl (fun c3 => ?_) (fun c3 => ?_)
 ·replace h:=Zo c3 h
  refine zQ [2] ?_
  exact Yi [(vI 1)]
 replace h:=Zn c3 h
 refine Qp [] [false] ?_
 refine zQ [2] ?_
 exact Yi [(vI 0)]
theorem Zwp {a0:Zc} {r:(Int×Int)} {O:Objs} {n:Nat} (h:Zfc a0=some r):GTo Try.prog 129 [.agg (Ze a0)] O n (.tup [(vI r.1),(vI r.2)]) O n:=by
 unfold Zfc at h
 refine zFn Try.call129 Try.func129 fun hU hN0 hN => ?_
 show W _ _ _ _ ⟨34,[],[(0,.agg (Ze a0))]⟩ (Zu O n []) _
 refine zQ [1] ?_
 refine zQ [1,4,5] ?_
 refine Zg ?_
 refine zQd [4,5,9,10,11] [4,5,9,10,11] [false] ?_
 obtain ⟨z10,hz10,h⟩:=bC h
 refine Yg (E':=⟨34,[],[(4,(vI z10.1)),(5,(vI z10.2))]⟩) (O':=(Zu O n [none])) (n0:=(n+1)) ?_ ?_
 ·refine Y2 hz10 (fun s0_=>⟨34,[],[(4,(vI s0_.1)),(5,(vI s0_.2.1)),(9,(sL Zd a0.Ops)),(10,(vI (a0.Ops.length:Int))),(11,(vI s0_.2.2))]⟩) (fun s0_=>(Zu O n [none])) (fun z10=>JX 0 n (⟨34,[],[(4,(vI z10.1)),(5,(vI z10.2))]⟩:Env) (Zu O n [none]) (n+1)) ?_
  intro s0_ x0_ hs0_
  unfold Zb2 at hs0_
  try dsimp only
  refine zQ [4,5,9,10,11,12] ?_
  refine Zg ?_
  refine Zq (t:=(decide (s0_.2.2 < (a0.Ops.length:Int)))) rfl (fun c9 => ?_) (fun c9 => ?_)
  ·replace hs0_:=Zo c9 hs0_
   refine Qp [4,5,9,10,11] [false] ?_
   obtain ⟨z1,hz1,hs0_⟩:=bC hs0_
   refine Yp (E':=⟨34,[],[(4,(vI z1.1)),(5,(vI z1.2)),(9,(sL Zd a0.Ops)),(10,(vI (a0.Ops.length:Int))),(11,(vI s0_.2.2))]⟩) (O':=(Zu O n [none,none])) (n0:=(n+2)) ?_ ?_
   ·refine Z9 ?_
    refine Zg ?_
    obtain ⟨x3,hx3,ax3,bx3,cx3,hz1⟩:=bE (f:=Zd) Zbe (fun _=>rfl) (by decide) hz1
    refine Zcw [] ax3 bx3 cx3 ?_
    refine zD [4,5,7,9,10,11] [false,true] ?_
    obtain ⟨z4,hz4,hz1⟩:=bC hz1
    refine Yp (E':=⟨34,[],[(4,(vI z4)),(5,(vI s0_.2.1)),(7,.ref (n+1) 0),(9,(sL Zd a0.Ops)),(10,(vI (a0.Ops.length:Int))),(11,(vI s0_.2.2))]⟩) (O':=(Zu O n [none,some ⟨false,75,14,1,(Yz x3)⟩])) (n0:=(n+2)) ?_ ?_
    ·refine zQ [4,5,7,9,10,11,17] ?_
     refine Zq (t:=(x3.Kind != 2)) rfl (fun c6 => ?_) (fun c6 => ?_)
     ·replace hz4:=Zo c6 hz4
      obtain ⟨y5,hy5,hz4⟩:=bC hz4
      refine zC (Zoj hy5) ?_
      exact Gw hz4
     replace hz4:=Zn c6 hz4
     refine zK ?_
     exact Gw hz4
    refine zQ [4,5,7,9,10,11,25] ?_
    refine Zq (t:=(x3.Kind != 1)) rfl (fun c8 => ?_) (fun c8 => ?_)
    ·replace hz1:=Zo c8 hz1
     obtain ⟨y7,hy7,hz1⟩:=bC hz1
     refine zC (Zoj hy7) ?_
     exact Gw hz1
    replace hz1:=Zn c8 hz1
    refine zK ?_
    exact Gw hz1
   refine zR ?_
   exact Gw hs0_
  replace hs0_:=Zn c9 hs0_
  exact zEx hs0_
 try simp only [Ym,Z4,↓reduceIte,Nat.reduceEqDiff]
 refine zD [4,5] [false] ?_
 refine zQ [2,3] ?_
 exact Yi [(vI z10.1),(vI z10.2)]
attribute [local push_cast] Try.results126 Try.results127 Try.results149 Try.results158 Try.results21 Try.results53 Try.results85 Try.results87 Try.results88 Try.results89
def Gn (Y0:(Zc→Option Bool)):Prop:=∀ {a0:Zc} {r:Bool} {O:Objs} {n:Nat},Y0 a0=some r→GTo Try.prog 53 [.agg (Ze a0)] O n ((vB r)) O n
def Gp (Yu:(Zc→Int→Option Bool)):Prop:=∀ {a0:Zc} {a1:Int} {r:Bool} {O:Objs} {n:Nat},Yu a0 a1=some r→GTo Try.prog 85 [.agg (Ze a0),(vI a1)] O n ((vB r)) O n
def Jw (Yb:((List Zk)→Int→Option Bool)):Prop:=∀ {a0:(List Zk)} {a1:Int} {r:Bool} {O:Objs} {n:Nat},Yb a0 a1=some r→GTo Try.prog 126 [(sL Zi a0),(vI a1)] O n ((vB r)) O n
def Kr (Ye:(Zc→Int→Option Bool)):Prop:=∀ {a0:Zc} {a1:Int} {r:Bool} {O:Objs} {n:Nat},Ye a0 a1=some r→GTo Try.prog 127 [.agg (Ze a0),(vI a1)] O n ((vB r)) O n
def Ve (Yh:(Int→Zh→Int→Option Bool)):Prop:=∀ {a0:Int} {a1:Zh} {a2:Int} {r:Bool} {O:Objs} {n:Nat},Yh a0 a1 a2=some r→GTo Try.prog 149 [(vI a0),.agg (Yz a1),(vI a2)] O n ((vB r)) O n
def Jx (Z8:(Bool→Bool→Bool→Zh→Option Bool)):Prop:=∀ {a0:Bool} {a1:Bool} {a2:Bool} {a3:Zh} {r:Bool} {O:Objs} {n:Nat},Z8 a0 a1 a2 a3=some r→GTo Try.prog 158 [(vB a0),(vB a1),(vB a2),.ip (Yz a3) 0] O n ((vB r)) O n
theorem Z0o {Y0:(Zc→Option Bool)} {Yu:(Zc→Int→Option Bool)} {Yb:((List Zk)→Int→Option Bool)} {Ye:(Zc→Int→Option Bool)} {Yh:(Int→Zh→Int→Option Bool)} {Z8:(Bool→Bool→Bool→Zh→Option Bool)} (Kk:Gn Y0) (Vr:Gp Yu) (Vk:Jw Yb) (Uf:Kr Ye) (Gg:Ve Yh) (Xr:Jx Z8) {a0:Zc} {r:Bool} {O:Objs} {n:Nat} (h:Zhi Y0 Yu Yb Ye Yh Z8 a0=some r):GTo Try.prog 53 [.agg (Ze a0)] O n ((vB r)) O n:=by
 unfold Zhi at h
 refine zFn Try.call53 Try.func53 fun hU hN0 hN => ?_
 show W _ _ _ _ ⟨5,[],[(0,.agg (Ze a0))]⟩ (Zu O n []) _
 refine zQ [1] ?_
 refine Zg ?_
 obtain ⟨y2,hy2,h⟩:=bC h
 refine zCd (Vr hy2) [2] [false] ?_
 exact Yi [(vB y2)]
theorem Z0p {Y0:(Zc→Option Bool)} {Yu:(Zc→Int→Option Bool)} {Yb:((List Zk)→Int→Option Bool)} {Ye:(Zc→Int→Option Bool)} {Yh:(Int→Zh→Int→Option Bool)} {Z8:(Bool→Bool→Bool→Zh→Option Bool)} (Kk:Gn Y0) (Vr:Gp Yu) (Vk:Jw Yb) (Uf:Kr Ye) (Gg:Ve Yh) (Xr:Jx Z8) {a0:Zc} {a1:Int} {r:Bool} {O:Objs} {n:Nat} (h:Zhj Y0 Yu Yb Ye Yh Z8 a0 a1=some r):GTo Try.prog 85 [.agg (Ze a0),(vI a1)] O n ((vB r)) O n:=by
 unfold Zhj at h
 refine zFn Try.call85 Try.func85 fun hU hN0 hN => ?_
 show W _ _ _ _ ⟨55,[],[(0,.agg (Ze a0)),(1,(vI a1))]⟩ (Zu O n []) _
 refine zQ [1,2] ?_
 refine Zg ?_
 refine zQ [1,2,7] ?_
 refine Zq (t:=(a1 == 0)) rfl (fun c39 => ?_) (fun c39 => ?_)
 ·replace h:=Zo c39 h
  refine zQ [4] ?_
  exact Yi [(vB false)]
 replace h:=Zn c39 h
 refine Qp [1,2] [true] ?_
 refine Zet ⟨55,[],[(1,(vI a1)),(2,.ip (Ze a0) 0)]⟩ (Zu O n [none]) (Ya hU rfl rfl ?_) ?_
 ·exact zSe
 refine zQ [1,2,5] ?_
 refine Zg ?_
 refine zQ [1,2,5,10] ?_
 refine Z9 ?_
 refine zQ [1,2,5,10,11] ?_
 refine Zq (t:=(a0.Kind == 0)) rfl (fun c38 => ?_) (fun c38 => ?_)
 ·replace h:=Zo c38 h
  refine Zg ?_
  obtain ⟨y2,hy2,h⟩:=bC h
  refine zR ?_
  refine GCalls.argsW ?_ ((Kj hy2).then ?_)
  ·exact zSe
  refine zS ?_
  refine zD [4] [false] ?_
  exact Yi [(vB y2)]
 replace h:=Zn c38 h
 refine zQ [1,2,5,10,15] ?_
 refine Zq (t:=(a0.Kind == 1)) rfl (fun c37 => ?_) (fun c37 => ?_)
 ·replace h:=Zo c37 h
  obtain ⟨z6,hz6,h⟩:=bC h
  refine Yp (E':=⟨55,[],[(4,(vB z6))]⟩) (O':=(Zu O n [none])) (n0:=(n+1)) ?_ ?_
  ·obtain ⟨y10,hy10,hz6⟩:=bC hz6
   rcases Bool.eq_false_or_eq_true y10 with c13 | c13
   ·replace hz6:=Zo c13 hz6
    obtain ⟨y11,hy11,hz6⟩:=bC hz6
    rcases Bool.eq_false_or_eq_true y11 with c14 | c14
    ·replace hz6:=Zo c14 hz6
     try rw [c14] at c13
     obtain ⟨y12,hy12,hz6⟩:=bC hz6
     refine Jn [some true,some true,some true,some true,some true,some true] c13 c14 ?_
     refine GCalls.argsW ?_ ((Kj hy10).then ?_)
     ·exact Js c13 c14
     refine zX2 c13 c14 ?_
     refine (Zlp hy11).then ?_
     refine zX2 c13 c14 ?_
     refine (Zlp hy12).then ?_
     refine zX2 c13 c14 ?_
     exact U2 hz6 c13 c14
    replace hz6:=Zn c14 hz6
    try rw [c14] at c13
    refine Jn [some true,some true,some true,some false,some false,some false] c13 c14 ?_
    refine GCalls.argsW ?_ ((Kj hy10).then ?_)
    ·exact Js c13 c14
    refine zX2 c13 c14 ?_
    refine (Zlp hy11).then ?_
    refine zX2 c13 c14 ?_
    exact U2 hz6 c13 c14
   replace hz6:=Zn c13 hz6
   refine Jb [some false,some false,some false,some false,some false,some false] c13 ?_
   refine GCalls.argsW ?_ ((Kj hy10).then ?_)
   ·exact Ych c13
   refine zX1 c13 ?_
   exact Qm hz6 c13
  exact Yi [(vB z6)]
 replace h:=Zn c37 h
 refine zQ [1,2,5,10,29] ?_
 refine Zq (t:=(a0.Kind == 2)) rfl (fun c36 => ?_) (fun c36 => ?_)
 ·replace h:=Zo c36 h
  obtain ⟨z18,hz18,h⟩:=bC h
  refine Yp (E':=⟨55,[],[(4,(vB z18))]⟩) (O':=(Zu O n [none])) (n0:=(n+1)) ?_ ?_
  ·obtain ⟨y22,hy22,hz18⟩:=bC hz18
   rcases Bool.eq_false_or_eq_true y22 with c25 | c25
   ·replace hz18:=Zo c25 hz18
    obtain ⟨y23,hy23,hz18⟩:=bC hz18
    rcases Bool.eq_false_or_eq_true y23 with c26 | c26
    ·replace hz18:=Zo c26 hz18
     try rw [c26] at c25
     obtain ⟨y24,hy24,hz18⟩:=bC hz18
     refine Jn [some true,some true,some true,some true,some true,some true,some true,some true] c25 c26 ?_
     refine GCalls.argsW ?_ ((Kj hy22).then ?_)
     ·exact Js c25 c26
     refine zX2 c25 c26 ?_
     refine (Zkc hy23).then ?_
     refine zX2 c25 c26 ?_
     refine (Vk hy24).then ?_
     refine zX2 c25 c26 ?_
     exact U2 hz18 c25 c26
    replace hz18:=Zn c26 hz18
    try rw [c26] at c25
    refine Jn [some true,some true,some true,some false,some false,some false,some false,some false] c25 c26 ?_
    refine GCalls.argsW ?_ ((Kj hy22).then ?_)
    ·exact Js c25 c26
    refine zX2 c25 c26 ?_
    refine (Zkc hy23).then ?_
    refine zX2 c25 c26 ?_
    exact U2 hz18 c25 c26
   replace hz18:=Zn c25 hz18
   refine Jb [some false,some false,some false,some false,some false,some false,some false,some false] c25 ?_
   refine GCalls.argsW ?_ ((Kj hy22).then ?_)
   ·exact Ych c25
   refine zX1 c25 ?_
   exact Qm hz18 c25
  exact Yi [(vB z18)]
 replace h:=Zn c36 h
 refine zQ [1,2,5,45] ?_
 refine Zq (t:=(a0.Kind == 3)) rfl (fun c35 => ?_) (fun c35 => ?_)
 ·replace h:=Zo c35 h
  obtain ⟨z29,hz29,h⟩:=bC h
  refine Yp (E':=⟨55,[],[(4,(vB z29))]⟩) (O':=(Zu O n [none])) (n0:=(n+1)) ?_ ?_
  ·obtain ⟨y32,hy32,hz29⟩:=bC hz29
   rcases Bool.eq_false_or_eq_true y32 with c34 | c34
   ·replace hz29:=Zo c34 hz29
    obtain ⟨y33,hy33,hz29⟩:=bC hz29
    refine Jb [some true,some true,some true,some true] c34 ?_
    refine GCalls.argsW ?_ ((Kj hy32).then ?_)
    ·exact Ych c34
    refine zX1 c34 ?_
    refine (Uf hy33).then ?_
    refine zX1 c34 ?_
    exact Qm hz29 c34
   replace hz29:=Zn c34 hz29
   refine Jb [some false,some false,some false,some false] c34 ?_
   refine GCalls.argsW ?_ ((Kj hy32).then ?_)
   ·exact Ych c34
   refine zX1 c34 ?_
   exact Qm hz29 c34
  exact Yi [(vB z29)]
 replace h:=Zn c35 h
 refine Qp [] [false] ?_
 refine zQ [4] ?_
 exact Yi [(vB false)]
theorem Zr1 {Y0:(Zc→Option Bool)} {Yu:(Zc→Int→Option Bool)} {Yb:((List Zk)→Int→Option Bool)} {Ye:(Zc→Int→Option Bool)} {Yh:(Int→Zh→Int→Option Bool)} {Z8:(Bool→Bool→Bool→Zh→Option Bool)} (Kk:Gn Y0) (Vr:Gp Yu) (Vk:Jw Yb) (Uf:Kr Ye) (Gg:Ve Yh) (Xr:Jx Z8) {a0:(List Zk)} {a1:Int} {r:Bool} {O:Objs} {n:Nat} (h:Zc5 Y0 Yu Yb Ye Yh Z8 a0 a1=some r):GTo Try.prog 126 [(sL Zi a0),(vI a1)] O n ((vB r)) O n:=by
 unfold Zc5 at h
 refine zFn Try.call126 Try.func126 fun hU hN0 hN => ?_
 show W _ _ _ _ ⟨39,[],[(0,(sL Zi a0)),(1,(vI a1))]⟩ (Zu O n []) _
 refine zQ [0,1] ?_
 refine zQ [0,1,5] ?_
 refine Zg ?_
 refine zQd [1,5,8,9,10] [1,5,8,9,10] [] ?_
 obtain ⟨z12,hz12,h⟩:=bC h
 refine K3 (J:=(Y6 (fun z12=>JR n (⟨39,[],[(4,(vB false))]⟩:Env) (Zu O n []) n) (fun z12=>JX 0 n (⟨39,[],[]⟩:Env) (Zu O n []) n))) (z:=z12) ?_ fun hw => ?_
 ·refine Y2 hz12 (fun s0_=>⟨39,[],[(1,(vI a1)),(5,(vI s0_.1)),(8,(sL Zi a0)),(9,(vI (a0.length:Int))),(10,(vI s0_.2))]⟩) (fun s0_=>(Zu O n [])) (Y6 (fun z12=>JR n (⟨39,[],[(4,(vB false))]⟩:Env) (Zu O n []) n) (fun z12=>JX 0 n (⟨39,[],[]⟩:Env) (Zu O n []) n)) ?_
  intro s0_ x0_ hs0_
  unfold Gs at hs0_
  try dsimp only
  refine zQ [1,5,8,9,10,11] ?_
  refine Zg ?_
  refine Zq (t:=(decide (s0_.2 < (a0.length:Int)))) rfl (fun c11 => ?_) (fun c11 => ?_)
  ·replace hs0_:=Zo c11 hs0_
   refine Qp [1,5,8,9,10] [] ?_
   refine Zg ?_
   refine Z9 ?_
   refine Zg ?_
   obtain ⟨x2,hx2,ax2,bx2,cx2,hs0_⟩:=bE (f:=Zi) Zkq (fun _=>rfl) (by decide) hs0_
   refine Zcw [] ax2 bx2 cx2 ?_
   refine zDs [1,5,7,8,9,10] [true] ?_
   obtain ⟨z4,hz4,hs0_⟩:=bC hs0_
   refine Yp (E':=⟨39,[],[(1,(vI a1)),(7,.ref n 0),(8,(sL Zi a0)),(9,(vI (a0.length:Int))),(10,(vI s0_.2)),(35,(vB z4))]⟩) (O':=(Zu O n [some ⟨false,84,12,1,(Vp x2)⟩])) (n0:=(n+1)) ?_ ?_
   ·rcases Bool.eq_false_or_eq_true (decide (x2.At≤s0_.1)) with c7 | c7
    ·replace hz4:=Zo c7 hz4
     refine Jb [none,none,none,none,none,none,none,some false,some false,some false,some false,some false] c7 ?_
     refine zG ?_
     exact Qm hz4 c7
    replace hz4:=Zn c7 hz4
    rcases Bool.eq_false_or_eq_true (decide (65534 < x2.At)) with c8 | c8
    ·replace hz4:=Zo c8 hz4
     try rw [c8] at c7
     refine Jn [none,none,none,none,none,none,none,some false,some false,some false,some false,some false] c7 c8 ?_
     refine zG ?_
     exact U2 hz4 c7 c8
    replace hz4:=Zn c8 hz4
    try rw [c8] at c7
    rcases Bool.eq_false_or_eq_true (x2.E.Kind == 0) with c9 | c9
    ·replace hz4:=Zo c9 hz4
     try rw [c9] at c7
     try rw [c9] at c8
     refine Zbf [none,none,none,none,none,none,none,some false,some false,some false,some false,some false] c7 c8 c9 ?_
     refine zG ?_
     exact Zej hz4 c7 c8 c9
    replace hz4:=Zn c9 hz4
    try rw [c9] at c7
    try rw [c9] at c8
    obtain ⟨y6,hy6,hz4⟩:=bC hz4
    refine Zbf [none,none,none,none,none,none,none,some true,some true,some true,some true,some true] c7 c8 c9 ?_
    refine zG ?_
    refine (Vr hy6).then ?_
    refine zX3 c7 c8 c9 ?_
    refine zG ?_
    exact Zej hz4 c7 c8 c9
   refine Zq (t:=z4) rfl (fun c10 => ?_) (fun c10 => ?_)
   ·replace hs0_:=Zo c10 hs0_
    refine zQ [4] ?_
    refine zW ?_
    exact zEy hs0_
   replace hs0_:=Zn c10 hs0_
   refine Qp [1,7,8,9,10] [true] ?_
   refine zRd [1,5,8,9,10] [false] ?_
   refine zR ?_
   exact Gw hs0_
  replace hs0_:=Zn c11 hs0_
  exact zEx hs0_
 rcases z12 with z12 | z12
 ·dsimp only [Y6] at hw h
  refine X1 hw ?_
  try simp only [Ym,Z4,↓reduceIte,Nat.reduceEqDiff]
  exact Zgn [(vB false)]
 dsimp only [Y6] at hw h
 refine Yg hw ?_
 try simp only [Ym,Z4,↓reduceIte,Nat.reduceEqDiff]
 refine zD [] [] ?_
 refine zQ [4] ?_
 exact Yi [(vB true)]
theorem Zte {Y0:(Zc→Option Bool)} {Yu:(Zc→Int→Option Bool)} {Yb:((List Zk)→Int→Option Bool)} {Ye:(Zc→Int→Option Bool)} {Yh:(Int→Zh→Int→Option Bool)} {Z8:(Bool→Bool→Bool→Zh→Option Bool)} (Kk:Gn Y0) (Vr:Gp Yu) (Vk:Jw Yb) (Uf:Kr Ye) (Gg:Ve Yh) (Xr:Jx Z8) {a0:Zc} {a1:Int} {r:Bool} {O:Objs} {n:Nat} (h:Zd2 Y0 Yu Yb Ye Yh Z8 a0 a1=some r):GTo Try.prog 127 [.agg (Ze a0),(vI a1)] O n ((vB r)) O n:=by
 unfold Zd2 at h
 refine zFn Try.call127 Try.func127 fun hU hN0 hN => ?_
 show W _ _ _ _ ⟨38,[],[(0,.agg (Ze a0)),(1,(vI a1))]⟩ (Zu O n []) _
 refine zQ [1,2] ?_
 refine Zg ?_
 refine Zg ?_
 obtain ⟨y2,hy2,h⟩:=bC h
 refine zCd (Zh1 hy2) [1,2,12] [true] ?_
 refine Zq (t:=(!y2)) rfl (fun c12 => ?_) (fun c12 => ?_)
 ·replace h:=Zo c12 h
  refine zQ [4] ?_
  exact Yi [(vB false)]
 replace h:=Zn c12 h
 refine Qp [1,2] [true] ?_
 refine Zg ?_
 refine zQd [1,2,14,15,16] [1,2,14,15,16] [true] ?_
 obtain ⟨z9,hz9,h⟩:=bC h
 refine K3 (J:=(Y6 (fun z9=>JR n (⟨38,[],[(4,(vB false))]⟩:Env) (Zu O n [none]) (n+1)) (fun z9=>JX 0 n (⟨38,[],[(2,.ref n 0)]⟩:Env) (Zu O n [some ⟨false,30,11,1,(Ze a0)⟩]) (n+1)))) (z:=z9) ?_ fun hw => ?_
 ·refine Y2 hz9 (fun s0_=>⟨38,[],[(1,(vI a1)),(2,.ref n 0),(14,(sL Zd a0.Ops)),(15,(vI (a0.Ops.length:Int))),(16,(vI s0_))]⟩) (fun s0_=>(Zu O n [some ⟨false,30,11,1,(Ze a0)⟩])) (Y6 (fun z9=>JR n (⟨38,[],[(4,(vB false))]⟩:Env) (Zu O n [none]) (n+1)) (fun z9=>JX 0 n (⟨38,[],[(2,.ref n 0)]⟩:Env) (Zu O n [some ⟨false,30,11,1,(Ze a0)⟩]) (n+1))) ?_
  intro s0_ x0_ hs0_
  unfold Zah at hs0_
  try dsimp only
  refine zQ [1,2,14,15,16,17] ?_
  refine Zg ?_
  refine Zq (t:=(decide (s0_ < (a0.Ops.length:Int)))) rfl (fun c8 => ?_) (fun c8 => ?_)
  ·replace hs0_:=Zo c8 hs0_
   refine Qp [1,2,14,15,16] [true] ?_
   refine Zg ?_
   refine Z9 ?_
   refine Zg ?_
   obtain ⟨x4,hx4,ax4,bx4,cx4,hs0_⟩:=bE (f:=Zd) Zbe (fun _=>rfl) (by decide) hs0_
   refine Zcw [] ax4 bx4 cx4 ?_
   refine zDs [1,2,6,14,15,16] [true,true] ?_
   obtain ⟨y6,hy6,hs0_⟩:=bC hs0_
   refine zCd (Gg hy6) [1,2,14,15,16,25] [true,false] ?_
   refine Zq (t:=(!y6)) rfl (fun c7 => ?_) (fun c7 => ?_)
   ·replace hs0_:=Zo c7 hs0_
    refine zQ [4] ?_
    refine zW ?_
    exact zEy hs0_
   replace hs0_:=Zn c7 hs0_
   refine Qp [1,2,14,15,16] [true,false] ?_
   refine zR ?_
   exact Gw hs0_
  replace hs0_:=Zn c8 hs0_
  exact zEx hs0_
 rcases z9 with z9 | z9
 ·dsimp only [Y6] at hw h
  refine X1 hw ?_
  try simp only [Ym,Z4,↓reduceIte,Nat.reduceEqDiff]
  exact Zgn [(vB false)]
 dsimp only [Y6] at hw h
 refine Yg hw ?_
 try simp only [Ym,Z4,↓reduceIte,Nat.reduceEqDiff]
 refine zDs [2] [true] ?_
 obtain ⟨y11,hy11,h⟩:=bC h
 refine zCd (Zwp hy11) [7,8] [false] ?_
 refine zQD [4] [none,none] ?_
 exact Yi [(vB (cond (decide (y11.1 < 1048576)) (decide (y11.2 < 1048576)) false))]
theorem Zvs {Y0:(Zc→Option Bool)} {Yu:(Zc→Int→Option Bool)} {Yb:((List Zk)→Int→Option Bool)} {Ye:(Zc→Int→Option Bool)} {Yh:(Int→Zh→Int→Option Bool)} {Z8:(Bool→Bool→Bool→Zh→Option Bool)} (Kk:Gn Y0) (Vr:Gp Yu) (Vk:Jw Yb) (Uf:Kr Ye) (Gg:Ve Yh) (Xr:Jx Z8) {a0:Int} {a1:Zh} {a2:Int} {r:Bool} {O:Objs} {n:Nat} (h:Ze2 Y0 Yu Yb Ye Yh Z8 a0 a1 a2=some r):GTo Try.prog 149 [(vI a0),.agg (Yz a1),(vI a2)] O n ((vB r)) O n:=by
 unfold Ze2 at h
 refine zFn Try.call149 Try.func149 fun hU hN0 hN => ?_
 show W _ _ _ _ ⟨60,[],[(0,(vI a0)),(1,.agg (Yz a1)),(2,(vI a2))]⟩ (Zu O n []) _
 refine zQ [0,2,4] ?_
 refine Zet ⟨60,[],[(0,(vI a0)),(2,(vI a2)),(4,.ip (Yz a1) 0)]⟩ (Zu O n [none]) (Ya hU rfl rfl ?_) ?_
 ·exact zSe
 refine zQ [0,2,4,7] ?_
 refine Zg ?_
 refine zQ [0,2,4,7,10] ?_
 refine Z9 ?_
 refine Zg ?_
 refine Z9 ?_
 obtain ⟨z1,hz1,h⟩:=bC h
 refine Z59 (J:=(Y6 (fun z1=>JN n (⟨60,[],[(0,(vI a0)),(4,.ip (Yz a1) 0),(7,.fn 158 0 [.ip (Yz a1) 0])]⟩:Env) (Zu O n [none]) (n+1)) (Y6 (fun z1=>JR n (⟨60,[],[(6,(vB z1))]⟩:Env) (Zu O n [none]) (n+1)) (Y6 (fun z1=>JX 4 n (⟨60,[],[(0,(vI a0)),(2,(vI a2)),(4,.ip (Yz a1) 0),(7,.fn 158 0 [.ip (Yz a1) 0])]⟩:Env) (Zu O n [none]) (n+1)) (fun z1=>JX 0 n (⟨60,[],[]⟩:Env) (Zu O n [none]) (n+1)))))) (z:=z1) ?_ fun hw => ?_
 ·refine Z9 ?_
  refine Z9 ?_
  refine Zg ?_
  refine Z9 ?_
  refine Zg ?_
  refine Zg ?_
  refine zQ [0,2,4,7,10,11] ?_
  refine Zq (t:=(a1.Kind == 0)) rfl (fun c7 => ?_) (fun c7 => ?_)
  ·replace hz1:=Zo c7 hz1
   refine zXt ?_
   refine zDs [4,7] [false] ?_
   refine Zg ?_
   obtain ⟨y3,hy3,hz1⟩:=bC hz1
   refine zRo [none,none,none,none,none,none] ?_
   refine zG ?_
   refine GCalls.argsW ?_ ((Xr hy3).then ?_)
   ·exact zSe
   refine zS ?_
   refine zG ?_
   refine zD [6] [false] ?_
   refine zW ?_
   exact Gw hz1
  replace hz1:=Zn c7 hz1
  refine Qp [0,2,4,7,10] [false] ?_
  refine Zg ?_
  refine zQ [0,2,4,7,10,13] ?_
  refine Zq (t:=(a1.Kind == 1)) rfl (fun c6 => ?_) (fun c6 => ?_)
  ·replace hz1:=Zo c6 hz1
   refine zXt ?_
   exact Gw hz1
  replace hz1:=Zn c6 hz1
  refine Qp [0,2,4,7,10] [false] ?_
  refine Zg ?_
  refine zQ [0,2,4,7,10,15] ?_
  refine Zq (t:=(a1.Kind == 2)) rfl (fun c5 => ?_) (fun c5 => ?_)
  ·replace hz1:=Zo c5 hz1
   refine zXt ?_
   exact Gw hz1
  replace hz1:=Zn c5 hz1
  refine Qp [0,2,4,7,10] [false] ?_
  refine zQ [0,2,4,7,17] ?_
  refine Zq (t:=(a1.Kind == 3)) rfl (fun c4 => ?_) (fun c4 => ?_)
  ·replace hz1:=Zo c4 hz1
   refine zXt ?_
   exact Gw hz1
  replace hz1:=Zn c4 hz1
  refine Qp [] [false] ?_
  refine zXt ?_
  exact Gw hz1
 rcases z1 with z1 | z1
 ·dsimp only [Y6] at hw h
  refine Yp hw ?_
  refine Zg ?_
  obtain ⟨z10,hz10,h⟩:=bC h
  refine Yp (E':=⟨60,[],[(6,(vB z10))]⟩) (O':=(Zu O n [none])) (n0:=(n+1)) ?_ ?_
  ·obtain ⟨y13,hy13,hz10⟩:=bC hz10
   rcases Bool.eq_false_or_eq_true y13 with c15 | c15
   ·replace hz10:=Zo c15 hz10
    rcases Bool.eq_false_or_eq_true (decide (0 < (a1.L.length:Int))) with c16 | c16
    ·replace hz10:=Zo c16 hz10
     try rw [c16] at c15
     obtain ⟨y14,hy14,hz10⟩:=bC hz10
     refine Jn [none,none,none,none,some true,some true,some true,some true,some true] c15 c16 ?_
     refine zG ?_
     refine GCalls.argsW ?_ ((Xr hy13).then ?_)
     ·exact Js c15 c16
     refine zX2 c15 c16 ?_
     refine zG ?_
     refine GCalls.argsW ?_ ((Zri hy14).then ?_)
     ·exact Js c15 c16
     refine zX2 c15 c16 ?_
     refine zG ?_
     exact U2 hz10 c15 c16
    replace hz10:=Zn c16 hz10
    try rw [c16] at c15
    refine Jn [none,none,none,none,some false,some false,some false,some false,some false] c15 c16 ?_
    refine zG ?_
    refine GCalls.argsW ?_ ((Xr hy13).then ?_)
    ·exact Js c15 c16
    refine zX2 c15 c16 ?_
    refine zG ?_
    exact U2 hz10 c15 c16
   replace hz10:=Zn c15 hz10
   refine Jb [none,none,none,none,some false,some false,some false,some false,some false] c15 ?_
   refine zG ?_
   refine GCalls.argsW ?_ ((Xr hy13).then ?_)
   ·exact Ych c15
   refine zX1 c15 ?_
   refine zG ?_
   exact Qm hz10 c15
  exact Yi [(vB z10)]
 rcases z1 with z1 | z1
 ·dsimp only [Y6] at hw h
  refine Zzd hw ?_
  try simp only [Ym,Z4]
  exact Zgn [(vB z1)]
 rcases z1 with z1 | z1
 ·dsimp only [Y6] at hw h
  refine Z74 hw ?_
  try simp only [Ym,Z4,↓reduceIte,Nat.reduceEqDiff]
  refine zDs [0,2,4,7] [false] ?_
  obtain ⟨z20,hz20,h⟩:=bC h
  refine Yp (E':=⟨60,[],[(6,(vB z20))]⟩) (O':=(Zu O n [none])) (n0:=(n+1)) ?_ ?_
  ·obtain ⟨y24,hy24,hz20⟩:=bC hz20
   rcases Bool.eq_false_or_eq_true y24 with c27 | c27
   ·replace hz20:=Zo c27 hz20
    obtain ⟨y25,hy25,hz20⟩:=bC hz20
    rcases Bool.eq_false_or_eq_true y25 with c28 | c28
    ·replace hz20:=Zo c28 hz20
     try rw [c28] at c27
     obtain ⟨y26,hy26,hz20⟩:=bC hz20
     refine Jn [some true,some true,some true,some true,some true,some true,some true,some true] c27 c28 ?_
     refine GCalls.argsW ?_ ((Xr hy24).then ?_)
     ·exact Js c27 c28
     refine zX2 c27 c28 ?_
     refine (Zmd hy25).then ?_
     refine zX2 c27 c28 ?_
     refine (Vr hy26).then ?_
     refine zX2 c27 c28 ?_
     exact U2 hz20 c27 c28
    replace hz20:=Zn c28 hz20
    try rw [c28] at c27
    refine Jn [some true,some true,some true,some true,some false,some false,some false,some false] c27 c28 ?_
    refine GCalls.argsW ?_ ((Xr hy24).then ?_)
    ·exact Js c27 c28
    refine zX2 c27 c28 ?_
    refine (Zmd hy25).then ?_
    refine zX2 c27 c28 ?_
    exact U2 hz20 c27 c28
   replace hz20:=Zn c27 hz20
   refine Jb [some false,some false,some false,some false,some false,some false,some false,some false] c27 ?_
   refine GCalls.argsW ?_ ((Xr hy24).then ?_)
   ·exact Ych c27
   refine zX1 c27 ?_
   exact Qm hz20 c27
  exact Yi [(vB z20)]
 dsimp only [Y6] at hw h
 refine Z74 hw ?_
 try simp only [Ym,Z4,↓reduceIte,Nat.reduceEqDiff]
 refine zD [] [false] ?_
 refine zQ [6] ?_
 exact Yi [(vB false)]
theorem Zr2 {Y0:(Zc→Option Bool)} {Yu:(Zc→Int→Option Bool)} {Yb:((List Zk)→Int→Option Bool)} {Ye:(Zc→Int→Option Bool)} {Yh:(Int→Zh→Int→Option Bool)} {Z8:(Bool→Bool→Bool→Zh→Option Bool)} (Kk:Gn Y0) (Vr:Gp Yu) (Vk:Jw Yb) (Uf:Kr Ye) (Gg:Ve Yh) (Xr:Jx Z8) {a0:Bool} {a1:Bool} {a2:Bool} {a3:Zh} {r:Bool} {O:Objs} {n:Nat} (h:Zc6 Y0 Yu Yb Ye Yh Z8 a0 a1 a2 a3=some r):GTo Try.prog 158 [(vB a0),(vB a1),(vB a2),.ip (Yz a3) 0] O n ((vB r)) O n:=by
 unfold Zc6 at h
 refine zFn Try.call158 Try.func158 fun hU hN0 hN => ?_
 show W _ _ _ _ ⟨41,[],[(0,(vB a0)),(1,(vB a1)),(2,(vB a2)),(3,.ip (Yz a3) 0)]⟩ (Zu O n []) _
 refine zQ [0,1,2,3] ?_
 obtain ⟨z5,hz5,h⟩:=bC h
 refine Yp (E':=⟨41,[],[(7,(vB z5))]⟩) (O':=(Zu O n [])) (n0:=n) ?_ ?_
 ·rcases Bool.eq_false_or_eq_true a0 with c14 | c14
  ·replace hz5:=Zo c14 hz5
   rcases Bool.eq_false_or_eq_true (a3.N != 0) with c15 | c15
   ·replace hz5:=Zo c15 hz5
    try rw [c15] at c14
    refine Jn [none,none,none,none,none,none,none,none,none,none,none,some false,some false,some false,some false,some false,some false,some false,some false,some false,some false,some false,some false,some false,some false] c14 c15 ?_
    refine zG ?_
    exact U2 hz5 c14 c15
   replace hz5:=Zn c15 hz5
   try rw [c15] at c14
   rcases Bool.eq_false_or_eq_true a1 with c16 | c16
   ·replace hz5:=Zo c16 hz5
    try rw [c16] at c14
    try rw [c16] at c15
    rcases Bool.eq_false_or_eq_true (decide (0 < (a3.L.length:Int))) with c17 | c17
    ·replace hz5:=Zo c17 hz5
     try rw [c17] at c14
     try rw [c17] at c15
     try rw [c17] at c16
     refine Zms [none,none,none,none,none,none,none,none,none,none,none,some false,some false,some false,some false,some false,some false,some false,some false,some false,some false,some false,some false,some false,some false] c14 c15 c16 c17 ?_
     refine zG ?_
     exact Zmr hz5 c14 c15 c16 c17
    replace hz5:=Zn c17 hz5
    try rw [c17] at c14
    try rw [c17] at c15
    try rw [c17] at c16
    rcases Bool.eq_false_or_eq_true a2 with c18 | c18
    ·replace hz5:=Zo c18 hz5
     try rw [c18] at c14
     try rw [c18] at c15
     try rw [c18] at c16
     try rw [c18] at c17
     rcases Bool.eq_false_or_eq_true (a3.E.Kind != 0) with c19 | c19
     ·replace hz5:=Zo c19 hz5
      try rw [c19] at c14
      try rw [c19] at c15
      try rw [c19] at c16
      try rw [c19] at c17
      try rw [c19] at c18
      refine Ybq [none,none,none,none,none,none,none,none,none,none,none,some true,some true,some true,some true,some true,some true,some true,some false,some false,some false,some false,some true,some true,some true] c14 c15 c16 c17 c18 c19 ?_
      refine zG ?_
      exact Yhj hz5 c14 c15 c16 c17 c18 c19
     replace hz5:=Zn c19 hz5
     try rw [c19] at c14
     try rw [c19] at c15
     try rw [c19] at c16
     try rw [c19] at c17
     try rw [c19] at c18
     obtain ⟨y10,hy10,hz5⟩:=bC hz5
     refine Ybq [none,none,none,none,none,none,none,none,none,none,none,some true,some true,some true,some true,some true,some true,some true,some true,some true,some true,some true,some true,some true,some true] c14 c15 c16 c17 c18 c19 ?_
     refine zG ?_
     refine (Kk hy10).then ?_
     refine zX6 c14 c15 c16 c17 c18 c19 ?_
     refine zG ?_
     exact Yhj hz5 c14 c15 c16 c17 c18 c19
    replace hz5:=Zn c18 hz5
    try rw [c18] at c14
    try rw [c18] at c15
    try rw [c18] at c16
    try rw [c18] at c17
    refine Z22 [none,none,none,none,none,none,none,none,none,none,none,some true,some true,some false,some false,some false,some false,some false,some false,some false,some false,some false,some false,some true,some true] c14 c15 c16 c17 c18 ?_
    refine zG ?_
    exact Zwk hz5 c14 c15 c16 c17 c18
   replace hz5:=Zn c16 hz5
   try rw [c16] at c14
   try rw [c16] at c15
   rcases Bool.eq_false_or_eq_true a2 with c20 | c20
   ·replace hz5:=Zo c20 hz5
    try rw [c20] at c14
    try rw [c20] at c15
    try rw [c20] at c16
    rcases Bool.eq_false_or_eq_true (a3.E.Kind != 0) with c21 | c21
    ·replace hz5:=Zo c21 hz5
     try rw [c21] at c14
     try rw [c21] at c15
     try rw [c21] at c16
     try rw [c21] at c20
     refine Z22 [none,none,none,none,none,none,none,none,none,none,none,some true,some true,some true,some true,some true,some true,some true,some false,some false,some false,some false,some true,some true,some true] c14 c15 c16 c20 c21 ?_
     refine zG ?_
     exact Zwk hz5 c14 c15 c16 c20 c21
    replace hz5:=Zn c21 hz5
    try rw [c21] at c14
    try rw [c21] at c15
    try rw [c21] at c16
    try rw [c21] at c20
    obtain ⟨y11,hy11,hz5⟩:=bC hz5
    refine Z22 [none,none,none,none,none,none,none,none,none,none,none,some true,some true,some true,some true,some true,some true,some true,some true,some true,some true,some true,some true,some true,some true] c14 c15 c16 c20 c21 ?_
    refine zG ?_
    refine (Kk hy11).then ?_
    refine zX5 c14 c15 c16 c20 c21 ?_
    refine zG ?_
    exact Zwk hz5 c14 c15 c16 c20 c21
   replace hz5:=Zn c20 hz5
   try rw [c20] at c14
   try rw [c20] at c15
   try rw [c20] at c16
   refine Zms [none,none,none,none,none,none,none,none,none,none,none,some true,some true,some false,some false,some false,some false,some false,some false,some false,some false,some false,some false,some true,some true] c14 c15 c16 c20 ?_
   refine zG ?_
   exact Zmr hz5 c14 c15 c16 c20
  replace hz5:=Zn c14 hz5
  rcases Bool.eq_false_or_eq_true a1 with c22 | c22
  ·replace hz5:=Zo c22 hz5
   try rw [c22] at c14
   rcases Bool.eq_false_or_eq_true (decide (0 < (a3.L.length:Int))) with c23 | c23
   ·replace hz5:=Zo c23 hz5
    try rw [c23] at c14
    try rw [c23] at c22
    refine Zbf [none,none,none,none,none,none,none,none,none,none,none,some false,some false,some false,some false,some false,some false,some false,some false,some false,some false,some false,some false,some false,some false] c14 c22 c23 ?_
    refine zG ?_
    exact Zej hz5 c14 c22 c23
   replace hz5:=Zn c23 hz5
   try rw [c23] at c14
   try rw [c23] at c22
   rcases Bool.eq_false_or_eq_true a2 with c24 | c24
   ·replace hz5:=Zo c24 hz5
    try rw [c24] at c14
    try rw [c24] at c22
    try rw [c24] at c23
    rcases Bool.eq_false_or_eq_true (a3.E.Kind != 0) with c25 | c25
    ·replace hz5:=Zo c25 hz5
     try rw [c25] at c14
     try rw [c25] at c22
     try rw [c25] at c23
     try rw [c25] at c24
     refine Z22 [none,none,none,none,none,none,none,none,none,none,none,some true,some true,some true,some true,some true,some true,some true,some false,some false,some false,some false,some true,some true,some true] c14 c22 c23 c24 c25 ?_
     refine zG ?_
     exact Zwk hz5 c14 c22 c23 c24 c25
    replace hz5:=Zn c25 hz5
    try rw [c25] at c14
    try rw [c25] at c22
    try rw [c25] at c23
    try rw [c25] at c24
    obtain ⟨y12,hy12,hz5⟩:=bC hz5
    refine Z22 [none,none,none,none,none,none,none,none,none,none,none,some true,some true,some true,some true,some true,some true,some true,some true,some true,some true,some true,some true,some true,some true] c14 c22 c23 c24 c25 ?_
    refine zG ?_
    refine (Kk hy12).then ?_
    refine zX5 c14 c22 c23 c24 c25 ?_
    refine zG ?_
    exact Zwk hz5 c14 c22 c23 c24 c25
   replace hz5:=Zn c24 hz5
   try rw [c24] at c14
   try rw [c24] at c22
   try rw [c24] at c23
   refine Zms [none,none,none,none,none,none,none,none,none,none,none,some true,some true,some false,some false,some false,some false,some false,some false,some false,some false,some false,some false,some true,some true] c14 c22 c23 c24 ?_
   refine zG ?_
   exact Zmr hz5 c14 c22 c23 c24
  replace hz5:=Zn c22 hz5
  try rw [c22] at c14
  rcases Bool.eq_false_or_eq_true a2 with c26 | c26
  ·replace hz5:=Zo c26 hz5
   try rw [c26] at c14
   try rw [c26] at c22
   rcases Bool.eq_false_or_eq_true (a3.E.Kind != 0) with c27 | c27
   ·replace hz5:=Zo c27 hz5
    try rw [c27] at c14
    try rw [c27] at c22
    try rw [c27] at c26
    refine Zms [none,none,none,none,none,none,none,none,none,none,none,some true,some true,some true,some true,some true,some true,some true,some false,some false,some false,some false,some true,some true,some true] c14 c22 c26 c27 ?_
    refine zG ?_
    exact Zmr hz5 c14 c22 c26 c27
   replace hz5:=Zn c27 hz5
   try rw [c27] at c14
   try rw [c27] at c22
   try rw [c27] at c26
   obtain ⟨y13,hy13,hz5⟩:=bC hz5
   refine Zms [none,none,none,none,none,none,none,none,none,none,none,some true,some true,some true,some true,some true,some true,some true,some true,some true,some true,some true,some true,some true,some true] c14 c22 c26 c27 ?_
   refine zG ?_
   refine (Kk hy13).then ?_
   refine zX4 c14 c22 c26 c27 ?_
   refine zG ?_
   exact Zmr hz5 c14 c22 c26 c27
  replace hz5:=Zn c26 hz5
  try rw [c26] at c14
  try rw [c26] at c22
  refine Zbf [none,none,none,none,none,none,none,none,none,none,none,some true,some true,some false,some false,some false,some false,some false,some false,some false,some false,some false,some false,some true,some true] c14 c22 c26 ?_
  refine zG ?_
  exact Zej hz5 c14 c22 c26
 exact Yi [(vB z5)]
theorem Zvm:∀ k,(Gn ((Zp k).1))∧(Gp ((Zp k).2.1))∧(Jw ((Zp k).2.2.1))∧(Kr ((Zp k).2.2.2.1))∧(Ve ((Zp k).2.2.2.2.1))∧(Jx ((Zp k).2.2.2.2.2)):=fun k=>by
 induction k with
 | zero=>exact ⟨@fun a0 r O n h=>(nomatch (show (none:Option _)=some _ from h)),@fun a0 a1 r O n h=>(nomatch (show (none:Option _)=some _ from h)),@fun a0 a1 r O n h=>(nomatch (show (none:Option _)=some _ from h)),@fun a0 a1 r O n h=>(nomatch (show (none:Option _)=some _ from h)),@fun a0 a1 a2 r O n h=>(nomatch (show (none:Option _)=some _ from h)),@fun a0 a1 a2 a3 r O n h=>(nomatch (show (none:Option _)=some _ from h))⟩
 | succ k ih=>exact ⟨@fun a0 r O n h=>Z0o (ih.1) (ih.2.1) (ih.2.2.1) (ih.2.2.2.1) (ih.2.2.2.2.1) (ih.2.2.2.2.2)  h,@fun a0 a1 r O n h=>Z0p (ih.1) (ih.2.1) (ih.2.2.1) (ih.2.2.2.1) (ih.2.2.2.2.1) (ih.2.2.2.2.2)  h,@fun a0 a1 r O n h=>Zr1 (ih.1) (ih.2.1) (ih.2.2.1) (ih.2.2.2.1) (ih.2.2.2.2.1) (ih.2.2.2.2.2)  h,@fun a0 a1 r O n h=>Zte (ih.1) (ih.2.1) (ih.2.2.1) (ih.2.2.2.1) (ih.2.2.2.2.1) (ih.2.2.2.2.2)  h,@fun a0 a1 a2 r O n h=>Zvs (ih.1) (ih.2.1) (ih.2.2.1) (ih.2.2.2.1) (ih.2.2.2.2.1) (ih.2.2.2.2.2)  h,@fun a0 a1 a2 a3 r O n h=>Zr2 (ih.1) (ih.2.1) (ih.2.2.1) (ih.2.2.2.1) (ih.2.2.2.2.1) (ih.2.2.2.2.2)  h⟩
theorem Z1w {a0:Zc} {r:Bool} {O:Objs} {n:Nat} (h:Zni a0=some r):GTo Try.prog 53 [.agg (Ze a0)] O n ((vB r)) O n:=by
 obtain ⟨k,hk⟩:=V0 h
 exact (Zvm k).1  hk
theorem Zrh {a0:Zb} {a1:(List Zx)} {a2:Zc} {r:(Zc×Bool)} {O:Objs} {n:Nat} (h:Zb4 a0 a1 a2=some r):GTo Try.prog 21 [.agg (Zf a0),(sL Zr a1),.agg (Ze a2)] O n (.tup [.agg (Ze r.1),(vB r.2)]) O n:=by
 unfold Zb4 at h
 refine zFn Try.call21 Try.func21 fun hU hN0 hN => ?_
 show W _ _ _ _ ⟨27,[],[(0,.agg (Zf a0)),(1,(sL Zr a1)),(2,.agg (Ze a2))]⟩ (Zu O n []) _
 refine zQ [1,3,5,6] ?_
 refine Zg ?_
 obtain ⟨y2,hy2,h⟩:=bC h
 refine zCd (Zvr hy2) [6,8,9] [false,false,true,true] ?_
 refine Zg ?_
 refine zQ [6,8,18] ?_
 refine Zq (t:=(!y2.2)) rfl (fun c8 => ?_) (fun c8 => ?_)
 ·replace h:=Zo c8 h
  refine Zg ?_
  refine zRd [6,7] [false,false,true,false] ?_
  exact Yi [.agg [(vI 0),(vI 0),nV,nV,(vI 0),nV,nV,nV,nV,(vI 0),nV],(vB false)]
 replace h:=Zn c8 h
 refine Qp [6,8] [false,false,true,true] ?_
 refine Zg ?_
 obtain ⟨y4,hy4,h⟩:=bC h
 refine zCd (Zpe hy4) [6,8] [false,false,true,true] ?_
 refine Zg ?_
 refine Zg ?_
 obtain ⟨y6,hy6,h⟩:=bC h
 refine zCd (Z1w hy6) [6,8,24] [false,false,true,true] ?_
 refine Zq (t:=(!y6)) rfl (fun c7 => ?_) (fun c7 => ?_)
 ·replace h:=Zo c7 h
  refine Zg ?_
  refine zRd [6,7] [false,false,true,false] ?_
  exact Yi [.agg [(vI 0),(vI 0),nV,nV,(vI 0),nV,nV,nV,nV,(vI 0),nV],(vB false)]
 replace h:=Zn c7 h
 refine Qp [6,8] [false,false,true,true] ?_
 refine Zg ?_
 refine zRd [6,7] [false,false,true,false] ?_
 exact Yi [.agg (Ze y4),(vB true)]
theorem Zq9 {a0:Zk} {a1:Zx} {r:Bool} {O:Objs} {n:Nat} (h:Zdu a0 a1=some r):GTo Try.prog 88 [.agg (Vp a0),.ip [(vI a1.Kind),(vI a1.At)] 0] O n ((vB r)) O n:=by
 unfold Zdu at h
 refine zFn Try.call88 Try.func88 fun hU hN0 hN => ?_
 show W _ _ _ _ ⟨9,[],[(0,.agg (Vp a0)),(1,.ip [(vI a1.Kind),(vI a1.At)] 0)]⟩ (Zu O n []) _
 refine zQ [1,2] ?_
 refine zQ [3] ?_
 exact Yi [(vB (a0.At == a1.At))]
theorem Zay {a0:(List Zk)} {a1_0:Zx} {r:Int} {O:Objs} {n:Nat} (h:Y8 a0 a1_0=some r):GTo Try.prog 87 [(sL Zi a0),.fn 88 0 [.ip [(vI a1_0.Kind),(vI a1_0.At)] 0]] O n ((vI r)) O n:=by
 unfold Y8 at h
 refine zFn Try.call87 Try.func87 fun hU hN0 hN => ?_
 show W _ _ _ _ ⟨19,[],[(0,(sL Zi a0)),(1,.fn 88 0 [.ip [(vI a1_0.Kind),(vI a1_0.At)] 0])]⟩ (Zu O n []) _
 refine zQ [0,1] ?_
 refine Zg ?_
 refine zQd [0,1,7,8] [0,1,7,8] [] ?_
 obtain ⟨z7,hz7,h⟩:=bC h
 refine K3 (J:=(Y6 (fun z7=>JR n (⟨19,[],[(4,(vI z7))]⟩:Env) (Zu O n []) n) (fun z7=>JX 0 n (⟨19,[],[]⟩:Env) (Zu O n []) n))) (z:=z7) ?_ fun hw => ?_
 ·refine Y2 hz7 (fun s0_=>⟨19,[],[(0,(sL Zi a0)),(1,.fn 88 0 [.ip [(vI a1_0.Kind),(vI a1_0.At)] 0]),(7,(vI (a0.length:Int))),(8,(vI s0_))]⟩) (fun s0_=>(Zu O n [])) (Y6 (fun z7=>JR n (⟨19,[],[(4,(vI z7))]⟩:Env) (Zu O n []) n) (fun z7=>JX 0 n (⟨19,[],[]⟩:Env) (Zu O n []) n)) ?_
  intro s0_ x0_ hs0_
  unfold Yf at hs0_
  try dsimp only
  refine zQ [0,1,7,8,9] ?_
  refine Zg ?_
  refine Zq (t:=(decide (s0_ < (a0.length:Int)))) rfl (fun c6 => ?_) (fun c6 => ?_)
  ·replace hs0_:=Zo c6 hs0_
   refine Qp [0,1,7,8] [] ?_
   refine Zg ?_
   refine Z9 ?_
   refine zQ [0,1,5,7,8] ?_
   refine Zg ?_
   obtain ⟨x3,hx3,ax3,bx3,cx3,hs0_⟩:=bE (f:=Zi) Zkq (fun _=>rfl) (by decide) hs0_
   obtain ⟨y4,hy4,hs0_⟩:=bC hs0_
   refine Zcw [] ax3 bx3 cx3 ?_
   refine GCalls.argsW ?_ ((Zq9 hy4).then ?_)
   ·exact Ykc ax3 bx3 cx3
   refine zF3 ax3 bx3 cx3 ?_
   refine zD [0,1,5,7,8,16] [] ?_
   refine Zq (t:=y4) rfl (fun c5 => ?_) (fun c5 => ?_)
   ·replace hs0_:=Zo c5 hs0_
    refine zQ [4] ?_
    refine zW ?_
    exact zEy hs0_
   replace hs0_:=Zn c5 hs0_
   refine Qp [0,1,7,8] [] ?_
   refine zR ?_
   exact Gw hs0_
  replace hs0_:=Zn c6 hs0_
  exact zEx hs0_
 rcases z7 with z7 | z7
 ·dsimp only [Y6] at hw h
  refine X1 hw ?_
  try simp only [Ym,Z4,↓reduceIte,Nat.reduceEqDiff]
  exact Zgn [(vI z7)]
 dsimp only [Y6] at hw h
 refine Yg hw ?_
 try simp only [Ym,Z4,↓reduceIte,Nat.reduceEqDiff]
 refine zD [] [] ?_
 refine zQ [4] ?_
 exact Yi [(vI (-1))]
theorem Zwq {a0:(List Zh)} {a1:Int} {r:(Zc×Int×Bool)} {O:Objs} {n:Nat} (h:Zfd a0 a1=some r):GTo Try.prog 89 [(sL Zd a0),(vI a1)] O n (.tup [.agg (Ze r.1),(vI r.2.1),(vB r.2.2)]) O n:=by
 unfold Zfd at h
 refine zFn Try.call89 Try.func89 fun hU hN0 hN => ?_
 show W _ _ _ _ ⟨59,[],[(0,(sL Zd a0)),(1,(vI a1))]⟩ (Zu O n []) _
 refine zQ [0,1,4] ?_
 refine zQ [0,1,4,7,8] ?_
 refine Zg ?_
 refine zQd [1,4,7,8,12,13,14] [1,4,7,8,12,13,14] [true] ?_
 obtain ⟨z9,hz9,h⟩:=bC h
 refine K3 (J:=(Y6 (fun z9=>JR n (⟨59,[],[(4,.ref n 0),(5,(vI z9.1)),(6,(vB z9.2.1))]⟩:Env) (Zu O n [some ⟨false,30,11,1,[(vI z9.2.2.1),(vI z9.2.2.2.1),(sL (eI .u64) z9.2.2.2.2.1),(sL Za z9.2.2.2.2.2.1),(vI z9.2.2.2.2.2.2.1),(sL (eI .u64) z9.2.2.2.2.2.2.2.1),(sL Za z9.2.2.2.2.2.2.2.2.1),(sL Zl z9.2.2.2.2.2.2.2.2.2.1),(sL Zi z9.2.2.2.2.2.2.2.2.2.2.1),(vI z9.2.2.2.2.2.2.2.2.2.2.2.1),(sL Zd z9.2.2.2.2.2.2.2.2.2.2.2.2)]⟩]) (n+1)) (fun z9=>JX 0 n (⟨59,[],[(4,.ref n 0)]⟩:Env) (Zu O n [some ⟨false,30,11,1,[(vI 0),(vI 0),nV,nV,(vI 0),nV,nV,nV,nV,(vI 0),nV]⟩]) (n+1)))) (z:=z9) ?_ fun hw => ?_
 ·refine Y2 hz9 (fun s0_=>⟨59,[],[(1,(vI a1)),(4,.ref n 0),(7,(vI s0_.1)),(8,(vI s0_.2.1)),(12,(sL Zd a0)),(13,(vI (a0.length:Int))),(14,(vI s0_.2.2))]⟩) (fun s0_=>(Zu O n [some ⟨false,30,11,1,[(vI 0),(vI 0),nV,nV,(vI 0),nV,nV,nV,nV,(vI 0),nV]⟩])) (Y6 (fun z9=>JR n (⟨59,[],[(4,.ref n 0),(5,(vI z9.1)),(6,(vB z9.2.1))]⟩:Env) (Zu O n [some ⟨false,30,11,1,[(vI z9.2.2.1),(vI z9.2.2.2.1),(sL (eI .u64) z9.2.2.2.2.1),(sL Za z9.2.2.2.2.2.1),(vI z9.2.2.2.2.2.2.1),(sL (eI .u64) z9.2.2.2.2.2.2.2.1),(sL Za z9.2.2.2.2.2.2.2.2.1),(sL Zl z9.2.2.2.2.2.2.2.2.2.1),(sL Zi z9.2.2.2.2.2.2.2.2.2.2.1),(vI z9.2.2.2.2.2.2.2.2.2.2.2.1),(sL Zd z9.2.2.2.2.2.2.2.2.2.2.2.2)]⟩]) (n+1)) (fun z9=>JX 0 n (⟨59,[],[(4,.ref n 0)]⟩:Env) (Zu O n [some ⟨false,30,11,1,[(vI 0),(vI 0),nV,nV,(vI 0),nV,nV,nV,nV,(vI 0),nV]⟩]) (n+1))) ?_
  intro s0_ x0_ hs0_
  unfold Gf at hs0_
  try dsimp only
  refine zQ [1,4,7,8,12,13,14,15] ?_
  refine Zg ?_
  refine Zq (t:=(decide (s0_.2.2 < (a0.length:Int)))) rfl (fun c8 => ?_) (fun c8 => ?_)
  ·replace hs0_:=Zo c8 hs0_
   refine Qp [1,4,7,8,12,13,14] [true] ?_
   obtain ⟨z1,hz1,hs0_⟩:=bC hs0_
   refine Z59 (J:=(Y6 (fun z1=>JN n (⟨59,[],[(1,(vI a1)),(4,.ref n 0),(7,(vI z1.1)),(8,(vI z1.2)),(12,(sL Zd a0)),(13,(vI (a0.length:Int))),(14,(vI s0_.2.2))]⟩:Env) (Zu O n [some ⟨false,30,11,1,[(vI 0),(vI 0),nV,nV,(vI 0),nV,nV,nV,nV,(vI 0),nV]⟩,none]) (n+2)) (fun z1=>JR n (⟨59,[],[(4,.ref n 0),(5,(vI (IntKind.i64.wrap ((IntKind.i64.wrap (s0_.2.1+a1)) - s0_.1)))),(6,(vB z1.1))]⟩:Env) (Zu O n [some ⟨false,30,11,1,[(vI z1.2.1),(vI z1.2.2.1),(sL (eI .u64) z1.2.2.2.1),(sL Za z1.2.2.2.2.1),(vI z1.2.2.2.2.2.1),(sL (eI .u64) z1.2.2.2.2.2.2.1),(sL Za z1.2.2.2.2.2.2.2.1),(sL Zl z1.2.2.2.2.2.2.2.2.1),(sL Zi z1.2.2.2.2.2.2.2.2.2.1),(vI z1.2.2.2.2.2.2.2.2.2.2.1),(sL Zd z1.2.2.2.2.2.2.2.2.2.2.2)]⟩]) (n+1)))) (z:=z1) ?_ fun hw => ?_
   ·refine Z9 ?_
    refine Zg ?_
    obtain ⟨x3,hx3,ax3,bx3,cx3,hz1⟩:=bE (f:=Zd) Zbe (fun _=>rfl) (by decide) hz1
    refine Zcw [] ax3 bx3 cx3 ?_
    refine zD [1,4,7,8,10,12,13,14] [true,true] ?_
    refine zQ [1,4,7,8,10,11,12,13,14] ?_
    obtain ⟨z4,hz4,hz1⟩:=bC hz1
    refine Z59 (J:=(Y6 (fun z4=>JN n (⟨59,[],[(1,(vI a1)),(4,.ref n 0),(7,(vI s0_.1)),(8,(vI z4)),(11,(vI (if (if 1 < x3.N then x3.N else 1) < (x3.L.length:Int) then (x3.L.length:Int) else (if 1 < x3.N then x3.N else 1)))),(12,(sL Zd a0)),(13,(vI (a0.length:Int))),(14,(vI s0_.2.2))]⟩:Env) (Zu O n [some ⟨false,30,11,1,[(vI 0),(vI 0),nV,nV,(vI 0),nV,nV,nV,nV,(vI 0),nV]⟩,none]) (n+2)) (Y6 (fun z4=>JX 1 n (⟨59,[],[(1,(vI a1)),(4,.ref n 0),(7,(vI s0_.1)),(8,(vI (IntKind.i64.wrap (s0_.2.1+(if (if 1 < x3.N then x3.N else 1) < (x3.L.length:Int) then (x3.L.length:Int) else (if 1 < x3.N then x3.N else 1)))))),(12,(sL Zd a0)),(13,(vI (a0.length:Int))),(14,(vI s0_.2.2))]⟩:Env) (Zu O n [some ⟨false,30,11,1,[(vI 0),(vI 0),nV,nV,(vI 0),nV,nV,nV,nV,(vI 0),nV]⟩,none]) (n+2)) (fun z4=>JR n (⟨59,[],[(4,.ref n 0),(5,(vI (IntKind.i64.wrap ((IntKind.i64.wrap (s0_.2.1+a1)) - s0_.1)))),(6,(vB (x3.Kind != 1)))]⟩:Env) (Zu O n [some ⟨false,30,11,1,(Ze x3.E)⟩,none]) (n+2))))) (z:=z4) ?_ fun hw => ?_
    ·refine Z9 ?_
     refine zQ [1,4,7,8,10,11,12,13,14,24] ?_
     refine Zq (t:=(x3.Kind == 2)) rfl (fun c7 => ?_) (fun c7 => ?_)
     ·replace hz4:=Zo c7 hz4
      refine zQ [1,4,7,8,12,13,14] ?_
      refine zXt ?_
      exact Gw hz4
     replace hz4:=Zn c7 hz4
     refine zQ [1,4,7,8,10,11,12,13,14,31] ?_
     refine Zq (t:=(decide (a1 < (IntKind.i64.wrap (s0_.1+(if (if 1 < x3.N then x3.N else 1) < (x3.L.length:Int) then (x3.L.length:Int) else (if 1 < x3.N then x3.N else 1))))))) rfl (fun c6 => ?_) (fun c6 => ?_)
     ·replace hz4:=Zo c6 hz4
      refine Zg ?_
      refine Vt Zz (by kernel_rfl) [.plain,.plain,.plain,.plain,.low,.plain,.low,.low,.low,.low,.pass,.plain,.plain] (fun i=>i≠n+0) [0,1,2,3,4,5,6,7,8,9,10,11,12] [.plain,.plain,.plain,.plain,.low,.plain,.low,.low,.low,.low,.pass,.plain,.plain] [] (by kernel_rfl) rfl ?_
      refine zS ?_
      refine zO ?_
      refine zD [4,5,6] [true,false] ?_
      refine zW ?_
      exact Gw hz4
     replace hz4:=Zn c6 hz4
     refine zQ [1,4,7,8,11,12,13,14,47] ?_
     refine Zq (t:=(x3.Kind != 1)) rfl (fun c5 => ?_) (fun c5 => ?_)
     ·replace hz4:=Zo c5 hz4
      refine zR ?_
      exact Gw hz4
     replace hz4:=Zn c5 hz4
     refine zK ?_
     exact Gw hz4
    rcases z4 with z4 | z4
    ·dsimp only [Y6] at hw hz1
     refine Yp hw ?_
     refine zR ?_
     exact Gw hz1
    rcases z4 with z4 | z4
    ·dsimp only [Y6] at hw hz1
     refine Z74 hw ?_
     try simp only [Ym,Z4,↓reduceIte,Nat.reduceEqDiff]
     exact Gw hz1
    dsimp only [Y6] at hw hz1
    refine Zzd hw ?_
    try simp only [Ym,Z4]
    exact Gw hz1
   rcases z1 with z1 | z1
   ·dsimp only [Y6] at hw hs0_
    refine Yp hw ?_
    refine zR ?_
    exact Gw hs0_
   dsimp only [Y6] at hw hs0_
   refine Zzd hw ?_
   try simp only [Ym,Z4]
   exact zEy hs0_
  replace hs0_:=Zn c8 hs0_
  exact zEx hs0_
 rcases z9 with z9 | z9
 ·dsimp only [Y6] at hw h
  refine X1 hw ?_
  try simp only [Ym,Z4,↓reduceIte,Nat.reduceEqDiff]
  exact Zgn [.agg [(vI z9.2.2.1),(vI z9.2.2.2.1),(sL (eI .u64) z9.2.2.2.2.1),(sL Za z9.2.2.2.2.2.1),(vI z9.2.2.2.2.2.2.1),(sL (eI .u64) z9.2.2.2.2.2.2.2.1),(sL Za z9.2.2.2.2.2.2.2.2.1),(sL Zl z9.2.2.2.2.2.2.2.2.2.1),(sL Zi z9.2.2.2.2.2.2.2.2.2.2.1),(vI z9.2.2.2.2.2.2.2.2.2.2.2.1),(sL Zd z9.2.2.2.2.2.2.2.2.2.2.2.2)],(vI z9.1),(vB z9.2.1)]
 dsimp only [Y6] at hw h
 refine Yg hw ?_
 try simp only [Ym,Z4,↓reduceIte,Nat.reduceEqDiff]
 refine zDs [4] [true] ?_
 refine zRd [4,5,6] [true] ?_
 exact Yi [.agg [(vI 0),(vI 0),nV,nV,(vI 0),nV,nV,nV,nV,(vI 0),nV],(vI 0),(vB false)]
attribute [local push_cast] Try.results100 Try.results101 Try.results102 Try.results103 Try.results105 Try.results106 Try.results107 Try.results20 Try.results23 Try.results55 Try.results70 Try.results98 Try.results99
theorem Ztc {a0:Zc} {a1:Zx} {r:(Zc×Int×Bool)} {O:Objs} {n:Nat} (h:Zde a0 a1=some r):GTo Try.prog 55 [.agg (Ze a0),.agg [(vI a1.Kind),(vI a1.At)]] O n (.tup [.agg (Ze r.1),(vI r.2.1),(vB r.2.2)]) O n:=by
 unfold Zde at h
 refine zFn Try.call55 Try.func55 fun hU hN0 hN => ?_
 show W _ _ _ _ ⟨54,[],[(0,.agg (Ze a0)),(1,.agg [(vI a1.Kind),(vI a1.At)])]⟩ (Zu O n []) _
 refine zQ [2,3,4] ?_
 refine Zg ?_
 refine zQD [2,3,4,15] [none,none,none] ?_
 refine Zq (t:=(cond (a1.Kind != 0) true (decide (a1.At < 0)))) rfl (fun c13 => ?_) (fun c13 => ?_)
 ·replace h:=Zo c13 h
  refine Zg ?_
  refine zRd [4,5,6] [false,false,true] ?_
  exact Yi [.agg [(vI 0),(vI 0),nV,nV,(vI 0),nV,nV,nV,nV,(vI 0),nV],(vI 0),(vB false)]
 replace h:=Zn c13 h
 refine Qp [2,3,4] [true,true,true] ?_
 refine Zg ?_
 refine zQ [2,3,4,18] ?_
 refine Z9 ?_
 refine zQ [2,3,4,18,19] ?_
 refine Zq (t:=(a0.Kind == 0)) rfl (fun c12 => ?_) (fun c12 => ?_)
 ·replace h:=Zo c12 h
  refine Zg ?_
  refine Vt Zz (by kernel_rfl) [.plain,.low,.low,.pass,.plain,.plain] (fun i=>i≠n+2) [0,1,2,3,4,5] [.plain,.low,.low,.pass,.plain,.plain] [] (by kernel_rfl) rfl ?_
  refine zS ?_
  refine zO ?_
  refine zD [4,5,6] [false,false,true] ?_
  exact Yi [.agg [(vI 0),(vI 0),nV,nV,(vI 0),nV,nV,nV,nV,(vI 0),nV],(vI a1.At),(vB true)]
 replace h:=Zn c12 h
 refine zQ [2,3,4,18,24] ?_
 refine Zq (t:=(a0.Kind == 2)) rfl (fun c11 => ?_) (fun c11 => ?_)
 ·replace h:=Zo c11 h
  refine Zet ⟨54,[],[(2,.ref n 0),(3,.ip [(vI a1.Kind),(vI a1.At)] 0),(4,.ref (n+2) 0)]⟩ (Zu O n [some ⟨false,30,11,1,(Ze a0)⟩,none,some ⟨false,30,11,1,[(vI 0),(vI 0),nV,nV,(vI 0),nV,nV,nV,nV,(vI 0),nV]⟩]) (Ya hU rfl rfl ?_) ?_
  ·exact zSe
  refine Zg ?_
  obtain ⟨y2,hy2,h⟩:=bC h
  refine zR ?_
  refine GCalls.argsW ?_ ((Zay hy2).then ?_)
  ·exact zSe
  refine zS ?_
  refine zDs [2,3,4,7] [true,false,true] ?_
  refine zQ [2,3,4,7,31] ?_
  refine Zq (t:=(decide (y2 < 0))) rfl (fun c7 => ?_) (fun c7 => ?_)
  ·replace h:=Zo c7 h
   refine Zg ?_
   refine Vt Zz (by kernel_rfl) [.plain,.low,.low,.pass,.plain,.plain] (fun i=>i≠n+2) [0,1,2,3,4,5] [.plain,.low,.low,.pass,.plain,.plain] [] (by kernel_rfl) rfl ?_
   refine zS ?_
   refine zO ?_
   refine zD [4,5,6] [false,false,true] ?_
   exact Yi [.agg [(vI 0),(vI 0),nV,nV,(vI 0),nV,nV,nV,nV,(vI 0),nV],(vI a1.At),(vB true)]
  replace h:=Zn c7 h
  refine Qp [2,3,4,7] [true,false,true] ?_
  refine Zg ?_
  obtain ⟨x5,hx5,ax5,bx5,cx5,h⟩:=bE (f:=Zi) Zkq (fun _=>rfl) (by decide) h
  have g6:=Ks (f:=Zi) (off:=1) (sz:=12) Zmq (fun _=>rfl) (by decide) (by decide) hx5
  refine Vt Zz (by kernel_rfl) [.plain,.plain,.plain,.plain,.plain,.plain,.low,.low,.pass,.plain,.plain] (fun i=>i≠n+2) [0,1,2,3,4,5,6,7,8,9,10] [.plain,.plain,.plain,.plain,.plain,.plain,.low,.low,.pass,.plain,.plain] [] (by kernel_rfl) rfl ?_
  refine zF4 ax5 bx5 cx5 g6 ?_
  refine zO ?_
  refine zD [4,5,6] [false,false,true] ?_
  exact Yi [.agg (Ze x5.E),(vI a1.At),(vB true)]
 replace h:=Zn c11 h
 refine zQ [2,3,4,43] ?_
 refine Zq (t:=(a0.Kind == 3)) rfl (fun c10 => ?_) (fun c10 => ?_)
 ·replace h:=Zo c10 h
  refine Zg ?_
  obtain ⟨y9,hy9,h⟩:=bC h
  refine zCd (Zwq hy9) [4,5,6] [false,false,true] ?_
  exact Yi [.agg (Ze y9.1),(vI y9.2.1),(vB y9.2.2)]
 replace h:=Zn c10 h
 refine Qp [4] [false,false,true] ?_
 refine Zg ?_
 refine zRd [4,5,6] [false,false,true] ?_
 exact Yi [.agg [(vI 0),(vI 0),nV,nV,(vI 0),nV,nV,nV,nV,(vI 0),nV],(vI 0),(vB false)]
theorem Zok {a0:Zc} {a1:(List Zx)} {r:(Zc×(List Zx)×Bool)} {O:Objs} {n:Nat} (h:Ux a0 a1=some r):GTo Try.prog 23 [.agg (Ze a0),(sL Zr a1)] O n (.tup [.agg (Ze r.1),(sL Zr r.2.1),(vB r.2.2)]) O n:=by
 unfold Ux at h
 refine zFn Try.call23 Try.func23 fun hU hN0 hN => ?_
 show W _ _ _ _ ⟨39,[],[(0,.agg (Ze a0)),(1,(sL Zr a1))]⟩ (Zu O n []) _
 refine zQ [1,2,4] ?_
 refine zQ [1,2,4,7] ?_
 refine Zg ?_
 refine zQd [2,4,7,13,14,15] [2,4,7,13,14,15] [true,true] ?_
 refine Jt (E':=(⟨39,[],[(2,.ref n 0),(4,.ref (n+1) 0),(7,.row (n+2) ([]:List Zx).length),(13,(sL Zr a1)),(14,(vI (a1.length:Int))),(15,(vI 0))]⟩:Env)) (O':=(Zu O n [some ⟨false,30,11,1,(Ze a0)⟩,some ⟨false,30,11,1,[(vI 0),(vI 0),nV,nV,(vI 0),nV,nV,nV,nV,(vI 0),nV]⟩,some (oR 54 2 Zr ([]:List Zx)),none])) (n':=(n+4)) ?_ ?_
 ·refine Fit2.trans (E':=(⟨39,[],[(2,.ref n 0),(4,.ref (n+1) 0),(7,nV),(13,(sL Zr a1)),(14,(vI (a1.length:Int))),(15,(vI 0))]⟩:Env)) (O':=(Zu O n [some ⟨false,30,11,1,(Ze a0)⟩,some ⟨false,30,11,1,[(vI 0),(vI 0),nV,nV,(vI 0),nV,nV,nV,nV,(vI 0),nV]⟩])) (n':=(n+2)) (Fit2.of (Ya hU rfl rfl ?_) (by omega)) ?_
  ·exact zSe
  refine Fit2.trans (Zg8 7 54 2 rfl (by omega)) ?_
  simp only [Xd,Yv,U3,K8,List.set_cons_zero,List.set_cons_succ,List.cons_append,List.nil_append,List.length_cons,List.length_nil,Nat.zero_add,Nat.reduceAdd,Nat.reduceLT,Nat.add_assoc]
  refine Fit2.trans (E':=(⟨39,[],[(2,.ref n 0),(4,.ref (n+1) 0),(7,.row (n+2) ([]:List Zx).length),(13,(sL Zr a1)),(14,(vI (a1.length:Int))),(15,(vI 0))]⟩:Env)) (O':=(Zu O n [some ⟨false,30,11,1,(Ze a0)⟩,some ⟨false,30,11,1,[(vI 0),(vI 0),nV,nV,(vI 0),nV,nV,nV,nV,(vI 0),nV]⟩,some (oR 54 2 Zr ([]:List Zx))])) (n':=(n+3)) (Fit2.of (Ya hU rfl rfl ?_) (by omega)) ?_
  ·exact zSe
  refine Ja (k:=3) (k':=4) hU [0,1,2] [0,1,2,0] rfl rfl rfl rfl ⟨rfl,rfl⟩ ?_
  exact zSe
 obtain ⟨z8,hz8,h⟩:=bC h
 refine K3 (J:=(Y6 (fun z8=>JR n (⟨39,[],[(4,.ref (n+1) 0),(5,nV),(6,(vB false))]⟩:Env) (Zu O n [none,some ⟨false,30,11,1,[(vI 0),(vI 0),nV,nV,(vI 0),nV,nV,nV,nV,(vI 0),nV]⟩]) (n+2)) (fun z8=>JX 0 n (⟨39,[],[(2,.ref n 0),(4,.ref (n+1) 0),(7,.row (n+2) z8.2.2.2.2.2.2.2.2.2.2.2.length)]⟩:Env) (Zu O n [some ⟨false,30,11,1,[(vI z8.1),(vI z8.2.1),(sL (eI .u64) z8.2.2.1),(sL Za z8.2.2.2.1),(vI z8.2.2.2.2.1),(sL (eI .u64) z8.2.2.2.2.2.1),(sL Za z8.2.2.2.2.2.2.1),(sL Zl z8.2.2.2.2.2.2.2.1),(sL Zi z8.2.2.2.2.2.2.2.2.1),(vI z8.2.2.2.2.2.2.2.2.2.1),(sL Zd z8.2.2.2.2.2.2.2.2.2.2.1)]⟩,some ⟨false,30,11,1,[(vI 0),(vI 0),nV,nV,(vI 0),nV,nV,nV,nV,(vI 0),nV]⟩,some (oR 54 2 Zr z8.2.2.2.2.2.2.2.2.2.2.2),none]) (n+4)))) (z:=z8) ?_ fun hw => ?_
 ·refine Y2 hz8 (fun s0_=>⟨39,[],[(2,.ref n 0),(4,.ref (n+1) 0),(7,.row (n+2) s0_.2.2.2.2.2.2.2.2.2.2.2.2.length),(13,(sL Zr a1)),(14,(vI (a1.length:Int))),(15,(vI s0_.1))]⟩) (fun s0_=>(Zu O n [some ⟨false,30,11,1,[(vI s0_.2.1),(vI s0_.2.2.1),(sL (eI .u64) s0_.2.2.2.1),(sL Za s0_.2.2.2.2.1),(vI s0_.2.2.2.2.2.1),(sL (eI .u64) s0_.2.2.2.2.2.2.1),(sL Za s0_.2.2.2.2.2.2.2.1),(sL Zl s0_.2.2.2.2.2.2.2.2.1),(sL Zi s0_.2.2.2.2.2.2.2.2.2.1),(vI s0_.2.2.2.2.2.2.2.2.2.2.1),(sL Zd s0_.2.2.2.2.2.2.2.2.2.2.2.1)]⟩,some ⟨false,30,11,1,[(vI 0),(vI 0),nV,nV,(vI 0),nV,nV,nV,nV,(vI 0),nV]⟩,some (oR 54 2 Zr s0_.2.2.2.2.2.2.2.2.2.2.2.2),none])) (Y6 (fun z8=>JR n (⟨39,[],[(4,.ref (n+1) 0),(5,nV),(6,(vB false))]⟩:Env) (Zu O n [none,some ⟨false,30,11,1,[(vI 0),(vI 0),nV,nV,(vI 0),nV,nV,nV,nV,(vI 0),nV]⟩]) (n+2)) (fun z8=>JX 0 n (⟨39,[],[(2,.ref n 0),(4,.ref (n+1) 0),(7,.row (n+2) z8.2.2.2.2.2.2.2.2.2.2.2.length)]⟩:Env) (Zu O n [some ⟨false,30,11,1,[(vI z8.1),(vI z8.2.1),(sL (eI .u64) z8.2.2.1),(sL Za z8.2.2.2.1),(vI z8.2.2.2.2.1),(sL (eI .u64) z8.2.2.2.2.2.1),(sL Za z8.2.2.2.2.2.2.1),(sL Zl z8.2.2.2.2.2.2.2.1),(sL Zi z8.2.2.2.2.2.2.2.2.1),(vI z8.2.2.2.2.2.2.2.2.2.1),(sL Zd z8.2.2.2.2.2.2.2.2.2.2.1)]⟩,some ⟨false,30,11,1,[(vI 0),(vI 0),nV,nV,(vI 0),nV,nV,nV,nV,(vI 0),nV]⟩,some (oR 54 2 Zr z8.2.2.2.2.2.2.2.2.2.2.2),none]) (n+4))) ?_
  intro s0_ x0_ hs0_
  unfold Ge at hs0_
  try dsimp only
  refine zQ [2,4,7,13,14,15,16] ?_
  refine Zg ?_
  refine Zq (t:=(decide (s0_.1 < (a1.length:Int)))) rfl (fun c7 => ?_) (fun c7 => ?_)
  ·replace hs0_:=Zo c7 hs0_
   refine Qp [2,4,7,13,14,15] [true,true,true,false] ?_
   refine Zg ?_
   refine Z9 ?_
   refine Zg ?_
   obtain ⟨x2,hx2,ax2,bx2,cx2,hs0_⟩:=bE (f:=Zr) Zja (fun _=>rfl) (by decide) hs0_
   refine Zcw [] ax2 bx2 cx2 ?_
   refine zDs [2,4,7,9,13,14,15] [true,true,true,false,true] ?_
   obtain ⟨y4,hy4,hs0_⟩:=bC hs0_
   refine zCd (Ztc hy4) [2,4,7,10,11,12,13,14,15] [true,true,true,false,false,true] ?_
   refine Zg ?_
   refine zQ [2,4,7,10,11,13,14,15,27] ?_
   refine Zq (t:=(!y4.2.2)) rfl (fun c6 => ?_) (fun c6 => ?_)
   ·replace hs0_:=Zo c6 hs0_
    refine Zg ?_
    refine zRd [4,5,6] [false,true,false,false,false,false] ?_
    refine zW ?_
    exact zEy hs0_
   replace hs0_:=Zn c6 hs0_
   refine Qp [2,4,7,10,11,13,14,15] [true,true,true,false,false,true] ?_
   refine Zg ?_
   refine zRd [2,4,7,11,13,14,15] [true,true,true,false,false,false] ?_
   obtain ⟨l5,pl5,ql5,el5,hs0_⟩:=bA (k:=1) rfl hs0_
   refine Zbf [] pl5 ql5 el5 ?_
   refine Zet ⟨39,[],[(2,.ref n 0),(4,.ref (n+1) 0),(7,.row (n+2) l5.length),(13,(sL Zr a1)),(14,(vI (a1.length:Int))),(15,(vI s0_.1))]⟩ (Zu O n [some ⟨false,30,11,1,(Ze y4.1)⟩,some ⟨false,30,11,1,[(vI 0),(vI 0),nV,nV,(vI 0),nV,nV,nV,nV,(vI 0),nV]⟩,some (oR 54 2 Zr l5),none,none,none,none]) (Ya hU rfl rfl ?_) ?_
   ·exact Z16 pl5 ql5 el5
   refine zR ?_
   exact Gw hs0_
  replace hs0_:=Zn c7 hs0_
  exact zEx hs0_
 rcases z8 with z8 | z8
 ·dsimp only [Y6] at hw h
  refine X1 hw ?_
  try simp only [Ym,Z4,↓reduceIte,Nat.reduceEqDiff]
  exact Zgn [.agg [(vI 0),(vI 0),nV,nV,(vI 0),nV,nV,nV,nV,(vI 0),nV],nV,(vB false)]
 dsimp only [Y6] at hw h
 refine Yg hw ?_
 try simp only [Ym,Z4,↓reduceIte,Nat.reduceEqDiff]
 refine zDs [2,4,7] [true,true,true,false] ?_
 obtain ⟨y10,hy10,h⟩:=bC h
 refine zCd (Zpe hy10) [4,5,6] [false,true,true,false] ?_
 exact Yi [.agg (Ze y10),.row (n+2) z8.2.2.2.2.2.2.2.2.2.2.2.length,(vB true)]
theorem Vj  {r:Bool} {O:Objs} {n:Nat} (h:Qe=some r):GTo Try.prog 20 [] O n ((vB r)) O n:=by
 unfold Qe at h
 refine zFn Try.call20 Try.func20 fun hU hN0 hN => ?_
 show W _ _ _ _ ⟨71,[],[]⟩ (Zu O n []) _
 refine zQ [] ?_
 refine Zg ?_
 refine zR ?_
 refine Zet ⟨71,[],[(1,.ref (n+2) 0)]⟩ (Zu O n [none,some (oR 25 3 Za ([(⟨0,([]:(List Int)),([]:(List Zb))⟩:Zb),(⟨1,([1]:List Int),([]:(List Zb))⟩:Zb),(⟨0,([]:(List Int)),([]:(List Zb))⟩:Zb)]:List Zb)),some ⟨false,25,3,1,[(vI 8),nV,.row (n+1) ([(⟨0,([]:(List Int)),([]:(List Zb))⟩:Zb),(⟨1,([1]:List Int),([]:(List Zb))⟩:Zb),(⟨0,([]:(List Int)),([]:(List Zb))⟩:Zb)]:List Zb).length]⟩]) (Ya hU rfl rfl ?_) ?_
 ·exact zSe
 refine Zet ⟨71,[],[(1,.ref (n+2) 0)]⟩ (Zu O n [none,none,some ⟨false,25,3,1,[(vI 8),nV,(sL Za ([(⟨0,([]:(List Int)),([]:(List Zb))⟩:Zb),(⟨1,([1]:List Int),([]:(List Zb))⟩:Zb),(⟨0,([]:(List Int)),([]:(List Zb))⟩:Zb)]:List Zb))]⟩]) (Ya hU rfl rfl ?_) ?_
 ·exact zSe
 refine Zg ?_
 obtain ⟨y2,hy2,h⟩:=bC h
 refine zR ?_
 refine GCalls.dropL (l':=[none,none,some ⟨false,25,3,1,[(vI 8),nV,(sL Za ([(⟨0,([]:(List Int)),([]:(List Zb))⟩:Zb),(⟨1,([1]:List Int),([]:(List Zb))⟩:Zb),(⟨0,([]:(List Int)),([]:(List Zb))⟩:Zb)]:List Zb))]⟩,none,none]) hU rfl ?_ ((Zrh hy2).then ?_)
 ·exact zSe
 refine zS ?_
 refine zDs [2,3] [false,false,false,false,false,true] ?_
 obtain ⟨y4,hy4,h⟩:=bC h
 refine zR ?_
 refine GCalls.dropL (l':=[none,none,none,none,none,some ⟨false,30,11,1,(Ze y2.1)⟩,none]) hU rfl ?_ ((Zok hy4).then ?_)
 ·exact zSe
 refine zS ?_
 refine zD [2,3,4,5,6] [false,false,false,false,false,true,false,true] ?_
 obtain ⟨z9,hz9,h⟩:=bC h
 refine Yp (E':=⟨71,[],[(0,(vB z9))]⟩) (O':=(Zu O n [none,none,none,none,none,none,none,none])) (n0:=(n+8)) ?_ ?_
 ·rcases Bool.eq_false_or_eq_true y2.2 with c18 | c18
  ·replace hz9:=Zo c18 hz9
   rcases Bool.eq_false_or_eq_true y4.2.2 with c19 | c19
   ·replace hz9:=Zo c19 hz9
    try rw [c19] at c18
    rcases Bool.eq_false_or_eq_true (y2.1.Kind == 3) with c20 | c20
    ·replace hz9:=Zo c20 hz9
     try rw [c20] at c18
     try rw [c20] at c19
     rcases Bool.eq_false_or_eq_true ((y2.1.Ops.length:Int) == 3) with c21 | c21
     ·replace hz9:=Zo c21 hz9
      try rw [c21] at c18
      try rw [c21] at c19
      try rw [c21] at c20
      obtain ⟨x14,hx14,ax14,bx14,cx14,hz9⟩:=bE (f:=Zd) Zbe (fun _=>rfl) (by decide) hz9
      have g15:=Zam (f:=Zd) (sz:=14) Zmp (fun _=>rfl) (by decide) (by decide) hx14
      rcases Bool.eq_false_or_eq_true (x14.Kind == 3) with c22 | c22
      ·replace hz9:=Zo c22 hz9
       try rw [c22] at c18
       try rw [c22] at c19
       try rw [c22] at c20
       try rw [c22] at c21
       rcases Bool.eq_false_or_eq_true (y4.1.Kind == 2) with c23 | c23
       ·replace hz9:=Zo c23 hz9
        try rw [c23] at c18
        try rw [c23] at c19
        try rw [c23] at c20
        try rw [c23] at c21
        try rw [c23] at c22
        rcases Bool.eq_false_or_eq_true ((y4.2.1.length:Int) == 1) with c24 | c24
        ·replace hz9:=Zo c24 hz9
         try rw [c24] at c18
         try rw [c24] at c19
         try rw [c24] at c20
         try rw [c24] at c21
         try rw [c24] at c22
         try rw [c24] at c23
         obtain ⟨x16,hx16,ax16,bx16,cx16,hz9⟩:=bE (f:=Zr) Zja (fun _=>rfl) (by decide) hz9
         have g17:=Ks (f:=Zr) (off:=1) (sz:=2) Zmp (fun _=>rfl) (by decide) (by decide) hx16
         refine Yw Zz [none,none,none,none,none,none,none,none,some true,some true,some true,some true,some true,some true,none,none,none,none,none,none,some true,some true,some true,some true,some true] ?_
         simp only [push_cast,Nat.reduceAdd,Nat.reduceSub,Nat.reduceMul,Nat.reduceLeDiff,Nat.reduceLT,Nat.reduceEqDiff,↓reduceIte,reduceCtorEq,Int.reduceBEq,Int.reduceBNe,Nat.reduceBEq,Int.reduceLE,Int.reduceLT,Int.reduceEq,Int.reduceNe,Int.reduceNeg,Nat.reduceDiv,Nat.reduceMod,Nat.reducePow,Zm,c18,c19,c20,c21,ax14,bx14,cx14,g15,c22,c23,c24,ax16,bx16,cx16,g17,hN0,hN]
         refine zG ?_
         have hz9:=Option.some.inj hz9;subst hz9
         refine And.intro rfl (Fit2.of (Ya hU rfl rfl ?_) (by omega))
         simp only [push_cast,Nat.reduceAdd,Nat.reduceSub,Nat.reduceMul,Nat.reduceLeDiff,Nat.reduceLT,Nat.reduceEqDiff,↓reduceIte,reduceCtorEq,Int.reduceBEq,Int.reduceBNe,Nat.reduceBEq,Int.reduceLE,Int.reduceLT,Int.reduceEq,Int.reduceNe,Int.reduceNeg,Nat.reduceDiv,Nat.reduceMod,Nat.reducePow,Zm,c18,c19,c20,c21,ax14,bx14,cx14,g15,c22,c23,c24,ax16,bx16,cx16,g17,hN0,hN]
        replace hz9:=Zn c24 hz9
        try rw [c24] at c18
        try rw [c24] at c19
        try rw [c24] at c20
        try rw [c24] at c21
        try rw [c24] at c22
        try rw [c24] at c23
        refine Yw Zz [none,none,none,none,none,none,none,none,some true,some true,some true,some true,some true,some true,none,none,none,none,none,none,some false,some false,some false,some false,some false] ?_
        refine Yii c18 c19 c20 c21 ax14 bx14 cx14 g15 c22 c23 c24 ?_
        refine zG ?_
        have hz9:=Option.some.inj hz9;subst hz9
        refine And.intro rfl (Fit2.of (Ya hU rfl rfl ?_) (by omega))
        exact Yhk c18 c19 c20 c21 ax14 bx14 cx14 g15 c22 c23 c24
       replace hz9:=Zn c23 hz9
       try rw [c23] at c18
       try rw [c23] at c19
       try rw [c23] at c20
       try rw [c23] at c21
       try rw [c23] at c22
       refine Yw Zz [none,none,none,none,none,none,none,none,some true,some true,some true,some true,some true,some true,none,none,none,none,none,none,some false,some false,some false,some false,some false] ?_
       refine Ylo c18 c19 c20 c21 ax14 bx14 cx14 g15 c22 c23 ?_
       refine zG ?_
       have hz9:=Option.some.inj hz9;subst hz9
       refine And.intro rfl (Fit2.of (Ya hU rfl rfl ?_) (by omega))
       exact Ykb c18 c19 c20 c21 ax14 bx14 cx14 g15 c22 c23
      replace hz9:=Zn c22 hz9
      try rw [c22] at c18
      try rw [c22] at c19
      try rw [c22] at c20
      try rw [c22] at c21
      refine Yw Zz [none,none,none,none,none,none,none,none,some true,some true,some true,some true,some true,some true,none,none,none,none,none,none,some false,some false,some false,some false,some false] ?_
      refine zF9 c18 c19 c20 c21 ax14 bx14 cx14 g15 c22 ?_
      refine zG ?_
      have hz9:=Option.some.inj hz9;subst hz9
      refine And.intro rfl (Fit2.of (Ya hU rfl rfl ?_) (by omega))
      exact Z15 c18 c19 c20 c21 ax14 bx14 cx14 g15 c22
     replace hz9:=Zn c21 hz9
     try rw [c21] at c18
     try rw [c21] at c19
     try rw [c21] at c20
     refine Zms [none,none,none,none,none,none,none,none,some false,some false,some false,some false,some false,some false,some false,some false,some false,some false,some false,some false,some false,some false,some false,some false,some false] c18 c19 c20 c21 ?_
     refine zG ?_
     exact Zmr hz9 c18 c19 c20 c21
    replace hz9:=Zn c20 hz9
    try rw [c20] at c18
    try rw [c20] at c19
    refine Zbf [none,none,none,none,none,none,none,none,some false,some false,some false,some false,some false,some false,some false,some false,some false,some false,some false,some false,some false,some false,some false,some false,some false] c18 c19 c20 ?_
    refine zG ?_
    exact Zej hz9 c18 c19 c20
   replace hz9:=Zn c19 hz9
   try rw [c19] at c18
   refine Jn [none,none,none,none,none,none,none,none,some false,some false,some false,some false,some false,some false,some false,some false,some false,some false,some false,some false,some false,some false,some false,some false,some false] c18 c19 ?_
   refine zG ?_
   exact U2 hz9 c18 c19
  replace hz9:=Zn c18 hz9
  refine Jb [none,none,none,none,none,none,none,none,some false,some false,some false,some false,some false,some false,some false,some false,some false,some false,some false,some false,some false,some false,some false,some false,some false] c18 ?_
  refine zG ?_
  exact Qm hz9 c18
 exact Yi [(vB z9)]
theorem J3 {a0:(List Int)} {a1:(List Int)} {r:Bool} {O:Objs} {n:Nat} (h:X4 a0 a1=some r):GTo Try.prog 98 [(sL (eI .u64) a0),(sL (eI .u64) a1)] O n ((vB r)) O n:=by
 unfold X4 at h
 refine zFn Try.call98 Try.func98 fun hU hN0 hN => ?_
 show W _ _ _ _ ⟨26,[],[(0,(sL (eI .u64) a0)),(1,(sL (eI .u64) a1))]⟩ (Zu O n []) _
 refine zQ [0,1] ?_
 refine Zg ?_
 refine zQ [0,1,10] ?_
 refine Zq (t:=((a0.length:Int) != (a1.length:Int))) rfl (fun c8 => ?_) (fun c8 => ?_)
 ·replace h:=Zo c8 h
  refine zQ [4] ?_
  exact Yi [(vB false)]
 replace h:=Zn c8 h
 refine Qp [0,1] [] ?_
 refine Zg ?_
 refine zQd [0,1,12,13] [0,1,12,13] [] ?_
 obtain ⟨z7,hz7,h⟩:=bC h
 refine K3 (J:=(Y6 (fun z7=>JR n (⟨26,[],[(4,(vB false))]⟩:Env) (Zu O n []) n) (fun z7=>JX 0 n (⟨26,[],[]⟩:Env) (Zu O n []) n))) (z:=z7) ?_ fun hw => ?_
 ·refine Y2 hz7 (fun s0_=>⟨26,[],[(0,(sL (eI .u64) a0)),(1,(sL (eI .u64) a1)),(12,(vI (a0.length:Int))),(13,(vI s0_))]⟩) (fun s0_=>(Zu O n [])) (Y6 (fun z7=>JR n (⟨26,[],[(4,(vB false))]⟩:Env) (Zu O n []) n) (fun z7=>JX 0 n (⟨26,[],[]⟩:Env) (Zu O n []) n)) ?_
  intro s0_ x0_ hs0_
  unfold Qg at hs0_
  try dsimp only
  refine zQ [0,1,12,13,14] ?_
  refine Zg ?_
  refine Zq (t:=(decide (s0_ < (a0.length:Int)))) rfl (fun c6 => ?_) (fun c6 => ?_)
  ·replace hs0_:=Zo c6 hs0_
   refine Qp [0,1,12,13] [] ?_
   refine Zg ?_
   refine Z9 ?_
   refine zQ [0,1,5,12,13] ?_
   obtain ⟨x3,hx3,ax3,bx3,cx3,hs0_⟩:=bE (f:=(eI .u64)) Zh6 (fun _=>rfl) (by decide) hs0_
   obtain ⟨x4,hx4,ax4,bx4,cx4,hs0_⟩:=bE (f:=(eI .u64)) Zh6 (fun _=>rfl) (by decide) hs0_
   refine Zll [0,1,12,13,24] (X3 Zz (by kernel_rfl) [] (by kernel_rfl) ?_)
   refine zF6 ax3 bx3 cx3 ax4 bx4 cx4 ?_
   refine Zq (t:=(x3 != x4)) rfl (fun c5 => ?_) (fun c5 => ?_)
   ·replace hs0_:=Zo c5 hs0_
    refine zQ [4] ?_
    refine zW ?_
    exact zEy hs0_
   replace hs0_:=Zn c5 hs0_
   refine Qp [0,1,12,13] [] ?_
   refine zR ?_
   exact Gw hs0_
  replace hs0_:=Zn c6 hs0_
  exact zEx hs0_
 rcases z7 with z7 | z7
 ·dsimp only [Y6] at hw h
  refine X1 hw ?_
  try simp only [Ym,Z4,↓reduceIte,Nat.reduceEqDiff]
  exact Zgn [(vB false)]
 dsimp only [Y6] at hw h
 refine Yg hw ?_
 try simp only [Ym,Z4,↓reduceIte,Nat.reduceEqDiff]
 refine zD [] [] ?_
 refine zQ [4] ?_
 exact Yi [(vB true)]
def Zje (Kl:(Zb→Zb→Option Bool)):Prop:=∀ {a0:Zb} {a1:Zb} {r:Bool} {O:Objs} {n:Nat},Kl a0 a1=some r→GTo Try.prog 70 [.agg (Zf a0),.agg (Zf a1)] O n ((vB r)) O n
def Xj (Zw:((List Zb)→(List Zb)→Option Bool)):Prop:=∀ {a0:(List Zb)} {a1:(List Zb)} {r:Bool} {O:Objs} {n:Nat},Zw a0 a1=some r→GTo Try.prog 99 [(sL Za a0),(sL Za a1),.fn 70 0 []] O n ((vB r)) O n
theorem Z0r {Kl:(Zb→Zb→Option Bool)} {Zw:((List Zb)→(List Zb)→Option Bool)} (Zom:Zje Kl) (Xk:Xj Zw) {a0:Zb} {a1:Zb} {r:Bool} {O:Objs} {n:Nat} (h:Zhk Kl Zw a0 a1=some r):GTo Try.prog 70 [.agg (Zf a0),.agg (Zf a1)] O n ((vB r)) O n:=by
 unfold Zhk at h
 refine zFn Try.call70 Try.func70 fun hU hN0 hN => ?_
 show W _ _ _ _ ⟨44,[],[(0,.agg (Zf a0)),(1,.agg (Zf a1))]⟩ (Zu O n []) _
 refine zQ [2,3] ?_
 refine Zg ?_
 refine zQ [2,3,9] ?_
 refine Zq (t:=(a0.Kind != a1.Kind)) rfl (fun c31 => ?_) (fun c31 => ?_)
 ·replace h:=Zo c31 h
  refine zQ [4] ?_
  exact Yi [(vB false)]
 replace h:=Zn c31 h
 refine Qp [2,3] [true,true] ?_
 refine Zg ?_
 refine zQ [2,3,11] ?_
 refine Z9 ?_
 refine zQ [2,3,11,12] ?_
 refine Zq (t:=(a0.Kind == 0)) rfl (fun c30 => ?_) (fun c30 => ?_)
 ·replace h:=Zo c30 h
  refine zQ [4] ?_
  exact Yi [(vB true)]
 replace h:=Zn c30 h
 refine zQ [2,3,14] ?_
 refine Zq (t:=(a0.Kind == 1)) rfl (fun c29 => ?_) (fun c29 => ?_)
 ·replace h:=Zo c29 h
  obtain ⟨z7,hz7,h⟩:=bC h
  refine Yp (E':=⟨44,[],[(4,(vB z7))]⟩) (O':=(Zu O n [none,none])) (n0:=(n+2)) ?_ ?_
  ·obtain ⟨y14,hy14,hz7⟩:=bC hz7
   obtain ⟨y15,hy15,hz7⟩:=bC hz7
   obtain ⟨y16,hy16,hz7⟩:=bC hz7
   rcases Bool.eq_false_or_eq_true y16 with c20 | c20
   ·replace hz7:=Zo c20 hz7
    obtain ⟨y17,hy17,hz7⟩:=bC hz7
    obtain ⟨y18,hy18,hz7⟩:=bC hz7
    obtain ⟨y19,hy19,hz7⟩:=bC hz7
    refine X3 Zz (by kernel_rfl) [some true,some true,some true,some true,some true,some true,some true] (by kernel_rfl) ?_
    refine zX1 c20 ?_
    refine PCall.of (Zb8 hy14) ?_
    refine zX1 c20 ?_
    refine PCall.of (Zb8 hy15) ?_
    refine zX1 c20 ?_
    refine PCall.of (J3 hy16) ?_
    refine zX1 c20 ?_
    refine PCall.of (Zim hy17) ?_
    refine zX1 c20 ?_
    refine PCall.of (Zim hy18) ?_
    refine zX1 c20 ?_
    refine PCall.of (Xk hy19) ?_
    refine zX1 c20 ?_
    exact Qm hz7 c20
   replace hz7:=Zn c20 hz7
   refine X3 Zz (by kernel_rfl) [some false,some false,some false,some false,some false,some false,some false] (by kernel_rfl) ?_
   refine zX1 c20 ?_
   refine PCall.of (Zb8 hy14) ?_
   refine zX1 c20 ?_
   refine PCall.of (Zb8 hy15) ?_
   refine zX1 c20 ?_
   refine PCall.of (J3 hy16) ?_
   refine zX1 c20 ?_
   exact Qm hz7 c20
  exact Yi [(vB z7)]
 replace h:=Zn c29 h
 refine Qp [2,3] [true,true] ?_
 obtain ⟨z23,hz23,h⟩:=bC h
 refine Yp (E':=⟨44,[],[(4,(vB z23))]⟩) (O':=(Zu O n [none,none])) (n0:=(n+2)) ?_ ?_
 ·obtain ⟨y26,hy26,hz23⟩:=bC hz23
  rcases Bool.eq_false_or_eq_true y26 with c28 | c28
  ·replace hz23:=Zo c28 hz23
   obtain ⟨y27,hy27,hz23⟩:=bC hz23
   refine Jb [some true,some true,some true,some true,some true] c28 ?_
   refine (J3 hy26).then ?_
   refine zX1 c28 ?_
   refine (Xk hy27).then ?_
   refine zX1 c28 ?_
   exact Qm hz23 c28
  replace hz23:=Zn c28 hz23
  refine Jb [some false,some false,some false,some false,some false] c28 ?_
  refine (J3 hy26).then ?_
  refine zX1 c28 ?_
  exact Qm hz23 c28
 exact Yi [(vB z23)]
theorem Vs {Kl:(Zb→Zb→Option Bool)} {Zw:((List Zb)→(List Zb)→Option Bool)} (Zom:Zje Kl) (Xk:Xj Zw) {a0:(List Zb)} {a1:(List Zb)} {r:Bool} {O:Objs} {n:Nat} (h:Yl Kl Zw a0 a1=some r):GTo Try.prog 99 [(sL Za a0),(sL Za a1),.fn 70 0 []] O n ((vB r)) O n:=by
 unfold Yl at h
 refine zFn Try.call99 Try.func99 fun hU hN0 hN => ?_
 show W _ _ _ _ ⟨32,[],[(0,(sL Za a0)),(1,(sL Za a1)),(2,.fn 70 0 [])]⟩ (Zu O n []) _
 refine zQ [0,1,2] ?_
 refine Zg ?_
 refine zQ [0,1,2,14] ?_
 refine Zq (t:=((a0.length:Int) != (a1.length:Int))) rfl (fun c10 => ?_) (fun c10 => ?_)
 ·replace h:=Zo c10 h
  refine zQ [6] ?_
  exact Yi [(vB false)]
 replace h:=Zn c10 h
 refine Qp [0,1,2] [] ?_
 refine Zg ?_
 refine zQd [1,2,15,16,17] [1,2,15,16,17] [] ?_
 obtain ⟨z9,hz9,h⟩:=bC h
 refine K3 (J:=(Y6 (fun z9=>JR n (⟨32,[],[(6,(vB false))]⟩:Env) (Zu O n []) n) (fun z9=>JX 0 n (⟨32,[],[]⟩:Env) (Zu O n []) n))) (z:=z9) ?_ fun hw => ?_
 ·refine Y2 hz9 (fun s0_=>⟨32,[],[(1,(sL Za a1)),(2,.fn 70 0 []),(15,(sL Za a0)),(16,(vI (a0.length:Int))),(17,(vI s0_))]⟩) (fun s0_=>(Zu O n [])) (Y6 (fun z9=>JR n (⟨32,[],[(6,(vB false))]⟩:Env) (Zu O n []) n) (fun z9=>JX 0 n (⟨32,[],[]⟩:Env) (Zu O n []) n)) ?_
  intro s0_ x0_ hs0_
  unfold Yc at hs0_
  try dsimp only
  refine zQ [1,2,15,16,17,18] ?_
  refine Zg ?_
  refine Zq (t:=(decide (s0_ < (a0.length:Int)))) rfl (fun c8 => ?_) (fun c8 => ?_)
  ·replace hs0_:=Zo c8 hs0_
   refine Qp [1,2,15,16,17] [] ?_
   refine Zg ?_
   refine Z9 ?_
   refine Zg ?_
   obtain ⟨x2,hx2,ax2,bx2,cx2,hs0_⟩:=bE (f:=Za) Vh (fun _=>rfl) (by decide) hs0_
   refine Zcw [] ax2 bx2 cx2 ?_
   refine zDs [1,2,7,8,15,16,17] [true] ?_
   obtain ⟨x4,hx4,ax4,bx4,cx4,hs0_⟩:=bE (f:=Za) Vh (fun _=>rfl) (by decide) hs0_
   refine Zcw [] ax4 bx4 cx4 ?_
   refine zDs [1,2,8,9,15,16,17] [true,true] ?_
   obtain ⟨y6,hy6,hs0_⟩:=bC hs0_
   refine zCd (Zom hy6) [1,2,15,16,17,30] [false,false] ?_
   refine Zq (t:=(!y6)) rfl (fun c7 => ?_) (fun c7 => ?_)
   ·replace hs0_:=Zo c7 hs0_
    refine zQ [6] ?_
    refine zW ?_
    exact zEy hs0_
   replace hs0_:=Zn c7 hs0_
   refine Qp [1,2,15,16,17] [false,false] ?_
   refine zR ?_
   exact Gw hs0_
  replace hs0_:=Zn c8 hs0_
  exact zEx hs0_
 rcases z9 with z9 | z9
 ·dsimp only [Y6] at hw h
  refine X1 hw ?_
  try simp only [Ym,Z4,↓reduceIte,Nat.reduceEqDiff]
  exact Zgn [(vB false)]
 dsimp only [Y6] at hw h
 refine Yg hw ?_
 try simp only [Ym,Z4,↓reduceIte,Nat.reduceEqDiff]
 refine zD [] [] ?_
 refine zQ [6] ?_
 exact Yi [(vB true)]
theorem Zma:∀ k,(Zje ((Xz k).1))∧(Xj ((Xz k).2)):=fun k=>by
 induction k with
 | zero=>exact ⟨@fun a0 a1 r O n h=>(nomatch (show (none:Option _)=some _ from h)),@fun a0 a1 r O n h=>(nomatch (show (none:Option _)=some _ from h))⟩
 | succ k ih=>exact ⟨@fun a0 a1 r O n h=>Z0r (ih.1) (ih.2)  h,@fun a0 a1 r O n h=>Vs (ih.1) (ih.2)  h⟩
theorem Z1x {a0:Zb} {a1:Zb} {r:Bool} {O:Objs} {n:Nat} (h:Znj a0 a1=some r):GTo Try.prog 70 [.agg (Zf a0),.agg (Zf a1)] O n ((vB r)) O n:=by
 obtain ⟨k,hk⟩:=V0 h
 exact (Zma k).1  hk
theorem V2 {a0:(List Zb)} {a1:(List Zb)} {r:Bool} {O:Objs} {n:Nat} (h:Xp a0 a1=some r):GTo Try.prog 99 [(sL Za a0),(sL Za a1),.fn 70 0 []] O n ((vB r)) O n:=by
 obtain ⟨k,hk⟩:=V0 h
 exact (Zma k).2  hk
theorem Zdm {a0 r:List Int} {O:Objs} {n:Nat} (h:Gk a0=some r):GTo Try.prog 100 [(sL (eI .u64) a0)] O n (.row n r.length) (Zu O n [some (oR 73 1 (eI .u64) r)]) (n+1):=by
 have h1:=Zzg h
 have h2:=Zzh h
 have h3:=Zsl h
 rw [List.nil_append] at h3
 subst h3
 simp only [List.length_nil,Nat.zero_add] at h1 h2
 clear h
 refine zFn Try.call100 Try.func100 fun hU hN0 hN => ?_
 show W _ _ _ _ ⟨8,[],[(0,(sL (eI .u64) r))]⟩ (Zu O n []) _
 refine zQ [0] ?_
 refine Z73 0 r.length (fl (eI .u64) r) rfl (Nat.le_of_ble_eq_true rfl) (Yn K0 _) fun A c hA => ?_
 refine zQ [0,4] ?_
 cases A with
 | none =>
  obtain rfl:r=[]:=List.eq_nil_of_length_eq_zero (hA rfl)
  refine Zq (t:=true) rfl (fun _ => ?_) (fun hc=>by cases hc)
  refine zQ [2] ?_
  refine zW ?_
  refine Zo1 (k:=1) (L3:=[some ⟨true,73,1,0,[]⟩]) (E2:=⟨8,[],[(2,.row n 0),(2,nV)]⟩) (n3:=(n+1)) (.inr rfl) hU rfl [.row n 0] ?_ ?_
  ·have ha:=Zg8 (ba:=n) (E:=⟨8,[],[(2,.val (.slice none 0 0))]⟩) (O:=(Zu O n [])) (n:=n) 2 73 1 rfl (by omega)
   simp only [Yv] at ha
   exact ha
  simp only [push_cast,seval,↓reduceIte,Zm,Try.results100,hN0,hN]
 | some A =>
  refine Zq (t:=false) rfl (fun hc=>by cases hc) (fun _ => ?_)
  refine zK ?_
  refine And.intro rfl (And.intro (Nat.le_of_ble_eq_true rfl) ?_)
  refine Zg ?_
  refine Yw Zz [] ?_
  simp only [push_cast,seval,↓reduceIte,Zm,h1,h2,hN0,hN]
  refine zW ?_
  refine Zzt (.inr rfl) hU rfl [.row n r.length] (by omega) ?_
  simp only [push_cast,seval,↓reduceIte,Zm,Try.results100,hN0,hN]
theorem K4 {a0 r:List Zb} {O:Objs} {n:Nat} (h:Vd a0=some r):GTo Try.prog 101 [(sL Za a0)] O n (.row n r.length) (Zu O n [some (oR 25 3 Za r)]) (n+1):=by
 have h1:=Zzg h
 have h2:=Zzh h
 have h3:=Zsl h
 rw [List.nil_append] at h3
 subst h3
 simp only [List.length_nil,Nat.zero_add] at h1 h2
 clear h
 refine zFn Try.call101 Try.func101 fun hU hN0 hN => ?_
 show W _ _ _ _ ⟨8,[],[(0,(sL Za r))]⟩ (Zu O n []) _
 refine zQ [0] ?_
 refine Z73 0 r.length (fl Za r) rfl (Nat.le_of_ble_eq_true rfl) (Yn Xl _) fun A c hA => ?_
 refine zQ [0,4] ?_
 cases A with
 | none =>
  obtain rfl:r=[]:=List.eq_nil_of_length_eq_zero (hA rfl)
  refine Zq (t:=true) rfl (fun _ => ?_) (fun hc=>by cases hc)
  refine zQ [2] ?_
  refine zW ?_
  refine Zo1 (k:=1) (L3:=[some ⟨true,25,3,0,[]⟩]) (E2:=⟨8,[],[(2,.row n 0),(2,nV)]⟩) (n3:=(n+1)) (.inr rfl) hU rfl [.row n 0] ?_ ?_
  ·have ha:=Zg8 (ba:=n) (E:=⟨8,[],[(2,.val (.slice none 0 0))]⟩) (O:=(Zu O n [])) (n:=n) 2 25 3 rfl (by omega)
   simp only [Yv] at ha
   exact ha
  simp only [push_cast,seval,↓reduceIte,Zm,Try.results101,hN0,hN]
 | some A =>
  refine Zq (t:=false) rfl (fun hc=>by cases hc) (fun _ => ?_)
  refine zK ?_
  refine And.intro rfl (And.intro (Nat.le_of_ble_eq_true rfl) ?_)
  refine Zg ?_
  refine Yw Zz [] ?_
  simp only [push_cast,seval,↓reduceIte,Zm,h1,h2,hN0,hN]
  refine zW ?_
  refine Zzt (.inr rfl) hU rfl [.row n r.length] (by omega) ?_
  simp only [push_cast,seval,↓reduceIte,Zm,Try.results101,hN0,hN]
theorem Z37 {a0:Zb} {a1:Int} {r:Int} {O:Objs} {n:Nat} (h:Zi0 a0 a1=some r):GTo Try.prog 102 [.agg (Zf a0),(vI a1)] O n (.val (.int .u64 r)) O n:=by
 unfold Zi0 at h
 refine zFn Try.call102 Try.func102 fun hU hN0 hN => ?_
 show W _ _ _ _ ⟨19,[],[(0,.agg (Zf a0)),(1,(vI a1))]⟩ (Zu O n []) _
 refine zQ [1,2] ?_
 refine Zg ?_
 refine zQD [1,2,13] [none,none,none,none,none] ?_
 refine Zq (t:=(cond (decide (a1 < 0)) true (decide ((a0.Words.length:Int)≤a1)))) rfl (fun c3 => ?_) (fun c3 => ?_)
 ·replace h:=Zo c3 h
  refine zQ [4] ?_
  exact Yi [.val (.int .u64 0)]
 replace h:=Zn c3 h
 refine Qp [1,2] [true] ?_
 obtain ⟨x2,hx2,ax2,bx2,cx2,h⟩:=bE (f:=(eI .u64)) Zh6 (fun _=>rfl) (by decide) h
 refine Zll [4] (Yw Zz [] ?_)
 refine zF3 ax2 bx2 cx2 ?_
 exact Yi [.val (.int .u64 x2)]
theorem Zil {a0:Int} {r:Bool} {O:Objs} {n:Nat} (h:Zbi a0=some r):GTo Try.prog 103 [(vI a0)] O n ((vB r)) O n:=by
 unfold Zbi at h
 refine zFn Try.call103 Try.func103 fun hU hN0 hN => ?_
 show W _ _ _ _ ⟨9,[],[(0,(vI a0))]⟩ (Zu O n []) _
 refine zQ [0] ?_
 refine zQD [2] [none,none] ?_
 exact Yi [(vB (cond (decide (a0 < 0)) true (decide (65534 < a0))))]
theorem Z7a {a0:Int} {a1:Int} {a2:Int} {r:Int} {O:Objs} {n:Nat} (h:Zij a0 a1 a2=some r):GTo Try.prog 106 [.val (.int .u64 a0),.val (.int .u64 a1),.val (.int .u8 a2)] O n (.val (.int .u64 r)) O n:=by
 unfold Zij at h
 refine zFn Try.call106 Try.func106 fun hU hN0 hN => ?_
 show W _ _ _ _ ⟨17,[],[(0,.val (.int .u64 a0)),(1,.val (.int .u64 a1)),(2,.val (.int .u8 a2))]⟩ (Zu O n []) _
 refine zQ [0,1,2] ?_
 refine Zg ?_
 obtain ⟨y2,hy2,h⟩:=bC h
 refine zCd (Znm hy2) [0,1,7] [] ?_
 refine zQ [6] ?_
 exact Yi [.val (.int .u64 (IntKind.u64.wrap (Z0g .u64 (IntKind.u64.wrap (Z2i .u64 a0 y2)) (IntKind.u64.wrap (Zha .u64 a1 y2)))))]
theorem Zvp {a0:Zb} {a1:Int} {a2:Int} {r:Zb} {O:Objs} {n:Nat} {i0 j0_0 j0_1:Nat} (hi0:i0 < n) (G3:j0_0 < n) (Ziw:j0_1 < n) (Kf:i0≠j0_0) (Zao:i0≠j0_1) (Zan:j0_0≠j0_1) (ho0:O i0=some ⟨false,25,3,1,[(vI a0.Kind),.row j0_1 a0.Words.length,.row j0_0 a0.Kids.length]⟩) (Zap:O j0_0=some (oR 25 3 Za a0.Kids)) (Zj2:O j0_1=some (oR 73 1 (eI .u64) a0.Words)) (h:Zd7 a0 a1 a2=some r):GTo Try.prog 105 [.ref i0 0,(vI a1),.val (.int .u64 a2)] O n (.tup []) (Zu (((O.upd j0_0 none).upd j0_1 none).upd i0 (some ⟨false,25,3,1,[(vI r.Kind),.row (n+1) r.Words.length,.row n r.Kids.length]⟩)) n [some (oR 25 3 Za r.Kids),some (oR 73 1 (eI .u64) r.Words)]) (n+2):=by
 unfold Zd7 at h
 refine Zo2 Zz Try.call105 Try.func105 rfl (Nat.le_of_ble_eq_true rfl) (by omega) fun hU => ?_
 have e0:=K1 (ba:=n) (E:=⟨40,[],Zhf 0 [.ref i0 0,.val (.int .i64 a1),.val (.int .u64 a2)]⟩) (O:=(Zu O n [])) (n:=n) (i:=i0) (j:=j0_0) (k:=2) (len:=a0.Kids.length) (q:=⟨false,25,3,1,[.val (.int .i64 a0.Kind),.row j0_1 a0.Words.length,.row j0_0 a0.Kids.length]⟩) (qj:=⟨true,25,3,a0.Kids.length,fl Za a0.Kids⟩) (by rw [Yt _ hi0];first | exact ho0 | exact Yo _ _ _) rfl (by rw [Yt _ G3];exact Zap) Kf (by omega)
 simp only [Y5 _ _ G3,Y5 _ _ hi0,Xd,Yv,Qw,Zdh Kf,List.set_cons_zero,List.set_cons_succ,List.cons_append,List.nil_append,List.length_cons,List.length_nil,Nat.zero_add,Nat.reduceAdd,Nat.add_assoc] at e0
 refine Jt e0 ?_
 have e1:=K1 (ba:=n) (E:=⟨40,[],Zhf 0 [.ref i0 0,.val (.int .i64 a1),.val (.int .u64 a2)]⟩) (O:=(Zu ((O.upd j0_0 none).upd i0 (some ⟨false,25,3,1,[.val (.int .i64 a0.Kind),.row j0_1 a0.Words.length,.row n a0.Kids.length]⟩)) n [some ⟨true,25,3,a0.Kids.length,fl Za a0.Kids⟩])) (n:=(n+1)) (i:=i0) (j:=j0_1) (k:=1) (len:=a0.Words.length) (q:=⟨false,25,3,1,[.val (.int .i64 a0.Kind),.row j0_1 a0.Words.length,.row n a0.Kids.length]⟩) (qj:=⟨true,73,1,a0.Words.length,fl (eI .u64) a0.Words⟩) (by rw [Yt _ hi0];first | exact ho0 | exact Yo _ _ _) rfl (by rw [Yt _ Ziw,Xf _ _ (Ne.symm Zao),Xf _ _ (Ne.symm Zan)];exact Zj2) Zao (by omega)
 simp only [Y5 _ _ Ziw,Y5 _ _ hi0,Xd,Yv,Qw,Zdh Zao,List.set_cons_zero,List.set_cons_succ,List.cons_append,List.nil_append,List.length_cons,List.length_nil,Nat.zero_add,Nat.reduceAdd,Nat.add_assoc] at e1
 refine Jt e1 ?_
 have hU:=(Und.drop (Und.drop hU j0_0) j0_1)
 have hk0:∀ k,i0 < n+k:=fun k=>by omega
 have hN0:∀ o,Objs.upd ((O.upd j0_0 none).upd j0_1 none) i0 o n=none:=fun o=>Kb hU hi0 _ (Nat.le_refl _)
 have hN:∀ o k,Objs.upd ((O.upd j0_0 none).upd j0_1 none) i0 o (n+k)=none:=fun o k=>Kb hU hi0 _ (Nat.le_add_right _ _)
 show W _ _ _ _ ⟨40,[],[(0,.ref i0 0),(1,(vI a1)),(2,.val (.int .u64 a2))]⟩ (Zu (((O.upd j0_0 none).upd j0_1 none).upd i0 (some ⟨false,25,3,1,[(vI a0.Kind),.row (n+1) a0.Words.length,.row n a0.Kids.length]⟩)) n [some (oR 25 3 Za a0.Kids),some (oR 73 1 (eI .u64) a0.Words)]) _
 refine Zg ?_
 refine zD [0,1,2] [true,true] ?_
 obtain ⟨z3,hz3,h⟩:=bC h
 refine Yg (E':=⟨40,[],[(0,.ref i0 0),(1,(vI a1)),(2,.val (.int .u64 a2))]⟩) (O':=(Zu (((O.upd j0_0 none).upd j0_1 none).upd i0 (some ⟨false,25,3,1,[(vI a0.Kind),.row (n+1) z3.length,.row n a0.Kids.length]⟩)) n [some (oR 25 3 Za a0.Kids),some (oR 73 1 (eI .u64) z3)])) (n0:=(n+2)) ?_ ?_
 ·refine Y2 hz3 (fun s0_=>⟨40,[],[(0,.ref i0 0),(1,(vI a1)),(2,.val (.int .u64 a2))]⟩) (fun s0_=>(Zu (((O.upd j0_0 none).upd j0_1 none).upd i0 (some ⟨false,25,3,1,[(vI a0.Kind),.row (n+1) s0_.length,.row n a0.Kids.length]⟩)) n [some (oR 25 3 Za a0.Kids),some (oR 73 1 (eI .u64) s0_)])) (fun z3=>JX 0 n (⟨40,[],[(0,.ref i0 0),(1,(vI a1)),(2,.val (.int .u64 a2))]⟩:Env) (Zu (((O.upd j0_0 none).upd j0_1 none).upd i0 (some ⟨false,25,3,1,[(vI a0.Kind),.row (n+1) z3.length,.row n a0.Kids.length]⟩)) n [some (oR 25 3 Za a0.Kids),some (oR 73 1 (eI .u64) z3)]) (n+2)) ?_
  intro s0_ x0_ hs0_
  unfold Zaq at hs0_
  try dsimp only
  refine Zg ?_
  refine Zll [0,1,2,16] (Yw Zz [none,none] ?_)
  refine zX2 hi0 hk0 ?_
  refine zG ?_
  refine Zq (t:=(cond (decide ((s0_.length:Int)≤a1)) (a2 != 0) false)) rfl (fun c2 => ?_) (fun c2 => ?_)
  ·replace hs0_:=Zo c2 hs0_
   refine Qp [0,1,2] [true,true] ?_
   refine Z9 ?_
   obtain ⟨l1,pl1,ql1,el1,hs0_⟩:=bA (k:=1) rfl hs0_
   refine Z22 [] pl1 ql1 el1 hi0 hk0 ?_
   have hs0_:=Option.some.inj hs0_;subst hs0_
   refine And.intro rfl (Fit2.of (Yx hU rfl rfl ?_) (by omega))
   exact Ykg pl1 ql1 el1 hi0 hk0
  replace hs0_:=Zn c2 hs0_
  refine zXt ?_
  have hs0_:=Option.some.inj hs0_;subst hs0_
  refine And.intro (fun h=>by cases h) (And.intro rfl (Fit2.of (Yx hU rfl rfl ?_) (by omega)))
  exact Js hi0 hk0
 try simp only [Ym,Z4,↓reduceIte,Nat.reduceEqDiff]
 refine zD [0,1,2] [true,true] ?_
 refine Zg7 [0,1,2,32] hi0 hk0 ?_
 refine Zq (t:=(decide (a1 < (z3.length:Int)))) rfl (fun c6 => ?_) (fun c6 => ?_)
 ·replace h:=Zo c6 h
  obtain ⟨x4,hx4,ax4,bx4,cx4,h⟩:=bE (f:=(eI .u64)) Zh6 (fun _=>rfl) (by decide) h
  have gu5:Ke (fl (eI .u64) z3) [.val (.int .u64 a2)] (Int.toNat a1 * 1)=some (fl (eI .u64) (Zf0 z3 a1 a2)):=Zl6 (f:=(eI .u64)) (ti:=⟨.bool,1,0,[],false⟩) (x:=a2) (fun _=>rfl) (Zge hx4)
  refine Ybo [] ax4 bx4 cx4 gu5 hi0 hk0 ?_
  have h:=Option.some.inj h;subst h
  refine Va (k:=2) (i:=i0) (q1:=⟨false,25,3,1,[(vI a0.Kind),.row (n+1) (Zf0 z3 a1 a2).length,.row n a0.Kids.length]⟩) (L3:=[some (oR 25 3 Za a0.Kids),some (oR 73 1 (eI .u64) (Zf0 z3 a1 a2)),none]) (E2:=(⟨40,[],[]⟩:Env)) (n3:=(n+3)) (.inl rfl) hU rfl [] ?_ ?_
  ·refine Fit2.trans (E':=(⟨40,[],[]⟩:Env)) (O':=(Zu (((O.upd j0_0 none).upd j0_1 none).upd i0 (some ⟨false,25,3,1,[(vI a0.Kind),.row (n+1) (Zf0 z3 a1 a2).length,.row n a0.Kids.length]⟩)) n [some (oR 25 3 Za a0.Kids),some (oR 73 1 (eI .u64) (Zf0 z3 a1 a2))])) (n':=(n+2)) (Fit2.of (Yx hU rfl rfl ?_) (by omega)) ?_
   ·exact Yg3 ax4 bx4 cx4 gu5 hi0 hk0
   refine Q0 (k:=2) (k':=3) hU [0,1] [0,1,0] rfl rfl rfl rfl ⟨rfl,rfl⟩ ?_
   exact Js hi0 hk0
  simp only [push_cast,seval,↓reduceIte,Zm,Try.results105,hi0,hk0,hN0,hN]
 replace h:=Zn c6 h
 refine zK ?_
 have h:=Option.some.inj h;subst h
 refine Va (k:=2) (i:=i0) (q1:=⟨false,25,3,1,[(vI a0.Kind),.row (n+1) z3.length,.row n a0.Kids.length]⟩) (L3:=[some (oR 25 3 Za a0.Kids),some (oR 73 1 (eI .u64) z3),none]) (E2:=(⟨40,[],[]⟩:Env)) (n3:=(n+3)) (.inl rfl) hU rfl [] ?_ ?_
 ·refine Fit2.trans (E':=(⟨40,[],[]⟩:Env)) (O':=(Zu (((O.upd j0_0 none).upd j0_1 none).upd i0 (some ⟨false,25,3,1,[(vI a0.Kind),.row (n+1) z3.length,.row n a0.Kids.length]⟩)) n [some (oR 25 3 Za a0.Kids),some (oR 73 1 (eI .u64) z3)])) (n':=(n+2)) (Fit2.of (Yx hU rfl rfl ?_) (by omega)) ?_
  ·exact Js hi0 hk0
  refine Q0 (k:=2) (k':=3) hU [0,1] [0,1,0] rfl rfl rfl rfl ⟨rfl,rfl⟩ ?_
  exact Js hi0 hk0
 simp only [push_cast,seval,↓reduceIte,Zm,Try.results105,hi0,hk0,hN0,hN]
theorem Zwo {a0:Zb} {a1:Int} {a2:Zb} {r:Zb} {O:Objs} {n:Nat} {i0 j0_0:Nat} (hi0:i0 < n) (G3:j0_0 < n) (Kf:i0≠j0_0) (ho0:O i0=some ⟨false,25,3,1,[(vI a0.Kind),(sL (eI .u64) a0.Words),.row j0_0 a0.Kids.length]⟩) (Zap:O j0_0=some (oR 25 3 Za a0.Kids)) (h:Zfa a0 a1 a2=some r):GTo Try.prog 107 [.ref i0 0,(vI a1),.agg (Zf a2)] O n (.tup []) (Zu ((O.upd j0_0 none).upd i0 (some ⟨false,25,3,1,[(vI r.Kind),(sL (eI .u64) r.Words),.row n r.Kids.length]⟩)) n [some (oR 25 3 Za r.Kids)]) (n+1):=by
 unfold Zfa at h
 refine Zo2 Zz Try.call107 Try.func107 rfl (Nat.le_of_ble_eq_true rfl) (by omega) fun hU => ?_
 have e0:=K1 (ba:=n) (E:=⟨43,[],Zhf 0 [.ref i0 0,.val (.int .i64 a1),.agg [.val (.int .i64 a2.Kind),.sl a2.Words.length (fl (eI .u64) a2.Words),.sl a2.Kids.length (fl Za a2.Kids)]]⟩) (O:=(Zu O n [])) (n:=n) (i:=i0) (j:=j0_0) (k:=2) (len:=a0.Kids.length) (q:=⟨false,25,3,1,[.val (.int .i64 a0.Kind),.sl a0.Words.length (fl (eI .u64) a0.Words),.row j0_0 a0.Kids.length]⟩) (qj:=⟨true,25,3,a0.Kids.length,fl Za a0.Kids⟩) (by rw [Yt _ hi0];first | exact ho0 | exact Yo _ _ _) rfl (by rw [Yt _ G3];exact Zap) Kf (by omega)
 simp only [Y5 _ _ G3,Y5 _ _ hi0,Xd,Yv,Qw,Zdh Kf,List.set_cons_zero,List.set_cons_succ,List.cons_append,List.nil_append,List.length_cons,List.length_nil,Nat.zero_add,Nat.reduceAdd,Nat.add_assoc] at e0
 refine Jt e0 ?_
 have hU:=(Und.drop hU j0_0)
 have hk0:∀ k,i0 < n+k:=fun k=>by omega
 have hN0:∀ o,Objs.upd (O.upd j0_0 none) i0 o n=none:=fun o=>Kb hU hi0 _ (Nat.le_refl _)
 have hN:∀ o k,Objs.upd (O.upd j0_0 none) i0 o (n+k)=none:=fun o k=>Kb hU hi0 _ (Nat.le_add_right _ _)
 show W _ _ _ _ ⟨43,[],[(0,.ref i0 0),(1,(vI a1)),(2,.agg (Zf a2))]⟩ (Zu ((O.upd j0_0 none).upd i0 (some ⟨false,25,3,1,[(vI a0.Kind),(sL (eI .u64) a0.Words),.row n a0.Kids.length]⟩)) n [some (oR 25 3 Za a0.Kids)]) _
 refine Zg7 [0,1,5] hi0 hk0 ?_
 refine Zg ?_
 refine zD [0,1,5] [true,true] ?_
 obtain ⟨z5,hz5,h⟩:=bC h
 refine Yg (E':=⟨43,[],[(0,.ref i0 0),(1,(vI a1)),(5,.ref (n+1) 0)]⟩) (O':=(Zu ((O.upd j0_0 none).upd i0 (some ⟨false,25,3,1,[(vI a0.Kind),(sL (eI .u64) a0.Words),.row n z5.length]⟩)) n [some (oR 25 3 Za z5),some ⟨false,25,3,1,(Zf a2)⟩])) (n0:=(n+2)) ?_ ?_
 ·refine Y2 hz5 (fun s0_=>⟨43,[],[(0,.ref i0 0),(1,(vI a1)),(5,.ref (n+1) 0)]⟩) (fun s0_=>(Zu ((O.upd j0_0 none).upd i0 (some ⟨false,25,3,1,[(vI a0.Kind),(sL (eI .u64) a0.Words),.row n s0_.length]⟩)) n [some (oR 25 3 Za s0_),some ⟨false,25,3,1,(Zf a2)⟩])) (fun z5=>JX 0 n (⟨43,[],[(0,.ref i0 0),(1,(vI a1)),(5,.ref (n+1) 0)]⟩:Env) (Zu ((O.upd j0_0 none).upd i0 (some ⟨false,25,3,1,[(vI a0.Kind),(sL (eI .u64) a0.Words),.row n z5.length]⟩)) n [some (oR 25 3 Za z5),some ⟨false,25,3,1,(Zf a2)⟩]) (n+2)) ?_
  intro s0_ x0_ hs0_
  unfold Zbx at hs0_
  try dsimp only
  refine Zg ?_
  refine Zll [0,1,5,17] (Yw Zz [none,none,none] ?_)
  refine zX2 hi0 hk0 ?_
  refine zG ?_
  refine Zq (t:=(cond (decide ((s0_.length:Int)≤a1)) (a2.Kind != 0) false)) rfl (fun c4 => ?_) (fun c4 => ?_)
  ·replace hs0_:=Zo c4 hs0_
   refine Qp [0,1,5] [true,true] ?_
   refine Z9 ?_
   obtain ⟨l1,pl1,ql1,el1,hs0_⟩:=bA (k:=1) rfl hs0_
   obtain ⟨x2,hx2,ax2,bx2,cx2,hs0_⟩:=bE (f:=Za) Vh (fun _=>rfl) (by decide) hs0_
   have gu3:Ke (fl Za s0_++[.val (.int .i64 0),.val (.slice none 0 0),.val (.slice none 0 0)]) [.val (.int .i64 0),.val (.slice none 0 0),.val (.slice none 0 0)] (List.length s0_ * 3)=some (fl Za s0_++[.val (.int .i64 0),.val (.slice none 0 0),.val (.slice none 0 0)]):=Zdk (f:=Za) (sz:=3) (fun _=>rfl) rfl rfl
   refine Vt Zz (by kernel_rfl) [.plain,.low,.low,.low,.plain,.low,.pass,.bar,.shp,.fill true,.shp,.shp,.fill false] (fun i=>i < (n+2)) [0,1,2,3,4,5,6,7,8,9,10,11,12] [.plain,.low,.low,.low,.plain,.low,.pass,.bar,.shp,.fill true,.shp,.shp,.fill false] [] (by kernel_rfl) rfl ?_
   refine zF9 pl1 ql1 el1 ax2 bx2 cx2 gu3 hi0 hk0 ?_
   refine zO ?_
   have hs0_:=Option.some.inj hs0_;subst hs0_
   refine And.intro rfl (Fit2.of (Yx hU rfl rfl ?_) (by omega))
   exact Z15 pl1 ql1 el1 ax2 bx2 cx2 gu3 hi0 hk0
  replace hs0_:=Zn c4 hs0_
  refine zXt ?_
  have hs0_:=Option.some.inj hs0_;subst hs0_
  refine And.intro (fun h=>by cases h) (And.intro rfl (Fit2.of (Yx hU rfl rfl ?_) (by omega)))
  exact Js hi0 hk0
 try simp only [Ym,Z4,↓reduceIte,Nat.reduceEqDiff]
 refine zD [0,1,5] [true,true] ?_
 refine Zg7 [0,1,5,35] hi0 hk0 ?_
 refine Zq (t:=(decide (a1 < (z5.length:Int)))) rfl (fun c8 => ?_) (fun c8 => ?_)
 ·replace h:=Zo c8 h
  obtain ⟨x6,hx6,ax6,bx6,cx6,h⟩:=bE (f:=Za) Vh (fun _=>rfl) (by decide) h
  have gu7:Ke (fl Za z5) [.val (.int .i64 a2.Kind),.sl a2.Words.length (fl (eI .u64) a2.Words),.sl a2.Kids.length (fl Za a2.Kids)] (Int.toNat a1 * 3)=some (fl Za (Zf0 z5 a1 a2)):=(congrArg (fun c=>Ke (fl Za z5) c (Int.toNat a1 * 3)) (show [.val (.int .i64 a2.Kind),.sl a2.Words.length (fl (eI .u64) a2.Words),.sl a2.Kids.length (fl Za a2.Kids)]=Za a2 from by simp only [Za,Yr,eI,eB,eS,eL])).trans (Zl6 (f:=Za) (ti:=⟨.bool,3,0,[],false⟩) (x:=a2) (fun _=>rfl) (Zge hx6))
  refine Zgo Zz (by kernel_rfl) [false,false,false,false,false,false,false,true] [] (by kernel_rfl) ?_
  refine zF6 ax6 bx6 cx6 gu7 hi0 hk0 ?_
  have h:=Option.some.inj h;subst h
  refine Va (k:=1) (i:=i0) (q1:=⟨false,25,3,1,[(vI a0.Kind),(sL (eI .u64) a0.Words),.row n (Zf0 z5 a1 a2).length]⟩) (L3:=[some (oR 25 3 Za (Zf0 z5 a1 a2)),none]) (E2:=(⟨43,[],[]⟩:Env)) (n3:=(n+2)) (.inl rfl) hU rfl [] ?_ ?_
  ·refine Fit2.trans (E':=(⟨43,[],[]⟩:Env)) (O':=(Zu ((O.upd j0_0 none).upd i0 (some ⟨false,25,3,1,[(vI a0.Kind),(sL (eI .u64) a0.Words),.row n (Zf0 z5 a1 a2).length]⟩)) n [some (oR 25 3 Za (Zf0 z5 a1 a2)),none])) (n':=(n+2)) (Fit2.of (Yx hU rfl rfl ?_) (by omega)) ?_
   ·exact Yg3 ax6 bx6 cx6 gu7 hi0 hk0
   refine Q0 (k:=2) (k':=2) hU [0,1] [0,0] rfl rfl rfl rfl ⟨rfl,rfl⟩ ?_
   exact Js hi0 hk0
  simp only [push_cast,seval,↓reduceIte,Zm,Try.results107,hi0,hk0,hN0,hN]
 replace h:=Zn c8 h
 refine zK ?_
 have h:=Option.some.inj h;subst h
 refine Va (k:=1) (i:=i0) (q1:=⟨false,25,3,1,[(vI a0.Kind),(sL (eI .u64) a0.Words),.row n z5.length]⟩) (L3:=[some (oR 25 3 Za z5),none]) (E2:=(⟨43,[],[]⟩:Env)) (n3:=(n+2)) (.inl rfl) hU rfl [] ?_ ?_
 ·refine Fit2.trans (E':=(⟨43,[],[]⟩:Env)) (O':=(Zu ((O.upd j0_0 none).upd i0 (some ⟨false,25,3,1,[(vI a0.Kind),(sL (eI .u64) a0.Words),.row n z5.length]⟩)) n [some (oR 25 3 Za z5),none])) (n':=(n+2)) (Fit2.of (Yx hU rfl rfl ?_) (by omega)) ?_
  ·exact Js hi0 hk0
  refine Q0 (k:=2) (k':=2) hU [0,1] [0,0] rfl rfl rfl rfl ⟨rfl,rfl⟩ ?_
  exact Js hi0 hk0
 simp only [push_cast,seval,↓reduceIte,Zm,Try.results107,hi0,hk0,hN0,hN]
end Go.Proofs.Ytfjkcekfifobpaa
