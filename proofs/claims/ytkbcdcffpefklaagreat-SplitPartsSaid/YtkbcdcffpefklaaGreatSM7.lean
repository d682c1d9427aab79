/- Part SM7 of this seat's mirrors: functions of the seat's program, and the plain functions that they are; each theorem bears its own conditions. -/
import Derived.Test.YtkbcdcffpefklaaGreatSM5
namespace Go.Proofs.YtkbcdcffpefklaaGreat
open Go.RowKit
set_option linter.unusedVariables false
set_option linter.unusedSimpArgs false
set_option maxRecDepth 100000
set_option maxHeartbeats 4000000
attribute [local push_cast] vI vB nV sL oR K0 Ze K1 Z6 Zv Zcf Zwm Zwl Zxg Zxf Yg Z3 Zsa Zme Zmd onW X9 Zgq Zfn Zvl Zur Zqh Zql Zqg Zqk Ztk Ztg Zqj Ztj Zti Zth Zqi Zte Znd evS wok Jr Op.operands Call.operands gop onK onP atK List.all_cons List.all_nil Bool.and_true Bool.true_and Bool.and_self Value.oneCell' List.take_zero List.take_succ_cons List.take_nil List.drop_zero List.drop_succ_cons List.drop_nil List.append_nil Nat.add_zero Nat.zero_add Zat Yp ev Js Zh3 Zwf Zwe Zwk Zwi Zwj Zwg Zwh Zwd Zvv Zy8 Z16 Zmj Zgs Zlj Zgr Zpz Zjh Zkc Zkh Zl7 Zl3 Zkf Zl6 Zl5 Zl4 Zke Zl1 Zkd Zkg Zi3 Zl2 Zoc Zmf Zee Zmh Zef Zob Zmc Z0i bLo bHi bMx Zgt Zn8 Z4z Zmb Zoa Zi4 Zcu Zza Z41 Zma Zje Z45 Zgp Z6v Zsd Zsh Zsc Zsg Zw2 Zwy Zww Zp1 Zse Zw1 Zw0 Zwz Zsf Zws Zwv Zwr Zwu Z2k Z2g Z2f Zwt Z2i Z2j Zwx Zmg gone Zs4 Zm5 Zm4 pop TK.isAgg Zw9 Zxd Zw8 Zxc Zsw Z26 Z22 Zxb Z25 Z24 Z23 Zxa Z21 G.under G.unders List.getD_cons_zero List.getD_cons_succ List.set_cons_zero List.set_cons_succ List.map_cons List.map_nil List.toList_toArray Array.toList_append Option.toArray_none Option.toArray_some Array.toList_map Option.map_some Option.map_none Option.bind_some Option.bind_none List.getElem?_cons_zero List.getElem?_cons_succ List.getElem?_nil List.nil_append List.cons_append List.replicate_succ List.replicate_zero List.length_cons List.length_nil and_true true_and and_false false_and Bool.true_eq_false Bool.false_eq_true forall_const false_implies implies_true IntKind.bits if_true if_false ite_true ite_false eq_self true_implies false_or or_false or_true true_or not_true_eq_false not_false_eq_true decide_true decide_false decide_eq_true_eq decide_eq_false_iff_not beq_iff_eq bne_iff_ne ne_eq Bool.not_eq_true Bool.not_eq_false beq_eq_false_iff_ne bne_eq_false_iff_eq beq_self_eq_true bne_self_eq_false Option.some.injEq exists_eq_left' exists_eq_left ge_iff_le gt_iff_lt decide_not Bool.not_true Bool.not_false imp_self Z18 cond_true cond_false Ydp Ydo Bool.not_not Bool.and_false Bool.false_and Bool.or_true Bool.true_or Bool.or_false Bool.false_or U2 Zcy Kj Q8 Y5 Yt Option.join_some Nat.add_assoc Int.toNat_natCast eI eB eS eL Yw Zlk Zkk Zwp Zwn Zwo Z68 Yam Zls Zks Zxm Zxk Zxl Z20 Znx Z0z Zg9 Zy0 Zi8 Zy1 List.length_append G.agg.injEq G.row.injEq G.ref.injEq G.val.injEq G.sl.injEq G.tup.injEq Value.int.injEq Value.bool.injEq Value.string.injEq List.cons.injEq exists_and_left exists_const List.flatten_cons List.flatten_nil Int.le_refl Nat.le_refl Q9 Y0 Y6 Bool.not_eq_true' Bool.not_eq_false' Zyl Zoy Z4c Z4h Z4b Z4g Z9w Z9r List.size_toArray Zs7 Znu G.ren G.rens Zv7 Zj3 Zxo Zwb Zwc Ztf Z4i Zf3 G.fn.injEq Zua Zub Zyk Z9s Zt9 Z4f Z9v Z9u Z9t Z4d Z2n Z8a Option.join_none Ye G8 undef Zog Arr.len Arr.put_eq Zlr Zp6 Zm1 Zkr Zxj Zxh Zxi onB Z67 Zy7 Zs9 Zpw Zrt Zru Zrv Zrw Zrx Zry Zp3 Zp9 Zp7 Zm3 Zkt Zp8 Zs3 Zs2 Zs1 Zs0 Yal Ycd Z2z Z0o U6 Z2p Zsj Zqa Zm2 Z5s Zvq Zl8 Zn6 Zh1 Zou Zrz Zr0 Zr1 Zr2 Zo0 Zo1 Zo2 Zo3 Zo4 Zo5 Zo6 Zo7 Zo8 Zo9 Zpa Zpb Zpc Ziu prT Zhq Zpd Zpe Zpf Zpg Zph Zpi Zpj Zpk Zpl Zpm Zpn Zpo Zpp Zpq Zpr Zps Zpt Zpu Yex Z32 Zis Z33 Yey Z34 Z31 Z35 Yez Z36 Ye0 Z37 Ye1 Z38 Ye2 Z39 Z81 Zxq Z82 Zxr Z83 Zxs Z84 Zxt Z85 Zxu Z86 Zxv Z87 Zxw Z88 Zxx Z89 Zxy Z9a Zxz Z9b Zx0 Z9c Zqn Ztn Zk0 Z9d Zx1 Zbu Zx2 Z9e Zx3 Z9f Zx4 Z1m Zt7 Z9g Zx5 Zd7 Zx6 Z9h Zx7 Z9i Zx8 Zi1 Zx9 Z9j Zya Jw Zyb Zly Zyc Z9k Zyd Zq9 Zye Z9l Zyf Z9m Zyg Z9n Zyh Z1n Zt8 Z9o Zyi Z9p Zyj Z3j Zto Z3k Ztp Z0a Ztq Z3l Ztr Z3m Zts Z3n Ztt Z3o Ztu Z3p Ztv Z3q Ztw Z3r Ztx Z3s Zty Z3t Ztz Z3u Zt0 Z3v Zt1 Z3w Zt2 Z3x Zt3 Z3y Zt4 Z3z Zt5 Z30 Zt6 Za Yq Znk Zni Zmo Zmz Znm Zk2 Zky Zkw Znf Zfa Ze8 Zew Ze3 Zfc Zd9 Zd6 Zd4 Ze6 Zi Zk Zh Zd Xa Yr Xo Zbm Zbk Zaw Zba Zbo Zai Zaf Zad Zbg Zb8 Zb6 Zbx Zb2 Zca Zbi Zbe Zbc Zb4 Zhd Zhc Zgw Zg5 Zhe Zfv Zfu Zft Zhb Zqq Zqp Zp0 Zp4 Zqr Zng Zm9 Zm8 Zqo Yd Zak Zaj G9 Zab Zal U9 U8 U7 Zag Ze9 Ze7 Zev Ze2 Zfb Zd8 Zd5 Zd3 Ze5 Yh Zbl Zbj Zav Za9 Zbn Zah Zae Zac Zbf Zy Zb7 Zb5 Zbw Zb1 Zb9 Zbh Zbd Zbb Zb3 Znj Znh Zmn Zmy Znl Zk1 Zkx Zkv Zne
def Zdh (Xm:(Zc→Option Bool)):Prop:=∀ {a0:Zc} {r:Bool} {O:Objs} {n:Nat},Xm a0=some r→GTo Tryz.prog 64 [.agg (Zv a0)] O n ((vB r)) O n
def Zdi (Xi:(Zc→Int→Option Bool)):Prop:=∀ {a0:Zc} {a1:Int} {r:Bool} {O:Objs} {n:Nat},Xi a0 a1=some r→GTo Tryz.prog 79 [.agg (Zv a0),(vI a1)] O n ((vB r)) O n
def G3 (Yv:((List Zc)→Int→Option Bool)):Prop:=∀ {a0:(List Zc)} {a1:Int} {r:Bool} {O:Objs} {n:Nat},Yv a0 a1=some r→GTo Tryz.prog 92 [(sL Za a0),(vI a1)] O n ((vB r)) O n
def G0 (Y4:((List Zc)→Int→Option Bool)):Prop:=∀ {a0:(List Zc)} {a1:Int} {r:Bool} {O:Objs} {n:Nat},Y4 a0 a1=some r→GTo Tryz.prog 94 [(sL Za a0),(vI a1)] O n ((vB r)) O n
theorem Zzw {Xm:(Zc→Option Bool)} {Xi:(Zc→Int→Option Bool)} {Yv:((List Zc)→Int→Option Bool)} {Y4:((List Zc)→Int→Option Bool)} (Zdj:Zdh Xm) (Zdk:Zdi Xi) (Vo:G3 Yv) (Zc8:G0 Y4) {a0:Zc} {r:Bool} {O:Objs} {n:Nat} (h:Zgk Xm Xi Yv Y4 a0=some r):GTo Tryz.prog 64 [.agg (Zv a0)] O n ((vB r)) O n:=by
 unfold Zgk at h
 refine fn0 Zt Tryz.call64 Tryz.func64 rfl fun hU hN0 hN => ?_
 show W _ _ _ _ ⟨18,[],[(0,.agg (Zv a0))]⟩ (Zr O n []) _
 refine zQ [1] ?_
 refine Zl ?_
 refine zQ [1,5] ?_
 refine Zp (t:=(a0.Kind == 10)) rfl (fun c3 => ?_) (fun c3 => ?_)
 ·replace h:=Zo c3 h
  refine zQD [2] [none,none,none,none] ?_
  refine zW ?_
  obtain rfl:=sI h
  refine Zq (.inr rfl) hU [(vB (cond ((a0.Words.length:Int) == 1) ((a0.Kids.length:Int) == 0) false))] (by omega) ?_
  simp only [push_cast,seval,Zf,Tryz.results64,hN0,hN]
 replace h:=Zn c3 h
 refine Q5 [1] [true] ?_
 refine Zl ?_
 obtain ⟨y2,hy2,h⟩:=bC h
 refine zCd (Zdk hy2) [2] [false] ?_
 refine zW ?_
 obtain rfl:=sI h
 refine Zq (.inr rfl) hU [(vB y2)] (by omega) ?_
 simp only [push_cast,seval,Zf,Tryz.results64,hN0,hN]
theorem Zzx {Xm:(Zc→Option Bool)} {Xi:(Zc→Int→Option Bool)} {Yv:((List Zc)→Int→Option Bool)} {Y4:((List Zc)→Int→Option Bool)} (Zdj:Zdh Xm) (Zdk:Zdi Xi) (Vo:G3 Yv) (Zc8:G0 Y4) {a0:Zc} {a1:Int} {r:Bool} {O:Objs} {n:Nat} (h:Zgl Xm Xi Yv Y4 a0 a1=some r):GTo Tryz.prog 79 [.agg (Zv a0),(vI a1)] O n ((vB r)) O n:=by
 unfold Zgl at h
 refine fn0 Zt Tryz.call79 Tryz.func79 rfl fun hU hN0 hN => ?_
 show W _ _ _ _ ⟨83,[],[(0,.agg (Zv a0)),(1,(vI a1))]⟩ (Zr O n []) _
 refine zQ [1,2] ?_
 refine Zl ?_
 refine zQ [1,2,7] ?_
 refine Zp (t:=(a0.Kind == 0)) rfl (fun c26 => ?_) (fun c26 => ?_)
 ·replace h:=Zo c26 h
  refine zQD [4] [none,none,none,none] ?_
  refine zW ?_
  obtain rfl:=sI h
  refine Zq (.inr rfl) hU [(vB (cond ((a0.Words.length:Int) == 0) ((a0.Kids.length:Int) == 0) false))] (by omega) ?_
  simp only [push_cast,seval,Zf,Tryz.results79,hN0,hN]
 replace h:=Zn c26 h
 refine Q5 [1,2] [true] ?_
 refine Zl ?_
 refine zQ [1,2,19] ?_
 refine Zp (t:=(a1 == 0)) rfl (fun c25 => ?_) (fun c25 => ?_)
 ·replace h:=Zo c25 h
  refine zQ [4] ?_
  refine zW ?_
  obtain rfl:=sI h
  refine Zq (.inr rfl) hU [(vB false)] (by omega) ?_
  simp only [push_cast,seval,Zf,Tryz.results79,hN0,hN]
 replace h:=Zn c25 h
 refine Q5 [1,2] [true] ?_
 refine Zl ?_
 refine zQ [1,2,22] ?_
 refine Zp (t:=(a0.Kind == 1)) rfl (fun c24 => ?_) (fun c24 => ?_)
 ·replace h:=Zo c24 h
  obtain ⟨z2,hz2,h⟩:=bC h
  refine Yk (E':=⟨83,[],[(4,(vB z2))]⟩) (O':=(Zr O n [none])) (n0:=(n+1)) ?_ ?_
  ·rcases Bool.eq_false_or_eq_true (decide ((a0.Words.length:Int) < 65536)) with c5 | c5
   ·replace hz2:=Zo c5 hz2
    rcases Bool.eq_false_or_eq_true (decide ((a0.Kids.length:Int) < 65536)) with c6 | c6
    ·replace hz2:=Zo c6 hz2
     try rw [c6] at c5
     obtain ⟨y4,hy4,hz2⟩:=bC hz2
     refine Ja (Z2u (Ycb [])) c5 c6 ?_
     refine zG ?_
     refine (Vo hy4).then ?_
     refine zX2 c5 c6 ?_
     refine zG ?_
     exact Zbp hz2 c5 c6
    replace hz2:=Zn c6 hz2
    try rw [c6] at c5
    refine Ja (Z2u (Zvx [])) c5 c6 ?_
    refine zG ?_
    exact Zbp hz2 c5 c6
   replace hz2:=Zn c5 hz2
   refine K3 (Z2u (Zvx [])) c5 ?_
   refine zG ?_
   exact Kq hz2 c5
  refine zW ?_
  obtain rfl:=sI h
  refine Zq (.inr rfl) hU [(vB z2)] (by omega) ?_
  simp only [push_cast,seval,Zf,Tryz.results79,hN0,hN]
 replace h:=Zn c24 h
 refine Q5 [1,2] [true] ?_
 refine Zl ?_
 refine Zl ?_
 obtain ⟨y8,hy8,h⟩:=bC h
 refine zRo [none,none,none,none,none,none,none,none] ?_
 refine zG ?_
 refine zTs (Zsq hy8) ?_
 refine zG ?_
 refine zD [1,2,55] [true] ?_
 refine Zp (t:=(cond (cond (!y8) true (decide (0 < (a0.Words.length:Int)))) true (decide (1048576≤(a0.Kids.length:Int))))) rfl (fun c23 => ?_) (fun c23 => ?_)
 ·replace h:=Zo c23 h
  refine zQ [4] ?_
  refine zW ?_
  obtain rfl:=sI h
  refine Zq (.inr rfl) hU [(vB false)] (by omega) ?_
  simp only [push_cast,seval,Zf,Tryz.results79,hN0,hN]
 replace h:=Zn c23 h
 refine Q5 [1,2] [true] ?_
 refine Zl ?_
 refine zQ [1,2,57] ?_
 refine Z0 ?_
 refine zQ [1,2,57,58] ?_
 refine Zp (t:=(a0.Kind == 8)) rfl (fun c22 => ?_) (fun c22 => ?_)
 ·replace h:=Zo c22 h
  refine Zl ?_
  obtain ⟨y10,hy10,h⟩:=bC h
  refine zCd (Vo hy10) [4] [false] ?_
  refine zW ?_
  obtain rfl:=sI h
  refine Zq (.inr rfl) hU [(vB y10)] (by omega) ?_
  simp only [push_cast,seval,Zf,Tryz.results79,hN0,hN]
 replace h:=Zn c22 h
 refine zQ [1,2,65] ?_
 refine Zp (t:=(a0.Kind == 9)) rfl (fun c21 => ?_) (fun c21 => ?_)
 ·replace h:=Zo c21 h
  obtain ⟨z13,hz13,h⟩:=bC h
  refine Yk (E':=⟨83,[],[(4,(vB z13))]⟩) (O':=(Zr O n [none])) (n0:=(n+1)) ?_ ?_
  ·obtain ⟨y16,hy16,hz13⟩:=bC hz13
   rcases Bool.eq_false_or_eq_true y16 with c18 | c18
   ·replace hz13:=Zo c18 hz13
    obtain ⟨y17,hy17,hz13⟩:=bC hz13
    refine K3 (Ycb []) c18 ?_
    refine (Zju hy16).then ?_
    refine zX1 c18 ?_
    refine (Vo hy17).then ?_
    refine zX1 c18 ?_
    exact Kq hz13 c18
   replace hz13:=Zn c18 hz13
   refine K3 (Zvx []) c18 ?_
   refine (Zju hy16).then ?_
   refine zX1 c18 ?_
   exact Kq hz13 c18
  refine zW ?_
  obtain rfl:=sI h
  refine Zq (.inr rfl) hU [(vB z13)] (by omega) ?_
  simp only [push_cast,seval,Zf,Tryz.results79,hN0,hN]
 replace h:=Zn c21 h
 refine Q5 [2] [true] ?_
 refine Zl ?_
 obtain ⟨y20,hy20,h⟩:=bC h
 refine zCd (Zc8 hy20) [4] [false] ?_
 refine zW ?_
 obtain rfl:=sI h
 refine Zq (.inr rfl) hU [(vB y20)] (by omega) ?_
 simp only [push_cast,seval,Zf,Tryz.results79,hN0,hN]
theorem Zsv {Xm:(Zc→Option Bool)} {Xi:(Zc→Int→Option Bool)} {Yv:((List Zc)→Int→Option Bool)} {Y4:((List Zc)→Int→Option Bool)} (Zdj:Zdh Xm) (Zdk:Zdi Xi) (Vo:G3 Yv) (Zc8:G0 Y4) {a0:(List Zc)} {a1:Int} {r:Bool} {O:Objs} {n:Nat} (h:Zdd Xm Xi Yv Y4 a0 a1=some r):GTo Tryz.prog 92 [(sL Za a0),(vI a1)] O n ((vB r)) O n:=by
 unfold Zdd at h
 refine fn0 Zt Tryz.call92 Tryz.func92 rfl fun hU hN0 hN => ?_
 show W _ _ _ _ ⟨18,[],[(0,(sL Za a0)),(1,(vI a1))]⟩ (Zr O n []) _
 refine zQ [0,1] ?_
 refine Zl ?_
 refine zQd [1,7,8,9] [1,7,8,9] [] ?_
 obtain ⟨z7,hz7,h⟩:=bC h
 refine U3 (J:=(Xg (fun z7=>JR n (⟨18,[],[(4,(vB false))]⟩:Env) (Zr O n []) n) (fun z7=>JX 0 n (⟨18,[],[]⟩:Env) (Zr O n []) n))) (z:=z7) ?_ fun hw => ?_
 ·refine Yi hz7 (fun s0_=>⟨18,[],[(1,(vI a1)),(7,(sL Za a0)),(8,(vI (a0.length:Int))),(9,(vI s0_))]⟩) (fun s0_=>(Zr O n [])) (Xg (fun z7=>JR n (⟨18,[],[(4,(vB false))]⟩:Env) (Zr O n []) n) (fun z7=>JX 0 n (⟨18,[],[]⟩:Env) (Zr O n []) n)) ?_
  intro s0_ x0_ hs0_
  unfold Gs at hs0_
  try dsimp only
  refine zQ [1,7,8,9,10] ?_
  refine Zl ?_
  refine Zp (t:=(decide (s0_ < (a0.length:Int)))) rfl (fun c6 => ?_) (fun c6 => ?_)
  ·replace hs0_:=Zo c6 hs0_
   refine Q5 [1,7,8,9] [] ?_
   refine Zl ?_
   refine Z0 ?_
   refine Zl ?_
   obtain ⟨x2,hx2,ax2,bx2,cx2,hs0_⟩:=bE (f:=Za) Zbu (fun _=>rfl) (by decide) hs0_
   refine Zdr [] ax2 bx2 cx2 ?_
   refine zDs [1,6,7,8,9] [true] ?_
   obtain ⟨y4,hy4,hs0_⟩:=bC hs0_
   refine zCd (Zdk hy4) [1,7,8,9,16] [false] ?_
   refine Zp (t:=(!y4)) rfl (fun c5 => ?_) (fun c5 => ?_)
   ·replace hs0_:=Zo c5 hs0_
    refine zQ [4] ?_
    refine zW ?_
    exact zEy hs0_
   replace hs0_:=Zn c5 hs0_
   refine Q5 [1,7,8,9] [false] ?_
   refine zR ?_
   exact Vu hs0_
  replace hs0_:=Zn c6 hs0_
  exact zEx hs0_
 rcases z7 with z7 | z7
 ·dsimp only [Xg] at hw h
  refine Qj hw ?_
  try simp only [Yg,Z3,↓reduceIte,Nat.reduceEqDiff]
  obtain rfl:=sI h
  refine Zq (.inr rfl) hU [(vB false)] (by omega) ?_
  simp only [push_cast,seval,Zf,Tryz.results92,hN0,hN]
 dsimp only [Xg] at hw h
 refine Z8 hw ?_
 try simp only [Yg,Z3,↓reduceIte,Nat.reduceEqDiff]
 refine zD [] [] ?_
 refine zQ [4] ?_
 refine zW ?_
 obtain rfl:=sI h
 refine Zq (.inr rfl) hU [(vB true)] (by omega) ?_
 simp only [push_cast,seval,Zf,Tryz.results92,hN0,hN]
theorem Zsu {Xm:(Zc→Option Bool)} {Xi:(Zc→Int→Option Bool)} {Yv:((List Zc)→Int→Option Bool)} {Y4:((List Zc)→Int→Option Bool)} (Zdj:Zdh Xm) (Zdk:Zdi Xi) (Vo:G3 Yv) (Zc8:G0 Y4) {a0:(List Zc)} {a1:Int} {r:Bool} {O:Objs} {n:Nat} (h:Zdc Xm Xi Yv Y4 a0 a1=some r):GTo Tryz.prog 94 [(sL Za a0),(vI a1)] O n ((vB r)) O n:=by
 unfold Zdc at h
 refine fn0 Zt Tryz.call94 Tryz.func94 rfl fun hU hN0 hN => ?_
 show W _ _ _ _ ⟨31,[],[(0,(sL Za a0)),(1,(vI a1))]⟩ (Zr O n []) _
 refine zQ [0,1] ?_
 refine Zl ?_
 refine zQd [1,7,8,9] [1,7,8,9] [] ?_
 obtain ⟨z17,hz17,h⟩:=bC h
 refine U3 (J:=(Xg (fun z17=>JR n (⟨31,[],[(4,(vB false))]⟩:Env) (Zr O n []) n) (fun z17=>JX 0 n (⟨31,[],[]⟩:Env) (Zr O n []) n))) (z:=z17) ?_ fun hw => ?_
 ·refine Yi hz17 (fun s0_=>⟨31,[],[(1,(vI a1)),(7,(sL Za a0)),(8,(vI (a0.length:Int))),(9,(vI s0_))]⟩) (fun s0_=>(Zr O n [])) (Xg (fun z17=>JR n (⟨31,[],[(4,(vB false))]⟩:Env) (Zr O n []) n) (fun z17=>JX 0 n (⟨31,[],[]⟩:Env) (Zr O n []) n)) ?_
  intro s0_ x0_ hs0_
  unfold Gr at hs0_
  try dsimp only
  refine zQ [1,7,8,9,10] ?_
  refine Zl ?_
  refine Zp (t:=(decide (s0_ < (a0.length:Int)))) rfl (fun c16 => ?_) (fun c16 => ?_)
  ·replace hs0_:=Zo c16 hs0_
   refine Q5 [1,7,8,9] [] ?_
   refine Zl ?_
   refine Z0 ?_
   refine Zl ?_
   obtain ⟨x2,hx2,ax2,bx2,cx2,hs0_⟩:=bE (f:=Za) Zbu (fun _=>rfl) (by decide) hs0_
   refine Zdr [] ax2 bx2 cx2 ?_
   refine zD [1,6,7,8,9] [true] ?_
   obtain ⟨z6,hz6,hs0_⟩:=bC hs0_
   refine Yk (E':=⟨31,[],[(1,(vI a1)),(7,(sL Za a0)),(8,(vI (a0.length:Int))),(9,(vI s0_)),(29,(vB z6))]⟩) (O':=(Zr O n [none])) (n0:=(n+1)) ?_ ?_
   ·rcases Bool.eq_false_or_eq_true (x2.Kind != 10) with c13 | c13
    ·replace hz6:=Zo c13 hz6
     refine K3 (Z5j []) c13 ?_
     exact Kq hz6 c13
    replace hz6:=Zn c13 hz6
    obtain ⟨y10,hy10,hz6⟩:=bC hz6
    rcases Bool.eq_false_or_eq_true y10 with c14 | c14
    ·replace hz6:=Zo c14 hz6
     try rw [c14] at c13
     obtain ⟨x11,hx11,ax11,bx11,cx11,hz6⟩:=bE (f:=(eI .u64)) Zly (fun _=>rfl) (by decide) hz6
     obtain ⟨y12,hy12,hz6⟩:=bC hz6
     refine Z6e (Yhi []) c13 c14 ax11 bx11 cx11 ?_
     refine (Zdj hy10).then ?_
     refine zF5 c13 c14 ax11 bx11 cx11 ?_
     refine (Z2x hy12).then ?_
     refine zF5 c13 c14 ax11 bx11 cx11 ?_
     exact Ydi hz6 c13 c14 ax11 bx11 cx11
    replace hz6:=Zn c14 hz6
    try rw [c14] at c13
    refine Ja (Zvy (Yeb [])) c13 c14 ?_
    refine (Zdj hy10).then ?_
    refine zX2 c13 c14 ?_
    exact Zbp hz6 c13 c14
   refine Zp (t:=z6) rfl (fun c15 => ?_) (fun c15 => ?_)
   ·replace hs0_:=Zo c15 hs0_
    refine zQ [4] ?_
    refine zW ?_
    exact zEy hs0_
   replace hs0_:=Zn c15 hs0_
   refine Q5 [1,7,8,9] [false] ?_
   refine zR ?_
   exact Vu hs0_
  replace hs0_:=Zn c16 hs0_
  exact zEx hs0_
 rcases z17 with z17 | z17
 ·dsimp only [Xg] at hw h
  refine Qj hw ?_
  try simp only [Yg,Z3,↓reduceIte,Nat.reduceEqDiff]
  obtain rfl:=sI h
  refine Zq (.inr rfl) hU [(vB false)] (by omega) ?_
  simp only [push_cast,seval,Zf,Tryz.results94,hN0,hN]
 dsimp only [Xg] at hw h
 refine Z8 hw ?_
 try simp only [Yg,Z3,↓reduceIte,Nat.reduceEqDiff]
 refine zD [] [] ?_
 refine zQ [4] ?_
 refine zW ?_
 obtain rfl:=sI h
 refine Zq (.inr rfl) hU [(vB true)] (by omega) ?_
 simp only [push_cast,seval,Zf,Tryz.results94,hN0,hN]
theorem Zuw:∀ k,(Zdh ((Zx k).1))∧(Zdi ((Zx k).2.1))∧(G3 ((Zx k).2.2.1))∧(G0 ((Zx k).2.2.2)):=fun k=>by
 induction k with
 | zero=>exact ⟨@fun a0 r O n h=>(nomatch (show (none:Option _)=some _ from h)),@fun a0 a1 r O n h=>(nomatch (show (none:Option _)=some _ from h)),@fun a0 a1 r O n h=>(nomatch (show (none:Option _)=some _ from h)),@fun a0 a1 r O n h=>(nomatch (show (none:Option _)=some _ from h))⟩
 | succ k ih=>exact ⟨@fun a0 r O n h=>Zzw (ih.1) (ih.2.1) (ih.2.2.1) (ih.2.2.2)  h,@fun a0 a1 r O n h=>Zzx (ih.1) (ih.2.1) (ih.2.2.1) (ih.2.2.2)  h,@fun a0 a1 r O n h=>Zsv (ih.1) (ih.2.1) (ih.2.2.1) (ih.2.2.2)  h,@fun a0 a1 r O n h=>Zsu (ih.1) (ih.2.1) (ih.2.2.1) (ih.2.2.2)  h⟩
theorem Zq7 {a0:Zc} {r:Bool} {O:Objs} {n:Nat} (h:Zi6 a0=some r):GTo Tryz.prog 64 [.agg (Zv a0)] O n ((vB r)) O n:=by
 obtain ⟨k,hk⟩:=Ux h
 exact (Zuw k).1  hk
theorem Zk7 {a0:Zc} {r:Bool} {O:Objs} {n:Nat} (h:Zex a0=some r):GTo Tryz.prog 43 [.agg (Zv a0)] O n ((vB r)) O n:=by
 unfold Zex at h
 refine fn0 Zt Tryz.call43 Tryz.func43 rfl fun hU hN0 hN => ?_
 show W _ _ _ _ ⟨10,[],[(0,.agg (Zv a0))]⟩ (Zr O n []) _
 refine zQ [1] ?_
 obtain ⟨z2,hz2,h⟩:=bC h
 refine Yk (E':=⟨10,[],[(2,(vB z2))]⟩) (O':=(Zr O n [none])) (n0:=(n+1)) ?_ ?_
 ·rcases Bool.eq_false_or_eq_true (a0.Kind != 10) with c5 | c5
  ·replace hz2:=Zo c5 hz2
   obtain ⟨y4,hy4,hz2⟩:=bC hz2
   refine K3 [Jb,Jb] c5 ?_
   refine (Zq7 hy4).then ?_
   refine zX1 c5 ?_
   exact Kq hz2 c5
  replace hz2:=Zn c5 hz2
  refine K3 [Yy,Yy] c5 ?_
  exact Kq hz2 c5
 refine zW ?_
 obtain rfl:=sI h
 refine Zq (.inr rfl) hU [(vB z2)] (by omega) ?_
 simp only [push_cast,seval,Zf,Tryz.results43,hN0,hN]
theorem Z2y {a0:Int} {r:Int} {O:Objs} {n:Nat} (h:Zgb a0=some r):GTo Tryz.prog 65 [.val (.int .u8 a0)] O n (.val (.int .u64 r)) O n:=by
 unfold Zgb at h
 refine fn0 Zt Tryz.call65 Tryz.func65 rfl fun hU hN0 hN => ?_
 show W _ _ _ _ ⟨20,[],[(0,.val (.int .u8 a0))]⟩ (Zr O n []) _
 refine zQ [0] ?_
 refine zQ [0,3] ?_
 refine Zl ?_
 refine zQd [0,3,5] [0,3,5] [] ?_
 obtain ⟨z7,hz7,h⟩:=bC h
 refine Z8 (E':=⟨20,[],[(3,.val (.int .u64 z7))]⟩) (O':=(Zr O n [])) (n0:=n) ?_ ?_
 ·refine Yi hz7 (fun s0_=>⟨20,[],[(0,.val (.int .u8 a0)),(3,.val (.int .u64 s0_.1)),(5,(vI s0_.2))]⟩) (fun s0_=>(Zr O n [])) (fun z7=>JX 0 n (⟨20,[],[(3,.val (.int .u64 z7))]⟩:Env) (Zr O n []) n) ?_
  intro s0_ x0_ hs0_
  unfold Zek at hs0_
  try dsimp only
  refine zQ [0,3,5,6] ?_
  refine Zl ?_
  refine Zp (t:=(decide (s0_.2 < 8))) rfl (fun c6 => ?_) (fun c6 => ?_)
  ·replace hs0_:=Zo c6 hs0_
   refine Q5 [0,3,5] [] ?_
   obtain ⟨z1,hz1,hs0_⟩:=bC hs0_
   refine Yk (E':=⟨20,[],[(0,.val (.int .u8 a0)),(3,.val (.int .u64 z1)),(5,(vI s0_.2))]⟩) (O':=(Zr O n [])) (n0:=n) ?_ ?_
   ·refine Z0 ?_
    refine zQ [0,3,4,5] ?_
    obtain ⟨pu3,hz1⟩:=bG hz1
    refine Zl0 [0,3,4,5,12] (Yn Zt [] ?_)
    simp only [push_cast,seval,Zf,pu3,hN0,hN]
    refine Zp (t:=((IntKind.u8.wrap (Zln .u8 (Int.fdiv a0 (2 ^ min (Int.toNat s0_.2) 8)) 1)) == 1)) rfl (fun c5 => ?_) (fun c5 => ?_)
    ·replace hz1:=Zo c5 hz1
     obtain ⟨pu4,hz1⟩:=bG hz1
     refine Yn Zt [] ?_
     simp only [push_cast,seval,Zf,pu4,hN0,hN]
     obtain rfl:=sI hz1
     refine And.intro rfl (Fit2.of (Zz hU rfl rfl ?_) (by omega))
     simp only [push_cast,seval,Zf,pu4,hN0,hN]
    replace hz1:=Zn c5 hz1
    refine zK ?_
    exact Vu hz1
   refine zR ?_
   exact Vu hs0_
  replace hs0_:=Zn c6 hs0_
  exact zEx hs0_
 try simp only [Yg,Z3,↓reduceIte,Nat.reduceEqDiff]
 refine zD [3] [] ?_
 refine zQ [2] ?_
 refine zW ?_
 obtain rfl:=sI h
 refine Zq (.inr rfl) hU [.val (.int .u64 z7)] (by omega) ?_
 simp only [push_cast,seval,Zf,Tryz.results65,hN0,hN]
theorem Zjs {a0:(List Zu)} {r:Bool} {O:Objs} {n:Nat} (h:Za3 a0=some r):GTo Tryz.prog 44 [(sL Zi a0)] O n ((vB r)) O n:=by
 unfold Za3 at h
 refine fn0 Zt Tryz.call44 Tryz.func44 rfl fun hU hN0 hN => ?_
 show W _ _ _ _ ⟨48,[],[(0,(sL Zi a0))]⟩ (Zr O n []) _
 refine zQ [0] ?_
 refine zQ [0,3] ?_
 refine Zl ?_
 refine zQd [3,7,8,9] [3,7,8,9] [] ?_
 obtain ⟨z7,hz7,h⟩:=bC h
 refine U3 (J:=(Xg (fun z7=>JR n (⟨48,[],[(2,(vB false))]⟩:Env) (Zr O n []) n) (fun z7=>JX 0 n (⟨48,[],[]⟩:Env) (Zr O n []) n))) (z:=z7) ?_ fun hw => ?_
 ·refine Yi hz7 (fun s0_=>⟨48,[],[(3,(vI s0_.1)),(7,(sL Zi a0)),(8,(vI (a0.length:Int))),(9,(vI s0_.2))]⟩) (fun s0_=>(Zr O n [])) (Xg (fun z7=>JR n (⟨48,[],[(2,(vB false))]⟩:Env) (Zr O n []) n) (fun z7=>JX 0 n (⟨48,[],[]⟩:Env) (Zr O n []) n)) ?_
  intro s0_ x0_ hs0_
  unfold V6 at hs0_
  try dsimp only
  refine zQ [3,7,8,9,10] ?_
  refine Zl ?_
  refine Zp (t:=(decide (s0_.2 < (a0.length:Int)))) rfl (fun c6 => ?_) (fun c6 => ?_)
  ·replace hs0_:=Zo c6 hs0_
   refine Q5 [3,7,8,9] [] ?_
   refine Zl ?_
   refine Z0 ?_
   refine Zl ?_
   obtain ⟨x2,hx2,ax2,bx2,cx2,hs0_⟩:=bE (f:=Zi) Zq9 (fun _=>rfl) (by decide) hs0_
   refine Zdr [] ax2 bx2 cx2 ?_
   refine zDs [3,5,7,8,9] [true] ?_
   obtain ⟨y4,hy4,hs0_⟩:=bC hs0_
   refine zCd (Z2y hy4) [3,5,6,7,8,9] [true] ?_
   refine Zl ?_
   refine zQD [5,7,8,9,44] [none,none,none,none,none,none,none,none,none,none,none,none,none,none,none,none] ?_
   refine Zp (t:=(cond (cond (cond (cond (decide (x2.At≤s0_.1)) true (decide (65534 < x2.At))) true (x2.Mask == 0)) true ((IntKind.u64.wrap (Zln .u64 x2.Old (IntKind.u64.wrap (Znp .u64 (if IntKind.signed .u64=true then -1 else IntKind.max .u64) y4)))) != 0)) true ((IntKind.u64.wrap (Zln .u64 x2.New (IntKind.u64.wrap (Znp .u64 (if IntKind.signed .u64=true then -1 else IntKind.max .u64) y4)))) != 0))) rfl (fun c5 => ?_) (fun c5 => ?_)
   ·replace hs0_:=Zo c5 hs0_
    refine zQ [2] ?_
    refine zW ?_
    exact zEy hs0_
   replace hs0_:=Zn c5 hs0_
   refine Q5 [5,7,8,9] [true] ?_
   refine zRd [3,7,8,9] [false] ?_
   refine zR ?_
   exact Vu hs0_
  replace hs0_:=Zn c6 hs0_
  exact zEx hs0_
 rcases z7 with z7 | z7
 ·dsimp only [Xg] at hw h
  refine Qj hw ?_
  try simp only [Yg,Z3,↓reduceIte,Nat.reduceEqDiff]
  obtain rfl:=sI h
  refine Zq (.inr rfl) hU [(vB false)] (by omega) ?_
  simp only [push_cast,seval,Zf,Tryz.results44,hN0,hN]
 dsimp only [Xg] at hw h
 refine Z8 hw ?_
 try simp only [Yg,Z3,↓reduceIte,Nat.reduceEqDiff]
 refine zD [] [] ?_
 refine zQ [2] ?_
 refine zW ?_
 obtain rfl:=sI h
 refine Zq (.inr rfl) hU [(vB true)] (by omega) ?_
 simp only [push_cast,seval,Zf,Tryz.results44,hN0,hN]
theorem Zlp {a0:Int} {a1:Zb} {r:Bool} {O:Objs} {n:Nat} (h:Zdf a0 a1=some r):GTo Tryz.prog 81 [(vI a0),.agg (Ze a1)] O n ((vB r)) O n:=by
 unfold Zdf at h
 refine fn0 Zt Tryz.call81 Tryz.func81 rfl fun hU hN0 hN => ?_
 show W _ _ _ _ ⟨33,[],[(0,(vI a0)),(1,.agg (Ze a1))]⟩ (Zr O n []) _
 refine zQ [0,3] ?_
 refine Zl ?_
 refine zQ [3,5] ?_
 refine Z0 ?_
 refine zQ [3,5,6] ?_
 refine Zp (t:=(a0 == 8)) rfl (fun c2 => ?_) (fun c2 => ?_)
 ·replace h:=Zo c2 h
  refine zQ [4] ?_
  refine zW ?_
  obtain rfl:=sI h
  refine Zq (.inr rfl) hU [(vB (a1.Kind != 0))] (by omega) ?_
  simp only [push_cast,seval,Zf,Tryz.results81,hN0,hN]
 replace h:=Zn c2 h
 refine zQ [3,11] ?_
 refine Zp (t:=(a0 == 9)) rfl (fun c1 => ?_) (fun c1 => ?_)
 ·replace h:=Zo c1 h
  refine zQD [4] [none,none,none,none,none,none,none,none,none,none,none,none,none,none,none] ?_
  refine zW ?_
  obtain rfl:=sI h
  refine Zq (.inr rfl) hU [(vB (cond (a1.Kind == 2) true (cond (cond (a1.Kind == 1) (a1.Old.Kind == 1) false) (a1.New.Kind == 1) false)))] (by omega) ?_
  simp only [push_cast,seval,Zf,Tryz.results81,hN0,hN]
 replace h:=Zn c1 h
 refine Q5 [] [false] ?_
 refine zQ [4] ?_
 refine zW ?_
 obtain rfl:=sI h
 refine Zq (.inr rfl) hU [(vB false)] (by omega) ?_
 simp only [push_cast,seval,Zf,Tryz.results81,hN0,hN]
def Uq (Yo:(Zb→Option Bool)):Prop:=∀ {a0:Zb} {r:Bool} {O:Objs} {n:Nat},Yo a0=some r→GTo Tryz.prog 10 [.agg (Ze a0)] O n ((vB r)) O n
def Ur (Yl:(Zb→Int→Option Bool)):Prop:=∀ {a0:Zb} {a1:Int} {r:Bool} {O:Objs} {n:Nat},Yl a0 a1=some r→GTo Tryz.prog 22 [.agg (Ze a0),(vI a1)] O n ((vB r)) O n
def Jf (Z9:((List Zj)→Int→Option Bool)):Prop:=∀ {a0:(List Zj)} {a1:Int} {r:Bool} {O:Objs} {n:Nat},Z9 a0 a1=some r→GTo Tryz.prog 45 [(sL Zh a0),(vI a1)] O n ((vB r)) O n
def J5 (Ya:(Zb→Int→Option Bool)):Prop:=∀ {a0:Zb} {a1:Int} {r:Bool} {O:Objs} {n:Nat},Ya a0 a1=some r→GTo Tryz.prog 46 [.agg (Ze a0),(vI a1)] O n ((vB r)) O n
def Ko (Yc:(Int→Zg→Int→Option Bool)):Prop:=∀ {a0:Int} {a1:Zg} {a2:Int} {r:Bool} {O:Objs} {n:Nat},Yc a0 a1 a2=some r→GTo Tryz.prog 67 [(vI a0),.agg (Z6 a1),(vI a2)] O n ((vB r)) O n
def Jg (Z5:(Bool→Bool→Bool→Zg→Option Bool)):Prop:=∀ {a0:Bool} {a1:Bool} {a2:Bool} {a3:Zg} {r:Bool} {O:Objs} {n:Nat},Z5 a0 a1 a2 a3=some r→GTo Tryz.prog 80 [(vB a0),(vB a1),(vB a2),.ip (Z6 a3) 0] O n ((vB r)) O n
theorem Zzt {Yo:(Zb→Option Bool)} {Yl:(Zb→Int→Option Bool)} {Z9:((List Zj)→Int→Option Bool)} {Ya:(Zb→Int→Option Bool)} {Yc:(Int→Zg→Int→Option Bool)} {Z5:(Bool→Bool→Bool→Zg→Option Bool)} (Jy:Uq Yo) (K2:Ur Yl) (Kx:Jf Z9) (Vn:J5 Ya) (Ui:Ko Yc) (Xe:Jg Z5) {a0:Zb} {r:Bool} {O:Objs} {n:Nat} (h:Zgi Yo Yl Z9 Ya Yc Z5 a0=some r):GTo Tryz.prog 10 [.agg (Ze a0)] O n ((vB r)) O n:=by
 unfold Zgi at h
 refine fn0 Zt Tryz.call10 Tryz.func10 rfl fun hU hN0 hN => ?_
 show W _ _ _ _ ⟨5,[],[(0,.agg (Ze a0))]⟩ (Zr O n []) _
 refine zQ [1] ?_
 refine Zl ?_
 obtain ⟨y2,hy2,h⟩:=bC h
 refine zCd (K2 hy2) [2] [false] ?_
 refine zW ?_
 obtain rfl:=sI h
 refine Zq (.inr rfl) hU [(vB y2)] (by omega) ?_
 simp only [push_cast,seval,Zf,Tryz.results10,hN0,hN]
theorem Zzu {Yo:(Zb→Option Bool)} {Yl:(Zb→Int→Option Bool)} {Z9:((List Zj)→Int→Option Bool)} {Ya:(Zb→Int→Option Bool)} {Yc:(Int→Zg→Int→Option Bool)} {Z5:(Bool→Bool→Bool→Zg→Option Bool)} (Jy:Uq Yo) (K2:Ur Yl) (Kx:Jf Z9) (Vn:J5 Ya) (Ui:Ko Yc) (Xe:Jg Z5) {a0:Zb} {a1:Int} {r:Bool} {O:Objs} {n:Nat} (h:Zgj Yo Yl Z9 Ya Yc Z5 a0 a1=some r):GTo Tryz.prog 22 [.agg (Ze a0),(vI a1)] O n ((vB r)) O n:=by
 unfold Zgj at h
 refine fn0 Zt Tryz.call22 Tryz.func22 rfl fun hU hN0 hN => ?_
 show W _ _ _ _ ⟨55,[],[(0,.agg (Ze a0)),(1,(vI a1))]⟩ (Zr O n []) _
 refine zQ [1,2] ?_
 refine Zl ?_
 refine zQ [1,2,7] ?_
 refine Zp (t:=(a1 == 0)) rfl (fun c39 => ?_) (fun c39 => ?_)
 ·replace h:=Zo c39 h
  refine zQ [4] ?_
  refine zW ?_
  obtain rfl:=sI h
  refine Zq (.inr rfl) hU [(vB false)] (by omega) ?_
  simp only [push_cast,seval,Zf,Tryz.results22,hN0,hN]
 replace h:=Zn c39 h
 refine Q5 [1,2] [true] ?_
 refine Zan ⟨55,[],[(1,(vI a1)),(2,.ip (Ze a0) 0)]⟩ (Zr O n [none]) (Zz hU rfl rfl ?_) ?_
 ·exact zSe
 refine zQ [1,2,5] ?_
 refine Zl ?_
 refine zQ [1,2,5,10] ?_
 refine Z0 ?_
 refine zQ [1,2,5,10,11] ?_
 refine Zp (t:=(a0.Kind == 0)) rfl (fun c38 => ?_) (fun c38 => ?_)
 ·replace h:=Zo c38 h
  refine Zl ?_
  obtain ⟨y2,hy2,h⟩:=bC h
  refine zR ?_
  refine GCalls.argsW ?_ ((Jx hy2).then ?_)
  ·exact zSe
  refine zS ?_
  refine zD [4] [false] ?_
  refine zW ?_
  obtain rfl:=sI h
  refine Zq (.inr rfl) hU [(vB y2)] (by omega) ?_
  simp only [push_cast,seval,Zf,Tryz.results22,hN0,hN]
 replace h:=Zn c38 h
 refine zQ [1,2,5,10,15] ?_
 refine Zp (t:=(a0.Kind == 1)) rfl (fun c37 => ?_) (fun c37 => ?_)
 ·replace h:=Zo c37 h
  obtain ⟨z6,hz6,h⟩:=bC h
  refine Yk (E':=⟨55,[],[(4,(vB z6))]⟩) (O':=(Zr O n [none])) (n0:=(n+1)) ?_ ?_
  ·obtain ⟨y10,hy10,hz6⟩:=bC hz6
   rcases Bool.eq_false_or_eq_true y10 with c13 | c13
   ·replace hz6:=Zo c13 hz6
    obtain ⟨y11,hy11,hz6⟩:=bC hz6
    rcases Bool.eq_false_or_eq_true y11 with c14 | c14
    ·replace hz6:=Zo c14 hz6
     try rw [c14] at c13
     obtain ⟨y12,hy12,hz6⟩:=bC hz6
     refine Ja (Zvz []) c13 c14 ?_
     refine GCalls.argsW ?_ ((Jx hy10).then ?_)
     ·exact Vt c13 c14
     refine zX2 c13 c14 ?_
     refine (Zk7 hy11).then ?_
     refine zX2 c13 c14 ?_
     refine (Zk7 hy12).then ?_
     refine zX2 c13 c14 ?_
     exact Zbp hz6 c13 c14
    replace hz6:=Zn c14 hz6
    try rw [c14] at c13
    refine Ja (Zvy (Z5l [])) c13 c14 ?_
    refine GCalls.argsW ?_ ((Jx hy10).then ?_)
    ·exact Vt c13 c14
    refine zX2 c13 c14 ?_
    refine (Zk7 hy11).then ?_
    refine zX2 c13 c14 ?_
    exact Zbp hz6 c13 c14
   replace hz6:=Zn c13 hz6
   refine K3 (Zzo []) c13 ?_
   refine GCalls.argsW ?_ ((Jx hy10).then ?_)
   ·exact Ya0 c13
   refine zX1 c13 ?_
   exact Kq hz6 c13
  refine zW ?_
  obtain rfl:=sI h
  refine Zq (.inr rfl) hU [(vB z6)] (by omega) ?_
  simp only [push_cast,seval,Zf,Tryz.results22,hN0,hN]
 replace h:=Zn c37 h
 refine zQ [1,2,5,10,29] ?_
 refine Zp (t:=(a0.Kind == 2)) rfl (fun c36 => ?_) (fun c36 => ?_)
 ·replace h:=Zo c36 h
  obtain ⟨z18,hz18,h⟩:=bC h
  refine Yk (E':=⟨55,[],[(4,(vB z18))]⟩) (O':=(Zr O n [none])) (n0:=(n+1)) ?_ ?_
  ·obtain ⟨y22,hy22,hz18⟩:=bC hz18
   rcases Bool.eq_false_or_eq_true y22 with c25 | c25
   ·replace hz18:=Zo c25 hz18
    obtain ⟨y23,hy23,hz18⟩:=bC hz18
    rcases Bool.eq_false_or_eq_true y23 with c26 | c26
    ·replace hz18:=Zo c26 hz18
     try rw [c26] at c25
     obtain ⟨y24,hy24,hz18⟩:=bC hz18
     refine Ja (Ygl []) c25 c26 ?_
     refine GCalls.argsW ?_ ((Jx hy22).then ?_)
     ·exact Vt c25 c26
     refine zX2 c25 c26 ?_
     refine (Zjs hy23).then ?_
     refine zX2 c25 c26 ?_
     refine (Kx hy24).then ?_
     refine zX2 c25 c26 ?_
     exact Zbp hz18 c25 c26
    replace hz18:=Zn c26 hz18
    try rw [c26] at c25
    refine Ja (Zvy (Zvx [])) c25 c26 ?_
    refine GCalls.argsW ?_ ((Jx hy22).then ?_)
    ·exact Vt c25 c26
    refine zX2 c25 c26 ?_
    refine (Zjs hy23).then ?_
    refine zX2 c25 c26 ?_
    exact Zbp hz18 c25 c26
   replace hz18:=Zn c25 hz18
   refine K3 (Ygk []) c25 ?_
   refine GCalls.argsW ?_ ((Jx hy22).then ?_)
   ·exact Ya0 c25
   refine zX1 c25 ?_
   exact Kq hz18 c25
  refine zW ?_
  obtain rfl:=sI h
  refine Zq (.inr rfl) hU [(vB z18)] (by omega) ?_
  simp only [push_cast,seval,Zf,Tryz.results22,hN0,hN]
 replace h:=Zn c36 h
 refine zQ [1,2,5,45] ?_
 refine Zp (t:=(a0.Kind == 3)) rfl (fun c35 => ?_) (fun c35 => ?_)
 ·replace h:=Zo c35 h
  obtain ⟨z29,hz29,h⟩:=bC h
  refine Yk (E':=⟨55,[],[(4,(vB z29))]⟩) (O':=(Zr O n [none])) (n0:=(n+1)) ?_ ?_
  ·obtain ⟨y32,hy32,hz29⟩:=bC hz29
   rcases Bool.eq_false_or_eq_true y32 with c34 | c34
   ·replace hz29:=Zo c34 hz29
    obtain ⟨y33,hy33,hz29⟩:=bC hz29
    refine K3 (Z65 []) c34 ?_
    refine GCalls.argsW ?_ ((Jx hy32).then ?_)
    ·exact Ya0 c34
    refine zX1 c34 ?_
    refine (Vn hy33).then ?_
    refine zX1 c34 ?_
    exact Kq hz29 c34
   replace hz29:=Zn c34 hz29
   refine K3 (Z5m []) c34 ?_
   refine GCalls.argsW ?_ ((Jx hy32).then ?_)
   ·exact Ya0 c34
   refine zX1 c34 ?_
   exact Kq hz29 c34
  refine zW ?_
  obtain rfl:=sI h
  refine Zq (.inr rfl) hU [(vB z29)] (by omega) ?_
  simp only [push_cast,seval,Zf,Tryz.results22,hN0,hN]
 replace h:=Zn c35 h
 refine Q5 [] [false] ?_
 refine zQ [4] ?_
 refine zW ?_
 obtain rfl:=sI h
 refine Zq (.inr rfl) hU [(vB false)] (by omega) ?_
 simp only [push_cast,seval,Zf,Tryz.results22,hN0,hN]
theorem Zrm {Yo:(Zb→Option Bool)} {Yl:(Zb→Int→Option Bool)} {Z9:((List Zj)→Int→Option Bool)} {Ya:(Zb→Int→Option Bool)} {Yc:(Int→Zg→Int→Option Bool)} {Z5:(Bool→Bool→Bool→Zg→Option Bool)} (Jy:Uq Yo) (K2:Ur Yl) (Kx:Jf Z9) (Vn:J5 Ya) (Ui:Ko Yc) (Xe:Jg Z5) {a0:(List Zj)} {a1:Int} {r:Bool} {O:Objs} {n:Nat} (h:Zcb Yo Yl Z9 Ya Yc Z5 a0 a1=some r):GTo Tryz.prog 45 [(sL Zh a0),(vI a1)] O n ((vB r)) O n:=by
 unfold Zcb at h
 refine fn0 Zt Tryz.call45 Tryz.func45 rfl fun hU hN0 hN => ?_
 show W _ _ _ _ ⟨39,[],[(0,(sL Zh a0)),(1,(vI a1))]⟩ (Zr O n []) _
 refine zQ [0,1] ?_
 refine zQ [0,1,5] ?_
 refine Zl ?_
 refine zQd [1,5,8,9,10] [1,5,8,9,10] [] ?_
 obtain ⟨z12,hz12,h⟩:=bC h
 refine U3 (J:=(Xg (fun z12=>JR n (⟨39,[],[(4,(vB false))]⟩:Env) (Zr O n []) n) (fun z12=>JX 0 n (⟨39,[],[]⟩:Env) (Zr O n []) n))) (z:=z12) ?_ fun hw => ?_
 ·refine Yi hz12 (fun s0_=>⟨39,[],[(1,(vI a1)),(5,(vI s0_.1)),(8,(sL Zh a0)),(9,(vI (a0.length:Int))),(10,(vI s0_.2))]⟩) (fun s0_=>(Zr O n [])) (Xg (fun z12=>JR n (⟨39,[],[(4,(vB false))]⟩:Env) (Zr O n []) n) (fun z12=>JX 0 n (⟨39,[],[]⟩:Env) (Zr O n []) n)) ?_
  intro s0_ x0_ hs0_
  unfold Uu at hs0_
  try dsimp only
  refine zQ [1,5,8,9,10,11] ?_
  refine Zl ?_
  refine Zp (t:=(decide (s0_.2 < (a0.length:Int)))) rfl (fun c11 => ?_) (fun c11 => ?_)
  ·replace hs0_:=Zo c11 hs0_
   refine Q5 [1,5,8,9,10] [] ?_
   refine Zl ?_
   refine Z0 ?_
   refine Zl ?_
   obtain ⟨x2,hx2,ax2,bx2,cx2,hs0_⟩:=bE (f:=Zh) Zi1 (fun _=>rfl) (by decide) hs0_
   refine Zdr [] ax2 bx2 cx2 ?_
   refine zDs [1,5,7,8,9,10] [true] ?_
   obtain ⟨z4,hz4,hs0_⟩:=bC hs0_
   refine Yk (E':=⟨39,[],[(1,(vI a1)),(7,.ref n 0),(8,(sL Zh a0)),(9,(vI (a0.length:Int))),(10,(vI s0_.2)),(35,(vB z4))]⟩) (O':=(Zr O n [some ⟨false,40,12,1,(K1 x2)⟩])) (n0:=(n+1)) ?_ ?_
   ·rcases Bool.eq_false_or_eq_true (decide (x2.At≤s0_.1)) with c7 | c7
    ·replace hz4:=Zo c7 hz4
     refine K3 (Zux (Zvx [])) c7 ?_
     refine zG ?_
     exact Kq hz4 c7
    replace hz4:=Zn c7 hz4
    rcases Bool.eq_false_or_eq_true (decide (65534 < x2.At)) with c8 | c8
    ·replace hz4:=Zo c8 hz4
     try rw [c8] at c7
     refine Ja (Zux (Zvx [])) c7 c8 ?_
     refine zG ?_
     exact Zbp hz4 c7 c8
    replace hz4:=Zn c8 hz4
    try rw [c8] at c7
    rcases Bool.eq_false_or_eq_true (x2.E.Kind == 0) with c9 | c9
    ·replace hz4:=Zo c9 hz4
     try rw [c9] at c7
     try rw [c9] at c8
     refine U1 (Zux (Zvx [])) c7 c8 c9 ?_
     refine zG ?_
     exact Zdq hz4 c7 c8 c9
    replace hz4:=Zn c9 hz4
    try rw [c9] at c7
    try rw [c9] at c8
    obtain ⟨y6,hy6,hz4⟩:=bC hz4
    refine U1 (Zux (Ycb [])) c7 c8 c9 ?_
    refine zG ?_
    refine (K2 hy6).then ?_
    refine zX3 c7 c8 c9 ?_
    refine zG ?_
    exact Zdq hz4 c7 c8 c9
   refine Zp (t:=z4) rfl (fun c10 => ?_) (fun c10 => ?_)
   ·replace hs0_:=Zo c10 hs0_
    refine zQ [4] ?_
    refine zW ?_
    exact zEy hs0_
   replace hs0_:=Zn c10 hs0_
   refine Q5 [1,7,8,9,10] [true] ?_
   refine zRd [1,5,8,9,10] [false] ?_
   refine zR ?_
   exact Vu hs0_
  replace hs0_:=Zn c11 hs0_
  exact zEx hs0_
 rcases z12 with z12 | z12
 ·dsimp only [Xg] at hw h
  refine Qj hw ?_
  try simp only [Yg,Z3,↓reduceIte,Nat.reduceEqDiff]
  obtain rfl:=sI h
  refine Zq (.inr rfl) hU [(vB false)] (by omega) ?_
  simp only [push_cast,seval,Zf,Tryz.results45,hN0,hN]
 dsimp only [Xg] at hw h
 refine Z8 hw ?_
 try simp only [Yg,Z3,↓reduceIte,Nat.reduceEqDiff]
 refine zD [] [] ?_
 refine zQ [4] ?_
 refine zW ?_
 obtain rfl:=sI h
 refine Zq (.inr rfl) hU [(vB true)] (by omega) ?_
 simp only [push_cast,seval,Zf,Tryz.results45,hN0,hN]
theorem Zst {Yo:(Zb→Option Bool)} {Yl:(Zb→Int→Option Bool)} {Z9:((List Zj)→Int→Option Bool)} {Ya:(Zb→Int→Option Bool)} {Yc:(Int→Zg→Int→Option Bool)} {Z5:(Bool→Bool→Bool→Zg→Option Bool)} (Jy:Uq Yo) (K2:Ur Yl) (Kx:Jf Z9) (Vn:J5 Ya) (Ui:Ko Yc) (Xe:Jg Z5) {a0:Zb} {a1:Int} {r:Bool} {O:Objs} {n:Nat} (h:Zdb Yo Yl Z9 Ya Yc Z5 a0 a1=some r):GTo Tryz.prog 46 [.agg (Ze a0),(vI a1)] O n ((vB r)) O n:=by
 unfold Zdb at h
 refine fn0 Zt Tryz.call46 Tryz.func46 rfl fun hU hN0 hN => ?_
 show W _ _ _ _ ⟨38,[],[(0,.agg (Ze a0)),(1,(vI a1))]⟩ (Zr O n []) _
 refine zQ [1,2] ?_
 refine Zl ?_
 refine Zl ?_
 obtain ⟨y2,hy2,h⟩:=bC h
 refine zCd (Zsq hy2) [1,2,12] [true] ?_
 refine Zp (t:=(!y2)) rfl (fun c12 => ?_) (fun c12 => ?_)
 ·replace h:=Zo c12 h
  refine zQ [4] ?_
  refine zW ?_
  obtain rfl:=sI h
  refine Zq (.inr rfl) hU [(vB false)] (by omega) ?_
  simp only [push_cast,seval,Zf,Tryz.results46,hN0,hN]
 replace h:=Zn c12 h
 refine Q5 [1,2] [true] ?_
 refine Zl ?_
 refine zQd [1,2,14,15,16] [1,2,14,15,16] [true] ?_
 obtain ⟨z9,hz9,h⟩:=bC h
 refine U3 (J:=(Xg (fun z9=>JR n (⟨38,[],[(4,(vB false))]⟩:Env) (Zr O n [none]) (n+1)) (fun z9=>JX 0 n (⟨38,[],[(2,.ref n 0)]⟩:Env) (Zr O n [some ⟨false,30,11,1,(Ze a0)⟩]) (n+1)))) (z:=z9) ?_ fun hw => ?_
 ·refine Yi hz9 (fun s0_=>⟨38,[],[(1,(vI a1)),(2,.ref n 0),(14,(sL Zd a0.Ops)),(15,(vI (a0.Ops.length:Int))),(16,(vI s0_))]⟩) (fun s0_=>(Zr O n [some ⟨false,30,11,1,(Ze a0)⟩])) (Xg (fun z9=>JR n (⟨38,[],[(4,(vB false))]⟩:Env) (Zr O n [none]) (n+1)) (fun z9=>JX 0 n (⟨38,[],[(2,.ref n 0)]⟩:Env) (Zr O n [some ⟨false,30,11,1,(Ze a0)⟩]) (n+1))) ?_
  intro s0_ x0_ hs0_
  unfold Gp at hs0_
  try dsimp only
  refine zQ [1,2,14,15,16,17] ?_
  refine Zl ?_
  refine Zp (t:=(decide (s0_ < (a0.Ops.length:Int)))) rfl (fun c8 => ?_) (fun c8 => ?_)
  ·replace hs0_:=Zo c8 hs0_
   refine Q5 [1,2,14,15,16] [true] ?_
   refine Zl ?_
   refine Z0 ?_
   refine Zl ?_
   obtain ⟨x4,hx4,ax4,bx4,cx4,hs0_⟩:=bE (f:=Zd) Jw (fun _=>rfl) (by decide) hs0_
   refine Zdr [] ax4 bx4 cx4 ?_
   refine zDs [1,2,6,14,15,16] [true,true] ?_
   obtain ⟨y6,hy6,hs0_⟩:=bC hs0_
   refine zCd (Ui hy6) [1,2,14,15,16,25] [true,false] ?_
   refine Zp (t:=(!y6)) rfl (fun c7 => ?_) (fun c7 => ?_)
   ·replace hs0_:=Zo c7 hs0_
    refine zQ [4] ?_
    refine zW ?_
    exact zEy hs0_
   replace hs0_:=Zn c7 hs0_
   refine Q5 [1,2,14,15,16] [true,false] ?_
   refine zR ?_
   exact Vu hs0_
  replace hs0_:=Zn c8 hs0_
  exact zEx hs0_
 rcases z9 with z9 | z9
 ·dsimp only [Xg] at hw h
  refine Qj hw ?_
  try simp only [Yg,Z3,↓reduceIte,Nat.reduceEqDiff]
  obtain rfl:=sI h
  refine Zq (.inr rfl) hU [(vB false)] (by omega) ?_
  simp only [push_cast,seval,Zf,Tryz.results46,hN0,hN]
 dsimp only [Xg] at hw h
 refine Z8 hw ?_
 try simp only [Yg,Z3,↓reduceIte,Nat.reduceEqDiff]
 refine zDs [2] [true] ?_
 obtain ⟨y11,hy11,h⟩:=bC h
 refine zCd (Znq hy11) [7,8] [false] ?_
 refine zQD [4] [none,none] ?_
 refine zW ?_
 obtain rfl:=sI h
 refine Zq (.inr rfl) hU [(vB (cond (decide (y11.1 < 1048576)) (decide (y11.2 < 1048576)) false))] (by omega) ?_
 simp only [push_cast,seval,Zf,Tryz.results46,hN0,hN]
theorem Zu2 {Yo:(Zb→Option Bool)} {Yl:(Zb→Int→Option Bool)} {Z9:((List Zj)→Int→Option Bool)} {Ya:(Zb→Int→Option Bool)} {Yc:(Int→Zg→Int→Option Bool)} {Z5:(Bool→Bool→Bool→Zg→Option Bool)} (Jy:Uq Yo) (K2:Ur Yl) (Kx:Jf Z9) (Vn:J5 Ya) (Ui:Ko Yc) (Xe:Jg Z5) {a0:Int} {a1:Zg} {a2:Int} {r:Bool} {O:Objs} {n:Nat} (h:Zea Yo Yl Z9 Ya Yc Z5 a0 a1 a2=some r):GTo Tryz.prog 67 [(vI a0),.agg (Z6 a1),(vI a2)] O n ((vB r)) O n:=by
 unfold Zea at h
 refine fn0 Zt Tryz.call67 Tryz.func67 rfl fun hU hN0 hN => ?_
 show W _ _ _ _ ⟨60,[],[(0,(vI a0)),(1,.agg (Z6 a1)),(2,(vI a2))]⟩ (Zr O n []) _
 refine zQ [0,2,4] ?_
 refine Zan ⟨60,[],[(0,(vI a0)),(2,(vI a2)),(4,.ip (Z6 a1) 0)]⟩ (Zr O n [none]) (Zz hU rfl rfl ?_) ?_
 ·exact zSe
 refine zQ [0,2,4,7] ?_
 refine Zl ?_
 refine zQ [0,2,4,7,10] ?_
 refine Z0 ?_
 refine Zl ?_
 refine Z0 ?_
 obtain ⟨z1,hz1,h⟩:=bC h
 refine Ya4 (J:=(Xg (fun z1=>JN n (⟨60,[],[(0,(vI a0)),(4,.ip (Z6 a1) 0),(7,.fn 80 0 [.ip (Z6 a1) 0])]⟩:Env) (Zr O n [none]) (n+1)) (Xg (fun z1=>JR n (⟨60,[],[(6,(vB z1))]⟩:Env) (Zr O n [none]) (n+1)) (Xg (fun z1=>JX 4 n (⟨60,[],[(0,(vI a0)),(2,(vI a2)),(4,.ip (Z6 a1) 0),(7,.fn 80 0 [.ip (Z6 a1) 0])]⟩:Env) (Zr O n [none]) (n+1)) (fun z1=>JX 0 n (⟨60,[],[]⟩:Env) (Zr O n [none]) (n+1)))))) (z:=z1) ?_ fun hw => ?_
 ·refine Z0 ?_
  refine Z0 ?_
  refine Zl ?_
  refine Z0 ?_
  refine Zl ?_
  refine Zl ?_
  refine zQ [0,2,4,7,10,11] ?_
  refine Zp (t:=(a1.Kind == 0)) rfl (fun c7 => ?_) (fun c7 => ?_)
  ·replace hz1:=Zo c7 hz1
   refine zXt ?_
   refine zDs [4,7] [false] ?_
   refine Zl ?_
   obtain ⟨y3,hy3,hz1⟩:=bC hz1
   refine zRo [none,none,none,none,none,none] ?_
   refine zG ?_
   refine GCalls.argsW ?_ ((Xe hy3).then ?_)
   ·exact zSe
   refine zS ?_
   refine zG ?_
   refine zD [6] [false] ?_
   refine zW ?_
   exact Vu hz1
  replace hz1:=Zn c7 hz1
  refine Q5 [0,2,4,7,10] [false] ?_
  refine Zl ?_
  refine zQ [0,2,4,7,10,13] ?_
  refine Zp (t:=(a1.Kind == 1)) rfl (fun c6 => ?_) (fun c6 => ?_)
  ·replace hz1:=Zo c6 hz1
   refine zXt ?_
   exact Vu hz1
  replace hz1:=Zn c6 hz1
  refine Q5 [0,2,4,7,10] [false] ?_
  refine Zl ?_
  refine zQ [0,2,4,7,10,15] ?_
  refine Zp (t:=(a1.Kind == 2)) rfl (fun c5 => ?_) (fun c5 => ?_)
  ·replace hz1:=Zo c5 hz1
   refine zXt ?_
   exact Vu hz1
  replace hz1:=Zn c5 hz1
  refine Q5 [0,2,4,7,10] [false] ?_
  refine zQ [0,2,4,7,17] ?_
  refine Zp (t:=(a1.Kind == 3)) rfl (fun c4 => ?_) (fun c4 => ?_)
  ·replace hz1:=Zo c4 hz1
   refine zXt ?_
   exact Vu hz1
  replace hz1:=Zn c4 hz1
  refine Q5 [] [false] ?_
  refine zXt ?_
  exact Vu hz1
 rcases z1 with z1 | z1
 ·dsimp only [Xg] at hw h
  refine Yk hw ?_
  refine Zl ?_
  obtain ⟨z10,hz10,h⟩:=bC h
  refine Yk (E':=⟨60,[],[(6,(vB z10))]⟩) (O':=(Zr O n [none])) (n0:=(n+1)) ?_ ?_
  ·obtain ⟨y13,hy13,hz10⟩:=bC hz10
   rcases Bool.eq_false_or_eq_true y13 with c15 | c15
   ·replace hz10:=Zo c15 hz10
    rcases Bool.eq_false_or_eq_true (decide (0 < (a1.L.length:Int))) with c16 | c16
    ·replace hz10:=Zo c16 hz10
     try rw [c16] at c15
     obtain ⟨y14,hy14,hz10⟩:=bC hz10
     refine Ja (Z2u (Ycb [])) c15 c16 ?_
     refine zG ?_
     refine GCalls.argsW ?_ ((Xe hy13).then ?_)
     ·exact Vt c15 c16
     refine zX2 c15 c16 ?_
     refine zG ?_
     refine GCalls.argsW ?_ ((Zq7 hy14).then ?_)
     ·exact Vt c15 c16
     refine zX2 c15 c16 ?_
     refine zG ?_
     exact Zbp hz10 c15 c16
    replace hz10:=Zn c16 hz10
    try rw [c16] at c15
    refine Ja (Z2u (Zvx [])) c15 c16 ?_
    refine zG ?_
    refine GCalls.argsW ?_ ((Xe hy13).then ?_)
    ·exact Vt c15 c16
    refine zX2 c15 c16 ?_
    refine zG ?_
    exact Zbp hz10 c15 c16
   replace hz10:=Zn c15 hz10
   refine K3 (Z2u (Zvx [])) c15 ?_
   refine zG ?_
   refine GCalls.argsW ?_ ((Xe hy13).then ?_)
   ·exact Ya0 c15
   refine zX1 c15 ?_
   refine zG ?_
   exact Kq hz10 c15
  refine zW ?_
  obtain rfl:=sI h
  refine Zq (.inr rfl) hU [(vB z10)] (by omega) ?_
  simp only [push_cast,seval,Zf,Tryz.results67,hN0,hN]
 rcases z1 with z1 | z1
 ·dsimp only [Xg] at hw h
  refine Z6j hw ?_
  try simp only [Yg,Z3]
  obtain rfl:=sI h
  refine Zq (.inr rfl) hU [(vB z1)] (by omega) ?_
  simp only [push_cast,seval,Zf,Tryz.results67,hN0,hN]
 rcases z1 with z1 | z1
 ·dsimp only [Xg] at hw h
  refine Ya2 hw ?_
  try simp only [Yg,Z3,↓reduceIte,Nat.reduceEqDiff]
  refine zDs [0,2,4,7] [false] ?_
  obtain ⟨z20,hz20,h⟩:=bC h
  refine Yk (E':=⟨60,[],[(6,(vB z20))]⟩) (O':=(Zr O n [none])) (n0:=(n+1)) ?_ ?_
  ·obtain ⟨y24,hy24,hz20⟩:=bC hz20
   rcases Bool.eq_false_or_eq_true y24 with c27 | c27
   ·replace hz20:=Zo c27 hz20
    obtain ⟨y25,hy25,hz20⟩:=bC hz20
    rcases Bool.eq_false_or_eq_true y25 with c28 | c28
    ·replace hz20:=Zo c28 hz20
     try rw [c28] at c27
     obtain ⟨y26,hy26,hz20⟩:=bC hz20
     refine Ja (Ygl []) c27 c28 ?_
     refine GCalls.argsW ?_ ((Xe hy24).then ?_)
     ·exact Vt c27 c28
     refine zX2 c27 c28 ?_
     refine (Zlp hy25).then ?_
     refine zX2 c27 c28 ?_
     refine (K2 hy26).then ?_
     refine zX2 c27 c28 ?_
     exact Zbp hz20 c27 c28
    replace hz20:=Zn c28 hz20
    try rw [c28] at c27
    refine Ja (Z65 (Z5m [])) c27 c28 ?_
    refine GCalls.argsW ?_ ((Xe hy24).then ?_)
    ·exact Vt c27 c28
    refine zX2 c27 c28 ?_
    refine (Zlp hy25).then ?_
    refine zX2 c27 c28 ?_
    exact Zbp hz20 c27 c28
   replace hz20:=Zn c27 hz20
   refine K3 (Ygk []) c27 ?_
   refine GCalls.argsW ?_ ((Xe hy24).then ?_)
   ·exact Ya0 c27
   refine zX1 c27 ?_
   exact Kq hz20 c27
  refine zW ?_
  obtain rfl:=sI h
  refine Zq (.inr rfl) hU [(vB z20)] (by omega) ?_
  simp only [push_cast,seval,Zf,Tryz.results67,hN0,hN]
 dsimp only [Xg] at hw h
 refine Ya2 hw ?_
 try simp only [Yg,Z3,↓reduceIte,Nat.reduceEqDiff]
 refine zD [] [false] ?_
 refine zQ [6] ?_
 refine zW ?_
 obtain rfl:=sI h
 refine Zq (.inr rfl) hU [(vB false)] (by omega) ?_
 simp only [push_cast,seval,Zf,Tryz.results67,hN0,hN]
theorem Zrn {Yo:(Zb→Option Bool)} {Yl:(Zb→Int→Option Bool)} {Z9:((List Zj)→Int→Option Bool)} {Ya:(Zb→Int→Option Bool)} {Yc:(Int→Zg→Int→Option Bool)} {Z5:(Bool→Bool→Bool→Zg→Option Bool)} (Jy:Uq Yo) (K2:Ur Yl) (Kx:Jf Z9) (Vn:J5 Ya) (Ui:Ko Yc) (Xe:Jg Z5) {a0:Bool} {a1:Bool} {a2:Bool} {a3:Zg} {r:Bool} {O:Objs} {n:Nat} (h:Zcc Yo Yl Z9 Ya Yc Z5 a0 a1 a2 a3=some r):GTo Tryz.prog 80 [(vB a0),(vB a1),(vB a2),.ip (Z6 a3) 0] O n ((vB r)) O n:=by
 unfold Zcc at h
 refine fn0 Zt Tryz.call80 Tryz.func80 rfl fun hU hN0 hN => ?_
 show W _ _ _ _ ⟨41,[],[(0,(vB a0)),(1,(vB a1)),(2,(vB a2)),(3,.ip (Z6 a3) 0)]⟩ (Zr O n []) _
 refine zQ [0,1,2,3] ?_
 obtain ⟨z5,hz5,h⟩:=bC h
 refine Yk (E':=⟨41,[],[(7,(vB z5))]⟩) (O':=(Zr O n [])) (n0:=n) ?_ ?_
 ·rcases Bool.eq_false_or_eq_true a0 with c14 | c14
  ·replace hz5:=Zo c14 hz5
   rcases Bool.eq_false_or_eq_true (a3.N != 0) with c15 | c15
   ·replace hz5:=Zo c15 hz5
    try rw [c15] at c14
    refine Ja (Zjn (Z5k [])) c14 c15 ?_
    refine zG ?_
    exact Zbp hz5 c14 c15
   replace hz5:=Zn c15 hz5
   try rw [c15] at c14
   rcases Bool.eq_false_or_eq_true a1 with c16 | c16
   ·replace hz5:=Zo c16 hz5
    try rw [c16] at c14
    try rw [c16] at c15
    rcases Bool.eq_false_or_eq_true (decide (0 < (a3.L.length:Int))) with c17 | c17
    ·replace hz5:=Zo c17 hz5
     try rw [c17] at c14
     try rw [c17] at c15
     try rw [c17] at c16
     refine Zud (Zjn (Z5k [])) c14 c15 c16 c17 ?_
     refine zG ?_
     exact Zuc hz5 c14 c15 c16 c17
    replace hz5:=Zn c17 hz5
    try rw [c17] at c14
    try rw [c17] at c15
    try rw [c17] at c16
    rcases Bool.eq_false_or_eq_true a2 with c18 | c18
    ·replace hz5:=Zo c18 hz5
     try rw [c18] at c14
     try rw [c18] at c15
     try rw [c18] at c16
     try rw [c18] at c17
     rcases Bool.eq_false_or_eq_true (a3.E.Kind != 0) with c19 | c19
     ·replace hz5:=Zo c19 hz5
      try rw [c19] at c14
      try rw [c19] at c15
      try rw [c19] at c16
      try rw [c19] at c17
      try rw [c19] at c18
      refine Ydk (Zjn (Z66 (Z5m (Zvy [])))) c14 c15 c16 c17 c18 c19 ?_
      refine zG ?_
      exact Yf0 hz5 c14 c15 c16 c17 c18 c19
     replace hz5:=Zn c19 hz5
     try rw [c19] at c14
     try rw [c19] at c15
     try rw [c19] at c16
     try rw [c19] at c17
     try rw [c19] at c18
     obtain ⟨y10,hy10,hz5⟩:=bC hz5
     refine Ydk (Zjn (Zso [])) c14 c15 c16 c17 c18 c19 ?_
     refine zG ?_
     refine (Jy hy10).then ?_
     refine zX6 c14 c15 c16 c17 c18 c19 ?_
     refine zG ?_
     exact Yf0 hz5 c14 c15 c16 c17 c18 c19
    replace hz5:=Zn c18 hz5
    try rw [c18] at c14
    try rw [c18] at c15
    try rw [c18] at c16
    try rw [c18] at c17
    refine Z6g (Zjn (Jb::Jb::Z5j [Jb,Jb])) c14 c15 c16 c17 c18 ?_
    refine zG ?_
    exact Z1r hz5 c14 c15 c16 c17 c18
   replace hz5:=Zn c16 hz5
   try rw [c16] at c14
   try rw [c16] at c15
   rcases Bool.eq_false_or_eq_true a2 with c20 | c20
   ·replace hz5:=Zo c20 hz5
    try rw [c20] at c14
    try rw [c20] at c15
    try rw [c20] at c16
    rcases Bool.eq_false_or_eq_true (a3.E.Kind != 0) with c21 | c21
    ·replace hz5:=Zo c21 hz5
     try rw [c21] at c14
     try rw [c21] at c15
     try rw [c21] at c16
     try rw [c21] at c20
     refine Z6g (Zjn (Z66 (Z5m (Zvy [])))) c14 c15 c16 c20 c21 ?_
     refine zG ?_
     exact Z1r hz5 c14 c15 c16 c20 c21
    replace hz5:=Zn c21 hz5
    try rw [c21] at c14
    try rw [c21] at c15
    try rw [c21] at c16
    try rw [c21] at c20
    obtain ⟨y11,hy11,hz5⟩:=bC hz5
    refine Z6g (Zjn (Zso [])) c14 c15 c16 c20 c21 ?_
    refine zG ?_
    refine (Jy hy11).then ?_
    refine zX5 c14 c15 c16 c20 c21 ?_
    refine zG ?_
    exact Z1r hz5 c14 c15 c16 c20 c21
   replace hz5:=Zn c20 hz5
   try rw [c20] at c14
   try rw [c20] at c15
   try rw [c20] at c16
   refine Zud (Zjn (Jb::Jb::Z5j [Jb,Jb])) c14 c15 c16 c20 ?_
   refine zG ?_
   exact Zuc hz5 c14 c15 c16 c20
  replace hz5:=Zn c14 hz5
  rcases Bool.eq_false_or_eq_true a1 with c22 | c22
  ·replace hz5:=Zo c22 hz5
   try rw [c22] at c14
   rcases Bool.eq_false_or_eq_true (decide (0 < (a3.L.length:Int))) with c23 | c23
   ·replace hz5:=Zo c23 hz5
    try rw [c23] at c14
    try rw [c23] at c22
    refine U1 (Zjn (Z5k [])) c14 c22 c23 ?_
    refine zG ?_
    exact Zdq hz5 c14 c22 c23
   replace hz5:=Zn c23 hz5
   try rw [c23] at c14
   try rw [c23] at c22
   rcases Bool.eq_false_or_eq_true a2 with c24 | c24
   ·replace hz5:=Zo c24 hz5
    try rw [c24] at c14
    try rw [c24] at c22
    try rw [c24] at c23
    rcases Bool.eq_false_or_eq_true (a3.E.Kind != 0) with c25 | c25
    ·replace hz5:=Zo c25 hz5
     try rw [c25] at c14
     try rw [c25] at c22
     try rw [c25] at c23
     try rw [c25] at c24
     refine Z6g (Zjn (Z66 (Z5m (Zvy [])))) c14 c22 c23 c24 c25 ?_
     refine zG ?_
     exact Z1r hz5 c14 c22 c23 c24 c25
    replace hz5:=Zn c25 hz5
    try rw [c25] at c14
    try rw [c25] at c22
    try rw [c25] at c23
    try rw [c25] at c24
    obtain ⟨y12,hy12,hz5⟩:=bC hz5
    refine Z6g (Zjn (Zso [])) c14 c22 c23 c24 c25 ?_
    refine zG ?_
    refine (Jy hy12).then ?_
    refine zX5 c14 c22 c23 c24 c25 ?_
    refine zG ?_
    exact Z1r hz5 c14 c22 c23 c24 c25
   replace hz5:=Zn c24 hz5
   try rw [c24] at c14
   try rw [c24] at c22
   try rw [c24] at c23
   refine Zud (Zjn (Jb::Jb::Z5j [Jb,Jb])) c14 c22 c23 c24 ?_
   refine zG ?_
   exact Zuc hz5 c14 c22 c23 c24
  replace hz5:=Zn c22 hz5
  try rw [c22] at c14
  rcases Bool.eq_false_or_eq_true a2 with c26 | c26
  ·replace hz5:=Zo c26 hz5
   try rw [c26] at c14
   try rw [c26] at c22
   rcases Bool.eq_false_or_eq_true (a3.E.Kind != 0) with c27 | c27
   ·replace hz5:=Zo c27 hz5
    try rw [c27] at c14
    try rw [c27] at c22
    try rw [c27] at c26
    refine Zud (Zjn (Z66 (Z5m (Zvy [])))) c14 c22 c26 c27 ?_
    refine zG ?_
    exact Zuc hz5 c14 c22 c26 c27
   replace hz5:=Zn c27 hz5
   try rw [c27] at c14
   try rw [c27] at c22
   try rw [c27] at c26
   obtain ⟨y13,hy13,hz5⟩:=bC hz5
   refine Zud (Zjn (Zso [])) c14 c22 c26 c27 ?_
   refine zG ?_
   refine (Jy hy13).then ?_
   refine zX4 c14 c22 c26 c27 ?_
   refine zG ?_
   exact Zuc hz5 c14 c22 c26 c27
  replace hz5:=Zn c26 hz5
  try rw [c26] at c14
  try rw [c26] at c22
  refine U1 (Zjn (Jb::Jb::Z5j [Jb,Jb])) c14 c22 c26 ?_
  refine zG ?_
  exact Zdq hz5 c14 c22 c26
 refine zW ?_
 obtain rfl:=sI h
 refine Zq (.inr rfl) hU [(vB z5)] (by omega) ?_
 simp only [push_cast,seval,Zf,Tryz.results80,hN0,hN]
theorem Zuv:∀ k,(Uq ((Zm k).1))∧(Ur ((Zm k).2.1))∧(Jf ((Zm k).2.2.1))∧(J5 ((Zm k).2.2.2.1))∧(Ko ((Zm k).2.2.2.2.1))∧(Jg ((Zm k).2.2.2.2.2)):=fun k=>by
 induction k with
 | zero=>exact ⟨@fun a0 r O n h=>(nomatch (show (none:Option _)=some _ from h)),@fun a0 a1 r O n h=>(nomatch (show (none:Option _)=some _ from h)),@fun a0 a1 r O n h=>(nomatch (show (none:Option _)=some _ from h)),@fun a0 a1 r O n h=>(nomatch (show (none:Option _)=some _ from h)),@fun a0 a1 a2 r O n h=>(nomatch (show (none:Option _)=some _ from h)),@fun a0 a1 a2 a3 r O n h=>(nomatch (show (none:Option _)=some _ from h))⟩
 | succ k ih=>exact ⟨@fun a0 r O n h=>Zzt (ih.1) (ih.2.1) (ih.2.2.1) (ih.2.2.2.1) (ih.2.2.2.2.1) (ih.2.2.2.2.2)  h,@fun a0 a1 r O n h=>Zzu (ih.1) (ih.2.1) (ih.2.2.1) (ih.2.2.2.1) (ih.2.2.2.2.1) (ih.2.2.2.2.2)  h,@fun a0 a1 r O n h=>Zrm (ih.1) (ih.2.1) (ih.2.2.1) (ih.2.2.2.1) (ih.2.2.2.2.1) (ih.2.2.2.2.2)  h,@fun a0 a1 r O n h=>Zst (ih.1) (ih.2.1) (ih.2.2.1) (ih.2.2.2.1) (ih.2.2.2.2.1) (ih.2.2.2.2.2)  h,@fun a0 a1 a2 r O n h=>Zu2 (ih.1) (ih.2.1) (ih.2.2.1) (ih.2.2.2.1) (ih.2.2.2.2.1) (ih.2.2.2.2.2)  h,@fun a0 a1 a2 a3 r O n h=>Zrn (ih.1) (ih.2.1) (ih.2.2.1) (ih.2.2.2.1) (ih.2.2.2.2.1) (ih.2.2.2.2.2)  h⟩
theorem Zq6 {a0:Zb} {r:Bool} {O:Objs} {n:Nat} (h:Zmv a0=some r):GTo Tryz.prog 10 [.agg (Ze a0)] O n ((vB r)) O n:=by
 obtain ⟨k,hk⟩:=Ux h
 exact (Zuv k).1  hk
theorem Zk6 {a0:Zb} {r:Bool} {O:Objs} {n:Nat} (h:Ue a0=some r):GTo Tryz.prog 3 [.agg (Ze a0)] O n ((vB r)) O n:=by
 unfold Ue at h
 refine fn0 Zt Tryz.call3 Tryz.func3 rfl fun hU hN0 hN => ?_
 show W _ _ _ _ ⟨62,[],[(0,.agg (Ze a0))]⟩ (Zr O n []) _
 refine zQ [1] ?_
 refine Zl ?_
 obtain ⟨z3,hz3,h⟩:=bC h
 refine Yk (E':=⟨62,[],[(1,.ref n 0),(13,(vB z3))]⟩) (O':=(Zr O n [some ⟨false,30,11,1,(Ze a0)⟩])) (n0:=(n+1)) ?_ ?_
 ·obtain ⟨y6,hy6,hz3⟩:=bC hz3
  rcases Bool.eq_false_or_eq_true y6 with c8 | c8
  ·replace hz3:=Zo c8 hz3
   obtain ⟨y7,hy7,hz3⟩:=bC hz3
   refine K3 (Zvy []) c8 ?_
   refine (Zjp hy6).then ?_
   refine zX1 c8 ?_
   refine (Zqv hy7).then ?_
   refine zX1 c8 ?_
   exact Kq hz3 c8
  replace hz3:=Zn c8 hz3
  refine K3 (Z5l []) c8 ?_
  refine (Zjp hy6).then ?_
  refine zX1 c8 ?_
  exact Kq hz3 c8
 refine Zp (t:=z3) rfl (fun c51 => ?_) (fun c51 => ?_)
 ·replace h:=Zo c51 h
  refine Zl ?_
  obtain ⟨y10,hy10,h⟩:=bC h
  refine zCd (Ziw hy10) [2] [false] ?_
  refine zW ?_
  obtain rfl:=sI h
  refine Zq (.inr rfl) hU [(vB y10)] (by omega) ?_
  simp only [push_cast,seval,Zf,Tryz.results3,hN0,hN]
 replace h:=Zn c51 h
 refine Q5 [1] [true] ?_
 refine Zl ?_
 obtain ⟨y13,hy13,h⟩:=bC h
 obtain ⟨y14,hy14,h⟩:=bC h
 refine Vq Zt (by kernel_rfl) [] (by kernel_rfl) ?_
 refine zS ?_
 refine PCall.of (Zon hy13) ?_
 refine zS ?_
 refine PCall.of (Zqy hy14) ?_
 refine zS ?_
 refine zDs [3,4] [false] ?_
 refine zQ [3,4,23] ?_
 refine Zp (t:=((y13.length:Int) != (y14.length:Int))) rfl (fun c50 => ?_) (fun c50 => ?_)
 ·replace h:=Zo c50 h
  refine zQ [2] ?_
  refine zW ?_
  obtain rfl:=sI h
  refine Zq (.inr rfl) hU [(vB false)] (by omega) ?_
  simp only [push_cast,seval,Zf,Tryz.results3,hN0,hN]
 replace h:=Zn c50 h
 refine Q5 [3,4] [false] ?_
 refine Zl ?_
 refine zQd [3,4,5] [3,4,5] [false] ?_
 obtain ⟨z47,hz47,h⟩:=bC h
 refine U3 (J:=(Xg (fun z47=>JR n (⟨62,[],[(2,(vB false))]⟩:Env) (Zr O n [none]) (n+1)) (fun z47=>JX 0 n (⟨62,[],[]⟩:Env) (Zr O n [none]) (n+1)))) (z:=z47) ?_ fun hw => ?_
 ·refine Yi hz47 (fun s0_=>⟨62,[],[(3,(sL Zk y13)),(4,(sL Zk y14)),(5,(vI s0_))]⟩) (fun s0_=>(Zr O n [none])) (Xg (fun z47=>JR n (⟨62,[],[(2,(vB false))]⟩:Env) (Zr O n [none]) (n+1)) (fun z47=>JX 0 n (⟨62,[],[]⟩:Env) (Zr O n [none]) (n+1))) ?_
  intro s0_ x0_ hs0_
  unfold Qz at hs0_
  try dsimp only
  refine Zl ?_
  refine zQ [3,4,5,27] ?_
  refine Zp (t:=(decide (s0_ < (y13.length:Int)))) rfl (fun c46 => ?_) (fun c46 => ?_)
  ·replace hs0_:=Zo c46 hs0_
   refine Q5 [3,4,5] [false] ?_
   refine Zl ?_
   refine Z0 ?_
   obtain ⟨z24,hz24,hs0_⟩:=bC hs0_
   refine Yk (E':=⟨62,[],[(3,(sL Zk y13)),(4,(sL Zk y14)),(5,(vI s0_)),(60,(vB z24))]⟩) (O':=(Zr O n [none])) (n0:=(n+1)) ?_ ?_
   ·obtain ⟨x34,hx34,ax34,bx34,cx34,hz24⟩:=bE (f:=Zk) Zd7 (fun _=>rfl) (by decide) hz24
    obtain ⟨x35,hx35,ax35,bx35,cx35,hz24⟩:=bE (f:=Zk) Zd7 (fun _=>rfl) (by decide) hz24
    obtain ⟨y36,hy36,hz24⟩:=bC hz24
    rcases Bool.eq_false_or_eq_true y36 with c43 | c43
    ·replace hz24:=Zo c43 hz24
     obtain ⟨y38,hy38,hz24⟩:=bC hz24
     rcases Bool.eq_false_or_eq_true y38 with c44 | c44
     ·replace hz24:=Zo c44 hz24
      try rw [c44] at c43
      obtain ⟨y40,hy40,hz24⟩:=bC hz24
      obtain ⟨y42,hy42,hz24⟩:=bC hz24
      refine Vq Zt (by kernel_rfl) (Yhj []) (by kernel_rfl) ?_
      refine zF8 ax34 bx34 cx34 ax35 bx35 cx35 c43 c44 ?_
      refine PCall.of (Zc7 hy36) ?_
      refine zF8 ax34 bx34 cx34 ax35 bx35 cx35 c43 c44 ?_
      refine PCall.of (Zq6 hy38) ?_
      refine zF8 ax34 bx34 cx34 ax35 bx35 cx35 c43 c44 ?_
      refine PCall.of (Zjr hy40) ?_
      refine zF8 ax34 bx34 cx34 ax35 bx35 cx35 c43 c44 ?_
      refine PCall.of (Zc7 hy42) ?_
      refine zF8 ax34 bx34 cx34 ax35 bx35 cx35 c43 c44 ?_
      exact Ydj hz24 ax34 bx34 cx34 ax35 bx35 cx35 c43 c44
     replace hz24:=Zn c44 hz24
     try rw [c44] at c43
     refine Vq Zt (by kernel_rfl) (Zvz (Yfl [])) (by kernel_rfl) ?_
     refine zF8 ax34 bx34 cx34 ax35 bx35 cx35 c43 c44 ?_
     refine PCall.of (Zc7 hy36) ?_
     refine zF8 ax34 bx34 cx34 ax35 bx35 cx35 c43 c44 ?_
     refine PCall.of (Zq6 hy38) ?_
     refine zF8 ax34 bx34 cx34 ax35 bx35 cx35 c43 c44 ?_
     exact Ydj hz24 ax34 bx34 cx34 ax35 bx35 cx35 c43 c44
    replace hz24:=Zn c43 hz24
    refine Vq Zt (by kernel_rfl) (Yg8 []) (by kernel_rfl) ?_
    refine zF7 ax34 bx34 cx34 ax35 bx35 cx35 c43 ?_
    refine PCall.of (Zc7 hy36) ?_
    refine zF7 ax34 bx34 cx34 ax35 bx35 cx35 c43 ?_
    exact Z1q hz24 ax34 bx34 cx34 ax35 bx35 cx35 c43
   refine Zp (t:=z24) rfl (fun c45 => ?_) (fun c45 => ?_)
   ·replace hs0_:=Zo c45 hs0_
    refine zQ [2] ?_
    refine zW ?_
    exact zEy hs0_
   replace hs0_:=Zn c45 hs0_
   refine Q5 [3,4,5] [false] ?_
   refine zR ?_
   exact Vu hs0_
  replace hs0_:=Zn c46 hs0_
  exact zEx hs0_
 rcases z47 with z47 | z47
 ·dsimp only [Xg] at hw h
  refine Qj hw ?_
  try simp only [Yg,Z3,↓reduceIte,Nat.reduceEqDiff]
  obtain rfl:=sI h
  refine Zq (.inr rfl) hU [(vB false)] (by omega) ?_
  simp only [push_cast,seval,Zf,Tryz.results3,hN0,hN]
 dsimp only [Xg] at hw h
 refine Z8 hw ?_
 try simp only [Yg,Z3,↓reduceIte,Nat.reduceEqDiff]
 refine zDs [] [false] ?_
 obtain ⟨y49,hy49,h⟩:=bC h
 refine zCd (Ziw hy49) [2] [false] ?_
 refine zW ?_
 obtain rfl:=sI h
 refine Zq (.inr rfl) hU [(vB y49)] (by omega) ?_
 simp only [push_cast,seval,Zf,Tryz.results3,hN0,hN]
end Go.Proofs.YtkbcdcffpefklaaGreat
