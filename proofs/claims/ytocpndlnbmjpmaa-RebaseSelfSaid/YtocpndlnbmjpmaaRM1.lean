/- Part RM1 of this seat's mirrors: functions of the seat's program, and the plain functions that they are; each theorem bears its own conditions. -/
import Derived.Test.YtocpndlnbmjpmaaRD
namespace Go.Proofs.Ytocpndlnbmjpmaa
open Go.RowKit
set_option linter.unusedVariables false
set_option linter.unusedSimpArgs false
set_option maxRecDepth 100000
set_option maxHeartbeats 4000000
attribute [local push_cast] Try.results10 Try.results19 Try.results20 Try.results21 Try.results22 Try.results24 Try.results35 Try.results36 Try.results37 Try.results38 Try.results55 Try.results56 Try.results57 Try.results58 vI vB nV sL oR Zk Zbi Yz Zz Xb Xh Ys Qw Zf4 Zef Zqm Zpi Zlf Zlk Zle Zlj Znu Znq Zli Znt Zns Znr Zlg Znp Zjk evS wok K0 Op.operands Call.operands gop atK List.all_cons List.all_nil Bool.true_and Bool.and_self Value.oneCell' List.take_zero List.take_succ_cons List.take_nil List.drop_zero List.drop_succ_cons List.drop_nil List.append_nil Nat.add_zero Nat.zero_add Zbg Y3 ev K1 Zux Zqa Zp9 Zqf Zqd Zqe Zqb Zqc Zp8 Zs6 Zt0 Zxb Zki Zen Zjv Zew Zkw Zhm Zgp Zgu Zik Zig Zgs Zij Zii Zih Zgr Zif Zgq Zgt Zfm Zml Zio Zcw Zjw Zcx Zlu Zkg Zuz bLo bHi bMx Zeo Zlt Zyp Zkf Zme Zgl Zbq Ztp Zyt Zjt Zgw Zyw Zem Zz8 Zm2 Zm6 Zm1 Zm5 Zq0 Zqw Zqv Zky Zm3 Zqz Zqy Zqx Zm4 Zqr Zqu Zqq Zqt Zu6 Zu3 Zu2 Zqs Zu4 Zu5 Zkh gone pop TK.isAgg Zra Zre Zq9 Zrd Zng Zvr Zvn Zrc Zvq Zvp Zvo Zrb Zvm G.under G.unders List.set_cons_zero List.set_cons_succ List.map_cons List.map_nil List.toList_toArray Array.toList_append Option.toArray_none Option.toArray_some Option.map_some Option.map_none Option.bind_some Option.bind_none List.getElem?_cons_zero List.getElem?_cons_succ List.getElem?_nil List.nil_append List.cons_append List.replicate_succ List.replicate_zero List.length_cons List.length_nil and_true true_and false_and Bool.true_eq_false Bool.false_eq_true forall_const implies_true IntKind.bits ite_true ite_false eq_self not_false_eq_true decide_eq_true_eq decide_eq_false_iff_not beq_iff_eq ne_eq beq_eq_false_iff_ne beq_self_eq_true bne_self_eq_false Option.some.injEq exists_eq_left' ge_iff_le gt_iff_lt Bool.not_true Bool.not_false imp_self cond_true cond_false Z6a Z59 Bool.and_false Bool.false_and Vu Gu Ve Zbl Jj Qd Option.join_some Nat.add_assoc Int.toNat_natCast eI eL Zt Zia Zgz Zql Zqj Zqk Z0n Z21 Zic Zhe Zrn Zrl Zrm Zxk Zku Zur Zee Zs3 G.agg.injEq G.tup.injEq List.flatten_cons List.flatten_nil Nat.le_refl Bool.not_eq_true' Bool.not_eq_false' Zsv Zlo Zw7 Zw2 Zw6 Z11 Zo7 Zka G.ren G.rens Zrq G.fn.injEq Z96 Zw3 Zu8 Z0f Option.join_none Zbc undef Zmf Arr.len Arr.put_eq Zi9 Zrk Zri Zrj onB Z0m Ztn Zk2 Znl Znk Znj Zni Z20 Z5o Zxj Zvv Vx Zxd Zpp Zzb Zru Zke Zmd Zgv prT Zex Z8a Zwr Zfa Zws Z8b Zwt Zxn Zwu Z8c Zwv Z8d Zww Z8e Zwx Z8f Zwy Z02 Zrw Z03 Zrx Z04 Zry Z05 Zrz Z06 Zr0 Z07 Zr1 Z08 Zr2 Z09 Zr3 Z1a Zr4 Z1b Zr5 Z1c Zr6 Z1d Zma Ztw Zh7 Z1e Zr7 Zb9 Zr8 Z1f Zou Z1g Zmb Z1h Zov Z1i Zr9 Zhj Zsa Z1j Zsb Zjl Zsc Z1k Zsd V2 Zse Z1l Zsf Z1m Zsg Z1n Zsh Zlm Zsi Z1o Zsj Zc9 Zsk Z1p Zsl Z1q Zsm Z1r Zsn Z1s Zso Zyc Zsp Z1t Zsq Z1u Zsr Z1v Zss Z1w Zst Z1x Zsu Zwq Zow Zv9 Znv Zwa Znw Zwb Znx Zwc Zny Zwd Znz Zwe Zn0 Zwf Zn1 Zwg Zn2 Zwh Zn3 Zwi Zn4 Zwj Zn5 Zwk Zn6 Zwl Zn7 Zwm Zn8 Zwn Zn9 Zwo Zoa Zwp Zob Za Q9 Zjm Zcq Zd Qf Zf Zc Js X3 Us Gt Zd2 Z5z Z5h Z5p Yf
def Zfe (Q0:(Zb→Int→Int→Option Int)):Prop:=∀ {a0:Zb} {a1:Int} {a2:Int} {r:Int} {O:Objs} {n:Nat},Q0 a0 a1 a2=some r→GTo Try.prog 35 [.agg (Zz a0),(vI a1),(vI a2)] O n ((vI r)) O n
theorem Zl3 {Q0:(Zb→Int→Int→Option Int)} (Zk3:Zfe Q0) {a0:Zb} {a1:Int} {a2:Int} {r:Int} {O:Objs} {n:Nat} (h:Qx Q0 a0 a1 a2=some r):GTo Try.prog 35 [.agg (Zz a0),(vI a1),(vI a2)] O n ((vI r)) O n:=by
 unfold Qx at h
 refine zFn Try.call35 Try.func35 fun hU hN0 hN => ?_
 show W _ _ _ _ ⟨41,[],[(0,.agg (Zz a0)),(1,(vI a1)),(2,(vI a2))]⟩ (Zx O n []) _
 refine zQ [1,2,3] ?_
 refine zQ [1,2,3] ?_
 refine Zq ?_
 refine zQD [1,2,3,19] [none,none] ?_
 refine Z5 (t:=(cond (a1 == 0) true (decide ((IntKind.i64.wrap ((IntKind.i64.wrap (a2 - 1)) - (a0.Words.length:Int))) < 0)))) rfl (fun c5 => ?_) (fun c5 => ?_)
 ·replace h:=Z4 c5 h
  refine zQ [6] ?_
  exact X6 [(vI (-1))]
 replace h:=Z3 c5 h
 refine Gk [1,2,3] [true] ?_
 refine Zq ?_
 refine zQd [1,2,3,7] [1,2,3,7] [true] ?_
 obtain ⟨z4,hz4,h⟩:=bC h
 refine Y6 (E':=⟨41,[],[(2,(vI z4))]⟩) (O':=(Zx O n [none])) (n0:=(n+1)) ?_ ?_
 ·refine Xo hz4 (fun s0_=>⟨41,[],[(1,(vI a1)),(2,(vI s0_.1)),(3,.ref n 0),(7,(vI s0_.2))]⟩) (fun s0_=>(Zx O n [some ⟨false,25,3,1,(Zz a0)⟩])) (fun z4=>JX 0 n (⟨41,[],[(2,(vI z4))]⟩:Env) (Zx O n [none]) (n+1)) ?_
  intro s0_ x0_ hs0_
  unfold Qs at hs0_
  try dsimp only
  refine Zq ?_
  refine zQD [1,2,3,7,28] [none,none] ?_
  refine Z5 (t:=(cond (decide (s0_.2 < (a0.Kids.length:Int))) (decide (0≤s0_.1)) false)) rfl (fun c3 => ?_) (fun c3 => ?_)
  ·replace hs0_:=Z4 c3 hs0_
   refine Gk [1,2,3,7] [true] ?_
   refine Zq ?_
   refine Yy ?_
   obtain ⟨x1,hx1,ax1,bx1,cx1,hs0_⟩:=bE (f:=Za) Zb9 (fun _=>rfl) (by decide) hs0_
   obtain ⟨y2,hy2,hs0_⟩:=bC hs0_
   refine Zlq [] ax1 bx1 cx1 ?_
   refine (Zk3 hy2).then ?_
   refine zF3 ax1 bx1 cx1 ?_
   refine zD [1,2,3,7] [true] ?_
   refine zR ?_
   exact zEn hs0_
  replace hs0_:=Z3 c3 hs0_
  exact zEx hs0_
 try simp only [Xh,Ys,↓reduceIte,Nat.reduceEqDiff]
 refine zD [2] [false] ?_
 refine zQ [6] ?_
 exact X6 [(vI z4)]
theorem Zkj:∀ k,(Zfe (Xc k)):=fun k=>by
 induction k with
 | zero=>exact @fun a0 a1 a2 r O n h=>(nomatch (show (none:Option _)=some _ from h))
 | succ k ih=>exact @fun a0 a1 a2 r O n h=>Zl3 (ih)  h
theorem Zdd {a0:Zb} {a1:Int} {a2:Int} {r:Int} {O:Objs} {n:Nat} (h:K6 a0 a1 a2=some r):GTo Try.prog 35 [.agg (Zz a0),(vI a1),(vI a2)] O n ((vI r)) O n:=by
 obtain ⟨k,hk⟩:=Zbt h
 exact (Zkj k)  hk
def Zg6 (Qi:(Zg→Int→Int→Option Int)):Prop:=∀ {a0:Zg} {a1:Int} {a2:Int} {r:Int} {O:Objs} {n:Nat},Qi a0 a1 a2=some r→GTo Try.prog 19 [.agg (Zk a0),(vI a1),(vI a2)] O n ((vI r)) O n
theorem Zo4 {Qi:(Zg→Int→Int→Option Int)} (Zg9:Zg6 Qi) {a0:Zg} {a1:Int} {a2:Int} {r:Int} {O:Objs} {n:Nat} (h:J8 Qi a0 a1 a2=some r):GTo Try.prog 19 [.agg (Zk a0),(vI a1),(vI a2)] O n ((vI r)) O n:=by
 unfold J8 at h
 refine zFn Try.call19 Try.func19 fun hU hN0 hN => ?_
 show W _ _ _ _ ⟨107,[],[(0,.agg (Zk a0)),(1,(vI a1)),(2,(vI a2))]⟩ (Zx O n []) _
 refine zQ [1,2,3] ?_
 refine zQ [1,2,3] ?_
 refine Zq ?_
 refine zQD [1,2,3,25] [none,none] ?_
 refine Z5 (t:=(cond (a1 == 0) true (decide ((IntKind.i64.wrap ((IntKind.i64.wrap ((IntKind.i64.wrap (a2 - 1)) - (a0.Words.length:Int))) - (a0.Ops.length:Int))) < 0)))) rfl (fun c28 => ?_) (fun c28 => ?_)
 ·replace h:=Z4 c28 h
  refine zQ [6] ?_
  exact X6 [(vI (-1))]
 replace h:=Z3 c28 h
 refine Gk [1,2,3] [true] ?_
 refine Zq ?_
 obtain ⟨y2,hy2,h⟩:=bC h
 refine zCd (Zdd hy2) [1,2,3] [true] ?_
 obtain ⟨z3,hz3,h⟩:=bC h
 refine Xa (E':=⟨107,[],[(1,(vI a1)),(2,(vI z3)),(3,.ref n 0)]⟩) (O':=(Zx O n [some ⟨false,30,11,1,(Zk a0)⟩])) (n0:=(n+1)) ?_ ?_
 ·refine zQ [1,2,3,31] ?_
  refine Z5 (t:=(decide (0≤y2))) rfl (fun c5 => ?_) (fun c5 => ?_)
  ·replace hz3:=Z4 c5 hz3
   obtain ⟨y4,hy4,hz3⟩:=bC hz3
   refine zC (Zdd hy4) ?_
   exact zEn hz3
  replace hz3:=Z3 c5 hz3
  refine zK ?_
  exact zEn hz3
 refine Zq ?_
 refine zQd [1,2,3,7] [1,2,3,7] [true] ?_
 obtain ⟨z10,hz10,h⟩:=bC h
 refine Y6 (E':=⟨107,[],[(1,(vI a1)),(2,(vI z10)),(3,.ref n 0)]⟩) (O':=(Zx O n [some ⟨false,30,11,1,(Zk a0)⟩])) (n0:=(n+1)) ?_ ?_
 ·refine Xo hz10 (fun s0_=>⟨107,[],[(1,(vI a1)),(2,(vI s0_.1)),(3,.ref n 0),(7,(vI s0_.2))]⟩) (fun s0_=>(Zx O n [some ⟨false,30,11,1,(Zk a0)⟩])) (fun z10=>JX 0 n (⟨107,[],[(1,(vI a1)),(2,(vI z10)),(3,.ref n 0)]⟩:Env) (Zx O n [some ⟨false,30,11,1,(Zk a0)⟩]) (n+1)) ?_
  intro s0_ x0_ hs0_
  unfold Jq at hs0_
  try dsimp only
  refine Zq ?_
  refine zQD [1,2,3,7,44] [none,none] ?_
  refine Z5 (t:=(cond (decide (s0_.2 < (a0.Kids.length:Int))) (decide (0≤s0_.1)) false)) rfl (fun c9 => ?_) (fun c9 => ?_)
  ·replace hs0_:=Z4 c9 hs0_
   refine Gk [1,2,3,7] [true] ?_
   refine Zq ?_
   refine Yy ?_
   obtain ⟨x6,hx6,ax6,bx6,cx6,hs0_⟩:=bE (f:=Zc) Zc9 (fun _=>rfl) (by decide) hs0_
   have g7:=Jn (f:=Zc) (off:=1) (sz:=12) Zhj (fun _=>rfl) (by decide) (by decide) hx6
   obtain ⟨y8,hy8,hs0_⟩:=bC hs0_
   refine Zsw [] ax6 bx6 cx6 g7 ?_
   refine (Zg9 hy8).then ?_
   refine zF4 ax6 bx6 cx6 g7 ?_
   refine zD [1,2,3,7] [true] ?_
   refine zR ?_
   exact zEn hs0_
  replace hs0_:=Z3 c9 hs0_
  exact zEx hs0_
 try simp only [Xh,Ys,↓reduceIte,Nat.reduceEqDiff]
 refine zDs [1,2,3] [true] ?_
 refine zQd [1,2,3,8] [1,2,3,8] [true] ?_
 obtain ⟨z27,hz27,h⟩:=bC h
 refine Y6 (E':=⟨107,[],[(2,(vI z27))]⟩) (O':=(Zx O n [none])) (n0:=(n+1)) ?_ ?_
 ·refine Xo hz27 (fun s1_=>⟨107,[],[(1,(vI a1)),(2,(vI s1_.1)),(3,.ref n 0),(8,(vI s1_.2))]⟩) (fun s1_=>(Zx O n [some ⟨false,30,11,1,(Zk a0)⟩])) (fun z27=>JX 2 n (⟨107,[],[(2,(vI z27))]⟩:Env) (Zx O n [none]) (n+1)) ?_
  intro s1_ x1_ hs1_
  unfold Jr at hs1_
  try dsimp only
  refine Zq ?_
  refine zQD [1,2,3,8,65] [none,none] ?_
  refine Z5 (t:=(cond (decide (s1_.2 < (a0.Ops.length:Int))) (decide (0≤s1_.1)) false)) rfl (fun c26 => ?_) (fun c26 => ?_)
  ·replace hs1_:=Z4 c26 hs1_
   refine Gk [1,2,3,8] [true] ?_
   obtain ⟨z11,hz11,hs1_⟩:=bC hs1_
   refine Xa (E':=⟨107,[],[(1,(vI a1)),(2,(vI z11)),(3,.ref n 0),(8,(vI s1_.2))]⟩) (O':=(Zx O n [some ⟨false,30,11,1,(Zk a0)⟩])) (n0:=(n+1)) ?_ ?_
   ·refine Yy ?_
    refine Zq ?_
    refine zQd [1,2,3,8,9] [1,2,3,8,9] [true] ?_
    obtain ⟨z21,hz21,hz11⟩:=bC hz11
    refine Y6 (E':=⟨107,[],[(1,(vI a1)),(2,(vI z21)),(3,.ref n 0),(8,(vI s1_.2))]⟩) (O':=(Zx O n [some ⟨false,30,11,1,(Zk a0)⟩])) (n0:=(n+1)) ?_ ?_
    ·refine Xo hz21 (fun s2_=>⟨107,[],[(1,(vI a1)),(2,(vI s2_.1)),(3,.ref n 0),(8,(vI s1_.2)),(9,(vI s2_.2))]⟩) (fun s2_=>(Zx O n [some ⟨false,30,11,1,(Zk a0)⟩])) (fun z21=>JX 4 n (⟨107,[],[(1,(vI a1)),(2,(vI z21)),(3,.ref n 0),(8,(vI s1_.2))]⟩:Env) (Zx O n [some ⟨false,30,11,1,(Zk a0)⟩]) (n+1)) ?_
     intro s2_ x2_ hs2_
     unfold Uh at hs2_
     try dsimp only
     refine Zq ?_
     obtain ⟨x14,hx14,ax14,bx14,cx14,hs2_⟩:=bE (f:=Zf) V2 (fun _=>rfl) (by decide) hs2_
     have g15:=Jn (f:=Zf) (off:=2) (sz:=14) Ztw (fun _=>rfl) (by decide) (by decide) hx14
     refine Zce [1,2,3,8,9,80] (Ya Z0 [none,none] ?_)
     refine zF4 ax14 bx14 cx14 g15 ?_
     refine zG ?_
     refine Z5 (t:=(cond (decide (s2_.2 < (x14.L.length:Int))) (decide (0≤s2_.1)) false)) rfl (fun c20 => ?_) (fun c20 => ?_)
     ·replace hs2_:=Z4 c20 hs2_
      refine Gk [1,2,3,8,9] [true] ?_
      refine Zq ?_
      refine Yy ?_
      obtain ⟨x16,hx16,ax16,bx16,cx16,hs2_⟩:=bE (f:=Zf) V2 (fun _=>rfl) (by decide) hs2_
      have g17:=Jn (f:=Zf) (off:=2) (sz:=14) Ztw (fun _=>rfl) (by decide) (by decide) hx16
      obtain ⟨x18,hx18,ax18,bx18,cx18,hs2_⟩:=bE (f:=Za) Zb9 (fun _=>rfl) (by decide) hs2_
      obtain ⟨y19,hy19,hs2_⟩:=bC hs2_
      refine Z16 [] ax16 bx16 cx16 g17 ax18 bx18 cx18 ?_
      refine (Zdd hy19).then ?_
      refine zF7 ax16 bx16 cx16 g17 ax18 bx18 cx18 ?_
      refine zD [1,2,3,8,9] [true] ?_
      refine zR ?_
      exact zEn hs2_
     replace hs2_:=Z3 c20 hs2_
     exact zEx hs2_
    try simp only [Xh,Ys,↓reduceIte,Nat.reduceEqDiff]
    refine zD [1,2,3,8] [true] ?_
    refine zQ [1,2,3,8,95] ?_
    refine Z5 (t:=(decide (0≤z21))) rfl (fun c25 => ?_) (fun c25 => ?_)
    ·replace hz11:=Z4 c25 hz11
     obtain ⟨x22,hx22,ax22,bx22,cx22,hz11⟩:=bE (f:=Zf) V2 (fun _=>rfl) (by decide) hz11
     have g23:=Jn (f:=Zf) (off:=3) (sz:=14) Zhj (fun _=>rfl) (by decide) (by decide) hx22
     obtain ⟨y24,hy24,hz11⟩:=bC hz11
     refine Zsw [] ax22 bx22 cx22 g23 ?_
     refine (Zg9 hy24).then ?_
     refine zF4 ax22 bx22 cx22 g23 ?_
     exact Z8q hz11 ax22 bx22 cx22 g23
    replace hz11:=Z3 c25 hz11
    refine zK ?_
    exact zEn hz11
   refine zR ?_
   exact zEn hs1_
  replace hs1_:=Z3 c26 hs1_
  exact zEx hs1_
 try simp only [Xh,Ys,↓reduceIte,Nat.reduceEqDiff]
 refine zD [2] [false] ?_
 refine zQ [6] ?_
 exact X6 [(vI z27)]
theorem Zmo:∀ k,(Zg6 (Y5 k)):=fun k=>by
 induction k with
 | zero=>exact @fun a0 a1 a2 r O n h=>(nomatch (show (none:Option _)=some _ from h))
 | succ k ih=>exact @fun a0 a1 a2 r O n h=>Zo4 (ih)  h
theorem Zpt {a0:Zg} {a1:Int} {a2:Int} {r:Int} {O:Objs} {n:Nat} (h:Zfu a0 a1 a2=some r):GTo Try.prog 19 [.agg (Zk a0),(vI a1),(vI a2)] O n ((vI r)) O n:=by
 obtain ⟨k,hk⟩:=Zbt h
 exact (Zmo k)  hk
theorem Zfx {a0:Zg} {r:Bool} {O:Objs} {n:Nat} (h:Zcn a0=some r):GTo Try.prog 10 [.agg (Zk a0)] O n ((vB r)) O n:=by
 unfold Zcn at h
 refine zFn Try.call10 Try.func10 fun hU hN0 hN => ?_
 show W _ _ _ _ ⟨6,[],[(0,.agg (Zk a0))]⟩ (Zx O n []) _
 refine zQ [1] ?_
 refine Zq ?_
 obtain ⟨y2,hy2,h⟩:=bC h
 refine zCd (Zpt hy2) [2] [false] ?_
 exact X6 [(vB (decide (0≤y2)))]
theorem Ub {a0:Zb} {r:Bool} {O:Objs} {n:Nat} (h:Ki a0=some r):GTo Try.prog 20 [.agg (Zz a0)] O n ((vB r)) O n:=by
 unfold Ki at h
 refine zFn Try.call20 Try.func20 fun hU hN0 hN => ?_
 show W _ _ _ _ ⟨16,[],[(0,.agg (Zz a0))]⟩ (Zx O n []) _
 refine zQ [1] ?_
 refine zQD [2] [none,none,none,none,none,none,none,none] ?_
 exact X6 [(vB (cond (a0.Kind == 0) ((IntKind.i64.wrap ((a0.Words.length:Int)+(a0.Kids.length:Int))) == 0) false))]
theorem Zoy {a0:Int} {r:Int} {O:Objs} {n:Nat} (h:Ze0 a0=some r):GTo Try.prog 55 [(vI a0)] O n ((vI r)) O n:=by
 unfold Ze0 at h
 refine zFn Try.call55 Try.func55 fun hU hN0 hN => ?_
 show W _ _ _ _ ⟨16,[],[(0,(vI a0))]⟩ (Zx O n []) _
 refine zQ [0] ?_
 refine Zq ?_
 refine zQ [3] ?_
 refine Yy ?_
 refine zQ [3,4] ?_
 refine Z5 (t:=(a0 == 0)) rfl (fun c6 => ?_) (fun c6 => ?_)
 ·replace h:=Z4 c6 h
  refine zQ [2] ?_
  exact X6 [(vI 0)]
 replace h:=Z3 c6 h
 refine zQ [3,6] ?_
 refine Z5 (t:=(a0 == 1)) rfl (fun c5 => ?_) (fun c5 => ?_)
 ·replace h:=Z4 c5 h
  refine zQ [2] ?_
  exact X6 [(vI 1)]
 replace h:=Z3 c5 h
 refine zQ [3,8] ?_
 refine Z5 (t:=(a0 == 2)) rfl (fun c4 => ?_) (fun c4 => ?_)
 ·replace h:=Z4 c4 h
  refine zQ [2] ?_
  exact X6 [(vI 8)]
 replace h:=Z3 c4 h
 refine zQ [3,10] ?_
 refine Z5 (t:=(a0 == 3)) rfl (fun c3 => ?_) (fun c3 => ?_)
 ·replace h:=Z4 c3 h
  refine zQ [2] ?_
  exact X6 [(vI 16)]
 replace h:=Z3 c3 h
 refine zQ [3,12] ?_
 refine Z5 (t:=(a0 == 4)) rfl (fun c2 => ?_) (fun c2 => ?_)
 ·replace h:=Z4 c2 h
  refine zQ [2] ?_
  exact X6 [(vI 32)]
 replace h:=Z3 c2 h
 refine zQ [14] ?_
 refine Z5 (t:=(a0 == 5)) rfl (fun c1 => ?_) (fun c1 => ?_)
 ·replace h:=Z4 c1 h
  refine zQ [2] ?_
  exact X6 [(vI 64)]
 replace h:=Z3 c1 h
 refine Gk [] [] ?_
 refine zQ [2] ?_
 exact X6 [(vI (-1))]
theorem Zi1 {a0:Int} {a1:Int} {r:Bool} {O:Objs} {n:Nat} (h:U2 a0 a1=some r):GTo Try.prog 36 [(vI a0),.val (.int .u64 a1)] O n ((vB r)) O n:=by
 unfold U2 at h
 refine zFn Try.call36 Try.func36 fun hU hN0 hN => ?_
 show W _ _ _ _ ⟨20,[],[(0,(vI a0)),(1,.val (.int .u64 a1))]⟩ (Zx O n []) _
 refine zQ [0,1] ?_
 refine Zq ?_
 obtain ⟨y2,hy2,h⟩:=bC h
 refine zCd (Zoy hy2) [1,5] [] ?_
 refine Zq ?_
 refine zQ [1,5,10] ?_
 refine Z5 (t:=(decide (y2 < 0))) rfl (fun c5 => ?_) (fun c5 => ?_)
 ·replace h:=Z4 c5 h
  refine zQ [4] ?_
  exact X6 [(vB false)]
 replace h:=Z3 c5 h
 refine Gk [1,5] [] ?_
 refine Zq ?_
 refine zQd [1,5,6] [1,5,6] [] ?_
 obtain ⟨z4,hz4,h⟩:=bC h
 refine Y6 (E':=⟨20,[],[(1,.val (.int .u64 z4))]⟩) (O':=(Zx O n [])) (n0:=n) ?_ ?_
 ·refine Xo hz4 (fun s0_=>⟨20,[],[(1,.val (.int .u64 s0_.1)),(5,(vI y2)),(6,(vI s0_.2))]⟩) (fun s0_=>(Zx O n [])) (fun z4=>JX 0 n (⟨20,[],[(1,.val (.int .u64 z4))]⟩:Env) (Zx O n []) n) ?_
  intro s0_ x0_ hs0_
  unfold Qz at hs0_
  try dsimp only
  refine Zq ?_
  refine zQ [1,5,6,13] ?_
  refine Z5 (t:=(decide (s0_.2 < y2))) rfl (fun c3 => ?_) (fun c3 => ?_)
  ·replace hs0_:=Z4 c3 hs0_
   refine Gk [1,5,6] [] ?_
   refine Zq ?_
   refine Yy ?_
   refine zRd [1,5,6] [] ?_
   refine zR ?_
   exact zEn hs0_
  replace hs0_:=Z3 c3 hs0_
  exact zEx hs0_
 try simp only [Xh,Ys,↓reduceIte,Nat.reduceEqDiff]
 refine zD [1] [] ?_
 refine zQ [4] ?_
 exact X6 [(vB (z4 == 0))]
def Zf5 (Jw:(Zb→Int→Option Bool)):Prop:=∀ {a0:Zb} {a1:Int} {r:Bool} {O:Objs} {n:Nat},Jw a0 a1=some r→GTo Try.prog 21 [.agg (Zz a0),(vI a1)] O n ((vB r)) O n
theorem Znd {Jw:(Zb→Int→Option Bool)} (Zmr:Zf5 Jw) {a0:Zb} {a1:Int} {r:Bool} {O:Objs} {n:Nat} (h:G4 Jw a0 a1=some r):GTo Try.prog 21 [.agg (Zz a0),(vI a1)] O n ((vB r)) O n:=by
 unfold G4 at h
 refine zFn Try.call21 Try.func21 fun hU hN0 hN => ?_
 show W _ _ _ _ ⟨132,[],[(0,.agg (Zz a0)),(1,(vI a1))]⟩ (Zx O n []) _
 refine zQ [1,2] ?_
 refine Zq ?_
 refine zQ [1,2,10] ?_
 refine Z5 (t:=(a0.Kind == 0)) rfl (fun c32 => ?_) (fun c32 => ?_)
 ·replace h:=Z4 c32 h
  refine zQD [4] [none,none,none,none] ?_
  exact X6 [(vB (cond ((a0.Words.length:Int) == 0) ((a0.Kids.length:Int) == 0) false))]
 replace h:=Z3 c32 h
 refine Gk [1,2] [true] ?_
 refine Zq ?_
 refine zQ [1,2,23] ?_
 refine Z5 (t:=(a0.Kind == 10)) rfl (fun c31 => ?_) (fun c31 => ?_)
 ·replace h:=Z4 c31 h
  refine zQD [4] [none,none,none,none] ?_
  exact X6 [(vB (cond ((a0.Words.length:Int) == 1) ((a0.Kids.length:Int) == 0) false))]
 replace h:=Z3 c31 h
 refine Gk [1,2] [true] ?_
 refine Zq ?_
 refine zQD [1,2,68] [none,none,none,none,none,none,none,none,none,none,none,none,none,none,none,none,none,none,none,none,none,none] ?_
 refine Z5 (t:=(cond (cond (cond (cond (cond (decide (a0.Kind < 0)) true (decide (10 < a0.Kind))) true (a1 == 0)) true (decide (65536≤(a0.Words.length:Int)))) true (cond (a0.Kind == 1) (decide (65536≤(a0.Kids.length:Int))) false)) true (decide (1048576≤(a0.Kids.length:Int))))) rfl (fun c30 => ?_) (fun c30 => ?_)
 ·replace h:=Z4 c30 h
  refine zQ [4] ?_
  exact X6 [(vB false)]
 replace h:=Z3 c30 h
 refine Gk [1,2] [true] ?_
 refine Zq ?_
 refine zQD [1,2,77] [none,none,none,none] ?_
 refine Z5 (t:=(cond (decide (1 < a0.Kind)) (decide (0 < (a0.Words.length:Int))) false)) rfl (fun c29 => ?_) (fun c29 => ?_)
 ·replace h:=Z4 c29 h
  refine zQ [4] ?_
  exact X6 [(vB false)]
 replace h:=Z3 c29 h
 refine Gk [1,2] [true] ?_
 refine Zq ?_
 refine zQd [1,2,5] [1,2,5] [true] ?_
 obtain ⟨z28,hz28,h⟩:=bC h
 refine Zdb (J:=(Q7 (fun z28=>JR n (⟨132,[],[(4,(vB false))]⟩:Env) (Zx O n [none]) (n+1)) (fun z28=>JX 0 n (⟨132,[],[]⟩:Env) (Zx O n [none]) (n+1)))) (z:=z28) ?_ fun hw => ?_
 ·refine Xo hz28 (fun s0_=>⟨132,[],[(1,(vI a1)),(2,.ref n 0),(5,(vI s0_))]⟩) (fun s0_=>(Zx O n [some ⟨false,25,3,1,(Zz a0)⟩])) (Q7 (fun z28=>JR n (⟨132,[],[(4,(vB false))]⟩:Env) (Zx O n [none]) (n+1)) (fun z28=>JX 0 n (⟨132,[],[]⟩:Env) (Zx O n [none]) (n+1))) ?_
  intro s0_ x0_ hs0_
  unfold Vy at hs0_
  try dsimp only
  refine Zq ?_
  refine zQ [1,2,5,82] ?_
  refine Z5 (t:=(decide (s0_ < (a0.Kids.length:Int)))) rfl (fun c27 => ?_) (fun c27 => ?_)
  ·replace hs0_:=Z4 c27 hs0_
   refine Gk [1,2,5] [true] ?_
   refine Zq ?_
   refine Yy ?_
   refine Zq ?_
   obtain ⟨x2,hx2,ax2,bx2,cx2,hs0_⟩:=bE (f:=Za) Zb9 (fun _=>rfl) (by decide) hs0_
   refine Zlq [] ax2 bx2 cx2 ?_
   refine zDs [1,2,5,6] [true,true] ?_
   refine Zq ?_
   obtain ⟨y4,hy4,hs0_⟩:=bC hs0_
   refine zCd (Zmr hy4) [1,2,5,6,94] [true,true] ?_
   refine Z5 (t:=(!y4)) rfl (fun c26 => ?_) (fun c26 => ?_)
   ·replace hs0_:=Z4 c26 hs0_
    refine zQ [4] ?_
    refine zW ?_
    exact zEy hs0_
   replace hs0_:=Z3 c26 hs0_
   refine Gk [1,2,5,6] [true,true] ?_
   refine zQD [1,2,5,6,7] [none,none,none] ?_
   obtain ⟨z9,hz9,hs0_⟩:=bC hs0_
   refine Xa (E':=⟨132,[],[(1,(vI a1)),(2,.ref n 0),(5,(vI s0_)),(131,(vB z9))]⟩) (O':=(Zx O n [some ⟨false,25,3,1,(Zz a0)⟩,none])) (n0:=(n+2)) ?_ ?_
   ·rcases Bool.eq_false_or_eq_true ((cond (decide (2≤a0.Kind)) (decide (a0.Kind≤7)) false) != (x2.Kind == 10)) with c18 | c18
    ·replace hz9:=Z4 c18 hz9
     refine Xw Z0 (by kernel_rfl) (Zm9 (Zq5 [])) (by kernel_rfl) ?_
     refine zX1 c18 ?_
     refine zG ?_
     exact Zcr hz9 c18
    replace hz9:=Z3 c18 hz9
    rcases Bool.eq_false_or_eq_true (a0.Kind == 9) with c19 | c19
    ·replace hz9:=Z4 c19 hz9
     try rw [c19] at c18
     try simp only [Bool.cond_true,Bool.cond_false,Bool.true_bne,Bool.false_bne,Bool.not_eq_true',Bool.not_eq_false'] at c18
     rcases Bool.eq_false_or_eq_true (x2.Kind != 1) with c20 | c20
     ·replace hz9:=Z4 c20 hz9
      try rw [c20] at c18
      try rw [c20] at c19
      try simp only [Bool.cond_true,Bool.cond_false,Bool.true_bne,Bool.false_bne,Bool.not_eq_true',Bool.not_eq_false'] at c18
      refine Xw Z0 (by kernel_rfl) (Zm9 (Zq5 [])) (by kernel_rfl) ?_
      refine zX3 c18 c19 c20 ?_
      refine zG ?_
      exact Zfi hz9 c18 c19 c20
     replace hz9:=Z3 c20 hz9
     try rw [c20] at c18
     try rw [c20] at c19
     try simp only [Bool.cond_true,Bool.cond_false,Bool.true_bne,Bool.false_bne,Bool.not_eq_true',Bool.not_eq_false'] at c18
     rcases Bool.eq_false_or_eq_true (decide (2≤a0.Kind)) with c21 | c21
     ·replace hz9:=Z4 c21 hz9
      try rw [c21] at c18
      try rw [c21] at c19
      try rw [c21] at c20
      try simp only [Bool.cond_true,Bool.cond_false,Bool.true_bne,Bool.false_bne,Bool.not_eq_true',Bool.not_eq_false'] at c18
      rcases Bool.eq_false_or_eq_true (decide (a0.Kind≤7)) with c22 | c22
      ·replace hz9:=Z4 c22 hz9
       try rw [c22] at c18
       try rw [c22] at c19
       try rw [c22] at c20
       try rw [c22] at c21
       try simp only [Bool.cond_true,Bool.cond_false,Bool.true_bne,Bool.false_bne,Bool.not_eq_true',Bool.not_eq_false'] at c18
       obtain ⟨x14,hx14,ax14,bx14,cx14,hz9⟩:=bE (f:=(eI .u64)) Zjl (fun _=>rfl) (by decide) hz9
       obtain ⟨y15,hy15,hz9⟩:=bC hz9
       refine Xw Z0 (by kernel_rfl) (Zm9 (Zpd [])) (by kernel_rfl) ?_
       refine zF8 c18 c19 c20 c21 c22 ax14 bx14 cx14 ?_
       refine zG ?_
       refine PCall.of (Zi1 hy15) ?_
       refine zF8 c18 c19 c20 c21 c22 ax14 bx14 cx14 ?_
       refine zG ?_
       exact Ydv hz9 c18 c19 c20 c21 c22 ax14 bx14 cx14
      replace hz9:=Z3 c22 hz9
      try rw [c22] at c18
      try rw [c22] at c19
      try rw [c22] at c20
      try rw [c22] at c21
      try simp only [Bool.cond_true,Bool.cond_false,Bool.true_bne,Bool.false_bne,Bool.not_eq_true',Bool.not_eq_false'] at c18
      refine Xw Z0 (by kernel_rfl) (Zm9 (U8::U8::Z2y [U8])) (by kernel_rfl) ?_
      refine zX5 c18 c19 c20 c21 c22 ?_
      refine zG ?_
      exact Yau hz9 c18 c19 c20 c21 c22
     replace hz9:=Z3 c21 hz9
     try rw [c21] at c18
     try rw [c21] at c19
     try rw [c21] at c20
     try simp only [Bool.cond_true,Bool.cond_false,Bool.true_bne,Bool.false_bne,Bool.not_eq_true',Bool.not_eq_false'] at c18
     refine Xw Z0 (by kernel_rfl) (Zm9 (U8::U8::Z2y [U8])) (by kernel_rfl) ?_
     refine zX4 c18 c19 c20 c21 ?_
     refine zG ?_
     exact Z14 hz9 c18 c19 c20 c21
    replace hz9:=Z3 c19 hz9
    try rw [c19] at c18
    try simp only [Bool.cond_true,Bool.cond_false,Bool.true_bne,Bool.false_bne,Bool.not_eq_true',Bool.not_eq_false'] at c18
    rcases Bool.eq_false_or_eq_true (decide (2≤a0.Kind)) with c23 | c23
    ·replace hz9:=Z4 c23 hz9
     try rw [c23] at c18
     try rw [c23] at c19
     try simp only [Bool.cond_true,Bool.cond_false,Bool.true_bne,Bool.false_bne,Bool.not_eq_true',Bool.not_eq_false'] at c18
     rcases Bool.eq_false_or_eq_true (decide (a0.Kind≤7)) with c24 | c24
     ·replace hz9:=Z4 c24 hz9
      try rw [c24] at c18
      try rw [c24] at c19
      try rw [c24] at c23
      try simp only [Bool.cond_true,Bool.cond_false,Bool.true_bne,Bool.false_bne,Bool.not_eq_true',Bool.not_eq_false'] at c18
      obtain ⟨x16,hx16,ax16,bx16,cx16,hz9⟩:=bE (f:=(eI .u64)) Zjl (fun _=>rfl) (by decide) hz9
      obtain ⟨y17,hy17,hz9⟩:=bC hz9
      refine Xw Z0 (by kernel_rfl) (Zm9 (Zpd [])) (by kernel_rfl) ?_
      refine zF7 c18 c19 c23 c24 ax16 bx16 cx16 ?_
      refine zG ?_
      refine PCall.of (Zi1 hy17) ?_
      refine zF7 c18 c19 c23 c24 ax16 bx16 cx16 ?_
      refine zG ?_
      exact Z13 hz9 c18 c19 c23 c24 ax16 bx16 cx16
     replace hz9:=Z3 c24 hz9
     try rw [c24] at c18
     try rw [c24] at c19
     try rw [c24] at c23
     try simp only [Bool.cond_true,Bool.cond_false,Bool.true_bne,Bool.false_bne,Bool.not_eq_true',Bool.not_eq_false'] at c18
     refine Xw Z0 (by kernel_rfl) (Zm9 (U8::U8::Z2y [U8])) (by kernel_rfl) ?_
     refine zX4 c18 c19 c23 c24 ?_
     refine zG ?_
     exact Z14 hz9 c18 c19 c23 c24
    replace hz9:=Z3 c23 hz9
    try rw [c23] at c18
    try rw [c23] at c19
    try simp only [Bool.cond_true,Bool.cond_false,Bool.true_bne,Bool.false_bne,Bool.not_eq_true',Bool.not_eq_false'] at c18
    refine Xw Z0 (by kernel_rfl) (Zm9 (U8::U8::Z2y [U8])) (by kernel_rfl) ?_
    refine zX3 c18 c19 c23 ?_
    refine zG ?_
    exact Zfi hz9 c18 c19 c23
   refine Z5 (t:=z9) rfl (fun c25 => ?_) (fun c25 => ?_)
   ·replace hs0_:=Z4 c25 hs0_
    refine zQ [4] ?_
    refine zW ?_
    exact zEy hs0_
   replace hs0_:=Z3 c25 hs0_
   refine Gk [1,2,5] [true,false] ?_
   refine zR ?_
   exact zEn hs0_
  replace hs0_:=Z3 c27 hs0_
  exact zEx hs0_
 rcases z28 with z28 | z28
 ·dsimp only [Q7] at hw h
  refine Vf hw ?_
  try simp only [Xh,Ys,↓reduceIte,Nat.reduceEqDiff]
  exact Zmw [(vB false)]
 dsimp only [Q7] at hw h
 refine Y6 hw ?_
 try simp only [Xh,Ys,↓reduceIte,Nat.reduceEqDiff]
 refine zD [] [false] ?_
 refine zQ [4] ?_
 exact X6 [(vB true)]
theorem Zlx:∀ k,(Zf5 (J6 k)):=fun k=>by
 induction k with
 | zero=>exact @fun a0 a1 r O n h=>(nomatch (show (none:Option _)=some _ from h))
 | succ k ih=>exact @fun a0 a1 r O n h=>Znd (ih)  h
theorem Zcc {a0:Zb} {a1:Int} {r:Bool} {O:Objs} {n:Nat} (h:Za7 a0 a1=some r):GTo Try.prog 21 [.agg (Zz a0),(vI a1)] O n ((vB r)) O n:=by
 obtain ⟨k,hk⟩:=Zbt h
 exact (Zlx k)  hk
theorem Zhv {a0:Int} {r:(Arr Int 8)} {O:Objs} {n:Nat} (h:V6 a0=some r):GTo Try.prog 56 [.val (.int .u64 a0)] O n (.agg (fl (eI .u8) r.1)) O n:=by
 unfold V6 at h
 refine zFn Try.call56 Try.func56 fun hU hN0 hN => ?_
 show W _ _ _ _ ⟨18,[],[(0,.val (.int .u64 a0))]⟩ (Zx O n []) _
 obtain ⟨y3,hy3,ey3,h⟩:=bY (f:=(eI .u8)) (cs:=[.val (.int .u8 0),.val (.int .u8 0),.val (.int .u8 0),.val (.int .u8 0),.val (.int .u8 0),.val (.int .u8 0),.val (.int .u8 0),.val (.int .u8 0)]) rfl h
 have g4:=congrArg (GObj.mk false 96 8 1) ey3
 refine Yfl [0,2] g4 ?_
 refine Zq ?_
 obtain ⟨y9,hy9,ey9,h⟩:=bY (f:=(eI .u8)) (cs:=[.val (.int .u8 0),.val (.int .u8 0),.val (.int .u8 0),.val (.int .u8 0),.val (.int .u8 0),.val (.int .u8 0),.val (.int .u8 0),.val (.int .u8 0)]) rfl h
 have g10:=congrArg G.agg ey9
 have g11:=congrArg (GObj.mk false 96 8 1) ey9
 have g12:=Zlv (f:=(eI .u8)) y9 y9 (fun _=>rfl)
 refine Zeu [] g10 g11 g12 ?_
 refine zDs [0,2,3] [true,true] ?_
 refine zQd [0,2,3,4] [0,2,3,4] [true,true] ?_
 obtain ⟨z18,hz18,h⟩:=bC h
 refine Y6 (E':=⟨18,[],[(2,.ref n 0),(3,.ref (n+1) 0)]⟩) (O':=(Zx O n [some ⟨false,96,8,1,fl (eI .u8) y3.1⟩,some ⟨false,96,8,1,fl (eI .u8) z18.1⟩])) (n0:=(n+2)) ?_ ?_
 ·refine Xo hz18 (fun s0_=>⟨18,[],[(0,.val (.int .u64 s0_.1)),(2,.ref n 0),(3,.ref (n+1) 0),(4,(vI s0_.2.1))]⟩) (fun s0_=>(Zx O n [some ⟨false,96,8,1,fl (eI .u8) y3.1⟩,some ⟨false,96,8,1,fl (eI .u8) s0_.2.2.1⟩])) (fun z18=>JX 0 n (⟨18,[],[(2,.ref n 0),(3,.ref (n+1) 0)]⟩:Env) (Zx O n [some ⟨false,96,8,1,fl (eI .u8) y3.1⟩,some ⟨false,96,8,1,fl (eI .u8) z18.1⟩]) (n+2)) ?_
  intro s0_ x0_ hs0_
  unfold V1 at hs0_
  try dsimp only
  refine Zq ?_
  refine zQ [0,2,3,4,7] ?_
  refine Z5 (t:=(decide (s0_.2.1 < 8))) rfl (fun c17 => ?_) (fun c17 => ?_)
  ·replace hs0_:=Z4 c17 hs0_
   refine Gk [0,2,3,4] [true,true] ?_
   refine Zq ?_
   refine Yy ?_
   refine Zq ?_
   obtain ⟨x15,hx15,ax15,bx15,cx15,hs0_⟩:=bEA (f:=(eI .u8)) (b:=8) rfl Zxn (fun _=>rfl) (by decide) hs0_
   have gu16:J5 (fl (eI .u8) s0_.2.2.1) [.val (.int .u8 (IntKind.u8.wrap (Int.tmod s0_.1 256)))] (Int.toNat s0_.2.1 * 1)=some (fl (eI .u8) (Zld s0_.2.2.1 s0_.2.1 (IntKind.u8.wrap (Int.tmod s0_.1 256)))):=Zs9 (f:=(eI .u8)) (ti:=⟨.bool,1,0,[],false⟩) (x:=(IntKind.u8.wrap (Int.tmod s0_.1 256))) (fun _=>rfl) (Zgx hx15)
   refine Zsw [] ax15 bx15 cx15 gu16 ?_
   refine zD [0,2,3,4] [true,true] ?_
   refine zRd [0,2,3,4] [true,true] ?_
   refine zR ?_
   exact zEn hs0_
  replace hs0_:=Z3 c17 hs0_
  exact zEx hs0_
 try simp only [Xh,Ys,↓reduceIte,Nat.reduceEqDiff]
 refine zDs [2,3] [true,true] ?_
 have g21:=Zxx (f:=(eI .u8)) z18 Zwq rfl (fun _=>rfl) rfl
 have g22:=Zlv (f:=(eI .u8)) y3 z18 (fun _=>rfl)
 refine Jg [] g21 g22 ?_
 refine zD [2] [true,false] ?_
 refine zW ?_
 obtain rfl:=sI h
 have gR0:=Zxx (f:=(eI .u8)) z18 Zwq rfl (fun _=>rfl) rfl
 refine Zyk (.inr rfl) hU [.agg (fl (eI .u8) z18.1)] (by omega) ?_
 simp only [push_cast,seval,Ze,Try.results56,hN0,hN,gR0]
theorem Zox {a0:Int} {a1:Int} {r:Bool} {O:Objs} {n:Nat} (h:Za5 a0 a1=some r):GTo Try.prog 57 [.val (.int .u8 a0),(vI a1)] O n ((vB r)) O n:=by
 unfold Za5 at h
 refine zFn Try.call57 Try.func57 fun hU hN0 hN => ?_
 show W _ _ _ _ ⟨16,[],[(0,.val (.int .u8 a0)),(1,(vI a1))]⟩ (Zx O n []) _
 refine zQ [0,1] ?_
 refine Zq ?_
 refine zQd [0,1,5] [0,1,5] [] ?_
 obtain ⟨z2,hz2,h⟩:=bC h
 refine Y6 (E':=⟨16,[],[(0,.val (.int .u8 z2))]⟩) (O':=(Zx O n [])) (n0:=n) ?_ ?_
 ·refine Xo hz2 (fun s0_=>⟨16,[],[(0,.val (.int .u8 s0_.1)),(1,(vI a1)),(5,(vI s0_.2))]⟩) (fun s0_=>(Zx O n [])) (fun z2=>JX 0 n (⟨16,[],[(0,.val (.int .u8 z2))]⟩:Env) (Zx O n []) n) ?_
  intro s0_ x0_ hs0_
  unfold Kt at hs0_
  try dsimp only
  refine Zq ?_
  refine zQ [0,1,5,8] ?_
  refine Z5 (t:=(decide (s0_.2 < a1))) rfl (fun c1 => ?_) (fun c1 => ?_)
  ·replace hs0_:=Z4 c1 hs0_
   refine Gk [0,1,5] [] ?_
   refine Zq ?_
   refine Yy ?_
   refine zRd [0,1,5] [] ?_
   refine zR ?_
   exact zEn hs0_
  replace hs0_:=Z3 c1 hs0_
  exact zEx hs0_
 try simp only [Xh,Ys,↓reduceIte,Nat.reduceEqDiff]
 refine zD [0] [] ?_
 refine zQ [4] ?_
 exact X6 [(vB ((Int.tmod z2 2) == 1))]
theorem Ztc {a0:(List Int)} {a1:Int} {r:Int} {O:Objs} {n:Nat} (h:Zev a0 a1=some r):GTo Try.prog 58 [(sL (eI .u8) a0),(vI a1)] O n (.val (.int .u64 r)) O n:=by
 unfold Zev at h
 refine zFn Try.call58 Try.func58 fun hU hN0 hN => ?_
 show W _ _ _ _ ⟨22,[],[(0,(sL (eI .u8) a0)),(1,(vI a1))]⟩ (Zx O n []) _
 refine zQ [0,1] ?_
 refine zQ [0,1,5] ?_
 refine Zq ?_
 refine zQd [0,1,5,6] [0,1,5,6] [] ?_
 obtain ⟨z3,hz3,h⟩:=bC h
 refine Y6 (E':=⟨22,[],[(5,.val (.int .u64 z3))]⟩) (O':=(Zx O n [])) (n0:=n) ?_ ?_
 ·refine Xo hz3 (fun s0_=>⟨22,[],[(0,(sL (eI .u8) a0)),(1,(vI a1)),(5,.val (.int .u64 s0_.1)),(6,(vI s0_.2))]⟩) (fun s0_=>(Zx O n [])) (fun z3=>JX 0 n (⟨22,[],[(5,.val (.int .u64 z3))]⟩:Env) (Zx O n []) n) ?_
  intro s0_ x0_ hs0_
  unfold Za6 at hs0_
  try dsimp only
  refine Zq ?_
  refine zQ [0,1,5,6,8] ?_
  refine Z5 (t:=(decide (0≤s0_.2))) rfl (fun c2 => ?_) (fun c2 => ?_)
  ·replace hs0_:=Z4 c2 hs0_
   refine Gk [0,1,5,6] [] ?_
   refine Zq ?_
   refine Yy ?_
   obtain ⟨x1,hx1,ax1,bx1,cx1,hs0_⟩:=bE (f:=(eI .u8)) Zxn (fun _=>rfl) (by decide) hs0_
   refine Zlq [] ax1 bx1 cx1 ?_
   refine zD [0,1,5,6] [] ?_
   refine zR ?_
   exact zEn hs0_
  replace hs0_:=Z3 c2 hs0_
  exact zEx hs0_
 try simp only [Xh,Ys,↓reduceIte,Nat.reduceEqDiff]
 refine zD [5] [] ?_
 refine zQ [4] ?_
 exact X6 [.val (.int .u64 z3)]
theorem Zq7 {a0:Int} {a1:Int} {a2:Int} {r:Int} {O:Objs} {n:Nat} (h:Zcm a0 a1 a2=some r):GTo Try.prog 37 [.val (.int .u64 a0),.val (.int .u64 a1),.val (.int .u8 a2)] O n (.val (.int .u64 r)) O n:=by
 unfold Zcm at h
 refine zFn Try.call37 Try.func37 fun hU hN0 hN => ?_
 show W _ _ _ _ ⟨28,[],[(0,.val (.int .u64 a0)),(1,.val (.int .u64 a1)),(2,.val (.int .u8 a2))]⟩ (Zx O n []) _
 refine zQ [0,1,2] ?_
 refine Zq ?_
 obtain ⟨y8,hy8,h⟩:=bC h
 obtain ⟨y9,hy9,h⟩:=bC h
 obtain ⟨y10,hy10,ey10,h⟩:=bY (f:=(eI .u8)) (cs:=[.val (.int .u8 0),.val (.int .u8 0),.val (.int .u8 0),.val (.int .u8 0),.val (.int .u8 0),.val (.int .u8 0),.val (.int .u8 0),.val (.int .u8 0)]) rfl h
 have g11:=congrArg (GObj.mk false 96 8 1) ey10
 have g12:=congrArg (GObj.mk false 96 8 1) ey10
 have g13:=Zlv (f:=(eI .u8)) y10 y8 (fun _=>rfl)
 have g14:=Zlv (f:=(eI .u8)) y10 y9 (fun _=>rfl)
 refine Z4m [] g11 g12 g13 g14 ?_
 refine (Zhv hy8).then ?_
 refine zX4 g11 g12 g13 g14 ?_
 refine (Zhv hy9).then ?_
 refine zX4 g11 g12 g13 g14 ?_
 refine zDs [2,7,8] [true,true] ?_
 refine zQd [2,7,8,9] [2,7,8,9] [true,true] ?_
 obtain ⟨z23,hz23,h⟩:=bC h
 refine Y6 (E':=⟨28,[],[(7,.ref n 0)]⟩) (O':=(Zx O n [some ⟨false,96,8,1,fl (eI .u8) z23.1⟩,none])) (n0:=(n+2)) ?_ ?_
 ·refine Xo hz23 (fun s0_=>⟨28,[],[(2,.val (.int .u8 a2)),(7,.ref n 0),(8,.ref (n+1) 0),(9,(vI s0_.1))]⟩) (fun s0_=>(Zx O n [some ⟨false,96,8,1,fl (eI .u8) s0_.2.1⟩,some ⟨false,96,8,1,fl (eI .u8) y9.1⟩])) (fun z23=>JX 0 n (⟨28,[],[(7,.ref n 0)]⟩:Env) (Zx O n [some ⟨false,96,8,1,fl (eI .u8) z23.1⟩,none]) (n+2)) ?_
  intro s0_ x0_ hs0_
  unfold Gp at hs0_
  try dsimp only
  refine Zq ?_
  refine zQ [2,7,8,9,15] ?_
  refine Z5 (t:=(decide (s0_.1 < 8))) rfl (fun c22 => ?_) (fun c22 => ?_)
  ·replace hs0_:=Z4 c22 hs0_
   refine Gk [2,7,8,9] [true,true] ?_
   obtain ⟨z15,hz15,hs0_⟩:=bC hs0_
   refine Xa (E':=⟨28,[],[(2,.val (.int .u8 a2)),(7,.ref n 0),(8,.ref (n+1) 0),(9,(vI s0_.1))]⟩) (O':=(Zx O n [some ⟨false,96,8,1,fl (eI .u8) z15.1⟩,some ⟨false,96,8,1,fl (eI .u8) y9.1⟩])) (n0:=(n+2)) ?_ ?_
   ·refine Yy ?_
    refine Zq ?_
    obtain ⟨y17,hy17,hz15⟩:=bC hz15
    refine zCd (Zox hy17) [2,7,8,9,20] [true,true] ?_
    refine Z5 (t:=y17) rfl (fun c21 => ?_) (fun c21 => ?_)
    ·replace hz15:=Z4 c21 hz15
     obtain ⟨x18,hx18,ax18,bx18,cx18,hz15⟩:=bEA (f:=(eI .u8)) (b:=8) rfl Zxn (fun _=>rfl) (by decide) hz15
     obtain ⟨x19,hx19,ax19,bx19,cx19,hz15⟩:=bEA (f:=(eI .u8)) (b:=8) rfl Zxn (fun _=>rfl) (by decide) hz15
     have gu20:J5 (fl (eI .u8) s0_.2.1) [.val (.int .u8 x18)] (Int.toNat s0_.1 * 1)=some (fl (eI .u8) (Zld s0_.2.1 s0_.1 x18)):=Zs9 (f:=(eI .u8)) (ti:=⟨.bool,1,0,[],false⟩) (x:=x18) (fun _=>rfl) (Zgx hx19)
     refine Z16 [] ax18 bx18 cx18 ax19 bx19 cx19 gu20 ?_
     exact Z13 hz15 ax18 bx18 cx18 ax19 bx19 cx19 gu20
    replace hz15:=Z3 c21 hz15
    refine zK ?_
    exact zEn hz15
   refine zR ?_
   exact zEn hs0_
  replace hs0_:=Z3 c22 hs0_
  exact zEx hs0_
 try simp only [Xh,Ys,↓reduceIte,Nat.reduceEqDiff]
 refine zDs [7] [true,false] ?_
 have g27:=Z2s (j:=n) Zow Zxn (by decide)
 have g28:=z23.2
 obtain ⟨y29,hy29,h⟩:=bC h
 refine Jg [] g27 g28 ?_
 refine GCalls.lend (Ztc hy29) rfl ?_ ?_
 ·exact Qu g27 g28
 refine zX2 g27 g28 ?_
 refine zD [6] [false,false] ?_
 exact X6 [.val (.int .u64 y29)]
theorem Zdw {a0:Int} {a1:Int} {r:Bool} {O:Objs} {n:Nat} (h:Vn a0 a1=some r):GTo Try.prog 22 [.val (.int .u64 a0),.val (.int .u8 a1)] O n ((vB r)) O n:=by
 unfold Vn at h
 refine zFn Try.call22 Try.func22 fun hU hN0 hN => ?_
 show W _ _ _ _ ⟨9,[],[(0,.val (.int .u64 a0)),(1,.val (.int .u8 a1))]⟩ (Zx O n []) _
 refine zQ [0,1] ?_
 refine Zq ?_
 obtain ⟨y2,hy2,h⟩:=bC h
 refine zCd (Zq7 hy2) [4] [] ?_
 exact X6 [(vB (y2 == 0))]
theorem Zi2 {a0:Zg} {r:Bool} {O:Objs} {n:Nat} (h:U3 a0=some r):GTo Try.prog 38 [.agg (Zk a0)] O n ((vB r)) O n:=by
 unfold U3 at h
 refine zFn Try.call38 Try.func38 fun hU hN0 hN => ?_
 show W _ _ _ _ ⟨35,[],[(0,.agg (Zk a0))]⟩ (Zx O n []) _
 refine zQ [1] ?_
 obtain ⟨z3,hz3,h⟩:=bC h
 refine Xa (E':=⟨35,[],[(2,(vB z3))]⟩) (O':=(Zx O n [none])) (n0:=(n+1)) ?_ ?_
 ·rcases Bool.eq_false_or_eq_true (a0.Kind == 0) with c8 | c8
  ·replace hz3:=Z4 c8 hz3
   obtain ⟨y6,hy6,hz3⟩:=bC hz3
   rcases Bool.eq_false_or_eq_true y6 with c9 | c9
   ·replace hz3:=Z4 c9 hz3
    try rw [c9] at c8
    obtain ⟨y7,hy7,hz3⟩:=bC hz3
    refine Jg (Zt2 (Ycc [])) c8 c9 ?_
    refine zG ?_
    refine (Ub hy6).then ?_
    refine zX2 c8 c9 ?_
    refine zG ?_
    refine (Ub hy7).then ?_
    refine zX2 c8 c9 ?_
    refine zG ?_
    exact Zjo hz3 c8 c9
   replace hz3:=Z3 c9 hz3
   try rw [c9] at c8
   refine Jg (Z9h (Yb8 [])) c8 c9 ?_
   refine (Ub hy6).then ?_
   refine zX2 c8 c9 ?_
   exact Zjo hz3 c8 c9
  replace hz3:=Z3 c8 hz3
  refine Zd4 (Yb9 []) c8 ?_
  exact Zcr hz3 c8
 exact X6 [(vB z3)]
theorem Zf7 {a0:Zg} {r:(Int×Int)} {O:Objs} {n:Nat} (h:K7 a0=some r):GTo Try.prog 24 [.agg (Zk a0)] O n (.tup [(vI r.1),(vI r.2)]) O n:=by
 unfold K7 at h
 refine zFn Try.call24 Try.func24 fun hU hN0 hN => ?_
 show W _ _ _ _ ⟨48,[],[(0,.agg (Zk a0))]⟩ (Zx O n []) _
 refine zQ [1] ?_
 refine zQ [1,4,5] ?_
 refine Zq ?_
 refine zQd [1,4,5,6] [1,4,5,6] [true] ?_
 obtain ⟨z14,hz14,h⟩:=bC h
 refine Y6 (E':=⟨48,[],[(4,(vI z14.1)),(5,(vI z14.2))]⟩) (O':=(Zx O n [none])) (n0:=(n+1)) ?_ ?_
 ·refine Xo hz14 (fun s0_=>⟨48,[],[(1,.ref n 0),(4,(vI s0_.1)),(5,(vI s0_.2.1)),(6,(vI s0_.2.2))]⟩) (fun s0_=>(Zx O n [some ⟨false,30,11,1,(Zk a0)⟩])) (fun z14=>JX 0 n (⟨48,[],[(4,(vI z14.1)),(5,(vI z14.2))]⟩:Env) (Zx O n [none]) (n+1)) ?_
  intro s0_ x0_ hs0_
  unfold K8 at hs0_
  try dsimp only
  refine Zq ?_
  refine zQ [1,4,5,6,13] ?_
  refine Z5 (t:=(decide (s0_.2.2 < (a0.Ops.length:Int)))) rfl (fun c13 => ?_) (fun c13 => ?_)
  ·replace hs0_:=Z4 c13 hs0_
   refine Gk [1,4,5,6] [true] ?_
   obtain ⟨z1,hz1,hs0_⟩:=bC hs0_
   refine Xa (E':=⟨48,[],[(1,.ref n 0),(4,(vI z1.1)),(5,(vI z1.2)),(6,(vI s0_.2.2))]⟩) (O':=(Zx O n [some ⟨false,30,11,1,(Zk a0)⟩,none])) (n0:=(n+2)) ?_ ?_
   ·refine Yy ?_
    refine Zq ?_
    obtain ⟨x3,hx3,ax3,bx3,cx3,hz1⟩:=bE (f:=Zf) V2 (fun _=>rfl) (by decide) hz1
    refine Zlq [] ax3 bx3 cx3 ?_
    refine zD [1,4,5,6,7] [true,true] ?_
    refine zQ [1,4,5,6,7,8] ?_
    obtain ⟨z4,hz4,hz1⟩:=bC hz1
    refine Xa (E':=⟨48,[],[(1,.ref n 0),(4,(vI s0_.1)),(5,(vI s0_.2.1)),(6,(vI s0_.2.2)),(7,.ref (n+1) 0),(8,(vI z4))]⟩) (O':=(Zx O n [some ⟨false,30,11,1,(Zk a0)⟩,some ⟨false,41,14,1,(Yz x3)⟩])) (n0:=(n+2)) ?_ ?_
    ·refine zQ [1,4,5,6,7,8,29] ?_
     refine Z5 (t:=(x3.Kind == 3)) rfl (fun c5 => ?_) (fun c5 => ?_)
     ·replace hz4:=Z4 c5 hz4
      refine zR ?_
      exact zEn hz4
     replace hz4:=Z3 c5 hz4
     refine zK ?_
     exact zEn hz4
    obtain ⟨z6,hz6,hz1⟩:=bC hz1
    refine Xa (E':=⟨48,[],[(1,.ref n 0),(4,(vI z6)),(5,(vI s0_.2.1)),(6,(vI s0_.2.2)),(7,.ref (n+1) 0),(8,(vI z4))]⟩) (O':=(Zx O n [some ⟨false,30,11,1,(Zk a0)⟩,some ⟨false,41,14,1,(Yz x3)⟩])) (n0:=(n+2)) ?_ ?_
    ·refine zQ [1,4,5,6,7,8,32] ?_
     refine Z5 (t:=(x3.Kind != 2)) rfl (fun c7 => ?_) (fun c7 => ?_)
     ·replace hz6:=Z4 c7 hz6
      refine zR ?_
      exact zEn hz6
     replace hz6:=Z3 c7 hz6
     refine zK ?_
     exact zEn hz6
    obtain ⟨z8,hz8,hz1⟩:=bC hz1
    refine Xa (E':=⟨48,[],[(1,.ref n 0),(4,(vI z6)),(5,(vI z8)),(6,(vI s0_.2.2))]⟩) (O':=(Zx O n [some ⟨false,30,11,1,(Zk a0)⟩,none])) (n0:=(n+2)) ?_ ?_
    ·refine zQ [1,4,5,6,8,38] ?_
     refine Z5 (t:=(x3.Kind != 1)) rfl (fun c9 => ?_) (fun c9 => ?_)
     ·replace hz8:=Z4 c9 hz8
      refine zR ?_
      exact zEn hz8
     replace hz8:=Z3 c9 hz8
     refine zK ?_
     exact zEn hz8
    obtain ⟨z10,hz10,hz1⟩:=bC hz1
    refine Xa (E':=⟨48,[],[(1,.ref n 0),(4,(vI z10)),(5,(vI z8)),(6,(vI s0_.2.2))]⟩) (O':=(Zx O n [some ⟨false,30,11,1,(Zk a0)⟩,none])) (n0:=(n+2)) ?_ ?_
    ·refine zQ [1,4,5,6,43] ?_
     refine Z5 (t:=(decide (1048576 < z6))) rfl (fun c11 => ?_) (fun c11 => ?_)
     ·replace hz10:=Z4 c11 hz10
      refine zR ?_
      exact zEn hz10
     replace hz10:=Z3 c11 hz10
     refine zK ?_
     exact zEn hz10
    refine zQ [1,4,5,6,45] ?_
    refine Z5 (t:=(decide (1048576 < z8))) rfl (fun c12 => ?_) (fun c12 => ?_)
    ·replace hz1:=Z4 c12 hz1
     refine zR ?_
     exact zEn hz1
    replace hz1:=Z3 c12 hz1
    refine zK ?_
    exact zEn hz1
   refine zR ?_
   exact zEn hs0_
  replace hs0_:=Z3 c13 hs0_
  exact zEx hs0_
 try simp only [Xh,Ys,↓reduceIte,Nat.reduceEqDiff]
 refine zD [4,5] [false] ?_
 refine zQ [2,3] ?_
 exact X6 [(vI z14.1),(vI z14.2)]
attribute [local push_cast] Try.results11 Try.results12 Try.results23 Try.results28 Try.results29 Try.results48 Try.results49 Try.results5 Try.results50 Try.results53 Bool.and_true List.getD_cons_zero List.getD_cons_succ or_false bne_iff_ne bne_eq_false_iff_eq Bool.not_not Zga List.length_append Int.le_refl Zhk Zv Zs Zhr Zrs Zoe Zof Zw4 Z8 Zib Zk6 Zhd Z0y Zuf Zla Zk8 Zjb Zhf Zk9 Zte Zpy Zgn Zhg Zb5 Zg1 Zhc Zf2 Zc8
def Zdc (Xr:(Zg→Int→Option Bool)):Prop:=∀ {a0:Zg} {a1:Int} {r:Bool} {O:Objs} {n:Nat},Xr a0 a1=some r→GTo Try.prog 11 [.agg (Zk a0),(vI a1)] O n ((vB r)) O n
def Ze3 (Qr:(Int→Zl→Int→Option Bool)):Prop:=∀ {a0:Int} {a1:Zl} {a2:Int} {r:Bool} {O:Objs} {n:Nat},Qr a0 a1 a2=some r→GTo Try.prog 23 [(vI a0),.agg (Yz a1),(vI a2)] O n ((vB r)) O n
theorem Znf {Xr:(Zg→Int→Option Bool)} {Qr:(Int→Zl→Int→Option Bool)} (Zde:Zdc Xr) (Zi3:Ze3 Qr) {a0:Zg} {a1:Int} {r:Bool} {O:Objs} {n:Nat} (h:G7 Xr Qr a0 a1=some r):GTo Try.prog 11 [.agg (Zk a0),(vI a1)] O n ((vB r)) O n:=by
 unfold G7 at h
 refine zFn Try.call11 Try.func11 fun hU hN0 hN => ?_
 show W _ _ _ _ ⟨216,[],[(0,.agg (Zk a0)),(1,(vI a1))]⟩ (Zx O n []) _
 refine zQ [1,2] ?_
 refine Zq ?_
 refine zQD [1,2,24] [none,none,none,none,none,none] ?_
 refine Z5 (t:=(cond (cond (a1 == 0) true (decide (a0.Kind < 0))) true (decide (3 < a0.Kind)))) rfl (fun c58 => ?_) (fun c58 => ?_)
 ·replace h:=Z4 c58 h
  refine zQ [4] ?_
  exact X6 [(vB false)]
 replace h:=Z3 c58 h
 refine Gk [1,2] [true] ?_
 refine Zq ?_
 obtain ⟨z3,hz3,h⟩:=bC h
 refine Xa (E':=⟨216,[],[(1,(vI a1)),(2,.ref n 0),(69,(vB z3))]⟩) (O':=(Zx O n [some ⟨false,30,11,1,(Zk a0)⟩])) (n0:=(n+1)) ?_ ?_
 ·rcases Bool.eq_false_or_eq_true (a0.Kind != 1) with c8 | c8
  ·replace hz3:=Z4 c8 hz3
   obtain ⟨y6,hy6,hz3⟩:=bC hz3
   rcases Bool.eq_false_or_eq_true y6 with c9 | c9
   ·replace hz3:=Z4 c9 hz3
    try rw [c9] at c8
    obtain ⟨y7,hy7,hz3⟩:=bC hz3
    refine Jg (Ych (Yce [])) c8 c9 ?_
    refine zG ?_
    refine (Ub hy6).then ?_
    refine zX2 c8 c9 ?_
    refine zG ?_
    refine (Ub hy7).then ?_
    refine zX2 c8 c9 ?_
    refine zG ?_
    exact Zjo hz3 c8 c9
   replace hz3:=Z3 c9 hz3
   try rw [c9] at c8
   refine Jg (Z2z (Z7b (U8::U8::Yag []))) c8 c9 ?_
   refine (Ub hy6).then ?_
   refine zX2 c8 c9 ?_
   exact Zjo hz3 c8 c9
  replace hz3:=Z3 c8 hz3
  refine Zd4 (Z2y (Z2z (Zm9 (U8::Ycb [])))) c8 ?_
  refine zG ?_
  exact Zcr hz3 c8
 refine Z5 (t:=z3) rfl (fun c57 => ?_) (fun c57 => ?_)
 ·replace h:=Z4 c57 h
  refine zQ [4] ?_
  exact X6 [(vB false)]
 replace h:=Z3 c57 h
 refine Gk [1,2] [true] ?_
 refine Zq ?_
 refine zQ [1,2,72] ?_
 refine Z5 (t:=(a0.Kind == 1)) rfl (fun c56 => ?_) (fun c56 => ?_)
 ·replace h:=Z4 c56 h
  obtain ⟨z12,hz12,h⟩:=bC h
  refine Xa (E':=⟨216,[],[(4,(vB z12))]⟩) (O':=(Zx O n [none])) (n0:=(n+1)) ?_ ?_
  ·obtain ⟨y15,hy15,hz12⟩:=bC hz12
   rcases Bool.eq_false_or_eq_true y15 with c17 | c17
   ·replace hz12:=Z4 c17 hz12
    obtain ⟨y16,hy16,hz12⟩:=bC hz12
    refine Zd4 (Z9h (Zm9 [])) c17 ?_
    refine zG ?_
    refine (Zcc hy15).then ?_
    refine zX1 c17 ?_
    refine zG ?_
    refine (Zcc hy16).then ?_
    refine zX1 c17 ?_
    refine zG ?_
    exact Zcr hz12 c17
   replace hz12:=Z3 c17 hz12
   refine Zd4 (Yb5 []) c17 ?_
   refine (Zcc hy15).then ?_
   refine zX1 c17 ?_
   exact Zcr hz12 c17
  exact X6 [(vB z12)]
 replace h:=Z3 c56 h
 refine Gk [1,2] [true] ?_
 refine zQ [1,2,5] ?_
 refine Zq ?_
 refine zQd [1,2,5,6] [1,2,5,6] [true] ?_
 obtain ⟨z33,hz33,h⟩:=bC h
 refine Zdb (J:=(Q7 (fun z33=>JR n (⟨216,[],[(4,(vB false))]⟩:Env) (Zx O n [none]) (n+1)) (fun z33=>JX 0 n (⟨216,[],[(1,(vI a1)),(2,.ref n 0)]⟩:Env) (Zx O n [some ⟨false,30,11,1,(Zk a0)⟩]) (n+1)))) (z:=z33) ?_ fun hw => ?_
 ·refine Xo hz33 (fun s0_=>⟨216,[],[(1,(vI a1)),(2,.ref n 0),(5,(vI s0_.1)),(6,(vI s0_.2))]⟩) (fun s0_=>(Zx O n [some ⟨false,30,11,1,(Zk a0)⟩])) (Q7 (fun z33=>JR n (⟨216,[],[(4,(vB false))]⟩:Env) (Zx O n [none]) (n+1)) (fun z33=>JX 0 n (⟨216,[],[(1,(vI a1)),(2,.ref n 0)]⟩:Env) (Zx O n [some ⟨false,30,11,1,(Zk a0)⟩]) (n+1))) ?_
  intro s0_ x0_ hs0_
  unfold Kr at hs0_
  try dsimp only
  refine Zq ?_
  refine zQ [1,2,5,6,97] ?_
  refine Z5 (t:=(decide (s0_.2 < (a0.Words.length:Int)))) rfl (fun c32 => ?_) (fun c32 => ?_)
  ·replace hs0_:=Z4 c32 hs0_
   refine Gk [1,2,5,6] [true] ?_
   refine Zq ?_
   refine Yy ?_
   refine Zq ?_
   obtain ⟨x19,hx19,ax19,bx19,cx19,hs0_⟩:=bE (f:=Zd) Zlm (fun _=>rfl) (by decide) hs0_
   refine Zlq [] ax19 bx19 cx19 ?_
   refine zDs [1,2,5,6,7] [true,true] ?_
   obtain ⟨z22,hz22,hs0_⟩:=bC hs0_
   refine Xa (E':=⟨216,[],[(1,(vI a1)),(2,.ref n 0),(6,(vI s0_.2)),(7,.ref (n+1) 0),(134,(vB z22))]⟩) (O':=(Zx O n [some ⟨false,30,11,1,(Zk a0)⟩,some ⟨false,48,4,1,(Xb x19)⟩])) (n0:=(n+2)) ?_ ?_
   ·rcases Bool.eq_false_or_eq_true (decide (x19.At≤s0_.1)) with c27 | c27
    ·replace hz22:=Z4 c27 hz22
     refine Zd4 (Zy6 (Zq5 [])) c27 ?_
     refine zG ?_
     exact Zcr hz22 c27
    replace hz22:=Z3 c27 hz22
    rcases Bool.eq_false_or_eq_true (decide (65534 < x19.At)) with c28 | c28
    ·replace hz22:=Z4 c28 hz22
     try rw [c28] at c27
     refine Jg (Zy6 (Zq5 [])) c27 c28 ?_
     refine zG ?_
     exact Zjo hz22 c27 c28
    replace hz22:=Z3 c28 hz22
    try rw [c28] at c27
    rcases Bool.eq_false_or_eq_true (x19.Mask == 0) with c29 | c29
    ·replace hz22:=Z4 c29 hz22
     try rw [c29] at c27
     try rw [c29] at c28
     refine Zeu (Zy6 (Zq5 [])) c27 c28 c29 ?_
     refine zG ?_
     exact Zfi hz22 c27 c28 c29
    replace hz22:=Z3 c29 hz22
    try rw [c29] at c27
    try rw [c29] at c28
    obtain ⟨y25,hy25,hz22⟩:=bC hz22
    rcases Bool.eq_false_or_eq_true y25 with c30 | c30
    ·replace hz22:=Z4 c30 hz22
     try rw [c30] at c27
     try rw [c30] at c28
     try rw [c30] at c29
     obtain ⟨y26,hy26,hz22⟩:=bC hz22
     refine Z4m (Zy6 (Zpd [])) c27 c28 c29 c30 ?_
     refine zG ?_
     refine (Zdw hy25).then ?_
     refine zX4 c27 c28 c29 c30 ?_
     refine zG ?_
     refine (Zdw hy26).then ?_
     refine zX4 c27 c28 c29 c30 ?_
     refine zG ?_
     exact Z14 hz22 c27 c28 c29 c30
    replace hz22:=Z3 c30 hz22
    try rw [c30] at c27
    try rw [c30] at c28
    try rw [c30] at c29
    refine Z4m (Zy6 (Zt2 (Zxe []))) c27 c28 c29 c30 ?_
    refine zG ?_
    refine (Zdw hy25).then ?_
    refine zX4 c27 c28 c29 c30 ?_
    refine zG ?_
    exact Z14 hz22 c27 c28 c29 c30
   refine Z5 (t:=z22) rfl (fun c31 => ?_) (fun c31 => ?_)
   ·replace hs0_:=Z4 c31 hs0_
    refine zQ [4] ?_
    refine zW ?_
    exact zEy hs0_
   replace hs0_:=Z3 c31 hs0_
   refine Gk [1,2,6,7] [true,true] ?_
   refine zRd [1,2,5,6] [true,false] ?_
   refine zR ?_
   exact zEn hs0_
  replace hs0_:=Z3 c32 hs0_
  exact zEx hs0_
 rcases z33 with z33 | z33
 ·dsimp only [Q7] at hw h
  refine Vf hw ?_
  try simp only [Xh,Ys,↓reduceIte,Nat.reduceEqDiff]
  exact Zmw [(vB false)]
 dsimp only [Q7] at hw h
 refine Y6 hw ?_
 try simp only [Xh,Ys,↓reduceIte,Nat.reduceEqDiff]
 refine zD [1,2] [true] ?_
 refine zQ [1,2,5] ?_
 refine Zq ?_
 refine zQd [1,2,5,8] [1,2,5,8] [true] ?_
 obtain ⟨z45,hz45,h⟩:=bC h
 refine Zdb (J:=(Q7 (fun z45=>JR n (⟨216,[],[(4,(vB false))]⟩:Env) (Zx O n [none]) (n+1)) (fun z45=>JX 2 n (⟨216,[],[(1,(vI a1)),(2,.ref n 0)]⟩:Env) (Zx O n [some ⟨false,30,11,1,(Zk a0)⟩]) (n+1)))) (z:=z45) ?_ fun hw => ?_
 ·refine Xo hz45 (fun s1_=>⟨216,[],[(1,(vI a1)),(2,.ref n 0),(5,(vI s1_.1)),(8,(vI s1_.2))]⟩) (fun s1_=>(Zx O n [some ⟨false,30,11,1,(Zk a0)⟩])) (Q7 (fun z45=>JR n (⟨216,[],[(4,(vB false))]⟩:Env) (Zx O n [none]) (n+1)) (fun z45=>JX 2 n (⟨216,[],[(1,(vI a1)),(2,.ref n 0)]⟩:Env) (Zx O n [some ⟨false,30,11,1,(Zk a0)⟩]) (n+1))) ?_
  intro s1_ x1_ hs1_
  unfold Ks at hs1_
  try dsimp only
  refine Zq ?_
  refine zQ [1,2,5,8,141] ?_
  refine Z5 (t:=(decide (s1_.2 < (a0.Kids.length:Int)))) rfl (fun c44 => ?_) (fun c44 => ?_)
  ·replace hs1_:=Z4 c44 hs1_
   refine Gk [1,2,5,8] [true] ?_
   refine Zq ?_
   refine Yy ?_
   refine Zq ?_
   obtain ⟨x35,hx35,ax35,bx35,cx35,hs1_⟩:=bE (f:=Zc) Zc9 (fun _=>rfl) (by decide) hs1_
   refine Zlq [] ax35 bx35 cx35 ?_
   refine zDs [1,2,5,8,9] [true,true] ?_
   obtain ⟨z37,hz37,hs1_⟩:=bC hs1_
   refine Xa (E':=⟨216,[],[(1,(vI a1)),(2,.ref n 0),(8,(vI s1_.2)),(9,.ref (n+1) 0),(171,(vB z37))]⟩) (O':=(Zx O n [some ⟨false,30,11,1,(Zk a0)⟩,some ⟨false,50,12,1,(Zbi x35)⟩])) (n0:=(n+2)) ?_ ?_
   ·rcases Bool.eq_false_or_eq_true (decide (x35.At≤s1_.1)) with c40 | c40
    ·replace hz37:=Z4 c40 hz37
     refine Zd4 (Zy7 (Zxe [])) c40 ?_
     refine zG ?_
     exact Zcr hz37 c40
    replace hz37:=Z3 c40 hz37
    rcases Bool.eq_false_or_eq_true (decide (65534 < x35.At)) with c41 | c41
    ·replace hz37:=Z4 c41 hz37
     try rw [c41] at c40
     refine Jg (Zy7 (Zxe [])) c40 c41 ?_
     refine zG ?_
     exact Zjo hz37 c40 c41
    replace hz37:=Z3 c41 hz37
    try rw [c41] at c40
    rcases Bool.eq_false_or_eq_true (x35.E.Kind == 0) with c42 | c42
    ·replace hz37:=Z4 c42 hz37
     try rw [c42] at c40
     try rw [c42] at c41
     refine Zeu (Zy7 (Zxe [])) c40 c41 c42 ?_
     refine zG ?_
     exact Zfi hz37 c40 c41 c42
    replace hz37:=Z3 c42 hz37
    try rw [c42] at c40
    try rw [c42] at c41
    obtain ⟨y39,hy39,hz37⟩:=bC hz37
    refine Zeu (Zy7 (Zt2 [])) c40 c41 c42 ?_
    refine zG ?_
    refine (Zde hy39).then ?_
    refine zX3 c40 c41 c42 ?_
    refine zG ?_
    exact Zfi hz37 c40 c41 c42
   refine Z5 (t:=z37) rfl (fun c43 => ?_) (fun c43 => ?_)
   ·replace hs1_:=Z4 c43 hs1_
    refine zQ [4] ?_
    refine zW ?_
    exact zEy hs1_
   replace hs1_:=Z3 c43 hs1_
   refine Gk [1,2,8,9] [true,true] ?_
   refine zRd [1,2,5,8] [true,false] ?_
   refine zR ?_
   exact zEn hs1_
  replace hs1_:=Z3 c44 hs1_
  exact zEx hs1_
 rcases z45 with z45 | z45
 ·dsimp only [Q7] at hw h
  refine Vf hw ?_
  try simp only [Xh,Ys,↓reduceIte,Nat.reduceEqDiff]
  exact Zmw [(vB false)]
 dsimp only [Q7] at hw h
 refine Y6 hw ?_
 try simp only [Xh,Ys,↓reduceIte,Nat.reduceEqDiff]
 refine zDs [1,2] [true] ?_
 refine zQD [1,2,186] [none,none,none,none,none,none,none,none] ?_
 refine Z5 (t:=(cond (a0.Kind == 3) (cond (decide (a0.List_ < 2)) true (decide (9 < a0.List_))) false)) rfl (fun c55 => ?_) (fun c55 => ?_)
 ·replace h:=Z4 c55 h
  refine zQ [4] ?_
  exact X6 [(vB false)]
 replace h:=Z3 c55 h
 refine Gk [1,2] [true] ?_
 refine Zq ?_
 refine zQd [1,2,10] [1,2,10] [true] ?_
 obtain ⟨z52,hz52,h⟩:=bC h
 refine Zdb (J:=(Q7 (fun z52=>JR n (⟨216,[],[(4,(vB false))]⟩:Env) (Zx O n [none]) (n+1)) (fun z52=>JX 4 n (⟨216,[],[(2,.ref n 0)]⟩:Env) (Zx O n [some ⟨false,30,11,1,(Zk a0)⟩]) (n+1)))) (z:=z52) ?_ fun hw => ?_
 ·refine Xo hz52 (fun s2_=>⟨216,[],[(1,(vI a1)),(2,.ref n 0),(10,(vI s2_))]⟩) (fun s2_=>(Zx O n [some ⟨false,30,11,1,(Zk a0)⟩])) (Q7 (fun z52=>JR n (⟨216,[],[(4,(vB false))]⟩:Env) (Zx O n [none]) (n+1)) (fun z52=>JX 4 n (⟨216,[],[(2,.ref n 0)]⟩:Env) (Zx O n [some ⟨false,30,11,1,(Zk a0)⟩]) (n+1))) ?_
  intro s2_ x2_ hs2_
  unfold Jh at hs2_
  try dsimp only
  refine Zq ?_
  refine zQ [1,2,10,191] ?_
  refine Z5 (t:=(decide (s2_ < (a0.Ops.length:Int)))) rfl (fun c51 => ?_) (fun c51 => ?_)
  ·replace hs2_:=Z4 c51 hs2_
   refine Gk [1,2,10] [true] ?_
   refine Zq ?_
   refine Yy ?_
   refine Zq ?_
   obtain ⟨x48,hx48,ax48,bx48,cx48,hs2_⟩:=bE (f:=Zf) V2 (fun _=>rfl) (by decide) hs2_
   obtain ⟨y49,hy49,hs2_⟩:=bC hs2_
   refine Xw Z0 (by kernel_rfl) [] (by kernel_rfl) ?_
   refine zF3 ax48 bx48 cx48 ?_
   refine PCall.of (Zi3 hy49) ?_
   refine zF3 ax48 bx48 cx48 ?_
   refine zD [1,2,10,204] [true] ?_
   refine Z5 (t:=(!y49)) rfl (fun c50 => ?_) (fun c50 => ?_)
   ·replace hs2_:=Z4 c50 hs2_
    refine zQ [4] ?_
    refine zW ?_
    exact zEy hs2_
   replace hs2_:=Z3 c50 hs2_
   refine Gk [1,2,10] [true] ?_
   refine zR ?_
   exact zEn hs2_
  replace hs2_:=Z3 c51 hs2_
  exact zEx hs2_
 rcases z52 with z52 | z52
 ·dsimp only [Q7] at hw h
  refine Vf hw ?_
  try simp only [Xh,Ys,↓reduceIte,Nat.reduceEqDiff]
  exact Zmw [(vB false)]
 dsimp only [Q7] at hw h
 refine Y6 hw ?_
 try simp only [Xh,Ys,↓reduceIte,Nat.reduceEqDiff]
 refine zDs [2] [true] ?_
 obtain ⟨y54,hy54,h⟩:=bC h
 refine zCd (Zf7 hy54) [11,12] [false] ?_
 refine zQD [4] [none,none] ?_
 exact X6 [(vB (cond (decide (y54.1 < 1048576)) (decide (y54.2 < 1048576)) false))]
theorem Zq8 {Xr:(Zg→Int→Option Bool)} {Qr:(Int→Zl→Int→Option Bool)} (Zde:Zdc Xr) (Zi3:Ze3 Qr) {a0:Int} {a1:Zl} {a2:Int} {r:Bool} {O:Objs} {n:Nat} (h:Zc4 Xr Qr a0 a1 a2=some r):GTo Try.prog 23 [(vI a0),.agg (Yz a1),(vI a2)] O n ((vB r)) O n:=by
 unfold Zc4 at h
 refine zFn Try.call23 Try.func23 fun hU hN0 hN => ?_
 show W _ _ _ _ ⟨121,[],[(0,(vI a0)),(1,.agg (Yz a1)),(2,(vI a2))]⟩ (Zx O n []) _
 refine zQ [0,2,4] ?_
 refine Zq ?_
 refine zQ [0,2,4,10] ?_
 refine Z5 (t:=(a1.Kind == 0)) rfl (fun c30 => ?_) (fun c30 => ?_)
 ·replace h:=Z4 c30 h
  obtain ⟨z2,hz2,h⟩:=bC h
  refine Xa (E':=⟨121,[],[(6,(vB z2))]⟩) (O':=(Zx O n [none])) (n0:=(n+1)) ?_ ?_
  ·rcases Bool.eq_false_or_eq_true (decide (1≤a1.N)) with c5 | c5
   ·replace hz2:=Z4 c5 hz2
    rcases Bool.eq_false_or_eq_true (decide (a1.N≤1048576)) with c6 | c6
    ·replace hz2:=Z4 c6 hz2
     try rw [c6] at c5
     rcases Bool.eq_false_or_eq_true ((a1.L.length:Int) == 0) with c7 | c7
     ·replace hz2:=Z4 c7 hz2
      try rw [c7] at c5
      try rw [c7] at c6
      obtain ⟨y4,hy4,hz2⟩:=bC hz2
      refine Zeu (Zy7 (Z9h [])) c5 c6 c7 ?_
      refine zG ?_
      refine (Zi2 hy4).then ?_
      refine zX3 c5 c6 c7 ?_
      refine zG ?_
      exact Zfi hz2 c5 c6 c7
     replace hz2:=Z3 c7 hz2
     try rw [c7] at c5
     try rw [c7] at c6
     refine Zeu (Zy7 (Z7b [])) c5 c6 c7 ?_
     refine zG ?_
     exact Zfi hz2 c5 c6 c7
    replace hz2:=Z3 c6 hz2
    try rw [c6] at c5
    refine Jg (Zy7 (Z7b [])) c5 c6 ?_
    refine zG ?_
    exact Zjo hz2 c5 c6
   replace hz2:=Z3 c5 hz2
   refine Zd4 (Zy7 (Z7b [])) c5 ?_
   refine zG ?_
   exact Zcr hz2 c5
  exact X6 [(vB z2)]
 replace h:=Z3 c30 h
 refine Gk [0,2,4] [true] ?_
 refine Zq ?_
 refine zQD [0,2,4,42] [none,none,none,none,none,none] ?_
 refine Z5 (t:=(cond (cond (a1.N != 0) true (decide (a1.Kind < 0))) true (decide (3 < a1.Kind)))) rfl (fun c29 => ?_) (fun c29 => ?_)
 ·replace h:=Z4 c29 h
  refine zQ [6] ?_
  exact X6 [(vB false)]
 replace h:=Z3 c29 h
 refine Gk [0,2,4] [true] ?_
 refine Zq ?_
 refine zQ [0,2,4,45] ?_
 refine Z5 (t:=(decide (a1.Kind < 3))) rfl (fun c28 => ?_) (fun c28 => ?_)
 ·replace h:=Z4 c28 h
  refine Zq ?_
  refine zQd [0,4,7] [0,4,7] [true] ?_
  obtain ⟨z14,hz14,h⟩:=bC h
  refine Zdb (J:=(Q7 (fun z14=>JR n (⟨121,[],[(6,(vB false))]⟩:Env) (Zx O n [none]) (n+1)) (fun z14=>JX 0 n (⟨121,[],[(4,.ref n 0)]⟩:Env) (Zx O n [some ⟨false,41,14,1,(Yz a1)⟩]) (n+1)))) (z:=z14) ?_ fun hw => ?_
  ·refine Xo hz14 (fun s0_=>⟨121,[],[(0,(vI a0)),(4,.ref n 0),(7,(vI s0_))]⟩) (fun s0_=>(Zx O n [some ⟨false,41,14,1,(Yz a1)⟩])) (Q7 (fun z14=>JR n (⟨121,[],[(6,(vB false))]⟩:Env) (Zx O n [none]) (n+1)) (fun z14=>JX 0 n (⟨121,[],[(4,.ref n 0)]⟩:Env) (Zx O n [some ⟨false,41,14,1,(Yz a1)⟩]) (n+1))) ?_
   intro s0_ x0_ hs0_
   unfold G8 at hs0_
   try dsimp only
   refine Zq ?_
   refine zQ [0,4,7,50] ?_
   refine Z5 (t:=(decide (s0_ < (a1.L.length:Int)))) rfl (fun c13 => ?_) (fun c13 => ?_)
   ·replace hs0_:=Z4 c13 hs0_
    refine Gk [0,4,7] [true] ?_
    refine Zq ?_
    refine Yy ?_
    refine Zq ?_
    obtain ⟨l10,al10,bl10,cl10,gl10,hs0_⟩:=bS (lo:=(some (.i64,s0_))) (hi:=(some (.i64,(IntKind.i64.wrap (s0_+1))))) (f:=Za) rfl rfl Zh7 Zb9 (fun _=>rfl) hs0_
    obtain ⟨y11,hy11,hs0_⟩:=bC hs0_
    refine Z4m [] al10 bl10 cl10 gl10 ?_
    refine GCalls.argsW ?_ ((Zcc hy11).then ?_)
    ·exact Yfm al10 bl10 cl10 gl10
    refine zX4 al10 bl10 cl10 gl10 ?_
    refine zD [0,4,7,62] [true] ?_
    refine Z5 (t:=(!y11)) rfl (fun c12 => ?_) (fun c12 => ?_)
    ·replace hs0_:=Z4 c12 hs0_
     refine zQ [6] ?_
     refine zW ?_
     exact zEy hs0_
    replace hs0_:=Z3 c12 hs0_
    refine Gk [0,4,7] [true] ?_
    refine zR ?_
    exact zEn hs0_
   replace hs0_:=Z3 c13 hs0_
   exact zEx hs0_
  rcases z14 with z14 | z14
  ·dsimp only [Q7] at hw h
   refine Vf hw ?_
   try simp only [Xh,Ys,↓reduceIte,Nat.reduceEqDiff]
   exact Zmw [(vB false)]
  dsimp only [Q7] at hw h
  refine Y6 hw ?_
  try simp only [Xh,Ys,↓reduceIte,Nat.reduceEqDiff]
  refine zD [4] [true] ?_
  obtain ⟨z16,hz16,h⟩:=bC h
  refine Xa (E':=⟨121,[],[(6,(vB z16))]⟩) (O':=(Zx O n [none])) (n0:=(n+1)) ?_ ?_
  ·rcases Bool.eq_false_or_eq_true (decide (0 < (a1.L.length:Int))) with c19 | c19
   ·replace hz16:=Z4 c19 hz16
    obtain ⟨y18,hy18,hz16⟩:=bC hz16
    refine Zd4 (Z9h []) c19 ?_
    refine (Zi2 hy18).then ?_
    refine zX1 c19 ?_
    exact Zcr hz16 c19
   replace hz16:=Z3 c19 hz16
   refine Zd4 (Z7b []) c19 ?_
   exact Zcr hz16 c19
  exact X6 [(vB z16)]
 replace h:=Z3 c28 h
 refine Gk [0,2,4] [true] ?_
 refine Zq ?_
 obtain ⟨z21,hz21,h⟩:=bC h
 refine Xa (E':=⟨121,[],[(0,(vI a0)),(4,.ref n 0),(92,(vB z21))]⟩) (O':=(Zx O n [some ⟨false,41,14,1,(Yz a1)⟩])) (n0:=(n+1)) ?_ ?_
 ·rcases Bool.eq_false_or_eq_true (decide (0 < (a1.L.length:Int))) with c24 | c24
  ·replace hz21:=Z4 c24 hz21
   refine Zd4 (Zy6 (Z9g [])) c24 ?_
   refine zG ?_
   exact Zcr hz21 c24
  replace hz21:=Z3 c24 hz21
  rcases Bool.eq_false_or_eq_true (a1.E.Kind == 0) with c25 | c25
  ·replace hz21:=Z4 c25 hz21
   try rw [c25] at c24
   refine Jg (Zy6 (Z9g [])) c24 c25 ?_
   refine zG ?_
   exact Zjo hz21 c24 c25
  replace hz21:=Z3 c25 hz21
  try rw [c25] at c24
  rcases Bool.eq_false_or_eq_true (decide (a0≤7)) with c26 | c26
  ·replace hz21:=Z4 c26 hz21
   try rw [c26] at c24
   try rw [c26] at c25
   refine Zeu (Zy6 (Z9g [])) c24 c25 c26 ?_
   refine zG ?_
   exact Zfi hz21 c24 c25 c26
  replace hz21:=Z3 c26 hz21
  try rw [c26] at c24
  try rw [c26] at c25
  obtain ⟨y23,hy23,hz21⟩:=bC hz21
  refine Zeu (Zy6 (Ycg [])) c24 c25 c26 ?_
  refine zG ?_
  refine (Zde hy23).then ?_
  refine zX3 c24 c25 c26 ?_
  refine zG ?_
  exact Zfi hz21 c24 c25 c26
 refine Z5 (t:=z21) rfl (fun c27 => ?_) (fun c27 => ?_)
 ·replace h:=Z4 c27 h
  refine zQ [6] ?_
  exact X6 [(vB false)]
 replace h:=Z3 c27 h
 refine Gk [0,4] [true] ?_
 refine zQD [6] [none,none,none,none,none,none,none,none,none,none,none,none,none,none,none,none,none,none,none,none,none,none] ?_
 exact X6 [(vB (cond (cond (a0 == 8) true (a1.E.Kind == 2)) true (cond (cond (a1.E.Kind == 1) (a1.E.Old.Kind == 1) false) (a1.E.New.Kind == 1) false)))]
theorem Zlz:∀ k,(Zdc ((Y1 k).1))∧(Ze3 ((Y1 k).2)):=fun k=>by
 induction k with
 | zero=>exact ⟨@fun a0 a1 r O n h=>(nomatch (show (none:Option _)=some _ from h)),@fun a0 a1 a2 r O n h=>(nomatch (show (none:Option _)=some _ from h))⟩
 | succ k ih=>exact ⟨@fun a0 a1 r O n h=>Znf (ih.1) (ih.2)  h,@fun a0 a1 a2 r O n h=>Zq8 (ih.1) (ih.2)  h⟩
theorem Yc {ba:Nat} {E:Env} {O O':Objs} {n i j k len:Nat} {q qj:GObj} (hi:O i=some q) (hk:q.cells[k]? = some (.row j len)) (hj:O j=some qj) (hij:i≠j) (hO:((O.upd j none).upd n (some qj)).upd i (some ⟨q.row,q.ty,q.sz,q.n,q.cells.set k (.row n len)⟩)=O') (hb:ba≤n):Fit2 ba E O n E O' (n+1):=hO ▸ Z8h hi hk hj hij hb
theorem Zhw {a0:Zg} {a1:Int} {r:Bool} {O:Objs} {n:Nat} (h:Ze2 a0 a1=some r):GTo Try.prog 11 [.agg (Zk a0),(vI a1)] O n ((vB r)) O n:=by
 obtain ⟨k,hk⟩:=Zbt h
 exact (Zlz k).1  hk
def Zf6 (X7:(Zg→Option Bool)):Prop:=∀ {a0:Zg} {r:Bool} {O:Objs} {n:Nat},X7 a0=some r→GTo Try.prog 12 [.agg (Zk a0)] O n ((vB r)) O n
theorem Zne {X7:(Zg→Option Bool)} (Zf9:Zf6 X7) {a0:Zg} {r:Bool} {O:Objs} {n:Nat} (h:G5 X7 a0=some r):GTo Try.prog 12 [.agg (Zk a0)] O n ((vB r)) O n:=by
 unfold G5 at h
 refine zFn Try.call12 Try.func12 fun hU hN0 hN => ?_
 show W _ _ _ _ ⟨48,[],[(0,.agg (Zk a0))]⟩ (Zx O n []) _
 refine zQ [1] ?_
 refine Zq ?_
 obtain ⟨y2,hy2,h⟩:=bC h
 refine zCd (Zf7 hy2) [1,3,4] [true] ?_
 refine Zq ?_
 refine zQD [1,17] [none,none] ?_
 refine Z5 (t:=(cond (decide (2000 < y2.1)) true (decide (2000 < y2.2)))) rfl (fun c21 => ?_) (fun c21 => ?_)
 ·replace h:=Z4 c21 h
  refine zQ [2] ?_
  exact X6 [(vB false)]
 replace h:=Z3 c21 h
 refine Gk [1] [true] ?_
 refine Zq ?_
 refine zQd [1,5] [1,5] [true] ?_
 obtain ⟨z11,hz11,h⟩:=bC h
 refine Zdb (J:=(Q7 (fun z11=>JR n (⟨48,[],[(2,(vB false))]⟩:Env) (Zx O n [none]) (n+1)) (fun z11=>JX 0 n (⟨48,[],[(1,.ref n 0)]⟩:Env) (Zx O n [some ⟨false,30,11,1,(Zk a0)⟩]) (n+1)))) (z:=z11) ?_ fun hw => ?_
 ·refine Xo hz11 (fun s0_=>⟨48,[],[(1,.ref n 0),(5,(vI s0_))]⟩) (fun s0_=>(Zx O n [some ⟨false,30,11,1,(Zk a0)⟩])) (Q7 (fun z11=>JR n (⟨48,[],[(2,(vB false))]⟩:Env) (Zx O n [none]) (n+1)) (fun z11=>JX 0 n (⟨48,[],[(1,.ref n 0)]⟩:Env) (Zx O n [some ⟨false,30,11,1,(Zk a0)⟩]) (n+1))) ?_
  intro s0_ x0_ hs0_
  unfold Vz at hs0_
  try dsimp only
  refine Zq ?_
  refine zQ [1,5,22] ?_
  refine Z5 (t:=(decide (s0_ < (a0.Kids.length:Int)))) rfl (fun c10 => ?_) (fun c10 => ?_)
  ·replace hs0_:=Z4 c10 hs0_
   refine Gk [1,5] [true] ?_
   refine Zq ?_
   refine Yy ?_
   refine Zq ?_
   obtain ⟨x6,hx6,ax6,bx6,cx6,hs0_⟩:=bE (f:=Zc) Zc9 (fun _=>rfl) (by decide) hs0_
   have g7:=Jn (f:=Zc) (off:=1) (sz:=12) Zhj (fun _=>rfl) (by decide) (by decide) hx6
   obtain ⟨y8,hy8,hs0_⟩:=bC hs0_
   refine Zsw [] ax6 bx6 cx6 g7 ?_
   refine (Zf9 hy8).then ?_
   refine zF4 ax6 bx6 cx6 g7 ?_
   refine zD [1,5,32] [true] ?_
   refine Z5 (t:=(!y8)) rfl (fun c9 => ?_) (fun c9 => ?_)
   ·replace hs0_:=Z4 c9 hs0_
    refine zQ [2] ?_
    refine zW ?_
    exact zEy hs0_
   replace hs0_:=Z3 c9 hs0_
   refine Gk [1,5] [true] ?_
   refine zR ?_
   exact zEn hs0_
  replace hs0_:=Z3 c10 hs0_
  exact zEx hs0_
 rcases z11 with z11 | z11
 ·dsimp only [Q7] at hw h
  refine Vf hw ?_
  try simp only [Xh,Ys,↓reduceIte,Nat.reduceEqDiff]
  exact Zmw [(vB false)]
 dsimp only [Q7] at hw h
 refine Y6 hw ?_
 try simp only [Xh,Ys,↓reduceIte,Nat.reduceEqDiff]
 refine zDs [1] [true] ?_
 refine zQd [1,6] [1,6] [true] ?_
 obtain ⟨z20,hz20,h⟩:=bC h
 refine Zdb (J:=(Q7 (fun z20=>JR n (⟨48,[],[(2,(vB false))]⟩:Env) (Zx O n [none]) (n+1)) (fun z20=>JX 2 n (⟨48,[],[]⟩:Env) (Zx O n [none]) (n+1)))) (z:=z20) ?_ fun hw => ?_
 ·refine Xo hz20 (fun s1_=>⟨48,[],[(1,.ref n 0),(6,(vI s1_))]⟩) (fun s1_=>(Zx O n [some ⟨false,30,11,1,(Zk a0)⟩])) (Q7 (fun z20=>JR n (⟨48,[],[(2,(vB false))]⟩:Env) (Zx O n [none]) (n+1)) (fun z20=>JX 2 n (⟨48,[],[]⟩:Env) (Zx O n [none]) (n+1))) ?_
  intro s1_ x1_ hs1_
  unfold V0 at hs1_
  try dsimp only
  refine Zq ?_
  refine zQ [1,6,37] ?_
  refine Z5 (t:=(decide (s1_ < (a0.Ops.length:Int)))) rfl (fun c19 => ?_) (fun c19 => ?_)
  ·replace hs1_:=Z4 c19 hs1_
   refine Gk [1,6] [true] ?_
   refine Zq ?_
   refine Yy ?_
   refine Zq ?_
   obtain ⟨x15,hx15,ax15,bx15,cx15,hs1_⟩:=bE (f:=Zf) V2 (fun _=>rfl) (by decide) hs1_
   have g16:=Jn (f:=Zf) (off:=3) (sz:=14) Zhj (fun _=>rfl) (by decide) (by decide) hx15
   obtain ⟨y17,hy17,hs1_⟩:=bC hs1_
   refine Zsw [] ax15 bx15 cx15 g16 ?_
   refine (Zf9 hy17).then ?_
   refine zF4 ax15 bx15 cx15 g16 ?_
   refine zD [1,6,47] [true] ?_
   refine Z5 (t:=(!y17)) rfl (fun c18 => ?_) (fun c18 => ?_)
   ·replace hs1_:=Z4 c18 hs1_
    refine zQ [2] ?_
    refine zW ?_
    exact zEy hs1_
   replace hs1_:=Z3 c18 hs1_
   refine Gk [1,6] [true] ?_
   refine zR ?_
   exact zEn hs1_
  replace hs1_:=Z3 c19 hs1_
  exact zEx hs1_
 rcases z20 with z20 | z20
 ·dsimp only [Q7] at hw h
  refine Vf hw ?_
  try simp only [Xh,Ys,↓reduceIte,Nat.reduceEqDiff]
  exact Zmw [(vB false)]
 dsimp only [Q7] at hw h
 refine Y6 hw ?_
 try simp only [Xh,Ys,↓reduceIte,Nat.reduceEqDiff]
 refine zD [] [false] ?_
 refine zQ [2] ?_
 exact X6 [(vB true)]
theorem Zly:∀ k,(Zf6 (J7 k)):=fun k=>by
 induction k with
 | zero=>exact @fun a0 r O n h=>(nomatch (show (none:Option _)=some _ from h))
 | succ k ih=>exact @fun a0 r O n h=>Zne (ih)  h
theorem Zoz {a0:Zg} {r:Bool} {O:Objs} {n:Nat} (h:Ze1 a0=some r):GTo Try.prog 12 [.agg (Zk a0)] O n ((vB r)) O n:=by
 obtain ⟨k,hk⟩:=Zbt h
 exact (Zly k)  hk
theorem Zps {a0:Zg} {r:Bool} {O:Objs} {n:Nat} (h:Zby a0=some r):GTo Try.prog 5 [.agg (Zk a0)] O n ((vB r)) O n:=by
 unfold Zby at h
 refine zFn Try.call5 Try.func5 fun hU hN0 hN => ?_
 show W _ _ _ _ ⟨13,[],[(0,.agg (Zk a0))]⟩ (Zx O n []) _
 refine zQ [1] ?_
 obtain ⟨z4,hz4,h⟩:=bC h
 refine Xa (E':=⟨13,[],[(2,(vB z4))]⟩) (O':=(Zx O n [none])) (n0:=(n+1)) ?_ ?_
 ·obtain ⟨y8,hy8,hz4⟩:=bC hz4
  rcases Bool.eq_false_or_eq_true y8 with c11 | c11
  ·replace hz4:=Z4 c11 hz4
   obtain ⟨y9,hy9,hz4⟩:=bC hz4
   rcases Bool.eq_false_or_eq_true y9 with c12 | c12
   ·replace hz4:=Z4 c12 hz4
    try rw [c12] at c11
    obtain ⟨y10,hy10,hz4⟩:=bC hz4
    refine Jg (Z2z []) c11 c12 ?_
    refine (Zfx hy8).then ?_
    refine zX2 c11 c12 ?_
    refine (Zhw hy9).then ?_
    refine zX2 c11 c12 ?_
    refine (Zoz hy10).then ?_
    refine zX2 c11 c12 ?_
    exact Zjo hz4 c11 c12
   replace hz4:=Z3 c12 hz4
   try rw [c12] at c11
   refine Jg (U8::U8::[Y7,Y7]) c11 c12 ?_
   refine (Zfx hy8).then ?_
   refine zX2 c11 c12 ?_
   refine (Zhw hy9).then ?_
   refine zX2 c11 c12 ?_
   exact Zjo hz4 c11 c12
  replace hz4:=Z3 c11 hz4
  refine Zd4 (Yea []) c11 ?_
  refine (Zfx hy8).then ?_
  refine zX1 c11 ?_
  exact Zcr hz4 c11
 exact X6 [(vB z4)]
theorem Zb3 {a0:(List Int)} {r:(List Int)} {O:Objs} {n:Nat} (h:Ua a0=some r):GTo Try.prog 48 [(sL (eI .u64) a0)] O n ((sL (eI .u64) r)) O n:=by
 unfold Ua at h
 refine zFn Try.call48 Try.func48 fun hU hN0 hN => ?_
 show W _ _ _ _ ⟨22,[],[(0,(sL (eI .u64) a0))]⟩ (Zx O n []) _
 refine zQ [0] ?_
 refine zQ [0,3] ?_
 refine Zq ?_
 refine zD [0,3] [] ?_
 obtain ⟨z7,hz7,h⟩:=bC h
 refine Y6 (E':=⟨22,[],[(0,(sL (eI .u64) a0)),(3,(vI z7))]⟩) (O':=(Zx O n [])) (n0:=n) ?_ ?_
 ·refine Xo hz7 (fun s0_=>⟨22,[],[(0,(sL (eI .u64) a0)),(3,(vI s0_))]⟩) (fun s0_=>(Zx O n [])) (fun z7=>JX 0 n (⟨22,[],[(0,(sL (eI .u64) a0)),(3,(vI z7))]⟩:Env) (Zx O n []) n) ?_
  intro s0_ x0_ hs0_
  unfold Gr at hs0_
  try dsimp only
  refine Zq ?_
  obtain ⟨z2,hz2,hs0_⟩:=bC hs0_
  refine Xa (E':=⟨22,[],[(0,(sL (eI .u64) a0)),(3,(vI s0_)),(15,(vB z2))]⟩) (O':=(Zx O n [])) (n0:=n) ?_ ?_
  ·rcases Bool.eq_false_or_eq_true (decide (0 < s0_)) with c5 | c5
   ·replace hz2:=Z4 c5 hz2
    obtain ⟨x4,hx4,ax4,bx4,cx4,hz2⟩:=bE (f:=(eI .u64)) Zjl (fun _=>rfl) (by decide) hz2
    refine Zsw (Zt2 []) c5 ax4 bx4 cx4 ?_
    exact Z8q hz2 c5 ax4 bx4 cx4
   replace hz2:=Z3 c5 hz2
   refine Zd4 (Zxe []) c5 ?_
   exact Zcr hz2 c5
  refine Z5 (t:=z2) rfl (fun c6 => ?_) (fun c6 => ?_)
  ·replace hs0_:=Z4 c6 hs0_
   refine Gk [0,3] [] ?_
   refine Yy ?_
   refine zR ?_
   exact zEn hs0_
  replace hs0_:=Z3 c6 hs0_
  exact zEx hs0_
 try simp only [Xh,Ys,↓reduceIte,Nat.reduceEqDiff]
 refine zD [0,3] [] ?_
 obtain ⟨l9,al9,bl9,cl9,gl9,h⟩:=bS3 (lo:=none) (hi:=(.i64,z7)) (f:=(eI .u64)) rfl rfl Zma Zjl (fun _=>rfl) h
 refine Yd1 [2] al9 bl9 cl9 gl9 ?_
 exact X6 [(sL (eI .u64) l9)]
theorem Zgf {a0:(List Zb)} {r:(List Zb)} {O:Objs} {n:Nat} (h:Gi a0=some r):GTo Try.prog 49 [(sL Za a0)] O n ((sL Za r)) O n:=by
 unfold Gi at h
 refine zFn Try.call49 Try.func49 fun hU hN0 hN => ?_
 show W _ _ _ _ ⟨23,[],[(0,(sL Za a0))]⟩ (Zx O n []) _
 refine zQ [0] ?_
 refine zQ [0,3] ?_
 refine Zq ?_
 refine zD [0,3] [] ?_
 obtain ⟨z10,hz10,h⟩:=bC h
 refine Y6 (E':=⟨23,[],[(0,(sL Za a0)),(3,(vI z10))]⟩) (O':=(Zx O n [])) (n0:=n) ?_ ?_
 ·refine Xo hz10 (fun s0_=>⟨23,[],[(0,(sL Za a0)),(3,(vI s0_))]⟩) (fun s0_=>(Zx O n [])) (fun z10=>JX 0 n (⟨23,[],[(0,(sL Za a0)),(3,(vI z10))]⟩:Env) (Zx O n []) n) ?_
  intro s0_ x0_ hs0_
  unfold Zba at hs0_
  try dsimp only
  refine Zq ?_
  obtain ⟨z3,hz3,hs0_⟩:=bC hs0_
  refine Xa (E':=⟨23,[],[(0,(sL Za a0)),(3,(vI s0_)),(16,(vB z3))]⟩) (O':=(Zx O n [])) (n0:=n) ?_ ?_
  ·rcases Bool.eq_false_or_eq_true (decide (0 < s0_)) with c8 | c8
   ·replace hz3:=Z4 c8 hz3
    obtain ⟨x6,hx6,ax6,bx6,cx6,hz3⟩:=bE (f:=Za) Zb9 (fun _=>rfl) (by decide) hz3
    have g7:=Qc (f:=Za) (sz:=3) Zfa (fun _=>rfl) (by decide) (by decide) hx6
    refine Z15 (Z5n []) c8 ax6 bx6 cx6 g7 ?_
    exact Yas hz3 c8 ax6 bx6 cx6 g7
   replace hz3:=Z3 c8 hz3
   refine Zd4 (Z5m []) c8 ?_
   exact Zcr hz3 c8
  refine Z5 (t:=z3) rfl (fun c9 => ?_) (fun c9 => ?_)
  ·replace hs0_:=Z4 c9 hs0_
   refine Gk [0,3] [] ?_
   refine Yy ?_
   refine zR ?_
   exact zEn hs0_
  replace hs0_:=Z3 c9 hs0_
  exact zEx hs0_
 try simp only [Xh,Ys,↓reduceIte,Nat.reduceEqDiff]
 refine zD [0,3] [] ?_
 obtain ⟨l12,al12,bl12,cl12,gl12,h⟩:=bS3 (lo:=none) (hi:=(.i64,z10)) (f:=Za) rfl rfl Zh7 Zb9 (fun _=>rfl) h
 refine Yd1 [2] al12 bl12 cl12 gl12 ?_
 exact X6 [(sL Za l12)]
def Zna (Zct:(Zb→Option Zb)):Prop:=∀ {a0:Zb} {r:Zb} {O:Objs} {n:Nat},Zct a0=some r→GTo Try.prog 28 [.agg (Zz a0)] O n (.agg (Zz r)) O n
theorem Zxi {Zct:(Zb→Option Zb)} (Zvj:Zna Zct) {a0:Zb} {r:Zb} {O:Objs} {n:Nat} (h:Zgo Zct a0=some r):GTo Try.prog 28 [.agg (Zz a0)] O n (.agg (Zz r)) O n:=by
 unfold Zgo at h
 refine zFn Try.call28 Try.func28 fun hU hN0 hN => ?_
 show W _ _ _ _ ⟨49,[],[(0,.agg (Zz a0))]⟩ (Zx O n []) _
 refine zQ [1,2] ?_
 refine Zq ?_
 refine zQ [1,2,10] ?_
 refine Z5 (t:=(a0.Kind == 0)) rfl (fun c15 => ?_) (fun c15 => ?_)
 ·replace h:=Z4 c15 h
  refine Zq ?_
  refine zRd [2] [false,true] ?_
  exact X6 [.agg [(vI 0),nV,nV]]
 replace h:=Z3 c15 h
 refine Gk [1,2] [true,true] ?_
 refine Zce [1,2,3,4] (Xw Z0 (by kernel_rfl) [] (by kernel_rfl) ?_)
 refine zS ?_
 obtain ⟨z1,hz1,h⟩:=bC h
 refine Xa (E':=⟨49,[],[(1,.ref n 0),(2,.ref (n+1) 0),(3,(sL (eI .u64) z1.1)),(4,(sL Za z1.2))]⟩) (O':=(Zx O n [some ⟨false,25,3,1,(Zz a0)⟩,some ⟨false,25,3,1,[(vI 0),nV,nV]⟩])) (n0:=(n+2)) ?_ ?_
 ·refine zQ [1,2,3,4,18] ?_
  refine Z5 (t:=(a0.Kind == 1)) rfl (fun c4 => ?_) (fun c4 => ?_)
  ·replace hz1:=Z4 c4 hz1
   obtain ⟨y2,hy2,hz1⟩:=bC hz1
   obtain ⟨y3,hy3,hz1⟩:=bC hz1
   refine zC (Zb3 hy2) ?_
   refine zTs (Zgf hy3) ?_
   exact zEn hz1
  replace hz1:=Z3 c4 hz1
  refine zK ?_
  exact zEn hz1
 refine Zq ?_
 refine zRd [2,4,5] [false,true,true] ?_
 obtain ⟨z5,hz5,h⟩:=bC h
 refine Xa (E':=⟨49,[],[(2,.ref (n+1) 0),(4,(sL Za z1.2)),(5,.ref (n+2) 0)]⟩) (O':=(Zx O n [none,some ⟨false,25,3,1,[(vI 0),nV,nV]⟩,some ⟨false,25,3,1,[(vI a0.Kind),(sL (eI .u64) z1.1),.row (n+4) z5.length]⟩,none,some (oR 25 3 Za z5),none])) (n0:=(n+6)) ?_ ?_
 ·refine zQ [2,4,5,29] ?_
  refine Z5 (t:=(decide (0 < (z1.2.length:Int)))) rfl (fun c7 => ?_) (fun c7 => ?_)
  ·replace hz5:=Z4 c7 hz5
   obtain ⟨l6,al6,bl6,cl6,el6,hz5⟩:=bM2 (c:=56) rfl hz5
   have nl6:Int.toNat (z1.2.length:Int)=List.length l6:=by rw [el6,List.length_replicate]
   have fl6:∀ O O' n,wkl O O' n (List.replicate (List.length l6) [.val (.int .i64 0),.val (.slice none 0 0),.val (.slice none 0 0)]).flatten (fl Za l6)=True:=fun O O' n=>by rw [← nl6,el6];exact eq_true (Z12 (by simp only [push_cast,seval,Ze]) _)
   clear el6
   refine Ya Z0 [] ?_
   simp only [push_cast,seval,Ze,al6,bl6,cl6,fl6,nl6,hN0,hN]
   obtain rfl:=sI hz5
   refine And.intro rfl ?_
   refine Fit2.trans (E':=(⟨49,[],[(2,.ref (n+1) 0),(4,(sL Za z1.2)),(5,.ref (n+2) 0)]⟩:Env)) (O':=(Zx O n [none,some ⟨false,25,3,1,[(vI 0),nV,nV]⟩,some ⟨false,25,3,1,[(vI a0.Kind),(sL (eI .u64) z1.1),.row (n+3) l6.length]⟩,some (oR 25 3 Za l6)])) (n':=(n+4)) (Fit2.of (Yq hU rfl rfl ?_) (by omega)) ?_
   ·simp only [push_cast,seval,Ze,al6,bl6,cl6,fl6,nl6,hN0,hN]
   refine Km (k:=4) (k':=6) hU [5,1,2,4] [0,1,2,0,3,0] rfl rfl rfl rfl ⟨rfl,rfl⟩ ?_
   exact zSe
  replace hz5:=Z3 c7 hz5
  refine zK ?_
  obtain rfl:=sI hz5
  refine And.intro rfl ?_
  refine Fit2.trans (E':=(⟨49,[],[(2,.ref (n+1) 0),(4,(sL Za z1.2)),(5,.ref (n+2) 0)]⟩:Env)) (O':=(Zx O n [none,some ⟨false,25,3,1,[(vI 0),nV,nV]⟩,some ⟨false,25,3,1,[(vI a0.Kind),(sL (eI .u64) z1.1),nV]⟩])) (n':=(n+3)) (Fit2.of (Yq hU rfl rfl ?_) (by omega)) ?_
  ·exact zSe
  refine Fit2.trans (Vg (p:=(n+2)) (k:=2) (q:=⟨false,25,3,1,[(vI a0.Kind),(sL (eI .u64) z1.1),nV]⟩) 25 3 (by simp only [Vu,Gu,List.getElem?_cons_zero,List.getElem?_cons_succ,Option.join_some,List.length_nil]) rfl (by omega)) ?_
  simp only [Jj,Qd,Ve,List.set_cons_zero,List.set_cons_succ,List.cons_append,List.nil_append,List.length_cons,List.length_nil,Nat.zero_add,Nat.reduceAdd,Nat.reduceLT,Nat.add_assoc]
  refine Km (k:=4) (k':=6) hU [5,1,2,4] [0,1,2,0,3,0] rfl rfl rfl rfl ⟨rfl,rfl⟩ ?_
  exact zSe
 refine Zq ?_
 refine zQd [2,5,34,35,36] [2,5,34,35,36] [false,true,true,false,true,false] ?_
 obtain ⟨z14,hz14,h⟩:=bC h
 refine Y6 (E':=⟨49,[],[(2,.ref (n+1) 0),(5,.ref (n+2) 0)]⟩) (O':=(Zx O n [none,some ⟨false,25,3,1,[(vI 0),nV,nV]⟩,some ⟨false,25,3,1,[(vI a0.Kind),(sL (eI .u64) z1.1),.row (n+4) z14.length]⟩,none,some (oR 25 3 Za z14),none])) (n0:=(n+6)) ?_ ?_
 ·refine Xo hz14 (fun s0_=>⟨49,[],[(2,.ref (n+1) 0),(5,.ref (n+2) 0),(34,(sL Za z1.2)),(35,(vI (z1.2.length:Int))),(36,(vI s0_.1))]⟩) (fun s0_=>(Zx O n [none,some ⟨false,25,3,1,[(vI 0),nV,nV]⟩,some ⟨false,25,3,1,[(vI a0.Kind),(sL (eI .u64) z1.1),.row (n+4) s0_.2.length]⟩,none,some (oR 25 3 Za s0_.2),none])) (fun z14=>JX 0 n (⟨49,[],[(2,.ref (n+1) 0),(5,.ref (n+2) 0)]⟩:Env) (Zx O n [none,some ⟨false,25,3,1,[(vI 0),nV,nV]⟩,some ⟨false,25,3,1,[(vI a0.Kind),(sL (eI .u64) z1.1),.row (n+4) z14.length]⟩,none,some (oR 25 3 Za z14),none]) (n+6)) ?_
  intro s0_ x0_ hs0_
  unfold Zcg at hs0_
  try dsimp only
  refine zQ [2,5,34,35,36,37] ?_
  refine Zq ?_
  refine Z5 (t:=(decide (s0_.1 < (z1.2.length:Int)))) rfl (fun c13 => ?_) (fun c13 => ?_)
  ·replace hs0_:=Z4 c13 hs0_
   refine Gk [2,5,34,35,36] [false,true,true,false,true,false] ?_
   refine Zq ?_
   refine Yy ?_
   refine Zq ?_
   obtain ⟨x9,hx9,ax9,bx9,cx9,hs0_⟩:=bE (f:=Za) Zb9 (fun _=>rfl) (by decide) hs0_
   refine Zlq [] ax9 bx9 cx9 ?_
   refine zD [2,5,6,7,34,35,36] [false,true,true,false,true,false,true] ?_
   obtain ⟨y10,hy10,hs0_⟩:=bC hs0_
   obtain ⟨x11,hx11,ax11,bx11,cx11,hs0_⟩:=bE (f:=Za) Zb9 (fun _=>rfl) (by decide) hs0_
   have gu12:J5 (fl Za s0_.2) [.val (.int .i64 y10.Kind),.sl y10.Words.length (fl (eI .u64) y10.Words),.sl y10.Kids.length (fl Za y10.Kids)] (Int.toNat s0_.1 * 3)=some (fl Za (Zld s0_.2 s0_.1 y10)):=(congrArg (fun c=>J5 (fl Za s0_.2) c (Int.toNat s0_.1 * 3)) (show [.val (.int .i64 y10.Kind),.sl y10.Words.length (fl (eI .u64) y10.Words),.sl y10.Kids.length (fl Za y10.Kids)]=Za y10 from by simp only [Za,Q9,eI,eB,eS,eL])).trans (Zs9 (f:=Za) (ti:=⟨.bool,3,0,[],false⟩) (x:=y10) (fun _=>rfl) (Zgx hx11))
   refine Gv Z0 (by kernel_rfl) [false,false,false,false,false,false,true] [] (by kernel_rfl) ?_
   refine zF4 ax11 bx11 cx11 gu12 ?_
   refine PCall.of (Zvj hy10) ?_
   refine zF4 ax11 bx11 cx11 gu12 ?_
   refine zD [2,5,34,35,36] [false,true,true,false,true,false,false] ?_
   refine zR ?_
   exact zEn hs0_
  replace hs0_:=Z3 c13 hs0_
  exact zEx hs0_
 try simp only [Xh,Ys,↓reduceIte,Nat.reduceEqDiff]
 refine zDs [2,5] [false,true,true,false,true,false] ?_
 refine zRd [2] [false,true,false,false,true,false] ?_
 exact X6 [.agg [(vI a0.Kind),(sL (eI .u64) z1.1),.row (n+4) z14.length]]
theorem Zt1:∀ k,(Zna (Gw k)):=fun k=>by
 induction k with
 | zero=>exact @fun a0 r O n h=>(nomatch (show (none:Option _)=some _ from h))
 | succ k ih=>exact @fun a0 r O n h=>Zxi (ih)  h
theorem Zc0 {a0:Zb} {r:Zb} {O:Objs} {n:Nat} (h:Zcs a0=some r):GTo Try.prog 28 [.agg (Zz a0)] O n (.agg (Zz r)) O n:=by
 obtain ⟨k,hk⟩:=Zbt h
 exact (Zt1 k)  hk
theorem Zc6 {a0 r:List Zp} {O:Objs} {n:Nat} (h:Ji a0=some r):GTo Try.prog 29 [(sL Zd a0)] O n (.row n r.length) (Zx O n [some (oR 48 4 Zd r)]) (n+1):=by
 have h1:=Z2c h
 have h2:=Z2d h
 have h3:=Zyf h
 rw [List.nil_append] at h3
 subst h3
 simp only [List.length_nil,Nat.zero_add] at h1 h2
 clear h
 refine zFn Try.call29 Try.func29 fun hU hN0 hN => ?_
 show W _ _ _ _ ⟨8,[],[(0,(sL Zd r))]⟩ (Zx O n []) _
 refine zQ [0] ?_
 refine Yaw 0 r.length (fl Zd r) rfl (Nat.le_of_ble_eq_true rfl) (Q8 Gs _) fun A c hA => ?_
 refine zQ [0,4] ?_
 cases A with
 | none =>
  obtain rfl:r=[]:=List.eq_nil_of_length_eq_zero (hA rfl)
  refine Z5 (t:=true) rfl (fun _ => ?_) (fun hc=>by cases hc)
  refine zQ [2] ?_
  refine zW ?_
  refine Zz1 (k:=1) (L3:=[some ⟨true,48,4,0,[]⟩]) (E2:=⟨8,[],[(2,.row n 0),(2,nV)]⟩) (n3:=(n+1)) (.inr rfl) hU rfl [.row n 0] ?_ ?_
  ·have ha:=Zh8 (ba:=n) (E:=⟨8,[],[(2,.val (.slice none 0 0))]⟩) (O:=(Zx O n [])) (n:=n) 2 48 4 rfl (by omega)
   simp only [Qd] at ha
   exact ha
  simp only [push_cast,seval,Ze,Try.results29,hN0,hN]
 | some A =>
  refine Z5 (t:=false) rfl (fun hc=>by cases hc) (fun _ => ?_)
  refine zK ?_
  refine And.intro rfl (And.intro (Nat.le_of_ble_eq_true rfl) ?_)
  refine Zq ?_
  refine Ya Z0 [] ?_
  simp only [push_cast,seval,Ze,h1,h2,hN0,hN]
  refine zW ?_
  refine Z6m (.inr rfl) hU rfl [.row n r.length] (by omega) ?_
  simp only [push_cast,seval,Ze,Try.results29,hN0,hN]
theorem Uq {a0:Yb} {r:Yb} {O:Objs} {n:Nat} {i0 j0_0 j0_1 j0_2:Nat} (hi0:i0 < n) (Vp:j0_0 < n) (Vq:j0_1 < n) (Vr:j0_2 < n) (X8:i0≠j0_0) (X0:i0≠j0_1) (X1:i0≠j0_2) (Xx:j0_0≠j0_1) (Xy:j0_0≠j0_2) (Xz:j0_1≠j0_2) (ho0:O i0=some ⟨false,90,4,1,[.row j0_2 a0.out.length,(vI a0.kept),.row j0_0 a0.gone.length,.row j0_1 a0.come.length]⟩) (Ge:O j0_0=some (oR 25 3 Za a0.gone)) (Gf:O j0_1=some (oR 25 3 Za a0.come)) (Gg:O j0_2=some (oR 41 14 Zf a0.out)) (h:Qb a0=some r):GTo Try.prog 53 [.ref i0 0] O n (.tup []) (Zx ((((O.upd j0_0 none).upd j0_1 none).upd j0_2 none).upd i0 (some ⟨false,90,4,1,[.row (n+2) r.out.length,(vI r.kept),.row n r.gone.length,.row (n+1) r.come.length]⟩)) n [some (oR 25 3 Za r.gone),some (oR 25 3 Za r.come),some (oR 41 14 Zf r.out)]) (n+3):=by
 unfold Qb at h
 refine Zc5 Z0 Try.call53 Try.func53 rfl (Nat.le_of_ble_eq_true rfl) (by omega) fun hU => ?_
 refine Yx (Yc (k:=2) (by rw [Zv _ hi0];first | exact ho0 | exact Z8 _ _ _ <;> rfl) (by rfl) (by rw [Zv _ Vp];exact Ge) X8 (by simp only [push_cast,Nat.reduceAdd,Zs _ _ Vp,Zs _ _ hi0,Zfb X8] <;> rfl) (by omega)) ?_
 refine Yx (Yc (k:=3) (by rw [Zv _ hi0];first | exact ho0 | exact Z8 _ _ _ <;> rfl) (by rfl) (by rw [Zv _ Vq,Yn _ _ (Ne.symm X0),Yn _ _ (Ne.symm Xx)];exact Gf) X0 (by simp only [push_cast,Nat.reduceAdd,Zs _ _ Vq,Zs _ _ hi0,Zfb X0] <;> rfl) (by omega)) ?_
 refine Yx (Yc (k:=0) (by rw [Zv _ hi0];first | exact ho0 | exact Z8 _ _ _ <;> rfl) (by rfl) (by rw [Zv _ Vr,Yn _ _ (Ne.symm X1),Yn _ _ (Ne.symm Xz),Yn _ _ (Ne.symm Xy)];exact Gg) X1 (by simp only [push_cast,Nat.reduceAdd,Zs _ _ Vr,Zs _ _ hi0,Zfb X1] <;> rfl) (by omega)) ?_
 have hU:=(Und.drop (Und.drop (Und.drop hU j0_0) j0_1) j0_2)
 have hk0:∀ k,i0 < n+k:=fun k=>by omega
 have hN0:∀ o,Objs.upd (((O.upd j0_0 none).upd j0_1 none).upd j0_2 none) i0 o n=none:=fun o=>Yw hU hi0 _ (Nat.le_refl _)
 have hN:∀ o k,Objs.upd (((O.upd j0_0 none).upd j0_1 none).upd j0_2 none) i0 o (n+k)=none:=fun o k=>Yw hU hi0 _ (Nat.le_add_right _ _)
 show W _ _ _ _ ⟨73,[],[(0,.ref i0 0)]⟩ (Zx ((((O.upd j0_0 none).upd j0_1 none).upd j0_2 none).upd i0 (some ⟨false,90,4,1,[.row (n+2) a0.out.length,(vI a0.kept),.row n a0.gone.length,.row (n+1) a0.come.length]⟩)) n [some (oR 25 3 Za a0.gone),some (oR 25 3 Za a0.come),some (oR 41 14 Zf a0.out)]) _
 obtain ⟨z1,hz1,h⟩:=bC h
 refine Xa (E':=⟨73,[],[(0,.ref i0 0)]⟩) (O':=(Zx ((((O.upd j0_0 none).upd j0_1 none).upd j0_2 none).upd i0 (some ⟨false,90,4,1,[.row (n+2) z1.length,(vI a0.kept),.row n a0.gone.length,.row (n+1) a0.come.length]⟩)) n [some (oR 25 3 Za a0.gone),some (oR 25 3 Za a0.come),some (oR 41 14 Zf z1),none])) (n0:=(n+4)) ?_ ?_
 ·refine Zec [0,6] hi0 hk0 ?_
  refine Z5 (t:=(decide (0 < a0.kept))) rfl (fun c5 => ?_) (fun c5 => ?_)
  ·replace hz1:=Z4 c5 hz1
   obtain ⟨l2,pl2,ql2,el2,hz1⟩:=bA (k:=1) rfl hz1
   obtain ⟨x3,hx3,ax3,bx3,cx3,hz1⟩:=bE (f:=Zf) V2 (fun _=>rfl) (by decide) hz1
   have gu4:J5 (fl Zf a0.out++[.val (.int .i64 0),.val (.int .i64 0),.val (.slice none 0 0),.val (.int .i64 0),.val (.int .i64 0),.val (.slice none 0 0),.val (.slice none 0 0),.val (.int .i64 0),.val (.slice none 0 0),.val (.slice none 0 0),.val (.slice none 0 0),.val (.slice none 0 0),.val (.int .i64 0),.val (.slice none 0 0)]) [.val (.int .i64 0),.val (.int .i64 a0.kept),.val (.slice none 0 0),.val (.int .i64 0),.val (.int .i64 0),.val (.slice none 0 0),.val (.slice none 0 0),.val (.int .i64 0),.val (.slice none 0 0),.val (.slice none 0 0),.val (.slice none 0 0),.val (.slice none 0 0),.val (.int .i64 0),.val (.slice none 0 0)] (List.length a0.out * 14)=some (fl Zf a0.out++[.val (.int .i64 0),.val (.int .i64 a0.kept),.val (.slice none 0 0),.val (.int .i64 0),.val (.int .i64 0),.val (.slice none 0 0),.val (.slice none 0 0),.val (.int .i64 0),.val (.slice none 0 0),.val (.slice none 0 0),.val (.slice none 0 0),.val (.slice none 0 0),.val (.int .i64 0),.val (.slice none 0 0)]):=Zbr (f:=Zf) (sz:=14) (fun _=>rfl) rfl rfl
   refine Zcv Z0 (by kernel_rfl) [.plain,.low,.low,.low,.plain,.low,.low,.low,.plain,.low,.pass,.bar,.shp,.fill true,.shp,.shp,.fill false] (fun i=>i < (n+3)) [0,1,2,3,4,5,6,7,8,9,10,11,12,13,14,15,16] [.plain,.low,.low,.low,.plain,.low,.low,.low,.plain,.low,.pass,.bar,.shp,.fill true,.shp,.shp,.fill false] [] (by kernel_rfl) rfl ?_
   refine zF9 pl2 ql2 el2 ax3 bx3 cx3 gu4 hi0 hk0 ?_
   refine zO ?_
   obtain rfl:=sI hz1
   refine And.intro rfl (Fit2.of (Ym hU rfl rfl ?_) (by omega))
   exact Z3f pl2 ql2 el2 ax3 bx3 cx3 gu4 hi0 hk0
  replace hz1:=Z3 c5 hz1
  refine zK ?_
  obtain rfl:=sI hz1
  refine And.intro rfl (Fit2.of (Ym hU rfl rfl ?_) (by omega))
  exact Qu hi0 hk0
 obtain ⟨z6,hz6,h⟩:=bC h
 refine Xa (E':=⟨73,[],[(0,.ref i0 0)]⟩) (O':=(Zx ((((O.upd j0_0 none).upd j0_1 none).upd j0_2 none).upd i0 (some ⟨false,90,4,1,[.row (n+2) z6.1.length,(vI a0.kept),(sL Za z6.2),.row (n+1) a0.come.length]⟩)) n [none,some (oR 25 3 Za a0.come),some (oR 41 14 Zf z6.1),none,none])) (n0:=(n+5)) ?_ ?_
 ·refine Zec [0,27] hi0 hk0 ?_
  refine Z5 (t:=(decide (0 < (a0.gone.length:Int)))) rfl (fun c12 => ?_) (fun c12 => ?_)
  ·replace hz6:=Z4 c12 hz6
   refine Zc3 ⟨73,[],[(0,.ref i0 0)]⟩ (Zx ((((O.upd j0_0 none).upd j0_1 none).upd j0_2 none).upd i0 (some ⟨false,90,4,1,[.row (n+2) z1.length,(vI a0.kept),(sL Za a0.gone),.row (n+1) a0.come.length]⟩)) n [none,some (oR 25 3 Za a0.come),some (oR 41 14 Zf z1),none]) (Ym hU rfl rfl ?_) ?_
   ·exact Qu hi0 hk0
   obtain ⟨l9,pl9,ql9,el9,hz6⟩:=bA (k:=1) rfl hz6
   obtain ⟨x10,hx10,ax10,bx10,cx10,hz6⟩:=bE (f:=Zf) V2 (fun _=>rfl) (by decide) hz6
   have gu11:J5 (fl Zf z1++[.val (.int .i64 0),.val (.int .i64 0),.val (.slice none 0 0),.val (.int .i64 0),.val (.int .i64 0),.val (.slice none 0 0),.val (.slice none 0 0),.val (.int .i64 0),.val (.slice none 0 0),.val (.slice none 0 0),.val (.slice none 0 0),.val (.slice none 0 0),.val (.int .i64 0),.val (.slice none 0 0)]) [.val (.int .i64 1),.val (.int .i64 0),.sl a0.gone.length (fl Za a0.gone),.val (.int .i64 0),.val (.int .i64 0),.val (.slice none 0 0),.val (.slice none 0 0),.val (.int .i64 0),.val (.slice none 0 0),.val (.slice none 0 0),.val (.slice none 0 0),.val (.slice none 0 0),.val (.int .i64 0),.val (.slice none 0 0)] (List.length z1 * 14)=some (fl Zf z1++[.val (.int .i64 1),.val (.int .i64 0),.sl a0.gone.length (fl Za a0.gone),.val (.int .i64 0),.val (.int .i64 0),.val (.slice none 0 0),.val (.slice none 0 0),.val (.int .i64 0),.val (.slice none 0 0),.val (.slice none 0 0),.val (.slice none 0 0),.val (.slice none 0 0),.val (.int .i64 0),.val (.slice none 0 0)]):=Zbr (f:=Zf) (sz:=14) (fun _=>rfl) rfl rfl
   refine Zcv Z0 (by kernel_rfl) [.plain,.low,.low,.low,.plain,.low,.low,.low,.plain,.low,.pass,.bar,.shp,.fill true,.shp,.shp,.fill false] (fun i=>i < (n+4)) [0,1,2,3,4,5,6,7,8,9,10,11,12,13,14,15,16] [.plain,.low,.low,.low,.plain,.low,.low,.low,.plain,.low,.pass,.bar,.shp,.fill true,.shp,.shp,.fill false] [] (by kernel_rfl) rfl ?_
   refine zF9 pl9 ql9 el9 ax10 bx10 cx10 gu11 hi0 hk0 ?_
   refine zO ?_
   obtain rfl:=sI hz6
   refine And.intro rfl (Fit2.of (Ym hU rfl rfl ?_) (by omega))
   exact Z3f pl9 ql9 el9 ax10 bx10 cx10 gu11 hi0 hk0
  replace hz6:=Z3 c12 hz6
  refine zK ?_
  obtain rfl:=sI hz6
  refine And.intro rfl (Fit2.of (Ym hU rfl rfl ?_) (by omega))
  exact Qu hi0 hk0
 obtain ⟨z13,hz13,h⟩:=bC h
 refine Xa (E':=⟨73,[],[(0,.ref i0 0)]⟩) (O':=(Zx ((((O.upd j0_0 none).upd j0_1 none).upd j0_2 none).upd i0 (some ⟨false,90,4,1,[.row (n+2) z13.1.length,(vI a0.kept),(sL Za z6.2),(sL Za z13.2)]⟩)) n [none,none,some (oR 41 14 Zf z13.1),none,none,none])) (n0:=(n+6)) ?_ ?_
 ·refine Zec [0,48] hi0 hk0 ?_
  refine Z5 (t:=(decide (0 < (a0.come.length:Int)))) rfl (fun c19 => ?_) (fun c19 => ?_)
  ·replace hz13:=Z4 c19 hz13
   refine Zc3 ⟨73,[],[(0,.ref i0 0)]⟩ (Zx ((((O.upd j0_0 none).upd j0_1 none).upd j0_2 none).upd i0 (some ⟨false,90,4,1,[.row (n+2) z6.1.length,(vI a0.kept),(sL Za z6.2),(sL Za a0.come)]⟩)) n [none,none,some (oR 41 14 Zf z6.1),none,none]) (Ym hU rfl rfl ?_) ?_
   ·exact Qu hi0 hk0
   obtain ⟨l16,pl16,ql16,el16,hz13⟩:=bA (k:=1) rfl hz13
   obtain ⟨x17,hx17,ax17,bx17,cx17,hz13⟩:=bE (f:=Zf) V2 (fun _=>rfl) (by decide) hz13
   have gu18:J5 (fl Zf z6.1++[.val (.int .i64 0),.val (.int .i64 0),.val (.slice none 0 0),.val (.int .i64 0),.val (.int .i64 0),.val (.slice none 0 0),.val (.slice none 0 0),.val (.int .i64 0),.val (.slice none 0 0),.val (.slice none 0 0),.val (.slice none 0 0),.val (.slice none 0 0),.val (.int .i64 0),.val (.slice none 0 0)]) [.val (.int .i64 2),.val (.int .i64 0),.sl a0.come.length (fl Za a0.come),.val (.int .i64 0),.val (.int .i64 0),.val (.slice none 0 0),.val (.slice none 0 0),.val (.int .i64 0),.val (.slice none 0 0),.val (.slice none 0 0),.val (.slice none 0 0),.val (.slice none 0 0),.val (.int .i64 0),.val (.slice none 0 0)] (List.length z6.1 * 14)=some (fl Zf z6.1++[.val (.int .i64 2),.val (.int .i64 0),.sl a0.come.length (fl Za a0.come),.val (.int .i64 0),.val (.int .i64 0),.val (.slice none 0 0),.val (.slice none 0 0),.val (.int .i64 0),.val (.slice none 0 0),.val (.slice none 0 0),.val (.slice none 0 0),.val (.slice none 0 0),.val (.int .i64 0),.val (.slice none 0 0)]):=Zbr (f:=Zf) (sz:=14) (fun _=>rfl) rfl rfl
   refine Zcv Z0 (by kernel_rfl) [.plain,.low,.low,.low,.plain,.low,.low,.low,.plain,.low,.pass,.bar,.shp,.fill true,.shp,.shp,.fill false] (fun i=>i < (n+5)) [0,1,2,3,4,5,6,7,8,9,10,11,12,13,14,15,16] [.plain,.low,.low,.low,.plain,.low,.low,.low,.plain,.low,.pass,.bar,.shp,.fill true,.shp,.shp,.fill false] [] (by kernel_rfl) rfl ?_
   refine zF9 pl16 ql16 el16 ax17 bx17 cx17 gu18 hi0 hk0 ?_
   refine zO ?_
   obtain rfl:=sI hz13
   refine And.intro rfl (Fit2.of (Ym hU rfl rfl ?_) (by omega))
   exact Z3f pl16 ql16 el16 ax17 bx17 cx17 gu18 hi0 hk0
  replace hz13:=Z3 c19 hz13
  refine zK ?_
  obtain rfl:=sI hz13
  refine And.intro rfl (Fit2.of (Ym hU rfl rfl ?_) (by omega))
  exact Qu hi0 hk0
 refine Jg [] hi0 hk0 ?_
 obtain rfl:=sI h
 refine Gn (k:=3) (i:=i0) (q1:=⟨false,90,4,1,[.row (n+2) z13.1.length,(vI 0),.row n ([]:List Zb).length,.row (n+1) ([]:List Zb).length]⟩) (L3:=[some (oR 25 3 Za ([]:List Zb)),some (oR 25 3 Za ([]:List Zb)),some (oR 41 14 Zf z13.1),none]) (E2:=(⟨73,[],[]⟩:Env)) (n3:=(n+4)) (.inl rfl) hU rfl [] ?_ ?_
 ·refine Fit2.trans (E':=(⟨73,[],[]⟩:Env)) (O':=(Zx ((((O.upd j0_0 none).upd j0_1 none).upd j0_2 none).upd i0 (some ⟨false,90,4,1,[.row (n+2) z13.1.length,(vI 0),nV,nV]⟩)) n [none,none,some (oR 41 14 Zf z13.1),none,none,none])) (n':=(n+6)) (Fit2.of (Ym hU rfl rfl ?_) (by omega)) ?_
  ·exact Qu hi0 hk0
  refine Fit2.trans (Vg (p:=i0) (k:=2) (q:=⟨false,90,4,1,[.row (n+2) z13.1.length,(vI 0),nV,nV]⟩) 25 3 (by simp only [Vu,Gu,List.getElem?_cons_zero,List.getElem?_cons_succ,Option.join_some,List.length_nil,Z8,Zv,hi0,hk0,hN0,hN]) rfl (by omega)) ?_
  simp only [Jj,Qd,Ve,List.set_cons_zero,List.set_cons_succ,List.cons_append,List.nil_append,List.length_cons,List.length_nil,Nat.zero_add,Nat.reduceAdd,Nat.reduceLT,Nat.add_assoc,Zs,Zhk,hi0,hk0,hN0,hN]
  refine Fit2.trans (Vg (p:=i0) (k:=3) (q:=⟨false,90,4,1,[.row (n+2) z13.1.length,(vI 0),.row (n+6) ([]:List Zb).length,nV]⟩) 25 3 (by simp only [Vu,Gu,List.getElem?_cons_zero,List.getElem?_cons_succ,Option.join_some,List.length_nil,Z8,Zv,hi0,hk0,hN0,hN]) rfl (by omega)) ?_
  simp only [Jj,Qd,Ve,List.set_cons_zero,List.set_cons_succ,List.cons_append,List.nil_append,List.length_cons,List.length_nil,Nat.zero_add,Nat.reduceAdd,Nat.reduceLT,Nat.add_assoc,Zs,Zhk,hi0,hk0,hN0,hN]
  refine Qo (k:=8) (k':=4) hU [3,3,2,3,3,3,0,1] [6,7,2,0] rfl rfl rfl rfl ⟨rfl,rfl⟩ ?_
  exact Qu hi0 hk0
 simp only [push_cast,seval,Ze,Try.results53,hi0,hk0,hN0,hN]
theorem Zf8 {a0:Yb} {a1:Int} {r:Yb} {O:Objs} {n:Nat} {i0 j0_0 j0_1 j0_2:Nat} (hi0:i0 < n) (Vp:j0_0 < n) (Vq:j0_1 < n) (Vr:j0_2 < n) (X8:i0≠j0_0) (X0:i0≠j0_1) (X1:i0≠j0_2) (Xx:j0_0≠j0_1) (Xy:j0_0≠j0_2) (Xz:j0_1≠j0_2) (ho0:O i0=some ⟨false,90,4,1,[.row j0_2 a0.out.length,(vI a0.kept),.row j0_0 a0.gone.length,.row j0_1 a0.come.length]⟩) (Ge:O j0_0=some (oR 25 3 Za a0.gone)) (Gf:O j0_1=some (oR 25 3 Za a0.come)) (Gg:O j0_2=some (oR 41 14 Zf a0.out)) (h:Va a0 a1=some r):GTo Try.prog 50 [.ref i0 0,(vI a1)] O n (.tup []) (Zx ((((O.upd j0_0 none).upd j0_1 none).upd j0_2 none).upd i0 (some ⟨false,90,4,1,[.row (n+2) r.out.length,(vI r.kept),.row n r.gone.length,.row (n+1) r.come.length]⟩)) n [some (oR 25 3 Za r.gone),some (oR 25 3 Za r.come),some (oR 41 14 Zf r.out)]) (n+3):=by
 unfold Va at h
 refine Zc5 Z0 Try.call50 Try.func50 rfl (Nat.le_of_ble_eq_true rfl) (by omega) fun hU => ?_
 refine Yx (Yc (k:=2) (by rw [Zv _ hi0];first | exact ho0 | exact Z8 _ _ _ <;> rfl) (by rfl) (by rw [Zv _ Vp];exact Ge) X8 (by simp only [push_cast,Nat.reduceAdd,Zs _ _ Vp,Zs _ _ hi0,Zfb X8] <;> rfl) (by omega)) ?_
 refine Yx (Yc (k:=3) (by rw [Zv _ hi0];first | exact ho0 | exact Z8 _ _ _ <;> rfl) (by rfl) (by rw [Zv _ Vq,Yn _ _ (Ne.symm X0),Yn _ _ (Ne.symm Xx)];exact Gf) X0 (by simp only [push_cast,Nat.reduceAdd,Zs _ _ Vq,Zs _ _ hi0,Zfb X0] <;> rfl) (by omega)) ?_
 refine Yx (Yc (k:=0) (by rw [Zv _ hi0];first | exact ho0 | exact Z8 _ _ _ <;> rfl) (by rfl) (by rw [Zv _ Vr,Yn _ _ (Ne.symm X1),Yn _ _ (Ne.symm Xz),Yn _ _ (Ne.symm Xy)];exact Gg) X1 (by simp only [push_cast,Nat.reduceAdd,Zs _ _ Vr,Zs _ _ hi0,Zfb X1] <;> rfl) (by omega)) ?_
 have hU:=(Und.drop (Und.drop (Und.drop hU j0_0) j0_1) j0_2)
 have hk0:∀ k,i0 < n+k:=fun k=>by omega
 have hN0:∀ o,Objs.upd (((O.upd j0_0 none).upd j0_1 none).upd j0_2 none) i0 o n=none:=fun o=>Yw hU hi0 _ (Nat.le_refl _)
 have hN:∀ o k,Objs.upd (((O.upd j0_0 none).upd j0_1 none).upd j0_2 none) i0 o (n+k)=none:=fun o k=>Yw hU hi0 _ (Nat.le_add_right _ _)
 show W _ _ _ _ ⟨19,[],[(0,.ref i0 0),(1,(vI a1))]⟩ (Zx ((((O.upd j0_0 none).upd j0_1 none).upd j0_2 none).upd i0 (some ⟨false,90,4,1,[.row (n+2) a0.out.length,(vI a0.kept),.row n a0.gone.length,.row (n+1) a0.come.length]⟩)) n [some (oR 25 3 Za a0.gone),some (oR 25 3 Za a0.come),some (oR 41 14 Zf a0.out)]) _
 obtain ⟨z1,hz1,h⟩:=bC h
 refine Xa (E':=⟨19,[],[(0,.ref i0 0),(1,(vI a1))]⟩) (O':=(Zx ((((O.upd j0_0 none).upd j0_1 none).upd j0_2 none).upd i0 (some ⟨false,90,4,1,[.row (n+6) z1.1.length,(vI z1.2.2.2),.row (n+7) z1.2.1.length,.row (n+8) z1.2.2.1.length]⟩)) n [none,none,none,none,none,none,some (oR 41 14 Zf z1.1),some (oR 25 3 Za z1.2.1),some (oR 25 3 Za z1.2.2.1)])) (n0:=(n+9)) ?_ ?_
 ·refine Zec [0,1,8] hi0 hk0 ?_
  refine Z5 (t:=(a0.kept == 0)) rfl (fun c3 => ?_) (fun c3 => ?_)
  ·replace hz1:=Z4 c3 hz1
   obtain ⟨y2,hy2,hz1⟩:=bC hz1
   refine Jg [] hi0 hk0 ?_
   refine (Uq (i0:=i0) (j0_0:=n) (j0_1:=(n+1)) (j0_2:=(n+2)) (by omega) (by omega) (by omega) (by omega) (by omega) (by omega) (by omega) (by omega) (by omega) (by omega) (by simp only [push_cast,seval,Ze,Zt,hi0,hk0,hN0,hN] <;> rfl) (by simp only [push_cast,seval,Ze,Zt,hi0,hk0,hN0,hN] <;> rfl) (by simp only [push_cast,seval,Ze,Zt,hi0,hk0,hN0,hN] <;> rfl) (by simp only [push_cast,seval,Ze,Zt,hi0,hk0,hN0,hN] <;> rfl) hy2).then ?_
   refine zX2 hi0 hk0 ?_
   obtain rfl:=sI hz1
   refine And.intro rfl ?_
   refine Fit2.trans (E':=(⟨19,[],[(0,.ref i0 0),(1,(vI a1))]⟩:Env)) (O':=(Zx ((((O.upd j0_0 none).upd j0_1 none).upd j0_2 none).upd i0 (some ⟨false,90,4,1,[.row (n+5) y2.out.length,(vI y2.kept),.row (n+3) y2.gone.length,.row (n+4) y2.come.length]⟩)) n [none,none,none,some (oR 25 3 Za y2.gone),some (oR 25 3 Za y2.come),some (oR 41 14 Zf y2.out)])) (n':=(n+6)) (Fit2.of (Ym hU rfl rfl ?_) (by omega)) ?_
   ·exact Qu hi0 hk0
   refine Qo (k:=6) (k':=9) hU [5,5,5,7,8,6] [0,0,0,0,0,0,5,3,4] rfl rfl rfl rfl ⟨rfl,rfl⟩ ?_
   exact Qu hi0 hk0
  replace hz1:=Z3 c3 hz1
  refine zK ?_
  obtain rfl:=sI hz1
  refine And.intro rfl ?_
  refine Fit2.trans (E':=(⟨19,[],[(0,.ref i0 0),(1,(vI a1))]⟩:Env)) (O':=(Zx ((((O.upd j0_0 none).upd j0_1 none).upd j0_2 none).upd i0 (some ⟨false,90,4,1,[.row (n+2) a0.out.length,(vI a0.kept),.row n a0.gone.length,.row (n+1) a0.come.length]⟩)) n [some (oR 25 3 Za a0.gone),some (oR 25 3 Za a0.come),some (oR 41 14 Zf a0.out)])) (n':=(n+3)) (Fit2.of (Ym hU rfl rfl ?_) (by omega)) ?_
  ·exact Qu hi0 hk0
  refine Qo (k:=3) (k':=9) hU [7,8,6] [0,0,0,0,0,0,2,0,1] rfl rfl rfl rfl ⟨rfl,rfl⟩ ?_
  exact Qu hi0 hk0
 refine Jg [] hi0 hk0 ?_
 obtain rfl:=sI h
 refine Gn (k:=3) (i:=i0) (q1:=⟨false,90,4,1,[.row (n+2) z1.1.length,(vI (IntKind.i64.wrap (z1.2.2.2+a1))),.row n z1.2.1.length,.row (n+1) z1.2.2.1.length]⟩) (L3:=[some (oR 25 3 Za z1.2.1),some (oR 25 3 Za z1.2.2.1),some (oR 41 14 Zf z1.1),none]) (E2:=(⟨19,[],[]⟩:Env)) (n3:=(n+4)) (.inl rfl) hU rfl [] ?_ ?_
 ·refine Fit2.trans (E':=(⟨19,[],[]⟩:Env)) (O':=(Zx ((((O.upd j0_0 none).upd j0_1 none).upd j0_2 none).upd i0 (some ⟨false,90,4,1,[.row (n+6) z1.1.length,(vI (IntKind.i64.wrap (z1.2.2.2+a1))),.row (n+7) z1.2.1.length,.row (n+8) z1.2.2.1.length]⟩)) n [none,none,none,none,none,none,some (oR 41 14 Zf z1.1),some (oR 25 3 Za z1.2.1),some (oR 25 3 Za z1.2.2.1)])) (n':=(n+9)) (Fit2.of (Ym hU rfl rfl ?_) (by omega)) ?_
  ·exact Qu hi0 hk0
  refine Qo (k:=9) (k':=4) hU [3,3,3,3,3,3,2,0,1] [7,8,6,0] rfl rfl rfl rfl ⟨rfl,rfl⟩ ?_
  exact Qu hi0 hk0
 simp only [push_cast,seval,Ze,Try.results50,hi0,hk0,hN0,hN]
end Go.Proofs.Ytocpndlnbmjpmaa
