/- Part RM3 of this seat's mirrors: functions of the seat's program, and the plain functions that they are; each theorem bears its own conditions. -/
import Derived.Test.YtocpndlnbmjpmaaRM1
namespace Go.Proofs.Ytocpndlnbmjpmaa
open Go.RowKit
set_option linter.unusedVariables false
set_option linter.unusedSimpArgs false
set_option maxRecDepth 100000
set_option maxHeartbeats 4000000
attribute [local push_cast] Try.results14 Try.results25 Try.results30 Try.results39 Try.results40 Try.results41 Try.results51 Try.results52 Try.results59 Try.results60 Try.results61 Try.results70 Try.results73 vI vB nV sL oR Zj Zk Zbi Yz Zz Xb Xh Ys Qw Zf4 Zef Zqm Zpi Zlf Zlk Zle Zlj Znu Znq Zli Znt Zns Znr Zlg Znp Zjk evS wok K0 Op.operands Call.operands gop atK List.all_cons List.all_nil Bool.and_true Bool.and_self Value.oneCell' List.take_zero List.take_succ_cons List.take_nil List.drop_zero List.drop_succ_cons List.drop_nil List.append_nil Nat.add_zero Nat.zero_add Zbg Y3 ev K1 Zux Zqa Zp9 Zqf Zqd Zqe Zqb Zqc Zp8 Zs6 Zt0 Zxb Zki Zen Zjv Zew Zkw Zhm Zgp Zgu Zik Zig Zgs Zij Zii Zih Zgr Zif Zgq Zgt Zfm Zml Zio Zcw Zjw Zcx Zlu Zkg Zuz bLo bHi bMx Zeo Zlt Zyp Zkf Zme Zgl Zbq Ztp Zyt Zjt Zgw Zyw Zem Zz8 Zm2 Zm6 Zm1 Zm5 Zq0 Zqw Zqv Zky Zm3 Zqz Zqy Zqx Zm4 Zqr Zqu Zqq Zqt Zu6 Zu3 Zu2 Zqs Zu4 Zu5 Zkh gone pop TK.isAgg Zra Zre Zq9 Zrd Zng Zvr Zvn Zrc Zvq Zvp Zvo Zrb Zvm G.under G.unders List.getD_cons_zero List.getD_cons_succ List.set_cons_zero List.set_cons_succ List.map_cons List.map_nil List.toList_toArray Array.toList_append Option.toArray_none Option.toArray_some Option.map_some Option.map_none Option.bind_some Option.bind_none List.getElem?_cons_zero List.getElem?_cons_succ List.getElem?_nil List.nil_append List.cons_append List.replicate_succ List.replicate_zero List.length_cons List.length_nil and_true true_and Bool.true_eq_false Bool.false_eq_true forall_const implies_true IntKind.bits ite_true ite_false eq_self or_false not_false_eq_true beq_iff_eq ne_eq beq_eq_false_iff_ne beq_self_eq_true Option.some.injEq exists_eq_left' gt_iff_lt Bool.not_true Bool.not_false imp_self cond_true cond_false Z6a Z59 Vu Gu Ve Zbl Jj Qd Option.join_some Nat.add_assoc Int.toNat_natCast eI eL Zt Zia Zgz Zql Zqj Zqk Z0n Z21 Zic Zhe Zrn Zrl Zrm Zxk Zku Zur Zee Zs3 Zga List.length_append G.agg.injEq G.tup.injEq List.flatten_cons List.flatten_nil Nat.le_refl Zhk Zv Zs Bool.not_eq_true' Zsv Zlo Zw7 Zw2 Zw6 Z11 Yar Zo7 Zka G.ren G.rens Zrq Zhr Zrs G.fn.injEq Zoe Zof Zw4 Zw3 Zu8 Z0f Option.join_none Z8 Zbc undef Zmf Arr.put_eq Zib Zk6 Zi9 Zhd Zrk Zri Zrj onB Z0m Ztn Z50 Zuf Zzn Zug Zk2 Zla Zk8 Zjb Zhf Zk9 Znl Znk Znj Zni Z20 Z5o Zxj Zvv Vx Zxd Zpp Zte Zpy Zzb Zru Zke Zmd Zgn Zvz Zuh Zgv prT Zex Z8a Zwr Zfa Zws Z8b Zwt Zxn Zwu Z8c Zwv Z8d Zww Z8e Zwx Z8f Zwy Z02 Zrw Z03 Zrx Z04 Zry Z05 Zrz Z06 Zr0 Z07 Zr1 Z08 Zr2 Z09 Zr3 Z1a Zr4 Z1b Zr5 Z1c Zr6 Z1d Zma Ztw Zh7 Z1e Zr7 Zb9 Zr8 Z1f Zou Z1g Zmb Z1h Zov Z1i Zr9 Zhj Zsa Z1j Zsb Zjl Zsc Z1k Zsd V2 Zse Z1l Zsf Z1m Zsg Z1n Zsh Zlm Zsi Z1o Zsj Zc9 Zsk Z1p Zsl Z1q Zsm Z1r Zsn Z1s Zso Zyc Zsp Z1t Zsq Z1u Zsr Z1v Zss Z1w Zst Z1x Zsu Zwq Zow Zv9 Znv Zwa Znw Zwb Znx Zwc Zny Zwd Znz Zwe Zn0 Zwf Zn1 Zwg Zn2 Zwh Zn3 Zwi Zn4 Zwj Zn5 Zwk Zn6 Zwl Zn7 Zwm Zn8 Zwn Zn9 Zwo Zoa Zwp Zob Za Q9 Zjm Zhg Zcq Zgk Zb5 Zd Qf Zf Zc Js X3 Us Zbe Gt Zh1 Zb4 Zd2 Zf2 Zc8 Yf
theorem Zjp {a0:Yb} {a2:(List Zb)} {r:Yb} {O:Objs} {n:Nat} {i0 j0_0 j0_1 j0_2:Nat} (hi0:i0 < n) (Vp:j0_0 < n) (Vq:j0_1 < n) (Vr:j0_2 < n) (X8:i0≠j0_0) (X0:i0≠j0_1) (X1:i0≠j0_2) (Xx:j0_0≠j0_1) (Xy:j0_0≠j0_2) (Xz:j0_1≠j0_2) (ho0:O i0=some ⟨false,90,4,1,[.row j0_2 a0.out.length,(vI a0.kept),.row j0_0 a0.gone.length,.row j0_1 a0.come.length]⟩) (Ge:O j0_0=some (oR 25 3 Za a0.gone)) (Gf:O j0_1=some (oR 25 3 Za a0.come)) (Gg:O j0_2=some (oR 41 14 Zf a0.out)) (h:Kw a0 a2=some r):GTo Try.prog 51 [.ref i0 0,.ref i0 2,(sL Za a2)] O n (.tup []) (Zx ((((O.upd j0_0 none).upd j0_1 none).upd j0_2 none).upd i0 (some ⟨false,90,4,1,[.row (n+2) r.out.length,(vI r.kept),.row n r.gone.length,.row (n+1) r.come.length]⟩)) n [some (oR 25 3 Za r.gone),some (oR 25 3 Za r.come),some (oR 41 14 Zf r.out)]) (n+3):=by
 unfold Kw at h
 refine Zc5 Z0 Try.call51 Try.func51 rfl (Nat.le_of_ble_eq_true rfl) (by omega) fun hU => ?_
 refine Yx (Yc (k:=2) (by rw [Zv _ hi0];first | exact ho0 | exact Z8 _ _ _ <;> rfl) (by rfl) (by rw [Zv _ Vp];exact Ge) X8 (by simp only [push_cast,Nat.reduceAdd,Zs _ _ Vp,Zs _ _ hi0,Zfb X8] <;> rfl) (by omega)) ?_
 refine Yx (Yc (k:=3) (by rw [Zv _ hi0];first | exact ho0 | exact Z8 _ _ _ <;> rfl) (by rfl) (by rw [Zv _ Vq,Yn _ _ (Ne.symm X0),Yn _ _ (Ne.symm Xx)];exact Gf) X0 (by simp only [push_cast,Nat.reduceAdd,Zs _ _ Vq,Zs _ _ hi0,Zfb X0] <;> rfl) (by omega)) ?_
 refine Yx (Yc (k:=0) (by rw [Zv _ hi0];first | exact ho0 | exact Z8 _ _ _ <;> rfl) (by rfl) (by rw [Zv _ Vr,Yn _ _ (Ne.symm X1),Yn _ _ (Ne.symm Xz),Yn _ _ (Ne.symm Xy)];exact Gg) X1 (by simp only [push_cast,Nat.reduceAdd,Zs _ _ Vr,Zs _ _ hi0,Zfb X1] <;> rfl) (by omega)) ?_
 have hU:=(Und.drop (Und.drop (Und.drop hU j0_0) j0_1) j0_2)
 have hk0:∀ k,i0 < n+k:=fun k=>by omega
 have hN0:∀ o,Objs.upd (((O.upd j0_0 none).upd j0_1 none).upd j0_2 none) i0 o n=none:=fun o=>Yw hU hi0 _ (Nat.le_refl _)
 have hN:∀ o k,Objs.upd (((O.upd j0_0 none).upd j0_1 none).upd j0_2 none) i0 o (n+k)=none:=fun o k=>Yw hU hi0 _ (Nat.le_add_right _ _)
 show W _ _ _ _ ⟨32,[],[(0,.ref i0 0),(1,.ref i0 2),(2,(sL Za a2))]⟩ (Zx ((((O.upd j0_0 none).upd j0_1 none).upd j0_2 none).upd i0 (some ⟨false,90,4,1,[.row (n+2) a0.out.length,(vI a0.kept),.row n a0.gone.length,.row (n+1) a0.come.length]⟩)) n [some (oR 25 3 Za a0.gone),some (oR 25 3 Za a0.come),some (oR 41 14 Zf a0.out)]) _
 obtain ⟨z1,hz1,h⟩:=bC h
 refine Xa (E':=⟨32,[],[(1,.ref i0 2),(2,(sL Za a2))]⟩) (O':=(Zx ((((O.upd j0_0 none).upd j0_1 none).upd j0_2 none).upd i0 (some ⟨false,90,4,1,[.row (n+6) z1.1.length,(vI z1.2.2.2),.row (n+7) z1.2.1.length,.row (n+8) z1.2.2.1.length]⟩)) n [none,none,none,none,none,none,some (oR 41 14 Zf z1.1),some (oR 25 3 Za z1.2.1),some (oR 25 3 Za z1.2.2.1)])) (n0:=(n+9)) ?_ ?_
 ·refine Zec [0,1,2,12] hi0 hk0 ?_
  refine Z5 (t:=(decide (0 < a0.kept))) rfl (fun c3 => ?_) (fun c3 => ?_)
  ·replace hz1:=Z4 c3 hz1
   obtain ⟨y2,hy2,hz1⟩:=bC hz1
   refine Jg [] hi0 hk0 ?_
   refine (Uq (i0:=i0) (j0_0:=n) (j0_1:=(n+1)) (j0_2:=(n+2)) (by omega) (by omega) (by omega) (by omega) (by omega) (by omega) (by omega) (by omega) (by omega) (by omega) (by simp only [push_cast,seval,Ze,Zt,hi0,hk0,hN0,hN] <;> rfl) (by simp only [push_cast,seval,Ze,Zt,hi0,hk0,hN0,hN] <;> rfl) (by simp only [push_cast,seval,Ze,Zt,hi0,hk0,hN0,hN] <;> rfl) (by simp only [push_cast,seval,Ze,Zt,hi0,hk0,hN0,hN] <;> rfl) hy2).then ?_
   refine zX2 hi0 hk0 ?_
   obtain rfl:=sI hz1
   refine And.intro rfl ?_
   refine Fit2.trans (E':=(⟨32,[],[(1,.ref i0 2),(2,(sL Za a2))]⟩:Env)) (O':=(Zx ((((O.upd j0_0 none).upd j0_1 none).upd j0_2 none).upd i0 (some ⟨false,90,4,1,[.row (n+5) y2.out.length,(vI y2.kept),.row (n+3) y2.gone.length,.row (n+4) y2.come.length]⟩)) n [none,none,none,some (oR 25 3 Za y2.gone),some (oR 25 3 Za y2.come),some (oR 41 14 Zf y2.out)])) (n':=(n+6)) (Fit2.of (Ym hU rfl rfl ?_) (by omega)) ?_
   ·exact Qu hi0 hk0
   refine Qo (k:=6) (k':=9) hU [5,5,5,7,8,6] [0,0,0,0,0,0,5,3,4] rfl rfl rfl rfl ⟨rfl,rfl⟩ ?_
   exact Qu hi0 hk0
  replace hz1:=Z3 c3 hz1
  refine zK ?_
  obtain rfl:=sI hz1
  refine And.intro rfl ?_
  refine Fit2.trans (E':=(⟨32,[],[(1,.ref i0 2),(2,(sL Za a2))]⟩:Env)) (O':=(Zx ((((O.upd j0_0 none).upd j0_1 none).upd j0_2 none).upd i0 (some ⟨false,90,4,1,[.row (n+2) a0.out.length,(vI a0.kept),.row n a0.gone.length,.row (n+1) a0.come.length]⟩)) n [some (oR 25 3 Za a0.gone),some (oR 25 3 Za a0.come),some (oR 41 14 Zf a0.out)])) (n':=(n+3)) (Fit2.of (Ym hU rfl rfl ?_) (by omega)) ?_
  ·exact Qu hi0 hk0
  refine Qo (k:=3) (k':=9) hU [7,8,6] [0,0,0,0,0,0,2,0,1] rfl rfl rfl rfl ⟨rfl,rfl⟩ ?_
  exact Qu hi0 hk0
 refine Zec [1,15,16,17] hi0 hk0 ?_
 refine zD [1,15,16,17] [false,false,false,false,false,false,true,true,true] ?_
 obtain ⟨z11,hz11,h⟩:=bC h
 refine Y6 (E':=⟨32,[],[]⟩) (O':=(Zx ((((O.upd j0_0 none).upd j0_1 none).upd j0_2 none).upd i0 (some ⟨false,90,4,1,[.row (n+6) z1.1.length,(vI z1.2.2.2),.row (n+7) z11.length,.row (n+8) z1.2.2.1.length]⟩)) n [none,none,none,none,none,none,some (oR 41 14 Zf z1.1),some (oR 25 3 Za z11),some (oR 25 3 Za z1.2.2.1)])) (n0:=(n+9)) ?_ ?_
 ·refine Xo hz11 (fun s0_=>⟨32,[],[(1,.ref i0 2),(15,(sL Za a2)),(16,(vI (a2.length:Int))),(17,(vI s0_.1))]⟩) (fun s0_=>(Zx ((((O.upd j0_0 none).upd j0_1 none).upd j0_2 none).upd i0 (some ⟨false,90,4,1,[.row (n+6) z1.1.length,(vI z1.2.2.2),.row (n+7) s0_.2.length,.row (n+8) z1.2.2.1.length]⟩)) n [none,none,none,none,none,none,some (oR 41 14 Zf z1.1),some (oR 25 3 Za s0_.2),some (oR 25 3 Za z1.2.2.1)])) (fun z11=>JX 0 n (⟨32,[],[]⟩:Env) (Zx ((((O.upd j0_0 none).upd j0_1 none).upd j0_2 none).upd i0 (some ⟨false,90,4,1,[.row (n+6) z1.1.length,(vI z1.2.2.2),.row (n+7) z11.length,.row (n+8) z1.2.2.1.length]⟩)) n [none,none,none,none,none,none,some (oR 41 14 Zf z1.1),some (oR 25 3 Za z11),some (oR 25 3 Za z1.2.2.1)]) (n+9)) ?_
  intro s0_ x0_ hs0_
  unfold Jl at hs0_
  try dsimp only
  refine Zec [1,15,16,17,18] hi0 hk0 ?_
  refine Zq ?_
  refine Z5 (t:=(decide (s0_.1 < (a2.length:Int)))) rfl (fun c10 => ?_) (fun c10 => ?_)
  ·replace hs0_:=Z4 c10 hs0_
   refine Gk [1,15,16,17] [false,false,false,false,false,false,true,true,true] ?_
   refine Zq ?_
   refine Yy ?_
   refine Zq ?_
   obtain ⟨x5,hx5,ax5,bx5,cx5,hs0_⟩:=bE (f:=Za) Zb9 (fun _=>rfl) (by decide) hs0_
   refine Z15 [] ax5 bx5 cx5 hi0 hk0 ?_
   refine zD [1,7,15,16,17] [false,false,false,false,false,false,true,true,true,true] ?_
   obtain ⟨y6,hy6,hs0_⟩:=bC hs0_
   obtain ⟨l7,pl7,ql7,el7,hs0_⟩:=bA (k:=1) rfl hs0_
   obtain ⟨x8,hx8,ax8,bx8,cx8,hs0_⟩:=bE (f:=Za) Zb9 (fun _=>rfl) (by decide) hs0_
   have gu9:J5 (fl Za s0_.2++[.val (.int .i64 0),.val (.slice none 0 0),.val (.slice none 0 0)]) [.val (.int .i64 y6.Kind),.sl y6.Words.length (fl (eI .u64) y6.Words),.sl y6.Kids.length (fl Za y6.Kids)] (List.length s0_.2 * 3)=some (fl Za s0_.2++[.val (.int .i64 y6.Kind),.sl y6.Words.length (fl (eI .u64) y6.Words),.sl y6.Kids.length (fl Za y6.Kids)]):=Zbr (f:=Za) (sz:=3) (fun _=>rfl) rfl rfl
   refine Zcv Z0 (by kernel_rfl) [.plain,.low,.low,.low,.low,.low,.pass,.bar,.shp,.fill true,.shp,.fill false] (fun i=>i < (n+10)) [0,1,2,3,4,5,6,7,8,9,10,11] [.plain,.low,.low,.low,.low,.low,.pass,.bar,.shp,.fill true,.shp,.fill false] [] (by kernel_rfl) rfl ?_
   refine zF9 pl7 ql7 el7 ax8 bx8 cx8 gu9 hi0 hk0 ?_
   refine zO ?_
   first | refine PCallA.of (fun _ _=>Zc0 hy6) ?_ | refine PCall.of (Zc0 hy6) ?_
   refine zF9 pl7 ql7 el7 ax8 bx8 cx8 gu9 hi0 hk0 ?_
   refine zO ?_
   refine Zc3 ⟨32,[],[(1,.ref i0 2),(15,(sL Za a2)),(16,(vI (a2.length:Int))),(17,(vI s0_.1))]⟩ (Zx ((((O.upd j0_0 none).upd j0_1 none).upd j0_2 none).upd i0 (some ⟨false,90,4,1,[.row (n+6) z1.1.length,(vI z1.2.2.2),.row (n+7) (s0_.2++[y6]).length,.row (n+8) z1.2.2.1.length]⟩)) n [none,none,none,none,none,none,some (oR 41 14 Zf z1.1),some (oR 25 3 Za (s0_.2++[y6])),some (oR 25 3 Za z1.2.2.1),none,none]) (Ym hU rfl rfl ?_) ?_
   ·exact Z3f pl7 ql7 el7 ax8 bx8 cx8 gu9 hi0 hk0
   refine Jg [] hi0 hk0 ?_
   obtain rfl:=sI hs0_
   refine And.intro rfl (Fit2.of (Ym hU rfl rfl ?_) (by omega))
   exact Qu hi0 hk0
  replace hs0_:=Z3 c10 hs0_
  refine zXt ?_
  obtain rfl:=sI hs0_
  refine And.intro (fun h=>by cases h) (And.intro rfl (Fit2.of (Ym hU rfl rfl ?_) (by omega)))
  exact Qu hi0 hk0
 try simp only [Xh,Ys,↓reduceIte,Nat.reduceEqDiff]
 obtain rfl:=sI h
 refine Gn (k:=3) (i:=i0) (q1:=⟨false,90,4,1,[.row (n+2) z1.1.length,(vI z1.2.2.2),.row n z11.length,.row (n+1) z1.2.2.1.length]⟩) (L3:=[some (oR 25 3 Za z11),some (oR 25 3 Za z1.2.2.1),some (oR 41 14 Zf z1.1),none]) (E2:=(⟨32,[],[]⟩:Env)) (n3:=(n+4)) (.inl rfl) hU rfl [] ?_ ?_
 ·refine Fit2.trans (E':=(⟨32,[],[]⟩:Env)) (O':=(Zx ((((O.upd j0_0 none).upd j0_1 none).upd j0_2 none).upd i0 (some ⟨false,90,4,1,[.row (n+6) z1.1.length,(vI z1.2.2.2),.row (n+7) z11.length,.row (n+8) z1.2.2.1.length]⟩)) n [none,none,none,none,none,none,some (oR 41 14 Zf z1.1),some (oR 25 3 Za z11),some (oR 25 3 Za z1.2.2.1)])) (n':=(n+9)) (Fit2.of (Ym hU rfl rfl ?_) (by omega)) ?_
  ·exact Qu hi0 hk0
  refine Qo (k:=9) (k':=4) hU [3,3,3,3,3,3,2,0,1] [7,8,6,0] rfl rfl rfl rfl ⟨rfl,rfl⟩ ?_
  exact Qu hi0 hk0
 simp only [push_cast,seval,Ze,Try.results51,hi0,hk0,hN0,hN]
theorem Zjq {a0:Yb} {a2:(List Zb)} {r:Yb} {O:Objs} {n:Nat} {i0 j0_0 j0_1 j0_2:Nat} (hi0:i0 < n) (Vp:j0_0 < n) (Vq:j0_1 < n) (Vr:j0_2 < n) (X8:i0≠j0_0) (X0:i0≠j0_1) (X1:i0≠j0_2) (Xx:j0_0≠j0_1) (Xy:j0_0≠j0_2) (Xz:j0_1≠j0_2) (ho0:O i0=some ⟨false,90,4,1,[.row j0_2 a0.out.length,(vI a0.kept),.row j0_0 a0.gone.length,.row j0_1 a0.come.length]⟩) (Ge:O j0_0=some (oR 25 3 Za a0.gone)) (Gf:O j0_1=some (oR 25 3 Za a0.come)) (Gg:O j0_2=some (oR 41 14 Zf a0.out)) (h:Kx a0 a2=some r):GTo Try.prog 51 [.ref i0 0,.ref i0 3,(sL Za a2)] O n (.tup []) (Zx ((((O.upd j0_0 none).upd j0_1 none).upd j0_2 none).upd i0 (some ⟨false,90,4,1,[.row (n+2) r.out.length,(vI r.kept),.row n r.gone.length,.row (n+1) r.come.length]⟩)) n [some (oR 25 3 Za r.gone),some (oR 25 3 Za r.come),some (oR 41 14 Zf r.out)]) (n+3):=by
 unfold Kx at h
 refine Zc5 Z0 Try.call51 Try.func51 rfl (Nat.le_of_ble_eq_true rfl) (by omega) fun hU => ?_
 refine Yx (Yc (k:=2) (by rw [Zv _ hi0];first | exact ho0 | exact Z8 _ _ _ <;> rfl) (by rfl) (by rw [Zv _ Vp];exact Ge) X8 (by simp only [push_cast,Nat.reduceAdd,Zs _ _ Vp,Zs _ _ hi0,Zfb X8] <;> rfl) (by omega)) ?_
 refine Yx (Yc (k:=3) (by rw [Zv _ hi0];first | exact ho0 | exact Z8 _ _ _ <;> rfl) (by rfl) (by rw [Zv _ Vq,Yn _ _ (Ne.symm X0),Yn _ _ (Ne.symm Xx)];exact Gf) X0 (by simp only [push_cast,Nat.reduceAdd,Zs _ _ Vq,Zs _ _ hi0,Zfb X0] <;> rfl) (by omega)) ?_
 refine Yx (Yc (k:=0) (by rw [Zv _ hi0];first | exact ho0 | exact Z8 _ _ _ <;> rfl) (by rfl) (by rw [Zv _ Vr,Yn _ _ (Ne.symm X1),Yn _ _ (Ne.symm Xz),Yn _ _ (Ne.symm Xy)];exact Gg) X1 (by simp only [push_cast,Nat.reduceAdd,Zs _ _ Vr,Zs _ _ hi0,Zfb X1] <;> rfl) (by omega)) ?_
 have hU:=(Und.drop (Und.drop (Und.drop hU j0_0) j0_1) j0_2)
 have hk0:∀ k,i0 < n+k:=fun k=>by omega
 have hN0:∀ o,Objs.upd (((O.upd j0_0 none).upd j0_1 none).upd j0_2 none) i0 o n=none:=fun o=>Yw hU hi0 _ (Nat.le_refl _)
 have hN:∀ o k,Objs.upd (((O.upd j0_0 none).upd j0_1 none).upd j0_2 none) i0 o (n+k)=none:=fun o k=>Yw hU hi0 _ (Nat.le_add_right _ _)
 show W _ _ _ _ ⟨32,[],[(0,.ref i0 0),(1,.ref i0 3),(2,(sL Za a2))]⟩ (Zx ((((O.upd j0_0 none).upd j0_1 none).upd j0_2 none).upd i0 (some ⟨false,90,4,1,[.row (n+2) a0.out.length,(vI a0.kept),.row n a0.gone.length,.row (n+1) a0.come.length]⟩)) n [some (oR 25 3 Za a0.gone),some (oR 25 3 Za a0.come),some (oR 41 14 Zf a0.out)]) _
 obtain ⟨z1,hz1,h⟩:=bC h
 refine Xa (E':=⟨32,[],[(1,.ref i0 3),(2,(sL Za a2))]⟩) (O':=(Zx ((((O.upd j0_0 none).upd j0_1 none).upd j0_2 none).upd i0 (some ⟨false,90,4,1,[.row (n+6) z1.1.length,(vI z1.2.2.2),.row (n+7) z1.2.1.length,.row (n+8) z1.2.2.1.length]⟩)) n [none,none,none,none,none,none,some (oR 41 14 Zf z1.1),some (oR 25 3 Za z1.2.1),some (oR 25 3 Za z1.2.2.1)])) (n0:=(n+9)) ?_ ?_
 ·refine Zec [0,1,2,12] hi0 hk0 ?_
  refine Z5 (t:=(decide (0 < a0.kept))) rfl (fun c3 => ?_) (fun c3 => ?_)
  ·replace hz1:=Z4 c3 hz1
   obtain ⟨y2,hy2,hz1⟩:=bC hz1
   refine Jg [] hi0 hk0 ?_
   refine (Uq (i0:=i0) (j0_0:=n) (j0_1:=(n+1)) (j0_2:=(n+2)) (by omega) (by omega) (by omega) (by omega) (by omega) (by omega) (by omega) (by omega) (by omega) (by omega) (by simp only [push_cast,seval,Ze,Zt,hi0,hk0,hN0,hN] <;> rfl) (by simp only [push_cast,seval,Ze,Zt,hi0,hk0,hN0,hN] <;> rfl) (by simp only [push_cast,seval,Ze,Zt,hi0,hk0,hN0,hN] <;> rfl) (by simp only [push_cast,seval,Ze,Zt,hi0,hk0,hN0,hN] <;> rfl) hy2).then ?_
   refine zX2 hi0 hk0 ?_
   obtain rfl:=sI hz1
   refine And.intro rfl ?_
   refine Fit2.trans (E':=(⟨32,[],[(1,.ref i0 3),(2,(sL Za a2))]⟩:Env)) (O':=(Zx ((((O.upd j0_0 none).upd j0_1 none).upd j0_2 none).upd i0 (some ⟨false,90,4,1,[.row (n+5) y2.out.length,(vI y2.kept),.row (n+3) y2.gone.length,.row (n+4) y2.come.length]⟩)) n [none,none,none,some (oR 25 3 Za y2.gone),some (oR 25 3 Za y2.come),some (oR 41 14 Zf y2.out)])) (n':=(n+6)) (Fit2.of (Ym hU rfl rfl ?_) (by omega)) ?_
   ·exact Qu hi0 hk0
   refine Qo (k:=6) (k':=9) hU [5,5,5,7,8,6] [0,0,0,0,0,0,5,3,4] rfl rfl rfl rfl ⟨rfl,rfl⟩ ?_
   exact Qu hi0 hk0
  replace hz1:=Z3 c3 hz1
  refine zK ?_
  obtain rfl:=sI hz1
  refine And.intro rfl ?_
  refine Fit2.trans (E':=(⟨32,[],[(1,.ref i0 3),(2,(sL Za a2))]⟩:Env)) (O':=(Zx ((((O.upd j0_0 none).upd j0_1 none).upd j0_2 none).upd i0 (some ⟨false,90,4,1,[.row (n+2) a0.out.length,(vI a0.kept),.row n a0.gone.length,.row (n+1) a0.come.length]⟩)) n [some (oR 25 3 Za a0.gone),some (oR 25 3 Za a0.come),some (oR 41 14 Zf a0.out)])) (n':=(n+3)) (Fit2.of (Ym hU rfl rfl ?_) (by omega)) ?_
  ·exact Qu hi0 hk0
  refine Qo (k:=3) (k':=9) hU [7,8,6] [0,0,0,0,0,0,2,0,1] rfl rfl rfl rfl ⟨rfl,rfl⟩ ?_
  exact Qu hi0 hk0
 refine Zec [1,15,16,17] hi0 hk0 ?_
 refine zD [1,15,16,17] [false,false,false,false,false,false,true,true,true] ?_
 obtain ⟨z11,hz11,h⟩:=bC h
 refine Y6 (E':=⟨32,[],[]⟩) (O':=(Zx ((((O.upd j0_0 none).upd j0_1 none).upd j0_2 none).upd i0 (some ⟨false,90,4,1,[.row (n+6) z1.1.length,(vI z1.2.2.2),.row (n+7) z1.2.1.length,.row (n+8) z11.length]⟩)) n [none,none,none,none,none,none,some (oR 41 14 Zf z1.1),some (oR 25 3 Za z1.2.1),some (oR 25 3 Za z11)])) (n0:=(n+9)) ?_ ?_
 ·refine Xo hz11 (fun s0_=>⟨32,[],[(1,.ref i0 3),(15,(sL Za a2)),(16,(vI (a2.length:Int))),(17,(vI s0_.1))]⟩) (fun s0_=>(Zx ((((O.upd j0_0 none).upd j0_1 none).upd j0_2 none).upd i0 (some ⟨false,90,4,1,[.row (n+6) z1.1.length,(vI z1.2.2.2),.row (n+7) z1.2.1.length,.row (n+8) s0_.2.length]⟩)) n [none,none,none,none,none,none,some (oR 41 14 Zf z1.1),some (oR 25 3 Za z1.2.1),some (oR 25 3 Za s0_.2)])) (fun z11=>JX 0 n (⟨32,[],[]⟩:Env) (Zx ((((O.upd j0_0 none).upd j0_1 none).upd j0_2 none).upd i0 (some ⟨false,90,4,1,[.row (n+6) z1.1.length,(vI z1.2.2.2),.row (n+7) z1.2.1.length,.row (n+8) z11.length]⟩)) n [none,none,none,none,none,none,some (oR 41 14 Zf z1.1),some (oR 25 3 Za z1.2.1),some (oR 25 3 Za z11)]) (n+9)) ?_
  intro s0_ x0_ hs0_
  unfold Jm at hs0_
  try dsimp only
  refine Zec [1,15,16,17,18] hi0 hk0 ?_
  refine Zq ?_
  refine Z5 (t:=(decide (s0_.1 < (a2.length:Int)))) rfl (fun c10 => ?_) (fun c10 => ?_)
  ·replace hs0_:=Z4 c10 hs0_
   refine Gk [1,15,16,17] [false,false,false,false,false,false,true,true,true] ?_
   refine Zq ?_
   refine Yy ?_
   refine Zq ?_
   obtain ⟨x5,hx5,ax5,bx5,cx5,hs0_⟩:=bE (f:=Za) Zb9 (fun _=>rfl) (by decide) hs0_
   refine Z15 [] ax5 bx5 cx5 hi0 hk0 ?_
   refine zD [1,7,15,16,17] [false,false,false,false,false,false,true,true,true,true] ?_
   obtain ⟨y6,hy6,hs0_⟩:=bC hs0_
   obtain ⟨l7,pl7,ql7,el7,hs0_⟩:=bA (k:=1) rfl hs0_
   obtain ⟨x8,hx8,ax8,bx8,cx8,hs0_⟩:=bE (f:=Za) Zb9 (fun _=>rfl) (by decide) hs0_
   have gu9:J5 (fl Za s0_.2++[.val (.int .i64 0),.val (.slice none 0 0),.val (.slice none 0 0)]) [.val (.int .i64 y6.Kind),.sl y6.Words.length (fl (eI .u64) y6.Words),.sl y6.Kids.length (fl Za y6.Kids)] (List.length s0_.2 * 3)=some (fl Za s0_.2++[.val (.int .i64 y6.Kind),.sl y6.Words.length (fl (eI .u64) y6.Words),.sl y6.Kids.length (fl Za y6.Kids)]):=Zbr (f:=Za) (sz:=3) (fun _=>rfl) rfl rfl
   refine Zcv Z0 (by kernel_rfl) [.plain,.low,.low,.low,.low,.low,.pass,.bar,.shp,.fill true,.shp,.fill false] (fun i=>i < (n+10)) [0,1,2,3,4,5,6,7,8,9,10,11] [.plain,.low,.low,.low,.low,.low,.pass,.bar,.shp,.fill true,.shp,.fill false] [] (by kernel_rfl) rfl ?_
   refine zF9 pl7 ql7 el7 ax8 bx8 cx8 gu9 hi0 hk0 ?_
   refine zO ?_
   first | refine PCallA.of (fun _ _=>Zc0 hy6) ?_ | refine PCall.of (Zc0 hy6) ?_
   refine zF9 pl7 ql7 el7 ax8 bx8 cx8 gu9 hi0 hk0 ?_
   refine zO ?_
   refine Zc3 ⟨32,[],[(1,.ref i0 3),(15,(sL Za a2)),(16,(vI (a2.length:Int))),(17,(vI s0_.1))]⟩ (Zx ((((O.upd j0_0 none).upd j0_1 none).upd j0_2 none).upd i0 (some ⟨false,90,4,1,[.row (n+6) z1.1.length,(vI z1.2.2.2),.row (n+7) z1.2.1.length,.row (n+8) (s0_.2++[y6]).length]⟩)) n [none,none,none,none,none,none,some (oR 41 14 Zf z1.1),some (oR 25 3 Za z1.2.1),some (oR 25 3 Za (s0_.2++[y6])),none,none]) (Ym hU rfl rfl ?_) ?_
   ·exact Z3f pl7 ql7 el7 ax8 bx8 cx8 gu9 hi0 hk0
   refine Jg [] hi0 hk0 ?_
   obtain rfl:=sI hs0_
   refine And.intro rfl (Fit2.of (Ym hU rfl rfl ?_) (by omega))
   exact Qu hi0 hk0
  replace hs0_:=Z3 c10 hs0_
  refine zXt ?_
  obtain rfl:=sI hs0_
  refine And.intro (fun h=>by cases h) (And.intro rfl (Fit2.of (Ym hU rfl rfl ?_) (by omega)))
  exact Qu hi0 hk0
 try simp only [Xh,Ys,↓reduceIte,Nat.reduceEqDiff]
 obtain rfl:=sI h
 refine Gn (k:=3) (i:=i0) (q1:=⟨false,90,4,1,[.row (n+2) z1.1.length,(vI z1.2.2.2),.row n z1.2.1.length,.row (n+1) z11.length]⟩) (L3:=[some (oR 25 3 Za z1.2.1),some (oR 25 3 Za z11),some (oR 41 14 Zf z1.1),none]) (E2:=(⟨32,[],[]⟩:Env)) (n3:=(n+4)) (.inl rfl) hU rfl [] ?_ ?_
 ·refine Fit2.trans (E':=(⟨32,[],[]⟩:Env)) (O':=(Zx ((((O.upd j0_0 none).upd j0_1 none).upd j0_2 none).upd i0 (some ⟨false,90,4,1,[.row (n+6) z1.1.length,(vI z1.2.2.2),.row (n+7) z1.2.1.length,.row (n+8) z11.length]⟩)) n [none,none,none,none,none,none,some (oR 41 14 Zf z1.1),some (oR 25 3 Za z1.2.1),some (oR 25 3 Za z11)])) (n':=(n+9)) (Fit2.of (Ym hU rfl rfl ?_) (by omega)) ?_
  ·exact Qu hi0 hk0
  refine Qo (k:=9) (k':=4) hU [3,3,3,3,3,3,2,0,1] [7,8,6,0] rfl rfl rfl rfl ⟨rfl,rfl⟩ ?_
  exact Qu hi0 hk0
 simp only [push_cast,seval,Ze,Try.results51,hi0,hk0,hN0,hN]
theorem Zvi {a0:Int} {a1:Zg} {r:Bool} {O:Objs} {n:Nat} (h:Zer a0 a1=some r):GTo Try.prog 70 [(vI a0),.agg (Zk a1)] O n ((vB r)) O n:=by
 unfold Zer at h
 refine zFn Try.call70 Try.func70 fun hU hN0 hN => ?_
 show W _ _ _ _ ⟨27,[],[(0,(vI a0)),(1,.agg (Zk a1))]⟩ (Zx O n []) _
 refine zQ [0,3] ?_
 refine zQD [4] [none,none,none,none,none,none,none,none,none,none,none,none,none,none,none,none,none] ?_
 exact X6 [(vB (cond (a1.Kind == 0) true (cond (cond (a0 == 9) (a1.Kind == 2) false) ((IntKind.i64.wrap ((a1.Words.length:Int)+(a1.Kids.length:Int))) == 0) false)))]
theorem Zkl {a0:Yb} {a1:Int} {a2:Zg} {r:Yb} {O:Objs} {n:Nat} {i0 j0_0 j0_1 j0_2:Nat} (hi0:i0 < n) (Vp:j0_0 < n) (Vq:j0_1 < n) (Vr:j0_2 < n) (X8:i0≠j0_0) (X0:i0≠j0_1) (X1:i0≠j0_2) (Xx:j0_0≠j0_1) (Xy:j0_0≠j0_2) (Xz:j0_1≠j0_2) (ho0:O i0=some ⟨false,90,4,1,[.row j0_2 a0.out.length,(vI a0.kept),.row j0_0 a0.gone.length,.row j0_1 a0.come.length]⟩) (Ge:O j0_0=some (oR 25 3 Za a0.gone)) (Gf:O j0_1=some (oR 25 3 Za a0.come)) (Gg:O j0_2=some (oR 41 14 Zf a0.out)) (h:K9 a0 a1 a2=some r):GTo Try.prog 52 [.ref i0 0,(vI a1),.agg (Zk a2)] O n (.tup []) (Zx ((((O.upd j0_0 none).upd j0_1 none).upd j0_2 none).upd i0 (some ⟨false,90,4,1,[.row (n+2) r.out.length,(vI r.kept),.row n r.gone.length,.row (n+1) r.come.length]⟩)) n [some (oR 25 3 Za r.gone),some (oR 25 3 Za r.come),some (oR 41 14 Zf r.out)]) (n+3):=by
 unfold K9 at h
 refine Zc5 Z0 Try.call52 Try.func52 rfl (Nat.le_of_ble_eq_true rfl) (by omega) fun hU => ?_
 refine Yx (Yc (k:=2) (by rw [Zv _ hi0];first | exact ho0 | exact Z8 _ _ _ <;> rfl) (by rfl) (by rw [Zv _ Vp];exact Ge) X8 (by simp only [push_cast,Nat.reduceAdd,Zs _ _ Vp,Zs _ _ hi0,Zfb X8] <;> rfl) (by omega)) ?_
 refine Yx (Yc (k:=3) (by rw [Zv _ hi0];first | exact ho0 | exact Z8 _ _ _ <;> rfl) (by rfl) (by rw [Zv _ Vq,Yn _ _ (Ne.symm X0),Yn _ _ (Ne.symm Xx)];exact Gf) X0 (by simp only [push_cast,Nat.reduceAdd,Zs _ _ Vq,Zs _ _ hi0,Zfb X0] <;> rfl) (by omega)) ?_
 refine Yx (Yc (k:=0) (by rw [Zv _ hi0];first | exact ho0 | exact Z8 _ _ _ <;> rfl) (by rfl) (by rw [Zv _ Vr,Yn _ _ (Ne.symm X1),Yn _ _ (Ne.symm Xz),Yn _ _ (Ne.symm Xy)];exact Gg) X1 (by simp only [push_cast,Nat.reduceAdd,Zs _ _ Vr,Zs _ _ hi0,Zfb X1] <;> rfl) (by omega)) ?_
 have hU:=(Und.drop (Und.drop (Und.drop hU j0_0) j0_1) j0_2)
 have hk0:∀ k,i0 < n+k:=fun k=>by omega
 have hN0:∀ o,Objs.upd (((O.upd j0_0 none).upd j0_1 none).upd j0_2 none) i0 o n=none:=fun o=>Yw hU hi0 _ (Nat.le_refl _)
 have hN:∀ o k,Objs.upd (((O.upd j0_0 none).upd j0_1 none).upd j0_2 none) i0 o (n+k)=none:=fun o k=>Yw hU hi0 _ (Nat.le_add_right _ _)
 show W _ _ _ _ ⟨25,[],[(0,.ref i0 0),(1,(vI a1)),(2,.agg (Zk a2))]⟩ (Zx ((((O.upd j0_0 none).upd j0_1 none).upd j0_2 none).upd i0 (some ⟨false,90,4,1,[.row (n+2) a0.out.length,(vI a0.kept),.row n a0.gone.length,.row (n+1) a0.come.length]⟩)) n [some (oR 25 3 Za a0.gone),some (oR 25 3 Za a0.come),some (oR 41 14 Zf a0.out)]) _
 refine Zec [0,1,5] hi0 hk0 ?_
 refine Zq ?_
 refine Zq ?_
 obtain ⟨y2,hy2,h⟩:=bC h
 refine Jg [] hi0 hk0 ?_
 refine (Zvi hy2).then ?_
 refine zX2 hi0 hk0 ?_
 refine zD [0,5,8] [true,true,true,true] ?_
 refine Z5 (t:=y2) rfl (fun c10 => ?_) (fun c10 => ?_)
 ·replace h:=Z4 c10 h
  refine Zq ?_
  obtain ⟨y4,hy4,h⟩:=bC h
  refine Jg [] hi0 hk0 ?_
  refine (Zf8 (i0:=i0) (j0_0:=n) (j0_1:=(n+1)) (j0_2:=(n+2)) (by omega) (by omega) (by omega) (by omega) (by omega) (by omega) (by omega) (by omega) (by omega) (by omega) (by simp only [push_cast,seval,Ze,Zt,hi0,hk0,hN0,hN] <;> rfl) (by simp only [push_cast,seval,Ze,Zt,hi0,hk0,hN0,hN] <;> rfl) (by simp only [push_cast,seval,Ze,Zt,hi0,hk0,hN0,hN] <;> rfl) (by simp only [push_cast,seval,Ze,Zt,hi0,hk0,hN0,hN] <;> rfl) hy4).then ?_
  refine zX2 hi0 hk0 ?_
  refine zD [] [false,false,false,false,true,true,true] ?_
  refine zW ?_
  obtain rfl:=sI h
  refine Gn (k:=3) (i:=i0) (q1:=⟨false,90,4,1,[.row (n+2) y4.out.length,(vI y4.kept),.row n y4.gone.length,.row (n+1) y4.come.length]⟩) (L3:=[some (oR 25 3 Za y4.gone),some (oR 25 3 Za y4.come),some (oR 41 14 Zf y4.out),none]) (E2:=(⟨25,[],[]⟩:Env)) (n3:=(n+4)) (.inr rfl) hU rfl [] ?_ ?_
  ·refine Fit2.trans (E':=(⟨25,[],[]⟩:Env)) (O':=(Zx ((((O.upd j0_0 none).upd j0_1 none).upd j0_2 none).upd i0 (some ⟨false,90,4,1,[.row (n+6) y4.out.length,(vI y4.kept),.row (n+4) y4.gone.length,.row (n+5) y4.come.length]⟩)) n [none,none,none,none,some (oR 25 3 Za y4.gone),some (oR 25 3 Za y4.come),some (oR 41 14 Zf y4.out)])) (n':=(n+7)) (Fit2.of (Ym hU rfl rfl ?_) (by omega)) ?_
   ·exact Qu hi0 hk0
   refine Qo (k:=7) (k':=4) hU [3,3,3,3,0,1,2] [4,5,6,0] rfl rfl rfl rfl ⟨rfl,rfl⟩ ?_
   exact Qu hi0 hk0
  simp only [push_cast,seval,Ze,Try.results52,hi0,hk0,hN0,hN]
 replace h:=Z3 c10 h
 refine Gk [0,5] [true,true,true,true] ?_
 refine Zq ?_
 obtain ⟨y6,hy6,h⟩:=bC h
 refine Jg [] hi0 hk0 ?_
 refine (Uq (i0:=i0) (j0_0:=n) (j0_1:=(n+1)) (j0_2:=(n+2)) (by omega) (by omega) (by omega) (by omega) (by omega) (by omega) (by omega) (by omega) (by omega) (by omega) (by simp only [push_cast,seval,Ze,Zt,hi0,hk0,hN0,hN] <;> rfl) (by simp only [push_cast,seval,Ze,Zt,hi0,hk0,hN0,hN] <;> rfl) (by simp only [push_cast,seval,Ze,Zt,hi0,hk0,hN0,hN] <;> rfl) (by simp only [push_cast,seval,Ze,Zt,hi0,hk0,hN0,hN] <;> rfl) hy6).then ?_
 refine zX2 hi0 hk0 ?_
 refine zD [0,5] [false,false,false,true,true,true,true] ?_
 obtain ⟨l7,pl7,ql7,el7,h⟩:=bA (k:=1) rfl h
 obtain ⟨x8,hx8,ax8,bx8,cx8,h⟩:=bE (f:=Zf) V2 (fun _=>rfl) (by decide) h
 have gu9:J5 (fl Zf y6.out++[.val (.int .i64 0),.val (.int .i64 0),.val (.slice none 0 0),.val (.int .i64 0),.val (.int .i64 0),.val (.slice none 0 0),.val (.slice none 0 0),.val (.int .i64 0),.val (.slice none 0 0),.val (.slice none 0 0),.val (.slice none 0 0),.val (.slice none 0 0),.val (.int .i64 0),.val (.slice none 0 0)]) [.val (.int .i64 3),.val (.int .i64 0),.val (.slice none 0 0),.val (.int .i64 a2.Kind),.val (.int .i64 a2.Old.Kind),.sl a2.Old.Words.length (fl (eI .u64) a2.Old.Words),.sl a2.Old.Kids.length (fl Za a2.Old.Kids),.val (.int .i64 a2.New.Kind),.sl a2.New.Words.length (fl (eI .u64) a2.New.Words),.sl a2.New.Kids.length (fl Za a2.New.Kids),.sl a2.Words.length (fl Zd a2.Words),.sl a2.Kids.length (fl Zc a2.Kids),.val (.int .i64 a2.List_),.sl a2.Ops.length (fl Zf a2.Ops)] (List.length y6.out * 14)=some (fl Zf y6.out++[.val (.int .i64 3),.val (.int .i64 0),.val (.slice none 0 0),.val (.int .i64 a2.Kind),.val (.int .i64 a2.Old.Kind),.sl a2.Old.Words.length (fl (eI .u64) a2.Old.Words),.sl a2.Old.Kids.length (fl Za a2.Old.Kids),.val (.int .i64 a2.New.Kind),.sl a2.New.Words.length (fl (eI .u64) a2.New.Words),.sl a2.New.Kids.length (fl Za a2.New.Kids),.sl a2.Words.length (fl Zd a2.Words),.sl a2.Kids.length (fl Zc a2.Kids),.val (.int .i64 a2.List_),.sl a2.Ops.length (fl Zf a2.Ops)]):=Zbr (f:=Zf) (sz:=14) (fun _=>rfl) rfl rfl
 refine Zcv Z0 (by kernel_rfl) [.plain,.low,.low,.low,.low,.plain,.low,.pass,.bar,.shp,.fill true,.shp,.shp,.fill false] (fun i=>i < (n+7)) [0,1,2,3,4,5,6,7,8,9,10,11,12,13] [.plain,.low,.low,.low,.low,.plain,.low,.pass,.bar,.shp,.fill true,.shp,.shp,.fill false] [] (by kernel_rfl) rfl ?_
 refine zF9 pl7 ql7 el7 ax8 bx8 cx8 gu9 hi0 hk0 ?_
 refine zO ?_
 obtain rfl:=sI h
 refine Gn (k:=3) (i:=i0) (q1:=⟨false,90,4,1,[.row (n+2) (y6.out++[(⟨3,0,([]:(List Zb)),a2⟩:Zl)]).length,(vI y6.kept),.row n y6.gone.length,.row (n+1) y6.come.length]⟩) (L3:=[some (oR 25 3 Za y6.gone),some (oR 25 3 Za y6.come),some (oR 41 14 Zf (y6.out++[(⟨3,0,([]:(List Zb)),a2⟩:Zl)])),none]) (E2:=(⟨25,[],[]⟩:Env)) (n3:=(n+4)) (.inl rfl) hU rfl [] ?_ ?_
 ·refine Fit2.trans (E':=(⟨25,[],[]⟩:Env)) (O':=(Zx ((((O.upd j0_0 none).upd j0_1 none).upd j0_2 none).upd i0 (some ⟨false,90,4,1,[.row (n+6) (y6.out++[(⟨3,0,([]:(List Zb)),a2⟩:Zl)]).length,(vI y6.kept),.row (n+4) y6.gone.length,.row (n+5) y6.come.length]⟩)) n [none,none,none,none,some (oR 25 3 Za y6.gone),some (oR 25 3 Za y6.come),some (oR 41 14 Zf (y6.out++[(⟨3,0,([]:(List Zb)),a2⟩:Zl)])),none])) (n':=(n+8)) (Fit2.of (Ym hU rfl rfl ?_) (by omega)) ?_
  ·exact Z3f pl7 ql7 el7 ax8 bx8 cx8 gu9 hi0 hk0
  refine Qo (k:=8) (k':=4) hU [3,3,3,3,0,1,2,3] [4,5,6,0] rfl rfl rfl rfl ⟨rfl,rfl⟩ ?_
  exact Qu hi0 hk0
 simp only [push_cast,seval,Ze,Try.results52,hi0,hk0,hN0,hN]
def Zge (Qm:(Zg→Option Zg)):Prop:=∀ {a0:Zg} {r:Zg} {O:Objs} {n:Nat},Qm a0=some r→GTo Try.prog 14 [.agg (Zk a0)] O n (.agg (Zk r)) O n
def Zho (Ue:(Int→(List Zl)→Option (List Zl))):Prop:=∀ {a0:Int} {a1:(List Zl)} {r:(List Zl)} {O:Objs} {n:Nat},Ue a0 a1=some r→GTo Try.prog 30 [(vI a0),(sL Zf a1)] O n ((sL Zf r)) O n
theorem Zt4 {Qm:(Zg→Option Zg)} {Ue:(Int→(List Zl)→Option (List Zl))} (Zd7:Zge Qm) (Zmh:Zho Ue) {a0:Zg} {r:Zg} {O:Objs} {n:Nat} (h:Zek Qm Ue a0=some r):GTo Try.prog 14 [.agg (Zk a0)] O n (.agg (Zk r)) O n:=by
 unfold Zek at h
 refine zFn Try.call14 Try.func14 fun hU hN0 hN => ?_
 show W _ _ _ _ ⟨54,[],[(0,.agg (Zk a0))]⟩ (Zx O n []) _
 refine zQ [1,2] ?_
 refine Zq ?_
 refine zQ [1,2,7] ?_
 refine Yy ?_
 refine zQ [1,2,7,8] ?_
 refine Z5 (t:=(a0.Kind == 1)) rfl (fun c17 => ?_) (fun c17 => ?_)
 ·replace h:=Z4 c17 h
  refine Zq ?_
  obtain ⟨y3,hy3,h⟩:=bC h
  obtain ⟨y4,hy4,h⟩:=bC h
  refine Gv Z0 (by kernel_rfl) [false,false,false,false,false,false,false,true] [] (by kernel_rfl) ?_
  refine zS ?_
  refine PCall.of (Zc0 hy3) ?_
  refine zS ?_
  refine PCall.of (Zc0 hy4) ?_
  refine zS ?_
  refine zD [2] [false,true] ?_
  exact X6 [.agg [(vI 1),(vI y3.Kind),(sL (eI .u64) y3.Words),(sL Za y3.Kids),(vI y4.Kind),(sL (eI .u64) y4.Words),(sL Za y4.Kids),nV,nV,(vI 0),nV]]
 replace h:=Z3 c17 h
 refine zQ [1,2,7,17] ?_
 refine Z5 (t:=(a0.Kind == 2)) rfl (fun c16 => ?_) (fun c16 => ?_)
 ·replace h:=Z4 c16 h
  refine Zq ?_
  obtain ⟨y6,hy6,h⟩:=bC h
  refine zR ?_
  refine (Zc6  hy6).then ?_
  refine zS ?_
  refine zDs [1,2,3] [true,true,true,true] ?_
  refine zQd [2,3,24,25,26] [2,3,24,25,26] [false,true,true,true] ?_
  refine Yx (E':=(⟨54,[],[(2,.ref (n+1) 0),(3,.ref (n+3) 0),(24,(sL Zc a0.Kids)),(25,(vI (a0.Kids.length:Int))),(26,(vI 0))]⟩:Env)) (O':=(Zx O n [none,some ⟨false,30,11,1,[(vI 0),(vI 0),nV,nV,(vI 0),nV,nV,nV,nV,(vI 0),nV]⟩,some (oR 48 4 Zd y6),some ⟨false,30,11,1,[(vI 2),(vI 0),nV,nV,(vI 0),nV,nV,.row (n+2) y6.length,.row (n+4) ([]:List Zm).length,(vI 0),nV]⟩,some (oR 50 12 Zc ([]:List Zm)),none])) (n':=(n+6)) ?_ ?_
  ·refine Fit2.trans (E':=(⟨54,[],[(2,.ref (n+1) 0),(3,.ref (n+3) 0),(24,(sL Zc a0.Kids)),(25,(vI (a0.Kids.length:Int))),(26,(vI 0))]⟩:Env)) (O':=(Zx O n [none,some ⟨false,30,11,1,[(vI 0),(vI 0),nV,nV,(vI 0),nV,nV,nV,nV,(vI 0),nV]⟩,some (oR 48 4 Zd y6),some ⟨false,30,11,1,[(vI 2),(vI 0),nV,nV,(vI 0),nV,nV,.row (n+2) y6.length,nV,(vI 0),nV]⟩])) (n':=(n+4)) (Fit2.of (Yq hU rfl rfl ?_) (by omega)) ?_
   ·exact zSe
   refine Fit2.trans (Vg (p:=(n+3)) (k:=8) (q:=⟨false,30,11,1,[(vI 2),(vI 0),nV,nV,(vI 0),nV,nV,.row (n+2) y6.length,nV,(vI 0),nV]⟩) 50 12 (by simp only [Vu,Gu,List.getElem?_cons_zero,List.getElem?_cons_succ,Option.join_some,List.length_nil]) rfl (by omega)) ?_
   simp only [Jj,Qd,Ve,List.set_cons_zero,List.set_cons_succ,List.cons_append,List.nil_append,List.length_cons,List.length_nil,Nat.zero_add,Nat.reduceAdd,Nat.reduceLT,Nat.add_assoc]
   refine Km (k:=5) (k':=6) hU [5,1,2,3,4] [0,1,2,3,4,0] rfl rfl rfl rfl ⟨rfl,rfl⟩ ?_
   exact zSe
  obtain ⟨z12,hz12,h⟩:=bC h
  refine Y6 (E':=⟨54,[],[(2,.ref (n+1) 0),(3,.ref (n+3) 0)]⟩) (O':=(Zx O n [none,some ⟨false,30,11,1,[(vI 0),(vI 0),nV,nV,(vI 0),nV,nV,nV,nV,(vI 0),nV]⟩,some (oR 48 4 Zd y6),some ⟨false,30,11,1,[(vI 2),(vI 0),nV,nV,(vI 0),nV,nV,.row (n+2) y6.length,.row (n+4) z12.length,(vI 0),nV]⟩,some (oR 50 12 Zc z12),none])) (n0:=(n+6)) ?_ ?_
  ·refine Xo hz12 (fun s0_=>⟨54,[],[(2,.ref (n+1) 0),(3,.ref (n+3) 0),(24,(sL Zc a0.Kids)),(25,(vI (a0.Kids.length:Int))),(26,(vI s0_.1))]⟩) (fun s0_=>(Zx O n [none,some ⟨false,30,11,1,[(vI 0),(vI 0),nV,nV,(vI 0),nV,nV,nV,nV,(vI 0),nV]⟩,some (oR 48 4 Zd y6),some ⟨false,30,11,1,[(vI 2),(vI 0),nV,nV,(vI 0),nV,nV,.row (n+2) y6.length,.row (n+4) s0_.2.length,(vI 0),nV]⟩,some (oR 50 12 Zc s0_.2),none])) (fun z12=>JX 1 n (⟨54,[],[(2,.ref (n+1) 0),(3,.ref (n+3) 0)]⟩:Env) (Zx O n [none,some ⟨false,30,11,1,[(vI 0),(vI 0),nV,nV,(vI 0),nV,nV,nV,nV,(vI 0),nV]⟩,some (oR 48 4 Zd y6),some ⟨false,30,11,1,[(vI 2),(vI 0),nV,nV,(vI 0),nV,nV,.row (n+2) y6.length,.row (n+4) z12.length,(vI 0),nV]⟩,some (oR 50 12 Zc z12),none]) (n+6)) ?_
   intro s0_ x0_ hs0_
   unfold Zcf at hs0_
   try dsimp only
   refine zQ [2,3,24,25,26,27] ?_
   refine Zq ?_
   refine Z5 (t:=(decide (s0_.1 < (a0.Kids.length:Int)))) rfl (fun c11 => ?_) (fun c11 => ?_)
   ·replace hs0_:=Z4 c11 hs0_
    refine Gk [2,3,24,25,26] [false,true,true,true,true,false] ?_
    refine Zq ?_
    refine Yy ?_
    refine Zq ?_
    obtain ⟨x8,hx8,ax8,bx8,cx8,hs0_⟩:=bE (f:=Zc) Zc9 (fun _=>rfl) (by decide) hs0_
    refine Zlq [] ax8 bx8 cx8 ?_
    refine zD [2,3,5,24,25,26] [false,true,true,true,true,false,true] ?_
    obtain ⟨y9,hy9,hs0_⟩:=bC hs0_
    obtain ⟨l10,pl10,ql10,el10,hs0_⟩:=bA (k:=1) rfl hs0_
    refine Zcv Z0 (by kernel_rfl) [.low,.low,.plain,.plain,.plain,.plain,.plain,.plain,.pass,.bar,.plain,.bar] (fun i=>i < (n+7)) [0,1,2,3,4,5,6,7,8,9,10,11] [.low,.low,.plain,.plain,.plain,.plain,.plain,.plain,.pass,.bar,.plain,.bar] [] (by kernel_rfl) rfl ?_
    refine zX3 pl10 ql10 el10 ?_
    refine zO ?_
    first | refine PCallA.of (fun _ _=>Zd7 hy9) ?_ | refine PCall.of (Zd7 hy9) ?_
    refine zX3 pl10 ql10 el10 ?_
    refine zO ?_
    refine Zc3 ⟨54,[],[(2,.ref (n+1) 0),(3,.ref (n+3) 0),(24,(sL Zc a0.Kids)),(25,(vI (a0.Kids.length:Int))),(26,(vI s0_.1))]⟩ (Zx O n [none,some ⟨false,30,11,1,[(vI 0),(vI 0),nV,nV,(vI 0),nV,nV,nV,nV,(vI 0),nV]⟩,some (oR 48 4 Zd y6),some ⟨false,30,11,1,[(vI 2),(vI 0),nV,nV,(vI 0),nV,nV,.row (n+2) y6.length,.row (n+4) l10.length,(vI 0),nV]⟩,some (oR 50 12 Zc l10),none,none,none]) (Yq hU rfl rfl ?_) ?_
    ·exact Z97 pl10 ql10 el10
    refine zR ?_
    exact zEn hs0_
   replace hs0_:=Z3 c11 hs0_
   exact zEx hs0_
  try simp only [Xh,Ys,↓reduceIte,Nat.reduceEqDiff]
  refine zDs [2,3] [false,true,true,true,true,false] ?_
  refine zRd [2] [false,true,true,false,true,false] ?_
  exact X6 [.agg [(vI 2),(vI 0),nV,nV,(vI 0),nV,nV,.row (n+2) y6.length,.row (n+4) z12.length,(vI 0),nV]]
 replace h:=Z3 c16 h
 refine zQ [1,2,43] ?_
 refine Z5 (t:=(a0.Kind == 3)) rfl (fun c15 => ?_) (fun c15 => ?_)
 ·replace h:=Z4 c15 h
  refine Zq ?_
  obtain ⟨y14,hy14,h⟩:=bC h
  refine Gv Z0 (by kernel_rfl) [false,false,false,false,false,false,false,false,true] [] (by kernel_rfl) ?_
  refine zS ?_
  refine PCall.of (Zmh hy14) ?_
  refine zS ?_
  refine zD [2] [false,true] ?_
  exact X6 [.agg [(vI 3),(vI 0),nV,nV,(vI 0),nV,nV,nV,nV,(vI a0.List_),(sL Zf y14)]]
 replace h:=Z3 c15 h
 refine Gk [2] [false,true] ?_
 refine Zq ?_
 refine zRd [2] [false,true] ?_
 exact X6 [.agg [(vI 0),(vI 0),nV,nV,(vI 0),nV,nV,nV,nV,(vI 0),nV]]
theorem Zvk {Qm:(Zg→Option Zg)} {Ue:(Int→(List Zl)→Option (List Zl))} (Zd7:Zge Qm) (Zmh:Zho Ue) {a0:Int} {a1:(List Zl)} {r:(List Zl)} {O:Objs} {n:Nat} (h:Zd5 Qm Ue a0 a1=some r):GTo Try.prog 30 [(vI a0),(sL Zf a1)] O n ((sL Zf r)) O n:=by
 unfold Zd5 at h
 refine zFn Try.call30 Try.func30 fun hU hN0 hN => ?_
 show W _ _ _ _ ⟨44,[],[(0,(vI a0)),(1,(sL Zf a1))]⟩ (Zx O n []) _
 refine zQ [0,1] ?_
 refine zQ [0,1,5] ?_
 refine Zq ?_
 refine zQd [0,5,8,9,10] [0,5,8,9,10] [true] ?_
 refine Yx (E':=(⟨44,[],[(0,(vI a0)),(5,.ref n 0),(8,(sL Zf a1)),(9,(vI (a1.length:Int))),(10,(vI 0))]⟩:Env)) (O':=(Zx O n [some ⟨false,90,4,1,[.row (n+1) ([]:List Zl).length,(vI 0),.row (n+2) ([]:List Zb).length,.row (n+3) ([]:List Zb).length]⟩,some (oR 41 14 Zf ([]:List Zl)),some (oR 25 3 Za ([]:List Zb)),some (oR 25 3 Za ([]:List Zb)),none])) (n':=(n+5)) ?_ ?_
 ·refine Fit2.trans (E':=(⟨44,[],[(0,(vI a0)),(5,.ref n 0),(8,(sL Zf a1)),(9,(vI (a1.length:Int))),(10,(vI 0))]⟩:Env)) (O':=(Zx O n [some ⟨false,90,4,1,[nV,(vI 0),nV,nV]⟩])) (n':=(n+1)) (Fit2.of (Yq hU rfl rfl ?_) (by omega)) ?_
  ·exact zSe
  refine Fit2.trans (Vg (p:=n) (k:=0) (q:=⟨false,90,4,1,[nV,(vI 0),nV,nV]⟩) 41 14 (by simp only [Vu,Gu,List.getElem?_cons_zero,List.getElem?_cons_succ,Option.join_some,List.length_nil]) rfl (by omega)) ?_
  simp only [Jj,Qd,Ve,Zbl,List.set_cons_zero,List.set_cons_succ,List.cons_append,List.nil_append,List.length_cons,List.length_nil,Nat.zero_add,Nat.reduceAdd,Nat.reduceLT,Nat.add_assoc]
  refine Fit2.trans (Vg (p:=n) (k:=2) (q:=⟨false,90,4,1,[.row (n+1) ([]:List Zl).length,(vI 0),nV,nV]⟩) 25 3 (by simp only [Vu,Gu,List.getElem?_cons_zero,List.getElem?_cons_succ,Option.join_some,List.length_nil]) rfl (by omega)) ?_
  simp only [Jj,Qd,Ve,Zbl,List.set_cons_zero,List.set_cons_succ,List.cons_append,List.nil_append,List.length_cons,List.length_nil,Nat.zero_add,Nat.reduceAdd,Nat.reduceLT,Nat.add_assoc]
  refine Fit2.trans (Vg (p:=n) (k:=3) (q:=⟨false,90,4,1,[.row (n+1) ([]:List Zl).length,(vI 0),.row (n+2) ([]:List Zb).length,nV]⟩) 25 3 (by simp only [Vu,Gu,List.getElem?_cons_zero,List.getElem?_cons_succ,Option.join_some,List.length_nil]) rfl (by omega)) ?_
  simp only [Jj,Qd,Ve,Zbl,List.set_cons_zero,List.set_cons_succ,List.cons_append,List.nil_append,List.length_cons,List.length_nil,Nat.zero_add,Nat.reduceAdd,Nat.reduceLT,Nat.add_assoc]
  refine Km (k:=4) (k':=5) hU [0,1,2,3] [0,1,2,3,0] rfl rfl rfl rfl ⟨rfl,rfl⟩ ?_
  exact zSe
 obtain ⟨z14,hz14,h⟩:=bC h
 refine Y6 (E':=⟨44,[],[(5,.ref n 0)]⟩) (O':=(Zx O n [some ⟨false,90,4,1,[.row (n+1) z14.2.1.length,(vI z14.1),.row (n+2) z14.2.2.1.length,.row (n+3) z14.2.2.2.length]⟩,some (oR 41 14 Zf z14.2.1),some (oR 25 3 Za z14.2.2.1),some (oR 25 3 Za z14.2.2.2),none])) (n0:=(n+5)) ?_ ?_
 ·refine Xo hz14 (fun s0_=>⟨44,[],[(0,(vI a0)),(5,.ref n 0),(8,(sL Zf a1)),(9,(vI (a1.length:Int))),(10,(vI s0_.1))]⟩) (fun s0_=>(Zx O n [some ⟨false,90,4,1,[.row (n+1) s0_.2.2.1.length,(vI s0_.2.1),.row (n+2) s0_.2.2.2.1.length,.row (n+3) s0_.2.2.2.2.length]⟩,some (oR 41 14 Zf s0_.2.2.1),some (oR 25 3 Za s0_.2.2.2.1),some (oR 25 3 Za s0_.2.2.2.2),none])) (fun z14=>JX 0 n (⟨44,[],[(5,.ref n 0)]⟩:Env) (Zx O n [some ⟨false,90,4,1,[.row (n+1) z14.2.1.length,(vI z14.1),.row (n+2) z14.2.2.1.length,.row (n+3) z14.2.2.2.length]⟩,some (oR 41 14 Zf z14.2.1),some (oR 25 3 Za z14.2.2.1),some (oR 25 3 Za z14.2.2.2),none]) (n+5)) ?_
  intro s0_ x0_ hs0_
  unfold Gd at hs0_
  try dsimp only
  refine zQ [0,5,8,9,10,11] ?_
  refine Zq ?_
  refine Z5 (t:=(decide (s0_.1 < (a1.length:Int)))) rfl (fun c13 => ?_) (fun c13 => ?_)
  ·replace hs0_:=Z4 c13 hs0_
   refine Gk [0,5,8,9,10] [true,true,true,true,false] ?_
   obtain ⟨z1,hz1,hs0_⟩:=bC hs0_
   refine Xa (E':=⟨44,[],[(0,(vI a0)),(5,.ref n 0),(8,(sL Zf a1)),(9,(vI (a1.length:Int))),(10,(vI s0_.1))]⟩) (O':=(Zx O n [some ⟨false,90,4,1,[.row (n+9) z1.2.1.length,(vI z1.1),.row (n+10) z1.2.2.1.length,.row (n+11) z1.2.2.2.length]⟩,none,none,none,none,none,none,none,none,some (oR 41 14 Zf z1.2.1),some (oR 25 3 Za z1.2.2.1),some (oR 25 3 Za z1.2.2.2),none])) (n0:=(n+13)) ?_ ?_
   ·refine Yy ?_
    refine Zq ?_
    obtain ⟨x3,hx3,ax3,bx3,cx3,hz1⟩:=bE (f:=Zf) V2 (fun _=>rfl) (by decide) hz1
    refine Zlq [] ax3 bx3 cx3 ?_
    refine zD [0,5,7,8,9,10] [true,true,true,true,false,true] ?_
    refine zQ [0,5,7,8,9,10,15] ?_
    refine Yy ?_
    refine zQ [0,5,7,8,9,10,15,16] ?_
    refine Z5 (t:=(x3.Kind == 0)) rfl (fun c12 => ?_) (fun c12 => ?_)
    ·replace hz1:=Z4 c12 hz1
     obtain ⟨y4,hy4,hz1⟩:=bC hz1
     refine zR ?_
     refine (Zf8 (i0:=n) (j0_0:=(n+2)) (j0_1:=(n+3)) (j0_2:=(n+1)) (by omega) (by omega) (by omega) (by omega) (by omega) (by omega) (by omega) (by omega) (by omega) (by omega) (by simp only [push_cast,seval,Ze,Zt,hN0,hN] <;> rfl) (by simp only [push_cast,seval,Ze,Zt,hN0,hN] <;> rfl) (by simp only [push_cast,seval,Ze,Zt,hN0,hN] <;> rfl) (by simp only [push_cast,seval,Ze,Zt,hN0,hN] <;> rfl) hy4).then ?_
     refine zS ?_
     obtain rfl:=sI hz1
     refine And.intro rfl ?_
     refine Fit2.trans (E':=(⟨44,[],[(0,(vI a0)),(5,.ref n 0),(8,(sL Zf a1)),(9,(vI (a1.length:Int))),(10,(vI s0_.1))]⟩:Env)) (O':=(Zx O n [some ⟨false,90,4,1,[.row (n+8) y4.out.length,(vI y4.kept),.row (n+6) y4.gone.length,.row (n+7) y4.come.length]⟩,none,none,none,none,none,some (oR 25 3 Za y4.gone),some (oR 25 3 Za y4.come),some (oR 41 14 Zf y4.out)])) (n':=(n+9)) (Fit2.of (Yq hU rfl rfl ?_) (by omega)) ?_
     ·exact zSe
     refine Km (k:=9) (k':=13) hU [0,12,12,12,12,12,10,11,9] [0,0,0,0,0,0,0,0,0,8,6,7,0] rfl rfl rfl rfl ⟨rfl,rfl⟩ ?_
     exact zSe
    replace hz1:=Z3 c12 hz1
    refine zQ [0,5,7,8,9,10,15,21] ?_
    refine Z5 (t:=(x3.Kind == 1)) rfl (fun c11 => ?_) (fun c11 => ?_)
    ·replace hz1:=Z4 c11 hz1
     obtain ⟨y5,hy5,hz1⟩:=bC hz1
     refine zR ?_
     refine (Zjp (i0:=n) (j0_0:=(n+2)) (j0_1:=(n+3)) (j0_2:=(n+1)) (by omega) (by omega) (by omega) (by omega) (by omega) (by omega) (by omega) (by omega) (by omega) (by omega) (by simp only [push_cast,seval,Ze,Zt,hN0,hN] <;> rfl) (by simp only [push_cast,seval,Ze,Zt,hN0,hN] <;> rfl) (by simp only [push_cast,seval,Ze,Zt,hN0,hN] <;> rfl) (by simp only [push_cast,seval,Ze,Zt,hN0,hN] <;> rfl) hy5).then ?_
     refine zS ?_
     obtain rfl:=sI hz1
     refine And.intro rfl ?_
     refine Fit2.trans (E':=(⟨44,[],[(0,(vI a0)),(5,.ref n 0),(8,(sL Zf a1)),(9,(vI (a1.length:Int))),(10,(vI s0_.1))]⟩:Env)) (O':=(Zx O n [some ⟨false,90,4,1,[.row (n+8) y5.out.length,(vI y5.kept),.row (n+6) y5.gone.length,.row (n+7) y5.come.length]⟩,none,none,none,none,none,some (oR 25 3 Za y5.gone),some (oR 25 3 Za y5.come),some (oR 41 14 Zf y5.out)])) (n':=(n+9)) (Fit2.of (Yq hU rfl rfl ?_) (by omega)) ?_
     ·exact zSe
     refine Km (k:=9) (k':=13) hU [0,12,12,12,12,12,10,11,9] [0,0,0,0,0,0,0,0,0,8,6,7,0] rfl rfl rfl rfl ⟨rfl,rfl⟩ ?_
     exact zSe
    replace hz1:=Z3 c11 hz1
    refine zQ [0,5,7,8,9,10,15,27] ?_
    refine Z5 (t:=(x3.Kind == 2)) rfl (fun c10 => ?_) (fun c10 => ?_)
    ·replace hz1:=Z4 c10 hz1
     obtain ⟨y6,hy6,hz1⟩:=bC hz1
     refine zR ?_
     refine (Zjq (i0:=n) (j0_0:=(n+2)) (j0_1:=(n+3)) (j0_2:=(n+1)) (by omega) (by omega) (by omega) (by omega) (by omega) (by omega) (by omega) (by omega) (by omega) (by omega) (by simp only [push_cast,seval,Ze,Zt,hN0,hN] <;> rfl) (by simp only [push_cast,seval,Ze,Zt,hN0,hN] <;> rfl) (by simp only [push_cast,seval,Ze,Zt,hN0,hN] <;> rfl) (by simp only [push_cast,seval,Ze,Zt,hN0,hN] <;> rfl) hy6).then ?_
     refine zS ?_
     obtain rfl:=sI hz1
     refine And.intro rfl ?_
     refine Fit2.trans (E':=(⟨44,[],[(0,(vI a0)),(5,.ref n 0),(8,(sL Zf a1)),(9,(vI (a1.length:Int))),(10,(vI s0_.1))]⟩:Env)) (O':=(Zx O n [some ⟨false,90,4,1,[.row (n+8) y6.out.length,(vI y6.kept),.row (n+6) y6.gone.length,.row (n+7) y6.come.length]⟩,none,none,none,none,none,some (oR 25 3 Za y6.gone),some (oR 25 3 Za y6.come),some (oR 41 14 Zf y6.out)])) (n':=(n+9)) (Fit2.of (Yq hU rfl rfl ?_) (by omega)) ?_
     ·exact zSe
     refine Km (k:=9) (k':=13) hU [0,12,12,12,12,12,10,11,9] [0,0,0,0,0,0,0,0,0,8,6,7,0] rfl rfl rfl rfl ⟨rfl,rfl⟩ ?_
     exact zSe
    replace hz1:=Z3 c10 hz1
    refine zQ [0,5,7,8,9,10,33] ?_
    refine Z5 (t:=(x3.Kind == 3)) rfl (fun c9 => ?_) (fun c9 => ?_)
    ·replace hz1:=Z4 c9 hz1
     obtain ⟨y7,hy7,hz1⟩:=bC hz1
     obtain ⟨y8,hy8,hz1⟩:=bC hz1
     refine zC (Zd7 hy7) ?_
     refine (Zkl (i0:=n) (j0_0:=(n+2)) (j0_1:=(n+3)) (j0_2:=(n+1)) (by omega) (by omega) (by omega) (by omega) (by omega) (by omega) (by omega) (by omega) (by omega) (by omega) (by simp only [push_cast,seval,Ze,Zt,hN0,hN] <;> rfl) (by simp only [push_cast,seval,Ze,Zt,hN0,hN] <;> rfl) (by simp only [push_cast,seval,Ze,Zt,hN0,hN] <;> rfl) (by simp only [push_cast,seval,Ze,Zt,hN0,hN] <;> rfl) hy8).then ?_
     refine zS ?_
     obtain rfl:=sI hz1
     refine And.intro rfl ?_
     refine Fit2.trans (E':=(⟨44,[],[(0,(vI a0)),(5,.ref n 0),(8,(sL Zf a1)),(9,(vI (a1.length:Int))),(10,(vI s0_.1))]⟩:Env)) (O':=(Zx O n [some ⟨false,90,4,1,[.row (n+8) y8.out.length,(vI y8.kept),.row (n+6) y8.gone.length,.row (n+7) y8.come.length]⟩,none,none,none,none,none,some (oR 25 3 Za y8.gone),some (oR 25 3 Za y8.come),some (oR 41 14 Zf y8.out)])) (n':=(n+9)) (Fit2.of (Yq hU rfl rfl ?_) (by omega)) ?_
     ·exact zSe
     refine Km (k:=9) (k':=13) hU [0,12,12,12,12,12,10,11,9] [0,0,0,0,0,0,0,0,0,8,6,7,0] rfl rfl rfl rfl ⟨rfl,rfl⟩ ?_
     exact zSe
    replace hz1:=Z3 c9 hz1
    refine zK ?_
    obtain rfl:=sI hz1
    refine And.intro rfl ?_
    refine Fit2.trans (E':=(⟨44,[],[(0,(vI a0)),(5,.ref n 0),(8,(sL Zf a1)),(9,(vI (a1.length:Int))),(10,(vI s0_.1))]⟩:Env)) (O':=(Zx O n [some ⟨false,90,4,1,[.row (n+1) s0_.2.2.1.length,(vI s0_.2.1),.row (n+2) s0_.2.2.2.1.length,.row (n+3) s0_.2.2.2.2.length]⟩,some (oR 41 14 Zf s0_.2.2.1),some (oR 25 3 Za s0_.2.2.2.1),some (oR 25 3 Za s0_.2.2.2.2),none,none])) (n':=(n+6)) (Fit2.of (Yq hU rfl rfl ?_) (by omega)) ?_
    ·exact zSe
    refine Km (k:=6) (k':=13) hU [0,9,10,11,12,12] [0,0,0,0,0,0,0,0,0,1,2,3,0] rfl rfl rfl rfl ⟨rfl,rfl⟩ ?_
    exact zSe
   refine zR ?_
   obtain rfl:=sI hs0_
   refine And.intro rfl ?_
   refine Fit2.trans (E':=(⟨44,[],[(0,(vI a0)),(5,.ref n 0),(8,(sL Zf a1)),(9,(vI (a1.length:Int))),(10,(vI (IntKind.i64.wrap (s0_.1+1))))]⟩:Env)) (O':=(Zx O n [some ⟨false,90,4,1,[.row (n+9) z1.2.1.length,(vI z1.1),.row (n+10) z1.2.2.1.length,.row (n+11) z1.2.2.2.length]⟩,none,none,none,none,none,none,none,none,some (oR 41 14 Zf z1.2.1),some (oR 25 3 Za z1.2.2.1),some (oR 25 3 Za z1.2.2.2),none])) (n':=(n+13)) (Fit2.of (Yq hU rfl rfl ?_) (by omega)) ?_
   ·exact zSe
   refine Km (k:=13) (k':=5) hU [0,4,4,4,4,4,4,4,4,1,2,3,4] [0,9,10,11,0] rfl rfl rfl rfl ⟨rfl,rfl⟩ ?_
   exact zSe
  replace hs0_:=Z3 c13 hs0_
  exact zEx hs0_
 try simp only [Xh,Ys,↓reduceIte,Nat.reduceEqDiff]
 refine zDs [5] [true,true,true,true,false] ?_
 obtain ⟨y16,hy16,h⟩:=bC h
 refine zR ?_
 refine (Uq (i0:=n) (j0_0:=(n+2)) (j0_1:=(n+3)) (j0_2:=(n+1)) (by omega) (by omega) (by omega) (by omega) (by omega) (by omega) (by omega) (by omega) (by omega) (by omega) (by simp only [push_cast,seval,Ze,Zt,hN0,hN] <;> rfl) (by simp only [push_cast,seval,Ze,Zt,hN0,hN] <;> rfl) (by simp only [push_cast,seval,Ze,Zt,hN0,hN] <;> rfl) (by simp only [push_cast,seval,Ze,Zt,hN0,hN] <;> rfl) hy16).then ?_
 refine zS ?_
 refine zD [5] [true,false,false,false,false,true,true,true] ?_
 refine zQ [4] ?_
 exact X6 [.row (n+7) y16.out.length]
theorem Zq2:∀ k,(Zge ((Qg k).1))∧(Zho ((Qg k).2)):=fun k=>by
 induction k with
 | zero=>exact ⟨@fun a0 r O n h=>(nomatch (show (none:Option _)=some _ from h)),@fun a0 a1 r O n h=>(nomatch (show (none:Option _)=some _ from h))⟩
 | succ k ih=>exact ⟨@fun a0 r O n h=>Zt4 (ih.1) (ih.2)  h,@fun a0 a1 r O n h=>Zvk (ih.1) (ih.2)  h⟩
theorem Zco {a0:Zg} {r:Zg} {O:Objs} {n:Nat} (h:Zb8 a0=some r):GTo Try.prog 14 [.agg (Zk a0)] O n (.agg (Zk r)) O n:=by
 obtain ⟨k,hk⟩:=Zbt h
 exact (Zq2 k).1  hk
theorem Kj {a0:(List Int)} {a1:(List Int)} {r:Bool} {O:Objs} {n:Nat} (h:Qe a0 a1=some r):GTo Try.prog 60 [(sL (eI .u64) a0),(sL (eI .u64) a1)] O n ((vB r)) O n:=by
 unfold Qe at h
 refine zFn Try.call60 Try.func60 fun hU hN0 hN => ?_
 show W _ _ _ _ ⟨26,[],[(0,(sL (eI .u64) a0)),(1,(sL (eI .u64) a1))]⟩ (Zx O n []) _
 refine zQ [0,1] ?_
 refine Zq ?_
 refine zQ [0,1,10] ?_
 refine Z5 (t:=((a0.length:Int) != (a1.length:Int))) rfl (fun c8 => ?_) (fun c8 => ?_)
 ·replace h:=Z4 c8 h
  refine zQ [4] ?_
  exact X6 [(vB false)]
 replace h:=Z3 c8 h
 refine Gk [0,1] [] ?_
 refine Zq ?_
 refine zQd [0,1,12,13] [0,1,12,13] [] ?_
 obtain ⟨z7,hz7,h⟩:=bC h
 refine Zdb (J:=(Q7 (fun z7=>JR n (⟨26,[],[(4,(vB false))]⟩:Env) (Zx O n []) n) (fun z7=>JX 0 n (⟨26,[],[]⟩:Env) (Zx O n []) n))) (z:=z7) ?_ fun hw => ?_
 ·refine Xo hz7 (fun s0_=>⟨26,[],[(0,(sL (eI .u64) a0)),(1,(sL (eI .u64) a1)),(12,(vI (a0.length:Int))),(13,(vI s0_))]⟩) (fun s0_=>(Zx O n [])) (Q7 (fun z7=>JR n (⟨26,[],[(4,(vB false))]⟩:Env) (Zx O n []) n) (fun z7=>JX 0 n (⟨26,[],[]⟩:Env) (Zx O n []) n)) ?_
  intro s0_ x0_ hs0_
  unfold Qn at hs0_
  try dsimp only
  refine zQ [0,1,12,13,14] ?_
  refine Zq ?_
  refine Z5 (t:=(decide (s0_ < (a0.length:Int)))) rfl (fun c6 => ?_) (fun c6 => ?_)
  ·replace hs0_:=Z4 c6 hs0_
   refine Gk [0,1,12,13] [] ?_
   refine Zq ?_
   refine Yy ?_
   refine zQ [0,1,5,12,13] ?_
   obtain ⟨x3,hx3,ax3,bx3,cx3,hs0_⟩:=bE (f:=(eI .u64)) Zjl (fun _=>rfl) (by decide) hs0_
   obtain ⟨x4,hx4,ax4,bx4,cx4,hs0_⟩:=bE (f:=(eI .u64)) Zjl (fun _=>rfl) (by decide) hs0_
   refine Zce [0,1,12,13,24] (Xw Z0 (by kernel_rfl) [] (by kernel_rfl) ?_)
   refine zF6 ax3 bx3 cx3 ax4 bx4 cx4 ?_
   refine Z5 (t:=(x3 != x4)) rfl (fun c5 => ?_) (fun c5 => ?_)
   ·replace hs0_:=Z4 c5 hs0_
    refine zQ [4] ?_
    refine zW ?_
    exact zEy hs0_
   replace hs0_:=Z3 c5 hs0_
   refine Gk [0,1,12,13] [] ?_
   refine zR ?_
   exact zEn hs0_
  replace hs0_:=Z3 c6 hs0_
  exact zEx hs0_
 rcases z7 with z7 | z7
 ·dsimp only [Q7] at hw h
  refine Vf hw ?_
  try simp only [Xh,Ys,↓reduceIte,Nat.reduceEqDiff]
  exact Zmw [(vB false)]
 dsimp only [Q7] at hw h
 refine Y6 hw ?_
 try simp only [Xh,Ys,↓reduceIte,Nat.reduceEqDiff]
 refine zD [] [] ?_
 refine zQ [4] ?_
 exact X6 [(vB true)]
def Zhp (Kz:(Zb→Zb→Option Bool)):Prop:=∀ {a0:Zb} {a1:Zb} {r:Bool} {O:Objs} {n:Nat},Kz a0 a1=some r→GTo Try.prog 40 [.agg (Zz a0),.agg (Zz a1)] O n ((vB r)) O n
def Xm (Z7:((List Zb)→(List Zb)→Option Bool)):Prop:=∀ {a0:(List Zb)} {a1:(List Zb)} {r:Bool} {O:Objs} {n:Nat},Z7 a0 a1=some r→GTo Try.prog 61 [(sL Za a0),(sL Za a1),.fn 40 0 []] O n ((vB r)) O n
theorem Zvl {Kz:(Zb→Zb→Option Bool)} {Z7:((List Zb)→(List Zb)→Option Bool)} (Zmi:Zhp Kz) (Xn:Xm Z7) {a0:Zb} {a1:Zb} {r:Bool} {O:Objs} {n:Nat} (h:Zfl Kz Z7 a0 a1=some r):GTo Try.prog 40 [.agg (Zz a0),.agg (Zz a1)] O n ((vB r)) O n:=by
 unfold Zfl at h
 refine zFn Try.call40 Try.func40 fun hU hN0 hN => ?_
 show W _ _ _ _ ⟨44,[],[(0,.agg (Zz a0)),(1,.agg (Zz a1))]⟩ (Zx O n []) _
 refine zQ [2,3] ?_
 refine Zq ?_
 refine zQ [2,3,9] ?_
 refine Z5 (t:=(a0.Kind != a1.Kind)) rfl (fun c31 => ?_) (fun c31 => ?_)
 ·replace h:=Z4 c31 h
  refine zQ [4] ?_
  exact X6 [(vB false)]
 replace h:=Z3 c31 h
 refine Gk [2,3] [true,true] ?_
 refine Zq ?_
 refine zQ [2,3,11] ?_
 refine Yy ?_
 refine zQ [2,3,11,12] ?_
 refine Z5 (t:=(a0.Kind == 0)) rfl (fun c30 => ?_) (fun c30 => ?_)
 ·replace h:=Z4 c30 h
  refine zQ [4] ?_
  exact X6 [(vB true)]
 replace h:=Z3 c30 h
 refine zQ [2,3,14] ?_
 refine Z5 (t:=(a0.Kind == 1)) rfl (fun c29 => ?_) (fun c29 => ?_)
 ·replace h:=Z4 c29 h
  obtain ⟨z7,hz7,h⟩:=bC h
  refine Xa (E':=⟨44,[],[(4,(vB z7))]⟩) (O':=(Zx O n [none,none])) (n0:=(n+2)) ?_ ?_
  ·obtain ⟨y14,hy14,hz7⟩:=bC hz7
   obtain ⟨y15,hy15,hz7⟩:=bC hz7
   obtain ⟨y16,hy16,hz7⟩:=bC hz7
   rcases Bool.eq_false_or_eq_true y16 with c20 | c20
   ·replace hz7:=Z4 c20 hz7
    obtain ⟨y17,hy17,hz7⟩:=bC hz7
    obtain ⟨y18,hy18,hz7⟩:=bC hz7
    obtain ⟨y19,hy19,hz7⟩:=bC hz7
    refine Xw Z0 (by kernel_rfl) (Z5n []) (by kernel_rfl) ?_
    refine zX1 c20 ?_
    refine PCall.of (Zb3 hy14) ?_
    refine zX1 c20 ?_
    refine PCall.of (Zb3 hy15) ?_
    refine zX1 c20 ?_
    refine PCall.of (Kj hy16) ?_
    refine zX1 c20 ?_
    refine PCall.of (Zgf hy17) ?_
    refine zX1 c20 ?_
    refine PCall.of (Zgf hy18) ?_
    refine zX1 c20 ?_
    refine PCall.of (Xn hy19) ?_
    refine zX1 c20 ?_
    exact Zcr hz7 c20
   replace hz7:=Z3 c20 hz7
   refine Xw Z0 (by kernel_rfl) (Z5m []) (by kernel_rfl) ?_
   refine zX1 c20 ?_
   refine PCall.of (Zb3 hy14) ?_
   refine zX1 c20 ?_
   refine PCall.of (Zb3 hy15) ?_
   refine zX1 c20 ?_
   refine PCall.of (Kj hy16) ?_
   refine zX1 c20 ?_
   exact Zcr hz7 c20
  exact X6 [(vB z7)]
 replace h:=Z3 c29 h
 refine Gk [2,3] [true,true] ?_
 obtain ⟨z23,hz23,h⟩:=bC h
 refine Xa (E':=⟨44,[],[(4,(vB z23))]⟩) (O':=(Zx O n [none,none])) (n0:=(n+2)) ?_ ?_
 ·obtain ⟨y26,hy26,hz23⟩:=bC hz23
  rcases Bool.eq_false_or_eq_true y26 with c28 | c28
  ·replace hz23:=Z4 c28 hz23
   obtain ⟨y27,hy27,hz23⟩:=bC hz23
   refine Zd4 (Ycg []) c28 ?_
   refine (Kj hy26).then ?_
   refine zX1 c28 ?_
   refine (Xn hy27).then ?_
   refine zX1 c28 ?_
   exact Zcr hz23 c28
  replace hz23:=Z3 c28 hz23
  refine Zd4 (Z9g []) c28 ?_
  refine (Kj hy26).then ?_
  refine zX1 c28 ?_
  exact Zcr hz23 c28
 exact X6 [(vB z23)]
theorem Vv {Kz:(Zb→Zb→Option Bool)} {Z7:((List Zb)→(List Zb)→Option Bool)} (Zmi:Zhp Kz) (Xn:Xm Z7) {a0:(List Zb)} {a1:(List Zb)} {r:Bool} {O:Objs} {n:Nat} (h:Yr Kz Z7 a0 a1=some r):GTo Try.prog 61 [(sL Za a0),(sL Za a1),.fn 40 0 []] O n ((vB r)) O n:=by
 unfold Yr at h
 refine zFn Try.call61 Try.func61 fun hU hN0 hN => ?_
 show W _ _ _ _ ⟨32,[],[(0,(sL Za a0)),(1,(sL Za a1)),(2,.fn 40 0 [])]⟩ (Zx O n []) _
 refine zQ [0,1,2] ?_
 refine Zq ?_
 refine zQ [0,1,2,14] ?_
 refine Z5 (t:=((a0.length:Int) != (a1.length:Int))) rfl (fun c10 => ?_) (fun c10 => ?_)
 ·replace h:=Z4 c10 h
  refine zQ [6] ?_
  exact X6 [(vB false)]
 replace h:=Z3 c10 h
 refine Gk [0,1,2] [] ?_
 refine Zq ?_
 refine zQd [1,2,15,16,17] [1,2,15,16,17] [] ?_
 obtain ⟨z9,hz9,h⟩:=bC h
 refine Zdb (J:=(Q7 (fun z9=>JR n (⟨32,[],[(6,(vB false))]⟩:Env) (Zx O n []) n) (fun z9=>JX 0 n (⟨32,[],[]⟩:Env) (Zx O n []) n))) (z:=z9) ?_ fun hw => ?_
 ·refine Xo hz9 (fun s0_=>⟨32,[],[(1,(sL Za a1)),(2,.fn 40 0 []),(15,(sL Za a0)),(16,(vI (a0.length:Int))),(17,(vI s0_))]⟩) (fun s0_=>(Zx O n [])) (Q7 (fun z9=>JR n (⟨32,[],[(6,(vB false))]⟩:Env) (Zx O n []) n) (fun z9=>JX 0 n (⟨32,[],[]⟩:Env) (Zx O n []) n)) ?_
  intro s0_ x0_ hs0_
  unfold Yp at hs0_
  try dsimp only
  refine zQ [1,2,15,16,17,18] ?_
  refine Zq ?_
  refine Z5 (t:=(decide (s0_ < (a0.length:Int)))) rfl (fun c8 => ?_) (fun c8 => ?_)
  ·replace hs0_:=Z4 c8 hs0_
   refine Gk [1,2,15,16,17] [] ?_
   refine Zq ?_
   refine Yy ?_
   refine Zq ?_
   obtain ⟨x2,hx2,ax2,bx2,cx2,hs0_⟩:=bE (f:=Za) Zb9 (fun _=>rfl) (by decide) hs0_
   refine Zlq [] ax2 bx2 cx2 ?_
   refine zDs [1,2,7,8,15,16,17] [true] ?_
   obtain ⟨x4,hx4,ax4,bx4,cx4,hs0_⟩:=bE (f:=Za) Zb9 (fun _=>rfl) (by decide) hs0_
   refine Zlq [] ax4 bx4 cx4 ?_
   refine zDs [1,2,8,9,15,16,17] [true,true] ?_
   obtain ⟨y6,hy6,hs0_⟩:=bC hs0_
   refine zCd (Zmi hy6) [1,2,15,16,17,30] [false,false] ?_
   refine Z5 (t:=(!y6)) rfl (fun c7 => ?_) (fun c7 => ?_)
   ·replace hs0_:=Z4 c7 hs0_
    refine zQ [6] ?_
    refine zW ?_
    exact zEy hs0_
   replace hs0_:=Z3 c7 hs0_
   refine Gk [1,2,15,16,17] [false,false] ?_
   refine zR ?_
   exact zEn hs0_
  replace hs0_:=Z3 c8 hs0_
  exact zEx hs0_
 rcases z9 with z9 | z9
 ·dsimp only [Q7] at hw h
  refine Vf hw ?_
  try simp only [Xh,Ys,↓reduceIte,Nat.reduceEqDiff]
  exact Zmw [(vB false)]
 dsimp only [Q7] at hw h
 refine Y6 hw ?_
 try simp only [Xh,Ys,↓reduceIte,Nat.reduceEqDiff]
 refine zD [] [] ?_
 refine zQ [6] ?_
 exact X6 [(vB true)]
theorem Zk0:∀ k,(Zhp ((Qa k).1))∧(Xm ((Qa k).2)):=fun k=>by
 induction k with
 | zero=>exact ⟨@fun a0 a1 r O n h=>(nomatch (show (none:Option _)=some _ from h)),@fun a0 a1 r O n h=>(nomatch (show (none:Option _)=some _ from h))⟩
 | succ k ih=>exact ⟨@fun a0 a1 r O n h=>Zvl (ih.1) (ih.2)  h,@fun a0 a1 r O n h=>Vv (ih.1) (ih.2)  h⟩
theorem Zpe {a0:Zb} {a1:Zb} {r:Bool} {O:Objs} {n:Nat} (h:Zh5 a0 a1=some r):GTo Try.prog 40 [.agg (Zz a0),.agg (Zz a1)] O n ((vB r)) O n:=by
 obtain ⟨k,hk⟩:=Zbt h
 exact (Zk0 k).1  hk
theorem Qp {a0:(List Zb)} {a1:(List Zb)} {r:Bool} {O:Objs} {n:Nat} (h:Yk a0 a1=some r):GTo Try.prog 61 [(sL Za a0),(sL Za a1),.fn 40 0 []] O n ((vB r)) O n:=by
 obtain ⟨k,hk⟩:=Zbt h
 exact (Zk0 k).2  hk
theorem Zxh {a0:Zg} {a1:Zb} {r:(Zb×Bool)} {O:Objs} {n:Nat} (h:Zh4 a0 a1=some r):GTo Try.prog 59 [.agg (Zk a0),.agg (Zz a1)] O n (.tup [.agg (Zz r.1),(vB r.2)]) O n:=by
 unfold Zh4 at h
 refine zFn Try.call59 Try.func59 fun hU hN0 hN => ?_
 show W _ _ _ _ ⟨34,[],[(0,.agg (Zk a0)),(1,.agg (Zz a1))]⟩ (Zx O n []) _
 refine zQ [2,3,4] ?_
 refine Zq ?_
 refine zQ [2,3,4,7] ?_
 refine Yy ?_
 refine zQ [2,3,4,7,8] ?_
 refine Z5 (t:=(a0.Kind == 0)) rfl (fun c6 => ?_) (fun c6 => ?_)
 ·replace h:=Z4 c6 h
  refine Zq ?_
  refine zRd [4,5] [false,false,true] ?_
  exact X6 [.agg (Zz a1),(vB true)]
 replace h:=Z3 c6 h
 refine zQ [2,3,4,7,11] ?_
 refine Z5 (t:=(a0.Kind == 1)) rfl (fun c5 => ?_) (fun c5 => ?_)
 ·replace h:=Z4 c5 h
  refine Zq ?_
  obtain ⟨y2,hy2,h⟩:=bC h
  refine Gv Z0 (by kernel_rfl) [false,false,false,false,false,false,true,false] [] (by kernel_rfl) ?_
  refine zS ?_
  refine PCall.of (Zpe hy2) ?_
  refine zS ?_
  refine zD [4,5] [false,false,true] ?_
  exact X6 [.agg (Zz a0.New),(vB y2)]
 replace h:=Z3 c5 h
 refine zQ [2,3,4,7,19] ?_
 refine Z5 (t:=(a0.Kind == 2)) rfl (fun c4 => ?_) (fun c4 => ?_)
 ·replace h:=Z4 c4 h
  refine Zq ?_
  cases h
 replace h:=Z3 c4 h
 refine zQ [2,3,4,26] ?_
 refine Z5 (t:=(a0.Kind == 3)) rfl (fun c3 => ?_) (fun c3 => ?_)
 ·replace h:=Z4 c3 h
  refine Zq ?_
  cases h
 replace h:=Z3 c3 h
 refine Gk [4] [false,false,true] ?_
 refine Zq ?_
 refine zRd [4,5] [false,false,true] ?_
 exact X6 [.agg [(vI 0),nV,nV],(vB false)]
theorem Zxg {a0:Zg} {a1:Zb} {r:(Zb×Bool)} {O:Objs} {n:Nat} (h:Zft a0 a1=some r):GTo Try.prog 39 [.agg (Zk a0),.agg (Zz a1)] O n (.tup [.agg (Zz r.1),(vB r.2)]) O n:=by
 unfold Zft at h
 refine zFn Try.call39 Try.func39 fun hU hN0 hN => ?_
 show W _ _ _ _ ⟨19,[],[(0,.agg (Zk a0)),(1,.agg (Zz a1))]⟩ (Zx O n []) _
 refine zQ [2,3,4] ?_
 refine Zq ?_
 obtain ⟨y2,hy2,h⟩:=bC h
 refine zCd (Zxh hy2) [4,6,7] [false,false,true,true] ?_
 refine Zq ?_
 refine zQ [4,6,15] ?_
 refine Z5 (t:=(!y2.2)) rfl (fun c5 => ?_) (fun c5 => ?_)
 ·replace h:=Z4 c5 h
  refine Zq ?_
  refine zRd [4,5] [false,false,true,false] ?_
  exact X6 [.agg [(vI 0),nV,nV],(vB false)]
 replace h:=Z3 c5 h
 refine Gk [4,6] [false,false,true,true] ?_
 refine Zq ?_
 obtain ⟨y4,hy4,h⟩:=bC h
 refine zCd (Zc0 hy4) [4,5] [false,false,true,false] ?_
 exact X6 [.agg (Zz y4),(vB true)]
theorem Zkm {a1:Zg} {a2:Zg} {a900:Zh} {r:Zh} {O:Objs} {n:Nat} {i900:Nat} (hi900:i900 < n) (ho900:O i900=some ⟨false,43,2,1,[(vB a900.apart),(vB a900.clash)]⟩) (h:Vb a1 a2 a900=some r):GTo Try.prog 25 [.ref i900 0,.agg (Zk a1),.agg (Zk a2)] O n (.tup []) (Zx (O.upd i900 (some ⟨false,43,2,1,[(vB r.apart),(vB r.clash)]⟩)) n []) (n+0):=by
 unfold Vb at h
 refine Zc5 Z0 Try.call25 Try.func25 rfl (Nat.le_of_ble_eq_true rfl) (by omega) fun hU => ?_
 rw [show Zx O n []=Zx (O.upd i900 (some ⟨false,43,2,1,[(vB a900.apart),(vB a900.clash)]⟩)) n [] from by rw [X4 (show O i900=_ from by exact ho900)]]
 have hk900:∀ k,i900 < n+k:=fun k=>by omega
 have hN0:∀ o,Objs.upd O i900 o n=none:=fun o=>Yw hU hi900 _ (Nat.le_refl _)
 have hN:∀ o k,Objs.upd O i900 o (n+k)=none:=fun o k=>Yw hU hi900 _ (Nat.le_add_right _ _)
 show W _ _ _ _ ⟨30,[],[(0,.ref i900 0),(1,.agg (Zk a1)),(2,.agg (Zk a2))]⟩ (Zx (O.upd i900 (some ⟨false,43,2,1,[(vB a900.apart),(vB a900.clash)]⟩)) n []) _
 refine Zec [0,4,5] hi900 hk900 ?_
 refine Zq ?_
 obtain ⟨y2,hy2,h⟩:=bC h
 refine Jg [] hi900 hk900 ?_
 refine (Zxg hy2).then ?_
 refine zX2 hi900 hk900 ?_
 refine zD [0,4,6,7] [true,false,true] ?_
 refine Yy ?_
 refine Zec [0,4,6,15] hi900 hk900 ?_
 refine Z5 (t:=(!y2.2)) rfl (fun c6 => ?_) (fun c6 => ?_)
 ·replace h:=Z4 c6 h
  refine Jg [] hi900 hk900 ?_
  obtain rfl:=sI h
  refine Gn (k:=0) (i:=i900) (q1:=⟨false,43,2,1,[(vB true),(vB a900.clash)]⟩) (L3:=[none]) (E2:=(⟨30,[],[]⟩:Env)) (n3:=(n+1)) (.inl rfl) hU rfl [] ?_ ?_
  ·refine Fit2.trans (E':=(⟨30,[],[]⟩:Env)) (O':=(Zx (O.upd i900 (some ⟨false,43,2,1,[(vB true),(vB a900.clash)]⟩)) n [none,none,none])) (n':=(n+3)) (Fit2.of (Ym hU rfl rfl ?_) (by omega)) ?_
   ·exact Qu hi900 hk900
   refine Qo (k:=3) (k':=1) hU [0,0,0] [0] rfl rfl rfl rfl ⟨rfl,rfl⟩ ?_
   exact Qu hi900 hk900
  simp only [push_cast,seval,Ze,Try.results25,hi900,hk900,hN0,hN]
 replace h:=Z3 c6 h
 refine Zq ?_
 obtain ⟨y4,hy4,h⟩:=bC h
 refine Jg [] hi900 hk900 ?_
 refine (Zpe hy4).then ?_
 refine zX2 hi900 hk900 ?_
 refine zD [0,21] [false,false,false] ?_
 refine Z5 (t:=(!y4)) rfl (fun c5 => ?_) (fun c5 => ?_)
 ·replace h:=Z4 c5 h
  refine Jg [] hi900 hk900 ?_
  obtain rfl:=sI h
  refine Gn (k:=0) (i:=i900) (q1:=⟨false,43,2,1,[(vB a900.apart),(vB true)]⟩) (L3:=[none]) (E2:=(⟨30,[],[]⟩:Env)) (n3:=(n+1)) (.inl rfl) hU rfl [] ?_ ?_
  ·refine Fit2.trans (E':=(⟨30,[],[]⟩:Env)) (O':=(Zx (O.upd i900 (some ⟨false,43,2,1,[(vB a900.apart),(vB true)]⟩)) n [none,none,none])) (n':=(n+3)) (Fit2.of (Ym hU rfl rfl ?_) (by omega)) ?_
   ·exact Qu hi900 hk900
   refine Qo (k:=3) (k':=1) hU [0,0,0] [0] rfl rfl rfl rfl ⟨rfl,rfl⟩ ?_
   exact Qu hi900 hk900
  simp only [push_cast,seval,Ze,Try.results25,hi900,hk900,hN0,hN]
 replace h:=Z3 c5 h
 refine zK ?_
 obtain rfl:=sI h
 refine Gn (k:=0) (i:=i900) (q1:=⟨false,43,2,1,[(vB a900.apart),(vB a900.clash)]⟩) (L3:=[none]) (E2:=(⟨30,[],[]⟩:Env)) (n3:=(n+1)) (.inl rfl) hU rfl [] ?_ ?_
 ·refine Fit2.trans (E':=(⟨30,[],[]⟩:Env)) (O':=(Zx (O.upd i900 (some ⟨false,43,2,1,[(vB a900.apart),(vB a900.clash)]⟩)) n [none,none,none])) (n':=(n+3)) (Fit2.of (Ym hU rfl rfl ?_) (by omega)) ?_
  ·exact Qu hi900 hk900
  refine Qo (k:=3) (k':=1) hU [0,0,0] [0] rfl rfl rfl rfl ⟨rfl,rfl⟩ ?_
  exact Qu hi900 hk900
 simp only [push_cast,seval,Ze,Try.results25,hi900,hk900,hN0,hN]
theorem Zd8 {a1:Zg} {r:Zi} {O:Objs} {n:Nat} {i900:Nat} (hi900:i900 < n) (h:Gh a1=some r):GTo Try.prog 41 [.ref i900 0,.agg (Zk a1)] O n (.ref n 0) (Zx O n [some ⟨false,85,13,1,(Zj (.ref i900 0) (.row (n+1) r.left.Words.length) (.row (n+2) r.left.Kids.length) (.row (n+3) r.left.Ops.length) (.row (n+4) r.come.length) r)⟩,some (oR 48 4 Zd r.left.Words),some (oR 50 12 Zc r.left.Kids),some (oR 41 14 Zf r.left.Ops),some (oR 25 3 Za r.come)]) (n+5):=by
 unfold Gh at h
 refine Zc5 Z0 Try.call41 Try.func41 rfl (Nat.le_of_ble_eq_true rfl) (by omega) fun hU => ?_
 have hk900:∀ k,i900 < n+k:=fun k=>by omega
 have hN0:O n=none:=hU.fresh _ (Nat.le_refl _)
 have hN:∀ k,O (n+k)=none:=fun k=>hU.fresh _ (Nat.le_add_right _ _)
 show W _ _ _ _ ⟨13,[],[(0,.ref i900 0),(1,.agg (Zk a1))]⟩ (Zx O n []) _
 refine Zec [0,3] hi900 hk900 ?_
 refine Zec [4] hi900 hk900 ?_
 refine zW ?_
 obtain rfl:=sI h
 refine Zz1 (k:=5) (L3:=[some ⟨false,85,13,1,[.ref i900 0,(vI a1.Kind),(vI 0),nV,nV,(vI 0),nV,nV,.row (n+1) ([]:List Zp).length,.row (n+2) ([]:List Zm).length,(vI a1.List_),.row (n+3) ([]:List Zl).length,.row (n+4) ([]:List Zb).length]⟩,some (oR 48 4 Zd ([]:List Zp)),some (oR 50 12 Zc ([]:List Zm)),some (oR 41 14 Zf ([]:List Zl)),some (oR 25 3 Za ([]:List Zb)),none]) (E2:=(⟨13,[],[(4,.ref n 0)]⟩:Env)) (n3:=(n+6)) (.inr rfl) hU rfl [.ref n 0] ?_ ?_
 ·refine Fit2.trans (E':=(⟨13,[],[(4,.ref (n+1) 0)]⟩:Env)) (O':=(Zx O n [none,some ⟨false,85,13,1,[.ref i900 0,(vI a1.Kind),(vI 0),nV,nV,(vI 0),nV,nV,nV,nV,(vI a1.List_),nV,nV]⟩])) (n':=(n+2)) (Fit2.of (Yq hU rfl rfl ?_) (by omega)) ?_
  ·exact Qu hi900 hk900
  refine Fit2.trans (Vg (p:=(n+1)) (k:=8) (q:=⟨false,85,13,1,[.ref i900 0,(vI a1.Kind),(vI 0),nV,nV,(vI 0),nV,nV,nV,nV,(vI a1.List_),nV,nV]⟩) 48 4 (by simp only [Vu,Gu,List.getElem?_cons_zero,List.getElem?_cons_succ,Option.join_some,List.length_nil]) rfl (by omega)) ?_
  simp only [Jj,Qd,Ve,List.set_cons_zero,List.set_cons_succ,List.cons_append,List.nil_append,List.length_cons,List.length_nil,Nat.zero_add,Nat.reduceAdd,Nat.reduceLT,Nat.add_assoc]
  refine Fit2.trans (Vg (p:=(n+1)) (k:=9) (q:=⟨false,85,13,1,[.ref i900 0,(vI a1.Kind),(vI 0),nV,nV,(vI 0),nV,nV,.row (n+2) ([]:List Zp).length,nV,(vI a1.List_),nV,nV]⟩) 50 12 (by simp only [Vu,Gu,List.getElem?_cons_zero,List.getElem?_cons_succ,Option.join_some,List.length_nil]) rfl (by omega)) ?_
  simp only [Jj,Qd,Ve,List.set_cons_zero,List.set_cons_succ,List.cons_append,List.nil_append,List.length_cons,List.length_nil,Nat.zero_add,Nat.reduceAdd,Nat.reduceLT,Nat.add_assoc]
  refine Fit2.trans (Vg (p:=(n+1)) (k:=11) (q:=⟨false,85,13,1,[.ref i900 0,(vI a1.Kind),(vI 0),nV,nV,(vI 0),nV,nV,.row (n+2) ([]:List Zp).length,.row (n+3) ([]:List Zm).length,(vI a1.List_),nV,nV]⟩) 41 14 (by simp only [Vu,Gu,List.getElem?_cons_zero,List.getElem?_cons_succ,Option.join_some,List.length_nil]) rfl (by omega)) ?_
  simp only [Jj,Qd,Ve,List.set_cons_zero,List.set_cons_succ,List.cons_append,List.nil_append,List.length_cons,List.length_nil,Nat.zero_add,Nat.reduceAdd,Nat.reduceLT,Nat.add_assoc]
  refine Fit2.trans (Vg (p:=(n+1)) (k:=12) (q:=⟨false,85,13,1,[.ref i900 0,(vI a1.Kind),(vI 0),nV,nV,(vI 0),nV,nV,.row (n+2) ([]:List Zp).length,.row (n+3) ([]:List Zm).length,(vI a1.List_),.row (n+4) ([]:List Zl).length,nV]⟩) 25 3 (by simp only [Vu,Gu,List.getElem?_cons_zero,List.getElem?_cons_succ,Option.join_some,List.length_nil]) rfl (by omega)) ?_
  simp only [Jj,Qd,Ve,List.set_cons_zero,List.set_cons_succ,List.cons_append,List.nil_append,List.length_cons,List.length_nil,Nat.zero_add,Nat.reduceAdd,Nat.reduceLT,Nat.add_assoc]
  refine Km (k:=6) (k':=6) hU [5,0,1,2,3,4] [1,2,3,4,5,0] rfl rfl rfl rfl ⟨rfl,rfl⟩ ?_
  exact Qu hi900 hk900
 simp only [push_cast,seval,Ze,Try.results41,hi900,hk900,hN0,hN]
theorem Zl2 {a0:Int} {r:Int} {O:Objs} {n:Nat} (h:Zb0 a0=some r):GTo Try.prog 73 [.val (.int .u8 a0)] O n (.val (.int .u64 r)) O n:=by
 unfold Zb0 at h
 refine zFn Try.call73 Try.func73 fun hU hN0 hN => ?_
 show W _ _ _ _ ⟨20,[],[(0,.val (.int .u8 a0))]⟩ (Zx O n []) _
 refine zQ [0] ?_
 refine zQ [0,3] ?_
 refine Zq ?_
 refine zQd [0,3,5] [0,3,5] [] ?_
 obtain ⟨z7,hz7,h⟩:=bC h
 refine Y6 (E':=⟨20,[],[(3,.val (.int .u64 z7))]⟩) (O':=(Zx O n [])) (n0:=n) ?_ ?_
 ·refine Xo hz7 (fun s0_=>⟨20,[],[(0,.val (.int .u8 a0)),(3,.val (.int .u64 s0_.1)),(5,(vI s0_.2))]⟩) (fun s0_=>(Zx O n [])) (fun z7=>JX 0 n (⟨20,[],[(3,.val (.int .u64 z7))]⟩:Env) (Zx O n []) n) ?_
  intro s0_ x0_ hs0_
  unfold Zdu at hs0_
  try dsimp only
  refine zQ [0,3,5,6] ?_
  refine Zq ?_
  refine Z5 (t:=(decide (s0_.2 < 8))) rfl (fun c6 => ?_) (fun c6 => ?_)
  ·replace hs0_:=Z4 c6 hs0_
   refine Gk [0,3,5] [] ?_
   obtain ⟨z1,hz1,hs0_⟩:=bC hs0_
   refine Xa (E':=⟨20,[],[(0,.val (.int .u8 a0)),(3,.val (.int .u64 z1)),(5,(vI s0_.2))]⟩) (O':=(Zx O n [])) (n0:=n) ?_ ?_
   ·refine Yy ?_
    refine zQ [0,3,4,5] ?_
    obtain ⟨pu3,hz1⟩:=bG hz1
    refine Zce [0,3,4,5,12] (Ya Z0 [] ?_)
    simp only [push_cast,seval,Ze,pu3,hN0,hN]
    refine Z5 (t:=((IntKind.u8.wrap (Zcl .u8 (Int.fdiv a0 (2 ^ min (Int.toNat s0_.2) 8)) 1)) == 1)) rfl (fun c5 => ?_) (fun c5 => ?_)
    ·replace hz1:=Z4 c5 hz1
     obtain ⟨pu4,hz1⟩:=bG hz1
     refine Ya Z0 [] ?_
     simp only [push_cast,seval,Ze,pu4,hN0,hN]
     obtain rfl:=sI hz1
     refine And.intro rfl (Fit2.of (Yq hU rfl rfl ?_) (by omega))
     simp only [push_cast,seval,Ze,pu4,hN0,hN]
    replace hz1:=Z3 c5 hz1
    refine zK ?_
    exact zEn hz1
   refine zR ?_
   exact zEn hs0_
  replace hs0_:=Z3 c6 hs0_
  exact zEx hs0_
 try simp only [Xh,Ys,↓reduceIte,Nat.reduceEqDiff]
 refine zD [3] [] ?_
 refine zQ [2] ?_
 exact X6 [.val (.int .u64 z7)]
attribute [local push_cast] Try.results42 Try.results44 Try.results45 Try.results62 Try.results63 Try.results64 Try.results65 Try.results66 Try.results74 Try.results75 Try.results76 Try.results88 decide_true decide_eq_true_eq decide_eq_false_iff_not ge_iff_le Zzo Zog Zh2 Zo8
theorem Zo1 {a0:Zi} {a1:Zp} {a2:Zp} {a900:Zh} {r:(Zp×Zi×Zh)} {O:Objs} {n:Nat} {i0 j0_0 j0_1 j0_2 j0_3 i900:Nat} (hi0:i0 < n) (Vp:j0_0 < n) (Vq:j0_1 < n) (Vr:j0_2 < n) (Zg0:j0_3 < n) (X8:i0≠j0_0) (X0:i0≠j0_1) (X1:i0≠j0_2) (Za4:i0≠j0_3) (Xx:j0_0≠j0_1) (Xy:j0_0≠j0_2) (G9:j0_0≠j0_3) (Xz:j0_1≠j0_2) (Zaa:j0_1≠j0_3) (Zab:j0_2≠j0_3) (hi900:i900 < n) (Xt:i900≠j0_0) (Xu:i900≠j0_1) (Xv:i900≠j0_2) (Qy:i900≠j0_3) (Yd:i0≠i900) (ho0:O i0=some ⟨false,85,13,1,(Zj (.ref i900 0) (.row j0_0 a0.left.Words.length) (.row j0_1 a0.left.Kids.length) (.row j0_2 a0.left.Ops.length) (.row j0_3 a0.come.length) a0)⟩) (Ge:O j0_0=some (oR 48 4 Zd a0.left.Words)) (Gf:O j0_1=some (oR 50 12 Zc a0.left.Kids)) (Gg:O j0_2=some (oR 41 14 Zf a0.left.Ops)) (Zip:O j0_3=some (oR 25 3 Za a0.come)) (ho900:O i900=some ⟨false,43,2,1,[(vB a900.apart),(vB a900.clash)]⟩) (h:Za9 a0 a1 a2 a900=some r):GTo Try.prog 62 [.ref i0 0,.agg (Xb a1),.agg (Xb a2)] O n (.agg (Xb r.1)) (Zx ((((((O.upd j0_0 none).upd j0_1 none).upd j0_2 none).upd j0_3 none).upd i0 (some ⟨false,85,13,1,(Zj (.ref i900 0) (.row n r.2.1.left.Words.length) (.row (n+1) r.2.1.left.Kids.length) (.row (n+2) r.2.1.left.Ops.length) (.row (n+3) r.2.1.come.length) r.2.1)⟩)).upd i900 (some ⟨false,43,2,1,[(vB r.2.2.apart),(vB r.2.2.clash)]⟩)) n [some (oR 48 4 Zd r.2.1.left.Words),some (oR 50 12 Zc r.2.1.left.Kids),some (oR 41 14 Zf r.2.1.left.Ops),some (oR 25 3 Za r.2.1.come)]) (n+4):=by
 unfold Za9 at h
 refine Zc5 Z0 Try.call62 Try.func62 rfl (Nat.le_of_ble_eq_true rfl) (by omega) fun hU => ?_
 rw [show Zx O n []=Zx ((O.upd i0 (some ⟨false,85,13,1,(Zj (.ref i900 0) (.row j0_0 a0.left.Words.length) (.row j0_1 a0.left.Kids.length) (.row j0_2 a0.left.Ops.length) (.row j0_3 a0.come.length) a0)⟩)).upd i900 (some ⟨false,43,2,1,[(vB a900.apart),(vB a900.clash)]⟩)) n [] from by rw [X4 ho0,X4 ho900]]
 refine Yx (Yc (k:=8) (by rw [Zv _ hi0];simp only [Z8,Zn Yd] <;> rfl) (by rfl) (by rw [Zv _ Vp];simp only [Zn (Ne.symm X8),Zn (Ne.symm Xt)];exact Ge) X8 (by simp only [push_cast,Nat.reduceAdd,Zs _ _ Vp,Zs _ _ hi0,Zr (Ne.symm X8),Zr (Ne.symm Xt),Zr Yd] <;> rfl) (by omega)) ?_
 refine Yx (Yc (k:=9) (by rw [Zv _ hi0];simp only [Z8,Zn Yd] <;> rfl) (by rfl) (by rw [Zv _ Vq];simp only [Zn (Ne.symm X0),Zn (Ne.symm Xu),Zn (Ne.symm Xx)];exact Gf) X0 (by simp only [push_cast,Nat.reduceAdd,Zs _ _ Vq,Zs _ _ hi0,Zr (Ne.symm X0),Zr (Ne.symm Xu),Zr Yd] <;> rfl) (by omega)) ?_
 refine Yx (Yc (k:=11) (by rw [Zv _ hi0];simp only [Z8,Zn Yd] <;> rfl) (by rfl) (by rw [Zv _ Vr];simp only [Zn (Ne.symm X1),Zn (Ne.symm Xv),Zn (Ne.symm Xy),Zn (Ne.symm Xz)];exact Gg) X1 (by simp only [push_cast,Nat.reduceAdd,Zs _ _ Vr,Zs _ _ hi0,Zr (Ne.symm X1),Zr (Ne.symm Xv),Zr Yd] <;> rfl) (by omega)) ?_
 refine Yx (Yc (k:=12) (by rw [Zv _ hi0];simp only [Z8,Zn Yd] <;> rfl) (by rfl) (by rw [Zv _ Zg0];simp only [Zn (Ne.symm Za4),Zn (Ne.symm Qy),Zn (Ne.symm G9),Zn (Ne.symm Zaa),Zn (Ne.symm Zab)];exact Zip) Za4 (by simp only [push_cast,Nat.reduceAdd,Zs _ _ Zg0,Zs _ _ hi0,Zr (Ne.symm Za4),Zr (Ne.symm Qy),Zr Yd] <;> rfl) (by omega)) ?_
 have hU:=(Und.drop (Und.drop (Und.drop (Und.drop hU j0_0) j0_1) j0_2) j0_3)
 have ra0_900:=fun X=>@Zn X _ _ Yd
 have rb0_900:=fun X=>@Zn X _ _ (Ne.symm Yd)
 have rc0_900:=fun X b c=>@Zr X _ _ b c Yd
 have hk0:∀ k,i0 < n+k:=fun k=>by omega
 have hk900:∀ k,i900 < n+k:=fun k=>by omega
 have hN0:∀ o p,Objs.upd (Objs.upd ((((O.upd j0_0 none).upd j0_1 none).upd j0_2 none).upd j0_3 none) i0 o) i900 p n=none:=fun o p=>(Yn _ _ (by omega)).trans (Yw hU hi0 _ (Nat.le_refl _))
 have hN:∀ o p k,Objs.upd (Objs.upd ((((O.upd j0_0 none).upd j0_1 none).upd j0_2 none).upd j0_3 none) i0 o) i900 p (n+k)=none:=fun o p k=>(Yn _ _ (by omega)).trans (Yw hU hi0 _ (Nat.le_add_right _ _))
 show W _ _ _ _ ⟨80,[],[(0,.ref i0 0),(1,.agg (Xb a1)),(2,.agg (Xb a2))]⟩ (Zx ((((((O.upd j0_0 none).upd j0_1 none).upd j0_2 none).upd j0_3 none).upd i0 (some ⟨false,85,13,1,(Zj (.ref i900 0) (.row n a0.left.Words.length) (.row (n+1) a0.left.Kids.length) (.row (n+2) a0.left.Ops.length) (.row (n+3) a0.come.length) a0)⟩)).upd i900 (some ⟨false,43,2,1,[(vB a900.apart),(vB a900.clash)]⟩)) n [some (oR 48 4 Zd a0.left.Words),some (oR 50 12 Zc a0.left.Kids),some (oR 41 14 Zf a0.left.Ops),some (oR 25 3 Za a0.come)]) _
 refine Zce [0,4,5,6] (Ya Z0 [] ?_)
 simp only [push_cast,seval,Ze,hi0,hk0,hi900,hk900,ra0_900,rb0_900,rc0_900,hN0,hN]
 refine Zq ?_
 obtain ⟨y2,hy2,h⟩:=bC h
 refine Ya Z0 [] ?_
 simp only [push_cast,seval,Ze,hi0,hk0,hi900,hk900,ra0_900,rb0_900,rc0_900,hN0,hN]
 refine (Zl2 hy2).then ?_
 simp only [push_cast,seval,Ze,hi0,hk0,hi900,hk900,ra0_900,rb0_900,rc0_900,hN0,hN]
 refine zDs [0,4,5,6,7] [true,true,true,true,true,true,true] ?_
 refine Gv Z0 (by kernel_rfl) [false,false,false,false,false,false,false,false,false,false,false,false,false,false,false,false,false,false,false,false,false,false,false,true] [none,none,none,none,none,none,none,none] (by kernel_rfl) ?_
 simp only [push_cast,seval,Ze,hi0,hk0,hi900,hk900,ra0_900,rb0_900,rc0_900,hN0,hN]
 refine zG ?_
 refine zDs [0,4,5,6,7] [true,true,true,true,true,true,true] ?_
 refine Gv Z0 (by kernel_rfl) [false,false,false,false,false,false,false,false,false,false,false,false,false,false,false,false,false,false,false,false,false,false,false,true] [none,none,none,none,none,none,none,none] (by kernel_rfl) ?_
 simp only [push_cast,seval,Ze,hi0,hk0,hi900,hk900,ra0_900,rb0_900,rc0_900,hN0,hN]
 refine zG ?_
 refine zD [4,5,6] [true,true,true,true,true,true,true] ?_
 refine Zce [4,6,8] (Ya Z0 [] ?_)
 simp only [push_cast,seval,Ze,hi0,hk0,hi900,hk900,ra0_900,rb0_900,rc0_900,hN0,hN]
 refine Zq ?_
 obtain ⟨y5,hy5,h⟩:=bC h
 obtain ⟨y6,hy6,h⟩:=bC h
 refine Gv Z0 (by kernel_rfl) [false,false,false,false,false,false,false,false,false,false,false,false,false,false,true] [] (by kernel_rfl) ?_
 simp only [push_cast,seval,Ze,hi0,hk0,hi900,hk900,ra0_900,rb0_900,rc0_900,hN0,hN]
 refine PCall.of (Zl2 hy5) ?_
 simp only [push_cast,seval,Ze,hi0,hk0,hi900,hk900,ra0_900,rb0_900,rc0_900,hN0,hN]
 refine PCall.of (Zl2 hy6) ?_
 simp only [push_cast,seval,Ze,hi0,hk0,hi900,hk900,ra0_900,rb0_900,rc0_900,hN0,hN]
 refine zD [6] [true,true,true,true,false,false,true] ?_
 refine zW ?_
 obtain rfl:=sI h
 refine K5 (k:=4) (i:=i0) (j:=i900) (q1:=⟨false,85,13,1,(Zj (.ref i900 0) (.row n a0.left.Words.length) (.row (n+1) a0.left.Kids.length) (.row (n+2) a0.left.Ops.length) (.row (n+3) a0.come.length) a0)⟩) (p1:=⟨false,43,2,1,[(vB (cond a900.apart true ((IntKind.u64.wrap (Zcl .u64 (IntKind.u64.wrap (Zmg .u64 a1.Old a2.Old)) y2)) != 0))),(vB (cond a900.clash true ((IntKind.u64.wrap (Zcl .u64 (IntKind.u64.wrap (Zmg .u64 a1.New a2.New)) y2)) != 0)))]⟩) (L3:=[some (oR 48 4 Zd a0.left.Words),some (oR 50 12 Zc a0.left.Kids),some (oR 41 14 Zf a0.left.Ops),some (oR 25 3 Za a0.come),some ⟨false,48,4,1,[(vI a1.At),.val (.int .u8 (IntKind.u8.wrap (Zpb .u8 a1.Mask a2.Mask))),.val (.int .u64 (IntKind.u64.wrap (Zcl .u64 a1.Old y5))),.val (.int .u64 (IntKind.u64.wrap (Zcl .u64 a1.New y6)))]⟩,none]) (E2:=(⟨80,[],[(6,.ref (n+4) 0)]⟩:Env)) (n3:=(n+6)) (.inr rfl) hU rfl [.agg [(vI a1.At),.val (.int .u8 (IntKind.u8.wrap (Zpb .u8 a1.Mask a2.Mask))),.val (.int .u64 (IntKind.u64.wrap (Zcl .u64 a1.Old y5))),.val (.int .u64 (IntKind.u64.wrap (Zcl .u64 a1.New y6)))]] ?_ ?_
 ·refine Fit2.trans (E':=(⟨80,[],[(6,.ref (n+6) 0)]⟩:Env)) (O':=(Zx ((((((O.upd j0_0 none).upd j0_1 none).upd j0_2 none).upd j0_3 none).upd i0 (some ⟨false,85,13,1,(Zj (.ref i900 0) (.row n a0.left.Words.length) (.row (n+1) a0.left.Kids.length) (.row (n+2) a0.left.Ops.length) (.row (n+3) a0.come.length) a0)⟩)).upd i900 (some ⟨false,43,2,1,[(vB (cond a900.apart true ((IntKind.u64.wrap (Zcl .u64 (IntKind.u64.wrap (Zmg .u64 a1.Old a2.Old)) y2)) != 0))),(vB (cond a900.clash true ((IntKind.u64.wrap (Zcl .u64 (IntKind.u64.wrap (Zmg .u64 a1.New a2.New)) y2)) != 0)))]⟩)) n [some (oR 48 4 Zd a0.left.Words),some (oR 50 12 Zc a0.left.Kids),some (oR 41 14 Zf a0.left.Ops),some (oR 25 3 Za a0.come),none,none,some ⟨false,48,4,1,[(vI a1.At),.val (.int .u8 (IntKind.u8.wrap (Zpb .u8 a1.Mask a2.Mask))),.val (.int .u64 (IntKind.u64.wrap (Zcl .u64 a1.Old y5))),.val (.int .u64 (IntKind.u64.wrap (Zcl .u64 a1.New y6)))]⟩])) (n':=(n+7)) (Fit2.of (Xp hU rfl rfl ?_) (by omega)) ?_
  ·simp only [push_cast,seval,Ze,hi0,hk0,hi900,hk900,ra0_900,rb0_900,rc0_900,hN0,hN]
  refine Jb (k:=7) (k':=6) hU [0,1,2,3,5,5,4] [0,1,2,3,6,0] rfl rfl rfl rfl ⟨rfl,rfl⟩ ?_
  simp only [push_cast,seval,Ze,hi0,hk0,hi900,hk900,ra0_900,rb0_900,rc0_900,hN0,hN]
 simp only [push_cast,seval,Ze,Try.results62,hi0,hk0,hi900,hk900,ra0_900,rb0_900,rc0_900,hN0,hN]
theorem Zhb {a0:Zi} {a1:(List Zp)} {a2:(List Zp)} {a900:Zh} {r:(Zi×Zh)} {O:Objs} {n:Nat} {i0 j0_0 j0_1 j0_2 j0_3 i900:Nat} (hi0:i0 < n) (Vp:j0_0 < n) (Vq:j0_1 < n) (Vr:j0_2 < n) (Zg0:j0_3 < n) (X8:i0≠j0_0) (X0:i0≠j0_1) (X1:i0≠j0_2) (Za4:i0≠j0_3) (Xx:j0_0≠j0_1) (Xy:j0_0≠j0_2) (G9:j0_0≠j0_3) (Xz:j0_1≠j0_2) (Zaa:j0_1≠j0_3) (Zab:j0_2≠j0_3) (hi900:i900 < n) (Xt:i900≠j0_0) (Xu:i900≠j0_1) (Xv:i900≠j0_2) (Qy:i900≠j0_3) (Yd:i0≠i900) (ho0:O i0=some ⟨false,85,13,1,(Zj (.ref i900 0) (.row j0_0 a0.left.Words.length) (.row j0_1 a0.left.Kids.length) (.row j0_2 a0.left.Ops.length) (.row j0_3 a0.come.length) a0)⟩) (Ge:O j0_0=some (oR 48 4 Zd a0.left.Words)) (Gf:O j0_1=some (oR 50 12 Zc a0.left.Kids)) (Gg:O j0_2=some (oR 41 14 Zf a0.left.Ops)) (Zip:O j0_3=some (oR 25 3 Za a0.come)) (ho900:O i900=some ⟨false,43,2,1,[(vB a900.apart),(vB a900.clash)]⟩) (h:Vo a0 a1 a2 a900=some r):GTo Try.prog 42 [.ref i0 0,(sL Zd a1),(sL Zd a2)] O n (.tup []) (Zx ((((((O.upd j0_0 none).upd j0_1 none).upd j0_2 none).upd j0_3 none).upd i0 (some ⟨false,85,13,1,(Zj (.ref i900 0) (.row n r.1.left.Words.length) (.row (n+1) r.1.left.Kids.length) (.row (n+2) r.1.left.Ops.length) (.row (n+3) r.1.come.length) r.1)⟩)).upd i900 (some ⟨false,43,2,1,[(vB r.2.apart),(vB r.2.clash)]⟩)) n [some (oR 48 4 Zd r.1.left.Words),some (oR 50 12 Zc r.1.left.Kids),some (oR 41 14 Zf r.1.left.Ops),some (oR 25 3 Za r.1.come)]) (n+4):=by
 unfold Vo at h
 refine Zc5 Z0 Try.call42 Try.func42 rfl (Nat.le_of_ble_eq_true rfl) (by omega) fun hU => ?_
 rw [show Zx O n []=Zx ((O.upd i0 (some ⟨false,85,13,1,(Zj (.ref i900 0) (.row j0_0 a0.left.Words.length) (.row j0_1 a0.left.Kids.length) (.row j0_2 a0.left.Ops.length) (.row j0_3 a0.come.length) a0)⟩)).upd i900 (some ⟨false,43,2,1,[(vB a900.apart),(vB a900.clash)]⟩)) n [] from by rw [X4 ho0,X4 ho900]]
 refine Yx (Yc (k:=8) (by rw [Zv _ hi0];simp only [Z8,Zn Yd] <;> rfl) (by rfl) (by rw [Zv _ Vp];simp only [Zn (Ne.symm X8),Zn (Ne.symm Xt)];exact Ge) X8 (by simp only [push_cast,Nat.reduceAdd,Zs _ _ Vp,Zs _ _ hi0,Zr (Ne.symm X8),Zr (Ne.symm Xt),Zr Yd] <;> rfl) (by omega)) ?_
 refine Yx (Yc (k:=9) (by rw [Zv _ hi0];simp only [Z8,Zn Yd] <;> rfl) (by rfl) (by rw [Zv _ Vq];simp only [Zn (Ne.symm X0),Zn (Ne.symm Xu),Zn (Ne.symm Xx)];exact Gf) X0 (by simp only [push_cast,Nat.reduceAdd,Zs _ _ Vq,Zs _ _ hi0,Zr (Ne.symm X0),Zr (Ne.symm Xu),Zr Yd] <;> rfl) (by omega)) ?_
 refine Yx (Yc (k:=11) (by rw [Zv _ hi0];simp only [Z8,Zn Yd] <;> rfl) (by rfl) (by rw [Zv _ Vr];simp only [Zn (Ne.symm X1),Zn (Ne.symm Xv),Zn (Ne.symm Xy),Zn (Ne.symm Xz)];exact Gg) X1 (by simp only [push_cast,Nat.reduceAdd,Zs _ _ Vr,Zs _ _ hi0,Zr (Ne.symm X1),Zr (Ne.symm Xv),Zr Yd] <;> rfl) (by omega)) ?_
 refine Yx (Yc (k:=12) (by rw [Zv _ hi0];simp only [Z8,Zn Yd] <;> rfl) (by rfl) (by rw [Zv _ Zg0];simp only [Zn (Ne.symm Za4),Zn (Ne.symm Qy),Zn (Ne.symm G9),Zn (Ne.symm Zaa),Zn (Ne.symm Zab)];exact Zip) Za4 (by simp only [push_cast,Nat.reduceAdd,Zs _ _ Zg0,Zs _ _ hi0,Zr (Ne.symm Za4),Zr (Ne.symm Qy),Zr Yd] <;> rfl) (by omega)) ?_
 have hU:=(Und.drop (Und.drop (Und.drop (Und.drop hU j0_0) j0_1) j0_2) j0_3)
 have ra0_900:=fun X=>@Zn X _ _ Yd
 have rb0_900:=fun X=>@Zn X _ _ (Ne.symm Yd)
 have rc0_900:=fun X b c=>@Zr X _ _ b c Yd
 have hk0:∀ k,i0 < n+k:=fun k=>by omega
 have hk900:∀ k,i900 < n+k:=fun k=>by omega
 have hN0:∀ o p,Objs.upd (Objs.upd ((((O.upd j0_0 none).upd j0_1 none).upd j0_2 none).upd j0_3 none) i0 o) i900 p n=none:=fun o p=>(Yn _ _ (by omega)).trans (Yw hU hi0 _ (Nat.le_refl _))
 have hN:∀ o p k,Objs.upd (Objs.upd ((((O.upd j0_0 none).upd j0_1 none).upd j0_2 none).upd j0_3 none) i0 o) i900 p (n+k)=none:=fun o p k=>(Yn _ _ (by omega)).trans (Yw hU hi0 _ (Nat.le_add_right _ _))
 show W _ _ _ _ ⟨62,[],[(0,.ref i0 0),(1,(sL Zd a1)),(2,(sL Zd a2))]⟩ (Zx ((((((O.upd j0_0 none).upd j0_1 none).upd j0_2 none).upd j0_3 none).upd i0 (some ⟨false,85,13,1,(Zj (.ref i900 0) (.row n a0.left.Words.length) (.row (n+1) a0.left.Kids.length) (.row (n+2) a0.left.Ops.length) (.row (n+3) a0.come.length) a0)⟩)).upd i900 (some ⟨false,43,2,1,[(vB a900.apart),(vB a900.clash)]⟩)) n [some (oR 48 4 Zd a0.left.Words),some (oR 50 12 Zc a0.left.Kids),some (oR 41 14 Zf a0.left.Ops),some (oR 25 3 Za a0.come)]) _
 refine Zce [0,2,8,9,10] (Ya Z0 [] ?_)
 simp only [push_cast,seval,Ze,hi0,hk0,hi900,hk900,ra0_900,rb0_900,rc0_900,hN0,hN]
 refine zD [0,2,8,9,10] [true,true,true,true] ?_
 refine Yx (E':=(⟨62,[],[(0,.ref i0 0),(2,(sL Zd a2)),(8,(sL Zd a1)),(9,(vI (a1.length:Int))),(10,(vI 0))]⟩:Env)) (O':=(Zx ((((((O.upd j0_0 none).upd j0_1 none).upd j0_2 none).upd j0_3 none).upd i0 (some ⟨false,85,13,1,(Zj (.ref i900 0) (.row (n+4) a0.left.Words.length) (.row (n+5) a0.left.Kids.length) (.row (n+6) a0.left.Ops.length) (.row (n+7) a0.come.length) a0)⟩)).upd i900 (some ⟨false,43,2,1,[(vB a900.apart),(vB a900.clash)]⟩)) n [none,none,none,none,some (oR 48 4 Zd a0.left.Words),some (oR 50 12 Zc a0.left.Kids),some (oR 41 14 Zf a0.left.Ops),some (oR 25 3 Za a0.come)])) (n':=(n+8)) ?_ ?_
 ·refine Fit2.trans (E':=(⟨62,[],[(0,.ref i0 0),(2,(sL Zd a2)),(8,(sL Zd a1)),(9,(vI (a1.length:Int))),(10,(vI 0))]⟩:Env)) (O':=(Zx ((((((O.upd j0_0 none).upd j0_1 none).upd j0_2 none).upd j0_3 none).upd i0 (some ⟨false,85,13,1,(Zj (.ref i900 0) (.row n a0.left.Words.length) (.row (n+1) a0.left.Kids.length) (.row (n+2) a0.left.Ops.length) (.row (n+3) a0.come.length) a0)⟩)).upd i900 (some ⟨false,43,2,1,[(vB a900.apart),(vB a900.clash)]⟩)) n [some (oR 48 4 Zd a0.left.Words),some (oR 50 12 Zc a0.left.Kids),some (oR 41 14 Zf a0.left.Ops),some (oR 25 3 Za a0.come)])) (n':=(n+4)) (Fit2.of (Xp hU rfl rfl ?_) (by omega)) ?_
  ·simp only [push_cast,seval,Ze,hi0,hk0,hi900,hk900,ra0_900,rb0_900,rc0_900,hN0,hN]
  refine Jb (k:=4) (k':=8) hU [4,5,6,7] [0,0,0,0,0,1,2,3] rfl rfl rfl rfl ⟨rfl,rfl⟩ ?_
  simp only [push_cast,seval,Ze,hi0,hk0,hi900,hk900,ra0_900,rb0_900,rc0_900,hN0,hN]
 obtain ⟨z30,hz30,h⟩:=bC h
 refine Y6 (E':=⟨62,[],[]⟩) (O':=(Zx ((((((O.upd j0_0 none).upd j0_1 none).upd j0_2 none).upd j0_3 none).upd i0 (some ⟨false,85,13,1,(Zj (.ref i900 0) (.row (n+4) z30.1.length) (.row (n+5) z30.2.1.length) (.row (n+6) z30.2.2.1.length) (.row (n+7) z30.2.2.2.1.length) z30.2.2.2.2.1)⟩)).upd i900 (some ⟨false,43,2,1,[(vB z30.2.2.2.2.2.1),(vB z30.2.2.2.2.2.2)]⟩)) n [none,none,none,none,some (oR 48 4 Zd z30.1),some (oR 50 12 Zc z30.2.1),some (oR 41 14 Zf z30.2.2.1),some (oR 25 3 Za z30.2.2.2.1)])) (n0:=(n+8)) ?_ ?_
 ·refine Xo hz30 (fun s0_=>⟨62,[],[(0,.ref i0 0),(2,(sL Zd s0_.1)),(8,(sL Zd a1)),(9,(vI (a1.length:Int))),(10,(vI s0_.2.1))]⟩) (fun s0_=>(Zx ((((((O.upd j0_0 none).upd j0_1 none).upd j0_2 none).upd j0_3 none).upd i0 (some ⟨false,85,13,1,(Zj (.ref i900 0) (.row (n+4) s0_.2.2.1.left.Words.length) (.row (n+5) s0_.2.2.1.left.Kids.length) (.row (n+6) s0_.2.2.1.left.Ops.length) (.row (n+7) s0_.2.2.1.come.length) s0_.2.2.1)⟩)).upd i900 (some ⟨false,43,2,1,[(vB s0_.2.2.2.1),(vB s0_.2.2.2.2)]⟩)) n [none,none,none,none,some (oR 48 4 Zd s0_.2.2.1.left.Words),some (oR 50 12 Zc s0_.2.2.1.left.Kids),some (oR 41 14 Zf s0_.2.2.1.left.Ops),some (oR 25 3 Za s0_.2.2.1.come)])) (fun z30=>JX 0 n (⟨62,[],[]⟩:Env) (Zx ((((((O.upd j0_0 none).upd j0_1 none).upd j0_2 none).upd j0_3 none).upd i0 (some ⟨false,85,13,1,(Zj (.ref i900 0) (.row (n+4) z30.1.length) (.row (n+5) z30.2.1.length) (.row (n+6) z30.2.2.1.length) (.row (n+7) z30.2.2.2.1.length) z30.2.2.2.2.1)⟩)).upd i900 (some ⟨false,43,2,1,[(vB z30.2.2.2.2.2.1),(vB z30.2.2.2.2.2.2)]⟩)) n [none,none,none,none,some (oR 48 4 Zd z30.1),some (oR 50 12 Zc z30.2.1),some (oR 41 14 Zf z30.2.2.1),some (oR 25 3 Za z30.2.2.2.1)]) (n+8)) ?_
  intro s0_ x0_ hs0_
  unfold Q4 at hs0_
  try dsimp only
  refine Zce [0,2,8,9,10,11] (Ya Z0 [] ?_)
  simp only [push_cast,seval,Ze,hi0,hk0,hi900,hk900,ra0_900,rb0_900,rc0_900,hN0,hN]
  refine Zq ?_
  refine Z5 (t:=(decide (s0_.2.1 < (a1.length:Int)))) rfl (fun c29 => ?_) (fun c29 => ?_)
  ·replace hs0_:=Z4 c29 hs0_
   refine Gk [0,2,8,9,10] [false,false,false,false,true,true,true,true] ?_
   obtain ⟨z1,hz1,hs0_⟩:=bC hs0_
   refine Xa (E':=⟨62,[],[(0,.ref i0 0),(2,(sL Zd z1.1)),(8,(sL Zd a1)),(9,(vI (a1.length:Int))),(10,(vI s0_.2.1))]⟩) (O':=(Zx ((((((O.upd j0_0 none).upd j0_1 none).upd j0_2 none).upd j0_3 none).upd i0 (some ⟨false,85,13,1,(Zj (.ref i900 0) (.row (n+13) z1.2.1.length) (.row (n+14) z1.2.2.1.length) (.row (n+15) z1.2.2.2.1.length) (.row (n+16) z1.2.2.2.2.1.length) z1.2.2.2.2.2.1)⟩)).upd i900 (some ⟨false,43,2,1,[(vB z1.2.2.2.2.2.2.1),(vB z1.2.2.2.2.2.2.2)]⟩)) n [none,none,none,none,none,none,none,none,none,none,none,none,none,some (oR 48 4 Zd z1.2.1),some (oR 50 12 Zc z1.2.2.1),some (oR 41 14 Zf z1.2.2.2.1),some (oR 25 3 Za z1.2.2.2.2.1),none])) (n0:=(n+18)) ?_ ?_
   ·refine Yy ?_
    refine Zq ?_
    obtain ⟨x3,hx3,ax3,bx3,cx3,hz1⟩:=bE (f:=Zd) Zlm (fun _=>rfl) (by decide) hz1
    refine Yd2 ax3 bx3 cx3 hi0 hk0 hi900 hk900 ra0_900 rb0_900 rc0_900 ?_
    refine zDs [0,2,7,8,9,10] [false,false,false,false,true,true,true,true,true] ?_
    refine zD [0,2,7,8,9,10] [false,false,false,false,true,true,true,true,true] ?_
    obtain ⟨z14,hz14,hz1⟩:=bC hz1
    refine Y6 (E':=⟨62,[],[(0,.ref i0 0),(2,(sL Zd z14)),(7,.ref (n+8) 0),(8,(sL Zd a1)),(9,(vI (a1.length:Int))),(10,(vI s0_.2.1))]⟩) (O':=(Zx ((((((O.upd j0_0 none).upd j0_1 none).upd j0_2 none).upd j0_3 none).upd i0 (some ⟨false,85,13,1,(Zj (.ref i900 0) (.row (n+4) s0_.2.2.1.left.Words.length) (.row (n+5) s0_.2.2.1.left.Kids.length) (.row (n+6) s0_.2.2.1.left.Ops.length) (.row (n+7) s0_.2.2.1.come.length) s0_.2.2.1)⟩)).upd i900 (some ⟨false,43,2,1,[(vB s0_.2.2.2.1),(vB s0_.2.2.2.2)]⟩)) n [none,none,none,none,some (oR 48 4 Zd s0_.2.2.1.left.Words),some (oR 50 12 Zc s0_.2.2.1.left.Kids),some (oR 41 14 Zf s0_.2.2.1.left.Ops),some (oR 25 3 Za s0_.2.2.1.come),some ⟨false,48,4,1,(Xb x3)⟩])) (n0:=(n+9)) ?_ ?_
    ·refine Xo hz14 (fun s1_=>⟨62,[],[(0,.ref i0 0),(2,(sL Zd s1_)),(7,.ref (n+8) 0),(8,(sL Zd a1)),(9,(vI (a1.length:Int))),(10,(vI s0_.2.1))]⟩) (fun s1_=>(Zx ((((((O.upd j0_0 none).upd j0_1 none).upd j0_2 none).upd j0_3 none).upd i0 (some ⟨false,85,13,1,(Zj (.ref i900 0) (.row (n+4) s0_.2.2.1.left.Words.length) (.row (n+5) s0_.2.2.1.left.Kids.length) (.row (n+6) s0_.2.2.1.left.Ops.length) (.row (n+7) s0_.2.2.1.come.length) s0_.2.2.1)⟩)).upd i900 (some ⟨false,43,2,1,[(vB s0_.2.2.2.1),(vB s0_.2.2.2.2)]⟩)) n [none,none,none,none,some (oR 48 4 Zd s0_.2.2.1.left.Words),some (oR 50 12 Zc s0_.2.2.1.left.Kids),some (oR 41 14 Zf s0_.2.2.1.left.Ops),some (oR 25 3 Za s0_.2.2.1.come),some ⟨false,48,4,1,(Xb x3)⟩])) (fun z14=>JX 2 n (⟨62,[],[(0,.ref i0 0),(2,(sL Zd z14)),(7,.ref (n+8) 0),(8,(sL Zd a1)),(9,(vI (a1.length:Int))),(10,(vI s0_.2.1))]⟩:Env) (Zx ((((((O.upd j0_0 none).upd j0_1 none).upd j0_2 none).upd j0_3 none).upd i0 (some ⟨false,85,13,1,(Zj (.ref i900 0) (.row (n+4) s0_.2.2.1.left.Words.length) (.row (n+5) s0_.2.2.1.left.Kids.length) (.row (n+6) s0_.2.2.1.left.Ops.length) (.row (n+7) s0_.2.2.1.come.length) s0_.2.2.1)⟩)).upd i900 (some ⟨false,43,2,1,[(vB s0_.2.2.2.1),(vB s0_.2.2.2.2)]⟩)) n [none,none,none,none,some (oR 48 4 Zd s0_.2.2.1.left.Words),some (oR 50 12 Zc s0_.2.2.1.left.Kids),some (oR 41 14 Zf s0_.2.2.1.left.Ops),some (oR 25 3 Za s0_.2.2.1.come),some ⟨false,48,4,1,(Xb x3)⟩]) (n+9)) ?_
     intro s1_ x1_ hs1_
     unfold Q5 at hs1_
     try dsimp only
     refine Zq ?_
     obtain ⟨z6,hz6,hs1_⟩:=bC hs1_
     refine Xa (E':=⟨62,[],[(0,.ref i0 0),(2,(sL Zd s1_)),(7,.ref (n+8) 0),(8,(sL Zd a1)),(9,(vI (a1.length:Int))),(10,(vI s0_.2.1)),(25,(vB z6))]⟩) (O':=(Zx ((((((O.upd j0_0 none).upd j0_1 none).upd j0_2 none).upd j0_3 none).upd i0 (some ⟨false,85,13,1,(Zj (.ref i900 0) (.row (n+4) s0_.2.2.1.left.Words.length) (.row (n+5) s0_.2.2.1.left.Kids.length) (.row (n+6) s0_.2.2.1.left.Ops.length) (.row (n+7) s0_.2.2.1.come.length) s0_.2.2.1)⟩)).upd i900 (some ⟨false,43,2,1,[(vB s0_.2.2.2.1),(vB s0_.2.2.2.2)]⟩)) n [none,none,none,none,some (oR 48 4 Zd s0_.2.2.1.left.Words),some (oR 50 12 Zc s0_.2.2.1.left.Kids),some (oR 41 14 Zf s0_.2.2.1.left.Ops),some (oR 25 3 Za s0_.2.2.1.come),some ⟨false,48,4,1,(Xb x3)⟩])) (n0:=(n+9)) ?_ ?_
     ·rcases Bool.eq_false_or_eq_true (decide (0 < (s1_.length:Int))) with c11 | c11
      ·replace hz6:=Z4 c11 hz6
       obtain ⟨x9,hx9,ax9,bx9,cx9,hz6⟩:=bE (f:=Zd) Zlm (fun _=>rfl) (by decide) hz6
       have g10:=Qc (f:=Zd) (sz:=4) Zfa (fun _=>rfl) (by decide) (by decide) hx9
       refine Xw Z0 (by kernel_rfl) (Z5n []) (by kernel_rfl) ?_
       refine Ybk c11 ax9 bx9 cx9 g10 hi0 hk0 hi900 hk900 ra0_900 rb0_900 rc0_900 ?_
       obtain rfl:=sI hz6
       refine And.intro rfl (Fit2.of (Xp hU rfl rfl ?_) (by omega))
       exact Z8r c11 ax9 bx9 cx9 g10 hi0 hk0 hi900 hk900 ra0_900 rb0_900 rc0_900
      replace hz6:=Z3 c11 hz6
      refine Xw Z0 (by kernel_rfl) (Z5m []) (by kernel_rfl) ?_
      simp only [push_cast,seval,Ze,c11,hi0,hk0,hi900,hk900,ra0_900,rb0_900,rc0_900,hN0,hN]
      obtain rfl:=sI hz6
      refine And.intro rfl (Fit2.of (Xp hU rfl rfl ?_) (by omega))
      simp only [push_cast,seval,Ze,c11,hi0,hk0,hi900,hk900,ra0_900,rb0_900,rc0_900,hN0,hN]
     refine Z5 (t:=z6) rfl (fun c13 => ?_) (fun c13 => ?_)
     ·replace hs1_:=Z4 c13 hs1_
      refine Gk [0,2,7,8,9,10] [false,false,false,false,true,true,true,true,true] ?_
      refine Yy ?_
      obtain ⟨l12,al12,bl12,cl12,gl12,hs1_⟩:=bS (lo:=(some (.i64,1))) (hi:=none) (f:=Zd) rfl rfl Zou Zlm (fun _=>rfl) hs1_
      refine Ya Z0 [] ?_
      simp only [push_cast,seval,Ze,al12,bl12,cl12,gl12,hi0,hk0,hi900,hk900,ra0_900,rb0_900,rc0_900,hN0,hN]
      obtain rfl:=sI hs1_
      refine And.intro rfl (Fit2.of (Xp hU rfl rfl ?_) (by omega))
      simp only [push_cast,seval,Ze,al12,bl12,cl12,gl12,hi0,hk0,hi900,hk900,ra0_900,rb0_900,rc0_900,hN0,hN]
     replace hs1_:=Z3 c13 hs1_
     refine zXt ?_
     obtain rfl:=sI hs1_
     refine And.intro (fun h=>by cases h) (And.intro rfl (Fit2.of (Xp hU rfl rfl ?_) (by omega)))
     simp only [push_cast,seval,Ze,hi0,hk0,hi900,hk900,ra0_900,rb0_900,rc0_900,hN0,hN]
    try simp only [Xh,Ys,↓reduceIte,Nat.reduceEqDiff]
    refine zD [0,2,7,8,9,10] [false,false,false,false,true,true,true,true,true] ?_
    obtain ⟨z15,hz15,hz1⟩:=bC hz1
    refine Xa (E':=⟨62,[],[(0,.ref i0 0),(2,(sL Zd z14)),(7,.ref (n+8) 0),(8,(sL Zd a1)),(9,(vI (a1.length:Int))),(10,(vI s0_.2.1))]⟩) (O':=(Zx ((((((O.upd j0_0 none).upd j0_1 none).upd j0_2 none).upd j0_3 none).upd i0 (some ⟨false,85,13,1,(Zj (.ref i900 0) (.row (n+13) z15.2.2.2.2.1.left.Words.length) (.row (n+14) z15.2.2.2.2.1.left.Kids.length) (.row (n+15) z15.2.2.2.2.1.left.Ops.length) (.row (n+16) z15.2.2.2.2.1.come.length) z15.2.2.2.2.1)⟩)).upd i900 (some ⟨false,43,2,1,[(vB z15.2.2.2.2.2.1),(vB z15.2.2.2.2.2.2)]⟩)) n [none,none,none,none,none,none,none,none,some ⟨false,48,4,1,[(vI z15.1),.val (.int .u8 z15.2.1),.val (.int .u64 z15.2.2.1),.val (.int .u64 z15.2.2.2.1)]⟩,none,none,none,none,some (oR 48 4 Zd z15.2.2.2.2.1.left.Words),some (oR 50 12 Zc z15.2.2.2.2.1.left.Kids),some (oR 41 14 Zf z15.2.2.2.2.1.left.Ops),some (oR 25 3 Za z15.2.2.2.2.1.come)])) (n0:=(n+17)) ?_ ?_
    ·obtain ⟨z18,hz18,hz15⟩:=bC hz15
     refine Xa (E':=⟨62,[],[(0,.ref i0 0),(2,(sL Zd z14)),(7,.ref (n+8) 0),(8,(sL Zd a1)),(9,(vI (a1.length:Int))),(10,(vI s0_.2.1)),(39,(vB z18))]⟩) (O':=(Zx ((((((O.upd j0_0 none).upd j0_1 none).upd j0_2 none).upd j0_3 none).upd i0 (some ⟨false,85,13,1,(Zj (.ref i900 0) (.row (n+4) s0_.2.2.1.left.Words.length) (.row (n+5) s0_.2.2.1.left.Kids.length) (.row (n+6) s0_.2.2.1.left.Ops.length) (.row (n+7) s0_.2.2.1.come.length) s0_.2.2.1)⟩)).upd i900 (some ⟨false,43,2,1,[(vB s0_.2.2.2.1),(vB s0_.2.2.2.2)]⟩)) n [none,none,none,none,some (oR 48 4 Zd s0_.2.2.1.left.Words),some (oR 50 12 Zc s0_.2.2.1.left.Kids),some (oR 41 14 Zf s0_.2.2.1.left.Ops),some (oR 25 3 Za s0_.2.2.1.come),some ⟨false,48,4,1,(Xb x3)⟩])) (n0:=(n+9)) ?_ ?_
     ·rcases Bool.eq_false_or_eq_true (decide (0 < (z14.length:Int))) with c23 | c23
      ·replace hz18:=Z4 c23 hz18
       obtain ⟨x21,hx21,ax21,bx21,cx21,hz18⟩:=bE (f:=Zd) Zlm (fun _=>rfl) (by decide) hz18
       have g22:=Qc (f:=Zd) (sz:=4) Zfa (fun _=>rfl) (by decide) (by decide) hx21
       refine Xw Z0 (by kernel_rfl) (Z5n []) (by kernel_rfl) ?_
       refine Ybk c23 ax21 bx21 cx21 g22 hi0 hk0 hi900 hk900 ra0_900 rb0_900 rc0_900 ?_
       obtain rfl:=sI hz18
       refine And.intro rfl (Fit2.of (Xp hU rfl rfl ?_) (by omega))
       exact Z8r c23 ax21 bx21 cx21 g22 hi0 hk0 hi900 hk900 ra0_900 rb0_900 rc0_900
      replace hz18:=Z3 c23 hz18
      refine Xw Z0 (by kernel_rfl) (Z5m []) (by kernel_rfl) ?_
      simp only [push_cast,seval,Ze,c23,hi0,hk0,hi900,hk900,ra0_900,rb0_900,rc0_900,hN0,hN]
      obtain rfl:=sI hz18
      refine And.intro rfl (Fit2.of (Xp hU rfl rfl ?_) (by omega))
      simp only [push_cast,seval,Ze,c23,hi0,hk0,hi900,hk900,ra0_900,rb0_900,rc0_900,hN0,hN]
     refine Z5 (t:=z18) rfl (fun c26 => ?_) (fun c26 => ?_)
     ·replace hz15:=Z4 c26 hz15
      obtain ⟨x24,hx24,ax24,bx24,cx24,hz15⟩:=bE (f:=Zd) Zlm (fun _=>rfl) (by decide) hz15
      obtain ⟨y25,hy25,hz15⟩:=bC hz15
      refine Gv Z0 (by kernel_rfl) [false,false,false,false,false,true,true] [] (by kernel_rfl) ?_
      refine Ydw ax24 bx24 cx24 hi0 hk0 hi900 hk900 ra0_900 rb0_900 rc0_900 ?_
      refine (Zo1 (i0:=i0) (i900:=i900) (j0_0:=(n+4)) (j0_1:=(n+5)) (j0_2:=(n+6)) (j0_3:=(n+7)) (by omega) (by omega) (by omega) (by omega) (by omega) (by omega) (by omega) (by omega) (by omega) (by omega) (by omega) (by omega) (by omega) (by omega) (by omega) (by omega) (by omega) (by omega) (by omega) (by omega) (by omega) (by simp only [push_cast,seval,Ze,Zt,ax24,bx24,cx24,hi0,hk0,hi900,hk900,ra0_900,rb0_900,rc0_900,hN0,hN] <;> rfl) (by simp only [push_cast,seval,Ze,Zt,ax24,bx24,cx24,hi0,hk0,hi900,hk900,ra0_900,rb0_900,rc0_900,hN0,hN] <;> rfl) (by simp only [push_cast,seval,Ze,Zt,ax24,bx24,cx24,hi0,hk0,hi900,hk900,ra0_900,rb0_900,rc0_900,hN0,hN] <;> rfl) (by simp only [push_cast,seval,Ze,Zt,ax24,bx24,cx24,hi0,hk0,hi900,hk900,ra0_900,rb0_900,rc0_900,hN0,hN] <;> rfl) (by simp only [push_cast,seval,Ze,Zt,ax24,bx24,cx24,hi0,hk0,hi900,hk900,ra0_900,rb0_900,rc0_900,hN0,hN] <;> rfl) (by simp only [push_cast,seval,Ze,Zt,ax24,bx24,cx24,hi0,hk0,hi900,hk900,ra0_900,rb0_900,rc0_900,hN0,hN] <;> rfl) hy25).then ?_
      refine Ydw ax24 bx24 cx24 hi0 hk0 hi900 hk900 ra0_900 rb0_900 rc0_900 ?_
      obtain rfl:=sI hz15
      refine And.intro rfl ?_
      refine Fit2.trans (E':=(⟨62,[],[(0,.ref i0 0),(2,(sL Zd z14)),(7,.ref (n+8) 0),(8,(sL Zd a1)),(9,(vI (a1.length:Int))),(10,(vI s0_.2.1))]⟩:Env)) (O':=(Zx ((((((O.upd j0_0 none).upd j0_1 none).upd j0_2 none).upd j0_3 none).upd i0 (some ⟨false,85,13,1,(Zj (.ref i900 0) (.row (n+9) y25.2.1.left.Words.length) (.row (n+10) y25.2.1.left.Kids.length) (.row (n+11) y25.2.1.left.Ops.length) (.row (n+12) y25.2.1.come.length) y25.2.1)⟩)).upd i900 (some ⟨false,43,2,1,[(vB y25.2.2.apart),(vB y25.2.2.clash)]⟩)) n [none,none,none,none,none,none,none,none,some ⟨false,48,4,1,(Xb y25.1)⟩,some (oR 48 4 Zd y25.2.1.left.Words),some (oR 50 12 Zc y25.2.1.left.Kids),some (oR 41 14 Zf y25.2.1.left.Ops),some (oR 25 3 Za y25.2.1.come)])) (n':=(n+13)) (Fit2.of (Xp hU rfl rfl ?_) (by omega)) ?_
      ·exact Ydy ax24 bx24 cx24 hi0 hk0 hi900 hk900 ra0_900 rb0_900 rc0_900
      refine Jb (k:=13) (k':=17) hU [12,12,12,12,12,12,12,12,8,13,14,15,16] [0,0,0,0,0,0,0,0,8,0,0,0,0,9,10,11,12] rfl rfl rfl rfl ⟨rfl,rfl⟩ ?_
      simp only [push_cast,seval,Ze,hi0,hk0,hi900,hk900,ra0_900,rb0_900,rc0_900,hN0,hN]
     replace hz15:=Z3 c26 hz15
     refine zK ?_
     obtain rfl:=sI hz15
     refine And.intro rfl ?_
     refine Fit2.trans (E':=(⟨62,[],[(0,.ref i0 0),(2,(sL Zd z14)),(7,.ref (n+8) 0),(8,(sL Zd a1)),(9,(vI (a1.length:Int))),(10,(vI s0_.2.1))]⟩:Env)) (O':=(Zx ((((((O.upd j0_0 none).upd j0_1 none).upd j0_2 none).upd j0_3 none).upd i0 (some ⟨false,85,13,1,(Zj (.ref i900 0) (.row (n+4) s0_.2.2.1.left.Words.length) (.row (n+5) s0_.2.2.1.left.Kids.length) (.row (n+6) s0_.2.2.1.left.Ops.length) (.row (n+7) s0_.2.2.1.come.length) s0_.2.2.1)⟩)).upd i900 (some ⟨false,43,2,1,[(vB s0_.2.2.2.1),(vB s0_.2.2.2.2)]⟩)) n [none,none,none,none,some (oR 48 4 Zd s0_.2.2.1.left.Words),some (oR 50 12 Zc s0_.2.2.1.left.Kids),some (oR 41 14 Zf s0_.2.2.1.left.Ops),some (oR 25 3 Za s0_.2.2.1.come),some ⟨false,48,4,1,(Xb x3)⟩])) (n':=(n+9)) (Fit2.of (Xp hU rfl rfl ?_) (by omega)) ?_
     ·simp only [push_cast,seval,Ze,hi0,hk0,hi900,hk900,ra0_900,rb0_900,rc0_900,hN0,hN]
     refine Jb (k:=9) (k':=17) hU [12,12,12,12,13,14,15,16,8] [0,0,0,0,0,0,0,0,8,0,0,0,0,4,5,6,7] rfl rfl rfl rfl ⟨rfl,rfl⟩ ?_
     simp only [push_cast,seval,Ze,hi0,hk0,hi900,hk900,ra0_900,rb0_900,rc0_900,hN0,hN]
    refine Zce [0,2,7,8,9,10,48] (Ya Z0 [] ?_)
    simp only [push_cast,seval,Ze,hi0,hk0,hi900,hk900,ra0_900,rb0_900,rc0_900,hN0,hN]
    refine Z5 (t:=(z15.2.1 != 0)) rfl (fun c28 => ?_) (fun c28 => ?_)
    ·replace hz1:=Z4 c28 hz1
     obtain ⟨l27,pl27,ql27,el27,hz1⟩:=bA (k:=1) rfl hz1
     refine Zcv Z0 (by kernel_rfl) [.plain,.plain,.low,.low,.low,.low,.plain,.pass,.pass,.plain,.plain,.plain,.bar] (fun i=>i < (n+17)∧¬ i=n+13) [0,1,2,3,4,5,6,7,8,9,10,11,12] [.plain,.plain,.low,.low,.low,.low,.plain,.pass,.pass,.plain,.plain,.plain,.bar] [] (by kernel_rfl) rfl ?_
     simp only [push_cast,seval,Ze,pl27,ql27,el27,hi0,hk0,hi900,hk900,ra0_900,rb0_900,rc0_900,hN0,hN]
     refine zO ?_
     obtain rfl:=sI hz1
     refine And.intro rfl (Fit2.of (Xp hU rfl rfl ?_) (by omega))
     simp only [push_cast,seval,Ze,pl27,ql27,el27,hi0,hk0,hi900,hk900,ra0_900,rb0_900,rc0_900,hN0,hN]
    replace hz1:=Z3 c28 hz1
    refine zK ?_
    obtain rfl:=sI hz1
    refine And.intro rfl (Fit2.of (Xp hU rfl rfl ?_) (by omega))
    simp only [push_cast,seval,Ze,hi0,hk0,hi900,hk900,ra0_900,rb0_900,rc0_900,hN0,hN]
   refine Ya Z0 [] ?_
   simp only [push_cast,seval,Ze,hi0,hk0,hi900,hk900,ra0_900,rb0_900,rc0_900,hN0,hN]
   obtain rfl:=sI hs0_
   refine And.intro rfl ?_
   refine Fit2.trans (E':=(⟨62,[],[(0,.ref i0 0),(2,(sL Zd z1.1)),(8,(sL Zd a1)),(9,(vI (a1.length:Int))),(10,(vI (IntKind.i64.wrap (s0_.2.1+1))))]⟩:Env)) (O':=(Zx ((((((O.upd j0_0 none).upd j0_1 none).upd j0_2 none).upd j0_3 none).upd i0 (some ⟨false,85,13,1,[.ref i900 0,(vI (((⟨(none:Option Zh),(⟨z1.2.2.2.2.2.1.left.Kind,(⟨z1.2.2.2.2.2.1.left.Old.Kind,z1.2.2.2.2.2.1.left.Old.Words,z1.2.2.2.2.2.1.left.Old.Kids⟩:Zb),(⟨z1.2.2.2.2.2.1.left.New.Kind,z1.2.2.2.2.2.1.left.New.Words,z1.2.2.2.2.2.1.left.New.Kids⟩:Zb),z1.2.1,z1.2.2.1,z1.2.2.2.2.2.1.left.List_,z1.2.2.2.1⟩:Zg),z1.2.2.2.2.1⟩:Zi).left).Kind)),(vI ((((⟨(none:Option Zh),(⟨z1.2.2.2.2.2.1.left.Kind,(⟨z1.2.2.2.2.2.1.left.Old.Kind,z1.2.2.2.2.2.1.left.Old.Words,z1.2.2.2.2.2.1.left.Old.Kids⟩:Zb),(⟨z1.2.2.2.2.2.1.left.New.Kind,z1.2.2.2.2.2.1.left.New.Words,z1.2.2.2.2.2.1.left.New.Kids⟩:Zb),z1.2.1,z1.2.2.1,z1.2.2.2.2.2.1.left.List_,z1.2.2.2.1⟩:Zg),z1.2.2.2.2.1⟩:Zi).left).Old).Kind)),(sL (eI .u64) ((((⟨(none:Option Zh),(⟨z1.2.2.2.2.2.1.left.Kind,(⟨z1.2.2.2.2.2.1.left.Old.Kind,z1.2.2.2.2.2.1.left.Old.Words,z1.2.2.2.2.2.1.left.Old.Kids⟩:Zb),(⟨z1.2.2.2.2.2.1.left.New.Kind,z1.2.2.2.2.2.1.left.New.Words,z1.2.2.2.2.2.1.left.New.Kids⟩:Zb),z1.2.1,z1.2.2.1,z1.2.2.2.2.2.1.left.List_,z1.2.2.2.1⟩:Zg),z1.2.2.2.2.1⟩:Zi).left).Old).Words)),(sL Za ((((⟨(none:Option Zh),(⟨z1.2.2.2.2.2.1.left.Kind,(⟨z1.2.2.2.2.2.1.left.Old.Kind,z1.2.2.2.2.2.1.left.Old.Words,z1.2.2.2.2.2.1.left.Old.Kids⟩:Zb),(⟨z1.2.2.2.2.2.1.left.New.Kind,z1.2.2.2.2.2.1.left.New.Words,z1.2.2.2.2.2.1.left.New.Kids⟩:Zb),z1.2.1,z1.2.2.1,z1.2.2.2.2.2.1.left.List_,z1.2.2.2.1⟩:Zg),z1.2.2.2.2.1⟩:Zi).left).Old).Kids)),(vI ((((⟨(none:Option Zh),(⟨z1.2.2.2.2.2.1.left.Kind,(⟨z1.2.2.2.2.2.1.left.Old.Kind,z1.2.2.2.2.2.1.left.Old.Words,z1.2.2.2.2.2.1.left.Old.Kids⟩:Zb),(⟨z1.2.2.2.2.2.1.left.New.Kind,z1.2.2.2.2.2.1.left.New.Words,z1.2.2.2.2.2.1.left.New.Kids⟩:Zb),z1.2.1,z1.2.2.1,z1.2.2.2.2.2.1.left.List_,z1.2.2.2.1⟩:Zg),z1.2.2.2.2.1⟩:Zi).left).New).Kind)),(sL (eI .u64) ((((⟨(none:Option Zh),(⟨z1.2.2.2.2.2.1.left.Kind,(⟨z1.2.2.2.2.2.1.left.Old.Kind,z1.2.2.2.2.2.1.left.Old.Words,z1.2.2.2.2.2.1.left.Old.Kids⟩:Zb),(⟨z1.2.2.2.2.2.1.left.New.Kind,z1.2.2.2.2.2.1.left.New.Words,z1.2.2.2.2.2.1.left.New.Kids⟩:Zb),z1.2.1,z1.2.2.1,z1.2.2.2.2.2.1.left.List_,z1.2.2.2.1⟩:Zg),z1.2.2.2.2.1⟩:Zi).left).New).Words)),(sL Za ((((⟨(none:Option Zh),(⟨z1.2.2.2.2.2.1.left.Kind,(⟨z1.2.2.2.2.2.1.left.Old.Kind,z1.2.2.2.2.2.1.left.Old.Words,z1.2.2.2.2.2.1.left.Old.Kids⟩:Zb),(⟨z1.2.2.2.2.2.1.left.New.Kind,z1.2.2.2.2.2.1.left.New.Words,z1.2.2.2.2.2.1.left.New.Kids⟩:Zb),z1.2.1,z1.2.2.1,z1.2.2.2.2.2.1.left.List_,z1.2.2.2.1⟩:Zg),z1.2.2.2.2.1⟩:Zi).left).New).Kids)),.row (n+13) (((⟨(none:Option Zh),(⟨z1.2.2.2.2.2.1.left.Kind,(⟨z1.2.2.2.2.2.1.left.Old.Kind,z1.2.2.2.2.2.1.left.Old.Words,z1.2.2.2.2.2.1.left.Old.Kids⟩:Zb),(⟨z1.2.2.2.2.2.1.left.New.Kind,z1.2.2.2.2.2.1.left.New.Words,z1.2.2.2.2.2.1.left.New.Kids⟩:Zb),z1.2.1,z1.2.2.1,z1.2.2.2.2.2.1.left.List_,z1.2.2.2.1⟩:Zg),z1.2.2.2.2.1⟩:Zi).left).Words).length,.row (n+14) (((⟨(none:Option Zh),(⟨z1.2.2.2.2.2.1.left.Kind,(⟨z1.2.2.2.2.2.1.left.Old.Kind,z1.2.2.2.2.2.1.left.Old.Words,z1.2.2.2.2.2.1.left.Old.Kids⟩:Zb),(⟨z1.2.2.2.2.2.1.left.New.Kind,z1.2.2.2.2.2.1.left.New.Words,z1.2.2.2.2.2.1.left.New.Kids⟩:Zb),z1.2.1,z1.2.2.1,z1.2.2.2.2.2.1.left.List_,z1.2.2.2.1⟩:Zg),z1.2.2.2.2.1⟩:Zi).left).Kids).length,(vI (((⟨(none:Option Zh),(⟨z1.2.2.2.2.2.1.left.Kind,(⟨z1.2.2.2.2.2.1.left.Old.Kind,z1.2.2.2.2.2.1.left.Old.Words,z1.2.2.2.2.2.1.left.Old.Kids⟩:Zb),(⟨z1.2.2.2.2.2.1.left.New.Kind,z1.2.2.2.2.2.1.left.New.Words,z1.2.2.2.2.2.1.left.New.Kids⟩:Zb),z1.2.1,z1.2.2.1,z1.2.2.2.2.2.1.left.List_,z1.2.2.2.1⟩:Zg),z1.2.2.2.2.1⟩:Zi).left).List_)),.row (n+15) (((⟨(none:Option Zh),(⟨z1.2.2.2.2.2.1.left.Kind,(⟨z1.2.2.2.2.2.1.left.Old.Kind,z1.2.2.2.2.2.1.left.Old.Words,z1.2.2.2.2.2.1.left.Old.Kids⟩:Zb),(⟨z1.2.2.2.2.2.1.left.New.Kind,z1.2.2.2.2.2.1.left.New.Words,z1.2.2.2.2.2.1.left.New.Kids⟩:Zb),z1.2.1,z1.2.2.1,z1.2.2.2.2.2.1.left.List_,z1.2.2.2.1⟩:Zg),z1.2.2.2.2.1⟩:Zi).left).Ops).length,.row (n+16) ((⟨(none:Option Zh),(⟨z1.2.2.2.2.2.1.left.Kind,(⟨z1.2.2.2.2.2.1.left.Old.Kind,z1.2.2.2.2.2.1.left.Old.Words,z1.2.2.2.2.2.1.left.Old.Kids⟩:Zb),(⟨z1.2.2.2.2.2.1.left.New.Kind,z1.2.2.2.2.2.1.left.New.Words,z1.2.2.2.2.2.1.left.New.Kids⟩:Zb),z1.2.1,z1.2.2.1,z1.2.2.2.2.2.1.left.List_,z1.2.2.2.1⟩:Zg),z1.2.2.2.2.1⟩:Zi).come).length]⟩)).upd i900 (some ⟨false,43,2,1,[(vB z1.2.2.2.2.2.2.1),(vB z1.2.2.2.2.2.2.2)]⟩)) n [none,none,none,none,none,none,none,none,none,none,none,none,none,some (oR 48 4 Zd (((⟨(none:Option Zh),(⟨z1.2.2.2.2.2.1.left.Kind,(⟨z1.2.2.2.2.2.1.left.Old.Kind,z1.2.2.2.2.2.1.left.Old.Words,z1.2.2.2.2.2.1.left.Old.Kids⟩:Zb),(⟨z1.2.2.2.2.2.1.left.New.Kind,z1.2.2.2.2.2.1.left.New.Words,z1.2.2.2.2.2.1.left.New.Kids⟩:Zb),z1.2.1,z1.2.2.1,z1.2.2.2.2.2.1.left.List_,z1.2.2.2.1⟩:Zg),z1.2.2.2.2.1⟩:Zi).left).Words)),some (oR 50 12 Zc (((⟨(none:Option Zh),(⟨z1.2.2.2.2.2.1.left.Kind,(⟨z1.2.2.2.2.2.1.left.Old.Kind,z1.2.2.2.2.2.1.left.Old.Words,z1.2.2.2.2.2.1.left.Old.Kids⟩:Zb),(⟨z1.2.2.2.2.2.1.left.New.Kind,z1.2.2.2.2.2.1.left.New.Words,z1.2.2.2.2.2.1.left.New.Kids⟩:Zb),z1.2.1,z1.2.2.1,z1.2.2.2.2.2.1.left.List_,z1.2.2.2.1⟩:Zg),z1.2.2.2.2.1⟩:Zi).left).Kids)),some (oR 41 14 Zf (((⟨(none:Option Zh),(⟨z1.2.2.2.2.2.1.left.Kind,(⟨z1.2.2.2.2.2.1.left.Old.Kind,z1.2.2.2.2.2.1.left.Old.Words,z1.2.2.2.2.2.1.left.Old.Kids⟩:Zb),(⟨z1.2.2.2.2.2.1.left.New.Kind,z1.2.2.2.2.2.1.left.New.Words,z1.2.2.2.2.2.1.left.New.Kids⟩:Zb),z1.2.1,z1.2.2.1,z1.2.2.2.2.2.1.left.List_,z1.2.2.2.1⟩:Zg),z1.2.2.2.2.1⟩:Zi).left).Ops)),some (oR 25 3 Za ((⟨(none:Option Zh),(⟨z1.2.2.2.2.2.1.left.Kind,(⟨z1.2.2.2.2.2.1.left.Old.Kind,z1.2.2.2.2.2.1.left.Old.Words,z1.2.2.2.2.2.1.left.Old.Kids⟩:Zb),(⟨z1.2.2.2.2.2.1.left.New.Kind,z1.2.2.2.2.2.1.left.New.Words,z1.2.2.2.2.2.1.left.New.Kids⟩:Zb),z1.2.1,z1.2.2.1,z1.2.2.2.2.2.1.left.List_,z1.2.2.2.1⟩:Zg),z1.2.2.2.2.1⟩:Zi).come)),none])) (n':=(n+18)) (Fit2.of (Xp hU rfl rfl ?_) (by omega)) ?_
   ·simp only [push_cast,seval,Ze,hi0,hk0,hi900,hk900,ra0_900,rb0_900,rc0_900,hN0,hN]
   refine Jb (k:=18) (k':=8) hU [3,3,3,3,3,3,3,3,3,3,3,3,3,4,5,6,7,3] [0,0,0,0,13,14,15,16] rfl rfl rfl rfl ⟨rfl,rfl⟩ ?_
   simp only [push_cast,seval,Ze,hi0,hk0,hi900,hk900,ra0_900,rb0_900,rc0_900,hN0,hN]
  replace hs0_:=Z3 c29 hs0_
  refine zXt ?_
  obtain rfl:=sI hs0_
  refine And.intro (fun h=>by cases h) (And.intro rfl (Fit2.of (Xp hU rfl rfl ?_) (by omega)))
  simp only [push_cast,seval,Ze,hi0,hk0,hi900,hk900,ra0_900,rb0_900,rc0_900,hN0,hN]
 try simp only [Xh,Ys,↓reduceIte,Nat.reduceEqDiff]
 obtain rfl:=sI h
 refine K5 (k:=4) (i:=i0) (j:=i900) (q1:=⟨false,85,13,1,(Zj (.ref i900 0) (.row n z30.1.length) (.row (n+1) z30.2.1.length) (.row (n+2) z30.2.2.1.length) (.row (n+3) z30.2.2.2.1.length) z30.2.2.2.2.1)⟩) (p1:=⟨false,43,2,1,[(vB z30.2.2.2.2.2.1),(vB z30.2.2.2.2.2.2)]⟩) (L3:=[some (oR 48 4 Zd z30.1),some (oR 50 12 Zc z30.2.1),some (oR 41 14 Zf z30.2.2.1),some (oR 25 3 Za z30.2.2.2.1),none]) (E2:=(⟨62,[],[]⟩:Env)) (n3:=(n+5)) (.inl rfl) hU rfl [] ?_ ?_
 ·refine Fit2.trans (E':=(⟨62,[],[]⟩:Env)) (O':=(Zx ((((((O.upd j0_0 none).upd j0_1 none).upd j0_2 none).upd j0_3 none).upd i0 (some ⟨false,85,13,1,(Zj (.ref i900 0) (.row (n+4) z30.1.length) (.row (n+5) z30.2.1.length) (.row (n+6) z30.2.2.1.length) (.row (n+7) z30.2.2.2.1.length) z30.2.2.2.2.1)⟩)).upd i900 (some ⟨false,43,2,1,[(vB z30.2.2.2.2.2.1),(vB z30.2.2.2.2.2.2)]⟩)) n [none,none,none,none,some (oR 48 4 Zd z30.1),some (oR 50 12 Zc z30.2.1),some (oR 41 14 Zf z30.2.2.1),some (oR 25 3 Za z30.2.2.2.1)])) (n':=(n+8)) (Fit2.of (Xp hU rfl rfl ?_) (by omega)) ?_
  ·simp only [push_cast,seval,Ze,hi0,hk0,hi900,hk900,ra0_900,rb0_900,rc0_900,hN0,hN]
  refine Jb (k:=8) (k':=5) hU [4,4,4,4,0,1,2,3] [4,5,6,7,0] rfl rfl rfl rfl ⟨rfl,rfl⟩ ?_
  simp only [push_cast,seval,Ze,hi0,hk0,hi900,hk900,ra0_900,rb0_900,rc0_900,hN0,hN]
 simp only [push_cast,seval,Ze,Try.results42,hi0,hk0,hi900,hk900,ra0_900,rb0_900,rc0_900,hN0,hN]
theorem Zi5 {a0:Zi} {a1:Int} {a2:Zg} {a900:Zh} {r:(Zi×Zh)} {O:Objs} {n:Nat} {i0 j0_0 j0_1 j0_2 j0_3 i900:Nat} (hi0:i0 < n) (Vp:j0_0 < n) (Vq:j0_1 < n) (Vr:j0_2 < n) (Zg0:j0_3 < n) (X8:i0≠j0_0) (X0:i0≠j0_1) (X1:i0≠j0_2) (Za4:i0≠j0_3) (Xx:j0_0≠j0_1) (Xy:j0_0≠j0_2) (G9:j0_0≠j0_3) (Xz:j0_1≠j0_2) (Zaa:j0_1≠j0_3) (Zab:j0_2≠j0_3) (hi900:i900 < n) (Xt:i900≠j0_0) (Xu:i900≠j0_1) (Xv:i900≠j0_2) (Qy:i900≠j0_3) (Yd:i0≠i900) (ho0:O i0=some ⟨false,85,13,1,(Zj (.ref i900 0) (.row j0_0 a0.left.Words.length) (.row j0_1 a0.left.Kids.length) (.row j0_2 a0.left.Ops.length) (.row j0_3 a0.come.length) a0)⟩) (Ge:O j0_0=some (oR 48 4 Zd a0.left.Words)) (Gf:O j0_1=some (oR 50 12 Zc a0.left.Kids)) (Gg:O j0_2=some (oR 41 14 Zf a0.left.Ops)) (Zip:O j0_3=some (oR 25 3 Za a0.come)) (ho900:O i900=some ⟨false,43,2,1,[(vB a900.apart),(vB a900.clash)]⟩) (h:U6 a0 a1 a2 a900=some r):GTo Try.prog 63 [.ref i0 0,(vI a1),.agg (Zk a2)] O n (.tup []) (Zx ((((((O.upd j0_0 none).upd j0_1 none).upd j0_2 none).upd j0_3 none).upd i0 (some ⟨false,85,13,1,(Zj (.ref i900 0) (.row n r.1.left.Words.length) (.row (n+1) r.1.left.Kids.length) (.row (n+2) r.1.left.Ops.length) (.row (n+3) r.1.come.length) r.1)⟩)).upd i900 (some ⟨false,43,2,1,[(vB r.2.apart),(vB r.2.clash)]⟩)) n [some (oR 48 4 Zd r.1.left.Words),some (oR 50 12 Zc r.1.left.Kids),some (oR 41 14 Zf r.1.left.Ops),some (oR 25 3 Za r.1.come)]) (n+4):=by
 unfold U6 at h
 refine Zc5 Z0 Try.call63 Try.func63 rfl (Nat.le_of_ble_eq_true rfl) (by omega) fun hU => ?_
 rw [show Zx O n []=Zx ((O.upd i0 (some ⟨false,85,13,1,(Zj (.ref i900 0) (.row j0_0 a0.left.Words.length) (.row j0_1 a0.left.Kids.length) (.row j0_2 a0.left.Ops.length) (.row j0_3 a0.come.length) a0)⟩)).upd i900 (some ⟨false,43,2,1,[(vB a900.apart),(vB a900.clash)]⟩)) n [] from by rw [X4 ho0,X4 ho900]]
 refine Yx (Yc (k:=8) (by rw [Zv _ hi0];simp only [Z8,Zn Yd] <;> rfl) (by rfl) (by rw [Zv _ Vp];simp only [Zn (Ne.symm X8),Zn (Ne.symm Xt)];exact Ge) X8 (by simp only [push_cast,Nat.reduceAdd,Zs _ _ Vp,Zs _ _ hi0,Zr (Ne.symm X8),Zr (Ne.symm Xt),Zr Yd] <;> rfl) (by omega)) ?_
 refine Yx (Yc (k:=9) (by rw [Zv _ hi0];simp only [Z8,Zn Yd] <;> rfl) (by rfl) (by rw [Zv _ Vq];simp only [Zn (Ne.symm X0),Zn (Ne.symm Xu),Zn (Ne.symm Xx)];exact Gf) X0 (by simp only [push_cast,Nat.reduceAdd,Zs _ _ Vq,Zs _ _ hi0,Zr (Ne.symm X0),Zr (Ne.symm Xu),Zr Yd] <;> rfl) (by omega)) ?_
 refine Yx (Yc (k:=11) (by rw [Zv _ hi0];simp only [Z8,Zn Yd] <;> rfl) (by rfl) (by rw [Zv _ Vr];simp only [Zn (Ne.symm X1),Zn (Ne.symm Xv),Zn (Ne.symm Xy),Zn (Ne.symm Xz)];exact Gg) X1 (by simp only [push_cast,Nat.reduceAdd,Zs _ _ Vr,Zs _ _ hi0,Zr (Ne.symm X1),Zr (Ne.symm Xv),Zr Yd] <;> rfl) (by omega)) ?_
 refine Yx (Yc (k:=12) (by rw [Zv _ hi0];simp only [Z8,Zn Yd] <;> rfl) (by rfl) (by rw [Zv _ Zg0];simp only [Zn (Ne.symm Za4),Zn (Ne.symm Qy),Zn (Ne.symm G9),Zn (Ne.symm Zaa),Zn (Ne.symm Zab)];exact Zip) Za4 (by simp only [push_cast,Nat.reduceAdd,Zs _ _ Zg0,Zs _ _ hi0,Zr (Ne.symm Za4),Zr (Ne.symm Qy),Zr Yd] <;> rfl) (by omega)) ?_
 have hU:=(Und.drop (Und.drop (Und.drop (Und.drop hU j0_0) j0_1) j0_2) j0_3)
 have ra0_900:=fun X=>@Zn X _ _ Yd
 have rb0_900:=fun X=>@Zn X _ _ (Ne.symm Yd)
 have rc0_900:=fun X b c=>@Zr X _ _ b c Yd
 have hk0:∀ k,i0 < n+k:=fun k=>by omega
 have hk900:∀ k,i900 < n+k:=fun k=>by omega
 have hN0:∀ o p,Objs.upd (Objs.upd ((((O.upd j0_0 none).upd j0_1 none).upd j0_2 none).upd j0_3 none) i0 o) i900 p n=none:=fun o p=>(Yn _ _ (by omega)).trans (Yw hU hi0 _ (Nat.le_refl _))
 have hN:∀ o p k,Objs.upd (Objs.upd ((((O.upd j0_0 none).upd j0_1 none).upd j0_2 none).upd j0_3 none) i0 o) i900 p (n+k)=none:=fun o p k=>(Yn _ _ (by omega)).trans (Yw hU hi0 _ (Nat.le_add_right _ _))
 show W _ _ _ _ ⟨24,[],[(0,.ref i0 0),(1,(vI a1)),(2,.agg (Zk a2))]⟩ (Zx ((((((O.upd j0_0 none).upd j0_1 none).upd j0_2 none).upd j0_3 none).upd i0 (some ⟨false,85,13,1,(Zj (.ref i900 0) (.row n a0.left.Words.length) (.row (n+1) a0.left.Kids.length) (.row (n+2) a0.left.Ops.length) (.row (n+3) a0.come.length) a0)⟩)).upd i900 (some ⟨false,43,2,1,[(vB a900.apart),(vB a900.clash)]⟩)) n [some (oR 48 4 Zd a0.left.Words),some (oR 50 12 Zc a0.left.Kids),some (oR 41 14 Zf a0.left.Ops),some (oR 25 3 Za a0.come)]) _
 refine Zce [0,1,5] (Ya Z0 [] ?_)
 simp only [push_cast,seval,Ze,hi0,hk0,hi900,hk900,ra0_900,rb0_900,rc0_900,hN0,hN]
 refine Zce [0,1,5,8] (Ya Z0 [] ?_)
 simp only [push_cast,seval,Ze,hi0,hk0,hi900,hk900,ra0_900,rb0_900,rc0_900,hN0,hN]
 refine Z5 (t:=(a2.Kind != 0)) rfl (fun c4 => ?_) (fun c4 => ?_)
 ·replace h:=Z4 c4 h
  obtain ⟨l1,pl1,ql1,el1,h⟩:=bA (k:=1) rfl h
  obtain ⟨x2,hx2,ax2,bx2,cx2,h⟩:=bE (f:=Zc) Zc9 (fun _=>rfl) (by decide) h
  have gu3:J5 (fl Zc a0.left.Kids++[.val (.int .i64 0),.val (.int .i64 0),.val (.int .i64 0),.val (.slice none 0 0),.val (.slice none 0 0),.val (.int .i64 0),.val (.slice none 0 0),.val (.slice none 0 0),.val (.slice none 0 0),.val (.slice none 0 0),.val (.int .i64 0),.val (.slice none 0 0)]) [.val (.int .i64 a1),.val (.int .i64 a2.Kind),.val (.int .i64 a2.Old.Kind),.sl a2.Old.Words.length (fl (eI .u64) a2.Old.Words),.sl a2.Old.Kids.length (fl Za a2.Old.Kids),.val (.int .i64 a2.New.Kind),.sl a2.New.Words.length (fl (eI .u64) a2.New.Words),.sl a2.New.Kids.length (fl Za a2.New.Kids),.sl a2.Words.length (fl Zd a2.Words),.sl a2.Kids.length (fl Zc a2.Kids),.val (.int .i64 a2.List_),.sl a2.Ops.length (fl Zf a2.Ops)] (List.length a0.left.Kids * 12)=some (fl Zc a0.left.Kids++[.val (.int .i64 a1),.val (.int .i64 a2.Kind),.val (.int .i64 a2.Old.Kind),.sl a2.Old.Words.length (fl (eI .u64) a2.Old.Words),.sl a2.Old.Kids.length (fl Za a2.Old.Kids),.val (.int .i64 a2.New.Kind),.sl a2.New.Words.length (fl (eI .u64) a2.New.Words),.sl a2.New.Kids.length (fl Za a2.New.Kids),.sl a2.Words.length (fl Zd a2.Words),.sl a2.Kids.length (fl Zc a2.Kids),.val (.int .i64 a2.List_),.sl a2.Ops.length (fl Zf a2.Ops)]):=Zbr (f:=Zc) (sz:=12) (fun _=>rfl) rfl rfl
  refine Zcv Z0 (by kernel_rfl) [.plain,.low,.low,.low,.low,.plain,.low,.plain,.low,.pass,.bar,.shp,.fill true,.shp,.shp,.shp,.fill false] (fun i=>i < (n+5)) [0,1,2,3,4,5,6,7,8,9,10,11,12,13,14,15,16] [.plain,.low,.low,.low,.low,.plain,.low,.plain,.low,.pass,.bar,.shp,.fill true,.shp,.shp,.shp,.fill false] [] (by kernel_rfl) rfl ?_
  simp only [push_cast,Nat.reduceAdd,Nat.reduceSub,Nat.reduceMul,Nat.reduceLeDiff,Nat.reduceLT,Nat.reduceEqDiff,↓reduceIte,reduceCtorEq,Int.reduceBEq,Int.reduceBNe,Nat.reduceBEq,Int.reduceLE,Int.reduceLT,Int.reduceEq,Int.reduceNe,Int.reduceNeg,Nat.reduceDiv,Nat.reduceMod,Nat.reducePow,Ze,pl1,ql1,el1,ax2,bx2,cx2,gu3,hi0,hk0,hi900,hk900,ra0_900,rb0_900,rc0_900,hN0,hN]
  refine zO ?_
  obtain rfl:=sI h
  refine K5 (k:=4) (i:=i0) (j:=i900) (q1:=⟨false,85,13,1,(Zj (.ref i900 0) (.row n a0.left.Words.length) (.row (n+1) (a0.left.Kids++[(⟨a1,a2⟩:Zm)]).length) (.row (n+2) a0.left.Ops.length) (.row (n+3) a0.come.length) a0)⟩) (p1:=⟨false,43,2,1,[(vB a900.apart),(vB a900.clash)]⟩) (L3:=[some (oR 48 4 Zd a0.left.Words),some (oR 50 12 Zc (a0.left.Kids++[(⟨a1,a2⟩:Zm)])),some (oR 41 14 Zf a0.left.Ops),some (oR 25 3 Za a0.come),none]) (E2:=(⟨24,[],[]⟩:Env)) (n3:=(n+5)) (.inl rfl) hU rfl [] ?_ ?_
  ·refine Fit2.trans (E':=(⟨24,[],[]⟩:Env)) (O':=(Zx ((((((O.upd j0_0 none).upd j0_1 none).upd j0_2 none).upd j0_3 none).upd i0 (some ⟨false,85,13,1,(Zj (.ref i900 0) (.row n a0.left.Words.length) (.row (n+1) (a0.left.Kids++[(⟨a1,a2⟩:Zm)]).length) (.row (n+2) a0.left.Ops.length) (.row (n+3) a0.come.length) a0)⟩)).upd i900 (some ⟨false,43,2,1,[(vB a900.apart),(vB a900.clash)]⟩)) n [some (oR 48 4 Zd a0.left.Words),some (oR 50 12 Zc (a0.left.Kids++[(⟨a1,a2⟩:Zm)])),some (oR 41 14 Zf a0.left.Ops),some (oR 25 3 Za a0.come),none,none])) (n':=(n+6)) (Fit2.of (Xp hU rfl rfl ?_) (by omega)) ?_
   ·simp only [push_cast,Nat.reduceAdd,Nat.reduceSub,Nat.reduceMul,Nat.reduceLeDiff,Nat.reduceLT,Nat.reduceEqDiff,↓reduceIte,reduceCtorEq,Int.reduceBEq,Int.reduceBNe,Nat.reduceBEq,Int.reduceLE,Int.reduceLT,Int.reduceEq,Int.reduceNe,Int.reduceNeg,Nat.reduceDiv,Nat.reduceMod,Nat.reducePow,Ze,pl1,ql1,el1,ax2,bx2,cx2,gu3,hi0,hk0,hi900,hk900,ra0_900,rb0_900,rc0_900,hN0,hN]
   refine Jb (k:=6) (k':=5) hU [0,1,2,3,4,4] [0,1,2,3,0] rfl rfl rfl rfl ⟨rfl,rfl⟩ ?_
   simp only [push_cast,seval,Ze,hi0,hk0,hi900,hk900,ra0_900,rb0_900,rc0_900,hN0,hN]
  simp only [push_cast,seval,Ze,Try.results63,hi0,hk0,hi900,hk900,ra0_900,rb0_900,rc0_900,hN0,hN]
 replace h:=Z3 c4 h
 refine zK ?_
 obtain rfl:=sI h
 refine K5 (k:=4) (i:=i0) (j:=i900) (q1:=⟨false,85,13,1,(Zj (.ref i900 0) (.row n a0.left.Words.length) (.row (n+1) a0.left.Kids.length) (.row (n+2) a0.left.Ops.length) (.row (n+3) a0.come.length) a0)⟩) (p1:=⟨false,43,2,1,[(vB a900.apart),(vB a900.clash)]⟩) (L3:=[some (oR 48 4 Zd a0.left.Words),some (oR 50 12 Zc a0.left.Kids),some (oR 41 14 Zf a0.left.Ops),some (oR 25 3 Za a0.come),none]) (E2:=(⟨24,[],[]⟩:Env)) (n3:=(n+5)) (.inl rfl) hU rfl [] ?_ ?_
 ·refine Fit2.trans (E':=(⟨24,[],[]⟩:Env)) (O':=(Zx ((((((O.upd j0_0 none).upd j0_1 none).upd j0_2 none).upd j0_3 none).upd i0 (some ⟨false,85,13,1,(Zj (.ref i900 0) (.row n a0.left.Words.length) (.row (n+1) a0.left.Kids.length) (.row (n+2) a0.left.Ops.length) (.row (n+3) a0.come.length) a0)⟩)).upd i900 (some ⟨false,43,2,1,[(vB a900.apart),(vB a900.clash)]⟩)) n [some (oR 48 4 Zd a0.left.Words),some (oR 50 12 Zc a0.left.Kids),some (oR 41 14 Zf a0.left.Ops),some (oR 25 3 Za a0.come),none])) (n':=(n+5)) (Fit2.of (Xp hU rfl rfl ?_) (by omega)) ?_
  ·simp only [push_cast,seval,Ze,hi0,hk0,hi900,hk900,ra0_900,rb0_900,rc0_900,hN0,hN]
  refine Jb (k:=5) (k':=5) hU [0,1,2,3,4] [0,1,2,3,0] rfl rfl rfl rfl ⟨rfl,rfl⟩ ?_
  simp only [push_cast,seval,Ze,hi0,hk0,hi900,hk900,ra0_900,rb0_900,rc0_900,hN0,hN]
 simp only [push_cast,seval,Ze,Try.results63,hi0,hk0,hi900,hk900,ra0_900,rb0_900,rc0_900,hN0,hN]
theorem Zms {a0:Zl} {r:Bool} {O:Objs} {n:Nat} (h:Zbz a0=some r):GTo Try.prog 64 [.agg (Yz a0)] O n ((vB r)) O n:=by
 unfold Zbz at h
 refine zFn Try.call64 Try.func64 fun hU hN0 hN => ?_
 show W _ _ _ _ ⟨6,[],[(0,.agg (Yz a0))]⟩ (Zx O n []) _
 refine zQ [1] ?_
 refine zQ [2] ?_
 exact X6 [(vB (a0.Kind != 0))]
theorem Zd9 {a0:(List Zl)} {r:Int} {O:Objs} {n:Nat} (h:Xl a0=some r):GTo Try.prog 74 [(sL Zf a0),.fn 64 0 []] O n ((vI r)) O n:=by
 unfold Xl at h
 refine zFn Try.call74 Try.func74 fun hU hN0 hN => ?_
 show W _ _ _ _ ⟨19,[],[(0,(sL Zf a0)),(1,.fn 64 0 [])]⟩ (Zx O n []) _
 refine zQ [0,1] ?_
 refine Zq ?_
 refine zQd [0,1,7,8] [0,1,7,8] [] ?_
 obtain ⟨z7,hz7,h⟩:=bC h
 refine Zdb (J:=(Q7 (fun z7=>JR n (⟨19,[],[(4,(vI z7))]⟩:Env) (Zx O n []) n) (fun z7=>JX 0 n (⟨19,[],[]⟩:Env) (Zx O n []) n))) (z:=z7) ?_ fun hw => ?_
 ·refine Xo hz7 (fun s0_=>⟨19,[],[(0,(sL Zf a0)),(1,.fn 64 0 []),(7,(vI (a0.length:Int))),(8,(vI s0_))]⟩) (fun s0_=>(Zx O n [])) (Q7 (fun z7=>JR n (⟨19,[],[(4,(vI z7))]⟩:Env) (Zx O n []) n) (fun z7=>JX 0 n (⟨19,[],[]⟩:Env) (Zx O n []) n)) ?_
  intro s0_ x0_ hs0_
  unfold Y4 at hs0_
  try dsimp only
  refine zQ [0,1,7,8,9] ?_
  refine Zq ?_
  refine Z5 (t:=(decide (s0_ < (a0.length:Int)))) rfl (fun c6 => ?_) (fun c6 => ?_)
  ·replace hs0_:=Z4 c6 hs0_
   refine Gk [0,1,7,8] [] ?_
   refine Zq ?_
   refine Yy ?_
   refine zQ [0,1,5,7,8] ?_
   refine Zq ?_
   obtain ⟨x3,hx3,ax3,bx3,cx3,hs0_⟩:=bE (f:=Zf) V2 (fun _=>rfl) (by decide) hs0_
   obtain ⟨y4,hy4,hs0_⟩:=bC hs0_
   refine Zlq [] ax3 bx3 cx3 ?_
   refine (Zms hy4).then ?_
   refine zF3 ax3 bx3 cx3 ?_
   refine zD [0,1,5,7,8,16] [] ?_
   refine Z5 (t:=y4) rfl (fun c5 => ?_) (fun c5 => ?_)
   ·replace hs0_:=Z4 c5 hs0_
    refine zQ [4] ?_
    refine zW ?_
    exact zEy hs0_
   replace hs0_:=Z3 c5 hs0_
   refine Gk [0,1,7,8] [] ?_
   refine zR ?_
   exact zEn hs0_
  replace hs0_:=Z3 c6 hs0_
  exact zEx hs0_
 rcases z7 with z7 | z7
 ·dsimp only [Q7] at hw h
  refine Vf hw ?_
  try simp only [Xh,Ys,↓reduceIte,Nat.reduceEqDiff]
  exact Zmw [(vI z7)]
 dsimp only [Q7] at hw h
 refine Y6 hw ?_
 try simp only [Xh,Ys,↓reduceIte,Nat.reduceEqDiff]
 refine zD [] [] ?_
 refine zQ [4] ?_
 exact X6 [(vI (-1))]
theorem Zdf {a0:(List Zl)} {r:Bool} {O:Objs} {n:Nat} (h:Yj a0=some r):GTo Try.prog 65 [(sL Zf a0),.fn 64 0 []] O n ((vB r)) O n:=by
 unfold Yj at h
 refine zFn Try.call65 Try.func65 fun hU hN0 hN => ?_
 show W _ _ _ _ ⟨9,[],[(0,(sL Zf a0)),(1,.fn 64 0 [])]⟩ (Zx O n []) _
 refine zQ [0,1] ?_
 refine Zq ?_
 obtain ⟨y2,hy2,h⟩:=bC h
 refine zCd (Zd9 hy2) [4] [] ?_
 exact X6 [(vB (decide (0≤y2)))]
theorem Zcd {a0:Zi} {a900:Zh} {r:(Zg×Zi×Zh)} {O:Objs} {n:Nat} {i0 i900:Nat} (hi0:i0 < n) (hi900:i900 < n) (Yd:i0≠i900) (ho0:O i0=some ⟨false,85,13,1,(Zj (.ref i900 0) ((sL Zd a0.left.Words)) ((sL Zc a0.left.Kids)) ((sL Zf a0.left.Ops)) ((sL Za a0.come)) a0)⟩) (ho900:O i900=some ⟨false,43,2,1,[(vB a900.apart),(vB a900.clash)]⟩) (h:Ql a0 a900=some r):GTo Try.prog 44 [.ref i0 0] O n (.agg (Zk r.1)) (Zx ((O.upd i0 (some ⟨false,85,13,1,(Zj (.ref i900 0) ((sL Zd r.2.1.left.Words)) ((sL Zc r.2.1.left.Kids)) ((sL Zf r.2.1.left.Ops)) ((sL Za r.2.1.come)) r.2.1)⟩)).upd i900 (some ⟨false,43,2,1,[(vB r.2.2.apart),(vB r.2.2.clash)]⟩)) n []) (n+0):=by
 unfold Ql at h
 refine Zc5 Z0 Try.call44 Try.func44 rfl (Nat.le_of_ble_eq_true rfl) (by omega) fun hU => ?_
 rw [show Zx O n []=Zx ((O.upd i0 (some ⟨false,85,13,1,(Zj (.ref i900 0) ((sL Zd a0.left.Words)) ((sL Zc a0.left.Kids)) ((sL Zf a0.left.Ops)) ((sL Za a0.come)) a0)⟩)).upd i900 (some ⟨false,43,2,1,[(vB a900.apart),(vB a900.clash)]⟩)) n [] from by rw [X4 ho0,X4 ho900]]
 have ra0_900:=fun X=>@Zn X _ _ Yd
 have rb0_900:=fun X=>@Zn X _ _ (Ne.symm Yd)
 have rc0_900:=fun X b c=>@Zr X _ _ b c Yd
 have hk0:∀ k,i0 < n+k:=fun k=>by omega
 have hk900:∀ k,i900 < n+k:=fun k=>by omega
 have hN0:∀ o p,Objs.upd (Objs.upd O i0 o) i900 p n=none:=fun o p=>(Yn _ _ (by omega)).trans (Yw hU hi0 _ (Nat.le_refl _))
 have hN:∀ o p k,Objs.upd (Objs.upd O i0 o) i900 p (n+k)=none:=fun o p k=>(Yn _ _ (by omega)).trans (Yw hU hi0 _ (Nat.le_add_right _ _))
 show W _ _ _ _ ⟨33,[],[(0,.ref i0 0)]⟩ (Zx ((O.upd i0 (some ⟨false,85,13,1,(Zj (.ref i900 0) ((sL Zd a0.left.Words)) ((sL Zc a0.left.Kids)) ((sL Zf a0.left.Ops)) ((sL Za a0.come)) a0)⟩)).upd i900 (some ⟨false,43,2,1,[(vB a900.apart),(vB a900.clash)]⟩)) n []) _
 refine Zce [0,2] (Ya Z0 [] ?_)
 simp only [push_cast,seval,Ze,hi0,hk0,hi900,hk900,ra0_900,rb0_900,rc0_900,hN0,hN]
 refine Zce [0,2,3] (Ya Z0 [] ?_)
 simp only [push_cast,seval,Ze,hi0,hk0,hi900,hk900,ra0_900,rb0_900,rc0_900,hN0,hN]
 refine Zq ?_
 obtain ⟨z2,hz2,h⟩:=bC h
 refine Xa (E':=⟨33,[],[(0,.ref i0 0),(2,.ref n 0),(27,(vB z2))]⟩) (O':=(Zx ((O.upd i0 (some ⟨false,85,13,1,(Zj (.ref i900 0) ((sL Zd a0.left.Words)) ((sL Zc a0.left.Kids)) ((sL Zf a0.left.Ops)) ((sL Za a0.come)) a0)⟩)).upd i900 (some ⟨false,43,2,1,[(vB a900.apart),(vB a900.clash)]⟩)) n [some ⟨false,30,11,1,[(vI 0),(vI 0),nV,nV,(vI 0),nV,nV,nV,nV,(vI 0),nV]⟩])) (n0:=(n+1)) ?_ ?_
 ·rcases Bool.eq_false_or_eq_true ((IntKind.i64.wrap ((a0.left.Words.length:Int)+(a0.left.Kids.length:Int))) == 0) with c5 | c5
  ·replace hz2:=Z4 c5 hz2
   obtain ⟨y4,hy4,hz2⟩:=bC hz2
   refine Xw Z0 (by kernel_rfl) (Yeb []) (by kernel_rfl) ?_
   simp only [push_cast,seval,Ze,c5,hi0,hk0,hi900,hk900,ra0_900,rb0_900,rc0_900,hN0,hN]
   refine PCall.of (Zdf hy4) ?_
   simp only [push_cast,seval,Ze,c5,hi0,hk0,hi900,hk900,ra0_900,rb0_900,rc0_900,hN0,hN]
   obtain rfl:=sI hz2
   refine And.intro rfl (Fit2.of (Xp hU rfl rfl ?_) (by omega))
   simp only [push_cast,seval,Ze,c5,hi0,hk0,hi900,hk900,ra0_900,rb0_900,rc0_900,hN0,hN]
  replace hz2:=Z3 c5 hz2
  refine Xw Z0 (by kernel_rfl) (Z7c []) (by kernel_rfl) ?_
  simp only [push_cast,seval,Ze,c5,hi0,hk0,hi900,hk900,ra0_900,rb0_900,rc0_900,hN0,hN]
  obtain rfl:=sI hz2
  refine And.intro rfl (Fit2.of (Xp hU rfl rfl ?_) (by omega))
  simp only [push_cast,seval,Ze,c5,hi0,hk0,hi900,hk900,ra0_900,rb0_900,rc0_900,hN0,hN]
 refine Z5 (t:=z2) rfl (fun c6 => ?_) (fun c6 => ?_)
 ·replace h:=Z4 c6 h
  refine Zq ?_
  refine Ya Z0 [] ?_
  simp only [push_cast,seval,Ze,hi0,hk0,hi900,hk900,ra0_900,rb0_900,rc0_900,hN0,hN]
  refine zD [2] [true] ?_
  refine zW ?_
  obtain rfl:=sI h
  refine K5 (k:=0) (i:=i0) (j:=i900) (q1:=⟨false,85,13,1,(Zj (.ref i900 0) ((sL Zd a0.left.Words)) ((sL Zc a0.left.Kids)) ((sL Zf a0.left.Ops)) ((sL Za a0.come)) a0)⟩) (p1:=⟨false,43,2,1,[(vB a900.apart),(vB a900.clash)]⟩) (L3:=[some ⟨false,30,11,1,[(vI 0),(vI 0),nV,nV,(vI 0),nV,nV,nV,nV,(vI 0),nV]⟩,none]) (E2:=(⟨33,[],[(2,.ref n 0)]⟩:Env)) (n3:=(n+2)) (.inr rfl) hU rfl [.agg [(vI 0),(vI 0),nV,nV,(vI 0),nV,nV,nV,nV,(vI 0),nV]] ?_ ?_
  ·refine Fit2.trans (E':=(⟨33,[],[(2,.ref n 0)]⟩:Env)) (O':=(Zx ((O.upd i0 (some ⟨false,85,13,1,(Zj (.ref i900 0) ((sL Zd a0.left.Words)) ((sL Zc a0.left.Kids)) ((sL Zf a0.left.Ops)) ((sL Za a0.come)) a0)⟩)).upd i900 (some ⟨false,43,2,1,[(vB a900.apart),(vB a900.clash)]⟩)) n [some ⟨false,30,11,1,[(vI 0),(vI 0),nV,nV,(vI 0),nV,nV,nV,nV,(vI 0),nV]⟩])) (n':=(n+1)) (Fit2.of (Xp hU rfl rfl ?_) (by omega)) ?_
   ·simp only [push_cast,seval,Ze,hi0,hk0,hi900,hk900,ra0_900,rb0_900,rc0_900,hN0,hN]
   refine Jb (k:=1) (k':=2) hU [0] [0,0] rfl rfl rfl rfl ⟨rfl,rfl⟩ ?_
   simp only [push_cast,seval,Ze,hi0,hk0,hi900,hk900,ra0_900,rb0_900,rc0_900,hN0,hN]
  simp only [push_cast,seval,Ze,Try.results44,hi0,hk0,hi900,hk900,ra0_900,rb0_900,rc0_900,hN0,hN]
 replace h:=Z3 c6 h
 refine Gk [0,2] [true] ?_
 refine Zq ?_
 refine Ya Z0 [] ?_
 simp only [push_cast,seval,Ze,hi0,hk0,hi900,hk900,ra0_900,rb0_900,rc0_900,hN0,hN]
 refine zD [2] [true] ?_
 refine zW ?_
 obtain rfl:=sI h
 refine K5 (k:=0) (i:=i0) (j:=i900) (q1:=⟨false,85,13,1,(Zj (.ref i900 0) ((sL Zd a0.left.Words)) ((sL Zc a0.left.Kids)) ((sL Zf a0.left.Ops)) ((sL Za a0.come)) a0)⟩) (p1:=⟨false,43,2,1,[(vB a900.apart),(vB a900.clash)]⟩) (L3:=[some ⟨false,30,11,1,(Zk a0.left)⟩,none]) (E2:=(⟨33,[],[(2,.ref n 0)]⟩:Env)) (n3:=(n+2)) (.inr rfl) hU rfl [.agg (Zk a0.left)] ?_ ?_
 ·refine Fit2.trans (E':=(⟨33,[],[(2,.ref n 0)]⟩:Env)) (O':=(Zx ((O.upd i0 (some ⟨false,85,13,1,(Zj (.ref i900 0) ((sL Zd a0.left.Words)) ((sL Zc a0.left.Kids)) ((sL Zf a0.left.Ops)) ((sL Za a0.come)) a0)⟩)).upd i900 (some ⟨false,43,2,1,[(vB a900.apart),(vB a900.clash)]⟩)) n [some ⟨false,30,11,1,(Zk a0.left)⟩])) (n':=(n+1)) (Fit2.of (Xp hU rfl rfl ?_) (by omega)) ?_
  ·simp only [push_cast,seval,Ze,hi0,hk0,hi900,hk900,ra0_900,rb0_900,rc0_900,hN0,hN]
  refine Jb (k:=1) (k':=2) hU [0] [0,0] rfl rfl rfl rfl ⟨rfl,rfl⟩ ?_
  simp only [push_cast,seval,Ze,hi0,hk0,hi900,hk900,ra0_900,rb0_900,rc0_900,hN0,hN]
 simp only [push_cast,seval,Ze,Try.results44,hi0,hk0,hi900,hk900,ra0_900,rb0_900,rc0_900,hN0,hN]
theorem Zxf {a0:Zl} {r:Int} {O:Objs} {n:Nat} (h:Zfs a0=some r):GTo Try.prog 88 [.agg (Yz a0)] O n ((vI r)) O n:=by
 unfold Zfs at h
 refine zFn Try.call88 Try.func88 fun hU hN0 hN => ?_
 show W _ _ _ _ ⟨15,[],[(0,.agg (Yz a0))]⟩ (Zx O n []) _
 refine zQ [1] ?_
 refine Zq ?_
 refine zQ [1,4] ?_
 refine Yy ?_
 refine zQ [1,4,5] ?_
 refine Z5 (t:=(a0.Kind == 0)) rfl (fun c4 => ?_) (fun c4 => ?_)
 ·replace h:=Z4 c4 h
  refine zQ [2] ?_
  exact X6 [(vI a0.N)]
 replace h:=Z3 c4 h
 obtain ⟨z1,hz1,h⟩:=bC h
 refine Xa (E':=⟨15,[],[(1,.ref n 0),(9,(vB z1))]⟩) (O':=(Zx O n [some ⟨false,41,14,1,(Yz a0)⟩])) (n0:=(n+1)) ?_ ?_
 ·refine zQ [1,4,9] ?_
  refine Z5 (t:=(a0.Kind == 1)) rfl (fun c2 => ?_) (fun c2 => ?_)
  ·replace hz1:=Z4 c2 hz1
   refine zK ?_
   exact zEn hz1
  replace hz1:=Z3 c2 hz1
  refine zR ?_
  exact zEn hz1
 refine Z5 (t:=z1) rfl (fun c3 => ?_) (fun c3 => ?_)
 ·replace h:=Z4 c3 h
  refine zQ [2] ?_
  exact X6 [(vI (a0.L.length:Int))]
 replace h:=Z3 c3 h
 refine Gk [] [false] ?_
 refine zQ [2] ?_
 exact X6 [(vI 1)]
theorem Zg8 {a0:X2} {r:(Int×Int×X2)} {O:Objs} {n:Nat} {i0:Nat} (hi0:i0 < n) (ho0:O i0=some ⟨false,113,2,1,[(sL Zf a0.left),(vI a0.gone)]⟩) (h:Jd a0=some r):GTo Try.prog 75 [.ref i0 0] O n (.tup [(vI r.1),(vI r.2.1)]) (Zx (O.upd i0 (some ⟨false,113,2,1,[(sL Zf r.2.2.left),(vI r.2.2.gone)]⟩)) n []) (n+0):=by
 unfold Jd at h
 refine Zc5 Z0 Try.call75 Try.func75 rfl (Nat.le_of_ble_eq_true rfl) (by omega) fun hU => ?_
 rw [show Zx O n []=Zx (O.upd i0 (some ⟨false,113,2,1,[(sL Zf a0.left),(vI a0.gone)]⟩)) n [] from by rw [X4 (show O i0=_ from by exact ho0)]]
 have hk0:∀ k,i0 < n+k:=fun k=>by omega
 have hN0:∀ o,Objs.upd O i0 o n=none:=fun o=>Yw hU hi0 _ (Nat.le_refl _)
 have hN:∀ o k,Objs.upd O i0 o (n+k)=none:=fun o k=>Yw hU hi0 _ (Nat.le_add_right _ _)
 show W _ _ _ _ ⟨44,[],[(0,.ref i0 0)]⟩ (Zx (O.upd i0 (some ⟨false,113,2,1,[(sL Zf a0.left),(vI a0.gone)]⟩)) n []) _
 refine Zec [0] hi0 hk0 ?_
 refine Zq ?_
 refine zD [0] [] ?_
 obtain ⟨z12,hz12,h⟩:=bC h
 refine Zdb (J:=(Q7 (fun z12=>JR n (⟨44,[],[(2,(vI z12.1)),(3,(vI z12.2.1))]⟩:Env) (Zx (O.upd i0 (some ⟨false,113,2,1,[(sL Zf z12.2.2.1),(vI z12.2.2.2)]⟩)) n []) n) (fun z12=>JX 0 n (⟨44,[],[]⟩:Env) (Zx (O.upd i0 (some ⟨false,113,2,1,[(sL Zf z12.1),(vI z12.2)]⟩)) n []) n))) (z:=z12) ?_ fun hw => ?_
 ·refine Xo hz12 (fun s0_=>⟨44,[],[(0,.ref i0 0)]⟩) (fun s0_=>(Zx (O.upd i0 (some ⟨false,113,2,1,[(sL Zf s0_.1),(vI s0_.2)]⟩)) n [])) (Q7 (fun z12=>JR n (⟨44,[],[(2,(vI z12.1)),(3,(vI z12.2.1))]⟩:Env) (Zx (O.upd i0 (some ⟨false,113,2,1,[(sL Zf z12.2.2.1),(vI z12.2.2.2)]⟩)) n []) n) (fun z12=>JX 0 n (⟨44,[],[]⟩:Env) (Zx (O.upd i0 (some ⟨false,113,2,1,[(sL Zf z12.1),(vI z12.2)]⟩)) n []) n)) ?_
  intro s0_ x0_ hs0_
  unfold Qh at hs0_
  try dsimp only
  refine Zq ?_
  refine Zec [0,10] hi0 hk0 ?_
  refine Z5 (t:=(decide (0 < (s0_.1.length:Int)))) rfl (fun c11 => ?_) (fun c11 => ?_)
  ·replace hs0_:=Z4 c11 hs0_
   refine Gk [0] [] ?_
   refine Yy ?_
   refine Zq ?_
   refine Zq ?_
   obtain ⟨x3,hx3,ax3,bx3,cx3,hs0_⟩:=bE (f:=Zf) V2 (fun _=>rfl) (by decide) hs0_
   obtain ⟨y4,hy4,hs0_⟩:=bC hs0_
   refine Xw Z0 (by kernel_rfl) [] (by kernel_rfl) ?_
   refine zF5 ax3 bx3 cx3 hi0 hk0 ?_
   refine PCall.of (Zxf hy4) ?_
   refine zF5 ax3 bx3 cx3 hi0 hk0 ?_
   refine zD [0,4] [] ?_
   refine Zec [0,4,24] hi0 hk0 ?_
   refine Z5 (t:=(decide (0 < (IntKind.i64.wrap (y4 - s0_.2))))) rfl (fun c10 => ?_) (fun c10 => ?_)
   ·replace hs0_:=Z4 c10 hs0_
    obtain ⟨x7,hx7,ax7,bx7,cx7,hs0_⟩:=bE (f:=Zf) V2 (fun _=>rfl) (by decide) hs0_
    have g8:=Qc (f:=Zf) (sz:=14) Zfa (fun _=>rfl) (by decide) (by decide) hx7
    refine Zce [2,3] (Ya Z0 [] ?_)
    refine zF6 ax7 bx7 cx7 g8 hi0 hk0 ?_
    refine zW ?_
    obtain rfl:=sI hs0_
    refine And.intro (fun h=>by cases h) (And.intro rfl (Fit2.of (Ym hU rfl rfl ?_) (by omega)))
    exact Qu hi0 hk0
   replace hs0_:=Z3 c10 hs0_
   refine Gk [0] [] ?_
   obtain ⟨l9,al9,bl9,cl9,gl9,hs0_⟩:=bS (lo:=(some (.i64,1))) (hi:=none) (f:=Zf) rfl rfl Zov V2 (fun _=>rfl) hs0_
   refine Yd3 [] al9 bl9 cl9 gl9 hi0 hk0 ?_
   obtain rfl:=sI hs0_
   refine And.intro rfl (Fit2.of (Ym hU rfl rfl ?_) (by omega))
   exact Yd6 al9 bl9 cl9 gl9 hi0 hk0
  replace hs0_:=Z3 c11 hs0_
  refine zXt ?_
  obtain rfl:=sI hs0_
  refine And.intro (fun h=>by cases h) (And.intro rfl (Fit2.of (Ym hU rfl rfl ?_) (by omega)))
  exact Qu hi0 hk0
 rcases z12 with z12 | z12
 ·dsimp only [Q7] at hw h
  refine Vf hw ?_
  try simp only [Xh,Ys,↓reduceIte,Nat.reduceEqDiff]
  obtain rfl:=sI h
  refine Gn (k:=0) (i:=i0) (q1:=⟨false,113,2,1,[(sL Zf z12.2.2.1),(vI z12.2.2.2)]⟩) (L3:=[none]) (E2:=(⟨44,[],[(2,(vI z12.1)),(3,(vI z12.2.1))]⟩:Env)) (n3:=(n+1)) (.inr rfl) hU rfl [(vI z12.1),(vI z12.2.1)] ?_ ?_
  ·refine Fit2.trans (E':=(⟨44,[],[(2,(vI z12.1)),(3,(vI z12.2.1))]⟩:Env)) (O':=(Zx (O.upd i0 (some ⟨false,113,2,1,[(sL Zf z12.2.2.1),(vI z12.2.2.2)]⟩)) n [])) (n':=n) (Fit2.of (Ym hU rfl rfl ?_) (by omega)) ?_
   ·exact Qu hi0 hk0
   refine Qo (k:=0) (k':=1) hU [] [0] rfl rfl rfl rfl ⟨rfl,rfl⟩ ?_
   exact Qu hi0 hk0
  simp only [push_cast,seval,Ze,Try.results75,hi0,hk0,hN0,hN]
 dsimp only [Q7] at hw h
 refine Y6 hw ?_
 try simp only [Xh,Ys,↓reduceIte,Nat.reduceEqDiff]
 refine zD [] [] ?_
 refine Zec [2,3] hi0 hk0 ?_
 refine zW ?_
 obtain rfl:=sI h
 refine Gn (k:=0) (i:=i0) (q1:=⟨false,113,2,1,[(sL Zf z12.1),(vI z12.2)]⟩) (L3:=[none]) (E2:=(⟨44,[],[(2,(vI 0)),(3,(vI 0))]⟩:Env)) (n3:=(n+1)) (.inr rfl) hU rfl [(vI 0),(vI 0)] ?_ ?_
 ·refine Fit2.trans (E':=(⟨44,[],[(2,(vI 0)),(3,(vI 0))]⟩:Env)) (O':=(Zx (O.upd i0 (some ⟨false,113,2,1,[(sL Zf z12.1),(vI z12.2)]⟩)) n [])) (n':=n) (Fit2.of (Ym hU rfl rfl ?_) (by omega)) ?_
  ·exact Qu hi0 hk0
  refine Qo (k:=0) (k':=1) hU [] [0] rfl rfl rfl rfl ⟨rfl,rfl⟩ ?_
  exact Qu hi0 hk0
 simp only [push_cast,seval,Ze,Try.results75,hi0,hk0,hN0,hN]
theorem Zb1 {a0:X2} {a1:Int} {r:(Zl×X2)} {O:Objs} {n:Nat} {i0:Nat} (hi0:i0 < n) (ho0:O i0=some ⟨false,113,2,1,[(sL Zf a0.left),(vI a0.gone)]⟩) (h:Je a0 a1=some r):GTo Try.prog 76 [.ref i0 0,(vI a1)] O n (.agg (Yz r.1)) (Zx (O.upd i0 (some ⟨false,113,2,1,[(sL Zf r.2.left),(vI r.2.gone)]⟩)) n []) (n+0):=by
 unfold Je at h
 refine Zc5 Z0 Try.call76 Try.func76 rfl (Nat.le_of_ble_eq_true rfl) (by omega) fun hU => ?_
 rw [show Zx O n []=Zx (O.upd i0 (some ⟨false,113,2,1,[(sL Zf a0.left),(vI a0.gone)]⟩)) n [] from by rw [X4 (show O i0=_ from by exact ho0)]]
 have hk0:∀ k,i0 < n+k:=fun k=>by omega
 have hN0:∀ o,Objs.upd O i0 o n=none:=fun o=>Yw hU hi0 _ (Nat.le_refl _)
 have hN:∀ o k,Objs.upd O i0 o (n+k)=none:=fun o k=>Yw hU hi0 _ (Nat.le_add_right _ _)
 show W _ _ _ _ ⟨50,[],[(0,.ref i0 0),(1,(vI a1))]⟩ (Zx (O.upd i0 (some ⟨false,113,2,1,[(sL Zf a0.left),(vI a0.gone)]⟩)) n []) _
 refine Zec [0,1,4] hi0 hk0 ?_
 refine Zq ?_
 obtain ⟨x2,hx2,ax2,bx2,cx2,h⟩:=bE (f:=Zf) V2 (fun _=>rfl) (by decide) h
 refine Z15 [] ax2 bx2 cx2 hi0 hk0 ?_
 refine zD [0,1,4,5] [true,true] ?_
 obtain ⟨z3,hz3,h⟩:=bC h
 refine Xa (E':=⟨50,[],[(0,.ref i0 0),(1,(vI a1)),(4,.ref n 0),(5,.ref (n+1) 0)]⟩) (O':=(Zx (O.upd i0 (some ⟨false,113,2,1,[(sL Zf a0.left),(vI a0.gone)]⟩)) n [some ⟨false,41,14,1,[(vI 0),(vI 0),nV,(vI 0),(vI 0),nV,nV,(vI 0),nV,nV,nV,nV,(vI 0),nV]⟩,some ⟨false,41,14,1,[(vI x2.Kind),(vI z3.1),(sL Za z3.2),(vI x2.E.Kind),(vI x2.E.Old.Kind),(sL (eI .u64) x2.E.Old.Words),(sL Za x2.E.Old.Kids),(vI x2.E.New.Kind),(sL (eI .u64) x2.E.New.Words),(sL Za x2.E.New.Kids),(sL Zd x2.E.Words),(sL Zc x2.E.Kids),(vI x2.E.List_),(sL Zf x2.E.Ops)]⟩])) (n0:=(n+2)) ?_ ?_
 ·refine Zec [0,1,4,5,13] hi0 hk0 ?_
  refine Yy ?_
  refine Zec [0,1,4,5,13,14] hi0 hk0 ?_
  refine Z5 (t:=(x2.Kind == 0)) rfl (fun c8 => ?_) (fun c8 => ?_)
  ·replace hz3:=Z4 c8 hz3
   refine Jg [] hi0 hk0 ?_
   obtain rfl:=sI hz3
   refine And.intro rfl (Fit2.of (Ym hU rfl rfl ?_) (by omega))
   exact Qu hi0 hk0
  replace hz3:=Z3 c8 hz3
  obtain ⟨z4,hz4,hz3⟩:=bC hz3
  refine Xa (E':=⟨50,[],[(0,.ref i0 0),(1,(vI a1)),(4,.ref n 0),(5,.ref (n+1) 0),(18,(vB z4))]⟩) (O':=(Zx (O.upd i0 (some ⟨false,113,2,1,[(sL Zf a0.left),(vI a0.gone)]⟩)) n [some ⟨false,41,14,1,[(vI 0),(vI 0),nV,(vI 0),(vI 0),nV,nV,(vI 0),nV,nV,nV,nV,(vI 0),nV]⟩,some ⟨false,41,14,1,(Yz x2)⟩])) (n0:=(n+2)) ?_ ?_
  ·refine Zec [0,1,4,5,13,18] hi0 hk0 ?_
   refine Z5 (t:=(x2.Kind == 1)) rfl (fun c5 => ?_) (fun c5 => ?_)
   ·replace hz4:=Z4 c5 hz4
    refine zK ?_
    obtain rfl:=sI hz4
    refine And.intro rfl (Fit2.of (Ym hU rfl rfl ?_) (by omega))
    exact Qu hi0 hk0
   replace hz4:=Z3 c5 hz4
   refine Jg [] hi0 hk0 ?_
   obtain rfl:=sI hz4
   refine And.intro rfl (Fit2.of (Ym hU rfl rfl ?_) (by omega))
   exact Qu hi0 hk0
  refine Z5 (t:=z4) rfl (fun c7 => ?_) (fun c7 => ?_)
  ·replace hz3:=Z4 c7 hz3
   obtain ⟨l6,al6,bl6,cl6,gl6,hz3⟩:=bS3 (lo:=(some (.i64,a0.gone))) (hi:=(.i64,(IntKind.i64.wrap (a0.gone+a1)))) (f:=Za) rfl rfl Zh7 Zb9 (fun _=>rfl) hz3
   refine Gv Z0 (by kernel_rfl) [false,false,false,false,false,false,false,false,false,false,false,false,false,false,false,false,false,false,false,false,true] [] (by kernel_rfl) ?_
   refine zX6 al6 bl6 cl6 gl6 hi0 hk0 ?_
   obtain rfl:=sI hz3
   refine And.intro rfl (Fit2.of (Ym hU rfl rfl ?_) (by omega))
   exact Yd6 al6 bl6 cl6 gl6 hi0 hk0
  replace hz3:=Z3 c7 hz3
  refine zK ?_
  obtain rfl:=sI hz3
  refine And.intro rfl (Fit2.of (Ym hU rfl rfl ?_) (by omega))
  exact Qu hi0 hk0
 refine Zq ?_
 refine Jg [] hi0 hk0 ?_
 refine zDs [4,5] [true,true] ?_
 refine Jg [] hi0 hk0 ?_
 refine zD [4] [true,false] ?_
 refine zW ?_
 obtain rfl:=sI h
 refine Gn (k:=0) (i:=i0) (q1:=⟨false,113,2,1,[(sL Zf a0.left),(vI (IntKind.i64.wrap (a0.gone+a1)))]⟩) (L3:=[some ⟨false,41,14,1,[(vI x2.Kind),(vI z3.1),(sL Za z3.2),(vI x2.E.Kind),(vI x2.E.Old.Kind),(sL (eI .u64) x2.E.Old.Words),(sL Za x2.E.Old.Kids),(vI x2.E.New.Kind),(sL (eI .u64) x2.E.New.Words),(sL Za x2.E.New.Kids),(sL Zd x2.E.Words),(sL Zc x2.E.Kids),(vI x2.E.List_),(sL Zf x2.E.Ops)]⟩,none]) (E2:=(⟨50,[],[(4,.ref n 0)]⟩:Env)) (n3:=(n+2)) (.inr rfl) hU rfl [.agg [(vI x2.Kind),(vI z3.1),(sL Za z3.2),(vI x2.E.Kind),(vI x2.E.Old.Kind),(sL (eI .u64) x2.E.Old.Words),(sL Za x2.E.Old.Kids),(vI x2.E.New.Kind),(sL (eI .u64) x2.E.New.Words),(sL Za x2.E.New.Kids),(sL Zd x2.E.Words),(sL Zc x2.E.Kids),(vI x2.E.List_),(sL Zf x2.E.Ops)]] ?_ ?_
 ·refine Fit2.trans (E':=(⟨50,[],[(4,.ref n 0)]⟩:Env)) (O':=(Zx (O.upd i0 (some ⟨false,113,2,1,[(sL Zf a0.left),(vI (IntKind.i64.wrap (a0.gone+a1)))]⟩)) n [some ⟨false,41,14,1,[(vI x2.Kind),(vI z3.1),(sL Za z3.2),(vI x2.E.Kind),(vI x2.E.Old.Kind),(sL (eI .u64) x2.E.Old.Words),(sL Za x2.E.Old.Kids),(vI x2.E.New.Kind),(sL (eI .u64) x2.E.New.Words),(sL Za x2.E.New.Kids),(sL Zd x2.E.Words),(sL Zc x2.E.Kids),(vI x2.E.List_),(sL Zf x2.E.Ops)]⟩,none])) (n':=(n+2)) (Fit2.of (Ym hU rfl rfl ?_) (by omega)) ?_
  ·exact Qu hi0 hk0
  refine Qo (k:=2) (k':=2) hU [0,1] [0,0] rfl rfl rfl rfl ⟨rfl,rfl⟩ ?_
  exact Qu hi0 hk0
 simp only [push_cast,seval,Ze,Try.results76,hi0,hk0,hN0,hN]
theorem Zt3 {a0:(List Zl)} {a1:(List Zl)} {a2:Int} {a3:Int} {r:((List Yt)×Bool)} {O:Objs} {n:Nat} (h:Zdt a0 a1 a2 a3=some r):GTo Try.prog 66 [(sL Zf a0),(sL Zf a1),(vI a2),(vI a3)] O n (.tup [(sL Yf r.1),(vB r.2)]) O n:=by
 unfold Zdt at h
 refine zFn Try.call66 Try.func66 fun hU hN0 hN => ?_
 show W _ _ _ _ ⟨83,[],[(0,(sL Zf a0)),(1,(sL Zf a1)),(2,(vI a2)),(3,(vI a3))]⟩ (Zx O n []) _
 refine zQ [0,1,2,3] ?_
 refine zQ [0,1,2,3,10] ?_
 refine Zq ?_
 refine zRd [2,3,10,11,12] [true,true] ?_
 refine zD [2,3,10,11,12] [true,true] ?_
 refine Yx (E':=(⟨83,[],[(2,(vI a2)),(3,(vI a3)),(10,.row (n+2) ([]:List Yt).length),(11,.ref n 0),(12,.ref (n+1) 0)]⟩:Env)) (O':=(Zx O n [some ⟨false,113,2,1,[(sL Zf a0),(vI 0)]⟩,some ⟨false,113,2,1,[(sL Zf a1),(vI 0)]⟩,some (oR 83 29 Yf ([]:List Yt)),none])) (n':=(n+4)) ?_ ?_
 ·refine Fit2.trans (E':=(⟨83,[],[(2,(vI a2)),(3,(vI a3)),(10,nV),(11,.ref n 0),(12,.ref (n+1) 0)]⟩:Env)) (O':=(Zx O n [some ⟨false,113,2,1,[(sL Zf a0),(vI 0)]⟩,some ⟨false,113,2,1,[(sL Zf a1),(vI 0)]⟩])) (n':=(n+2)) (Fit2.of (Yq hU rfl rfl ?_) (by omega)) ?_
  ·exact zSe
  refine Fit2.trans (Zh8 10 83 29 rfl (by omega)) ?_
  simp only [Jj,Qd,Ve,Zbl,List.set_cons_zero,List.set_cons_succ,List.cons_append,List.nil_append,List.length_cons,List.length_nil,Nat.zero_add,Nat.reduceAdd,Nat.reduceLT,Nat.add_assoc]
  refine Fit2.trans (E':=(⟨83,[],[(2,(vI a2)),(3,(vI a3)),(10,.row (n+2) ([]:List Yt).length),(11,.ref n 0),(12,.ref (n+1) 0)]⟩:Env)) (O':=(Zx O n [some ⟨false,113,2,1,[(sL Zf a0),(vI 0)]⟩,some ⟨false,113,2,1,[(sL Zf a1),(vI 0)]⟩,some (oR 83 29 Yf ([]:List Yt))])) (n':=(n+3)) (Fit2.of (Yq hU rfl rfl ?_) (by omega)) ?_
  ·exact zSe
  refine Km (k:=3) (k':=4) hU [0,1,2] [0,1,2,0] rfl rfl rfl rfl ⟨rfl,rfl⟩ ?_
  exact zSe
 obtain ⟨z16,hz16,h⟩:=bC h
 refine Vf (E':=⟨83,[],[(8,(sL Yf z16.1)),(9,(vB z16.2))]⟩) (O':=(Zx O n [none,none])) (n0:=(n+2)) ?_ ?_
 ·refine Xo hz16 (fun s0_=>⟨83,[],[(2,(vI a2)),(3,(vI a3)),(10,.row (n+2) s0_.2.2.2.2.length),(11,.ref n 0),(12,.ref (n+1) 0)]⟩) (fun s0_=>(Zx O n [some ⟨false,113,2,1,[(sL Zf s0_.1),(vI s0_.2.1)]⟩,some ⟨false,113,2,1,[(sL Zf s0_.2.2.1),(vI s0_.2.2.2.1)]⟩,some (oR 83 29 Yf s0_.2.2.2.2),none])) (fun z16=>JR n (⟨83,[],[(8,(sL Yf z16.1)),(9,(vB z16.2))]⟩:Env) (Zx O n [none,none]) (n+2)) ?_
  intro s0_ x0_ hs0_
  unfold Xq at hs0_
  try dsimp only
  refine Yy ?_
  refine Zq ?_
  obtain ⟨y2,hy2,hs0_⟩:=bC hs0_
  refine zR ?_
  refine (Zg8 (i0:=n) (by omega) (by simp only [push_cast,seval,Ze,Zt,hN0,hN] <;> rfl) hy2).then ?_
  refine zS ?_
  refine zDs [2,3,10,11,12,13,14] [true,true,true,false] ?_
  obtain ⟨y4,hy4,hs0_⟩:=bC hs0_
  refine zR ?_
  refine (Zg8 (i0:=(n+1)) (by omega) (by simp only [push_cast,seval,Ze,Zt,hN0,hN] <;> rfl) hy4).then ?_
  refine zS ?_
  refine zD [2,3,10,11,12,13,14,15,16] [true,true,true,false] ?_
  refine Yy ?_
  refine zQD [2,3,10,11,12,14,15,16,40] [none,none,none] ?_
  refine Z5 (t:=(cond (decide (0 < y2.2.1)) (y2.1 == a2) false)) rfl (fun c15 => ?_) (fun c15 => ?_)
  ·replace hs0_:=Z4 c15 hs0_
   obtain ⟨y5,hy5,hs0_⟩:=bC hs0_
   obtain ⟨l6,pl6,ql6,el6,hs0_⟩:=bA (k:=1) rfl hs0_
   refine Zeu [] pl6 ql6 el6 ?_
   refine (Zb1 (i0:=n) (by omega) (by simp only [push_cast,seval,Ze,Zt,pl6,ql6,el6,hN0,hN] <;> rfl) hy5).then ?_
   refine zX3 pl6 ql6 el6 ?_
   exact Zfi hs0_ pl6 ql6 el6
  replace hs0_:=Z3 c15 hs0_
  refine zQD [2,3,10,11,12,14,16,54] [none,none,none] ?_
  refine Z5 (t:=(cond (decide (0 < y4.2.1)) (y4.1 == a3) false)) rfl (fun c14 => ?_) (fun c14 => ?_)
  ·replace hs0_:=Z4 c14 hs0_
   obtain ⟨y7,hy7,hs0_⟩:=bC hs0_
   obtain ⟨l8,pl8,ql8,el8,hs0_⟩:=bA (k:=1) rfl hs0_
   refine Zeu [] pl8 ql8 el8 ?_
   refine (Zb1 (i0:=(n+1)) (by omega) (by simp only [push_cast,seval,Ze,Zt,pl8,ql8,el8,hN0,hN] <;> rfl) hy7).then ?_
   refine zX3 pl8 ql8 el8 ?_
   exact Zfi hs0_ pl8 ql8 el8
  replace hs0_:=Z3 c14 hs0_
  refine zQD [2,3,10,11,12,14,16,68] [none,none] ?_
  refine Z5 (t:=(cond (y2.2.1 == 0) (y4.2.1 == 0) false)) rfl (fun c13 => ?_) (fun c13 => ?_)
  ·replace hs0_:=Z4 c13 hs0_
   refine zQ [8,9] ?_
   refine zW ?_
   exact zEy hs0_
  replace hs0_:=Z3 c13 hs0_
  refine zQD [2,3,10,11,12,14,16,76] [none,none] ?_
  refine Z5 (t:=(cond (y2.2.1 == 0) true (y4.2.1 == 0))) rfl (fun c12 => ?_) (fun c12 => ?_)
  ·replace hs0_:=Z4 c12 hs0_
   refine zQ [8,9] ?_
   refine zW ?_
   exact zEy hs0_
  replace hs0_:=Z3 c12 hs0_
  refine zQ [2,3,10,11,12,14] ?_
  obtain ⟨y9,hy9,hs0_⟩:=bC hs0_
  obtain ⟨y10,hy10,hs0_⟩:=bC hs0_
  obtain ⟨l11,pl11,ql11,el11,hs0_⟩:=bA (k:=1) rfl hs0_
  refine Zeu [] pl11 ql11 el11 ?_
  refine (Zb1 (i0:=n) (by omega) (by simp only [push_cast,seval,Ze,Zt,pl11,ql11,el11,hN0,hN] <;> rfl) hy9).then ?_
  refine zX3 pl11 ql11 el11 ?_
  refine (Zb1 (i0:=(n+1)) (by omega) (by simp only [push_cast,seval,Ze,Zt,pl11,ql11,el11,hN0,hN] <;> rfl) hy10).then ?_
  refine zX3 pl11 ql11 el11 ?_
  exact Zfi hs0_ pl11 ql11 el11
 try simp only [Xh,Ys,↓reduceIte,Nat.reduceEqDiff]
 exact Zmw [(sL Yf z16.1),(vB z16.2)]
theorem Ztb {a0:(List Zl)} {a1:(List Zl)} {r:((List Yt)×Bool)} {O:Objs} {n:Nat} (h:Vs a0 a1=some r):GTo Try.prog 45 [(sL Zf a0),(sL Zf a1)] O n (.tup [(sL Yf r.1),(vB r.2)]) O n:=by
 unfold Vs at h
 refine zFn Try.call45 Try.func45 fun hU hN0 hN => ?_
 show W _ _ _ _ ⟨11,[],[(0,(sL Zf a0)),(1,(sL Zf a1))]⟩ (Zx O n []) _
 refine zQ [0,1] ?_
 refine Zq ?_
 obtain ⟨y2,hy2,h⟩:=bC h
 refine zCd (Zt3 hy2) [4,5] [] ?_
 exact X6 [(sL Yf y2.1),(vB y2.2)]
end Go.Proofs.Ytocpndlnbmjpmaa
