/- Part RM5 of this seat's mirrors: functions of the seat's program, and the plain functions that they are; each theorem bears its own conditions. -/
import Derived.Test.YtocpndlnbmjpmaaRM3
namespace Go.Proofs.Ytocpndlnbmjpmaa
open Go.RowKit
set_option linter.unusedVariables false
set_option linter.unusedSimpArgs false
set_option maxRecDepth 100000
set_option maxHeartbeats 4000000
attribute [local push_cast] Try.results46 Try.results67 Try.results68 Try.results69 Try.results77 vI vB nV sL oR Zj Zk Zbi Yz Zz Xb Xh Ys Qw Zf4 Zef Zqm Zpi Zlf Zlk Zle Zlj Znu Znq Zli Znt Zns Znr Zlg Znp Zjk evS wok K0 Op.operands Call.operands gop atK List.all_cons List.all_nil Bool.and_self Value.oneCell' List.take_zero List.take_succ_cons List.take_nil List.drop_zero List.drop_succ_cons List.drop_nil List.append_nil Nat.add_zero Nat.zero_add Zbg Y3 ev K1 Zux Zqa Zp9 Zqf Zqd Zqe Zqb Zqc Zp8 Zs6 Zt0 Zxb Zki Zen Zjv Zew Zkw Zhm Zgp Zgu Zik Zig Zgs Zij Zii Zih Zgr Zif Zgq Zgt Zfm Zml Zio Zcw Zjw Zcx Zlu Zkg Zuz bLo bHi bMx Zeo Zlt Zyp Zkf Zme Zgl Zbq Ztp Zyt Zjt Zgw Zyw Zem Zz8 Zm2 Zm6 Zm1 Zm5 Zq0 Zqw Zqv Zky Zm3 Zqz Zqy Zqx Zm4 Zqr Zqu Zqq Zqt Zu6 Zu3 Zu2 Zqs Zu4 Zu5 Zkh gone pop TK.isAgg Zra Zre Zq9 Zrd Zng Zvr Zvn Zrc Zvq Zvp Zvo Zrb Zvm G.under G.unders List.getD_cons_zero List.getD_cons_succ List.set_cons_zero List.set_cons_succ List.map_cons List.map_nil List.toList_toArray Array.toList_append Option.toArray_none Option.toArray_some Option.map_some Option.map_none Option.bind_some Option.bind_none List.getElem?_cons_zero List.getElem?_cons_succ List.getElem?_nil List.nil_append List.cons_append List.replicate_succ List.replicate_zero List.length_cons List.length_nil and_true true_and Bool.true_eq_false Bool.false_eq_true forall_const implies_true IntKind.bits ite_true ite_false eq_self or_false beq_iff_eq ne_eq beq_eq_false_iff_ne beq_self_eq_true Option.some.injEq exists_eq_left' gt_iff_lt Bool.not_true imp_self cond_true cond_false Z6a Z59 Vu Gu Ve Zbl Jj Qd Option.join_some Nat.add_assoc Int.toNat_natCast eI eL Zt Zia Zgz Zql Zqj Zqk Z0n Z21 Zic Zhe Zrn Zrl Zrm Zxk Zku Zur Zee Zs3 Zga List.length_append G.agg.injEq G.tup.injEq List.flatten_cons List.flatten_nil Nat.le_refl Zhk Zv Zs Zsv Zlo Zw7 Zw2 Zw6 Z11 Yar Zo7 Zka G.ren G.rens Zrq Zhr Zrs G.fn.injEq Zoe Zof Zw4 Zw3 Zu8 Z0f Option.join_none Z8 Zbc undef Zmf Arr.put_eq Zib Zk6 Zi9 Zhd Zrk Zri Zrj onB Z0m Ztn Zuf Zug Zk2 Zla Zk8 Zjb Zhf Zk9 Znl Znk Znj Zni Z20 Z5o Zxj Zvv Vx Zxd Zpp Zte Zpy Zzb Zru Zke Zmd Zgn Zvz Zuh Z52 Z4p Zgv prT Zex Z8a Zwr Zfa Zws Z8b Zwt Zxn Zwu Z8c Zwv Z8d Zww Z8e Zwx Z8f Zwy Z02 Zrw Z03 Zrx Z04 Zry Z05 Zrz Z06 Zr0 Z07 Zr1 Z08 Zr2 Z09 Zr3 Z1a Zr4 Z1b Zr5 Z1c Zr6 Z1d Zma Ztw Zh7 Z1e Zr7 Zb9 Zr8 Z1f Zou Z1g Zmb Z1h Zov Z1i Zr9 Zhj Zsa Z1j Zsb Zjl Zsc Z1k Zsd V2 Zse Z1l Zsf Z1m Zsg Z1n Zsh Zlm Zsi Z1o Zsj Zc9 Zsk Z1p Zsl Z1q Zsm Z1r Zsn Z1s Zso Zyc Zsp Z1t Zsq Z1u Zsr Z1v Zss Z1w Zst Z1x Zsu Zwq Zow Zv9 Znv Zwa Znw Zwb Znx Zwc Zny Zwd Znz Zwe Zn0 Zwf Zn1 Zwg Zn2 Zwh Zn3 Zwi Zn4 Zwj Zn5 Zwk Zn6 Zwl Zn7 Zwm Zn8 Zwn Zn9 Zwo Zoa Zwp Zob Za Zjm Zhg Zcq Zb5 Zd Qf Zf Zc Js X3 Us Zbe Gt Zb4 Zd2 Zf2 Zc8 Yf
theorem Zi6 {a0:Zi} {a1:Zl} {a900:Zh} {r:(Zi×Zh)} {O:Objs} {n:Nat} {i0 j0_0 j0_1 j0_2 i900:Nat} (hi0:i0 < n) (Vp:j0_0 < n) (Vq:j0_1 < n) (Vr:j0_2 < n) (X8:i0≠j0_0) (X0:i0≠j0_1) (X1:i0≠j0_2) (Xx:j0_0≠j0_1) (Xy:j0_0≠j0_2) (Xz:j0_1≠j0_2) (hi900:i900 < n) (Xt:i900≠j0_0) (Xu:i900≠j0_1) (Xv:i900≠j0_2) (Yd:i0≠i900) (ho0:O i0=some ⟨false,85,13,1,(Zj (.ref i900 0) (.row j0_0 a0.left.Words.length) (.row j0_1 a0.left.Kids.length) (.row j0_2 a0.left.Ops.length) ((sL Za a0.come)) a0)⟩) (Ge:O j0_0=some (oR 48 4 Zd a0.left.Words)) (Gf:O j0_1=some (oR 50 12 Zc a0.left.Kids)) (Gg:O j0_2=some (oR 41 14 Zf a0.left.Ops)) (ho900:O i900=some ⟨false,43,2,1,[(vB a900.apart),(vB a900.clash)]⟩) (h:U7 a0 a1 a900=some r):GTo Try.prog 77 [.ref i0 0,.agg (Yz a1)] O n (.tup []) (Zx (((((O.upd j0_0 none).upd j0_1 none).upd j0_2 none).upd i0 (some ⟨false,85,13,1,(Zj (.ref i900 0) (.row n r.1.left.Words.length) (.row (n+1) r.1.left.Kids.length) (.row (n+2) r.1.left.Ops.length) ((sL Za r.1.come)) r.1)⟩)).upd i900 (some ⟨false,43,2,1,[(vB r.2.apart),(vB r.2.clash)]⟩)) n [some (oR 48 4 Zd r.1.left.Words),some (oR 50 12 Zc r.1.left.Kids),some (oR 41 14 Zf r.1.left.Ops)]) (n+3):=by
 unfold U7 at h
 refine Zc5 Z0 Try.call77 Try.func77 rfl (Nat.le_of_ble_eq_true rfl) (by omega) fun hU => ?_
 rw [show Zx O n []=Zx ((O.upd i0 (some ⟨false,85,13,1,(Zj (.ref i900 0) (.row j0_0 a0.left.Words.length) (.row j0_1 a0.left.Kids.length) (.row j0_2 a0.left.Ops.length) ((sL Za a0.come)) a0)⟩)).upd i900 (some ⟨false,43,2,1,[(vB a900.apart),(vB a900.clash)]⟩)) n [] from by rw [X4 ho0,X4 ho900]]
 refine Yx (Yc (k:=8) (by rw [Zv _ hi0];simp only [Z8,Zn Yd] <;> rfl) (by rfl) (by rw [Zv _ Vp];simp only [Zn (Ne.symm X8),Zn (Ne.symm Xt)];exact Ge) X8 (by simp only [push_cast,Nat.reduceAdd,Zs _ _ Vp,Zs _ _ hi0,Zr (Ne.symm X8),Zr (Ne.symm Xt),Zr Yd] <;> rfl) (by omega)) ?_
 refine Yx (Yc (k:=9) (by rw [Zv _ hi0];simp only [Z8,Zn Yd] <;> rfl) (by rfl) (by rw [Zv _ Vq];simp only [Zn (Ne.symm X0),Zn (Ne.symm Xu),Zn (Ne.symm Xx)];exact Gf) X0 (by simp only [push_cast,Nat.reduceAdd,Zs _ _ Vq,Zs _ _ hi0,Zr (Ne.symm X0),Zr (Ne.symm Xu),Zr Yd] <;> rfl) (by omega)) ?_
 refine Yx (Yc (k:=11) (by rw [Zv _ hi0];simp only [Z8,Zn Yd] <;> rfl) (by rfl) (by rw [Zv _ Vr];simp only [Zn (Ne.symm X1),Zn (Ne.symm Xv),Zn (Ne.symm Xy),Zn (Ne.symm Xz)];exact Gg) X1 (by simp only [push_cast,Nat.reduceAdd,Zs _ _ Vr,Zs _ _ hi0,Zr (Ne.symm X1),Zr (Ne.symm Xv),Zr Yd] <;> rfl) (by omega)) ?_
 have hU:=(Und.drop (Und.drop (Und.drop hU j0_0) j0_1) j0_2)
 have ra0_900:=fun X=>@Zn X _ _ Yd
 have rb0_900:=fun X=>@Zn X _ _ (Ne.symm Yd)
 have rc0_900:=fun X b c=>@Zr X _ _ b c Yd
 have hk0:∀ k,i0 < n+k:=fun k=>by omega
 have hk900:∀ k,i900 < n+k:=fun k=>by omega
 have hN0:∀ o p,Objs.upd (Objs.upd (((O.upd j0_0 none).upd j0_1 none).upd j0_2 none) i0 o) i900 p n=none:=fun o p=>(Yn _ _ (by omega)).trans (Yw hU hi0 _ (Nat.le_refl _))
 have hN:∀ o p k,Objs.upd (Objs.upd (((O.upd j0_0 none).upd j0_1 none).upd j0_2 none) i0 o) i900 p (n+k)=none:=fun o p k=>(Yn _ _ (by omega)).trans (Yw hU hi0 _ (Nat.le_add_right _ _))
 show W _ _ _ _ ⟨17,[],[(0,.ref i0 0),(1,.agg (Yz a1))]⟩ (Zx (((((O.upd j0_0 none).upd j0_1 none).upd j0_2 none).upd i0 (some ⟨false,85,13,1,(Zj (.ref i900 0) (.row n a0.left.Words.length) (.row (n+1) a0.left.Kids.length) (.row (n+2) a0.left.Ops.length) ((sL Za a0.come)) a0)⟩)).upd i900 (some ⟨false,43,2,1,[(vB a900.apart),(vB a900.clash)]⟩)) n [some (oR 48 4 Zd a0.left.Words),some (oR 50 12 Zc a0.left.Kids),some (oR 41 14 Zf a0.left.Ops)]) _
 refine Zce [0,3] (Ya Z0 [] ?_)
 simp only [push_cast,seval,Ze,hi0,hk0,hi900,hk900,ra0_900,rb0_900,rc0_900,hN0,hN]
 obtain ⟨l1,pl1,ql1,el1,h⟩:=bA (k:=1) rfl h
 obtain ⟨x2,hx2,ax2,bx2,cx2,h⟩:=bE (f:=Zf) V2 (fun _=>rfl) (by decide) h
 have gu3:J5 (fl Zf a0.left.Ops++[.val (.int .i64 0),.val (.int .i64 0),.val (.slice none 0 0),.val (.int .i64 0),.val (.int .i64 0),.val (.slice none 0 0),.val (.slice none 0 0),.val (.int .i64 0),.val (.slice none 0 0),.val (.slice none 0 0),.val (.slice none 0 0),.val (.slice none 0 0),.val (.int .i64 0),.val (.slice none 0 0)]) [.val (.int .i64 a1.Kind),.val (.int .i64 a1.N),.sl a1.L.length (fl Za a1.L),.val (.int .i64 a1.E.Kind),.val (.int .i64 a1.E.Old.Kind),.sl a1.E.Old.Words.length (fl (eI .u64) a1.E.Old.Words),.sl a1.E.Old.Kids.length (fl Za a1.E.Old.Kids),.val (.int .i64 a1.E.New.Kind),.sl a1.E.New.Words.length (fl (eI .u64) a1.E.New.Words),.sl a1.E.New.Kids.length (fl Za a1.E.New.Kids),.sl a1.E.Words.length (fl Zd a1.E.Words),.sl a1.E.Kids.length (fl Zc a1.E.Kids),.val (.int .i64 a1.E.List_),.sl a1.E.Ops.length (fl Zf a1.E.Ops)] (List.length a0.left.Ops * 14)=some (fl Zf a0.left.Ops++[.val (.int .i64 a1.Kind),.val (.int .i64 a1.N),.sl a1.L.length (fl Za a1.L),.val (.int .i64 a1.E.Kind),.val (.int .i64 a1.E.Old.Kind),.sl a1.E.Old.Words.length (fl (eI .u64) a1.E.Old.Words),.sl a1.E.Old.Kids.length (fl Za a1.E.Old.Kids),.val (.int .i64 a1.E.New.Kind),.sl a1.E.New.Words.length (fl (eI .u64) a1.E.New.Words),.sl a1.E.New.Kids.length (fl Za a1.E.New.Kids),.sl a1.E.Words.length (fl Zd a1.E.Words),.sl a1.E.Kids.length (fl Zc a1.E.Kids),.val (.int .i64 a1.E.List_),.sl a1.E.Ops.length (fl Zf a1.E.Ops)]):=Zbr (f:=Zf) (sz:=14) (fun _=>rfl) rfl rfl
 refine Zcv Z0 (by kernel_rfl) [.plain,.low,.low,.low,.low,.low,.low,.pass,.bar,.shp,.fill true,.shp,.shp,.shp,.fill false] (fun i=>i < (n+4)) [0,1,2,3,4,5,6,7,8,9,10,11,12,13,14] [.plain,.low,.low,.low,.low,.low,.low,.pass,.bar,.shp,.fill true,.shp,.shp,.shp,.fill false] [] (by kernel_rfl) rfl ?_
 simp only [push_cast,Nat.reduceAdd,Nat.reduceSub,Nat.reduceMul,Nat.reduceLeDiff,Nat.reduceLT,Nat.reduceEqDiff,↓reduceIte,reduceCtorEq,Int.reduceBEq,Int.reduceBNe,Nat.reduceBEq,Int.reduceLE,Int.reduceLT,Int.reduceEq,Int.reduceNe,Int.reduceNeg,Nat.reduceDiv,Nat.reduceMod,Nat.reducePow,Ze,pl1,ql1,el1,ax2,bx2,cx2,gu3,hi0,hk0,hi900,hk900,ra0_900,rb0_900,rc0_900,hN0,hN]
 refine zO ?_
 obtain rfl:=sI h
 refine K5 (k:=3) (i:=i0) (j:=i900) (q1:=⟨false,85,13,1,(Zj (.ref i900 0) (.row n a0.left.Words.length) (.row (n+1) a0.left.Kids.length) (.row (n+2) (a0.left.Ops++[a1]).length) ((sL Za a0.come)) a0)⟩) (p1:=⟨false,43,2,1,[(vB a900.apart),(vB a900.clash)]⟩) (L3:=[some (oR 48 4 Zd a0.left.Words),some (oR 50 12 Zc a0.left.Kids),some (oR 41 14 Zf (a0.left.Ops++[a1])),none]) (E2:=(⟨17,[],[]⟩:Env)) (n3:=(n+4)) (.inl rfl) hU rfl [] ?_ ?_
 ·refine Fit2.trans (E':=(⟨17,[],[]⟩:Env)) (O':=(Zx (((((O.upd j0_0 none).upd j0_1 none).upd j0_2 none).upd i0 (some ⟨false,85,13,1,(Zj (.ref i900 0) (.row n a0.left.Words.length) (.row (n+1) a0.left.Kids.length) (.row (n+2) (a0.left.Ops++[a1]).length) ((sL Za a0.come)) a0)⟩)).upd i900 (some ⟨false,43,2,1,[(vB a900.apart),(vB a900.clash)]⟩)) n [some (oR 48 4 Zd a0.left.Words),some (oR 50 12 Zc a0.left.Kids),some (oR 41 14 Zf (a0.left.Ops++[a1])),none,none])) (n':=(n+5)) (Fit2.of (Xp hU rfl rfl ?_) (by omega)) ?_
  ·simp only [push_cast,Nat.reduceAdd,Nat.reduceSub,Nat.reduceMul,Nat.reduceLeDiff,Nat.reduceLT,Nat.reduceEqDiff,↓reduceIte,reduceCtorEq,Int.reduceBEq,Int.reduceBNe,Nat.reduceBEq,Int.reduceLE,Int.reduceLT,Int.reduceEq,Int.reduceNe,Int.reduceNeg,Nat.reduceDiv,Nat.reduceMod,Nat.reducePow,Ze,pl1,ql1,el1,ax2,bx2,cx2,gu3,hi0,hk0,hi900,hk900,ra0_900,rb0_900,rc0_900,hN0,hN]
  refine Jb (k:=5) (k':=4) hU [0,1,2,3,3] [0,1,2,0] rfl rfl rfl rfl ⟨rfl,rfl⟩ ?_
  simp only [push_cast,seval,Ze,hi0,hk0,hi900,hk900,ra0_900,rb0_900,rc0_900,hN0,hN]
 simp only [push_cast,seval,Ze,Try.results77,hi0,hk0,hi900,hk900,ra0_900,rb0_900,rc0_900,hN0,hN]
theorem Zi4 {a0:Zi} {a1:(List Zb)} {a900:Zh} {r:(Zi×Zh)} {O:Objs} {n:Nat} {i0 j0_0 j0_1 j0_2 i900:Nat} (hi0:i0 < n) (Vp:j0_0 < n) (Vq:j0_1 < n) (Vr:j0_2 < n) (X8:i0≠j0_0) (X0:i0≠j0_1) (X1:i0≠j0_2) (Xx:j0_0≠j0_1) (Xy:j0_0≠j0_2) (Xz:j0_1≠j0_2) (hi900:i900 < n) (Xt:i900≠j0_0) (Xu:i900≠j0_1) (Xv:i900≠j0_2) (Yd:i0≠i900) (ho0:O i0=some ⟨false,85,13,1,(Zj (.ref i900 0) (.row j0_0 a0.left.Words.length) (.row j0_1 a0.left.Kids.length) (.row j0_2 a0.left.Ops.length) ((sL Za a0.come)) a0)⟩) (Ge:O j0_0=some (oR 48 4 Zd a0.left.Words)) (Gf:O j0_1=some (oR 50 12 Zc a0.left.Kids)) (Gg:O j0_2=some (oR 41 14 Zf a0.left.Ops)) (ho900:O i900=some ⟨false,43,2,1,[(vB a900.apart),(vB a900.clash)]⟩) (h:U5 a0 a1 a900=some r):GTo Try.prog 67 [.ref i0 0,(sL Za a1)] O n (.tup []) (Zx (((((O.upd j0_0 none).upd j0_1 none).upd j0_2 none).upd i0 (some ⟨false,85,13,1,(Zj (.ref i900 0) (.row n r.1.left.Words.length) (.row (n+1) r.1.left.Kids.length) (.row (n+2) r.1.left.Ops.length) ((sL Za r.1.come)) r.1)⟩)).upd i900 (some ⟨false,43,2,1,[(vB r.2.apart),(vB r.2.clash)]⟩)) n [some (oR 48 4 Zd r.1.left.Words),some (oR 50 12 Zc r.1.left.Kids),some (oR 41 14 Zf r.1.left.Ops)]) (n+3):=by
 unfold U5 at h
 refine Zc5 Z0 Try.call67 Try.func67 rfl (Nat.le_of_ble_eq_true rfl) (by omega) fun hU => ?_
 rw [show Zx O n []=Zx ((O.upd i0 (some ⟨false,85,13,1,(Zj (.ref i900 0) (.row j0_0 a0.left.Words.length) (.row j0_1 a0.left.Kids.length) (.row j0_2 a0.left.Ops.length) ((sL Za a0.come)) a0)⟩)).upd i900 (some ⟨false,43,2,1,[(vB a900.apart),(vB a900.clash)]⟩)) n [] from by rw [X4 ho0,X4 ho900]]
 refine Yx (Yc (k:=8) (by rw [Zv _ hi0];simp only [Z8,Zn Yd] <;> rfl) (by rfl) (by rw [Zv _ Vp];simp only [Zn (Ne.symm X8),Zn (Ne.symm Xt)];exact Ge) X8 (by simp only [push_cast,Nat.reduceAdd,Zs _ _ Vp,Zs _ _ hi0,Zr (Ne.symm X8),Zr (Ne.symm Xt),Zr Yd] <;> rfl) (by omega)) ?_
 refine Yx (Yc (k:=9) (by rw [Zv _ hi0];simp only [Z8,Zn Yd] <;> rfl) (by rfl) (by rw [Zv _ Vq];simp only [Zn (Ne.symm X0),Zn (Ne.symm Xu),Zn (Ne.symm Xx)];exact Gf) X0 (by simp only [push_cast,Nat.reduceAdd,Zs _ _ Vq,Zs _ _ hi0,Zr (Ne.symm X0),Zr (Ne.symm Xu),Zr Yd] <;> rfl) (by omega)) ?_
 refine Yx (Yc (k:=11) (by rw [Zv _ hi0];simp only [Z8,Zn Yd] <;> rfl) (by rfl) (by rw [Zv _ Vr];simp only [Zn (Ne.symm X1),Zn (Ne.symm Xv),Zn (Ne.symm Xy),Zn (Ne.symm Xz)];exact Gg) X1 (by simp only [push_cast,Nat.reduceAdd,Zs _ _ Vr,Zs _ _ hi0,Zr (Ne.symm X1),Zr (Ne.symm Xv),Zr Yd] <;> rfl) (by omega)) ?_
 have hU:=(Und.drop (Und.drop (Und.drop hU j0_0) j0_1) j0_2)
 have ra0_900:=fun X=>@Zn X _ _ Yd
 have rb0_900:=fun X=>@Zn X _ _ (Ne.symm Yd)
 have rc0_900:=fun X b c=>@Zr X _ _ b c Yd
 have hk0:∀ k,i0 < n+k:=fun k=>by omega
 have hk900:∀ k,i900 < n+k:=fun k=>by omega
 have hN0:∀ o p,Objs.upd (Objs.upd (((O.upd j0_0 none).upd j0_1 none).upd j0_2 none) i0 o) i900 p n=none:=fun o p=>(Yn _ _ (by omega)).trans (Yw hU hi0 _ (Nat.le_refl _))
 have hN:∀ o p k,Objs.upd (Objs.upd (((O.upd j0_0 none).upd j0_1 none).upd j0_2 none) i0 o) i900 p (n+k)=none:=fun o p k=>(Yn _ _ (by omega)).trans (Yw hU hi0 _ (Nat.le_add_right _ _))
 show W _ _ _ _ ⟨25,[],[(0,.ref i0 0),(1,(sL Za a1))]⟩ (Zx (((((O.upd j0_0 none).upd j0_1 none).upd j0_2 none).upd i0 (some ⟨false,85,13,1,(Zj (.ref i900 0) (.row n a0.left.Words.length) (.row (n+1) a0.left.Kids.length) (.row (n+2) a0.left.Ops.length) ((sL Za a0.come)) a0)⟩)).upd i900 (some ⟨false,43,2,1,[(vB a900.apart),(vB a900.clash)]⟩)) n [some (oR 48 4 Zd a0.left.Words),some (oR 50 12 Zc a0.left.Kids),some (oR 41 14 Zf a0.left.Ops)]) _
 refine Zce [0,1,6] (Ya Z0 [] ?_)
 simp only [push_cast,seval,Ze,hi0,hk0,hi900,hk900,ra0_900,rb0_900,rc0_900,hN0,hN]
 refine Z5 (t:=(decide (0 < (a1.length:Int)))) rfl (fun c4 => ?_) (fun c4 => ?_)
 ·replace h:=Z4 c4 h
  obtain ⟨y1,hy1,h⟩:=bC h
  refine Ya Z0 [] ?_
  simp only [push_cast,seval,Ze,hi0,hk0,hi900,hk900,ra0_900,rb0_900,rc0_900,hN0,hN]
  refine GCalls.argsW ?_ ((Zi6 (i0:=i0) (i900:=i900) (j0_0:=n) (j0_1:=(n+1)) (j0_2:=(n+2)) (by omega) (by omega) (by omega) (by omega) (by omega) (by omega) (by omega) (by omega) (by omega) (by omega) (by omega) (by omega) (by omega) (by omega) (by omega) (by simp only [push_cast,seval,Ze,Zt,hi0,hk0,hi900,hk900,ra0_900,rb0_900,rc0_900,hN0,hN] <;> rfl) (by simp only [push_cast,seval,Ze,Zt,hi0,hk0,hi900,hk900,ra0_900,rb0_900,rc0_900,hN0,hN] <;> rfl) (by simp only [push_cast,seval,Ze,Zt,hi0,hk0,hi900,hk900,ra0_900,rb0_900,rc0_900,hN0,hN] <;> rfl) (by simp only [push_cast,seval,Ze,Zt,hi0,hk0,hi900,hk900,ra0_900,rb0_900,rc0_900,hN0,hN] <;> rfl) (by simp only [push_cast,seval,Ze,Zt,hi0,hk0,hi900,hk900,ra0_900,rb0_900,rc0_900,hN0,hN] <;> rfl) hy1).then ?_)
  ·simp only [push_cast,seval,Ze,hi0,hk0,hi900,hk900,ra0_900,rb0_900,rc0_900,hN0,hN]
  simp only [push_cast,seval,Ze,hi0,hk0,hi900,hk900,ra0_900,rb0_900,rc0_900,hN0,hN]
  obtain rfl:=sI h
  refine K5 (k:=3) (i:=i0) (j:=i900) (q1:=⟨false,85,13,1,(Zj (.ref i900 0) (.row n y1.1.left.Words.length) (.row (n+1) y1.1.left.Kids.length) (.row (n+2) y1.1.left.Ops.length) ((sL Za y1.1.come)) y1.1)⟩) (p1:=⟨false,43,2,1,[(vB y1.2.apart),(vB y1.2.clash)]⟩) (L3:=[some (oR 48 4 Zd y1.1.left.Words),some (oR 50 12 Zc y1.1.left.Kids),some (oR 41 14 Zf y1.1.left.Ops),none]) (E2:=(⟨25,[],[]⟩:Env)) (n3:=(n+4)) (.inl rfl) hU rfl [] ?_ ?_
  ·refine Fit2.trans (E':=(⟨25,[],[]⟩:Env)) (O':=(Zx (((((O.upd j0_0 none).upd j0_1 none).upd j0_2 none).upd i0 (some ⟨false,85,13,1,(Zj (.ref i900 0) (.row (n+3) y1.1.left.Words.length) (.row (n+4) y1.1.left.Kids.length) (.row (n+5) y1.1.left.Ops.length) ((sL Za y1.1.come)) y1.1)⟩)).upd i900 (some ⟨false,43,2,1,[(vB y1.2.apart),(vB y1.2.clash)]⟩)) n [none,none,none,some (oR 48 4 Zd y1.1.left.Words),some (oR 50 12 Zc y1.1.left.Kids),some (oR 41 14 Zf y1.1.left.Ops)])) (n':=(n+6)) (Fit2.of (Xp hU rfl rfl ?_) (by omega)) ?_
   ·simp only [push_cast,seval,Ze,hi0,hk0,hi900,hk900,ra0_900,rb0_900,rc0_900,hN0,hN]
   refine Jb (k:=6) (k':=4) hU [3,3,3,0,1,2] [3,4,5,0] rfl rfl rfl rfl ⟨rfl,rfl⟩ ?_
   simp only [push_cast,seval,Ze,hi0,hk0,hi900,hk900,ra0_900,rb0_900,rc0_900,hN0,hN]
  simp only [push_cast,seval,Ze,Try.results67,hi0,hk0,hi900,hk900,ra0_900,rb0_900,rc0_900,hN0,hN]
 replace h:=Z3 c4 h
 refine Zce [0,17] (Ya Z0 [] ?_)
 simp only [push_cast,seval,Ze,hi0,hk0,hi900,hk900,ra0_900,rb0_900,rc0_900,hN0,hN]
 refine Z5 (t:=(decide (0 < (a0.come.length:Int)))) rfl (fun c3 => ?_) (fun c3 => ?_)
 ·replace h:=Z4 c3 h
  obtain ⟨y2,hy2,h⟩:=bC h
  refine Ya Z0 [] ?_
  simp only [push_cast,seval,Ze,hi0,hk0,hi900,hk900,ra0_900,rb0_900,rc0_900,hN0,hN]
  refine GCalls.argsW ?_ ((Zi6 (i0:=i0) (i900:=i900) (j0_0:=n) (j0_1:=(n+1)) (j0_2:=(n+2)) (by omega) (by omega) (by omega) (by omega) (by omega) (by omega) (by omega) (by omega) (by omega) (by omega) (by omega) (by omega) (by omega) (by omega) (by omega) (by simp only [push_cast,seval,Ze,Zt,hi0,hk0,hi900,hk900,ra0_900,rb0_900,rc0_900,hN0,hN] <;> rfl) (by simp only [push_cast,seval,Ze,Zt,hi0,hk0,hi900,hk900,ra0_900,rb0_900,rc0_900,hN0,hN] <;> rfl) (by simp only [push_cast,seval,Ze,Zt,hi0,hk0,hi900,hk900,ra0_900,rb0_900,rc0_900,hN0,hN] <;> rfl) (by simp only [push_cast,seval,Ze,Zt,hi0,hk0,hi900,hk900,ra0_900,rb0_900,rc0_900,hN0,hN] <;> rfl) (by simp only [push_cast,seval,Ze,Zt,hi0,hk0,hi900,hk900,ra0_900,rb0_900,rc0_900,hN0,hN] <;> rfl) hy2).then ?_)
  ·simp only [push_cast,seval,Ze,hi0,hk0,hi900,hk900,ra0_900,rb0_900,rc0_900,hN0,hN]
  simp only [push_cast,seval,Ze,hi0,hk0,hi900,hk900,ra0_900,rb0_900,rc0_900,hN0,hN]
  obtain rfl:=sI h
  refine K5 (k:=3) (i:=i0) (j:=i900) (q1:=⟨false,85,13,1,(Zj (.ref i900 0) (.row n y2.1.left.Words.length) (.row (n+1) y2.1.left.Kids.length) (.row (n+2) y2.1.left.Ops.length) ((sL Za y2.1.come)) y2.1)⟩) (p1:=⟨false,43,2,1,[(vB y2.2.apart),(vB y2.2.clash)]⟩) (L3:=[some (oR 48 4 Zd y2.1.left.Words),some (oR 50 12 Zc y2.1.left.Kids),some (oR 41 14 Zf y2.1.left.Ops),none]) (E2:=(⟨25,[],[]⟩:Env)) (n3:=(n+4)) (.inl rfl) hU rfl [] ?_ ?_
  ·refine Fit2.trans (E':=(⟨25,[],[]⟩:Env)) (O':=(Zx (((((O.upd j0_0 none).upd j0_1 none).upd j0_2 none).upd i0 (some ⟨false,85,13,1,(Zj (.ref i900 0) (.row (n+3) y2.1.left.Words.length) (.row (n+4) y2.1.left.Kids.length) (.row (n+5) y2.1.left.Ops.length) ((sL Za y2.1.come)) y2.1)⟩)).upd i900 (some ⟨false,43,2,1,[(vB y2.2.apart),(vB y2.2.clash)]⟩)) n [none,none,none,some (oR 48 4 Zd y2.1.left.Words),some (oR 50 12 Zc y2.1.left.Kids),some (oR 41 14 Zf y2.1.left.Ops)])) (n':=(n+6)) (Fit2.of (Xp hU rfl rfl ?_) (by omega)) ?_
   ·simp only [push_cast,seval,Ze,hi0,hk0,hi900,hk900,ra0_900,rb0_900,rc0_900,hN0,hN]
   refine Jb (k:=6) (k':=4) hU [3,3,3,0,1,2] [3,4,5,0] rfl rfl rfl rfl ⟨rfl,rfl⟩ ?_
   simp only [push_cast,seval,Ze,hi0,hk0,hi900,hk900,ra0_900,rb0_900,rc0_900,hN0,hN]
  simp only [push_cast,seval,Ze,Try.results67,hi0,hk0,hi900,hk900,ra0_900,rb0_900,rc0_900,hN0,hN]
 replace h:=Z3 c3 h
 refine zK ?_
 obtain rfl:=sI h
 refine K5 (k:=3) (i:=i0) (j:=i900) (q1:=⟨false,85,13,1,(Zj (.ref i900 0) (.row n a0.left.Words.length) (.row (n+1) a0.left.Kids.length) (.row (n+2) a0.left.Ops.length) ((sL Za a0.come)) a0)⟩) (p1:=⟨false,43,2,1,[(vB a900.apart),(vB a900.clash)]⟩) (L3:=[some (oR 48 4 Zd a0.left.Words),some (oR 50 12 Zc a0.left.Kids),some (oR 41 14 Zf a0.left.Ops),none]) (E2:=(⟨25,[],[]⟩:Env)) (n3:=(n+4)) (.inl rfl) hU rfl [] ?_ ?_
 ·refine Fit2.trans (E':=(⟨25,[],[]⟩:Env)) (O':=(Zx (((((O.upd j0_0 none).upd j0_1 none).upd j0_2 none).upd i0 (some ⟨false,85,13,1,(Zj (.ref i900 0) (.row n a0.left.Words.length) (.row (n+1) a0.left.Kids.length) (.row (n+2) a0.left.Ops.length) ((sL Za a0.come)) a0)⟩)).upd i900 (some ⟨false,43,2,1,[(vB a900.apart),(vB a900.clash)]⟩)) n [some (oR 48 4 Zd a0.left.Words),some (oR 50 12 Zc a0.left.Kids),some (oR 41 14 Zf a0.left.Ops)])) (n':=(n+3)) (Fit2.of (Xp hU rfl rfl ?_) (by omega)) ?_
  ·simp only [push_cast,seval,Ze,hi0,hk0,hi900,hk900,ra0_900,rb0_900,rc0_900,hN0,hN]
  refine Jb (k:=3) (k':=4) hU [0,1,2] [0,1,2,0] rfl rfl rfl rfl ⟨rfl,rfl⟩ ?_
  simp only [push_cast,seval,Ze,hi0,hk0,hi900,hk900,ra0_900,rb0_900,rc0_900,hN0,hN]
 simp only [push_cast,seval,Ze,Try.results67,hi0,hk0,hi900,hk900,ra0_900,rb0_900,rc0_900,hN0,hN]
theorem Zhy {a1:Zi} {a2:Zi} {a900:Zh} {r:(Zi×Zi×Zh)} {O:Objs} {n:Nat} {i1 j1_0 j1_1 j1_2 j1_3 i2 j2_0 j2_1 j2_2 j2_3 i900:Nat} (hi1:i1 < n) (Zjx:j1_0 < n) (Zjy:j1_1 < n) (Zjz:j1_2 < n) (Zj0:j1_3 < n) (Zdk:i1≠j1_0) (Zdl:i1≠j1_1) (Zdm:i1≠j1_2) (Zdn:i1≠j1_3) (Zac:j1_0≠j1_1) (Zad:j1_0≠j1_2) (Zae:j1_0≠j1_3) (Zaj:j1_1≠j1_2) (Zak:j1_1≠j1_3) (Zap:j1_2≠j1_3) (hi2:i2 < n) (Zj1:j2_0 < n) (Zj2:j2_1 < n) (Zj3:j2_2 < n) (Zj4:j2_3 < n) (Zdo:i2≠j2_0) (Zdp:i2≠j2_1) (Zdq:i2≠j2_2) (Zdr:i2≠j2_3) (Zay:j2_0≠j2_1) (Zaz:j2_0≠j2_2) (Za0:j2_0≠j2_3) (Za1:j2_1≠j2_2) (Za2:j2_1≠j2_3) (Za3:j2_2≠j2_3) (hi900:i900 < n) (Ut:i1≠j2_0) (Uu:i1≠j2_1) (Uv:i1≠j2_2) (Uw:i1≠j2_3) (Ux:i2≠j1_0) (Uy:i2≠j1_1) (Uz:i2≠j1_2) (U0:i2≠j1_3) (J9:i900≠j1_0) (Ka:i900≠j1_1) (Kb:i900≠j1_2) (Kc:i900≠j1_3) (Ke:i900≠j2_0) (Kf:i900≠j2_1) (Kg:i900≠j2_2) (Kh:i900≠j2_3) (X5:i1≠i2) (Y8:i1≠i900) (Y9:i2≠i900) (Zaf:j1_0≠j2_0) (Zag:j1_0≠j2_1) (Zah:j1_0≠j2_2) (Zai:j1_0≠j2_3) (Zal:j1_1≠j2_0) (Zam:j1_1≠j2_1) (Zan:j1_1≠j2_2) (Zao:j1_1≠j2_3) (Zaq:j1_2≠j2_0) (Zar:j1_2≠j2_1) (Zas:j1_2≠j2_2) (Zat:j1_2≠j2_3) (Zau:j1_3≠j2_0) (Zav:j1_3≠j2_1) (Zaw:j1_3≠j2_2) (Zax:j1_3≠j2_3) (ho1:O i1=some ⟨false,85,13,1,(Zj (.ref i900 0) (.row j1_0 a1.left.Words.length) (.row j1_1 a1.left.Kids.length) (.row j1_2 a1.left.Ops.length) (.row j1_3 a1.come.length) a1)⟩) (Ziq:O j1_0=some (oR 48 4 Zd a1.left.Words)) (Zir:O j1_1=some (oR 50 12 Zc a1.left.Kids)) (Zis:O j1_2=some (oR 41 14 Zf a1.left.Ops)) (Zit:O j1_3=some (oR 25 3 Za a1.come)) (ho2:O i2=some ⟨false,85,13,1,(Zj (.ref i900 0) (.row j2_0 a2.left.Words.length) (.row j2_1 a2.left.Kids.length) (.row j2_2 a2.left.Ops.length) (.row j2_3 a2.come.length) a2)⟩) (Ziu:O j2_0=some (oR 48 4 Zd a2.left.Words)) (Ziv:O j2_1=some (oR 50 12 Zc a2.left.Kids)) (Ziw:O j2_2=some (oR 41 14 Zf a2.left.Ops)) (Zix:O j2_3=some (oR 25 3 Za a2.come)) (ho900:O i900=some ⟨false,43,2,1,[(vB a900.apart),(vB a900.clash)]⟩) (h:V7 a1 a2 a900=some r):GTo Try.prog 46 [.ref i900 0,.ref i1 0,.ref i2 0] O n (.tup []) (Zx (((((((((((O.upd j1_0 none).upd j1_1 none).upd j1_2 none).upd j1_3 none).upd j2_0 none).upd j2_1 none).upd j2_2 none).upd j2_3 none).upd i1 (some ⟨false,85,13,1,(Zj (.ref i900 0) (.row n r.1.left.Words.length) (.row (n+1) r.1.left.Kids.length) (.row (n+2) r.1.left.Ops.length) (.row (n+3) r.1.come.length) r.1)⟩)).upd i2 (some ⟨false,85,13,1,(Zj (.ref i900 0) (.row (n+4) r.2.1.left.Words.length) (.row (n+5) r.2.1.left.Kids.length) (.row (n+6) r.2.1.left.Ops.length) (.row (n+7) r.2.1.come.length) r.2.1)⟩)).upd i900 (some ⟨false,43,2,1,[(vB r.2.2.apart),(vB r.2.2.clash)]⟩)) n [some (oR 48 4 Zd r.1.left.Words),some (oR 50 12 Zc r.1.left.Kids),some (oR 41 14 Zf r.1.left.Ops),some (oR 25 3 Za r.1.come),some (oR 48 4 Zd r.2.1.left.Words),some (oR 50 12 Zc r.2.1.left.Kids),some (oR 41 14 Zf r.2.1.left.Ops),some (oR 25 3 Za r.2.1.come)]) (n+8):=by
 unfold V7 at h
 refine Zc5 Z0 Try.call46 Try.func46 rfl (Nat.le_of_ble_eq_true rfl) (by omega) fun hU => ?_
 rw [show Zx O n []=Zx (((O.upd i1 (some ⟨false,85,13,1,(Zj (.ref i900 0) (.row j1_0 a1.left.Words.length) (.row j1_1 a1.left.Kids.length) (.row j1_2 a1.left.Ops.length) (.row j1_3 a1.come.length) a1)⟩)).upd i2 (some ⟨false,85,13,1,(Zj (.ref i900 0) (.row j2_0 a2.left.Words.length) (.row j2_1 a2.left.Kids.length) (.row j2_2 a2.left.Ops.length) (.row j2_3 a2.come.length) a2)⟩)).upd i900 (some ⟨false,43,2,1,[(vB a900.apart),(vB a900.clash)]⟩)) n [] from by rw [X4 ho1,X4 ho2,X4 ho900]]
 refine Yx (Yc (k:=8) (by rw [Zv _ hi1];simp only [Z8,Zn X5,Zn Y8] <;> rfl) (by rfl) (by rw [Zv _ Zjx];simp only [Zn (Ne.symm Zdk),Zn (Ne.symm Ux),Zn (Ne.symm J9)];exact Ziq) Zdk (by simp only [push_cast,Nat.reduceAdd,Zs _ _ Zjx,Zs _ _ hi1,Zr (Ne.symm Zdk),Zr (Ne.symm Ux),Zr (Ne.symm J9),Zr X5,Zr Y8,Zr Y9] <;> rfl) (by omega)) ?_
 refine Yx (Yc (k:=9) (by rw [Zv _ hi1];simp only [Z8,Zn X5,Zn Y8] <;> rfl) (by rfl) (by rw [Zv _ Zjy];simp only [Zn (Ne.symm Zdl),Zn (Ne.symm Uy),Zn (Ne.symm Ka),Zn (Ne.symm Zac)];exact Zir) Zdl (by simp only [push_cast,Nat.reduceAdd,Zs _ _ Zjy,Zs _ _ hi1,Zr (Ne.symm Zdl),Zr (Ne.symm Uy),Zr (Ne.symm Ka),Zr X5,Zr Y8,Zr Y9] <;> rfl) (by omega)) ?_
 refine Yx (Yc (k:=11) (by rw [Zv _ hi1];simp only [Z8,Zn X5,Zn Y8] <;> rfl) (by rfl) (by rw [Zv _ Zjz];simp only [Zn (Ne.symm Zdm),Zn (Ne.symm Uz),Zn (Ne.symm Kb),Zn (Ne.symm Zad),Zn (Ne.symm Zaj)];exact Zis) Zdm (by simp only [push_cast,Nat.reduceAdd,Zs _ _ Zjz,Zs _ _ hi1,Zr (Ne.symm Zdm),Zr (Ne.symm Uz),Zr (Ne.symm Kb),Zr X5,Zr Y8,Zr Y9] <;> rfl) (by omega)) ?_
 refine Yx (Yc (k:=12) (by rw [Zv _ hi1];simp only [Z8,Zn X5,Zn Y8] <;> rfl) (by rfl) (by rw [Zv _ Zj0];simp only [Zn (Ne.symm Zdn),Zn (Ne.symm U0),Zn (Ne.symm Kc),Zn (Ne.symm Zae),Zn (Ne.symm Zak),Zn (Ne.symm Zap)];exact Zit) Zdn (by simp only [push_cast,Nat.reduceAdd,Zs _ _ Zj0,Zs _ _ hi1,Zr (Ne.symm Zdn),Zr (Ne.symm U0),Zr (Ne.symm Kc),Zr X5,Zr Y8,Zr Y9] <;> rfl) (by omega)) ?_
 refine Yx (Yc (k:=8) (by rw [Zv _ hi2];simp only [Z8,Zn (Ne.symm X5),Zn Y9] <;> rfl) (by rfl) (by rw [Zv _ Zj1];simp only [Zn (Ne.symm Ut),Zn (Ne.symm Zdo),Zn (Ne.symm Ke),Zn (Ne.symm Zaf),Zn (Ne.symm Zal),Zn (Ne.symm Zaq),Zn (Ne.symm Zau)];exact Ziu) Zdo (by simp only [push_cast,Nat.reduceAdd,Zs _ _ Zj1,Zs _ _ hi2,Zr (Ne.symm Ut),Zr (Ne.symm Zdo),Zr (Ne.symm Ke),Zr X5,Zr Y8,Zr Y9] <;> rfl) (by omega)) ?_
 refine Yx (Yc (k:=9) (by rw [Zv _ hi2];simp only [Z8,Zn (Ne.symm X5),Zn Y9] <;> rfl) (by rfl) (by rw [Zv _ Zj2];simp only [Zn (Ne.symm Uu),Zn (Ne.symm Zdp),Zn (Ne.symm Kf),Zn (Ne.symm Zag),Zn (Ne.symm Zam),Zn (Ne.symm Zar),Zn (Ne.symm Zav),Zn (Ne.symm Zay)];exact Ziv) Zdp (by simp only [push_cast,Nat.reduceAdd,Zs _ _ Zj2,Zs _ _ hi2,Zr (Ne.symm Uu),Zr (Ne.symm Zdp),Zr (Ne.symm Kf),Zr X5,Zr Y8,Zr Y9] <;> rfl) (by omega)) ?_
 refine Yx (Yc (k:=11) (by rw [Zv _ hi2];simp only [Z8,Zn (Ne.symm X5),Zn Y9] <;> rfl) (by rfl) (by rw [Zv _ Zj3];simp only [Zn (Ne.symm Uv),Zn (Ne.symm Zdq),Zn (Ne.symm Kg),Zn (Ne.symm Zah),Zn (Ne.symm Zan),Zn (Ne.symm Zas),Zn (Ne.symm Zaw),Zn (Ne.symm Zaz),Zn (Ne.symm Za1)];exact Ziw) Zdq (by simp only [push_cast,Nat.reduceAdd,Zs _ _ Zj3,Zs _ _ hi2,Zr (Ne.symm Uv),Zr (Ne.symm Zdq),Zr (Ne.symm Kg),Zr X5,Zr Y8,Zr Y9] <;> rfl) (by omega)) ?_
 refine Yx (Yc (k:=12) (by rw [Zv _ hi2];simp only [Z8,Zn (Ne.symm X5),Zn Y9] <;> rfl) (by rfl) (by rw [Zv _ Zj4];simp only [Zn (Ne.symm Uw),Zn (Ne.symm Zdr),Zn (Ne.symm Kh),Zn (Ne.symm Zai),Zn (Ne.symm Zao),Zn (Ne.symm Zat),Zn (Ne.symm Zax),Zn (Ne.symm Za0),Zn (Ne.symm Za2),Zn (Ne.symm Za3)];exact Zix) Zdr (by simp only [push_cast,Nat.reduceAdd,Zs _ _ Zj4,Zs _ _ hi2,Zr (Ne.symm Uw),Zr (Ne.symm Zdr),Zr (Ne.symm Kh),Zr X5,Zr Y8,Zr Y9] <;> rfl) (by omega)) ?_
 have hU:=(Und.drop (Und.drop (Und.drop (Und.drop (Und.drop (Und.drop (Und.drop (Und.drop hU j1_0) j1_1) j1_2) j1_3) j2_0) j2_1) j2_2) j2_3)
 have ra1_2:=fun X=>@Zn X _ _ X5
 have rb1_2:=fun X=>@Zn X _ _ (Ne.symm X5)
 have rc1_2:=fun X b c=>@Zr X _ _ b c X5
 have ra1_900:=fun X=>@Zn X _ _ Y8
 have rb1_900:=fun X=>@Zn X _ _ (Ne.symm Y8)
 have rc1_900:=fun X b c=>@Zr X _ _ b c Y8
 have ra2_900:=fun X=>@Zn X _ _ Y9
 have rb2_900:=fun X=>@Zn X _ _ (Ne.symm Y9)
 have rc2_900:=fun X b c=>@Zr X _ _ b c Y9
 have hk1:∀ k,i1 < n+k:=fun k=>by omega
 have hk2:∀ k,i2 < n+k:=fun k=>by omega
 have hk900:∀ k,i900 < n+k:=fun k=>by omega
 have hN0:∀ o p r,Objs.upd (Objs.upd (Objs.upd ((((((((O.upd j1_0 none).upd j1_1 none).upd j1_2 none).upd j1_3 none).upd j2_0 none).upd j2_1 none).upd j2_2 none).upd j2_3 none) i1 o) i2 p) i900 r n=none:=fun o p r=>(Yn _ _ (by omega)).trans ((Yn _ _ (by omega)).trans (Yw hU hi1 _ (Nat.le_refl _)))
 have hN:∀ o p r k,Objs.upd (Objs.upd (Objs.upd ((((((((O.upd j1_0 none).upd j1_1 none).upd j1_2 none).upd j1_3 none).upd j2_0 none).upd j2_1 none).upd j2_2 none).upd j2_3 none) i1 o) i2 p) i900 r (n+k)=none:=fun o p r k=>(Yn _ _ (by omega)).trans ((Yn _ _ (by omega)).trans (Yw hU hi1 _ (Nat.le_add_right _ _)))
 show W _ _ _ _ ⟨53,[],[(0,.ref i900 0),(1,.ref i1 0),(2,.ref i2 0)]⟩ (Zx (((((((((((O.upd j1_0 none).upd j1_1 none).upd j1_2 none).upd j1_3 none).upd j2_0 none).upd j2_1 none).upd j2_2 none).upd j2_3 none).upd i1 (some ⟨false,85,13,1,(Zj (.ref i900 0) (.row n a1.left.Words.length) (.row (n+1) a1.left.Kids.length) (.row (n+2) a1.left.Ops.length) (.row (n+3) a1.come.length) a1)⟩)).upd i2 (some ⟨false,85,13,1,(Zj (.ref i900 0) (.row (n+4) a2.left.Words.length) (.row (n+5) a2.left.Kids.length) (.row (n+6) a2.left.Ops.length) (.row (n+7) a2.come.length) a2)⟩)).upd i900 (some ⟨false,43,2,1,[(vB a900.apart),(vB a900.clash)]⟩)) n [some (oR 48 4 Zd a1.left.Words),some (oR 50 12 Zc a1.left.Kids),some (oR 41 14 Zf a1.left.Ops),some (oR 25 3 Za a1.come),some (oR 48 4 Zd a2.left.Words),some (oR 50 12 Zc a2.left.Kids),some (oR 41 14 Zf a2.left.Ops),some (oR 25 3 Za a2.come)]) _
 obtain ⟨z1,hz1,h⟩:=bC h
 refine Xa (E':=⟨53,[],[(1,.ref i1 0),(2,.ref i2 0)]⟩) (O':=(Zx (((((((((((O.upd j1_0 none).upd j1_1 none).upd j1_2 none).upd j1_3 none).upd j2_0 none).upd j2_1 none).upd j2_2 none).upd j2_3 none).upd i1 (some ⟨false,85,13,1,(Zj (.ref i900 0) (.row n a1.left.Words.length) (.row (n+1) a1.left.Kids.length) (.row (n+2) a1.left.Ops.length) (.row (n+3) a1.come.length) a1)⟩)).upd i2 (some ⟨false,85,13,1,(Zj (.ref i900 0) (.row (n+4) a2.left.Words.length) (.row (n+5) a2.left.Kids.length) (.row (n+6) a2.left.Ops.length) (.row (n+7) a2.come.length) a2)⟩)).upd i900 (some ⟨false,43,2,1,[(vB a900.apart),(vB z1)]⟩)) n [some (oR 48 4 Zd a1.left.Words),some (oR 50 12 Zc a1.left.Kids),some (oR 41 14 Zf a1.left.Ops),some (oR 25 3 Za a1.come),some (oR 48 4 Zd a2.left.Words),some (oR 50 12 Zc a2.left.Kids),some (oR 41 14 Zf a2.left.Ops),some (oR 25 3 Za a2.come)])) (n0:=(n+8)) ?_ ?_
 ·obtain ⟨z3,hz3,hz1⟩:=bC hz1
  refine Xa (E':=⟨53,[],[(0,.ref i900 0),(1,.ref i1 0),(2,.ref i2 0),(31,(vB z3))]⟩) (O':=(Zx (((((((((((O.upd j1_0 none).upd j1_1 none).upd j1_2 none).upd j1_3 none).upd j2_0 none).upd j2_1 none).upd j2_2 none).upd j2_3 none).upd i1 (some ⟨false,85,13,1,(Zj (.ref i900 0) (.row n a1.left.Words.length) (.row (n+1) a1.left.Kids.length) (.row (n+2) a1.left.Ops.length) (.row (n+3) a1.come.length) a1)⟩)).upd i2 (some ⟨false,85,13,1,(Zj (.ref i900 0) (.row (n+4) a2.left.Words.length) (.row (n+5) a2.left.Kids.length) (.row (n+6) a2.left.Ops.length) (.row (n+7) a2.come.length) a2)⟩)).upd i900 (some ⟨false,43,2,1,[(vB a900.apart),(vB a900.clash)]⟩)) n [some (oR 48 4 Zd a1.left.Words),some (oR 50 12 Zc a1.left.Kids),some (oR 41 14 Zf a1.left.Ops),some (oR 25 3 Za a1.come),some (oR 48 4 Zd a2.left.Words),some (oR 50 12 Zc a2.left.Kids),some (oR 41 14 Zf a2.left.Ops),some (oR 25 3 Za a2.come)])) (n0:=(n+8)) ?_ ?_
  ·rcases Bool.eq_false_or_eq_true (decide (0 < (a1.come.length:Int))) with c6 | c6
   ·replace hz3:=Z4 c6 hz3
    rcases Bool.eq_false_or_eq_true (decide (0 < (a2.come.length:Int))) with c7 | c7
    ·replace hz3:=Z4 c7 hz3
     try rw [c7] at c6
     obtain ⟨y5,hy5,hz3⟩:=bC hz3
     refine Gv Z0 (by kernel_rfl) [false,false,false,false,false,false,false,false,false,false,false,false,false,false,false,false,false,false,false,false,false,false,false,true,false,false] (Ycf []) (by kernel_rfl) ?_
     simp only [push_cast,seval,Ze,c6,c7,hi1,hk1,hi2,hk2,hi900,hk900,ra1_2,rb1_2,rc1_2,ra1_900,rb1_900,rc1_900,ra2_900,rb2_900,rc2_900,hN0,hN]
     refine GCalls.lend (Qp hy5) rfl ?_ ?_
     ·simp only [push_cast,seval,Ze,c6,c7,hi1,hk1,hi2,hk2,hi900,hk900,ra1_2,rb1_2,rc1_2,ra1_900,rb1_900,rc1_900,ra2_900,rb2_900,rc2_900,hN0,hN]
     simp only [push_cast,seval,Ze,c6,c7,hi1,hk1,hi2,hk2,hi900,hk900,ra1_2,rb1_2,rc1_2,ra1_900,rb1_900,rc1_900,ra2_900,rb2_900,rc2_900,hN0,hN]
     obtain rfl:=sI hz3
     refine And.intro rfl (Fit2.of (Xf hU rfl rfl ?_) (by omega))
     simp only [push_cast,seval,Ze,c6,c7,hi1,hk1,hi2,hk2,hi900,hk900,ra1_2,rb1_2,rc1_2,ra1_900,rb1_900,rc1_900,ra2_900,rb2_900,rc2_900,hN0,hN]
    replace hz3:=Z3 c7 hz3
    try rw [c7] at c6
    refine Xw Z0 (by kernel_rfl) (Zt2 (Yb4 [])) (by kernel_rfl) ?_
    simp only [push_cast,seval,Ze,c6,c7,hi1,hk1,hi2,hk2,hi900,hk900,ra1_2,rb1_2,rc1_2,ra1_900,rb1_900,rc1_900,ra2_900,rb2_900,rc2_900,hN0,hN]
    obtain rfl:=sI hz3
    refine And.intro rfl (Fit2.of (Xf hU rfl rfl ?_) (by omega))
    simp only [push_cast,seval,Ze,c6,c7,hi1,hk1,hi2,hk2,hi900,hk900,ra1_2,rb1_2,rc1_2,ra1_900,rb1_900,rc1_900,ra2_900,rb2_900,rc2_900,hN0,hN]
   replace hz3:=Z3 c6 hz3
   refine Xw Z0 (by kernel_rfl) (Yb7 []) (by kernel_rfl) ?_
   simp only [push_cast,seval,Ze,c6,hi1,hk1,hi2,hk2,hi900,hk900,ra1_2,rb1_2,rc1_2,ra1_900,rb1_900,rc1_900,ra2_900,rb2_900,rc2_900,hN0,hN]
   obtain rfl:=sI hz3
   refine And.intro rfl (Fit2.of (Xf hU rfl rfl ?_) (by omega))
   simp only [push_cast,seval,Ze,c6,hi1,hk1,hi2,hk2,hi900,hk900,ra1_2,rb1_2,rc1_2,ra1_900,rb1_900,rc1_900,ra2_900,rb2_900,rc2_900,hN0,hN]
  refine Z5 (t:=z3) rfl (fun c8 => ?_) (fun c8 => ?_)
  ·replace hz1:=Z4 c8 hz1
   refine Ya Z0 [] ?_
   simp only [push_cast,seval,Ze,hi1,hk1,hi2,hk2,hi900,hk900,ra1_2,rb1_2,rc1_2,ra1_900,rb1_900,rc1_900,ra2_900,rb2_900,rc2_900,hN0,hN]
   obtain rfl:=sI hz1
   refine And.intro rfl (Fit2.of (Xf hU rfl rfl ?_) (by omega))
   simp only [push_cast,seval,Ze,hi1,hk1,hi2,hk2,hi900,hk900,ra1_2,rb1_2,rc1_2,ra1_900,rb1_900,rc1_900,ra2_900,rb2_900,rc2_900,hN0,hN]
  replace hz1:=Z3 c8 hz1
  refine zK ?_
  obtain rfl:=sI hz1
  refine And.intro rfl (Fit2.of (Xf hU rfl rfl ?_) (by omega))
  simp only [push_cast,seval,Ze,hi1,hk1,hi2,hk2,hi900,hk900,ra1_2,rb1_2,rc1_2,ra1_900,rb1_900,rc1_900,ra2_900,rb2_900,rc2_900,hN0,hN]
 refine Zc3 ⟨53,[],[(1,.ref i1 0),(2,.ref i2 0)]⟩ (Zx (((((((((((O.upd j1_0 none).upd j1_1 none).upd j1_2 none).upd j1_3 none).upd j2_0 none).upd j2_1 none).upd j2_2 none).upd j2_3 none).upd i1 (some ⟨false,85,13,1,(Zj (.ref i900 0) (.row n a1.left.Words.length) (.row (n+1) a1.left.Kids.length) (.row (n+2) a1.left.Ops.length) ((sL Za a1.come)) a1)⟩)).upd i2 (some ⟨false,85,13,1,(Zj (.ref i900 0) (.row (n+4) a2.left.Words.length) (.row (n+5) a2.left.Kids.length) (.row (n+6) a2.left.Ops.length) (.row (n+7) a2.come.length) a2)⟩)).upd i900 (some ⟨false,43,2,1,[(vB a900.apart),(vB z1)]⟩)) n [some (oR 48 4 Zd a1.left.Words),some (oR 50 12 Zc a1.left.Kids),some (oR 41 14 Zf a1.left.Ops),none,some (oR 48 4 Zd a2.left.Words),some (oR 50 12 Zc a2.left.Kids),some (oR 41 14 Zf a2.left.Ops),some (oR 25 3 Za a2.come)]) (Xf hU rfl rfl ?_) ?_
 ·simp only [push_cast,seval,Ze,hi1,hk1,hi2,hk2,hi900,hk900,ra1_2,rb1_2,rc1_2,ra1_900,rb1_900,rc1_900,ra2_900,rb2_900,rc2_900,hN0,hN]
 refine Zc3 ⟨53,[],[(1,.ref i1 0),(2,.ref i2 0)]⟩ (Zx (((((((((((O.upd j1_0 none).upd j1_1 none).upd j1_2 none).upd j1_3 none).upd j2_0 none).upd j2_1 none).upd j2_2 none).upd j2_3 none).upd i1 (some ⟨false,85,13,1,(Zj (.ref i900 0) (.row n a1.left.Words.length) (.row (n+1) a1.left.Kids.length) (.row (n+2) a1.left.Ops.length) ((sL Za a1.come)) a1)⟩)).upd i2 (some ⟨false,85,13,1,(Zj (.ref i900 0) (.row (n+4) a2.left.Words.length) (.row (n+5) a2.left.Kids.length) (.row (n+6) a2.left.Ops.length) ((sL Za a2.come)) a2)⟩)).upd i900 (some ⟨false,43,2,1,[(vB a900.apart),(vB z1)]⟩)) n [some (oR 48 4 Zd a1.left.Words),some (oR 50 12 Zc a1.left.Kids),some (oR 41 14 Zf a1.left.Ops),none,some (oR 48 4 Zd a2.left.Words),some (oR 50 12 Zc a2.left.Kids),some (oR 41 14 Zf a2.left.Ops),none]) (Xf hU rfl rfl ?_) ?_
 ·simp only [push_cast,seval,Ze,hi1,hk1,hi2,hk2,hi900,hk900,ra1_2,rb1_2,rc1_2,ra1_900,rb1_900,rc1_900,ra2_900,rb2_900,rc2_900,hN0,hN]
 refine Zq ?_
 obtain ⟨y10,hy10,h⟩:=bC h
 refine Ya Z0 [] ?_
 simp only [push_cast,seval,Ze,hi1,hk1,hi2,hk2,hi900,hk900,ra1_2,rb1_2,rc1_2,ra1_900,rb1_900,rc1_900,ra2_900,rb2_900,rc2_900,hN0,hN]
 refine (Zi4 (i0:=i1) (i900:=i900) (j0_0:=n) (j0_1:=(n+1)) (j0_2:=(n+2)) (by omega) (by omega) (by omega) (by omega) (by omega) (by omega) (by omega) (by omega) (by omega) (by omega) (by omega) (by omega) (by omega) (by omega) (by omega) (by simp only [push_cast,seval,Ze,Zt,hi1,hk1,hi2,hk2,hi900,hk900,ra1_2,rb1_2,rc1_2,ra1_900,rb1_900,rc1_900,ra2_900,rb2_900,rc2_900,hN0,hN] <;> rfl) (by simp only [push_cast,seval,Ze,Zt,hi1,hk1,hi2,hk2,hi900,hk900,ra1_2,rb1_2,rc1_2,ra1_900,rb1_900,rc1_900,ra2_900,rb2_900,rc2_900,hN0,hN] <;> rfl) (by simp only [push_cast,seval,Ze,Zt,hi1,hk1,hi2,hk2,hi900,hk900,ra1_2,rb1_2,rc1_2,ra1_900,rb1_900,rc1_900,ra2_900,rb2_900,rc2_900,hN0,hN] <;> rfl) (by simp only [push_cast,seval,Ze,Zt,hi1,hk1,hi2,hk2,hi900,hk900,ra1_2,rb1_2,rc1_2,ra1_900,rb1_900,rc1_900,ra2_900,rb2_900,rc2_900,hN0,hN] <;> rfl) (by simp only [push_cast,seval,Ze,Zt,hi1,hk1,hi2,hk2,hi900,hk900,ra1_2,rb1_2,rc1_2,ra1_900,rb1_900,rc1_900,ra2_900,rb2_900,rc2_900,hN0,hN] <;> rfl) hy10).then ?_
 simp only [push_cast,seval,Ze,hi1,hk1,hi2,hk2,hi900,hk900,ra1_2,rb1_2,rc1_2,ra1_900,rb1_900,rc1_900,ra2_900,rb2_900,rc2_900,hN0,hN]
 refine zDs [1,2] [false,false,false,false,true,true,true,false,true,true,true] ?_
 obtain ⟨y12,hy12,h⟩:=bC h
 refine Ya Z0 [] ?_
 simp only [push_cast,seval,Ze,hi1,hk1,hi2,hk2,hi900,hk900,ra1_2,rb1_2,rc1_2,ra1_900,rb1_900,rc1_900,ra2_900,rb2_900,rc2_900,hN0,hN]
 refine (Zi4 (i0:=i2) (i900:=i900) (j0_0:=(n+4)) (j0_1:=(n+5)) (j0_2:=(n+6)) (by omega) (by omega) (by omega) (by omega) (by omega) (by omega) (by omega) (by omega) (by omega) (by omega) (by omega) (by omega) (by omega) (by omega) (by omega) (by simp only [push_cast,seval,Ze,Zt,hi1,hk1,hi2,hk2,hi900,hk900,ra1_2,rb1_2,rc1_2,ra1_900,rb1_900,rc1_900,ra2_900,rb2_900,rc2_900,hN0,hN] <;> rfl) (by simp only [push_cast,seval,Ze,Zt,hi1,hk1,hi2,hk2,hi900,hk900,ra1_2,rb1_2,rc1_2,ra1_900,rb1_900,rc1_900,ra2_900,rb2_900,rc2_900,hN0,hN] <;> rfl) (by simp only [push_cast,seval,Ze,Zt,hi1,hk1,hi2,hk2,hi900,hk900,ra1_2,rb1_2,rc1_2,ra1_900,rb1_900,rc1_900,ra2_900,rb2_900,rc2_900,hN0,hN] <;> rfl) (by simp only [push_cast,seval,Ze,Zt,hi1,hk1,hi2,hk2,hi900,hk900,ra1_2,rb1_2,rc1_2,ra1_900,rb1_900,rc1_900,ra2_900,rb2_900,rc2_900,hN0,hN] <;> rfl) (by simp only [push_cast,seval,Ze,Zt,hi1,hk1,hi2,hk2,hi900,hk900,ra1_2,rb1_2,rc1_2,ra1_900,rb1_900,rc1_900,ra2_900,rb2_900,rc2_900,hN0,hN] <;> rfl) hy12).then ?_
 simp only [push_cast,seval,Ze,hi1,hk1,hi2,hk2,hi900,hk900,ra1_2,rb1_2,rc1_2,ra1_900,rb1_900,rc1_900,ra2_900,rb2_900,rc2_900,hN0,hN]
 refine zD [1,2] [false,false,false,false,false,false,false,false,true,true,true,true,true,true] ?_
 refine Ya Z0 [] ?_
 simp only [push_cast,seval,Ze,hi1,hk1,hi2,hk2,hi900,hk900,ra1_2,rb1_2,rc1_2,ra1_900,rb1_900,rc1_900,ra2_900,rb2_900,rc2_900,hN0,hN]
 obtain rfl:=sI h
 refine Zoj (k:=8) (i:=i1) (j:=i2) (u:=i900) (q1:=⟨false,85,13,1,(Zj (.ref i900 0) (.row n y10.1.left.Words.length) (.row (n+1) y10.1.left.Kids.length) (.row (n+2) y10.1.left.Ops.length) (.row (n+3) ([]:List Zb).length) y10.1)⟩) (p1:=⟨false,85,13,1,(Zj (.ref i900 0) (.row (n+4) y12.1.left.Words.length) (.row (n+5) y12.1.left.Kids.length) (.row (n+6) y12.1.left.Ops.length) (.row (n+7) ([]:List Zb).length) y12.1)⟩) (s1:=⟨false,43,2,1,[(vB y12.2.apart),(vB y12.2.clash)]⟩) (L3:=[some (oR 48 4 Zd y10.1.left.Words),some (oR 50 12 Zc y10.1.left.Kids),some (oR 41 14 Zf y10.1.left.Ops),some (oR 25 3 Za ([]:List Zb)),some (oR 48 4 Zd y12.1.left.Words),some (oR 50 12 Zc y12.1.left.Kids),some (oR 41 14 Zf y12.1.left.Ops),some (oR 25 3 Za ([]:List Zb)),none]) (E2:=(⟨53,[],[]⟩:Env)) (n3:=(n+9)) (.inl rfl) hU rfl [] ?_ ?_
 ·refine Fit2.trans (E':=(⟨53,[],[]⟩:Env)) (O':=(Zx (((((((((((O.upd j1_0 none).upd j1_1 none).upd j1_2 none).upd j1_3 none).upd j2_0 none).upd j2_1 none).upd j2_2 none).upd j2_3 none).upd i1 (some ⟨false,85,13,1,(Zj (.ref i900 0) (.row (n+8) y10.1.left.Words.length) (.row (n+9) y10.1.left.Kids.length) (.row (n+10) y10.1.left.Ops.length) (nV) y10.1)⟩)).upd i2 (some ⟨false,85,13,1,(Zj (.ref i900 0) (.row (n+11) y12.1.left.Words.length) (.row (n+12) y12.1.left.Kids.length) (.row (n+13) y12.1.left.Ops.length) (nV) y12.1)⟩)).upd i900 (some ⟨false,43,2,1,[(vB y12.2.apart),(vB y12.2.clash)]⟩)) n [none,none,none,none,none,none,none,none,some (oR 48 4 Zd y10.1.left.Words),some (oR 50 12 Zc y10.1.left.Kids),some (oR 41 14 Zf y10.1.left.Ops),some (oR 48 4 Zd y12.1.left.Words),some (oR 50 12 Zc y12.1.left.Kids),some (oR 41 14 Zf y12.1.left.Ops)])) (n':=(n+14)) (Fit2.of (Xf hU rfl rfl ?_) (by omega)) ?_
  ·simp only [push_cast,seval,Ze,hi1,hk1,hi2,hk2,hi900,hk900,ra1_2,rb1_2,rc1_2,ra1_900,rb1_900,rc1_900,ra2_900,rb2_900,rc2_900,hN0,hN]
  refine Fit2.trans (Vg (p:=i1) (k:=12) (q:=⟨false,85,13,1,(Zj (.ref i900 0) (.row (n+8) y10.1.left.Words.length) (.row (n+9) y10.1.left.Kids.length) (.row (n+10) y10.1.left.Ops.length) (nV) y10.1)⟩) 25 3 (by simp only [Vu,Gu,List.getElem?_cons_zero,List.getElem?_cons_succ,Option.join_some,List.length_nil,Z8,Zv,hi1,hk1,hi2,hk2,hi900,hk900,ra1_2,rb1_2,rc1_2,ra1_900,rb1_900,rc1_900,ra2_900,rb2_900,rc2_900,hN0,hN]) rfl (by omega)) ?_
  simp only [Jj,Qd,Ve,Zbl,List.set_cons_zero,List.set_cons_succ,List.cons_append,List.nil_append,List.length_cons,List.length_nil,Nat.zero_add,Nat.reduceAdd,Nat.reduceLT,Nat.add_assoc,Zs,Zhk,hi1,hk1,hi2,hk2,hi900,hk900,ra1_2,rb1_2,rc1_2,ra1_900,rb1_900,rc1_900,ra2_900,rb2_900,rc2_900,hN0,hN]
  refine Fit2.trans (Vg (p:=i2) (k:=12) (q:=⟨false,85,13,1,(Zj (.ref i900 0) (.row (n+11) y12.1.left.Words.length) (.row (n+12) y12.1.left.Kids.length) (.row (n+13) y12.1.left.Ops.length) (nV) y12.1)⟩) 25 3 (by simp only [Vu,Gu,List.getElem?_cons_zero,List.getElem?_cons_succ,Option.join_some,List.length_nil,Z8,Zv,hi1,hk1,hi2,hk2,hi900,hk900,ra1_2,rb1_2,rc1_2,ra1_900,rb1_900,rc1_900,ra2_900,rb2_900,rc2_900,hN0,hN]) rfl (by omega)) ?_
  simp only [Jj,Qd,Ve,Zbl,List.set_cons_zero,List.set_cons_succ,List.cons_append,List.nil_append,List.length_cons,List.length_nil,Nat.zero_add,Nat.reduceAdd,Nat.reduceLT,Nat.add_assoc,Zs,Zhk,hi1,hk1,hi2,hk2,hi900,hk900,ra1_2,rb1_2,rc1_2,ra1_900,rb1_900,rc1_900,ra2_900,rb2_900,rc2_900,hN0,hN]
  refine U9 (k:=16) (k':=9) hU [8,8,8,8,8,8,8,8,0,1,2,4,5,6,3,7] [8,9,10,14,11,12,13,15,0] rfl rfl rfl rfl ⟨rfl,rfl⟩ ?_
  simp only [push_cast,seval,Ze,hi1,hk1,hi2,hk2,hi900,hk900,ra1_2,rb1_2,rc1_2,ra1_900,rb1_900,rc1_900,ra2_900,rb2_900,rc2_900,hN0,hN]
 simp only [push_cast,seval,Ze,Try.results46,hi1,hk1,hi2,hk2,hi900,hk900,ra1_2,rb1_2,rc1_2,ra1_900,rb1_900,rc1_900,ra2_900,rb2_900,rc2_900,hN0,hN]
theorem Zfz {a0:Zi} {a1:Zl} {a900:Zh} {r:(Zi×Zh)} {O:Objs} {n:Nat} {i0 j0_0 j0_1 j0_2 j0_3 i900:Nat} (hi0:i0 < n) (Vp:j0_0 < n) (Vq:j0_1 < n) (Vr:j0_2 < n) (Zg0:j0_3 < n) (X8:i0≠j0_0) (X0:i0≠j0_1) (X1:i0≠j0_2) (Za4:i0≠j0_3) (Xx:j0_0≠j0_1) (Xy:j0_0≠j0_2) (G9:j0_0≠j0_3) (Xz:j0_1≠j0_2) (Zaa:j0_1≠j0_3) (Zab:j0_2≠j0_3) (hi900:i900 < n) (Xt:i900≠j0_0) (Xu:i900≠j0_1) (Xv:i900≠j0_2) (Qy:i900≠j0_3) (Yd:i0≠i900) (ho0:O i0=some ⟨false,85,13,1,(Zj (.ref i900 0) (.row j0_0 a0.left.Words.length) (.row j0_1 a0.left.Kids.length) (.row j0_2 a0.left.Ops.length) (.row j0_3 a0.come.length) a0)⟩) (Ge:O j0_0=some (oR 48 4 Zd a0.left.Words)) (Gf:O j0_1=some (oR 50 12 Zc a0.left.Kids)) (Gg:O j0_2=some (oR 41 14 Zf a0.left.Ops)) (Zip:O j0_3=some (oR 25 3 Za a0.come)) (ho900:O i900=some ⟨false,43,2,1,[(vB a900.apart),(vB a900.clash)]⟩) (h:V8 a0 a1 a900=some r):GTo Try.prog 77 [.ref i0 0,.agg (Yz a1)] O n (.tup []) (Zx ((((((O.upd j0_0 none).upd j0_1 none).upd j0_2 none).upd j0_3 none).upd i0 (some ⟨false,85,13,1,(Zj (.ref i900 0) (.row n r.1.left.Words.length) (.row (n+1) r.1.left.Kids.length) (.row (n+2) r.1.left.Ops.length) (.row (n+3) r.1.come.length) r.1)⟩)).upd i900 (some ⟨false,43,2,1,[(vB r.2.apart),(vB r.2.clash)]⟩)) n [some (oR 48 4 Zd r.1.left.Words),some (oR 50 12 Zc r.1.left.Kids),some (oR 41 14 Zf r.1.left.Ops),some (oR 25 3 Za r.1.come)]) (n+4):=by
 unfold V8 at h
 refine Zc5 Z0 Try.call77 Try.func77 rfl (Nat.le_of_ble_eq_true rfl) (by omega) fun hU => ?_
 rw [show Zx O n []=Zx ((O.upd i0 (some ⟨false,85,13,1,(Zj (.ref i900 0) (.row j0_0 a0.left.Words.length) (.row j0_1 a0.left.Kids.length) (.row j0_2 a0.left.Ops.length) (.row j0_3 a0.come.length) a0)⟩)).upd i900 (some ⟨false,43,2,1,[(vB a900.apart),(vB a900.clash)]⟩)) n [] from by rw [X4 ho0,X4 ho900]]
 refine Yx (Yc (k:=8) (by rw [Zv _ hi0];simp only [Z8,Zn Yd] <;> rfl) (by rfl) (by rw [Zv _ Vp];simp only [Zn (Ne.symm X8),Zn (Ne.symm Xt)];exact Ge) X8 (by simp only [push_cast,Nat.reduceAdd,Zs _ _ Vp,Zs _ _ hi0,Zr (Ne.symm X8),Zr (Ne.symm Xt),Zr Yd] <;> rfl) (by omega)) ?_
 refine Yx (Yc (k:=9) (by rw [Zv _ hi0];simp only [Z8,Zn Yd] <;> rfl) (by rfl) (by rw [Zv _ Vq];simp only [Zn (Ne.symm X0),Zn (Ne.symm Xu),Zn (Ne.symm Xx)];exact Gf) X0 (by simp only [push_cast,Nat.reduceAdd,Zs _ _ Vq,Zs _ _ hi0,Zr (Ne.symm X0),Zr (Ne.symm Xu),Zr Yd] <;> rfl) (by omega)) ?_
 refine Yx (Yc (k:=11) (by rw [Zv _ hi0];simp only [Z8,Zn Yd] <;> rfl) (by rfl) (by rw [Zv _ Vr];simp only [Zn (Ne.symm X1),Zn (Ne.symm Xv),Zn (Ne.symm Xy),Zn (Ne.symm Xz)];exact Gg) X1 (by simp only [push_cast,Nat.reduceAdd,Zs _ _ Vr,Zs _ _ hi0,Zr (Ne.symm X1),Zr (Ne.symm Xv),Zr Yd] <;> rfl) (by omega)) ?_
 refine Yx (Yc (k:=12) (by rw [Zv _ hi0];simp only [Z8,Zn Yd] <;> rfl) (by rfl) (by rw [Zv _ Zg0];simp only [Zn (Ne.symm Za4),Zn (Ne.symm Qy),Zn (Ne.symm G9),Zn (Ne.symm Zaa),Zn (Ne.symm Zab)];exact Zip) Za4 (by simp only [push_cast,Nat.reduceAdd,Zs _ _ Zg0,Zs _ _ hi0,Zr (Ne.symm Za4),Zr (Ne.symm Qy),Zr Yd] <;> rfl) (by omega)) ?_
 have hU:=(Und.drop (Und.drop (Und.drop (Und.drop hU j0_0) j0_1) j0_2) j0_3)
 have ra0_900:=fun X=>@Zn X _ _ Yd
 have rb0_900:=fun X=>@Zn X _ _ (Ne.symm Yd)
 have rc0_900:=fun X b c=>@Zr X _ _ b c Yd
 have hk0:∀ k,i0 < n+k:=fun k=>by omega
 have hk900:∀ k,i900 < n+k:=fun k=>by omega
 have hN0:∀ o p,Objs.upd (Objs.upd ((((O.upd j0_0 none).upd j0_1 none).upd j0_2 none).upd j0_3 none) i0 o) i900 p n=none:=fun o p=>(Yn _ _ (by omega)).trans (Yw hU hi0 _ (Nat.le_refl _))
 have hN:∀ o p k,Objs.upd (Objs.upd ((((O.upd j0_0 none).upd j0_1 none).upd j0_2 none).upd j0_3 none) i0 o) i900 p (n+k)=none:=fun o p k=>(Yn _ _ (by omega)).trans (Yw hU hi0 _ (Nat.le_add_right _ _))
 show W _ _ _ _ ⟨17,[],[(0,.ref i0 0),(1,.agg (Yz a1))]⟩ (Zx ((((((O.upd j0_0 none).upd j0_1 none).upd j0_2 none).upd j0_3 none).upd i0 (some ⟨false,85,13,1,(Zj (.ref i900 0) (.row n a0.left.Words.length) (.row (n+1) a0.left.Kids.length) (.row (n+2) a0.left.Ops.length) (.row (n+3) a0.come.length) a0)⟩)).upd i900 (some ⟨false,43,2,1,[(vB a900.apart),(vB a900.clash)]⟩)) n [some (oR 48 4 Zd a0.left.Words),some (oR 50 12 Zc a0.left.Kids),some (oR 41 14 Zf a0.left.Ops),some (oR 25 3 Za a0.come)]) _
 refine Zce [0,3] (Ya Z0 [] ?_)
 simp only [push_cast,seval,Ze,hi0,hk0,hi900,hk900,ra0_900,rb0_900,rc0_900,hN0,hN]
 obtain ⟨l1,pl1,ql1,el1,h⟩:=bA (k:=1) rfl h
 obtain ⟨x2,hx2,ax2,bx2,cx2,h⟩:=bE (f:=Zf) V2 (fun _=>rfl) (by decide) h
 have gu3:J5 (fl Zf a0.left.Ops++[.val (.int .i64 0),.val (.int .i64 0),.val (.slice none 0 0),.val (.int .i64 0),.val (.int .i64 0),.val (.slice none 0 0),.val (.slice none 0 0),.val (.int .i64 0),.val (.slice none 0 0),.val (.slice none 0 0),.val (.slice none 0 0),.val (.slice none 0 0),.val (.int .i64 0),.val (.slice none 0 0)]) [.val (.int .i64 a1.Kind),.val (.int .i64 a1.N),.sl a1.L.length (fl Za a1.L),.val (.int .i64 a1.E.Kind),.val (.int .i64 a1.E.Old.Kind),.sl a1.E.Old.Words.length (fl (eI .u64) a1.E.Old.Words),.sl a1.E.Old.Kids.length (fl Za a1.E.Old.Kids),.val (.int .i64 a1.E.New.Kind),.sl a1.E.New.Words.length (fl (eI .u64) a1.E.New.Words),.sl a1.E.New.Kids.length (fl Za a1.E.New.Kids),.sl a1.E.Words.length (fl Zd a1.E.Words),.sl a1.E.Kids.length (fl Zc a1.E.Kids),.val (.int .i64 a1.E.List_),.sl a1.E.Ops.length (fl Zf a1.E.Ops)] (List.length a0.left.Ops * 14)=some (fl Zf a0.left.Ops++[.val (.int .i64 a1.Kind),.val (.int .i64 a1.N),.sl a1.L.length (fl Za a1.L),.val (.int .i64 a1.E.Kind),.val (.int .i64 a1.E.Old.Kind),.sl a1.E.Old.Words.length (fl (eI .u64) a1.E.Old.Words),.sl a1.E.Old.Kids.length (fl Za a1.E.Old.Kids),.val (.int .i64 a1.E.New.Kind),.sl a1.E.New.Words.length (fl (eI .u64) a1.E.New.Words),.sl a1.E.New.Kids.length (fl Za a1.E.New.Kids),.sl a1.E.Words.length (fl Zd a1.E.Words),.sl a1.E.Kids.length (fl Zc a1.E.Kids),.val (.int .i64 a1.E.List_),.sl a1.E.Ops.length (fl Zf a1.E.Ops)]):=Zbr (f:=Zf) (sz:=14) (fun _=>rfl) rfl rfl
 refine Zcv Z0 (by kernel_rfl) [.plain,.low,.low,.low,.low,.low,.low,.pass,.bar,.shp,.fill true,.shp,.shp,.shp,.fill false] (fun i=>i < (n+5)) [0,1,2,3,4,5,6,7,8,9,10,11,12,13,14] [.plain,.low,.low,.low,.low,.low,.low,.pass,.bar,.shp,.fill true,.shp,.shp,.shp,.fill false] [] (by kernel_rfl) rfl ?_
 simp only [push_cast,Nat.reduceAdd,Nat.reduceSub,Nat.reduceMul,Nat.reduceLeDiff,Nat.reduceLT,Nat.reduceEqDiff,↓reduceIte,reduceCtorEq,Int.reduceBEq,Int.reduceBNe,Nat.reduceBEq,Int.reduceLE,Int.reduceLT,Int.reduceEq,Int.reduceNe,Int.reduceNeg,Nat.reduceDiv,Nat.reduceMod,Nat.reducePow,Ze,pl1,ql1,el1,ax2,bx2,cx2,gu3,hi0,hk0,hi900,hk900,ra0_900,rb0_900,rc0_900,hN0,hN]
 refine zO ?_
 obtain rfl:=sI h
 refine K5 (k:=4) (i:=i0) (j:=i900) (q1:=⟨false,85,13,1,(Zj (.ref i900 0) (.row n a0.left.Words.length) (.row (n+1) a0.left.Kids.length) (.row (n+2) (a0.left.Ops++[a1]).length) (.row (n+3) a0.come.length) a0)⟩) (p1:=⟨false,43,2,1,[(vB a900.apart),(vB a900.clash)]⟩) (L3:=[some (oR 48 4 Zd a0.left.Words),some (oR 50 12 Zc a0.left.Kids),some (oR 41 14 Zf (a0.left.Ops++[a1])),some (oR 25 3 Za a0.come),none]) (E2:=(⟨17,[],[]⟩:Env)) (n3:=(n+5)) (.inl rfl) hU rfl [] ?_ ?_
 ·refine Fit2.trans (E':=(⟨17,[],[]⟩:Env)) (O':=(Zx ((((((O.upd j0_0 none).upd j0_1 none).upd j0_2 none).upd j0_3 none).upd i0 (some ⟨false,85,13,1,(Zj (.ref i900 0) (.row n a0.left.Words.length) (.row (n+1) a0.left.Kids.length) (.row (n+2) (a0.left.Ops++[a1]).length) (.row (n+3) a0.come.length) a0)⟩)).upd i900 (some ⟨false,43,2,1,[(vB a900.apart),(vB a900.clash)]⟩)) n [some (oR 48 4 Zd a0.left.Words),some (oR 50 12 Zc a0.left.Kids),some (oR 41 14 Zf (a0.left.Ops++[a1])),some (oR 25 3 Za a0.come),none,none])) (n':=(n+6)) (Fit2.of (Xp hU rfl rfl ?_) (by omega)) ?_
  ·simp only [push_cast,Nat.reduceAdd,Nat.reduceSub,Nat.reduceMul,Nat.reduceLeDiff,Nat.reduceLT,Nat.reduceEqDiff,↓reduceIte,reduceCtorEq,Int.reduceBEq,Int.reduceBNe,Nat.reduceBEq,Int.reduceLE,Int.reduceLT,Int.reduceEq,Int.reduceNe,Int.reduceNeg,Nat.reduceDiv,Nat.reduceMod,Nat.reducePow,Ze,pl1,ql1,el1,ax2,bx2,cx2,gu3,hi0,hk0,hi900,hk900,ra0_900,rb0_900,rc0_900,hN0,hN]
  refine Jb (k:=6) (k':=5) hU [0,1,2,3,4,4] [0,1,2,3,0] rfl rfl rfl rfl ⟨rfl,rfl⟩ ?_
  simp only [push_cast,seval,Ze,hi0,hk0,hi900,hk900,ra0_900,rb0_900,rc0_900,hN0,hN]
 simp only [push_cast,seval,Ze,Try.results77,hi0,hk0,hi900,hk900,ra0_900,rb0_900,rc0_900,hN0,hN]
theorem Zfy {a0:Zi} {a1:Zg} {a900:Zh} {r:(Zi×Zh)} {O:Objs} {n:Nat} {i0 j0_0 j0_1 j0_2 j0_3 i900:Nat} (hi0:i0 < n) (Vp:j0_0 < n) (Vq:j0_1 < n) (Vr:j0_2 < n) (Zg0:j0_3 < n) (X8:i0≠j0_0) (X0:i0≠j0_1) (X1:i0≠j0_2) (Za4:i0≠j0_3) (Xx:j0_0≠j0_1) (Xy:j0_0≠j0_2) (G9:j0_0≠j0_3) (Xz:j0_1≠j0_2) (Zaa:j0_1≠j0_3) (Zab:j0_2≠j0_3) (hi900:i900 < n) (Xt:i900≠j0_0) (Xu:i900≠j0_1) (Xv:i900≠j0_2) (Qy:i900≠j0_3) (Yd:i0≠i900) (ho0:O i0=some ⟨false,85,13,1,(Zj (.ref i900 0) (.row j0_0 a0.left.Words.length) (.row j0_1 a0.left.Kids.length) (.row j0_2 a0.left.Ops.length) (.row j0_3 a0.come.length) a0)⟩) (Ge:O j0_0=some (oR 48 4 Zd a0.left.Words)) (Gf:O j0_1=some (oR 50 12 Zc a0.left.Kids)) (Gg:O j0_2=some (oR 41 14 Zf a0.left.Ops)) (Zip:O j0_3=some (oR 25 3 Za a0.come)) (ho900:O i900=some ⟨false,43,2,1,[(vB a900.apart),(vB a900.clash)]⟩) (h:Ku a0 a1 a900=some r):GTo Try.prog 68 [.ref i0 0,.agg (Zk a1)] O n (.tup []) (Zx ((((((O.upd j0_0 none).upd j0_1 none).upd j0_2 none).upd j0_3 none).upd i0 (some ⟨false,85,13,1,(Zj (.ref i900 0) (.row n r.1.left.Words.length) (.row (n+1) r.1.left.Kids.length) (.row (n+2) r.1.left.Ops.length) (.row (n+3) r.1.come.length) r.1)⟩)).upd i900 (some ⟨false,43,2,1,[(vB r.2.apart),(vB r.2.clash)]⟩)) n [some (oR 48 4 Zd r.1.left.Words),some (oR 50 12 Zc r.1.left.Kids),some (oR 41 14 Zf r.1.left.Ops),some (oR 25 3 Za r.1.come)]) (n+4):=by
 unfold Ku at h
 refine Zc5 Z0 Try.call68 Try.func68 rfl (Nat.le_of_ble_eq_true rfl) (by omega) fun hU => ?_
 rw [show Zx O n []=Zx ((O.upd i0 (some ⟨false,85,13,1,(Zj (.ref i900 0) (.row j0_0 a0.left.Words.length) (.row j0_1 a0.left.Kids.length) (.row j0_2 a0.left.Ops.length) (.row j0_3 a0.come.length) a0)⟩)).upd i900 (some ⟨false,43,2,1,[(vB a900.apart),(vB a900.clash)]⟩)) n [] from by rw [X4 ho0,X4 ho900]]
 refine Yx (Yc (k:=8) (by rw [Zv _ hi0];simp only [Z8,Zn Yd] <;> rfl) (by rfl) (by rw [Zv _ Vp];simp only [Zn (Ne.symm X8),Zn (Ne.symm Xt)];exact Ge) X8 (by simp only [push_cast,Nat.reduceAdd,Zs _ _ Vp,Zs _ _ hi0,Zr (Ne.symm X8),Zr (Ne.symm Xt),Zr Yd] <;> rfl) (by omega)) ?_
 refine Yx (Yc (k:=9) (by rw [Zv _ hi0];simp only [Z8,Zn Yd] <;> rfl) (by rfl) (by rw [Zv _ Vq];simp only [Zn (Ne.symm X0),Zn (Ne.symm Xu),Zn (Ne.symm Xx)];exact Gf) X0 (by simp only [push_cast,Nat.reduceAdd,Zs _ _ Vq,Zs _ _ hi0,Zr (Ne.symm X0),Zr (Ne.symm Xu),Zr Yd] <;> rfl) (by omega)) ?_
 refine Yx (Yc (k:=11) (by rw [Zv _ hi0];simp only [Z8,Zn Yd] <;> rfl) (by rfl) (by rw [Zv _ Vr];simp only [Zn (Ne.symm X1),Zn (Ne.symm Xv),Zn (Ne.symm Xy),Zn (Ne.symm Xz)];exact Gg) X1 (by simp only [push_cast,Nat.reduceAdd,Zs _ _ Vr,Zs _ _ hi0,Zr (Ne.symm X1),Zr (Ne.symm Xv),Zr Yd] <;> rfl) (by omega)) ?_
 refine Yx (Yc (k:=12) (by rw [Zv _ hi0];simp only [Z8,Zn Yd] <;> rfl) (by rfl) (by rw [Zv _ Zg0];simp only [Zn (Ne.symm Za4),Zn (Ne.symm Qy),Zn (Ne.symm G9),Zn (Ne.symm Zaa),Zn (Ne.symm Zab)];exact Zip) Za4 (by simp only [push_cast,Nat.reduceAdd,Zs _ _ Zg0,Zs _ _ hi0,Zr (Ne.symm Za4),Zr (Ne.symm Qy),Zr Yd] <;> rfl) (by omega)) ?_
 have hU:=(Und.drop (Und.drop (Und.drop (Und.drop hU j0_0) j0_1) j0_2) j0_3)
 have ra0_900:=fun X=>@Zn X _ _ Yd
 have rb0_900:=fun X=>@Zn X _ _ (Ne.symm Yd)
 have rc0_900:=fun X b c=>@Zr X _ _ b c Yd
 have hk0:∀ k,i0 < n+k:=fun k=>by omega
 have hk900:∀ k,i900 < n+k:=fun k=>by omega
 have hN0:∀ o p,Objs.upd (Objs.upd ((((O.upd j0_0 none).upd j0_1 none).upd j0_2 none).upd j0_3 none) i0 o) i900 p n=none:=fun o p=>(Yn _ _ (by omega)).trans (Yw hU hi0 _ (Nat.le_refl _))
 have hN:∀ o p k,Objs.upd (Objs.upd ((((O.upd j0_0 none).upd j0_1 none).upd j0_2 none).upd j0_3 none) i0 o) i900 p (n+k)=none:=fun o p k=>(Yn _ _ (by omega)).trans (Yw hU hi0 _ (Nat.le_add_right _ _))
 show W _ _ _ _ ⟨14,[],[(0,.ref i0 0),(1,.agg (Zk a1))]⟩ (Zx ((((((O.upd j0_0 none).upd j0_1 none).upd j0_2 none).upd j0_3 none).upd i0 (some ⟨false,85,13,1,(Zj (.ref i900 0) (.row n a0.left.Words.length) (.row (n+1) a0.left.Kids.length) (.row (n+2) a0.left.Ops.length) (.row (n+3) a0.come.length) a0)⟩)).upd i900 (some ⟨false,43,2,1,[(vB a900.apart),(vB a900.clash)]⟩)) n [some (oR 48 4 Zd a0.left.Words),some (oR 50 12 Zc a0.left.Kids),some (oR 41 14 Zf a0.left.Ops),some (oR 25 3 Za a0.come)]) _
 refine Zce [0,3] (Ya Z0 [] ?_)
 simp only [push_cast,seval,Ze,hi0,hk0,hi900,hk900,ra0_900,rb0_900,rc0_900,hN0,hN]
 refine Zq ?_
 refine Zce [0,3,6] (Ya Z0 [] ?_)
 simp only [push_cast,seval,Ze,hi0,hk0,hi900,hk900,ra0_900,rb0_900,rc0_900,hN0,hN]
 refine Z5 (t:=(a1.Kind == 0)) rfl (fun c4 => ?_) (fun c4 => ?_)
 ·replace h:=Z4 c4 h
  refine Zq ?_
  obtain ⟨y2,hy2,h⟩:=bC h
  refine Ya Z0 [] ?_
  simp only [push_cast,seval,Ze,hi0,hk0,hi900,hk900,ra0_900,rb0_900,rc0_900,hN0,hN]
  refine GCalls.argsW ?_ ((Zfz (i0:=i0) (i900:=i900) (j0_0:=n) (j0_1:=(n+1)) (j0_2:=(n+2)) (j0_3:=(n+3)) (by omega) (by omega) (by omega) (by omega) (by omega) (by omega) (by omega) (by omega) (by omega) (by omega) (by omega) (by omega) (by omega) (by omega) (by omega) (by omega) (by omega) (by omega) (by omega) (by omega) (by omega) (by simp only [push_cast,seval,Ze,Zt,hi0,hk0,hi900,hk900,ra0_900,rb0_900,rc0_900,hN0,hN] <;> rfl) (by simp only [push_cast,seval,Ze,Zt,hi0,hk0,hi900,hk900,ra0_900,rb0_900,rc0_900,hN0,hN] <;> rfl) (by simp only [push_cast,seval,Ze,Zt,hi0,hk0,hi900,hk900,ra0_900,rb0_900,rc0_900,hN0,hN] <;> rfl) (by simp only [push_cast,seval,Ze,Zt,hi0,hk0,hi900,hk900,ra0_900,rb0_900,rc0_900,hN0,hN] <;> rfl) (by simp only [push_cast,seval,Ze,Zt,hi0,hk0,hi900,hk900,ra0_900,rb0_900,rc0_900,hN0,hN] <;> rfl) (by simp only [push_cast,seval,Ze,Zt,hi0,hk0,hi900,hk900,ra0_900,rb0_900,rc0_900,hN0,hN] <;> rfl) hy2).then ?_)
  ·simp only [push_cast,seval,Ze,hi0,hk0,hi900,hk900,ra0_900,rb0_900,rc0_900,hN0,hN]
  simp only [push_cast,seval,Ze,hi0,hk0,hi900,hk900,ra0_900,rb0_900,rc0_900,hN0,hN]
  refine zD [] [false,false,false,false,false,true,true,true,true] ?_
  refine zW ?_
  obtain rfl:=sI h
  refine K5 (k:=4) (i:=i0) (j:=i900) (q1:=⟨false,85,13,1,(Zj (.ref i900 0) (.row n y2.1.left.Words.length) (.row (n+1) y2.1.left.Kids.length) (.row (n+2) y2.1.left.Ops.length) (.row (n+3) y2.1.come.length) y2.1)⟩) (p1:=⟨false,43,2,1,[(vB y2.2.apart),(vB y2.2.clash)]⟩) (L3:=[some (oR 48 4 Zd y2.1.left.Words),some (oR 50 12 Zc y2.1.left.Kids),some (oR 41 14 Zf y2.1.left.Ops),some (oR 25 3 Za y2.1.come),none]) (E2:=(⟨14,[],[]⟩:Env)) (n3:=(n+5)) (.inr rfl) hU rfl [] ?_ ?_
  ·refine Fit2.trans (E':=(⟨14,[],[]⟩:Env)) (O':=(Zx ((((((O.upd j0_0 none).upd j0_1 none).upd j0_2 none).upd j0_3 none).upd i0 (some ⟨false,85,13,1,(Zj (.ref i900 0) (.row (n+5) y2.1.left.Words.length) (.row (n+6) y2.1.left.Kids.length) (.row (n+7) y2.1.left.Ops.length) (.row (n+8) y2.1.come.length) y2.1)⟩)).upd i900 (some ⟨false,43,2,1,[(vB y2.2.apart),(vB y2.2.clash)]⟩)) n [none,none,none,none,none,some (oR 48 4 Zd y2.1.left.Words),some (oR 50 12 Zc y2.1.left.Kids),some (oR 41 14 Zf y2.1.left.Ops),some (oR 25 3 Za y2.1.come)])) (n':=(n+9)) (Fit2.of (Xp hU rfl rfl ?_) (by omega)) ?_
   ·simp only [push_cast,seval,Ze,hi0,hk0,hi900,hk900,ra0_900,rb0_900,rc0_900,hN0,hN]
   refine Jb (k:=9) (k':=5) hU [4,4,4,4,4,0,1,2,3] [5,6,7,8,0] rfl rfl rfl rfl ⟨rfl,rfl⟩ ?_
   simp only [push_cast,seval,Ze,hi0,hk0,hi900,hk900,ra0_900,rb0_900,rc0_900,hN0,hN]
  simp only [push_cast,seval,Ze,Try.results68,hi0,hk0,hi900,hk900,ra0_900,rb0_900,rc0_900,hN0,hN]
 replace h:=Z3 c4 h
 refine Gk [0,3] [true,true,true,true,true] ?_
 obtain ⟨y3,hy3,h⟩:=bC h
 refine Ya Z0 [] ?_
 simp only [push_cast,seval,Ze,hi0,hk0,hi900,hk900,ra0_900,rb0_900,rc0_900,hN0,hN]
 refine GCalls.argsW ?_ ((Zfz (i0:=i0) (i900:=i900) (j0_0:=n) (j0_1:=(n+1)) (j0_2:=(n+2)) (j0_3:=(n+3)) (by omega) (by omega) (by omega) (by omega) (by omega) (by omega) (by omega) (by omega) (by omega) (by omega) (by omega) (by omega) (by omega) (by omega) (by omega) (by omega) (by omega) (by omega) (by omega) (by omega) (by omega) (by simp only [push_cast,seval,Ze,Zt,hi0,hk0,hi900,hk900,ra0_900,rb0_900,rc0_900,hN0,hN] <;> rfl) (by simp only [push_cast,seval,Ze,Zt,hi0,hk0,hi900,hk900,ra0_900,rb0_900,rc0_900,hN0,hN] <;> rfl) (by simp only [push_cast,seval,Ze,Zt,hi0,hk0,hi900,hk900,ra0_900,rb0_900,rc0_900,hN0,hN] <;> rfl) (by simp only [push_cast,seval,Ze,Zt,hi0,hk0,hi900,hk900,ra0_900,rb0_900,rc0_900,hN0,hN] <;> rfl) (by simp only [push_cast,seval,Ze,Zt,hi0,hk0,hi900,hk900,ra0_900,rb0_900,rc0_900,hN0,hN] <;> rfl) (by simp only [push_cast,seval,Ze,Zt,hi0,hk0,hi900,hk900,ra0_900,rb0_900,rc0_900,hN0,hN] <;> rfl) hy3).then ?_)
 ·simp only [push_cast,seval,Ze,hi0,hk0,hi900,hk900,ra0_900,rb0_900,rc0_900,hN0,hN]
 simp only [push_cast,seval,Ze,hi0,hk0,hi900,hk900,ra0_900,rb0_900,rc0_900,hN0,hN]
 obtain rfl:=sI h
 refine K5 (k:=4) (i:=i0) (j:=i900) (q1:=⟨false,85,13,1,(Zj (.ref i900 0) (.row n y3.1.left.Words.length) (.row (n+1) y3.1.left.Kids.length) (.row (n+2) y3.1.left.Ops.length) (.row (n+3) y3.1.come.length) y3.1)⟩) (p1:=⟨false,43,2,1,[(vB y3.2.apart),(vB y3.2.clash)]⟩) (L3:=[some (oR 48 4 Zd y3.1.left.Words),some (oR 50 12 Zc y3.1.left.Kids),some (oR 41 14 Zf y3.1.left.Ops),some (oR 25 3 Za y3.1.come),none]) (E2:=(⟨14,[],[]⟩:Env)) (n3:=(n+5)) (.inl rfl) hU rfl [] ?_ ?_
 ·refine Fit2.trans (E':=(⟨14,[],[]⟩:Env)) (O':=(Zx ((((((O.upd j0_0 none).upd j0_1 none).upd j0_2 none).upd j0_3 none).upd i0 (some ⟨false,85,13,1,(Zj (.ref i900 0) (.row (n+5) y3.1.left.Words.length) (.row (n+6) y3.1.left.Kids.length) (.row (n+7) y3.1.left.Ops.length) (.row (n+8) y3.1.come.length) y3.1)⟩)).upd i900 (some ⟨false,43,2,1,[(vB y3.2.apart),(vB y3.2.clash)]⟩)) n [none,none,none,none,none,some (oR 48 4 Zd y3.1.left.Words),some (oR 50 12 Zc y3.1.left.Kids),some (oR 41 14 Zf y3.1.left.Ops),some (oR 25 3 Za y3.1.come)])) (n':=(n+9)) (Fit2.of (Xp hU rfl rfl ?_) (by omega)) ?_
  ·simp only [push_cast,seval,Ze,hi0,hk0,hi900,hk900,ra0_900,rb0_900,rc0_900,hN0,hN]
  refine Jb (k:=9) (k':=5) hU [4,4,4,4,4,0,1,2,3] [5,6,7,8,0] rfl rfl rfl rfl ⟨rfl,rfl⟩ ?_
  simp only [push_cast,seval,Ze,hi0,hk0,hi900,hk900,ra0_900,rb0_900,rc0_900,hN0,hN]
 simp only [push_cast,seval,Ze,Try.results68,hi0,hk0,hi900,hk900,ra0_900,rb0_900,rc0_900,hN0,hN]
theorem Zhz {a0:Zi} {a1:Zl} {a2:Zl} {a900:Zh} {r:(Zi×Zh)} {O:Objs} {n:Nat} {i0 j0_0 j0_1 j0_2 j0_3 i900:Nat} (hi0:i0 < n) (Vp:j0_0 < n) (Vq:j0_1 < n) (Vr:j0_2 < n) (Zg0:j0_3 < n) (X8:i0≠j0_0) (X0:i0≠j0_1) (X1:i0≠j0_2) (Za4:i0≠j0_3) (Xx:j0_0≠j0_1) (Xy:j0_0≠j0_2) (G9:j0_0≠j0_3) (Xz:j0_1≠j0_2) (Zaa:j0_1≠j0_3) (Zab:j0_2≠j0_3) (hi900:i900 < n) (Xt:i900≠j0_0) (Xu:i900≠j0_1) (Xv:i900≠j0_2) (Qy:i900≠j0_3) (Yd:i0≠i900) (ho0:O i0=some ⟨false,85,13,1,(Zj (.ref i900 0) (.row j0_0 a0.left.Words.length) (.row j0_1 a0.left.Kids.length) (.row j0_2 a0.left.Ops.length) (.row j0_3 a0.come.length) a0)⟩) (Ge:O j0_0=some (oR 48 4 Zd a0.left.Words)) (Gf:O j0_1=some (oR 50 12 Zc a0.left.Kids)) (Gg:O j0_2=some (oR 41 14 Zf a0.left.Ops)) (Zip:O j0_3=some (oR 25 3 Za a0.come)) (ho900:O i900=some ⟨false,43,2,1,[(vB a900.apart),(vB a900.clash)]⟩) (h:V9 a0 a1 a2 a900=some r):GTo Try.prog 69 [.ref i0 0,.agg (Yz a1),.agg (Yz a2)] O n (.tup []) (Zx ((((((O.upd j0_0 none).upd j0_1 none).upd j0_2 none).upd j0_3 none).upd i0 (some ⟨false,85,13,1,(Zj (.ref i900 0) (.row n r.1.left.Words.length) (.row (n+1) r.1.left.Kids.length) (.row (n+2) r.1.left.Ops.length) (.row (n+3) r.1.come.length) r.1)⟩)).upd i900 (some ⟨false,43,2,1,[(vB r.2.apart),(vB r.2.clash)]⟩)) n [some (oR 48 4 Zd r.1.left.Words),some (oR 50 12 Zc r.1.left.Kids),some (oR 41 14 Zf r.1.left.Ops),some (oR 25 3 Za r.1.come)]) (n+4):=by
 unfold V9 at h
 refine Zc5 Z0 Try.call69 Try.func69 rfl (Nat.le_of_ble_eq_true rfl) (by omega) fun hU => ?_
 rw [show Zx O n []=Zx ((O.upd i0 (some ⟨false,85,13,1,(Zj (.ref i900 0) (.row j0_0 a0.left.Words.length) (.row j0_1 a0.left.Kids.length) (.row j0_2 a0.left.Ops.length) (.row j0_3 a0.come.length) a0)⟩)).upd i900 (some ⟨false,43,2,1,[(vB a900.apart),(vB a900.clash)]⟩)) n [] from by rw [X4 ho0,X4 ho900]]
 refine Yx (Yc (k:=8) (by rw [Zv _ hi0];simp only [Z8,Zn Yd] <;> rfl) (by rfl) (by rw [Zv _ Vp];simp only [Zn (Ne.symm X8),Zn (Ne.symm Xt)];exact Ge) X8 (by simp only [push_cast,Nat.reduceAdd,Zs _ _ Vp,Zs _ _ hi0,Zr (Ne.symm X8),Zr (Ne.symm Xt),Zr Yd] <;> rfl) (by omega)) ?_
 refine Yx (Yc (k:=9) (by rw [Zv _ hi0];simp only [Z8,Zn Yd] <;> rfl) (by rfl) (by rw [Zv _ Vq];simp only [Zn (Ne.symm X0),Zn (Ne.symm Xu),Zn (Ne.symm Xx)];exact Gf) X0 (by simp only [push_cast,Nat.reduceAdd,Zs _ _ Vq,Zs _ _ hi0,Zr (Ne.symm X0),Zr (Ne.symm Xu),Zr Yd] <;> rfl) (by omega)) ?_
 refine Yx (Yc (k:=11) (by rw [Zv _ hi0];simp only [Z8,Zn Yd] <;> rfl) (by rfl) (by rw [Zv _ Vr];simp only [Zn (Ne.symm X1),Zn (Ne.symm Xv),Zn (Ne.symm Xy),Zn (Ne.symm Xz)];exact Gg) X1 (by simp only [push_cast,Nat.reduceAdd,Zs _ _ Vr,Zs _ _ hi0,Zr (Ne.symm X1),Zr (Ne.symm Xv),Zr Yd] <;> rfl) (by omega)) ?_
 refine Yx (Yc (k:=12) (by rw [Zv _ hi0];simp only [Z8,Zn Yd] <;> rfl) (by rfl) (by rw [Zv _ Zg0];simp only [Zn (Ne.symm Za4),Zn (Ne.symm Qy),Zn (Ne.symm G9),Zn (Ne.symm Zaa),Zn (Ne.symm Zab)];exact Zip) Za4 (by simp only [push_cast,Nat.reduceAdd,Zs _ _ Zg0,Zs _ _ hi0,Zr (Ne.symm Za4),Zr (Ne.symm Qy),Zr Yd] <;> rfl) (by omega)) ?_
 have hU:=(Und.drop (Und.drop (Und.drop (Und.drop hU j0_0) j0_1) j0_2) j0_3)
 have ra0_900:=fun X=>@Zn X _ _ Yd
 have rb0_900:=fun X=>@Zn X _ _ (Ne.symm Yd)
 have rc0_900:=fun X b c=>@Zr X _ _ b c Yd
 have hk0:∀ k,i0 < n+k:=fun k=>by omega
 have hk900:∀ k,i900 < n+k:=fun k=>by omega
 have hN0:∀ o p,Objs.upd (Objs.upd ((((O.upd j0_0 none).upd j0_1 none).upd j0_2 none).upd j0_3 none) i0 o) i900 p n=none:=fun o p=>(Yn _ _ (by omega)).trans (Yw hU hi0 _ (Nat.le_refl _))
 have hN:∀ o p k,Objs.upd (Objs.upd ((((O.upd j0_0 none).upd j0_1 none).upd j0_2 none).upd j0_3 none) i0 o) i900 p (n+k)=none:=fun o p k=>(Yn _ _ (by omega)).trans (Yw hU hi0 _ (Nat.le_add_right _ _))
 show W _ _ _ _ ⟨99,[],[(0,.ref i0 0),(1,.agg (Yz a1)),(2,.agg (Yz a2))]⟩ (Zx ((((((O.upd j0_0 none).upd j0_1 none).upd j0_2 none).upd j0_3 none).upd i0 (some ⟨false,85,13,1,(Zj (.ref i900 0) (.row n a0.left.Words.length) (.row (n+1) a0.left.Kids.length) (.row (n+2) a0.left.Ops.length) (.row (n+3) a0.come.length) a0)⟩)).upd i900 (some ⟨false,43,2,1,[(vB a900.apart),(vB a900.clash)]⟩)) n [some (oR 48 4 Zd a0.left.Words),some (oR 50 12 Zc a0.left.Kids),some (oR 41 14 Zf a0.left.Ops),some (oR 25 3 Za a0.come)]) _
 refine Zce [0,4,5] (Ya Z0 [] ?_)
 simp only [push_cast,seval,Ze,hi0,hk0,hi900,hk900,ra0_900,rb0_900,rc0_900,hN0,hN]
 refine Yy ?_
 refine Zce [0,4,5,8] (Ya Z0 [] ?_)
 simp only [push_cast,seval,Ze,hi0,hk0,hi900,hk900,ra0_900,rb0_900,rc0_900,hN0,hN]
 refine Z5 (t:=(a2.Kind == 0)) rfl (fun c9 => ?_) (fun c9 => ?_)
 ·replace h:=Z4 c9 h
  obtain ⟨y1,hy1,h⟩:=bC h
  refine Ya Z0 [] ?_
  simp only [push_cast,seval,Ze,hi0,hk0,hi900,hk900,ra0_900,rb0_900,rc0_900,hN0,hN]
  refine (Zfz (i0:=i0) (i900:=i900) (j0_0:=n) (j0_1:=(n+1)) (j0_2:=(n+2)) (j0_3:=(n+3)) (by omega) (by omega) (by omega) (by omega) (by omega) (by omega) (by omega) (by omega) (by omega) (by omega) (by omega) (by omega) (by omega) (by omega) (by omega) (by omega) (by omega) (by omega) (by omega) (by omega) (by omega) (by simp only [push_cast,seval,Ze,Zt,hi0,hk0,hi900,hk900,ra0_900,rb0_900,rc0_900,hN0,hN] <;> rfl) (by simp only [push_cast,seval,Ze,Zt,hi0,hk0,hi900,hk900,ra0_900,rb0_900,rc0_900,hN0,hN] <;> rfl) (by simp only [push_cast,seval,Ze,Zt,hi0,hk0,hi900,hk900,ra0_900,rb0_900,rc0_900,hN0,hN] <;> rfl) (by simp only [push_cast,seval,Ze,Zt,hi0,hk0,hi900,hk900,ra0_900,rb0_900,rc0_900,hN0,hN] <;> rfl) (by simp only [push_cast,seval,Ze,Zt,hi0,hk0,hi900,hk900,ra0_900,rb0_900,rc0_900,hN0,hN] <;> rfl) (by simp only [push_cast,seval,Ze,Zt,hi0,hk0,hi900,hk900,ra0_900,rb0_900,rc0_900,hN0,hN] <;> rfl) hy1).then ?_
  simp only [push_cast,seval,Ze,hi0,hk0,hi900,hk900,ra0_900,rb0_900,rc0_900,hN0,hN]
  obtain rfl:=sI h
  refine K5 (k:=4) (i:=i0) (j:=i900) (q1:=⟨false,85,13,1,(Zj (.ref i900 0) (.row n y1.1.left.Words.length) (.row (n+1) y1.1.left.Kids.length) (.row (n+2) y1.1.left.Ops.length) (.row (n+3) y1.1.come.length) y1.1)⟩) (p1:=⟨false,43,2,1,[(vB y1.2.apart),(vB y1.2.clash)]⟩) (L3:=[some (oR 48 4 Zd y1.1.left.Words),some (oR 50 12 Zc y1.1.left.Kids),some (oR 41 14 Zf y1.1.left.Ops),some (oR 25 3 Za y1.1.come),none]) (E2:=(⟨99,[],[]⟩:Env)) (n3:=(n+5)) (.inl rfl) hU rfl [] ?_ ?_
  ·refine Fit2.trans (E':=(⟨99,[],[]⟩:Env)) (O':=(Zx ((((((O.upd j0_0 none).upd j0_1 none).upd j0_2 none).upd j0_3 none).upd i0 (some ⟨false,85,13,1,(Zj (.ref i900 0) (.row (n+6) y1.1.left.Words.length) (.row (n+7) y1.1.left.Kids.length) (.row (n+8) y1.1.left.Ops.length) (.row (n+9) y1.1.come.length) y1.1)⟩)).upd i900 (some ⟨false,43,2,1,[(vB y1.2.apart),(vB y1.2.clash)]⟩)) n [none,none,none,none,none,none,some (oR 48 4 Zd y1.1.left.Words),some (oR 50 12 Zc y1.1.left.Kids),some (oR 41 14 Zf y1.1.left.Ops),some (oR 25 3 Za y1.1.come)])) (n':=(n+10)) (Fit2.of (Xp hU rfl rfl ?_) (by omega)) ?_
   ·simp only [push_cast,seval,Ze,hi0,hk0,hi900,hk900,ra0_900,rb0_900,rc0_900,hN0,hN]
   refine Jb (k:=10) (k':=5) hU [4,4,4,4,4,4,0,1,2,3] [6,7,8,9,0] rfl rfl rfl rfl ⟨rfl,rfl⟩ ?_
   simp only [push_cast,seval,Ze,hi0,hk0,hi900,hk900,ra0_900,rb0_900,rc0_900,hN0,hN]
  simp only [push_cast,seval,Ze,Try.results69,hi0,hk0,hi900,hk900,ra0_900,rb0_900,rc0_900,hN0,hN]
 replace h:=Z3 c9 h
 refine Zce [0,4,5,15] (Ya Z0 [none,none,none] ?_)
 simp only [push_cast,seval,Ze,hi0,hk0,hi900,hk900,ra0_900,rb0_900,rc0_900,hN0,hN]
 refine zG ?_
 refine Z5 (t:=(cond (a1.Kind == 0) (a2.Kind == 3) false)) rfl (fun c8 => ?_) (fun c8 => ?_)
 ·replace h:=Z4 c8 h
  cases h
 replace h:=Z3 c8 h
 refine Zce [0,4,5,27] (Ya Z0 [none,none,none] ?_)
 simp only [push_cast,seval,Ze,hi0,hk0,hi900,hk900,ra0_900,rb0_900,rc0_900,hN0,hN]
 refine zG ?_
 refine Z5 (t:=(cond (a1.Kind == 1) (a2.Kind == 1) false)) rfl (fun c7 => ?_) (fun c7 => ?_)
 ·replace h:=Z4 c7 h
  rcases Bool.eq_false_or_eq_true a900.apart with c3 | c3
  ·replace h:=Z4 c3 h
   refine Gv Z0 (by kernel_rfl) [false,false,false,false,false,false,false,false,false,false,false,false,false,false,false,false,false,false,false,false,false,true] (Zxe []) (by kernel_rfl) ?_
   simp only [push_cast,seval,Ze,c3,hi0,hk0,hi900,hk900,ra0_900,rb0_900,rc0_900,hN0,hN]
   obtain rfl:=sI h
   refine K5 (k:=4) (i:=i0) (j:=i900) (q1:=⟨false,85,13,1,(Zj (.ref i900 0) (.row n a0.left.Words.length) (.row (n+1) a0.left.Kids.length) (.row (n+2) a0.left.Ops.length) (.row (n+3) a0.come.length) a0)⟩) (p1:=⟨false,43,2,1,[(vB true),(vB a900.clash)]⟩) (L3:=[some (oR 48 4 Zd a0.left.Words),some (oR 50 12 Zc a0.left.Kids),some (oR 41 14 Zf a0.left.Ops),some (oR 25 3 Za a0.come),none]) (E2:=(⟨99,[],[]⟩:Env)) (n3:=(n+5)) (.inl rfl) hU rfl [] ?_ ?_
   ·refine Fit2.trans (E':=(⟨99,[],[]⟩:Env)) (O':=(Zx ((((((O.upd j0_0 none).upd j0_1 none).upd j0_2 none).upd j0_3 none).upd i0 (some ⟨false,85,13,1,(Zj (.ref i900 0) (.row n a0.left.Words.length) (.row (n+1) a0.left.Kids.length) (.row (n+2) a0.left.Ops.length) (.row (n+3) a0.come.length) a0)⟩)).upd i900 (some ⟨false,43,2,1,[(vB true),(vB a900.clash)]⟩)) n [some (oR 48 4 Zd a0.left.Words),some (oR 50 12 Zc a0.left.Kids),some (oR 41 14 Zf a0.left.Ops),some (oR 25 3 Za a0.come),none,none])) (n':=(n+6)) (Fit2.of (Xp hU rfl rfl ?_) (by omega)) ?_
    ·simp only [push_cast,seval,Ze,c3,hi0,hk0,hi900,hk900,ra0_900,rb0_900,rc0_900,hN0,hN]
    refine Jb (k:=6) (k':=5) hU [0,1,2,3,4,4] [0,1,2,3,0] rfl rfl rfl rfl ⟨rfl,rfl⟩ ?_
    simp only [push_cast,seval,Ze,hi0,hk0,hi900,hk900,ra0_900,rb0_900,rc0_900,hN0,hN]
   simp only [push_cast,seval,Ze,Try.results69,hi0,hk0,hi900,hk900,ra0_900,rb0_900,rc0_900,hN0,hN]
  replace h:=Z3 c3 h
  obtain ⟨y2,hy2,h⟩:=bC h
  refine Gv Z0 (by kernel_rfl) [false,false,false,false,false,false,false,false,false,false,false,false,false,false,false,false,false,false,false,false,false,true] (Zt2 []) (by kernel_rfl) ?_
  simp only [push_cast,seval,Ze,c3,hi0,hk0,hi900,hk900,ra0_900,rb0_900,rc0_900,hN0,hN]
  refine PCall.of (Qp hy2) ?_
  simp only [push_cast,seval,Ze,c3,hi0,hk0,hi900,hk900,ra0_900,rb0_900,rc0_900,hN0,hN]
  obtain rfl:=sI h
  refine K5 (k:=4) (i:=i0) (j:=i900) (q1:=⟨false,85,13,1,(Zj (.ref i900 0) (.row n a0.left.Words.length) (.row (n+1) a0.left.Kids.length) (.row (n+2) a0.left.Ops.length) (.row (n+3) a0.come.length) a0)⟩) (p1:=⟨false,43,2,1,[(vB (cond a900.apart true (!y2))),(vB a900.clash)]⟩) (L3:=[some (oR 48 4 Zd a0.left.Words),some (oR 50 12 Zc a0.left.Kids),some (oR 41 14 Zf a0.left.Ops),some (oR 25 3 Za a0.come),none]) (E2:=(⟨99,[],[]⟩:Env)) (n3:=(n+5)) (.inl rfl) hU rfl [] ?_ ?_
  ·refine Fit2.trans (E':=(⟨99,[],[]⟩:Env)) (O':=(Zx ((((((O.upd j0_0 none).upd j0_1 none).upd j0_2 none).upd j0_3 none).upd i0 (some ⟨false,85,13,1,(Zj (.ref i900 0) (.row n a0.left.Words.length) (.row (n+1) a0.left.Kids.length) (.row (n+2) a0.left.Ops.length) (.row (n+3) a0.come.length) a0)⟩)).upd i900 (some ⟨false,43,2,1,[(vB (cond a900.apart true (!y2))),(vB a900.clash)]⟩)) n [some (oR 48 4 Zd a0.left.Words),some (oR 50 12 Zc a0.left.Kids),some (oR 41 14 Zf a0.left.Ops),some (oR 25 3 Za a0.come),none,none])) (n':=(n+6)) (Fit2.of (Xp hU rfl rfl ?_) (by omega)) ?_
   ·simp only [push_cast,seval,Ze,c3,hi0,hk0,hi900,hk900,ra0_900,rb0_900,rc0_900,hN0,hN]
   refine Jb (k:=6) (k':=5) hU [0,1,2,3,4,4] [0,1,2,3,0] rfl rfl rfl rfl ⟨rfl,rfl⟩ ?_
   simp only [push_cast,seval,Ze,hi0,hk0,hi900,hk900,ra0_900,rb0_900,rc0_900,hN0,hN]
  simp only [push_cast,seval,Ze,Try.results69,hi0,hk0,hi900,hk900,ra0_900,rb0_900,rc0_900,hN0,hN]
 replace h:=Z3 c7 h
 refine Zce [0,4,5,57] (Ya Z0 [none,none,none] ?_)
 simp only [push_cast,seval,Ze,hi0,hk0,hi900,hk900,ra0_900,rb0_900,rc0_900,hN0,hN]
 refine zG ?_
 refine Z5 (t:=(cond (a1.Kind == 1) (a2.Kind == 3) false)) rfl (fun c6 => ?_) (fun c6 => ?_)
 ·replace h:=Z4 c6 h
  refine Zq ?_
  obtain ⟨x5,hx5,ax5,bx5,cx5,h⟩:=bE (f:=Za) Zb9 (fun _=>rfl) (by decide) h
  cases h
 replace h:=Z3 c6 h
 refine zK ?_
 obtain rfl:=sI h
 refine K5 (k:=4) (i:=i0) (j:=i900) (q1:=⟨false,85,13,1,(Zj (.ref i900 0) (.row n a0.left.Words.length) (.row (n+1) a0.left.Kids.length) (.row (n+2) a0.left.Ops.length) (.row (n+3) a0.come.length) a0)⟩) (p1:=⟨false,43,2,1,[(vB a900.apart),(vB a900.clash)]⟩) (L3:=[some (oR 48 4 Zd a0.left.Words),some (oR 50 12 Zc a0.left.Kids),some (oR 41 14 Zf a0.left.Ops),some (oR 25 3 Za a0.come),none]) (E2:=(⟨99,[],[]⟩:Env)) (n3:=(n+5)) (.inl rfl) hU rfl [] ?_ ?_
 ·refine Fit2.trans (E':=(⟨99,[],[]⟩:Env)) (O':=(Zx ((((((O.upd j0_0 none).upd j0_1 none).upd j0_2 none).upd j0_3 none).upd i0 (some ⟨false,85,13,1,(Zj (.ref i900 0) (.row n a0.left.Words.length) (.row (n+1) a0.left.Kids.length) (.row (n+2) a0.left.Ops.length) (.row (n+3) a0.come.length) a0)⟩)).upd i900 (some ⟨false,43,2,1,[(vB a900.apart),(vB a900.clash)]⟩)) n [some (oR 48 4 Zd a0.left.Words),some (oR 50 12 Zc a0.left.Kids),some (oR 41 14 Zf a0.left.Ops),some (oR 25 3 Za a0.come),none,none])) (n':=(n+6)) (Fit2.of (Xp hU rfl rfl ?_) (by omega)) ?_
  ·simp only [push_cast,seval,Ze,hi0,hk0,hi900,hk900,ra0_900,rb0_900,rc0_900,hN0,hN]
  refine Jb (k:=6) (k':=5) hU [0,1,2,3,4,4] [0,1,2,3,0] rfl rfl rfl rfl ⟨rfl,rfl⟩ ?_
  simp only [push_cast,seval,Ze,hi0,hk0,hi900,hk900,ra0_900,rb0_900,rc0_900,hN0,hN]
 simp only [push_cast,seval,Ze,Try.results69,hi0,hk0,hi900,hk900,ra0_900,rb0_900,rc0_900,hN0,hN]
end Go.Proofs.Ytocpndlnbmjpmaa
