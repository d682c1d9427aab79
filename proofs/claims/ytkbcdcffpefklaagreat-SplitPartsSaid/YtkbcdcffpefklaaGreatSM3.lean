/- Part SM3 of this seat's mirrors: functions of the seat's program, and the plain functions that they are; each theorem bears its own conditions. -/
import Derived.Test.YtkbcdcffpefklaaGreatSM1
namespace Go.Proofs.YtkbcdcffpefklaaGreat
open Go.RowKit
set_option linter.unusedVariables false
set_option linter.unusedSimpArgs false
set_option maxRecDepth 100000
set_option maxHeartbeats 4000000
attribute [local push_cast] vI vB nV sL oR K0 Ze K1 Z6 Zv Zcf Zwm Zwl Zxg Zxf Yg Z3 Zsa Zme Zmd onW X9 Zgq Zfn Zvl Zur Zqh Zql Zqg Zqk Ztk Ztg Zqj Ztj Zti Zth Zqi Zte Znd evS wok Jr Op.operands Call.operands gop onK onP atK List.all_cons List.all_nil Bool.and_true Bool.true_and Bool.and_self Value.oneCell' List.take_zero List.take_succ_cons List.take_nil List.drop_zero List.drop_succ_cons List.drop_nil List.append_nil Nat.add_zero Nat.zero_add Zat Yp ev Js Zh3 Zwf Zwe Zwk Zwi Zwj Zwg Zwh Zwd Zvv Zy8 Z16 Zmj Zgs Zlj Zgr Zpz Zjh Zkc Zkh Zl7 Zl3 Zkf Zl6 Zl5 Zl4 Zke Zl1 Zkd Zkg Zi3 Zl2 Zoc Zmf Zee Zmh Zef Zob Zmc Z0i bLo bHi bMx Zgt Zn8 Z4z Zmb Zoa Zi4 Zcu Zza Z41 Zma Zje Z45 Zgp Z6v Zsd Zsh Zsc Zsg Zw2 Zwy Zww Zp1 Zse Zw1 Zw0 Zwz Zsf Zws Zwv Zwr Zwu Z2k Z2g Z2f Zwt Z2i Z2j Zwx Zmg gone Zs4 Zm5 Zm4 pop TK.isAgg Zw9 Zxd Zw8 Zxc Zsw Z26 Z22 Zxb Z25 Z24 Z23 Zxa Z21 G.under G.unders List.getD_cons_zero List.getD_cons_succ List.set_cons_zero List.set_cons_succ List.map_cons List.map_nil List.toList_toArray Array.toList_append Option.toArray_none Option.toArray_some Array.toList_map Option.map_some Option.map_none Option.bind_some Option.bind_none List.getElem?_cons_zero List.getElem?_cons_succ List.getElem?_nil List.nil_append List.cons_append List.replicate_succ List.replicate_zero List.length_cons List.length_nil and_true true_and and_false false_and Bool.true_eq_false Bool.false_eq_true forall_const false_implies implies_true IntKind.bits if_true if_false ite_true ite_false eq_self true_implies false_or or_false or_true true_or not_true_eq_false not_false_eq_true decide_true decide_false decide_eq_true_eq decide_eq_false_iff_not beq_iff_eq bne_iff_ne ne_eq Bool.not_eq_true Bool.not_eq_false beq_eq_false_iff_ne bne_eq_false_iff_eq beq_self_eq_true bne_self_eq_false Option.some.injEq exists_eq_left' exists_eq_left ge_iff_le gt_iff_lt decide_not Bool.not_true Bool.not_false imp_self Z18 cond_true cond_false Ydp Ydo Bool.not_not Bool.and_false Bool.false_and Bool.or_true Bool.true_or Bool.or_false Bool.false_or U2 Zcy Kj Q8 Y5 Yt Option.join_some Nat.add_assoc Int.toNat_natCast eI eB eS eL Yw Zlk Zkk Zwp Zwn Zwo Z68 Yam Zls Zks Zxm Zxk Zxl Z20 Znx Z0z Zg9 Zy0 Zi8 Zy1 List.length_append G.agg.injEq G.row.injEq G.ref.injEq G.val.injEq G.sl.injEq G.tup.injEq Value.int.injEq Value.bool.injEq Value.string.injEq List.cons.injEq exists_and_left exists_const List.flatten_cons List.flatten_nil Int.le_refl Nat.le_refl Q9 Y0 Y6 Bool.not_eq_true' Bool.not_eq_false' Zyl Zoy Z4c Z4h Z4b Z4g Z9w Z9r List.size_toArray Zs7 Znu G.ren G.rens Zv7 Zj3 Zxo Zwb Zwc Ztf Z4i Zf3 G.fn.injEq Zua Zub Zyk Z9s Zt9 Z4f Z9v Z9u Z9t Z4d Z2n Z8a Option.join_none Ye G8 undef Zog Arr.len Arr.put_eq Zlr Zp6 Zm1 Zkr Zxj Zxh Zxi onB Z67 Zy7 Zs9 Zpw Zrt Zru Zrv Zrw Zrx Zry Zp3 Zp9 Zp7 Zm3 Zkt Zp8 Zs3 Zs2 Zs1 Zs0 Yal Ycd Z2z Z0o U6 Z2p Zsj Zqa Zm2 Z5s Zvq Zl8 Zn6 Zh1 Zou Zrz Zr0 Zr1 Zr2 Zo0 Zo1 Zo2 Zo3 Zo4 Zo5 Zo6 Zo7 Zo8 Zo9 Zpa Zpb Zpc Ziu prT Zhq Zpd Zpe Zpf Zpg Zph Zpi Zpj Zpk Zpl Zpm Zpn Zpo Zpp Zpq Zpr Zps Zpt Zpu Yex Z32 Zis Z33 Yey Z34 Z31 Z35 Yez Z36 Ye0 Z37 Ye1 Z38 Ye2 Z39 Z81 Zxq Z82 Zxr Z83 Zxs Z84 Zxt Z85 Zxu Z86 Zxv Z87 Zxw Z88 Zxx Z89 Zxy Z9a Zxz Z9b Zx0 Z9c Zqn Ztn Zk0 Z9d Zx1 Zbu Zx2 Z9e Zx3 Z9f Zx4 Z1m Zt7 Z9g Zx5 Zd7 Zx6 Z9h Zx7 Z9i Zx8 Zi1 Zx9 Z9j Zya Jw Zyb Zly Zyc Z9k Zyd Zq9 Zye Z9l Zyf Z9m Zyg Z9n Zyh Z1n Zt8 Z9o Zyi Z9p Zyj Z3j Zto Z3k Ztp Z0a Ztq Z3l Ztr Z3m Zts Z3n Ztt Z3o Ztu Z3p Ztv Z3q Ztw Z3r Ztx Z3s Zty Z3t Ztz Z3u Zt0 Z3v Zt1 Z3w Zt2 Z3x Zt3 Z3y Zt4 Z3z Zt5 Z30 Zt6 Za Yq Znk Zni Zmo Zmz Znm Zk2 Zky Zkw Znf Zfa Ze8 Zew Ze3 Zfc Zd9 Zd6 Zd4 Ze6 Zi Zk Zh Zd Xa Yr Xo Zbm Zbk Zaw Zba Zbo Zai Zaf Zad Zbg Zb8 Zb6 Zbx Zb2 Zca Zbi Zbe Zbc Zb4 Zhd Zhc Zgw Zg5 Zhe Zfv Zfu Zft Zhb Zqq Zqp Zp0 Zp4 Zqr Zng Zm9 Zm8 Zqo Yd Zak Zaj G9 Zab Zal U9 U8 U7 Zag Ze9 Ze7 Zev Ze2 Zfb Zd8 Zd5 Zd3 Ze5 Yh Zbl Zbj Zav Za9 Zbn Zah Zae Zac Zbf Zy Zb7 Zb5 Zbw Zb1 Zb9 Zbh Zbd Zbb Zb3 Znj Znh Zmn Zmy Znl Zk1 Zkx Zkv Zne
theorem Zhl {a0:Zw} {a1:Int} {r:Zw} {O:Objs} {n:Nat} {i0 j0_0 j0_1 j0_2:Nat} (hi0:i0 < n) (Zkl:j0_0 < n) (Zkm:j0_1 < n) (Zkn:j0_2 < n) (Zgu:i0≠j0_0) (Zc2:i0≠j0_1) (Zc3:i0≠j0_2) (Zcz:j0_0≠j0_1) (Zc0:j0_0≠j0_2) (Zc1:j0_1≠j0_2) (ho0:O i0=some ⟨false,79,4,1,[.row j0_2 a0.out.length,(vI a0.kept),.row j0_0 a0.gone.length,.row j0_1 a0.come.length]⟩) (Zmk:O j0_0=some (oR 25 3 Za a0.gone)) (Zml:O j0_1=some (oR 25 3 Za a0.come)) (Zmm:O j0_2=some (oR 42 14 Zd a0.out)) (h:Kb a0 a1=some r):GTo Tryz.prog 60 [.ref i0 0,(vI a1)] O n (.tup []) (Zr ((((O.upd j0_0 none).upd j0_1 none).upd j0_2 none).upd i0 (some ⟨false,79,4,1,[.row (n+2) r.out.length,(vI r.kept),.row n r.gone.length,.row (n+1) r.come.length]⟩)) n [some (oR 25 3 Za r.gone),some (oR 25 3 Za r.come),some (oR 42 14 Zd r.out)]) (n+3):=by
 unfold Kb at h
 refine Zn7 Zt Tryz.call60 Tryz.func60 rfl (Nat.le_of_ble_eq_true rfl) (by omega) fun hU => ?_
 have e0:=U0 (ba:=n) (E:=⟨19,[],Zh3 0 [.ref i0 0,.val (.int .i64 a1)]⟩) (O:=(Zr O n [])) (n:=n) (i:=i0) (j:=j0_0) (k:=2) (len:=a0.gone.length) (q:=⟨false,79,4,1,[.row j0_2 a0.out.length,.val (.int .i64 a0.kept),.row j0_0 a0.gone.length,.row j0_1 a0.come.length]⟩) (qj:=⟨true,25,3,a0.gone.length,fl Za a0.gone⟩) (by rw [Y0 _ hi0];first | exact ho0 | exact Ye _ _ _) rfl (by rw [Y0 _ Zkl];exact Zmk) Zgu (by omega)
 simp only [Y6 _ _ Zkl,Y6 _ _ hi0,Y5,Yt,Q9,Zf5 Zgu,List.set_cons_zero,List.set_cons_succ,List.cons_append,List.nil_append,List.length_cons,List.length_nil,Nat.zero_add,Nat.reduceAdd,Nat.add_assoc] at e0
 refine Jz e0 ?_
 have e1:=U0 (ba:=n) (E:=⟨19,[],Zh3 0 [.ref i0 0,.val (.int .i64 a1)]⟩) (O:=(Zr ((O.upd j0_0 none).upd i0 (some ⟨false,79,4,1,[.row j0_2 a0.out.length,.val (.int .i64 a0.kept),.row n a0.gone.length,.row j0_1 a0.come.length]⟩)) n [some ⟨true,25,3,a0.gone.length,fl Za a0.gone⟩])) (n:=(n+1)) (i:=i0) (j:=j0_1) (k:=3) (len:=a0.come.length) (q:=⟨false,79,4,1,[.row j0_2 a0.out.length,.val (.int .i64 a0.kept),.row n a0.gone.length,.row j0_1 a0.come.length]⟩) (qj:=⟨true,25,3,a0.come.length,fl Za a0.come⟩) (by rw [Y0 _ hi0];first | exact ho0 | exact Ye _ _ _) rfl (by rw [Y0 _ Zkm,Yz _ _ (Ne.symm Zc2),Yz _ _ (Ne.symm Zcz)];exact Zml) Zc2 (by omega)
 simp only [Y6 _ _ Zkm,Y6 _ _ hi0,Y5,Yt,Q9,Zf5 Zc2,List.set_cons_zero,List.set_cons_succ,List.cons_append,List.nil_append,List.length_cons,List.length_nil,Nat.zero_add,Nat.reduceAdd,Nat.add_assoc] at e1
 refine Jz e1 ?_
 have e2:=U0 (ba:=n) (E:=⟨19,[],Zh3 0 [.ref i0 0,.val (.int .i64 a1)]⟩) (O:=(Zr (((O.upd j0_0 none).upd j0_1 none).upd i0 (some ⟨false,79,4,1,[.row j0_2 a0.out.length,.val (.int .i64 a0.kept),.row n a0.gone.length,.row (n+1) a0.come.length]⟩)) n [some ⟨true,25,3,a0.gone.length,fl Za a0.gone⟩,some ⟨true,25,3,a0.come.length,fl Za a0.come⟩])) (n:=(n+2)) (i:=i0) (j:=j0_2) (k:=0) (len:=a0.out.length) (q:=⟨false,79,4,1,[.row j0_2 a0.out.length,.val (.int .i64 a0.kept),.row n a0.gone.length,.row (n+1) a0.come.length]⟩) (qj:=⟨true,42,14,a0.out.length,fl Zd a0.out⟩) (by rw [Y0 _ hi0];first | exact ho0 | exact Ye _ _ _) rfl (by rw [Y0 _ Zkn,Yz _ _ (Ne.symm Zc3),Yz _ _ (Ne.symm Zc1),Yz _ _ (Ne.symm Zc0)];exact Zmm) Zc3 (by omega)
 simp only [Y6 _ _ Zkn,Y6 _ _ hi0,Y5,Yt,Q9,Zf5 Zc3,List.set_cons_zero,List.set_cons_succ,List.cons_append,List.nil_append,List.length_cons,List.length_nil,Nat.zero_add,Nat.reduceAdd,Nat.add_assoc] at e2
 refine Jz e2 ?_
 have hU:=(Und.drop (Und.drop (Und.drop hU j0_0) j0_1) j0_2)
 have hk0:∀ k,i0 < n+k:=fun k=>by omega
 have hN0:∀ o,Objs.upd (((O.upd j0_0 none).upd j0_1 none).upd j0_2 none) i0 o n=none:=fun o=>Kz hU hi0 _ (Nat.le_refl _)
 have hN:∀ o k,Objs.upd (((O.upd j0_0 none).upd j0_1 none).upd j0_2 none) i0 o (n+k)=none:=fun o k=>Kz hU hi0 _ (Nat.le_add_right _ _)
 show W _ _ _ _ ⟨19,[],[(0,.ref i0 0),(1,(vI a1))]⟩ (Zr ((((O.upd j0_0 none).upd j0_1 none).upd j0_2 none).upd i0 (some ⟨false,79,4,1,[.row (n+2) a0.out.length,(vI a0.kept),.row n a0.gone.length,.row (n+1) a0.come.length]⟩)) n [some (oR 25 3 Za a0.gone),some (oR 25 3 Za a0.come),some (oR 42 14 Zd a0.out)]) _
 obtain ⟨z1,hz1,h⟩:=bC h
 refine Yk (E':=⟨19,[],[(0,.ref i0 0),(1,(vI a1))]⟩) (O':=(Zr ((((O.upd j0_0 none).upd j0_1 none).upd j0_2 none).upd i0 (some ⟨false,79,4,1,[.row (n+6) z1.1.length,(vI z1.2.2.2),.row (n+7) z1.2.1.length,.row (n+8) z1.2.2.1.length]⟩)) n [none,none,none,none,none,none,some (oR 42 14 Zd z1.1),some (oR 25 3 Za z1.2.1),some (oR 25 3 Za z1.2.2.1)])) (n0:=(n+9)) ?_ ?_
 ·refine Znn [0,1,8] hi0 hk0 ?_
  refine Zp (t:=(a0.kept == 0)) rfl (fun c3 => ?_) (fun c3 => ?_)
  ·replace hz1:=Zo c3 hz1
   obtain ⟨y2,hy2,hz1⟩:=bC hz1
   refine Ja [] hi0 hk0 ?_
   refine (V9 (i0:=i0) (j0_0:=n) (j0_1:=(n+1)) (j0_2:=(n+2)) (by omega) (by omega) (by omega) (by omega) (by omega) (by omega) (by omega) (by omega) (by omega) (by omega) (by simp only [push_cast,seval,Zf,Yw,hi0,hk0,hN0,hN] <;> rfl) (by simp only [push_cast,seval,Zf,Yw,hi0,hk0,hN0,hN] <;> rfl) (by simp only [push_cast,seval,Zf,Yw,hi0,hk0,hN0,hN] <;> rfl) (by simp only [push_cast,seval,Zf,Yw,hi0,hk0,hN0,hN] <;> rfl) hy2).then ?_
   refine zX2 hi0 hk0 ?_
   obtain rfl:=sI hz1
   refine And.intro rfl ?_
   refine Fit2.trans (E':=(⟨19,[],[(0,.ref i0 0),(1,(vI a1))]⟩:Env)) (O':=(Zr ((((O.upd j0_0 none).upd j0_1 none).upd j0_2 none).upd i0 (some ⟨false,79,4,1,[.row (n+5) y2.out.length,(vI y2.kept),.row (n+3) y2.gone.length,.row (n+4) y2.come.length]⟩)) n [none,none,none,some (oR 25 3 Za y2.gone),some (oR 25 3 Za y2.come),some (oR 42 14 Zd y2.out)])) (n':=(n+6)) (Fit2.of (Xc hU rfl rfl ?_) (by omega)) ?_
   ·exact Vt hi0 hk0
   refine G4 (k:=6) (k':=9) hU [5,5,5,7,8,6] [0,0,0,0,0,0,5,3,4] rfl rfl rfl rfl ⟨rfl,rfl⟩ ?_
   exact Vt hi0 hk0
  replace hz1:=Zn c3 hz1
  refine zK ?_
  obtain rfl:=sI hz1
  refine And.intro rfl ?_
  refine Fit2.trans (E':=(⟨19,[],[(0,.ref i0 0),(1,(vI a1))]⟩:Env)) (O':=(Zr ((((O.upd j0_0 none).upd j0_1 none).upd j0_2 none).upd i0 (some ⟨false,79,4,1,[.row (n+2) a0.out.length,(vI a0.kept),.row n a0.gone.length,.row (n+1) a0.come.length]⟩)) n [some (oR 25 3 Za a0.gone),some (oR 25 3 Za a0.come),some (oR 42 14 Zd a0.out)])) (n':=(n+3)) (Fit2.of (Xc hU rfl rfl ?_) (by omega)) ?_
  ·exact Vt hi0 hk0
  refine G4 (k:=3) (k':=9) hU [7,8,6] [0,0,0,0,0,0,2,0,1] rfl rfl rfl rfl ⟨rfl,rfl⟩ ?_
  exact Vt hi0 hk0
 refine Ja [] hi0 hk0 ?_
 obtain rfl:=sI h
 refine Zgn (k:=3) (i:=i0) (q1:=⟨false,79,4,1,[.row (n+2) z1.1.length,(vI (IntKind.i64.wrap (z1.2.2.2+a1))),.row n z1.2.1.length,.row (n+1) z1.2.2.1.length]⟩) (L3:=[some (oR 25 3 Za z1.2.1),some (oR 25 3 Za z1.2.2.1),some (oR 42 14 Zd z1.1),none]) (E2:=(⟨19,[],[]⟩:Env)) (n3:=(n+4)) (.inl rfl) hU rfl [] ?_ ?_
 ·refine Fit2.trans (E':=(⟨19,[],[]⟩:Env)) (O':=(Zr ((((O.upd j0_0 none).upd j0_1 none).upd j0_2 none).upd i0 (some ⟨false,79,4,1,[.row (n+6) z1.1.length,(vI (IntKind.i64.wrap (z1.2.2.2+a1))),.row (n+7) z1.2.1.length,.row (n+8) z1.2.2.1.length]⟩)) n [none,none,none,none,none,none,some (oR 42 14 Zd z1.1),some (oR 25 3 Za z1.2.1),some (oR 25 3 Za z1.2.2.1)])) (n':=(n+9)) (Fit2.of (Xc hU rfl rfl ?_) (by omega)) ?_
  ·exact Vt hi0 hk0
  refine G4 (k:=9) (k':=4) hU [3,3,3,3,3,3,2,0,1] [7,8,6,0] rfl rfl rfl rfl ⟨rfl,rfl⟩ ?_
  exact Vt hi0 hk0
 simp only [push_cast,seval,Zf,Tryz.results60,hi0,hk0,hN0,hN]
theorem Zj8 {a0:Zw} {a2:(List Zc)} {r:Zw} {O:Objs} {n:Nat} {i0 j0_0 j0_1 j0_2:Nat} (hi0:i0 < n) (Zkl:j0_0 < n) (Zkm:j0_1 < n) (Zkn:j0_2 < n) (Zgu:i0≠j0_0) (Zc2:i0≠j0_1) (Zc3:i0≠j0_2) (Zcz:j0_0≠j0_1) (Zc0:j0_0≠j0_2) (Zc1:j0_1≠j0_2) (ho0:O i0=some ⟨false,79,4,1,[.row j0_2 a0.out.length,(vI a0.kept),.row j0_0 a0.gone.length,.row j0_1 a0.come.length]⟩) (Zmk:O j0_0=some (oR 25 3 Za a0.gone)) (Zml:O j0_1=some (oR 25 3 Za a0.come)) (Zmm:O j0_2=some (oR 42 14 Zd a0.out)) (h:Jt a0 a2=some r):GTo Tryz.prog 61 [.ref i0 0,.ref i0 2,(sL Za a2)] O n (.tup []) (Zr ((((O.upd j0_0 none).upd j0_1 none).upd j0_2 none).upd i0 (some ⟨false,79,4,1,[.row (n+2) r.out.length,(vI r.kept),.row n r.gone.length,.row (n+1) r.come.length]⟩)) n [some (oR 25 3 Za r.gone),some (oR 25 3 Za r.come),some (oR 42 14 Zd r.out)]) (n+3):=by
 unfold Jt at h
 refine Zn7 Zt Tryz.call61 Tryz.func61 rfl (Nat.le_of_ble_eq_true rfl) (by omega) fun hU => ?_
 have e0:=U0 (ba:=n) (E:=⟨32,[],Zh3 0 [.ref i0 0,.ref i0 2,.sl a2.length (fl Za a2)]⟩) (O:=(Zr O n [])) (n:=n) (i:=i0) (j:=j0_0) (k:=2) (len:=a0.gone.length) (q:=⟨false,79,4,1,[.row j0_2 a0.out.length,.val (.int .i64 a0.kept),.row j0_0 a0.gone.length,.row j0_1 a0.come.length]⟩) (qj:=⟨true,25,3,a0.gone.length,fl Za a0.gone⟩) (by rw [Y0 _ hi0];first | exact ho0 | exact Ye _ _ _) rfl (by rw [Y0 _ Zkl];exact Zmk) Zgu (by omega)
 simp only [Y6 _ _ Zkl,Y6 _ _ hi0,Y5,Yt,Q9,Zf5 Zgu,List.set_cons_zero,List.set_cons_succ,List.cons_append,List.nil_append,List.length_cons,List.length_nil,Nat.zero_add,Nat.reduceAdd,Nat.add_assoc] at e0
 refine Jz e0 ?_
 have e1:=U0 (ba:=n) (E:=⟨32,[],Zh3 0 [.ref i0 0,.ref i0 2,.sl a2.length (fl Za a2)]⟩) (O:=(Zr ((O.upd j0_0 none).upd i0 (some ⟨false,79,4,1,[.row j0_2 a0.out.length,.val (.int .i64 a0.kept),.row n a0.gone.length,.row j0_1 a0.come.length]⟩)) n [some ⟨true,25,3,a0.gone.length,fl Za a0.gone⟩])) (n:=(n+1)) (i:=i0) (j:=j0_1) (k:=3) (len:=a0.come.length) (q:=⟨false,79,4,1,[.row j0_2 a0.out.length,.val (.int .i64 a0.kept),.row n a0.gone.length,.row j0_1 a0.come.length]⟩) (qj:=⟨true,25,3,a0.come.length,fl Za a0.come⟩) (by rw [Y0 _ hi0];first | exact ho0 | exact Ye _ _ _) rfl (by rw [Y0 _ Zkm,Yz _ _ (Ne.symm Zc2),Yz _ _ (Ne.symm Zcz)];exact Zml) Zc2 (by omega)
 simp only [Y6 _ _ Zkm,Y6 _ _ hi0,Y5,Yt,Q9,Zf5 Zc2,List.set_cons_zero,List.set_cons_succ,List.cons_append,List.nil_append,List.length_cons,List.length_nil,Nat.zero_add,Nat.reduceAdd,Nat.add_assoc] at e1
 refine Jz e1 ?_
 have e2:=U0 (ba:=n) (E:=⟨32,[],Zh3 0 [.ref i0 0,.ref i0 2,.sl a2.length (fl Za a2)]⟩) (O:=(Zr (((O.upd j0_0 none).upd j0_1 none).upd i0 (some ⟨false,79,4,1,[.row j0_2 a0.out.length,.val (.int .i64 a0.kept),.row n a0.gone.length,.row (n+1) a0.come.length]⟩)) n [some ⟨true,25,3,a0.gone.length,fl Za a0.gone⟩,some ⟨true,25,3,a0.come.length,fl Za a0.come⟩])) (n:=(n+2)) (i:=i0) (j:=j0_2) (k:=0) (len:=a0.out.length) (q:=⟨false,79,4,1,[.row j0_2 a0.out.length,.val (.int .i64 a0.kept),.row n a0.gone.length,.row (n+1) a0.come.length]⟩) (qj:=⟨true,42,14,a0.out.length,fl Zd a0.out⟩) (by rw [Y0 _ hi0];first | exact ho0 | exact Ye _ _ _) rfl (by rw [Y0 _ Zkn,Yz _ _ (Ne.symm Zc3),Yz _ _ (Ne.symm Zc1),Yz _ _ (Ne.symm Zc0)];exact Zmm) Zc3 (by omega)
 simp only [Y6 _ _ Zkn,Y6 _ _ hi0,Y5,Yt,Q9,Zf5 Zc3,List.set_cons_zero,List.set_cons_succ,List.cons_append,List.nil_append,List.length_cons,List.length_nil,Nat.zero_add,Nat.reduceAdd,Nat.add_assoc] at e2
 refine Jz e2 ?_
 have hU:=(Und.drop (Und.drop (Und.drop hU j0_0) j0_1) j0_2)
 have hk0:∀ k,i0 < n+k:=fun k=>by omega
 have hN0:∀ o,Objs.upd (((O.upd j0_0 none).upd j0_1 none).upd j0_2 none) i0 o n=none:=fun o=>Kz hU hi0 _ (Nat.le_refl _)
 have hN:∀ o k,Objs.upd (((O.upd j0_0 none).upd j0_1 none).upd j0_2 none) i0 o (n+k)=none:=fun o k=>Kz hU hi0 _ (Nat.le_add_right _ _)
 show W _ _ _ _ ⟨32,[],[(0,.ref i0 0),(1,.ref i0 2),(2,(sL Za a2))]⟩ (Zr ((((O.upd j0_0 none).upd j0_1 none).upd j0_2 none).upd i0 (some ⟨false,79,4,1,[.row (n+2) a0.out.length,(vI a0.kept),.row n a0.gone.length,.row (n+1) a0.come.length]⟩)) n [some (oR 25 3 Za a0.gone),some (oR 25 3 Za a0.come),some (oR 42 14 Zd a0.out)]) _
 obtain ⟨z1,hz1,h⟩:=bC h
 refine Yk (E':=⟨32,[],[(1,.ref i0 2),(2,(sL Za a2))]⟩) (O':=(Zr ((((O.upd j0_0 none).upd j0_1 none).upd j0_2 none).upd i0 (some ⟨false,79,4,1,[.row (n+6) z1.1.length,(vI z1.2.2.2),.row (n+7) z1.2.1.length,.row (n+8) z1.2.2.1.length]⟩)) n [none,none,none,none,none,none,some (oR 42 14 Zd z1.1),some (oR 25 3 Za z1.2.1),some (oR 25 3 Za z1.2.2.1)])) (n0:=(n+9)) ?_ ?_
 ·refine Znn [0,1,2,12] hi0 hk0 ?_
  refine Zp (t:=(decide (0 < a0.kept))) rfl (fun c3 => ?_) (fun c3 => ?_)
  ·replace hz1:=Zo c3 hz1
   obtain ⟨y2,hy2,hz1⟩:=bC hz1
   refine Ja [] hi0 hk0 ?_
   refine (V9 (i0:=i0) (j0_0:=n) (j0_1:=(n+1)) (j0_2:=(n+2)) (by omega) (by omega) (by omega) (by omega) (by omega) (by omega) (by omega) (by omega) (by omega) (by omega) (by simp only [push_cast,seval,Zf,Yw,hi0,hk0,hN0,hN] <;> rfl) (by simp only [push_cast,seval,Zf,Yw,hi0,hk0,hN0,hN] <;> rfl) (by simp only [push_cast,seval,Zf,Yw,hi0,hk0,hN0,hN] <;> rfl) (by simp only [push_cast,seval,Zf,Yw,hi0,hk0,hN0,hN] <;> rfl) hy2).then ?_
   refine zX2 hi0 hk0 ?_
   obtain rfl:=sI hz1
   refine And.intro rfl ?_
   refine Fit2.trans (E':=(⟨32,[],[(1,.ref i0 2),(2,(sL Za a2))]⟩:Env)) (O':=(Zr ((((O.upd j0_0 none).upd j0_1 none).upd j0_2 none).upd i0 (some ⟨false,79,4,1,[.row (n+5) y2.out.length,(vI y2.kept),.row (n+3) y2.gone.length,.row (n+4) y2.come.length]⟩)) n [none,none,none,some (oR 25 3 Za y2.gone),some (oR 25 3 Za y2.come),some (oR 42 14 Zd y2.out)])) (n':=(n+6)) (Fit2.of (Xc hU rfl rfl ?_) (by omega)) ?_
   ·exact Vt hi0 hk0
   refine G4 (k:=6) (k':=9) hU [5,5,5,7,8,6] [0,0,0,0,0,0,5,3,4] rfl rfl rfl rfl ⟨rfl,rfl⟩ ?_
   exact Vt hi0 hk0
  replace hz1:=Zn c3 hz1
  refine zK ?_
  obtain rfl:=sI hz1
  refine And.intro rfl ?_
  refine Fit2.trans (E':=(⟨32,[],[(1,.ref i0 2),(2,(sL Za a2))]⟩:Env)) (O':=(Zr ((((O.upd j0_0 none).upd j0_1 none).upd j0_2 none).upd i0 (some ⟨false,79,4,1,[.row (n+2) a0.out.length,(vI a0.kept),.row n a0.gone.length,.row (n+1) a0.come.length]⟩)) n [some (oR 25 3 Za a0.gone),some (oR 25 3 Za a0.come),some (oR 42 14 Zd a0.out)])) (n':=(n+3)) (Fit2.of (Xc hU rfl rfl ?_) (by omega)) ?_
  ·exact Vt hi0 hk0
  refine G4 (k:=3) (k':=9) hU [7,8,6] [0,0,0,0,0,0,2,0,1] rfl rfl rfl rfl ⟨rfl,rfl⟩ ?_
  exact Vt hi0 hk0
 refine Znn [1,15,16,17] hi0 hk0 ?_
 refine zD [1,15,16,17] [false,false,false,false,false,false,true,true,true] ?_
 obtain ⟨z11,hz11,h⟩:=bC h
 refine Z8 (E':=⟨32,[],[]⟩) (O':=(Zr ((((O.upd j0_0 none).upd j0_1 none).upd j0_2 none).upd i0 (some ⟨false,79,4,1,[.row (n+6) z1.1.length,(vI z1.2.2.2),.row (n+7) z11.length,.row (n+8) z1.2.2.1.length]⟩)) n [none,none,none,none,none,none,some (oR 42 14 Zd z1.1),some (oR 25 3 Za z11),some (oR 25 3 Za z1.2.2.1)])) (n0:=(n+9)) ?_ ?_
 ·refine Yi hz11 (fun s0_=>⟨32,[],[(1,.ref i0 2),(15,(sL Za a2)),(16,(vI (a2.length:Int))),(17,(vI s0_.1))]⟩) (fun s0_=>(Zr ((((O.upd j0_0 none).upd j0_1 none).upd j0_2 none).upd i0 (some ⟨false,79,4,1,[.row (n+6) z1.1.length,(vI z1.2.2.2),.row (n+7) s0_.2.length,.row (n+8) z1.2.2.1.length]⟩)) n [none,none,none,none,none,none,some (oR 42 14 Zd z1.1),some (oR 25 3 Za s0_.2),some (oR 25 3 Za z1.2.2.1)])) (fun z11=>JX 0 n (⟨32,[],[]⟩:Env) (Zr ((((O.upd j0_0 none).upd j0_1 none).upd j0_2 none).upd i0 (some ⟨false,79,4,1,[.row (n+6) z1.1.length,(vI z1.2.2.2),.row (n+7) z11.length,.row (n+8) z1.2.2.1.length]⟩)) n [none,none,none,none,none,none,some (oR 42 14 Zd z1.1),some (oR 25 3 Za z11),some (oR 25 3 Za z1.2.2.1)]) (n+9)) ?_
  intro s0_ x0_ hs0_
  unfold Qr at hs0_
  try dsimp only
  refine Znn [1,15,16,17,18] hi0 hk0 ?_
  refine Zl ?_
  refine Zp (t:=(decide (s0_.1 < (a2.length:Int)))) rfl (fun c10 => ?_) (fun c10 => ?_)
  ·replace hs0_:=Zo c10 hs0_
   refine Q5 [1,15,16,17] [false,false,false,false,false,false,true,true,true] ?_
   refine Zl ?_
   refine Z0 ?_
   refine Zl ?_
   obtain ⟨x5,hx5,ax5,bx5,cx5,hs0_⟩:=bE (f:=Za) Zbu (fun _=>rfl) (by decide) hs0_
   refine Z6e [] ax5 bx5 cx5 hi0 hk0 ?_
   refine zD [1,7,15,16,17] [false,false,false,false,false,false,true,true,true,true] ?_
   obtain ⟨y6,hy6,hs0_⟩:=bC hs0_
   obtain ⟨l7,pl7,ql7,el7,hs0_⟩:=bA (k:=1) rfl hs0_
   obtain ⟨x8,hx8,ax8,bx8,cx8,hs0_⟩:=bE (f:=Za) Zbu (fun _=>rfl) (by decide) hs0_
   have gu9:Ke (fl Za s0_.2++[.val (.int .i64 0),.val (.slice none 0 0),.val (.slice none 0 0)]) [.val (.int .i64 y6.Kind),.sl y6.Words.length (fl (eI .u64) y6.Words),.sl y6.Kids.length (fl Za y6.Kids)] (List.length s0_.2 * 3)=some (fl Za s0_.2++[.val (.int .i64 y6.Kind),.sl y6.Words.length (fl (eI .u64) y6.Words),.sl y6.Kids.length (fl Za y6.Kids)]):=Zf8 (f:=Za) (sz:=3) (fun _=>rfl) rfl rfl
   refine Zes Zt (by kernel_rfl) [.plain,.low,.low,.low,.low,.low,.pass,.bar,.shp,.fill true,.shp,.fill false] (fun i=>i < (n+10)) [0,1,2,3,4,5,6,7,8,9,10,11] [.plain,.low,.low,.low,.low,.low,.pass,.bar,.shp,.fill true,.shp,.fill false] [] (by kernel_rfl) rfl ?_
   refine zF9 pl7 ql7 el7 ax8 bx8 cx8 gu9 hi0 hk0 ?_
   refine zO ?_
   first | refine PCallA.of (fun _ _=>Ze1 hy6) ?_ | refine PCall.of (Ze1 hy6) ?_
   refine zF9 pl7 ql7 el7 ax8 bx8 cx8 gu9 hi0 hk0 ?_
   refine zO ?_
   refine Zan ⟨32,[],[(1,.ref i0 2),(15,(sL Za a2)),(16,(vI (a2.length:Int))),(17,(vI s0_.1))]⟩ (Zr ((((O.upd j0_0 none).upd j0_1 none).upd j0_2 none).upd i0 (some ⟨false,79,4,1,[.row (n+6) z1.1.length,(vI z1.2.2.2),.row (n+7) (s0_.2++[y6]).length,.row (n+8) z1.2.2.1.length]⟩)) n [none,none,none,none,none,none,some (oR 42 14 Zd z1.1),some (oR 25 3 Za (s0_.2++[y6])),some (oR 25 3 Za z1.2.2.1),none,none]) (Xc hU rfl rfl ?_) ?_
   ·exact Z7j pl7 ql7 el7 ax8 bx8 cx8 gu9 hi0 hk0
   refine Ja [] hi0 hk0 ?_
   obtain rfl:=sI hs0_
   refine And.intro rfl (Fit2.of (Xc hU rfl rfl ?_) (by omega))
   exact Vt hi0 hk0
  replace hs0_:=Zn c10 hs0_
  refine zXt ?_
  obtain rfl:=sI hs0_
  refine And.intro (fun h=>by cases h) (And.intro rfl (Fit2.of (Xc hU rfl rfl ?_) (by omega)))
  exact Vt hi0 hk0
 try simp only [Yg,Z3,↓reduceIte,Nat.reduceEqDiff]
 obtain rfl:=sI h
 refine Zgn (k:=3) (i:=i0) (q1:=⟨false,79,4,1,[.row (n+2) z1.1.length,(vI z1.2.2.2),.row n z11.length,.row (n+1) z1.2.2.1.length]⟩) (L3:=[some (oR 25 3 Za z11),some (oR 25 3 Za z1.2.2.1),some (oR 42 14 Zd z1.1),none]) (E2:=(⟨32,[],[]⟩:Env)) (n3:=(n+4)) (.inl rfl) hU rfl [] ?_ ?_
 ·refine Fit2.trans (E':=(⟨32,[],[]⟩:Env)) (O':=(Zr ((((O.upd j0_0 none).upd j0_1 none).upd j0_2 none).upd i0 (some ⟨false,79,4,1,[.row (n+6) z1.1.length,(vI z1.2.2.2),.row (n+7) z11.length,.row (n+8) z1.2.2.1.length]⟩)) n [none,none,none,none,none,none,some (oR 42 14 Zd z1.1),some (oR 25 3 Za z11),some (oR 25 3 Za z1.2.2.1)])) (n':=(n+9)) (Fit2.of (Xc hU rfl rfl ?_) (by omega)) ?_
  ·exact Vt hi0 hk0
  refine G4 (k:=9) (k':=4) hU [3,3,3,3,3,3,2,0,1] [7,8,6,0] rfl rfl rfl rfl ⟨rfl,rfl⟩ ?_
  exact Vt hi0 hk0
 simp only [push_cast,seval,Zf,Tryz.results61,hi0,hk0,hN0,hN]
theorem Zj9 {a0:Zw} {a2:(List Zc)} {r:Zw} {O:Objs} {n:Nat} {i0 j0_0 j0_1 j0_2:Nat} (hi0:i0 < n) (Zkl:j0_0 < n) (Zkm:j0_1 < n) (Zkn:j0_2 < n) (Zgu:i0≠j0_0) (Zc2:i0≠j0_1) (Zc3:i0≠j0_2) (Zcz:j0_0≠j0_1) (Zc0:j0_0≠j0_2) (Zc1:j0_1≠j0_2) (ho0:O i0=some ⟨false,79,4,1,[.row j0_2 a0.out.length,(vI a0.kept),.row j0_0 a0.gone.length,.row j0_1 a0.come.length]⟩) (Zmk:O j0_0=some (oR 25 3 Za a0.gone)) (Zml:O j0_1=some (oR 25 3 Za a0.come)) (Zmm:O j0_2=some (oR 42 14 Zd a0.out)) (h:Ju a0 a2=some r):GTo Tryz.prog 61 [.ref i0 0,.ref i0 3,(sL Za a2)] O n (.tup []) (Zr ((((O.upd j0_0 none).upd j0_1 none).upd j0_2 none).upd i0 (some ⟨false,79,4,1,[.row (n+2) r.out.length,(vI r.kept),.row n r.gone.length,.row (n+1) r.come.length]⟩)) n [some (oR 25 3 Za r.gone),some (oR 25 3 Za r.come),some (oR 42 14 Zd r.out)]) (n+3):=by
 unfold Ju at h
 refine Zn7 Zt Tryz.call61 Tryz.func61 rfl (Nat.le_of_ble_eq_true rfl) (by omega) fun hU => ?_
 have e0:=U0 (ba:=n) (E:=⟨32,[],Zh3 0 [.ref i0 0,.ref i0 3,.sl a2.length (fl Za a2)]⟩) (O:=(Zr O n [])) (n:=n) (i:=i0) (j:=j0_0) (k:=2) (len:=a0.gone.length) (q:=⟨false,79,4,1,[.row j0_2 a0.out.length,.val (.int .i64 a0.kept),.row j0_0 a0.gone.length,.row j0_1 a0.come.length]⟩) (qj:=⟨true,25,3,a0.gone.length,fl Za a0.gone⟩) (by rw [Y0 _ hi0];first | exact ho0 | exact Ye _ _ _) rfl (by rw [Y0 _ Zkl];exact Zmk) Zgu (by omega)
 simp only [Y6 _ _ Zkl,Y6 _ _ hi0,Y5,Yt,Q9,Zf5 Zgu,List.set_cons_zero,List.set_cons_succ,List.cons_append,List.nil_append,List.length_cons,List.length_nil,Nat.zero_add,Nat.reduceAdd,Nat.add_assoc] at e0
 refine Jz e0 ?_
 have e1:=U0 (ba:=n) (E:=⟨32,[],Zh3 0 [.ref i0 0,.ref i0 3,.sl a2.length (fl Za a2)]⟩) (O:=(Zr ((O.upd j0_0 none).upd i0 (some ⟨false,79,4,1,[.row j0_2 a0.out.length,.val (.int .i64 a0.kept),.row n a0.gone.length,.row j0_1 a0.come.length]⟩)) n [some ⟨true,25,3,a0.gone.length,fl Za a0.gone⟩])) (n:=(n+1)) (i:=i0) (j:=j0_1) (k:=3) (len:=a0.come.length) (q:=⟨false,79,4,1,[.row j0_2 a0.out.length,.val (.int .i64 a0.kept),.row n a0.gone.length,.row j0_1 a0.come.length]⟩) (qj:=⟨true,25,3,a0.come.length,fl Za a0.come⟩) (by rw [Y0 _ hi0];first | exact ho0 | exact Ye _ _ _) rfl (by rw [Y0 _ Zkm,Yz _ _ (Ne.symm Zc2),Yz _ _ (Ne.symm Zcz)];exact Zml) Zc2 (by omega)
 simp only [Y6 _ _ Zkm,Y6 _ _ hi0,Y5,Yt,Q9,Zf5 Zc2,List.set_cons_zero,List.set_cons_succ,List.cons_append,List.nil_append,List.length_cons,List.length_nil,Nat.zero_add,Nat.reduceAdd,Nat.add_assoc] at e1
 refine Jz e1 ?_
 have e2:=U0 (ba:=n) (E:=⟨32,[],Zh3 0 [.ref i0 0,.ref i0 3,.sl a2.length (fl Za a2)]⟩) (O:=(Zr (((O.upd j0_0 none).upd j0_1 none).upd i0 (some ⟨false,79,4,1,[.row j0_2 a0.out.length,.val (.int .i64 a0.kept),.row n a0.gone.length,.row (n+1) a0.come.length]⟩)) n [some ⟨true,25,3,a0.gone.length,fl Za a0.gone⟩,some ⟨true,25,3,a0.come.length,fl Za a0.come⟩])) (n:=(n+2)) (i:=i0) (j:=j0_2) (k:=0) (len:=a0.out.length) (q:=⟨false,79,4,1,[.row j0_2 a0.out.length,.val (.int .i64 a0.kept),.row n a0.gone.length,.row (n+1) a0.come.length]⟩) (qj:=⟨true,42,14,a0.out.length,fl Zd a0.out⟩) (by rw [Y0 _ hi0];first | exact ho0 | exact Ye _ _ _) rfl (by rw [Y0 _ Zkn,Yz _ _ (Ne.symm Zc3),Yz _ _ (Ne.symm Zc1),Yz _ _ (Ne.symm Zc0)];exact Zmm) Zc3 (by omega)
 simp only [Y6 _ _ Zkn,Y6 _ _ hi0,Y5,Yt,Q9,Zf5 Zc3,List.set_cons_zero,List.set_cons_succ,List.cons_append,List.nil_append,List.length_cons,List.length_nil,Nat.zero_add,Nat.reduceAdd,Nat.add_assoc] at e2
 refine Jz e2 ?_
 have hU:=(Und.drop (Und.drop (Und.drop hU j0_0) j0_1) j0_2)
 have hk0:∀ k,i0 < n+k:=fun k=>by omega
 have hN0:∀ o,Objs.upd (((O.upd j0_0 none).upd j0_1 none).upd j0_2 none) i0 o n=none:=fun o=>Kz hU hi0 _ (Nat.le_refl _)
 have hN:∀ o k,Objs.upd (((O.upd j0_0 none).upd j0_1 none).upd j0_2 none) i0 o (n+k)=none:=fun o k=>Kz hU hi0 _ (Nat.le_add_right _ _)
 show W _ _ _ _ ⟨32,[],[(0,.ref i0 0),(1,.ref i0 3),(2,(sL Za a2))]⟩ (Zr ((((O.upd j0_0 none).upd j0_1 none).upd j0_2 none).upd i0 (some ⟨false,79,4,1,[.row (n+2) a0.out.length,(vI a0.kept),.row n a0.gone.length,.row (n+1) a0.come.length]⟩)) n [some (oR 25 3 Za a0.gone),some (oR 25 3 Za a0.come),some (oR 42 14 Zd a0.out)]) _
 obtain ⟨z1,hz1,h⟩:=bC h
 refine Yk (E':=⟨32,[],[(1,.ref i0 3),(2,(sL Za a2))]⟩) (O':=(Zr ((((O.upd j0_0 none).upd j0_1 none).upd j0_2 none).upd i0 (some ⟨false,79,4,1,[.row (n+6) z1.1.length,(vI z1.2.2.2),.row (n+7) z1.2.1.length,.row (n+8) z1.2.2.1.length]⟩)) n [none,none,none,none,none,none,some (oR 42 14 Zd z1.1),some (oR 25 3 Za z1.2.1),some (oR 25 3 Za z1.2.2.1)])) (n0:=(n+9)) ?_ ?_
 ·refine Znn [0,1,2,12] hi0 hk0 ?_
  refine Zp (t:=(decide (0 < a0.kept))) rfl (fun c3 => ?_) (fun c3 => ?_)
  ·replace hz1:=Zo c3 hz1
   obtain ⟨y2,hy2,hz1⟩:=bC hz1
   refine Ja [] hi0 hk0 ?_
   refine (V9 (i0:=i0) (j0_0:=n) (j0_1:=(n+1)) (j0_2:=(n+2)) (by omega) (by omega) (by omega) (by omega) (by omega) (by omega) (by omega) (by omega) (by omega) (by omega) (by simp only [push_cast,seval,Zf,Yw,hi0,hk0,hN0,hN] <;> rfl) (by simp only [push_cast,seval,Zf,Yw,hi0,hk0,hN0,hN] <;> rfl) (by simp only [push_cast,seval,Zf,Yw,hi0,hk0,hN0,hN] <;> rfl) (by simp only [push_cast,seval,Zf,Yw,hi0,hk0,hN0,hN] <;> rfl) hy2).then ?_
   refine zX2 hi0 hk0 ?_
   obtain rfl:=sI hz1
   refine And.intro rfl ?_
   refine Fit2.trans (E':=(⟨32,[],[(1,.ref i0 3),(2,(sL Za a2))]⟩:Env)) (O':=(Zr ((((O.upd j0_0 none).upd j0_1 none).upd j0_2 none).upd i0 (some ⟨false,79,4,1,[.row (n+5) y2.out.length,(vI y2.kept),.row (n+3) y2.gone.length,.row (n+4) y2.come.length]⟩)) n [none,none,none,some (oR 25 3 Za y2.gone),some (oR 25 3 Za y2.come),some (oR 42 14 Zd y2.out)])) (n':=(n+6)) (Fit2.of (Xc hU rfl rfl ?_) (by omega)) ?_
   ·exact Vt hi0 hk0
   refine G4 (k:=6) (k':=9) hU [5,5,5,7,8,6] [0,0,0,0,0,0,5,3,4] rfl rfl rfl rfl ⟨rfl,rfl⟩ ?_
   exact Vt hi0 hk0
  replace hz1:=Zn c3 hz1
  refine zK ?_
  obtain rfl:=sI hz1
  refine And.intro rfl ?_
  refine Fit2.trans (E':=(⟨32,[],[(1,.ref i0 3),(2,(sL Za a2))]⟩:Env)) (O':=(Zr ((((O.upd j0_0 none).upd j0_1 none).upd j0_2 none).upd i0 (some ⟨false,79,4,1,[.row (n+2) a0.out.length,(vI a0.kept),.row n a0.gone.length,.row (n+1) a0.come.length]⟩)) n [some (oR 25 3 Za a0.gone),some (oR 25 3 Za a0.come),some (oR 42 14 Zd a0.out)])) (n':=(n+3)) (Fit2.of (Xc hU rfl rfl ?_) (by omega)) ?_
  ·exact Vt hi0 hk0
  refine G4 (k:=3) (k':=9) hU [7,8,6] [0,0,0,0,0,0,2,0,1] rfl rfl rfl rfl ⟨rfl,rfl⟩ ?_
  exact Vt hi0 hk0
 refine Znn [1,15,16,17] hi0 hk0 ?_
 refine zD [1,15,16,17] [false,false,false,false,false,false,true,true,true] ?_
 obtain ⟨z11,hz11,h⟩:=bC h
 refine Z8 (E':=⟨32,[],[]⟩) (O':=(Zr ((((O.upd j0_0 none).upd j0_1 none).upd j0_2 none).upd i0 (some ⟨false,79,4,1,[.row (n+6) z1.1.length,(vI z1.2.2.2),.row (n+7) z1.2.1.length,.row (n+8) z11.length]⟩)) n [none,none,none,none,none,none,some (oR 42 14 Zd z1.1),some (oR 25 3 Za z1.2.1),some (oR 25 3 Za z11)])) (n0:=(n+9)) ?_ ?_
 ·refine Yi hz11 (fun s0_=>⟨32,[],[(1,.ref i0 3),(15,(sL Za a2)),(16,(vI (a2.length:Int))),(17,(vI s0_.1))]⟩) (fun s0_=>(Zr ((((O.upd j0_0 none).upd j0_1 none).upd j0_2 none).upd i0 (some ⟨false,79,4,1,[.row (n+6) z1.1.length,(vI z1.2.2.2),.row (n+7) z1.2.1.length,.row (n+8) s0_.2.length]⟩)) n [none,none,none,none,none,none,some (oR 42 14 Zd z1.1),some (oR 25 3 Za z1.2.1),some (oR 25 3 Za s0_.2)])) (fun z11=>JX 0 n (⟨32,[],[]⟩:Env) (Zr ((((O.upd j0_0 none).upd j0_1 none).upd j0_2 none).upd i0 (some ⟨false,79,4,1,[.row (n+6) z1.1.length,(vI z1.2.2.2),.row (n+7) z1.2.1.length,.row (n+8) z11.length]⟩)) n [none,none,none,none,none,none,some (oR 42 14 Zd z1.1),some (oR 25 3 Za z1.2.1),some (oR 25 3 Za z11)]) (n+9)) ?_
  intro s0_ x0_ hs0_
  unfold Qs at hs0_
  try dsimp only
  refine Znn [1,15,16,17,18] hi0 hk0 ?_
  refine Zl ?_
  refine Zp (t:=(decide (s0_.1 < (a2.length:Int)))) rfl (fun c10 => ?_) (fun c10 => ?_)
  ·replace hs0_:=Zo c10 hs0_
   refine Q5 [1,15,16,17] [false,false,false,false,false,false,true,true,true] ?_
   refine Zl ?_
   refine Z0 ?_
   refine Zl ?_
   obtain ⟨x5,hx5,ax5,bx5,cx5,hs0_⟩:=bE (f:=Za) Zbu (fun _=>rfl) (by decide) hs0_
   refine Z6e [] ax5 bx5 cx5 hi0 hk0 ?_
   refine zD [1,7,15,16,17] [false,false,false,false,false,false,true,true,true,true] ?_
   obtain ⟨y6,hy6,hs0_⟩:=bC hs0_
   obtain ⟨l7,pl7,ql7,el7,hs0_⟩:=bA (k:=1) rfl hs0_
   obtain ⟨x8,hx8,ax8,bx8,cx8,hs0_⟩:=bE (f:=Za) Zbu (fun _=>rfl) (by decide) hs0_
   have gu9:Ke (fl Za s0_.2++[.val (.int .i64 0),.val (.slice none 0 0),.val (.slice none 0 0)]) [.val (.int .i64 y6.Kind),.sl y6.Words.length (fl (eI .u64) y6.Words),.sl y6.Kids.length (fl Za y6.Kids)] (List.length s0_.2 * 3)=some (fl Za s0_.2++[.val (.int .i64 y6.Kind),.sl y6.Words.length (fl (eI .u64) y6.Words),.sl y6.Kids.length (fl Za y6.Kids)]):=Zf8 (f:=Za) (sz:=3) (fun _=>rfl) rfl rfl
   refine Zes Zt (by kernel_rfl) [.plain,.low,.low,.low,.low,.low,.pass,.bar,.shp,.fill true,.shp,.fill false] (fun i=>i < (n+10)) [0,1,2,3,4,5,6,7,8,9,10,11] [.plain,.low,.low,.low,.low,.low,.pass,.bar,.shp,.fill true,.shp,.fill false] [] (by kernel_rfl) rfl ?_
   refine zF9 pl7 ql7 el7 ax8 bx8 cx8 gu9 hi0 hk0 ?_
   refine zO ?_
   first | refine PCallA.of (fun _ _=>Ze1 hy6) ?_ | refine PCall.of (Ze1 hy6) ?_
   refine zF9 pl7 ql7 el7 ax8 bx8 cx8 gu9 hi0 hk0 ?_
   refine zO ?_
   refine Zan ⟨32,[],[(1,.ref i0 3),(15,(sL Za a2)),(16,(vI (a2.length:Int))),(17,(vI s0_.1))]⟩ (Zr ((((O.upd j0_0 none).upd j0_1 none).upd j0_2 none).upd i0 (some ⟨false,79,4,1,[.row (n+6) z1.1.length,(vI z1.2.2.2),.row (n+7) z1.2.1.length,.row (n+8) (s0_.2++[y6]).length]⟩)) n [none,none,none,none,none,none,some (oR 42 14 Zd z1.1),some (oR 25 3 Za z1.2.1),some (oR 25 3 Za (s0_.2++[y6])),none,none]) (Xc hU rfl rfl ?_) ?_
   ·exact Z7j pl7 ql7 el7 ax8 bx8 cx8 gu9 hi0 hk0
   refine Ja [] hi0 hk0 ?_
   obtain rfl:=sI hs0_
   refine And.intro rfl (Fit2.of (Xc hU rfl rfl ?_) (by omega))
   exact Vt hi0 hk0
  replace hs0_:=Zn c10 hs0_
  refine zXt ?_
  obtain rfl:=sI hs0_
  refine And.intro (fun h=>by cases h) (And.intro rfl (Fit2.of (Xc hU rfl rfl ?_) (by omega)))
  exact Vt hi0 hk0
 try simp only [Yg,Z3,↓reduceIte,Nat.reduceEqDiff]
 obtain rfl:=sI h
 refine Zgn (k:=3) (i:=i0) (q1:=⟨false,79,4,1,[.row (n+2) z1.1.length,(vI z1.2.2.2),.row n z1.2.1.length,.row (n+1) z11.length]⟩) (L3:=[some (oR 25 3 Za z1.2.1),some (oR 25 3 Za z11),some (oR 42 14 Zd z1.1),none]) (E2:=(⟨32,[],[]⟩:Env)) (n3:=(n+4)) (.inl rfl) hU rfl [] ?_ ?_
 ·refine Fit2.trans (E':=(⟨32,[],[]⟩:Env)) (O':=(Zr ((((O.upd j0_0 none).upd j0_1 none).upd j0_2 none).upd i0 (some ⟨false,79,4,1,[.row (n+6) z1.1.length,(vI z1.2.2.2),.row (n+7) z1.2.1.length,.row (n+8) z11.length]⟩)) n [none,none,none,none,none,none,some (oR 42 14 Zd z1.1),some (oR 25 3 Za z1.2.1),some (oR 25 3 Za z11)])) (n':=(n+9)) (Fit2.of (Xc hU rfl rfl ?_) (by omega)) ?_
  ·exact Vt hi0 hk0
  refine G4 (k:=9) (k':=4) hU [3,3,3,3,3,3,2,0,1] [7,8,6,0] rfl rfl rfl rfl ⟨rfl,rfl⟩ ?_
  exact Vt hi0 hk0
 simp only [push_cast,seval,Zf,Tryz.results61,hi0,hk0,hN0,hN]
theorem Zzq {a0:Int} {a1:Zb} {r:Bool} {O:Objs} {n:Nat} (h:Zfp a0 a1=some r):GTo Tryz.prog 78 [(vI a0),.agg (Ze a1)] O n ((vB r)) O n:=by
 unfold Zfp at h
 refine fn0 Zt Tryz.call78 Tryz.func78 rfl fun hU hN0 hN => ?_
 show W _ _ _ _ ⟨27,[],[(0,(vI a0)),(1,.agg (Ze a1))]⟩ (Zr O n []) _
 refine zQ [0,3] ?_
 refine zQD [4] [none,none,none,none,none,none,none,none,none,none,none,none,none,none,none,none,none] ?_
 refine zW ?_
 obtain rfl:=sI h
 refine Zq (.inr rfl) hU [(vB (cond (a1.Kind == 0) true (cond (cond (a0 == 9) (a1.Kind == 2) false) ((IntKind.i64.wrap ((a1.Words.length:Int)+(a1.Kids.length:Int))) == 0) false)))] (by omega) ?_
 simp only [push_cast,seval,Zf,Tryz.results78,hN0,hN]
theorem Zk8 {a0:Zw} {a1:Int} {a2:Zb} {r:Zw} {O:Objs} {n:Nat} {i0 j0_0 j0_1 j0_2:Nat} (hi0:i0 < n) (Zkl:j0_0 < n) (Zkm:j0_1 < n) (Zkn:j0_2 < n) (Zgu:i0≠j0_0) (Zc2:i0≠j0_1) (Zc3:i0≠j0_2) (Zcz:j0_0≠j0_1) (Zc0:j0_0≠j0_2) (Zc1:j0_1≠j0_2) (ho0:O i0=some ⟨false,79,4,1,[.row j0_2 a0.out.length,(vI a0.kept),.row j0_0 a0.gone.length,.row j0_1 a0.come.length]⟩) (Zmk:O j0_0=some (oR 25 3 Za a0.gone)) (Zml:O j0_1=some (oR 25 3 Za a0.come)) (Zmm:O j0_2=some (oR 42 14 Zd a0.out)) (h:Ka a0 a1 a2=some r):GTo Tryz.prog 62 [.ref i0 0,(vI a1),.agg (Ze a2)] O n (.tup []) (Zr ((((O.upd j0_0 none).upd j0_1 none).upd j0_2 none).upd i0 (some ⟨false,79,4,1,[.row (n+2) r.out.length,(vI r.kept),.row n r.gone.length,.row (n+1) r.come.length]⟩)) n [some (oR 25 3 Za r.gone),some (oR 25 3 Za r.come),some (oR 42 14 Zd r.out)]) (n+3):=by
 unfold Ka at h
 refine Zn7 Zt Tryz.call62 Tryz.func62 rfl (Nat.le_of_ble_eq_true rfl) (by omega) fun hU => ?_
 have e0:=U0 (ba:=n) (E:=⟨25,[],Zh3 0 [.ref i0 0,.val (.int .i64 a1),.agg [.val (.int .i64 a2.Kind),.val (.int .i64 a2.Old.Kind),.sl a2.Old.Words.length (fl (eI .u64) a2.Old.Words),.sl a2.Old.Kids.length (fl Za a2.Old.Kids),.val (.int .i64 a2.New.Kind),.sl a2.New.Words.length (fl (eI .u64) a2.New.Words),.sl a2.New.Kids.length (fl Za a2.New.Kids),.sl a2.Words.length (fl Zi a2.Words),.sl a2.Kids.length (fl Zh a2.Kids),.val (.int .i64 a2.List_),.sl a2.Ops.length (fl Zd a2.Ops)]]⟩) (O:=(Zr O n [])) (n:=n) (i:=i0) (j:=j0_0) (k:=2) (len:=a0.gone.length) (q:=⟨false,79,4,1,[.row j0_2 a0.out.length,.val (.int .i64 a0.kept),.row j0_0 a0.gone.length,.row j0_1 a0.come.length]⟩) (qj:=⟨true,25,3,a0.gone.length,fl Za a0.gone⟩) (by rw [Y0 _ hi0];first | exact ho0 | exact Ye _ _ _) rfl (by rw [Y0 _ Zkl];exact Zmk) Zgu (by omega)
 simp only [Y6 _ _ Zkl,Y6 _ _ hi0,Y5,Yt,Q9,Zf5 Zgu,List.set_cons_zero,List.set_cons_succ,List.cons_append,List.nil_append,List.length_cons,List.length_nil,Nat.zero_add,Nat.reduceAdd,Nat.add_assoc] at e0
 refine Jz e0 ?_
 have e1:=U0 (ba:=n) (E:=⟨25,[],Zh3 0 [.ref i0 0,.val (.int .i64 a1),.agg [.val (.int .i64 a2.Kind),.val (.int .i64 a2.Old.Kind),.sl a2.Old.Words.length (fl (eI .u64) a2.Old.Words),.sl a2.Old.Kids.length (fl Za a2.Old.Kids),.val (.int .i64 a2.New.Kind),.sl a2.New.Words.length (fl (eI .u64) a2.New.Words),.sl a2.New.Kids.length (fl Za a2.New.Kids),.sl a2.Words.length (fl Zi a2.Words),.sl a2.Kids.length (fl Zh a2.Kids),.val (.int .i64 a2.List_),.sl a2.Ops.length (fl Zd a2.Ops)]]⟩) (O:=(Zr ((O.upd j0_0 none).upd i0 (some ⟨false,79,4,1,[.row j0_2 a0.out.length,.val (.int .i64 a0.kept),.row n a0.gone.length,.row j0_1 a0.come.length]⟩)) n [some ⟨true,25,3,a0.gone.length,fl Za a0.gone⟩])) (n:=(n+1)) (i:=i0) (j:=j0_1) (k:=3) (len:=a0.come.length) (q:=⟨false,79,4,1,[.row j0_2 a0.out.length,.val (.int .i64 a0.kept),.row n a0.gone.length,.row j0_1 a0.come.length]⟩) (qj:=⟨true,25,3,a0.come.length,fl Za a0.come⟩) (by rw [Y0 _ hi0];first | exact ho0 | exact Ye _ _ _) rfl (by rw [Y0 _ Zkm,Yz _ _ (Ne.symm Zc2),Yz _ _ (Ne.symm Zcz)];exact Zml) Zc2 (by omega)
 simp only [Y6 _ _ Zkm,Y6 _ _ hi0,Y5,Yt,Q9,Zf5 Zc2,List.set_cons_zero,List.set_cons_succ,List.cons_append,List.nil_append,List.length_cons,List.length_nil,Nat.zero_add,Nat.reduceAdd,Nat.add_assoc] at e1
 refine Jz e1 ?_
 have e2:=U0 (ba:=n) (E:=⟨25,[],Zh3 0 [.ref i0 0,.val (.int .i64 a1),.agg [.val (.int .i64 a2.Kind),.val (.int .i64 a2.Old.Kind),.sl a2.Old.Words.length (fl (eI .u64) a2.Old.Words),.sl a2.Old.Kids.length (fl Za a2.Old.Kids),.val (.int .i64 a2.New.Kind),.sl a2.New.Words.length (fl (eI .u64) a2.New.Words),.sl a2.New.Kids.length (fl Za a2.New.Kids),.sl a2.Words.length (fl Zi a2.Words),.sl a2.Kids.length (fl Zh a2.Kids),.val (.int .i64 a2.List_),.sl a2.Ops.length (fl Zd a2.Ops)]]⟩) (O:=(Zr (((O.upd j0_0 none).upd j0_1 none).upd i0 (some ⟨false,79,4,1,[.row j0_2 a0.out.length,.val (.int .i64 a0.kept),.row n a0.gone.length,.row (n+1) a0.come.length]⟩)) n [some ⟨true,25,3,a0.gone.length,fl Za a0.gone⟩,some ⟨true,25,3,a0.come.length,fl Za a0.come⟩])) (n:=(n+2)) (i:=i0) (j:=j0_2) (k:=0) (len:=a0.out.length) (q:=⟨false,79,4,1,[.row j0_2 a0.out.length,.val (.int .i64 a0.kept),.row n a0.gone.length,.row (n+1) a0.come.length]⟩) (qj:=⟨true,42,14,a0.out.length,fl Zd a0.out⟩) (by rw [Y0 _ hi0];first | exact ho0 | exact Ye _ _ _) rfl (by rw [Y0 _ Zkn,Yz _ _ (Ne.symm Zc3),Yz _ _ (Ne.symm Zc1),Yz _ _ (Ne.symm Zc0)];exact Zmm) Zc3 (by omega)
 simp only [Y6 _ _ Zkn,Y6 _ _ hi0,Y5,Yt,Q9,Zf5 Zc3,List.set_cons_zero,List.set_cons_succ,List.cons_append,List.nil_append,List.length_cons,List.length_nil,Nat.zero_add,Nat.reduceAdd,Nat.add_assoc] at e2
 refine Jz e2 ?_
 have hU:=(Und.drop (Und.drop (Und.drop hU j0_0) j0_1) j0_2)
 have hk0:∀ k,i0 < n+k:=fun k=>by omega
 have hN0:∀ o,Objs.upd (((O.upd j0_0 none).upd j0_1 none).upd j0_2 none) i0 o n=none:=fun o=>Kz hU hi0 _ (Nat.le_refl _)
 have hN:∀ o k,Objs.upd (((O.upd j0_0 none).upd j0_1 none).upd j0_2 none) i0 o (n+k)=none:=fun o k=>Kz hU hi0 _ (Nat.le_add_right _ _)
 show W _ _ _ _ ⟨25,[],[(0,.ref i0 0),(1,(vI a1)),(2,.agg (Ze a2))]⟩ (Zr ((((O.upd j0_0 none).upd j0_1 none).upd j0_2 none).upd i0 (some ⟨false,79,4,1,[.row (n+2) a0.out.length,(vI a0.kept),.row n a0.gone.length,.row (n+1) a0.come.length]⟩)) n [some (oR 25 3 Za a0.gone),some (oR 25 3 Za a0.come),some (oR 42 14 Zd a0.out)]) _
 refine Znn [0,1,5] hi0 hk0 ?_
 refine Zl ?_
 refine Zl ?_
 obtain ⟨y2,hy2,h⟩:=bC h
 refine Ja [] hi0 hk0 ?_
 refine (Zzq hy2).then ?_
 refine zX2 hi0 hk0 ?_
 refine zD [0,5,8] [true,true,true,true] ?_
 refine Zp (t:=y2) rfl (fun c10 => ?_) (fun c10 => ?_)
 ·replace h:=Zo c10 h
  refine Zl ?_
  obtain ⟨y4,hy4,h⟩:=bC h
  refine Ja [] hi0 hk0 ?_
  refine (Zhl (i0:=i0) (j0_0:=n) (j0_1:=(n+1)) (j0_2:=(n+2)) (by omega) (by omega) (by omega) (by omega) (by omega) (by omega) (by omega) (by omega) (by omega) (by omega) (by simp only [push_cast,seval,Zf,Yw,hi0,hk0,hN0,hN] <;> rfl) (by simp only [push_cast,seval,Zf,Yw,hi0,hk0,hN0,hN] <;> rfl) (by simp only [push_cast,seval,Zf,Yw,hi0,hk0,hN0,hN] <;> rfl) (by simp only [push_cast,seval,Zf,Yw,hi0,hk0,hN0,hN] <;> rfl) hy4).then ?_
  refine zX2 hi0 hk0 ?_
  refine zD [] [false,false,false,false,true,true,true] ?_
  refine zW ?_
  obtain rfl:=sI h
  refine Zgn (k:=3) (i:=i0) (q1:=⟨false,79,4,1,[.row (n+2) y4.out.length,(vI y4.kept),.row n y4.gone.length,.row (n+1) y4.come.length]⟩) (L3:=[some (oR 25 3 Za y4.gone),some (oR 25 3 Za y4.come),some (oR 42 14 Zd y4.out),none]) (E2:=(⟨25,[],[]⟩:Env)) (n3:=(n+4)) (.inr rfl) hU rfl [] ?_ ?_
  ·refine Fit2.trans (E':=(⟨25,[],[]⟩:Env)) (O':=(Zr ((((O.upd j0_0 none).upd j0_1 none).upd j0_2 none).upd i0 (some ⟨false,79,4,1,[.row (n+6) y4.out.length,(vI y4.kept),.row (n+4) y4.gone.length,.row (n+5) y4.come.length]⟩)) n [none,none,none,none,some (oR 25 3 Za y4.gone),some (oR 25 3 Za y4.come),some (oR 42 14 Zd y4.out)])) (n':=(n+7)) (Fit2.of (Xc hU rfl rfl ?_) (by omega)) ?_
   ·exact Vt hi0 hk0
   refine G4 (k:=7) (k':=4) hU [3,3,3,3,0,1,2] [4,5,6,0] rfl rfl rfl rfl ⟨rfl,rfl⟩ ?_
   exact Vt hi0 hk0
  simp only [push_cast,seval,Zf,Tryz.results62,hi0,hk0,hN0,hN]
 replace h:=Zn c10 h
 refine Q5 [0,5] [true,true,true,true] ?_
 refine Zl ?_
 obtain ⟨y6,hy6,h⟩:=bC h
 refine Ja [] hi0 hk0 ?_
 refine (V9 (i0:=i0) (j0_0:=n) (j0_1:=(n+1)) (j0_2:=(n+2)) (by omega) (by omega) (by omega) (by omega) (by omega) (by omega) (by omega) (by omega) (by omega) (by omega) (by simp only [push_cast,seval,Zf,Yw,hi0,hk0,hN0,hN] <;> rfl) (by simp only [push_cast,seval,Zf,Yw,hi0,hk0,hN0,hN] <;> rfl) (by simp only [push_cast,seval,Zf,Yw,hi0,hk0,hN0,hN] <;> rfl) (by simp only [push_cast,seval,Zf,Yw,hi0,hk0,hN0,hN] <;> rfl) hy6).then ?_
 refine zX2 hi0 hk0 ?_
 refine zD [0,5] [false,false,false,true,true,true,true] ?_
 obtain ⟨l7,pl7,ql7,el7,h⟩:=bA (k:=1) rfl h
 obtain ⟨x8,hx8,ax8,bx8,cx8,h⟩:=bE (f:=Zd) Jw (fun _=>rfl) (by decide) h
 have gu9:Ke (fl Zd y6.out++[.val (.int .i64 0),.val (.int .i64 0),.val (.slice none 0 0),.val (.int .i64 0),.val (.int .i64 0),.val (.slice none 0 0),.val (.slice none 0 0),.val (.int .i64 0),.val (.slice none 0 0),.val (.slice none 0 0),.val (.slice none 0 0),.val (.slice none 0 0),.val (.int .i64 0),.val (.slice none 0 0)]) [.val (.int .i64 3),.val (.int .i64 0),.val (.slice none 0 0),.val (.int .i64 a2.Kind),.val (.int .i64 a2.Old.Kind),.sl a2.Old.Words.length (fl (eI .u64) a2.Old.Words),.sl a2.Old.Kids.length (fl Za a2.Old.Kids),.val (.int .i64 a2.New.Kind),.sl a2.New.Words.length (fl (eI .u64) a2.New.Words),.sl a2.New.Kids.length (fl Za a2.New.Kids),.sl a2.Words.length (fl Zi a2.Words),.sl a2.Kids.length (fl Zh a2.Kids),.val (.int .i64 a2.List_),.sl a2.Ops.length (fl Zd a2.Ops)] (List.length y6.out * 14)=some (fl Zd y6.out++[.val (.int .i64 3),.val (.int .i64 0),.val (.slice none 0 0),.val (.int .i64 a2.Kind),.val (.int .i64 a2.Old.Kind),.sl a2.Old.Words.length (fl (eI .u64) a2.Old.Words),.sl a2.Old.Kids.length (fl Za a2.Old.Kids),.val (.int .i64 a2.New.Kind),.sl a2.New.Words.length (fl (eI .u64) a2.New.Words),.sl a2.New.Kids.length (fl Za a2.New.Kids),.sl a2.Words.length (fl Zi a2.Words),.sl a2.Kids.length (fl Zh a2.Kids),.val (.int .i64 a2.List_),.sl a2.Ops.length (fl Zd a2.Ops)]):=Zf8 (f:=Zd) (sz:=14) (fun _=>rfl) rfl rfl
 refine Zes Zt (by kernel_rfl) [.plain,.low,.low,.low,.low,.plain,.low,.pass,.bar,.shp,.fill true,.shp,.shp,.fill false] (fun i=>i < (n+7)) [0,1,2,3,4,5,6,7,8,9,10,11,12,13] [.plain,.low,.low,.low,.low,.plain,.low,.pass,.bar,.shp,.fill true,.shp,.shp,.fill false] [] (by kernel_rfl) rfl ?_
 refine zF9 pl7 ql7 el7 ax8 bx8 cx8 gu9 hi0 hk0 ?_
 refine zO ?_
 obtain rfl:=sI h
 refine Zgn (k:=3) (i:=i0) (q1:=⟨false,79,4,1,[.row (n+2) (y6.out++[(⟨3,0,([]:(List Zc)),a2⟩:Zg)]).length,(vI y6.kept),.row n y6.gone.length,.row (n+1) y6.come.length]⟩) (L3:=[some (oR 25 3 Za y6.gone),some (oR 25 3 Za y6.come),some (oR 42 14 Zd (y6.out++[(⟨3,0,([]:(List Zc)),a2⟩:Zg)])),none]) (E2:=(⟨25,[],[]⟩:Env)) (n3:=(n+4)) (.inl rfl) hU rfl [] ?_ ?_
 ·refine Fit2.trans (E':=(⟨25,[],[]⟩:Env)) (O':=(Zr ((((O.upd j0_0 none).upd j0_1 none).upd j0_2 none).upd i0 (some ⟨false,79,4,1,[.row (n+6) (y6.out++[(⟨3,0,([]:(List Zc)),a2⟩:Zg)]).length,(vI y6.kept),.row (n+4) y6.gone.length,.row (n+5) y6.come.length]⟩)) n [none,none,none,none,some (oR 25 3 Za y6.gone),some (oR 25 3 Za y6.come),some (oR 42 14 Zd (y6.out++[(⟨3,0,([]:(List Zc)),a2⟩:Zg)])),none])) (n':=(n+8)) (Fit2.of (Xc hU rfl rfl ?_) (by omega)) ?_
  ·exact Z7j pl7 ql7 el7 ax8 bx8 cx8 gu9 hi0 hk0
  refine G4 (k:=8) (k':=4) hU [3,3,3,3,0,1,2,3] [4,5,6,0] rfl rfl rfl rfl ⟨rfl,rfl⟩ ?_
  exact Vt hi0 hk0
 simp only [push_cast,seval,Zf,Tryz.results62,hi0,hk0,hN0,hN]
def Zhr (X1:(Zb→Option Zb)):Prop:=∀ {a0:Zb} {r:Zb} {O:Objs} {n:Nat},X1 a0=some r→GTo Tryz.prog 18 [.agg (Ze a0)] O n (.agg (Ze r)) O n
def Zip (Vs:(Int→(List Zg)→Option (List Zg))):Prop:=∀ {a0:Int} {a1:(List Zg)} {r:(List Zg)} {O:Objs} {n:Nat},Vs a0 a1=some r→GTo Tryz.prog 36 [(vI a0),(sL Zd a1)] O n ((sL Zd r)) O n
theorem Zv4 {X1:(Zb→Option Zb)} {Vs:(Int→(List Zg)→Option (List Zg))} (Zez:Zhr X1) (Zns:Zip Vs) {a0:Zb} {r:Zb} {O:Objs} {n:Nat} (h:Zfl X1 Vs a0=some r):GTo Tryz.prog 18 [.agg (Ze a0)] O n (.agg (Ze r)) O n:=by
 unfold Zfl at h
 refine fn0 Zt Tryz.call18 Tryz.func18 rfl fun hU hN0 hN => ?_
 show W _ _ _ _ ⟨54,[],[(0,.agg (Ze a0))]⟩ (Zr O n []) _
 refine zQ [1,2] ?_
 refine Zl ?_
 refine zQ [1,2,7] ?_
 refine Z0 ?_
 refine zQ [1,2,7,8] ?_
 refine Zp (t:=(a0.Kind == 1)) rfl (fun c17 => ?_) (fun c17 => ?_)
 ·replace h:=Zo c17 h
  refine Zl ?_
  obtain ⟨y3,hy3,h⟩:=bC h
  obtain ⟨y4,hy4,h⟩:=bC h
  refine Zka Zt (by kernel_rfl) [false,false,false,false,false,false,false,true] [] (by kernel_rfl) ?_
  refine zS ?_
  refine PCall.of (Ze1 hy3) ?_
  refine zS ?_
  refine PCall.of (Ze1 hy4) ?_
  refine zS ?_
  refine zD [2] [false,true] ?_
  refine zW ?_
  obtain rfl:=sI h
  refine Zq (.inr rfl) hU [.agg [(vI 1),(vI y3.Kind),(sL (eI .u64) y3.Words),(sL Za y3.Kids),(vI y4.Kind),(sL (eI .u64) y4.Words),(sL Za y4.Kids),nV,nV,(vI 0),nV]] (by omega) ?_
  simp only [push_cast,seval,Zf,Tryz.results18,hN0,hN]
 replace h:=Zn c17 h
 refine zQ [1,2,7,17] ?_
 refine Zp (t:=(a0.Kind == 2)) rfl (fun c16 => ?_) (fun c16 => ?_)
 ·replace h:=Zo c16 h
  refine Zl ?_
  obtain ⟨y6,hy6,h⟩:=bC h
  refine zR ?_
  refine (Zdl  hy6).then ?_
  refine zS ?_
  refine zDs [1,2,3] [true,true,true,true] ?_
  refine zQd [2,3,24,25,26] [2,3,24,25,26] [false,true,true,true] ?_
  refine Jz (E':=(⟨54,[],[(2,.ref (n+1) 0),(3,.ref (n+3) 0),(24,(sL Zh a0.Kids)),(25,(vI (a0.Kids.length:Int))),(26,(vI 0))]⟩:Env)) (O':=(Zr O n [none,some ⟨false,30,11,1,[(vI 0),(vI 0),nV,nV,(vI 0),nV,nV,nV,nV,(vI 0),nV]⟩,some (oR 49 4 Zi y6),some ⟨false,30,11,1,[(vI 2),(vI 0),nV,nV,(vI 0),nV,nV,.row (n+2) y6.length,.row (n+4) ([]:List Zj).length,(vI 0),nV]⟩,some (oR 40 12 Zh ([]:List Zj)),none])) (n':=(n+6)) ?_ ?_
  ·refine Fit2.trans (E':=(⟨54,[],[(2,.ref (n+1) 0),(3,.ref (n+3) 0),(24,(sL Zh a0.Kids)),(25,(vI (a0.Kids.length:Int))),(26,(vI 0))]⟩:Env)) (O':=(Zr O n [none,some ⟨false,30,11,1,[(vI 0),(vI 0),nV,nV,(vI 0),nV,nV,nV,nV,(vI 0),nV]⟩,some (oR 49 4 Zi y6),some ⟨false,30,11,1,[(vI 2),(vI 0),nV,nV,(vI 0),nV,nV,.row (n+2) y6.length,nV,(vI 0),nV]⟩])) (n':=(n+4)) (Fit2.of (Zz hU rfl rfl ?_) (by omega)) ?_
   ·exact zSe
   refine Fit2.trans (Gh (p:=(n+3)) (k:=8) (q:=⟨false,30,11,1,[(vI 2),(vI 0),nV,nV,(vI 0),nV,nV,.row (n+2) y6.length,nV,(vI 0),nV]⟩) 40 12 (by simp only [U2,Zcy,List.getElem?_cons_zero,List.getElem?_cons_succ,Option.join_some,List.length_nil,Ye]) rfl (by omega)) ?_
   simp only [Y5,Yt,Kj,Q8,List.set_cons_zero,List.set_cons_succ,List.cons_append,List.nil_append,List.length_cons,List.length_nil,Nat.zero_add,Nat.reduceAdd,Nat.reduceLT,Nat.add_assoc]
   refine X3 (k:=5) (k':=6) hU [5,1,2,3,4] [0,1,2,3,4,0] rfl rfl rfl rfl ⟨rfl,rfl⟩ ?_
   exact zSe
  obtain ⟨z12,hz12,h⟩:=bC h
  refine Z8 (E':=⟨54,[],[(2,.ref (n+1) 0),(3,.ref (n+3) 0)]⟩) (O':=(Zr O n [none,some ⟨false,30,11,1,[(vI 0),(vI 0),nV,nV,(vI 0),nV,nV,nV,nV,(vI 0),nV]⟩,some (oR 49 4 Zi y6),some ⟨false,30,11,1,[(vI 2),(vI 0),nV,nV,(vI 0),nV,nV,.row (n+2) y6.length,.row (n+4) z12.length,(vI 0),nV]⟩,some (oR 40 12 Zh z12),none])) (n0:=(n+6)) ?_ ?_
  ·refine Yi hz12 (fun s0_=>⟨54,[],[(2,.ref (n+1) 0),(3,.ref (n+3) 0),(24,(sL Zh a0.Kids)),(25,(vI (a0.Kids.length:Int))),(26,(vI s0_.1))]⟩) (fun s0_=>(Zr O n [none,some ⟨false,30,11,1,[(vI 0),(vI 0),nV,nV,(vI 0),nV,nV,nV,nV,(vI 0),nV]⟩,some (oR 49 4 Zi y6),some ⟨false,30,11,1,[(vI 2),(vI 0),nV,nV,(vI 0),nV,nV,.row (n+2) y6.length,.row (n+4) s0_.2.length,(vI 0),nV]⟩,some (oR 40 12 Zh s0_.2),none])) (fun z12=>JX 1 n (⟨54,[],[(2,.ref (n+1) 0),(3,.ref (n+3) 0)]⟩:Env) (Zr O n [none,some ⟨false,30,11,1,[(vI 0),(vI 0),nV,nV,(vI 0),nV,nV,nV,nV,(vI 0),nV]⟩,some (oR 49 4 Zi y6),some ⟨false,30,11,1,[(vI 2),(vI 0),nV,nV,(vI 0),nV,nV,.row (n+2) y6.length,.row (n+4) z12.length,(vI 0),nV]⟩,some (oR 40 12 Zh z12),none]) (n+6)) ?_
   intro s0_ x0_ hs0_
   unfold Zcd at hs0_
   try dsimp only
   refine zQ [2,3,24,25,26,27] ?_
   refine Zl ?_
   refine Zp (t:=(decide (s0_.1 < (a0.Kids.length:Int)))) rfl (fun c11 => ?_) (fun c11 => ?_)
   ·replace hs0_:=Zo c11 hs0_
    refine Q5 [2,3,24,25,26] [false,true,true,true,true,false] ?_
    refine Zl ?_
    refine Z0 ?_
    refine Zl ?_
    obtain ⟨x8,hx8,ax8,bx8,cx8,hs0_⟩:=bE (f:=Zh) Zi1 (fun _=>rfl) (by decide) hs0_
    refine Zdr [] ax8 bx8 cx8 ?_
    refine zD [2,3,5,24,25,26] [false,true,true,true,true,false,true] ?_
    obtain ⟨y9,hy9,hs0_⟩:=bC hs0_
    obtain ⟨l10,pl10,ql10,el10,hs0_⟩:=bA (k:=1) rfl hs0_
    refine Zes Zt (by kernel_rfl) [.low,.low,.plain,.plain,.plain,.plain,.plain,.plain,.pass,.bar,.plain,.bar] (fun i=>i < (n+7)) [0,1,2,3,4,5,6,7,8,9,10,11] [.low,.low,.plain,.plain,.plain,.plain,.plain,.plain,.pass,.bar,.plain,.bar] [] (by kernel_rfl) rfl ?_
    refine zX3 pl10 ql10 el10 ?_
    refine zO ?_
    first | refine PCallA.of (fun _ _=>Zez hy9) ?_ | refine PCall.of (Zez hy9) ?_
    refine zX3 pl10 ql10 el10 ?_
    refine zO ?_
    refine Zan ⟨54,[],[(2,.ref (n+1) 0),(3,.ref (n+3) 0),(24,(sL Zh a0.Kids)),(25,(vI (a0.Kids.length:Int))),(26,(vI s0_.1))]⟩ (Zr O n [none,some ⟨false,30,11,1,[(vI 0),(vI 0),nV,nV,(vI 0),nV,nV,nV,nV,(vI 0),nV]⟩,some (oR 49 4 Zi y6),some ⟨false,30,11,1,[(vI 2),(vI 0),nV,nV,(vI 0),nV,nV,.row (n+2) y6.length,.row (n+4) l10.length,(vI 0),nV]⟩,some (oR 40 12 Zh l10),none,none,none]) (Zz hU rfl rfl ?_) ?_
    ·exact Z0t pl10 ql10 el10
    refine zR ?_
    exact Vu hs0_
   replace hs0_:=Zn c11 hs0_
   exact zEx hs0_
  try simp only [Yg,Z3,↓reduceIte,Nat.reduceEqDiff]
  refine zDs [2,3] [false,true,true,true,true,false] ?_
  refine zRd [2] [false,true,true,false,true,false] ?_
  refine zW ?_
  obtain rfl:=sI h
  refine Zq (.inr rfl) hU [.agg [(vI 2),(vI 0),nV,nV,(vI 0),nV,nV,.row (n+2) y6.length,.row (n+4) z12.length,(vI 0),nV]] (by omega) ?_
  simp only [push_cast,seval,Zf,Tryz.results18,hN0,hN]
 replace h:=Zn c16 h
 refine zQ [1,2,43] ?_
 refine Zp (t:=(a0.Kind == 3)) rfl (fun c15 => ?_) (fun c15 => ?_)
 ·replace h:=Zo c15 h
  refine Zl ?_
  obtain ⟨y14,hy14,h⟩:=bC h
  refine Zka Zt (by kernel_rfl) [false,false,false,false,false,false,false,false,true] [] (by kernel_rfl) ?_
  refine zS ?_
  refine PCall.of (Zns hy14) ?_
  refine zS ?_
  refine zD [2] [false,true] ?_
  refine zW ?_
  obtain rfl:=sI h
  refine Zq (.inr rfl) hU [.agg [(vI 3),(vI 0),nV,nV,(vI 0),nV,nV,nV,nV,(vI a0.List_),(sL Zd y14)]] (by omega) ?_
  simp only [push_cast,seval,Zf,Tryz.results18,hN0,hN]
 replace h:=Zn c15 h
 refine Q5 [2] [false,true] ?_
 refine Zl ?_
 refine zRd [2] [false,true] ?_
 refine zW ?_
 obtain rfl:=sI h
 refine Zq (.inr rfl) hU [.agg [(vI 0),(vI 0),nV,nV,(vI 0),nV,nV,nV,nV,(vI 0),nV]] (by omega) ?_
 simp only [push_cast,seval,Zf,Tryz.results18,hN0,hN]
theorem Zzv {X1:(Zb→Option Zb)} {Vs:(Int→(List Zg)→Option (List Zg))} (Zez:Zhr X1) (Zns:Zip Vs) {a0:Int} {a1:(List Zg)} {r:(List Zg)} {O:Objs} {n:Nat} (h:Zet X1 Vs a0 a1=some r):GTo Tryz.prog 36 [(vI a0),(sL Zd a1)] O n ((sL Zd r)) O n:=by
 unfold Zet at h
 refine fn0 Zt Tryz.call36 Tryz.func36 rfl fun hU hN0 hN => ?_
 show W _ _ _ _ ⟨44,[],[(0,(vI a0)),(1,(sL Zd a1))]⟩ (Zr O n []) _
 refine zQ [0,1] ?_
 refine zQ [0,1,5] ?_
 refine Zl ?_
 refine zQd [0,5,8,9,10] [0,5,8,9,10] [true] ?_
 refine Jz (E':=(⟨44,[],[(0,(vI a0)),(5,.ref n 0),(8,(sL Zd a1)),(9,(vI (a1.length:Int))),(10,(vI 0))]⟩:Env)) (O':=(Zr O n [some ⟨false,79,4,1,[.row (n+1) ([]:List Zg).length,(vI 0),.row (n+2) ([]:List Zc).length,.row (n+3) ([]:List Zc).length]⟩,some (oR 42 14 Zd ([]:List Zg)),some (oR 25 3 Za ([]:List Zc)),some (oR 25 3 Za ([]:List Zc)),none])) (n':=(n+5)) ?_ ?_
 ·refine Fit2.trans (E':=(⟨44,[],[(0,(vI a0)),(5,.ref n 0),(8,(sL Zd a1)),(9,(vI (a1.length:Int))),(10,(vI 0))]⟩:Env)) (O':=(Zr O n [some ⟨false,79,4,1,[nV,(vI 0),nV,nV]⟩])) (n':=(n+1)) (Fit2.of (Zz hU rfl rfl ?_) (by omega)) ?_
  ·exact zSe
  refine Fit2.trans (Gh (p:=n) (k:=0) (q:=⟨false,79,4,1,[nV,(vI 0),nV,nV]⟩) 42 14 (by simp only [U2,Zcy,List.getElem?_cons_zero,List.getElem?_cons_succ,Option.join_some,List.length_nil,Ye]) rfl (by omega)) ?_
  simp only [Y5,Yt,Kj,Q8,List.set_cons_zero,List.set_cons_succ,List.cons_append,List.nil_append,List.length_cons,List.length_nil,Nat.zero_add,Nat.reduceAdd,Nat.reduceLT,Nat.add_assoc]
  refine Fit2.trans (Gh (p:=n) (k:=2) (q:=⟨false,79,4,1,[.row (n+1) ([]:List Zg).length,(vI 0),nV,nV]⟩) 25 3 (by simp only [U2,Zcy,List.getElem?_cons_zero,List.getElem?_cons_succ,Option.join_some,List.length_nil,Ye]) rfl (by omega)) ?_
  simp only [Y5,Yt,Kj,Q8,List.set_cons_zero,List.set_cons_succ,List.cons_append,List.nil_append,List.length_cons,List.length_nil,Nat.zero_add,Nat.reduceAdd,Nat.reduceLT,Nat.add_assoc]
  refine Fit2.trans (Gh (p:=n) (k:=3) (q:=⟨false,79,4,1,[.row (n+1) ([]:List Zg).length,(vI 0),.row (n+2) ([]:List Zc).length,nV]⟩) 25 3 (by simp only [U2,Zcy,List.getElem?_cons_zero,List.getElem?_cons_succ,Option.join_some,List.length_nil,Ye]) rfl (by omega)) ?_
  simp only [Y5,Yt,Kj,Q8,List.set_cons_zero,List.set_cons_succ,List.cons_append,List.nil_append,List.length_cons,List.length_nil,Nat.zero_add,Nat.reduceAdd,Nat.reduceLT,Nat.add_assoc]
  refine X3 (k:=4) (k':=5) hU [0,1,2,3] [0,1,2,3,0] rfl rfl rfl rfl ⟨rfl,rfl⟩ ?_
  exact zSe
 obtain ⟨z14,hz14,h⟩:=bC h
 refine Z8 (E':=⟨44,[],[(5,.ref n 0)]⟩) (O':=(Zr O n [some ⟨false,79,4,1,[.row (n+1) z14.2.1.length,(vI z14.1),.row (n+2) z14.2.2.1.length,.row (n+3) z14.2.2.2.length]⟩,some (oR 42 14 Zd z14.2.1),some (oR 25 3 Za z14.2.2.1),some (oR 25 3 Za z14.2.2.2),none])) (n0:=(n+5)) ?_ ?_
 ·refine Yi hz14 (fun s0_=>⟨44,[],[(0,(vI a0)),(5,.ref n 0),(8,(sL Zd a1)),(9,(vI (a1.length:Int))),(10,(vI s0_.1))]⟩) (fun s0_=>(Zr O n [some ⟨false,79,4,1,[.row (n+1) s0_.2.2.1.length,(vI s0_.2.1),.row (n+2) s0_.2.2.2.1.length,.row (n+3) s0_.2.2.2.2.length]⟩,some (oR 42 14 Zd s0_.2.2.1),some (oR 25 3 Za s0_.2.2.2.1),some (oR 25 3 Za s0_.2.2.2.2),none])) (fun z14=>JX 0 n (⟨44,[],[(5,.ref n 0)]⟩:Env) (Zr O n [some ⟨false,79,4,1,[.row (n+1) z14.2.1.length,(vI z14.1),.row (n+2) z14.2.2.1.length,.row (n+3) z14.2.2.2.length]⟩,some (oR 42 14 Zd z14.2.1),some (oR 25 3 Za z14.2.2.1),some (oR 25 3 Za z14.2.2.2),none]) (n+5)) ?_
  intro s0_ x0_ hs0_
  unfold Um at hs0_
  try dsimp only
  refine zQ [0,5,8,9,10,11] ?_
  refine Zl ?_
  refine Zp (t:=(decide (s0_.1 < (a1.length:Int)))) rfl (fun c13 => ?_) (fun c13 => ?_)
  ·replace hs0_:=Zo c13 hs0_
   refine Q5 [0,5,8,9,10] [true,true,true,true,false] ?_
   obtain ⟨z1,hz1,hs0_⟩:=bC hs0_
   refine Yk (E':=⟨44,[],[(0,(vI a0)),(5,.ref n 0),(8,(sL Zd a1)),(9,(vI (a1.length:Int))),(10,(vI s0_.1))]⟩) (O':=(Zr O n [some ⟨false,79,4,1,[.row (n+9) z1.2.1.length,(vI z1.1),.row (n+10) z1.2.2.1.length,.row (n+11) z1.2.2.2.length]⟩,none,none,none,none,none,none,none,none,some (oR 42 14 Zd z1.2.1),some (oR 25 3 Za z1.2.2.1),some (oR 25 3 Za z1.2.2.2),none])) (n0:=(n+13)) ?_ ?_
   ·refine Z0 ?_
    refine Zl ?_
    obtain ⟨x3,hx3,ax3,bx3,cx3,hz1⟩:=bE (f:=Zd) Jw (fun _=>rfl) (by decide) hz1
    refine Zdr [] ax3 bx3 cx3 ?_
    refine zD [0,5,7,8,9,10] [true,true,true,true,false,true] ?_
    refine zQ [0,5,7,8,9,10,15] ?_
    refine Z0 ?_
    refine zQ [0,5,7,8,9,10,15,16] ?_
    refine Zp (t:=(x3.Kind == 0)) rfl (fun c12 => ?_) (fun c12 => ?_)
    ·replace hz1:=Zo c12 hz1
     obtain ⟨y4,hy4,hz1⟩:=bC hz1
     refine zR ?_
     refine (Zhl (i0:=n) (j0_0:=(n+2)) (j0_1:=(n+3)) (j0_2:=(n+1)) (by omega) (by omega) (by omega) (by omega) (by omega) (by omega) (by omega) (by omega) (by omega) (by omega) (by simp only [push_cast,seval,Zf,Yw,hN0,hN] <;> rfl) (by simp only [push_cast,seval,Zf,Yw,hN0,hN] <;> rfl) (by simp only [push_cast,seval,Zf,Yw,hN0,hN] <;> rfl) (by simp only [push_cast,seval,Zf,Yw,hN0,hN] <;> rfl) hy4).then ?_
     refine zS ?_
     obtain rfl:=sI hz1
     refine And.intro rfl ?_
     refine Fit2.trans (E':=(⟨44,[],[(0,(vI a0)),(5,.ref n 0),(8,(sL Zd a1)),(9,(vI (a1.length:Int))),(10,(vI s0_.1))]⟩:Env)) (O':=(Zr O n [some ⟨false,79,4,1,[.row (n+8) y4.out.length,(vI y4.kept),.row (n+6) y4.gone.length,.row (n+7) y4.come.length]⟩,none,none,none,none,none,some (oR 25 3 Za y4.gone),some (oR 25 3 Za y4.come),some (oR 42 14 Zd y4.out)])) (n':=(n+9)) (Fit2.of (Zz hU rfl rfl ?_) (by omega)) ?_
     ·exact zSe
     refine X3 (k:=9) (k':=13) hU [0,12,12,12,12,12,10,11,9] [0,0,0,0,0,0,0,0,0,8,6,7,0] rfl rfl rfl rfl ⟨rfl,rfl⟩ ?_
     exact zSe
    replace hz1:=Zn c12 hz1
    refine zQ [0,5,7,8,9,10,15,21] ?_
    refine Zp (t:=(x3.Kind == 1)) rfl (fun c11 => ?_) (fun c11 => ?_)
    ·replace hz1:=Zo c11 hz1
     obtain ⟨y5,hy5,hz1⟩:=bC hz1
     refine zR ?_
     refine (Zj8 (i0:=n) (j0_0:=(n+2)) (j0_1:=(n+3)) (j0_2:=(n+1)) (by omega) (by omega) (by omega) (by omega) (by omega) (by omega) (by omega) (by omega) (by omega) (by omega) (by simp only [push_cast,seval,Zf,Yw,hN0,hN] <;> rfl) (by simp only [push_cast,seval,Zf,Yw,hN0,hN] <;> rfl) (by simp only [push_cast,seval,Zf,Yw,hN0,hN] <;> rfl) (by simp only [push_cast,seval,Zf,Yw,hN0,hN] <;> rfl) hy5).then ?_
     refine zS ?_
     obtain rfl:=sI hz1
     refine And.intro rfl ?_
     refine Fit2.trans (E':=(⟨44,[],[(0,(vI a0)),(5,.ref n 0),(8,(sL Zd a1)),(9,(vI (a1.length:Int))),(10,(vI s0_.1))]⟩:Env)) (O':=(Zr O n [some ⟨false,79,4,1,[.row (n+8) y5.out.length,(vI y5.kept),.row (n+6) y5.gone.length,.row (n+7) y5.come.length]⟩,none,none,none,none,none,some (oR 25 3 Za y5.gone),some (oR 25 3 Za y5.come),some (oR 42 14 Zd y5.out)])) (n':=(n+9)) (Fit2.of (Zz hU rfl rfl ?_) (by omega)) ?_
     ·exact zSe
     refine X3 (k:=9) (k':=13) hU [0,12,12,12,12,12,10,11,9] [0,0,0,0,0,0,0,0,0,8,6,7,0] rfl rfl rfl rfl ⟨rfl,rfl⟩ ?_
     exact zSe
    replace hz1:=Zn c11 hz1
    refine zQ [0,5,7,8,9,10,15,27] ?_
    refine Zp (t:=(x3.Kind == 2)) rfl (fun c10 => ?_) (fun c10 => ?_)
    ·replace hz1:=Zo c10 hz1
     obtain ⟨y6,hy6,hz1⟩:=bC hz1
     refine zR ?_
     refine (Zj9 (i0:=n) (j0_0:=(n+2)) (j0_1:=(n+3)) (j0_2:=(n+1)) (by omega) (by omega) (by omega) (by omega) (by omega) (by omega) (by omega) (by omega) (by omega) (by omega) (by simp only [push_cast,seval,Zf,Yw,hN0,hN] <;> rfl) (by simp only [push_cast,seval,Zf,Yw,hN0,hN] <;> rfl) (by simp only [push_cast,seval,Zf,Yw,hN0,hN] <;> rfl) (by simp only [push_cast,seval,Zf,Yw,hN0,hN] <;> rfl) hy6).then ?_
     refine zS ?_
     obtain rfl:=sI hz1
     refine And.intro rfl ?_
     refine Fit2.trans (E':=(⟨44,[],[(0,(vI a0)),(5,.ref n 0),(8,(sL Zd a1)),(9,(vI (a1.length:Int))),(10,(vI s0_.1))]⟩:Env)) (O':=(Zr O n [some ⟨false,79,4,1,[.row (n+8) y6.out.length,(vI y6.kept),.row (n+6) y6.gone.length,.row (n+7) y6.come.length]⟩,none,none,none,none,none,some (oR 25 3 Za y6.gone),some (oR 25 3 Za y6.come),some (oR 42 14 Zd y6.out)])) (n':=(n+9)) (Fit2.of (Zz hU rfl rfl ?_) (by omega)) ?_
     ·exact zSe
     refine X3 (k:=9) (k':=13) hU [0,12,12,12,12,12,10,11,9] [0,0,0,0,0,0,0,0,0,8,6,7,0] rfl rfl rfl rfl ⟨rfl,rfl⟩ ?_
     exact zSe
    replace hz1:=Zn c10 hz1
    refine zQ [0,5,7,8,9,10,33] ?_
    refine Zp (t:=(x3.Kind == 3)) rfl (fun c9 => ?_) (fun c9 => ?_)
    ·replace hz1:=Zo c9 hz1
     obtain ⟨y7,hy7,hz1⟩:=bC hz1
     obtain ⟨y8,hy8,hz1⟩:=bC hz1
     refine zC (Zez hy7) ?_
     refine (Zk8 (i0:=n) (j0_0:=(n+2)) (j0_1:=(n+3)) (j0_2:=(n+1)) (by omega) (by omega) (by omega) (by omega) (by omega) (by omega) (by omega) (by omega) (by omega) (by omega) (by simp only [push_cast,seval,Zf,Yw,hN0,hN] <;> rfl) (by simp only [push_cast,seval,Zf,Yw,hN0,hN] <;> rfl) (by simp only [push_cast,seval,Zf,Yw,hN0,hN] <;> rfl) (by simp only [push_cast,seval,Zf,Yw,hN0,hN] <;> rfl) hy8).then ?_
     refine zS ?_
     obtain rfl:=sI hz1
     refine And.intro rfl ?_
     refine Fit2.trans (E':=(⟨44,[],[(0,(vI a0)),(5,.ref n 0),(8,(sL Zd a1)),(9,(vI (a1.length:Int))),(10,(vI s0_.1))]⟩:Env)) (O':=(Zr O n [some ⟨false,79,4,1,[.row (n+8) y8.out.length,(vI y8.kept),.row (n+6) y8.gone.length,.row (n+7) y8.come.length]⟩,none,none,none,none,none,some (oR 25 3 Za y8.gone),some (oR 25 3 Za y8.come),some (oR 42 14 Zd y8.out)])) (n':=(n+9)) (Fit2.of (Zz hU rfl rfl ?_) (by omega)) ?_
     ·exact zSe
     refine X3 (k:=9) (k':=13) hU [0,12,12,12,12,12,10,11,9] [0,0,0,0,0,0,0,0,0,8,6,7,0] rfl rfl rfl rfl ⟨rfl,rfl⟩ ?_
     exact zSe
    replace hz1:=Zn c9 hz1
    refine zK ?_
    obtain rfl:=sI hz1
    refine And.intro rfl ?_
    refine Fit2.trans (E':=(⟨44,[],[(0,(vI a0)),(5,.ref n 0),(8,(sL Zd a1)),(9,(vI (a1.length:Int))),(10,(vI s0_.1))]⟩:Env)) (O':=(Zr O n [some ⟨false,79,4,1,[.row (n+1) s0_.2.2.1.length,(vI s0_.2.1),.row (n+2) s0_.2.2.2.1.length,.row (n+3) s0_.2.2.2.2.length]⟩,some (oR 42 14 Zd s0_.2.2.1),some (oR 25 3 Za s0_.2.2.2.1),some (oR 25 3 Za s0_.2.2.2.2),none,none])) (n':=(n+6)) (Fit2.of (Zz hU rfl rfl ?_) (by omega)) ?_
    ·exact zSe
    refine X3 (k:=6) (k':=13) hU [0,9,10,11,12,12] [0,0,0,0,0,0,0,0,0,1,2,3,0] rfl rfl rfl rfl ⟨rfl,rfl⟩ ?_
    exact zSe
   refine zR ?_
   obtain rfl:=sI hs0_
   refine And.intro rfl ?_
   refine Fit2.trans (E':=(⟨44,[],[(0,(vI a0)),(5,.ref n 0),(8,(sL Zd a1)),(9,(vI (a1.length:Int))),(10,(vI (IntKind.i64.wrap (s0_.1+1))))]⟩:Env)) (O':=(Zr O n [some ⟨false,79,4,1,[.row (n+9) z1.2.1.length,(vI z1.1),.row (n+10) z1.2.2.1.length,.row (n+11) z1.2.2.2.length]⟩,none,none,none,none,none,none,none,none,some (oR 42 14 Zd z1.2.1),some (oR 25 3 Za z1.2.2.1),some (oR 25 3 Za z1.2.2.2),none])) (n':=(n+13)) (Fit2.of (Zz hU rfl rfl ?_) (by omega)) ?_
   ·exact zSe
   refine X3 (k:=13) (k':=5) hU [0,4,4,4,4,4,4,4,4,1,2,3,4] [0,9,10,11,0] rfl rfl rfl rfl ⟨rfl,rfl⟩ ?_
   exact zSe
  replace hs0_:=Zn c13 hs0_
  exact zEx hs0_
 try simp only [Yg,Z3,↓reduceIte,Nat.reduceEqDiff]
 refine zDs [5] [true,true,true,true,false] ?_
 obtain ⟨y16,hy16,h⟩:=bC h
 refine zR ?_
 refine (V9 (i0:=n) (j0_0:=(n+2)) (j0_1:=(n+3)) (j0_2:=(n+1)) (by omega) (by omega) (by omega) (by omega) (by omega) (by omega) (by omega) (by omega) (by omega) (by omega) (by simp only [push_cast,seval,Zf,Yw,hN0,hN] <;> rfl) (by simp only [push_cast,seval,Zf,Yw,hN0,hN] <;> rfl) (by simp only [push_cast,seval,Zf,Yw,hN0,hN] <;> rfl) (by simp only [push_cast,seval,Zf,Yw,hN0,hN] <;> rfl) hy16).then ?_
 refine zS ?_
 refine zD [5] [true,false,false,false,false,true,true,true] ?_
 refine zQ [4] ?_
 refine zW ?_
 obtain rfl:=sI h
 refine Zq (.inr rfl) hU [.row (n+7) y16.out.length] (by omega) ?_
 simp only [push_cast,seval,Zf,Tryz.results36,hN0,hN]
theorem Zsk:∀ k,(Zhr ((Xw k).1))∧(Zip ((Xw k).2)):=fun k=>by
 induction k with
 | zero=>exact ⟨@fun a0 r O n h=>(nomatch (show (none:Option _)=some _ from h)),@fun a0 a1 r O n h=>(nomatch (show (none:Option _)=some _ from h))⟩
 | succ k ih=>exact ⟨@fun a0 r O n h=>Zv4 (ih.1) (ih.2)  h,@fun a0 a1 r O n h=>Zzv (ih.1) (ih.2)  h⟩
theorem Zok {a0:Zb} {r:Zb} {O:Objs} {n:Nat} (h:Zdt a0=some r):GTo Tryz.prog 18 [.agg (Ze a0)] O n (.agg (Ze r)) O n:=by
 obtain ⟨k,hk⟩:=Ux h
 exact (Zsk k).1  hk
theorem Znr {a0:Zg} {r:Int} {O:Objs} {n:Nat} (h:Zco a0=some r):GTo Tryz.prog 77 [.agg (Z6 a0)] O n ((vI r)) O n:=by
 unfold Zco at h
 refine fn0 Zt Tryz.call77 Tryz.func77 rfl fun hU hN0 hN => ?_
 show W _ _ _ _ ⟨19,[],[(0,.agg (Z6 a0))]⟩ (Zr O n []) _
 refine zQ [1] ?_
 refine Zl ?_
 refine zQ [1,4] ?_
 refine Z0 ?_
 refine zQ [1,4,5] ?_
 refine Zp (t:=(a0.Kind == 0)) rfl (fun c5 => ?_) (fun c5 => ?_)
 ·replace h:=Zo c5 h
  refine zQ [2] ?_
  refine zW ?_
  obtain rfl:=sI h
  refine Zq (.inr rfl) hU [(vI (if 1048576 < (if a0.N < 0 then 0 else a0.N) then 1048576 else (if a0.N < 0 then 0 else a0.N)))] (by omega) ?_
  simp only [push_cast,seval,Zf,Tryz.results77,hN0,hN]
 replace h:=Zn c5 h
 obtain ⟨z1,hz1,h⟩:=bC h
 refine Yk (E':=⟨19,[],[(1,.ref n 0),(4,(vI a0.Kind)),(11,(vB z1))]⟩) (O':=(Zr O n [some ⟨false,42,14,1,(Z6 a0)⟩])) (n0:=(n+1)) ?_ ?_
 ·refine zQ [1,4,11] ?_
  refine Zp (t:=(a0.Kind == 1)) rfl (fun c2 => ?_) (fun c2 => ?_)
  ·replace hz1:=Zo c2 hz1
   refine zK ?_
   exact Vu hz1
  replace hz1:=Zn c2 hz1
  refine zR ?_
  exact Vu hz1
 refine Zp (t:=z1) rfl (fun c4 => ?_) (fun c4 => ?_)
 ·replace h:=Zo c4 h
  refine zQ [2] ?_
  refine zW ?_
  obtain rfl:=sI h
  refine Zq (.inr rfl) hU [(vI (a0.L.length:Int))] (by omega) ?_
  simp only [push_cast,seval,Zf,Tryz.results77,hN0,hN]
 replace h:=Zn c4 h
 refine zQ [17] ?_
 refine Zp (t:=(a0.Kind == 3)) rfl (fun c3 => ?_) (fun c3 => ?_)
 ·replace h:=Zo c3 h
  refine zQ [2] ?_
  refine zW ?_
  obtain rfl:=sI h
  refine Zq (.inr rfl) hU [(vI 1)] (by omega) ?_
  simp only [push_cast,seval,Zf,Tryz.results77,hN0,hN]
 replace h:=Zn c3 h
 refine Q5 [] [false] ?_
 refine zQ [2] ?_
 refine zW ?_
 obtain rfl:=sI h
 refine Zq (.inr rfl) hU [(vI 0)] (by omega) ?_
 simp only [push_cast,seval,Zf,Tryz.results77,hN0,hN]
theorem Znq {a0:Zb} {r:(Int×Int)} {O:Objs} {n:Nat} (h:Km a0=some r):GTo Tryz.prog 55 [.agg (Ze a0)] O n (.tup [(vI r.1),(vI r.2)]) O n:=by
 unfold Km at h
 refine fn0 Zt Tryz.call55 Tryz.func55 rfl fun hU hN0 hN => ?_
 show W _ _ _ _ ⟨34,[],[(0,.agg (Ze a0))]⟩ (Zr O n []) _
 refine zQ [1] ?_
 refine zQ [1,4,5] ?_
 refine Zl ?_
 refine zQd [4,5,9,10,11] [4,5,9,10,11] [false] ?_
 obtain ⟨z10,hz10,h⟩:=bC h
 refine Z8 (E':=⟨34,[],[(4,(vI z10.1)),(5,(vI z10.2))]⟩) (O':=(Zr O n [none])) (n0:=(n+1)) ?_ ?_
 ·refine Yi hz10 (fun s0_=>⟨34,[],[(4,(vI s0_.1)),(5,(vI s0_.2.1)),(9,(sL Zd a0.Ops)),(10,(vI (a0.Ops.length:Int))),(11,(vI s0_.2.2))]⟩) (fun s0_=>(Zr O n [none])) (fun z10=>JX 0 n (⟨34,[],[(4,(vI z10.1)),(5,(vI z10.2))]⟩:Env) (Zr O n [none]) (n+1)) ?_
  intro s0_ x0_ hs0_
  unfold Za2 at hs0_
  try dsimp only
  refine zQ [4,5,9,10,11,12] ?_
  refine Zl ?_
  refine Zp (t:=(decide (s0_.2.2 < (a0.Ops.length:Int)))) rfl (fun c9 => ?_) (fun c9 => ?_)
  ·replace hs0_:=Zo c9 hs0_
   refine Q5 [4,5,9,10,11] [false] ?_
   obtain ⟨z1,hz1,hs0_⟩:=bC hs0_
   refine Yk (E':=⟨34,[],[(4,(vI z1.1)),(5,(vI z1.2)),(9,(sL Zd a0.Ops)),(10,(vI (a0.Ops.length:Int))),(11,(vI s0_.2.2))]⟩) (O':=(Zr O n [none,none])) (n0:=(n+2)) ?_ ?_
   ·refine Z0 ?_
    refine Zl ?_
    obtain ⟨x3,hx3,ax3,bx3,cx3,hz1⟩:=bE (f:=Zd) Jw (fun _=>rfl) (by decide) hz1
    refine Zdr [] ax3 bx3 cx3 ?_
    refine zD [4,5,7,9,10,11] [false,true] ?_
    obtain ⟨z4,hz4,hz1⟩:=bC hz1
    refine Yk (E':=⟨34,[],[(4,(vI z4)),(5,(vI s0_.2.1)),(7,.ref (n+1) 0),(9,(sL Zd a0.Ops)),(10,(vI (a0.Ops.length:Int))),(11,(vI s0_.2.2))]⟩) (O':=(Zr O n [none,some ⟨false,42,14,1,(Z6 x3)⟩])) (n0:=(n+2)) ?_ ?_
    ·refine zQ [4,5,7,9,10,11,17] ?_
     refine Zp (t:=(x3.Kind != 2)) rfl (fun c6 => ?_) (fun c6 => ?_)
     ·replace hz4:=Zo c6 hz4
      obtain ⟨y5,hy5,hz4⟩:=bC hz4
      refine zC (Znr hy5) ?_
      exact Vu hz4
     replace hz4:=Zn c6 hz4
     refine zK ?_
     exact Vu hz4
    refine zQ [4,5,7,9,10,11,25] ?_
    refine Zp (t:=(x3.Kind != 1)) rfl (fun c8 => ?_) (fun c8 => ?_)
    ·replace hz1:=Zo c8 hz1
     obtain ⟨y7,hy7,hz1⟩:=bC hz1
     refine zC (Znr hy7) ?_
     exact Vu hz1
    replace hz1:=Zn c8 hz1
    refine zK ?_
    exact Vu hz1
   refine zR ?_
   exact Vu hs0_
  replace hs0_:=Zn c9 hs0_
  exact zEx hs0_
 try simp only [Yg,Z3,↓reduceIte,Nat.reduceEqDiff]
 refine zD [4,5] [false] ?_
 refine zQ [2,3] ?_
 refine zW ?_
 obtain rfl:=sI h
 refine Zq (.inr rfl) hU [(vI z10.1),(vI z10.2)] (by omega) ?_
 simp only [push_cast,seval,Zf,Tryz.results55,hN0,hN]
theorem Zi0 {a0:(List Zg)} {a1:Int} {r:(List Zg)} {O:Objs} {n:Nat} {t0:Nat} (ht0:t0 < n) (hot0:O t0=some (oR 42 14 Zd a0)) (h:Vk a0 a1=some r):GTo Tryz.prog 57 [.row t0 a0.length,(vI a1)] O n (.row n r.length) (Zr (O.upd t0 none) n [some (oR 42 14 Zd r)]) (n+1):=by
 unfold Vk at h
 refine Zn7 Zt Tryz.call57 Tryz.func57 rfl (Nat.le_of_ble_eq_true rfl) (by omega) fun hU => ?_
 have e0:=Yax (ba:=n) (E:=⟨13,[],[(0,.row t0 a0.length),(1,.val (.int .i64 a1))]⟩) (O:=(Zr O n [])) (n:=n) (j:=t0) (len:=a0.length) (q:=⟨true,42,14,a0.length,fl Zd a0⟩) 0 rfl (by rw [Y0 _ ht0];exact hot0) (by omega)
 simp only [Y6 _ _ ht0,Y5,Yt,List.cons_append,List.nil_append,List.length_cons,List.length_nil,Nat.zero_add,Nat.reduceAdd,Nat.add_assoc] at e0
 refine Jz e0 ?_
 have hU:=(Und.drop hU t0)
 have hN0:(O.upd t0 none) n=none:=hU.fresh _ (Nat.le_refl _)
 have hN:∀ k,(O.upd t0 none) (n+k)=none:=fun k=>hU.fresh _ (Nat.le_add_right _ _)
 show W _ _ _ _ ⟨13,[],[(0,.row n a0.length),(0,.row t0 a0.length),(1,(vI a1))]⟩ (Zr (O.upd t0 none) n [some (oR 42 14 Zd a0)]) _
 refine zQ [0,1] ?_
 refine Zl ?_
 refine zQ [0,1,6] ?_
 refine Zp (t:=(decide (a1≤0))) rfl (fun c3 => ?_) (fun c3 => ?_)
 ·replace h:=Zo c3 h
  refine zQ [4] ?_
  refine zW ?_
  obtain rfl:=sI h
  refine Zyz (k:=1) (L3:=[some (oR 42 14 Zd a0),none]) (E2:=(⟨13,[],[(4,.row n a0.length)]⟩:Env)) (n3:=(n+2)) (.inr rfl) hU rfl [.row n a0.length] ?_ ?_
  ·refine Fit2.trans (E':=(⟨13,[],[(4,.row n a0.length)]⟩:Env)) (O':=(Zr (O.upd t0 none) n [some (oR 42 14 Zd a0)])) (n':=(n+1)) (Fit2.of (Zz hU rfl rfl ?_) (by omega)) ?_
   ·exact zSe
   refine X3 (k:=1) (k':=2) hU [0] [0,0] rfl rfl rfl rfl ⟨rfl,rfl⟩ ?_
   exact zSe
  simp only [push_cast,seval,Zf,Tryz.results57,hN0,hN]
 replace h:=Zn c3 h
 refine Q5 [0,1] [true] ?_
 refine Zl ?_
 obtain ⟨l2,pl2,ql2,el2,h⟩:=bA (k:=1) rfl h
 refine U1 [] pl2 ql2 el2 ?_
 refine Zan ⟨13,[],[(4,.row n l2.length)]⟩ (Zr (O.upd t0 none) n [some (oR 42 14 Zd l2),none]) (Zz hU rfl rfl ?_) ?_
 ·exact Z0t pl2 ql2 el2
 refine zW ?_
 obtain rfl:=sI h
 refine Zyz (k:=1) (L3:=[some (oR 42 14 Zd l2),none]) (E2:=(⟨13,[],[(4,.row n l2.length)]⟩:Env)) (n3:=(n+2)) (.inr rfl) hU rfl [.row n l2.length] ?_ ?_
 ·refine Fit2.trans (E':=(⟨13,[],[(4,.row n l2.length)]⟩:Env)) (O':=(Zr (O.upd t0 none) n [some (oR 42 14 Zd l2),none])) (n':=(n+2)) (Fit2.of (Zz hU rfl rfl ?_) (by omega)) ?_
  ·exact zSe
  refine X3 (k:=2) (k':=2) hU [0,1] [0,0] rfl rfl rfl rfl ⟨rfl,rfl⟩ ?_
  exact zSe
 simp only [push_cast,seval,Zf,Tryz.results57,hN0,hN]
theorem Zg4 {a0:Zg} {a1:Int} {a2:(List Zb)} {a3:Zb} {a4:Int} {r:(Int×(List Zb)×Zb×Int)} {O:Objs} {n:Nat} {i1 i2 j2_0 i3 i4:Nat} (hi1:i1 < n) (hi2:i2 < n) (Yfg:j2_0 < n) (Z60:i2≠j2_0) (hi3:i3 < n) (hi4:i4 < n) (Z04:i1≠j2_0) (Z05:i3≠j2_0) (Z06:i4≠j2_0) (Z48:i1≠i2) (Z70:i1≠i3) (Z71:i1≠i4) (Z49:i2≠i3) (Z5a:i2≠i4) (Z72:i3≠i4) (ho1:O i1=some ⟨false,3,1,1,[(vI a1)]⟩) (ho2:O i2=some ⟨false,34,1,1,[.row j2_0 a2.length]⟩) (Ygd:O j2_0=some (oR 30 11 Zk a2)) (ho3:O i3=some ⟨false,30,11,1,(Ze a3)⟩) (ho4:O i4=some ⟨false,3,1,1,[(vI a4)]⟩) (h:Vl a0 a1 a2 a3 a4=some r):GTo Tryz.prog 56 [.agg (Z6 a0),.ref i1 0,.ref i2 0,.ref i3 0,.ref i4 0] O n (.tup []) (Zr (((((O.upd j2_0 none).upd i1 (some ⟨false,3,1,1,[(vI r.1)]⟩)).upd i2 (some ⟨false,34,1,1,[.row n r.2.1.length]⟩)).upd i3 (some ⟨false,30,11,1,(Ze r.2.2.1)⟩)).upd i4 (some ⟨false,3,1,1,[(vI r.2.2.2)]⟩)) n [some (oR 30 11 Zk r.2.1)]) (n+1):=by
 unfold Vl at h
 refine Zn7 Zt Tryz.call56 Tryz.func56 rfl (Nat.le_of_ble_eq_true rfl) (by omega) fun hU => ?_
 rw [show Zr O n []=Zr ((((O.upd i1 (some ⟨false,3,1,1,[(vI a1)]⟩)).upd i2 (some ⟨false,34,1,1,[.row j2_0 a2.length]⟩)).upd i3 (some ⟨false,30,11,1,(Ze a3)⟩)).upd i4 (some ⟨false,3,1,1,[(vI a4)]⟩)) n [] from by rw [Zlz ho1,Zlz ho2,Zlz ho3,Zlz ho4]]
 have e0:=U0 (ba:=n) (E:=⟨22,[],Zh3 0 [.agg [.val (.int .i64 a0.Kind),.val (.int .i64 a0.N),.sl a0.L.length (fl Za a0.L),.val (.int .i64 a0.E.Kind),.val (.int .i64 a0.E.Old.Kind),.sl a0.E.Old.Words.length (fl (eI .u64) a0.E.Old.Words),.sl a0.E.Old.Kids.length (fl Za a0.E.Old.Kids),.val (.int .i64 a0.E.New.Kind),.sl a0.E.New.Words.length (fl (eI .u64) a0.E.New.Words),.sl a0.E.New.Kids.length (fl Za a0.E.New.Kids),.sl a0.E.Words.length (fl Zi a0.E.Words),.sl a0.E.Kids.length (fl Zh a0.E.Kids),.val (.int .i64 a0.E.List_),.sl a0.E.Ops.length (fl Zd a0.E.Ops)],.ref i1 0,.ref i2 0,.ref i3 0,.ref i4 0]⟩) (O:=(Zr ((((O.upd i1 (some ⟨false,3,1,1,[.val (.int .i64 a1)]⟩)).upd i2 (some ⟨false,34,1,1,[.row j2_0 a2.length]⟩)).upd i3 (some ⟨false,30,11,1,[.val (.int .i64 a3.Kind),.val (.int .i64 a3.Old.Kind),.sl a3.Old.Words.length (fl (eI .u64) a3.Old.Words),.sl a3.Old.Kids.length (fl Za a3.Old.Kids),.val (.int .i64 a3.New.Kind),.sl a3.New.Words.length (fl (eI .u64) a3.New.Words),.sl a3.New.Kids.length (fl Za a3.New.Kids),.sl a3.Words.length (fl Zi a3.Words),.sl a3.Kids.length (fl Zh a3.Kids),.val (.int .i64 a3.List_),.sl a3.Ops.length (fl Zd a3.Ops)]⟩)).upd i4 (some ⟨false,3,1,1,[.val (.int .i64 a4)]⟩)) n [])) (n:=n) (i:=i2) (j:=j2_0) (k:=0) (len:=a2.length) (q:=⟨false,34,1,1,[.row j2_0 a2.length]⟩) (qj:=⟨true,30,11,a2.length,fl Zk a2⟩) (by rw [Y0 _ hi2];simp only [Ye,Zc9 (Ne.symm Z48),Zc9 Z49,Zc9 Z5a]) rfl (by rw [Y0 _ Yfg];simp only [Zc9 (Ne.symm Z04),Zc9 (Ne.symm Z60),Zc9 (Ne.symm Z05),Zc9 (Ne.symm Z06)];exact Ygd) Z60 (by omega)
 simp only [Y6 _ _ Yfg,Y6 _ _ hi2,Y5,Yt,Q9,Zfi (Ne.symm Z04),Zfi (Ne.symm Z60),Zfi (Ne.symm Z05),Zfi (Ne.symm Z06),Zfi Z48,Zfi Z70,Zfi Z71,Zfi Z49,Zfi Z5a,Zfi Z72,List.set_cons_zero,List.set_cons_succ,List.cons_append,List.nil_append,List.length_cons,List.length_nil,Nat.zero_add,Nat.reduceAdd,Nat.add_assoc] at e0
 refine Jz e0 ?_
 have hU:=(Und.drop hU j2_0)
 have ra1_2:=fun X=>@Zc9 X _ _ Z48
 have rb1_2:=fun X=>@Zc9 X _ _ (Ne.symm Z48)
 have rc1_2:=fun X b c=>@Zfi X _ _ b c Z48
 have ra1_3:=fun X=>@Zc9 X _ _ Z70
 have rb1_3:=fun X=>@Zc9 X _ _ (Ne.symm Z70)
 have rc1_3:=fun X b c=>@Zfi X _ _ b c Z70
 have ra1_4:=fun X=>@Zc9 X _ _ Z71
 have rb1_4:=fun X=>@Zc9 X _ _ (Ne.symm Z71)
 have rc1_4:=fun X b c=>@Zfi X _ _ b c Z71
 have ra2_3:=fun X=>@Zc9 X _ _ Z49
 have rb2_3:=fun X=>@Zc9 X _ _ (Ne.symm Z49)
 have rc2_3:=fun X b c=>@Zfi X _ _ b c Z49
 have ra2_4:=fun X=>@Zc9 X _ _ Z5a
 have rb2_4:=fun X=>@Zc9 X _ _ (Ne.symm Z5a)
 have rc2_4:=fun X b c=>@Zfi X _ _ b c Z5a
 have ra3_4:=fun X=>@Zc9 X _ _ Z72
 have rb3_4:=fun X=>@Zc9 X _ _ (Ne.symm Z72)
 have rc3_4:=fun X b c=>@Zfi X _ _ b c Z72
 have hk1:∀ k,i1 < n+k:=fun k=>by omega
 have hk2:∀ k,i2 < n+k:=fun k=>by omega
 have hk3:∀ k,i3 < n+k:=fun k=>by omega
 have hk4:∀ k,i4 < n+k:=fun k=>by omega
 have hN0:∀ o p r s,Objs.upd (Objs.upd (Objs.upd (Objs.upd (O.upd j2_0 none) i1 o) i2 p) i3 r) i4 s n=none:=fun o p r s=>(Yz _ _ (by omega)).trans ((Yz _ _ (by omega)).trans ((Yz _ _ (by omega)).trans (Kz hU hi1 _ (Nat.le_refl _))))
 have hN:∀ o p r s k,Objs.upd (Objs.upd (Objs.upd (Objs.upd (O.upd j2_0 none) i1 o) i2 p) i3 r) i4 s (n+k)=none:=fun o p r s k=>(Yz _ _ (by omega)).trans ((Yz _ _ (by omega)).trans ((Yz _ _ (by omega)).trans (Kz hU hi1 _ (Nat.le_add_right _ _))))
 show W _ _ _ _ ⟨22,[],[(0,.agg (Z6 a0)),(1,.ref i1 0),(2,.ref i2 0),(3,.ref i3 0),(4,.ref i4 0)]⟩ (Zr (((((O.upd j2_0 none).upd i1 (some ⟨false,3,1,1,[(vI a1)]⟩)).upd i2 (some ⟨false,34,1,1,[.row n a2.length]⟩)).upd i3 (some ⟨false,30,11,1,(Ze a3)⟩)).upd i4 (some ⟨false,3,1,1,[(vI a4)]⟩)) n [some (oR 30 11 Zk a2)]) _
 refine Zl0 [1,2,3,4,5] (Yn Zt [] ?_)
 simp only [push_cast,seval,Zf,hi1,hk1,hi2,hk2,hi3,hk3,hi4,hk4,ra1_2,rb1_2,rc1_2,ra1_3,rb1_3,rc1_3,ra1_4,rb1_4,rc1_4,ra2_3,rb2_3,rc2_3,ra2_4,rb2_4,rc2_4,ra3_4,rb3_4,rc3_4,hN0,hN]
 refine Zl ?_
 obtain ⟨y2,hy2,h⟩:=bC h
 refine Yn Zt [] ?_
 simp only [push_cast,seval,Zf,hi1,hk1,hi2,hk2,hi3,hk3,hi4,hk4,ra1_2,rb1_2,rc1_2,ra1_3,rb1_3,rc1_3,ra1_4,rb1_4,rc1_4,ra2_3,rb2_3,rc2_3,ra2_4,rb2_4,rc2_4,ra3_4,rb3_4,rc3_4,hN0,hN]
 refine GCalls.adopt (pre:=[]) 42 14 ?_
 simp only [push_cast,seval,Zf,List.append_eq,List.cons_append,List.nil_append,hi1,hk1,hi2,hk2,hi3,hk3,hi4,hk4,ra1_2,rb1_2,rc1_2,ra1_3,rb1_3,rc1_3,ra1_4,rb1_4,rc1_4,ra2_3,rb2_3,rc2_3,ra2_4,rb2_4,rc2_4,ra3_4,rb3_4,rc3_4,hN0,hN]
 refine (Zi0 (t0:=(n+2)) (by omega) (by simp only [push_cast,seval,Zf,Yw,hi1,hk1,hi2,hk2,hi3,hk3,hi4,hk4,ra1_2,rb1_2,rc1_2,ra1_3,rb1_3,rc1_3,ra1_4,rb1_4,rc1_4,ra2_3,rb2_3,rc2_3,ra2_4,rb2_4,rc2_4,ra3_4,rb3_4,rc3_4,hN0,hN] <;> rfl) hy2).then ?_
 simp only [push_cast,seval,Zf,hi1,hk1,hi2,hk2,hi3,hk3,hi4,hk4,ra1_2,rb1_2,rc1_2,ra1_3,rb1_3,rc1_3,ra1_4,rb1_4,rc1_4,ra2_3,rb2_3,rc2_3,ra2_4,rb2_4,rc2_4,ra3_4,rb3_4,rc3_4,hN0,hN]
 refine zDs [2,3,4,5,6] [true,true,false,true] ?_
 obtain ⟨l4,pl4,ql4,el4,h⟩:=bA (k:=1) rfl h
 refine Yn Zt [] ?_
 simp only [push_cast,seval,Zf,pl4,ql4,el4,hi1,hk1,hi2,hk2,hi3,hk3,hi4,hk4,ra1_2,rb1_2,rc1_2,ra1_3,rb1_3,rc1_3,ra1_4,rb1_4,rc1_4,ra2_3,rb2_3,rc2_3,ra2_4,rb2_4,rc2_4,ra3_4,rb3_4,rc3_4,hN0,hN]
 refine Zan ⟨22,[],[(2,.ref i2 0),(3,.ref i3 0),(4,.ref i4 0),(6,.row (n+3) l4.length)]⟩ (Zr (((((O.upd j2_0 none).upd i1 (some ⟨false,3,1,1,[(vI a1)]⟩)).upd i2 (some ⟨false,34,1,1,[.row n a2.length]⟩)).upd i3 (some ⟨false,30,11,1,(Ze a3)⟩)).upd i4 (some ⟨false,3,1,1,[(vI a4)]⟩)) n [some (oR 30 11 Zk a2),none,none,some (oR 42 14 Zd l4),none]) (Z00 hU rfl rfl ?_) ?_
 ·simp only [push_cast,seval,Zf,pl4,ql4,el4,hi1,hk1,hi2,hk2,hi3,hk3,hi4,hk4,ra1_2,rb1_2,rc1_2,ra1_3,rb1_3,rc1_3,ra1_4,rb1_4,rc1_4,ra2_3,rb2_3,rc2_3,ra2_4,rb2_4,rc2_4,ra3_4,rb3_4,rc3_4,hN0,hN]
 obtain ⟨y5,hy5,h⟩:=bC h
 obtain ⟨l6,pl6,ql6,el6,h⟩:=bA (k:=1) rfl h
 refine Zes Zt (by kernel_rfl) [.low,.low,.low,.plain,.plain,.pass,.plain,.pass,.bar,.bar] (fun i=>i < (n+5)∧¬ i=n+3) [0,1,2,3,4,5,6,7,8,9] [.low,.low,.low,.plain,.plain,.pass,.plain,.pass,.bar,.bar] [] (by kernel_rfl) rfl ?_
 simp only [push_cast,seval,Zf,pl6,ql6,el6,hi1,hk1,hi2,hk2,hi3,hk3,hi4,hk4,ra1_2,rb1_2,rc1_2,ra1_3,rb1_3,rc1_3,ra1_4,rb1_4,rc1_4,ra2_3,rb2_3,rc2_3,ra2_4,rb2_4,rc2_4,ra3_4,rb3_4,rc3_4,hN0,hN]
 refine zO ?_
 refine (Zi0 (t0:=(n+3)) (by omega) (by simp only [push_cast,seval,Zf,Yw,pl6,ql6,el6,hi1,hk1,hi2,hk2,hi3,hk3,hi4,hk4,ra1_2,rb1_2,rc1_2,ra1_3,rb1_3,rc1_3,ra1_4,rb1_4,rc1_4,ra2_3,rb2_3,rc2_3,ra2_4,rb2_4,rc2_4,ra3_4,rb3_4,rc3_4,hN0,hN] <;> rfl) hy5).then ?_
 simp only [push_cast,seval,Zf,pl6,ql6,el6,hi1,hk1,hi2,hk2,hi3,hk3,hi4,hk4,ra1_2,rb1_2,rc1_2,ra1_3,rb1_3,rc1_3,ra1_4,rb1_4,rc1_4,ra2_3,rb2_3,rc2_3,ra2_4,rb2_4,rc2_4,ra3_4,rb3_4,rc3_4,hN0,hN]
 refine zO ?_
 obtain rfl:=sI h
 refine Yaa (k:=1) (i:=i1) (j:=i2) (u:=i3) (v:=i4) (q1:=⟨false,3,1,1,[(vI a1)]⟩) (p1:=⟨false,34,1,1,[.row n l6.length]⟩) (s1:=⟨false,30,11,1,(Ze a3)⟩) (t1:=⟨false,3,1,1,[(vI a4)]⟩) (L3:=[some (oR 30 11 Zk l6),none]) (E2:=(⟨22,[],[]⟩:Env)) (n3:=(n+2)) (.inl rfl) hU rfl [] ?_ ?_
 ·refine Fit2.trans (E':=(⟨22,[],[]⟩:Env)) (O':=(Zr (((((O.upd j2_0 none).upd i1 (some ⟨false,3,1,1,[(vI a1)]⟩)).upd i2 (some ⟨false,34,1,1,[.row n l6.length]⟩)).upd i3 (some ⟨false,30,11,1,(Ze a3)⟩)).upd i4 (some ⟨false,3,1,1,[(vI a4)]⟩)) n [some (oR 30 11 Zk l6),none,none,none,none,none,none])) (n':=(n+7)) (Fit2.of (Z00 hU rfl rfl ?_) (by omega)) ?_
  ·simp only [push_cast,seval,Zf,pl6,ql6,el6,hi1,hk1,hi2,hk2,hi3,hk3,hi4,hk4,ra1_2,rb1_2,rc1_2,ra1_3,rb1_3,rc1_3,ra1_4,rb1_4,rc1_4,ra2_3,rb2_3,rc2_3,ra2_4,rb2_4,rc2_4,ra3_4,rb3_4,rc3_4,hN0,hN]
  refine Yas (k:=7) (k':=2) hU [0,1,1,1,1,1,1] [0,0] rfl rfl rfl rfl ⟨rfl,rfl⟩ ?_
  simp only [push_cast,seval,Zf,hi1,hk1,hi2,hk2,hi3,hk3,hi4,hk4,ra1_2,rb1_2,rc1_2,ra1_3,rb1_3,rc1_3,ra1_4,rb1_4,rc1_4,ra2_3,rb2_3,rc2_3,ra2_4,rb2_4,rc2_4,ra3_4,rb3_4,rc3_4,hN0,hN]
 simp only [push_cast,seval,Zf,Tryz.results56,hi1,hk1,hi2,hk2,hi3,hk3,hi4,hk4,ra1_2,rb1_2,rc1_2,ra1_3,rb1_3,rc1_3,ra1_4,rb1_4,rc1_4,ra2_3,rb2_3,rc2_3,ra2_4,rb2_4,rc2_4,ra3_4,rb3_4,rc3_4,hN0,hN]
def Zey (Xh:(Zb→Option (List Zb))):Prop:=∀ {a0:Zb} {r:(List Zb)} {O:Objs} {n:Nat},Xh a0=some r→GTo Tryz.prog 17 [.agg (Ze a0)] O n ((sL Zk r)) O n
def Zby (Xl:(Zb→Option (List Zb))):Prop:=∀ {a0:Zb} {r:(List Zb)} {O:Objs} {n:Nat},Xl a0=some r→GTo Tryz.prog 32 [.agg (Ze a0)] O n ((sL Zk r)) O n
def Zd2 (Xz:(Zb→Option (List Zb))):Prop:=∀ {a0:Zb} {r:(List Zb)} {O:Objs} {n:Nat},Xz a0=some r→GTo Tryz.prog 33 [.agg (Ze a0)] O n ((sL Zk r)) O n
theorem Zv5 {Xh:(Zb→Option (List Zb))} {Xl:(Zb→Option (List Zb))} {Xz:(Zb→Option (List Zb))} (Ze0:Zey Xh) (Zfh:Zby Xl) (Zg3:Zd2 Xz) {a0:Zb} {r:(List Zb)} {O:Objs} {n:Nat} (h:Zbq Xh Xl Xz a0=some r):GTo Tryz.prog 17 [.agg (Ze a0)] O n ((sL Zk r)) O n:=by
 unfold Zbq at h
 refine fn0 Zt Tryz.call17 Tryz.func17 rfl fun hU hN0 hN => ?_
 show W _ _ _ _ ⟨22,[],[(0,.agg (Ze a0))]⟩ (Zr O n []) _
 refine zQ [1] ?_
 refine zQ [1,3] ?_
 obtain ⟨z1,hz1,h⟩:=bC h
 refine Ya4 (J:=(Xg (fun z1=>JN n (⟨22,[],[(1,.ref n 0),(3,(sL Zk z1))]⟩:Env) (Zr O n [some ⟨false,30,11,1,(Ze a0)⟩]) (n+1)) (fun z1=>JR n (⟨22,[],[(2,nV)]⟩:Env) (Zr O n [none]) (n+1)))) (z:=z1) ?_ fun hw => ?_
 ·refine zQ [1,3,5] ?_
  refine Z0 ?_
  refine zQ [1,3,5,6] ?_
  refine Zp (t:=(a0.Kind == 0)) rfl (fun c6 => ?_) (fun c6 => ?_)
  ·replace hz1:=Zo c6 hz1
   refine zQ [2] ?_
   refine zW ?_
   exact Vu hz1
  replace hz1:=Zn c6 hz1
  refine zQ [1,3,5,8] ?_
  refine Zp (t:=(a0.Kind == 2)) rfl (fun c5 => ?_) (fun c5 => ?_)
  ·replace hz1:=Zo c5 hz1
   obtain ⟨y2,hy2,hz1⟩:=bC hz1
   refine zC (Zfh hy2) ?_
   exact Vu hz1
  replace hz1:=Zn c5 hz1
  refine zQ [1,3,12] ?_
  refine Zp (t:=(a0.Kind == 3)) rfl (fun c4 => ?_) (fun c4 => ?_)
  ·replace hz1:=Zo c4 hz1
   obtain ⟨y3,hy3,hz1⟩:=bC hz1
   refine zC (Zg3 hy3) ?_
   exact Vu hz1
  replace hz1:=Zn c4 hz1
  refine zK ?_
  exact Vu hz1
 rcases z1 with z1 | z1
 ·dsimp only [Xg] at hw h
  refine Yk hw ?_
  refine Zl ?_
  refine zQ [1,3,18] ?_
  refine Zp (t:=((z1.length:Int) == 0)) rfl (fun c7 => ?_) (fun c7 => ?_)
  ·replace h:=Zo c7 h
   refine Zl ?_
   refine zR ?_
   refine Zan ⟨22,[],[(2,.row (n+1) ([a0]:List Zb).length)]⟩ (Zr O n [none,some (oR 30 11 Zk ([a0]:List Zb))]) (Zz hU rfl rfl ?_) ?_
   ·exact zSe
   refine zW ?_
   obtain rfl:=sI h
   refine Zq (.inr rfl) hU [.row (n+1) ([a0]:List Zb).length] (by omega) ?_
   simp only [push_cast,seval,Zf,Tryz.results17,hN0,hN]
  replace h:=Zn c7 h
  refine Q5 [3] [false] ?_
  refine zQ [2] ?_
  refine zW ?_
  obtain rfl:=sI h
  refine Zq (.inr rfl) hU [(sL Zk z1)] (by omega) ?_
  simp only [push_cast,seval,Zf,Tryz.results17,hN0,hN]
 dsimp only [Xg] at hw h
 refine Z6j hw ?_
 try simp only [Yg,Z3]
 obtain rfl:=sI h
 refine Zq (.inr rfl) hU [nV] (by omega) ?_
 simp only [push_cast,seval,Zf,Tryz.results17,hN0,hN]
theorem Zro {Xh:(Zb→Option (List Zb))} {Xl:(Zb→Option (List Zb))} {Xz:(Zb→Option (List Zb))} (Ze0:Zey Xh) (Zfh:Zby Xl) (Zg3:Zd2 Xz) {a0:Zb} {r:(List Zb)} {O:Objs} {n:Nat} (h:Ge Xh Xl Xz a0=some r):GTo Tryz.prog 32 [.agg (Ze a0)] O n ((sL Zk r)) O n:=by
 unfold Ge at h
 refine fn0 Zt Tryz.call32 Tryz.func32 rfl fun hU hN0 hN => ?_
 show W _ _ _ _ ⟨51,[],[(0,.agg (Ze a0))]⟩ (Zr O n []) _
 refine zQ [1] ?_
 refine zQ [1,3] ?_
 refine Zl ?_
 refine zQd [1,3,11,12,13] [1,3,11,12,13] [true] ?_
 refine Jz (E':=(⟨51,[],[(1,.ref n 0),(3,.row (n+1) ([]:List Zb).length),(11,(sL Zi a0.Words)),(12,(vI (a0.Words.length:Int))),(13,(vI 0))]⟩:Env)) (O':=(Zr O n [some ⟨false,30,11,1,(Ze a0)⟩,some (oR 30 11 Zk ([]:List Zb)),none])) (n':=(n+3)) ?_ ?_
 ·refine Fit2.trans (E':=(⟨51,[],[(1,.ref n 0),(3,nV),(11,(sL Zi a0.Words)),(12,(vI (a0.Words.length:Int))),(13,(vI 0))]⟩:Env)) (O':=(Zr O n [some ⟨false,30,11,1,(Ze a0)⟩])) (n':=(n+1)) (Fit2.of (Zz hU rfl rfl ?_) (by omega)) ?_
  ·exact zSe
  refine Fit2.trans (Zf6 3 30 11 rfl (by omega)) ?_
  simp only [Y5,Yt,Kj,Q8,List.set_cons_zero,List.set_cons_succ,List.cons_append,List.nil_append,List.length_cons,List.length_nil,Nat.zero_add,Nat.reduceAdd,Nat.reduceLT,Nat.add_assoc]
  refine Fit2.trans (E':=(⟨51,[],[(1,.ref n 0),(3,.row (n+1) ([]:List Zb).length),(11,(sL Zi a0.Words)),(12,(vI (a0.Words.length:Int))),(13,(vI 0))]⟩:Env)) (O':=(Zr O n [some ⟨false,30,11,1,(Ze a0)⟩,some (oR 30 11 Zk ([]:List Zb))])) (n':=(n+2)) (Fit2.of (Zz hU rfl rfl ?_) (by omega)) ?_
  ·exact zSe
  refine X3 (k:=2) (k':=3) hU [0,1] [0,1,0] rfl rfl rfl rfl ⟨rfl,rfl⟩ ?_
  exact zSe
 obtain ⟨z5,hz5,h⟩:=bC h
 refine Z8 (E':=⟨51,[],[(1,.ref n 0),(3,.row (n+1) z5.length)]⟩) (O':=(Zr O n [some ⟨false,30,11,1,(Ze a0)⟩,some (oR 30 11 Zk z5),none])) (n0:=(n+3)) ?_ ?_
 ·refine Yi hz5 (fun s0_=>⟨51,[],[(1,.ref n 0),(3,.row (n+1) s0_.2.length),(11,(sL Zi a0.Words)),(12,(vI (a0.Words.length:Int))),(13,(vI s0_.1))]⟩) (fun s0_=>(Zr O n [some ⟨false,30,11,1,(Ze a0)⟩,some (oR 30 11 Zk s0_.2),none])) (fun z5=>JX 0 n (⟨51,[],[(1,.ref n 0),(3,.row (n+1) z5.length)]⟩:Env) (Zr O n [some ⟨false,30,11,1,(Ze a0)⟩,some (oR 30 11 Zk z5),none]) (n+3)) ?_
  intro s0_ x0_ hs0_
  unfold Uv at hs0_
  try dsimp only
  refine zQ [1,3,11,12,13,14] ?_
  refine Zl ?_
  refine Zp (t:=(decide (s0_.1 < (a0.Words.length:Int)))) rfl (fun c4 => ?_) (fun c4 => ?_)
  ·replace hs0_:=Zo c4 hs0_
   refine Q5 [1,3,11,12,13] [true,true,false] ?_
   refine Zl ?_
   refine Z0 ?_
   refine Zl ?_
   obtain ⟨x2,hx2,ax2,bx2,cx2,hs0_⟩:=bE (f:=Zi) Zq9 (fun _=>rfl) (by decide) hs0_
   refine Zdr [] ax2 bx2 cx2 ?_
   refine zD [1,3,5,11,12,13] [true,true,false,true] ?_
   obtain ⟨l3,pl3,ql3,el3,hs0_⟩:=bA (k:=1) rfl hs0_
   refine U1 [] pl3 ql3 el3 ?_
   refine Zan ⟨51,[],[(1,.ref n 0),(3,.row (n+1) l3.length),(11,(sL Zi a0.Words)),(12,(vI (a0.Words.length:Int))),(13,(vI s0_.1))]⟩ (Zr O n [some ⟨false,30,11,1,(Ze a0)⟩,some (oR 30 11 Zk l3),none,none,none,none]) (Zz hU rfl rfl ?_) ?_
   ·exact Z0t pl3 ql3 el3
   refine zR ?_
   exact Vu hs0_
  replace hs0_:=Zn c4 hs0_
  exact zEx hs0_
 try simp only [Yg,Z3,↓reduceIte,Nat.reduceEqDiff]
 refine zDs [1,3] [true,true,false] ?_
 refine zQd [3,25,26,27] [3,25,26,27] [false,true,false] ?_
 obtain ⟨z16,hz16,h⟩:=bC h
 refine Z8 (E':=⟨51,[],[(3,.row (n+1) z16.length)]⟩) (O':=(Zr O n [none,some (oR 30 11 Zk z16),none])) (n0:=(n+3)) ?_ ?_
 ·refine Yi hz16 (fun s1_=>⟨51,[],[(3,.row (n+1) s1_.2.length),(25,(sL Zh a0.Kids)),(26,(vI (a0.Kids.length:Int))),(27,(vI s1_.1))]⟩) (fun s1_=>(Zr O n [none,some (oR 30 11 Zk s1_.2),none])) (fun z16=>JX 2 n (⟨51,[],[(3,.row (n+1) z16.length)]⟩:Env) (Zr O n [none,some (oR 30 11 Zk z16),none]) (n+3)) ?_
  intro s1_ x1_ hs1_
  unfold Kr at hs1_
  try dsimp only
  refine zQ [3,25,26,27,28] ?_
  refine Zl ?_
  refine Zp (t:=(decide (s1_.1 < (a0.Kids.length:Int)))) rfl (fun c15 => ?_) (fun c15 => ?_)
  ·replace hs1_:=Zo c15 hs1_
   refine Q5 [3,25,26,27] [false,true,false] ?_
   refine Zl ?_
   refine Z0 ?_
   refine Zl ?_
   obtain ⟨x7,hx7,ax7,bx7,cx7,hs1_⟩:=bE (f:=Zh) Zi1 (fun _=>rfl) (by decide) hs1_
   refine Zdr [] ax7 bx7 cx7 ?_
   refine zDs [3,7,25,26,27] [false,true,false,true] ?_
   obtain ⟨y9,hy9,hs1_⟩:=bC hs1_
   refine zCd (Ze0 hy9) [3,7,25,26,27,33,34,35] [false,true,false,true] ?_
   refine zD [3,7,25,26,27,33,34,35] [false,true,false,true] ?_
   obtain ⟨z14,hz14,hs1_⟩:=bC hs1_
   refine Z8 (E':=⟨51,[],[(3,.row (n+1) z14.length),(25,(sL Zh a0.Kids)),(26,(vI (a0.Kids.length:Int))),(27,(vI s1_.1))]⟩) (O':=(Zr O n [none,some (oR 30 11 Zk z14),none,none])) (n0:=(n+4)) ?_ ?_
   ·refine Yi hz14 (fun s2_=>⟨51,[],[(3,.row (n+1) s2_.2.length),(7,.ref (n+3) 0),(25,(sL Zh a0.Kids)),(26,(vI (a0.Kids.length:Int))),(27,(vI s1_.1)),(33,(sL Zk y9)),(34,(vI (y9.length:Int))),(35,(vI s2_.1))]⟩) (fun s2_=>(Zr O n [none,some (oR 30 11 Zk s2_.2),none,some ⟨false,40,12,1,(K1 x7)⟩])) (fun z14=>JX 4 n (⟨51,[],[(3,.row (n+1) z14.length),(25,(sL Zh a0.Kids)),(26,(vI (a0.Kids.length:Int))),(27,(vI s1_.1))]⟩:Env) (Zr O n [none,some (oR 30 11 Zk z14),none,none]) (n+4)) ?_
    intro s2_ x2_ hs2_
    unfold Uw at hs2_
    try dsimp only
    refine zQ [3,7,25,26,27,33,34,35,36] ?_
    refine Zl ?_
    refine Zp (t:=(decide (s2_.1 < (y9.length:Int)))) rfl (fun c13 => ?_) (fun c13 => ?_)
    ·replace hs2_:=Zo c13 hs2_
     refine Q5 [3,7,25,26,27,33,34,35] [false,true,false,true] ?_
     refine Zl ?_
     refine Z0 ?_
     refine Zl ?_
     obtain ⟨x11,hx11,ax11,bx11,cx11,hs2_⟩:=bE (f:=Zk) Zd7 (fun _=>rfl) (by decide) hs2_
     refine Zdr [] ax11 bx11 cx11 ?_
     refine zD [3,7,9,25,26,27,33,34,35] [false,true,false,true,true] ?_
     obtain ⟨l12,pl12,ql12,el12,hs2_⟩:=bA (k:=1) rfl hs2_
     refine U1 [] pl12 ql12 el12 ?_
     refine Zan ⟨51,[],[(3,.row (n+1) l12.length),(7,.ref (n+3) 0),(25,(sL Zh a0.Kids)),(26,(vI (a0.Kids.length:Int))),(27,(vI s1_.1)),(33,(sL Zk y9)),(34,(vI (y9.length:Int))),(35,(vI s2_.1))]⟩ (Zr O n [none,some (oR 30 11 Zk l12),none,some ⟨false,40,12,1,(K1 x7)⟩,none,none,none]) (Zz hU rfl rfl ?_) ?_
     ·exact Z0t pl12 ql12 el12
     refine zR ?_
     exact Vu hs2_
    replace hs2_:=Zn c13 hs2_
    exact zEx hs2_
   try simp only [Yg,Z3,↓reduceIte,Nat.reduceEqDiff]
   refine zD [3,25,26,27] [false,true,false,false] ?_
   refine zR ?_
   exact Vu hs1_
  replace hs1_:=Zn c15 hs1_
  exact zEx hs1_
 try simp only [Yg,Z3,↓reduceIte,Nat.reduceEqDiff]
 refine zD [3] [false,true,false] ?_
 refine zQ [2] ?_
 refine zW ?_
 obtain rfl:=sI h
 refine Zq (.inr rfl) hU [.row (n+1) z16.length] (by omega) ?_
 simp only [push_cast,seval,Zf,Tryz.results32,hN0,hN]
theorem Zu3 {Xh:(Zb→Option (List Zb))} {Xl:(Zb→Option (List Zb))} {Xz:(Zb→Option (List Zb))} (Ze0:Zey Xh) (Zfh:Zby Xl) (Zg3:Zd2 Xz) {a0:Zb} {r:(List Zb)} {O:Objs} {n:Nat} (h:Gq Xh Xl Xz a0=some r):GTo Tryz.prog 33 [.agg (Ze a0)] O n ((sL Zk r)) O n:=by
 unfold Gq at h
 refine fn0 Zt Tryz.call33 Tryz.func33 rfl fun hU hN0 hN => ?_
 show W _ _ _ _ ⟨78,[],[(0,.agg (Ze a0))]⟩ (Zr O n []) _
 refine zQ [1] ?_
 refine zQ [1,3] ?_
 refine Zl ?_
 refine zRd [1,3,4] [true,true,true] ?_
 refine Zl ?_
 obtain ⟨y2,hy2,h⟩:=bC h
 refine zCd (Znq hy2) [1,3,4,5] [true,true,true,true] ?_
 refine zQ [1,3,4,5,7] ?_
 refine Zl ?_
 refine zQd [3,4,5,7,19,20,21] [3,4,5,7,19,20,21] [true,true,true,true] ?_
 refine Jz (E':=(⟨78,[],[(3,.ref (n+1) 0),(4,.ref (n+2) 0),(5,.ref (n+3) 0),(7,.fn 56 0 [.ref (n+2) 0,.ref (n+1) 0,.ref n 0,.ref (n+3) 0]),(19,(sL Zd a0.Ops)),(20,(vI (a0.Ops.length:Int))),(21,(vI 0))]⟩:Env)) (O':=(Zr O n [some ⟨false,30,11,1,(Ze a0)⟩,some ⟨false,34,1,1,[.row (n+4) ([]:List Zb).length]⟩,some ⟨false,3,1,1,[(vI 0)]⟩,some ⟨false,3,1,1,[(vI y2.1)]⟩,some (oR 30 11 Zk ([]:List Zb)),none])) (n':=(n+6)) ?_ ?_
 ·refine Fit2.trans (E':=(⟨78,[],[(3,.ref (n+1) 0),(4,.ref (n+2) 0),(5,.ref (n+3) 0),(7,.fn 56 0 [.ref (n+2) 0,.ref (n+1) 0,.ref n 0,.ref (n+3) 0]),(19,(sL Zd a0.Ops)),(20,(vI (a0.Ops.length:Int))),(21,(vI 0))]⟩:Env)) (O':=(Zr O n [some ⟨false,30,11,1,(Ze a0)⟩,some ⟨false,34,1,1,[nV]⟩,some ⟨false,3,1,1,[(vI 0)]⟩,some ⟨false,3,1,1,[(vI y2.1)]⟩])) (n':=(n+4)) (Fit2.of (Zz hU rfl rfl ?_) (by omega)) ?_
  ·exact zSe
  refine Fit2.trans (Gh (p:=(n+1)) (k:=0) (q:=⟨false,34,1,1,[nV]⟩) 30 11 (by simp only [U2,Zcy,List.getElem?_cons_zero,List.getElem?_cons_succ,Option.join_some,List.length_nil,Ye]) rfl (by omega)) ?_
  simp only [Y5,Yt,Kj,Q8,List.set_cons_zero,List.set_cons_succ,List.cons_append,List.nil_append,List.length_cons,List.length_nil,Nat.zero_add,Nat.reduceAdd,Nat.reduceLT,Nat.add_assoc]
  refine X3 (k:=5) (k':=6) hU [0,1,2,3,4] [0,1,2,3,4,0] rfl rfl rfl rfl ⟨rfl,rfl⟩ ?_
  exact zSe
 obtain ⟨z21,hz21,h⟩:=bC h
 refine Z8 (E':=⟨78,[],[(3,.ref (n+1) 0)]⟩) (O':=(Zr O n [none,some ⟨false,34,1,1,[.row (n+4) z21.length]⟩,none,none,some (oR 30 11 Zk z21),none])) (n0:=(n+6)) ?_ ?_
 ·refine Yi hz21 (fun s0_=>⟨78,[],[(3,.ref (n+1) 0),(4,.ref (n+2) 0),(5,.ref (n+3) 0),(7,.fn 56 0 [.ref (n+2) 0,.ref (n+1) 0,.ref n 0,.ref (n+3) 0]),(19,(sL Zd a0.Ops)),(20,(vI (a0.Ops.length:Int))),(21,(vI s0_.1))]⟩) (fun s0_=>(Zr O n [some ⟨false,30,11,1,[(vI s0_.2.1),(vI s0_.2.2.1),(sL (eI .u64) s0_.2.2.2.1),(sL Za s0_.2.2.2.2.1),(vI s0_.2.2.2.2.2.1),(sL (eI .u64) s0_.2.2.2.2.2.2.1),(sL Za s0_.2.2.2.2.2.2.2.1),(sL Zi s0_.2.2.2.2.2.2.2.2.1),(sL Zh s0_.2.2.2.2.2.2.2.2.2.1),(vI s0_.2.2.2.2.2.2.2.2.2.2.1),(sL Zd s0_.2.2.2.2.2.2.2.2.2.2.2.1)]⟩,some ⟨false,34,1,1,[.row (n+4) s0_.2.2.2.2.2.2.2.2.2.2.2.2.2.2.length]⟩,some ⟨false,3,1,1,[(vI s0_.2.2.2.2.2.2.2.2.2.2.2.2.1)]⟩,some ⟨false,3,1,1,[(vI s0_.2.2.2.2.2.2.2.2.2.2.2.2.2.1)]⟩,some (oR 30 11 Zk s0_.2.2.2.2.2.2.2.2.2.2.2.2.2.2),none])) (fun z21=>JX 0 n (⟨78,[],[(3,.ref (n+1) 0)]⟩:Env) (Zr O n [none,some ⟨false,34,1,1,[.row (n+4) z21.length]⟩,none,none,some (oR 30 11 Zk z21),none]) (n+6)) ?_
  intro s0_ x0_ hs0_
  unfold Ub at hs0_
  try dsimp only
  refine zQ [3,4,5,7,19,20,21,22] ?_
  refine Zl ?_
  refine Zp (t:=(decide (s0_.1 < (a0.Ops.length:Int)))) rfl (fun c20 => ?_) (fun c20 => ?_)
  ·replace hs0_:=Zo c20 hs0_
   refine Q5 [3,4,5,7,19,20,21] [true,true,true,true,true,false] ?_
   obtain ⟨z3,hz3,hs0_⟩:=bC hs0_
   refine Yk (E':=⟨78,[],[(3,.ref (n+1) 0),(4,.ref (n+2) 0),(5,.ref (n+3) 0),(7,.fn 56 0 [.ref (n+2) 0,.ref (n+1) 0,.ref n 0,.ref (n+3) 0]),(19,(sL Zd a0.Ops)),(20,(vI (a0.Ops.length:Int))),(21,(vI s0_.1))]⟩) (O':=(Zr O n [some ⟨false,30,11,1,[(vI z3.1),(vI z3.2.1),(sL (eI .u64) z3.2.2.1),(sL Za z3.2.2.2.1),(vI z3.2.2.2.2.1),(sL (eI .u64) z3.2.2.2.2.2.1),(sL Za z3.2.2.2.2.2.2.1),(sL Zi z3.2.2.2.2.2.2.2.1),(sL Zh z3.2.2.2.2.2.2.2.2.1),(vI z3.2.2.2.2.2.2.2.2.2.1),(sL Zd z3.2.2.2.2.2.2.2.2.2.2.1)]⟩,some ⟨false,34,1,1,[.row (n+9) z3.2.2.2.2.2.2.2.2.2.2.2.2.2.length]⟩,some ⟨false,3,1,1,[(vI z3.2.2.2.2.2.2.2.2.2.2.2.1)]⟩,some ⟨false,3,1,1,[(vI z3.2.2.2.2.2.2.2.2.2.2.2.2.1)]⟩,none,none,none,none,none,some (oR 30 11 Zk z3.2.2.2.2.2.2.2.2.2.2.2.2.2),none])) (n0:=(n+11)) ?_ ?_
   ·refine Z0 ?_
    refine Zl ?_
    obtain ⟨x5,hx5,ax5,bx5,cx5,hz3⟩:=bE (f:=Zd) Jw (fun _=>rfl) (by decide) hz3
    refine Zdr [] ax5 bx5 cx5 ?_
    refine zD [3,4,5,7,9,19,20,21] [true,true,true,true,true,false,true] ?_
    refine zQ [3,4,5,7,9,19,20,21,26] ?_
    refine Z0 ?_
    refine zQ [3,4,5,7,9,19,20,21,26,27] ?_
    refine Zp (t:=(x5.Kind == 0)) rfl (fun c19 => ?_) (fun c19 => ?_)
    ·replace hz3:=Zo c19 hz3
     refine Zes Zt (by kernel_rfl) [.plain,.plain,.plain,.plain,.low,.low,.low,.low,.pass,.bar] (fun i=>i≠n+2) [0,1,2,3,4,5,6,7,8,9] [.plain,.plain,.plain,.plain,.low,.low,.low,.low,.pass,.bar] [] (by kernel_rfl) rfl ?_
     refine zS ?_
     refine zO ?_
     obtain rfl:=sI hz3
     refine And.intro rfl ?_
     refine Fit2.trans (E':=(⟨78,[],[(3,.ref (n+1) 0),(4,.ref (n+2) 0),(5,.ref (n+3) 0),(7,.fn 56 0 [.ref (n+2) 0,.ref (n+1) 0,.ref n 0,.ref (n+3) 0]),(19,(sL Zd a0.Ops)),(20,(vI (a0.Ops.length:Int))),(21,(vI s0_.1))]⟩:Env)) (O':=(Zr O n [some ⟨false,30,11,1,[(vI s0_.2.1),(vI s0_.2.2.1),(sL (eI .u64) s0_.2.2.2.1),(sL Za s0_.2.2.2.2.1),(vI s0_.2.2.2.2.2.1),(sL (eI .u64) s0_.2.2.2.2.2.2.1),(sL Za s0_.2.2.2.2.2.2.2.1),(sL Zi s0_.2.2.2.2.2.2.2.2.1),(sL Zh s0_.2.2.2.2.2.2.2.2.2.1),(vI s0_.2.2.2.2.2.2.2.2.2.2.1),(sL Zd s0_.2.2.2.2.2.2.2.2.2.2.2.1)]⟩,some ⟨false,34,1,1,[.row (n+4) s0_.2.2.2.2.2.2.2.2.2.2.2.2.2.2.length]⟩,some ⟨false,3,1,1,[(vI (IntKind.i64.wrap (s0_.2.2.2.2.2.2.2.2.2.2.2.2.1+x5.N)))]⟩,some ⟨false,3,1,1,[(vI (IntKind.i64.wrap (s0_.2.2.2.2.2.2.2.2.2.2.2.2.2.1 - x5.N)))]⟩,some (oR 30 11 Zk s0_.2.2.2.2.2.2.2.2.2.2.2.2.2.2),none,none])) (n':=(n+7)) (Fit2.of (Zz hU rfl rfl ?_) (by omega)) ?_
     ·exact zSe
     refine X3 (k:=7) (k':=11) hU [0,1,2,3,9,10,10] [0,1,2,3,0,0,0,0,0,4,0] rfl rfl rfl rfl ⟨rfl,rfl⟩ ?_
     exact zSe
    replace hz3:=Zn c19 hz3
    refine zQ [3,4,5,7,9,19,20,21,26,37] ?_
    refine Zp (t:=(x5.Kind == 1)) rfl (fun c18 => ?_) (fun c18 => ?_)
    ·replace hz3:=Zo c18 hz3
     refine Zl ?_
     refine zRd [3,4,5,7,9,19,20,21] [true,true,true,true,true,false,true] ?_
     obtain ⟨y6,hy6,hz3⟩:=bC hz3
     refine zR ?_
     refine (Zg4 (i1:=(n+2)) (i2:=(n+1)) (i3:=n) (i4:=(n+3)) (j2_0:=(n+4)) (by omega) (by omega) (by omega) (by omega) (by omega) (by omega) (by omega) (by omega) (by omega) (by omega) (by omega) (by omega) (by omega) (by omega) (by omega) (by simp only [push_cast,seval,Zf,Yw,hN0,hN] <;> rfl) (by simp only [push_cast,seval,Zf,Yw,hN0,hN] <;> rfl) (by simp only [push_cast,seval,Zf,Yw,hN0,hN] <;> rfl) (by simp only [push_cast,seval,Zf,Yw,hN0,hN] <;> rfl) (by simp only [push_cast,seval,Zf,Yw,hN0,hN] <;> rfl) hy6).then ?_
     refine zS ?_
     obtain rfl:=sI hz3
     refine And.intro rfl ?_
     refine Fit2.trans (E':=(⟨78,[],[(3,.ref (n+1) 0),(4,.ref (n+2) 0),(5,.ref (n+3) 0),(7,.fn 56 0 [.ref (n+2) 0,.ref (n+1) 0,.ref n 0,.ref (n+3) 0]),(19,(sL Zd a0.Ops)),(20,(vI (a0.Ops.length:Int))),(21,(vI s0_.1))]⟩:Env)) (O':=(Zr O n [some ⟨false,30,11,1,(Ze y6.2.2.1)⟩,some ⟨false,34,1,1,[.row (n+7) y6.2.1.length]⟩,some ⟨false,3,1,1,[(vI y6.1)]⟩,some ⟨false,3,1,1,[(vI y6.2.2.2)]⟩,none,none,none,some (oR 30 11 Zk y6.2.1)])) (n':=(n+8)) (Fit2.of (Zz hU rfl rfl ?_) (by omega)) ?_
     ·exact zSe
     refine X3 (k:=8) (k':=11) hU [0,1,2,3,10,10,10,9] [0,1,2,3,0,0,0,0,0,7,0] rfl rfl rfl rfl ⟨rfl,rfl⟩ ?_
     exact zSe
    replace hz3:=Zn c18 hz3
    refine zQ [3,4,5,7,9,19,20,21,26,47] ?_
    refine Zp (t:=(x5.Kind == 2)) rfl (fun c17 => ?_) (fun c17 => ?_)
    ·replace hz3:=Zo c17 hz3
     refine Zl ?_
     obtain ⟨y8,hy8,hz3⟩:=bC hz3
     refine zR ?_
     refine (Zg4 (i1:=(n+2)) (i2:=(n+1)) (i3:=n) (i4:=(n+3)) (j2_0:=(n+4)) (by omega) (by omega) (by omega) (by omega) (by omega) (by omega) (by omega) (by omega) (by omega) (by omega) (by omega) (by omega) (by omega) (by omega) (by omega) (by simp only [push_cast,seval,Zf,Yw,hN0,hN] <;> rfl) (by simp only [push_cast,seval,Zf,Yw,hN0,hN] <;> rfl) (by simp only [push_cast,seval,Zf,Yw,hN0,hN] <;> rfl) (by simp only [push_cast,seval,Zf,Yw,hN0,hN] <;> rfl) (by simp only [push_cast,seval,Zf,Yw,hN0,hN] <;> rfl) hy8).then ?_
     refine zS ?_
     refine zD [3,4,5,7,9,19,20,21] [true,true,true,true,false,false,true,true] ?_
     refine zR ?_
     obtain rfl:=sI hz3
     refine And.intro rfl ?_
     refine Fit2.trans (E':=(⟨78,[],[(3,.ref (n+1) 0),(4,.ref (n+2) 0),(5,.ref (n+3) 0),(7,.fn 56 0 [.ref (n+2) 0,.ref (n+1) 0,.ref n 0,.ref (n+3) 0]),(19,(sL Zd a0.Ops)),(20,(vI (a0.Ops.length:Int))),(21,(vI s0_.1))]⟩:Env)) (O':=(Zr O n [some ⟨false,30,11,1,(Ze y8.2.2.1)⟩,some ⟨false,34,1,1,[.row (n+7) y8.2.1.length]⟩,some ⟨false,3,1,1,[(vI (IntKind.i64.wrap (y8.1+(x5.L.length:Int))))]⟩,some ⟨false,3,1,1,[(vI y8.2.2.2)]⟩,none,none,none,some (oR 30 11 Zk y8.2.1)])) (n':=(n+8)) (Fit2.of (Zz hU rfl rfl ?_) (by omega)) ?_
     ·exact zSe
     refine X3 (k:=8) (k':=11) hU [0,1,2,3,10,10,10,9] [0,1,2,3,0,0,0,0,0,7,0] rfl rfl rfl rfl ⟨rfl,rfl⟩ ?_
     exact zSe
    replace hz3:=Zn c17 hz3
    refine zQ [3,4,5,7,9,19,20,21,57] ?_
    refine Zp (t:=(x5.Kind == 3)) rfl (fun c16 => ?_) (fun c16 => ?_)
    ·replace hz3:=Zo c16 hz3
     refine Zl ?_
     refine zRd [3,4,5,7,9,19,20,21] [true,true,true,true,true,false,true] ?_
     refine Zl ?_
     refine Zl ?_
     obtain ⟨y10,hy10,hz3⟩:=bC hz3
     refine zCd (Ze0 hy10) [3,4,5,7,19,20,21,63,64,65] [true,true,true,true,true,false,false] ?_
     refine zD [3,4,5,7,19,20,21,63,64,65] [true,true,true,true,true,false,false] ?_
     refine Jz (E':=(⟨78,[],[(3,.ref (n+1) 0),(4,.ref (n+2) 0),(5,.ref (n+3) 0),(7,.fn 56 0 [.ref (n+2) 0,.ref (n+1) 0,.ref n 0,.ref (n+3) 0]),(19,(sL Zd a0.Ops)),(20,(vI (a0.Ops.length:Int))),(21,(vI s0_.1)),(63,(sL Zk y10)),(64,(vI (y10.length:Int))),(65,(vI 0))]⟩:Env)) (O':=(Zr O n [some ⟨false,30,11,1,[(vI s0_.2.1),(vI s0_.2.2.1),(sL (eI .u64) s0_.2.2.2.1),(sL Za s0_.2.2.2.2.1),(vI s0_.2.2.2.2.2.1),(sL (eI .u64) s0_.2.2.2.2.2.2.1),(sL Za s0_.2.2.2.2.2.2.2.1),(sL Zi s0_.2.2.2.2.2.2.2.2.1),(sL Zh s0_.2.2.2.2.2.2.2.2.2.1),(vI s0_.2.2.2.2.2.2.2.2.2.2.1),(sL Zd s0_.2.2.2.2.2.2.2.2.2.2.2.1)]⟩,some ⟨false,34,1,1,[.row (n+7) s0_.2.2.2.2.2.2.2.2.2.2.2.2.2.2.length]⟩,some ⟨false,3,1,1,[(vI s0_.2.2.2.2.2.2.2.2.2.2.2.2.1)]⟩,some ⟨false,3,1,1,[(vI (IntKind.i64.wrap (s0_.2.2.2.2.2.2.2.2.2.2.2.2.2.1 - 1)))]⟩,none,none,none,some (oR 30 11 Zk s0_.2.2.2.2.2.2.2.2.2.2.2.2.2.2),none])) (n':=(n+9)) ?_ ?_
     ·refine Fit2.trans (E':=(⟨78,[],[(3,.ref (n+1) 0),(4,.ref (n+2) 0),(5,.ref (n+3) 0),(7,.fn 56 0 [.ref (n+2) 0,.ref (n+1) 0,.ref n 0,.ref (n+3) 0]),(19,(sL Zd a0.Ops)),(20,(vI (a0.Ops.length:Int))),(21,(vI s0_.1)),(63,(sL Zk y10)),(64,(vI (y10.length:Int))),(65,(vI 0))]⟩:Env)) (O':=(Zr O n [some ⟨false,30,11,1,[(vI s0_.2.1),(vI s0_.2.2.1),(sL (eI .u64) s0_.2.2.2.1),(sL Za s0_.2.2.2.2.1),(vI s0_.2.2.2.2.2.1),(sL (eI .u64) s0_.2.2.2.2.2.2.1),(sL Za s0_.2.2.2.2.2.2.2.1),(sL Zi s0_.2.2.2.2.2.2.2.2.1),(sL Zh s0_.2.2.2.2.2.2.2.2.2.1),(vI s0_.2.2.2.2.2.2.2.2.2.2.1),(sL Zd s0_.2.2.2.2.2.2.2.2.2.2.2.1)]⟩,some ⟨false,34,1,1,[.row (n+4) s0_.2.2.2.2.2.2.2.2.2.2.2.2.2.2.length]⟩,some ⟨false,3,1,1,[(vI s0_.2.2.2.2.2.2.2.2.2.2.2.2.1)]⟩,some ⟨false,3,1,1,[(vI (IntKind.i64.wrap (s0_.2.2.2.2.2.2.2.2.2.2.2.2.2.1 - 1)))]⟩,some (oR 30 11 Zk s0_.2.2.2.2.2.2.2.2.2.2.2.2.2.2),none,none])) (n':=(n+7)) (Fit2.of (Zz hU rfl rfl ?_) (by omega)) ?_
      ·exact zSe
      refine X3 (k:=7) (k':=9) hU [0,1,2,3,7,8,8] [0,1,2,3,0,0,0,4,0] rfl rfl rfl rfl ⟨rfl,rfl⟩ ?_
      exact zSe
     obtain ⟨z15,hz15,hz3⟩:=bC hz3
     refine Z8 (E':=⟨78,[],[(3,.ref (n+1) 0),(4,.ref (n+2) 0),(5,.ref (n+3) 0),(7,.fn 56 0 [.ref (n+2) 0,.ref (n+1) 0,.ref n 0,.ref (n+3) 0]),(19,(sL Zd a0.Ops)),(20,(vI (a0.Ops.length:Int))),(21,(vI s0_.1))]⟩) (O':=(Zr O n [some ⟨false,30,11,1,[(vI z15.1),(vI z15.2.1),(sL (eI .u64) z15.2.2.1),(sL Za z15.2.2.2.1),(vI z15.2.2.2.2.1),(sL (eI .u64) z15.2.2.2.2.2.1),(sL Za z15.2.2.2.2.2.2.1),(sL Zi z15.2.2.2.2.2.2.2.1),(sL Zh z15.2.2.2.2.2.2.2.2.1),(vI z15.2.2.2.2.2.2.2.2.2.1),(sL Zd z15.2.2.2.2.2.2.2.2.2.2.1)]⟩,some ⟨false,34,1,1,[.row (n+7) z15.2.2.2.2.2.2.2.2.2.2.2.2.2.length]⟩,some ⟨false,3,1,1,[(vI z15.2.2.2.2.2.2.2.2.2.2.2.1)]⟩,some ⟨false,3,1,1,[(vI z15.2.2.2.2.2.2.2.2.2.2.2.2.1)]⟩,none,none,none,some (oR 30 11 Zk z15.2.2.2.2.2.2.2.2.2.2.2.2.2),none])) (n0:=(n+9)) ?_ ?_
     ·refine Yi hz15 (fun s1_=>⟨78,[],[(3,.ref (n+1) 0),(4,.ref (n+2) 0),(5,.ref (n+3) 0),(7,.fn 56 0 [.ref (n+2) 0,.ref (n+1) 0,.ref n 0,.ref (n+3) 0]),(19,(sL Zd a0.Ops)),(20,(vI (a0.Ops.length:Int))),(21,(vI s0_.1)),(63,(sL Zk y10)),(64,(vI (y10.length:Int))),(65,(vI s1_.1))]⟩) (fun s1_=>(Zr O n [some ⟨false,30,11,1,[(vI s1_.2.1),(vI s1_.2.2.1),(sL (eI .u64) s1_.2.2.2.1),(sL Za s1_.2.2.2.2.1),(vI s1_.2.2.2.2.2.1),(sL (eI .u64) s1_.2.2.2.2.2.2.1),(sL Za s1_.2.2.2.2.2.2.2.1),(sL Zi s1_.2.2.2.2.2.2.2.2.1),(sL Zh s1_.2.2.2.2.2.2.2.2.2.1),(vI s1_.2.2.2.2.2.2.2.2.2.2.1),(sL Zd s1_.2.2.2.2.2.2.2.2.2.2.2.1)]⟩,some ⟨false,34,1,1,[.row (n+7) s1_.2.2.2.2.2.2.2.2.2.2.2.2.2.2.length]⟩,some ⟨false,3,1,1,[(vI s1_.2.2.2.2.2.2.2.2.2.2.2.2.1)]⟩,some ⟨false,3,1,1,[(vI s1_.2.2.2.2.2.2.2.2.2.2.2.2.2.1)]⟩,none,none,none,some (oR 30 11 Zk s1_.2.2.2.2.2.2.2.2.2.2.2.2.2.2),none])) (fun z15=>JX 3 n (⟨78,[],[(3,.ref (n+1) 0),(4,.ref (n+2) 0),(5,.ref (n+3) 0),(7,.fn 56 0 [.ref (n+2) 0,.ref (n+1) 0,.ref n 0,.ref (n+3) 0]),(19,(sL Zd a0.Ops)),(20,(vI (a0.Ops.length:Int))),(21,(vI s0_.1))]⟩:Env) (Zr O n [some ⟨false,30,11,1,[(vI z15.1),(vI z15.2.1),(sL (eI .u64) z15.2.2.1),(sL Za z15.2.2.2.1),(vI z15.2.2.2.2.1),(sL (eI .u64) z15.2.2.2.2.2.1),(sL Za z15.2.2.2.2.2.2.1),(sL Zi z15.2.2.2.2.2.2.2.1),(sL Zh z15.2.2.2.2.2.2.2.2.1),(vI z15.2.2.2.2.2.2.2.2.2.1),(sL Zd z15.2.2.2.2.2.2.2.2.2.2.1)]⟩,some ⟨false,34,1,1,[.row (n+7) z15.2.2.2.2.2.2.2.2.2.2.2.2.2.length]⟩,some ⟨false,3,1,1,[(vI z15.2.2.2.2.2.2.2.2.2.2.2.1)]⟩,some ⟨false,3,1,1,[(vI z15.2.2.2.2.2.2.2.2.2.2.2.2.1)]⟩,none,none,none,some (oR 30 11 Zk z15.2.2.2.2.2.2.2.2.2.2.2.2.2),none]) (n+9)) ?_
      intro s1_ x1_ hs1_
      unfold Uc at hs1_
      try dsimp only
      refine zQ [3,4,5,7,19,20,21,63,64,65,66] ?_
      refine Zl ?_
      refine Zp (t:=(decide (s1_.1 < (y10.length:Int)))) rfl (fun c14 => ?_) (fun c14 => ?_)
      ·replace hs1_:=Zo c14 hs1_
       refine Q5 [3,4,5,7,19,20,21,63,64,65] [true,true,true,true,false,false,false,true,false] ?_
       refine Zl ?_
       refine Z0 ?_
       refine Zl ?_
       obtain ⟨x12,hx12,ax12,bx12,cx12,hs1_⟩:=bE (f:=Zk) Zd7 (fun _=>rfl) (by decide) hs1_
       refine Zdr [] ax12 bx12 cx12 ?_
       refine zD [3,4,5,7,11,19,20,21,63,64,65] [true,true,true,true,false,false,false,true,false,true] ?_
       obtain ⟨y13,hy13,hs1_⟩:=bC hs1_
       refine zR ?_
       refine GCalls.argsW ?_ ((Zg4 (i1:=(n+2)) (i2:=(n+1)) (i3:=n) (i4:=(n+3)) (j2_0:=(n+7)) (by omega) (by omega) (by omega) (by omega) (by omega) (by omega) (by omega) (by omega) (by omega) (by omega) (by omega) (by omega) (by omega) (by omega) (by omega) (by simp only [push_cast,seval,Zf,Yw,hN0,hN] <;> rfl) (by simp only [push_cast,seval,Zf,Yw,hN0,hN] <;> rfl) (by simp only [push_cast,seval,Zf,Yw,hN0,hN] <;> rfl) (by simp only [push_cast,seval,Zf,Yw,hN0,hN] <;> rfl) (by simp only [push_cast,seval,Zf,Yw,hN0,hN] <;> rfl) hy13).then ?_)
       ·exact zSe
       refine zS ?_
       refine zD [3,4,5,7,19,20,21,63,64,65] [true,true,true,true,false,false,false,false,false,false,true] ?_
       refine zR ?_
       obtain rfl:=sI hs1_
       refine And.intro rfl ?_
       refine Fit2.trans (E':=(⟨78,[],[(3,.ref (n+1) 0),(4,.ref (n+2) 0),(5,.ref (n+3) 0),(7,.fn 56 0 [.ref (n+2) 0,.ref (n+1) 0,.ref n 0,.ref (n+3) 0]),(19,(sL Zd a0.Ops)),(20,(vI (a0.Ops.length:Int))),(21,(vI s0_.1)),(63,(sL Zk y10)),(64,(vI (y10.length:Int))),(65,(vI (IntKind.i64.wrap (s1_.1+1))))]⟩:Env)) (O':=(Zr O n [some ⟨false,30,11,1,(Ze y13.2.2.1)⟩,some ⟨false,34,1,1,[.row (n+10) y13.2.1.length]⟩,some ⟨false,3,1,1,[(vI y13.1)]⟩,some ⟨false,3,1,1,[(vI y13.2.2.2)]⟩,none,none,none,none,none,none,some (oR 30 11 Zk y13.2.1)])) (n':=(n+11)) (Fit2.of (Zz hU rfl rfl ?_) (by omega)) ?_
       ·exact zSe
       refine X3 (k:=11) (k':=9) hU [0,1,2,3,8,8,8,8,8,8,7] [0,1,2,3,0,0,0,10,0] rfl rfl rfl rfl ⟨rfl,rfl⟩ ?_
       exact zSe
      replace hs1_:=Zn c14 hs1_
      exact zEx hs1_
     try simp only [Yg,Z3,↓reduceIte,Nat.reduceEqDiff]
     refine zD [3,4,5,7,19,20,21] [true,true,true,true,false,false,false,true,false] ?_
     refine zR ?_
     obtain rfl:=sI hz3
     refine And.intro rfl ?_
     refine Fit2.trans (E':=(⟨78,[],[(3,.ref (n+1) 0),(4,.ref (n+2) 0),(5,.ref (n+3) 0),(7,.fn 56 0 [.ref (n+2) 0,.ref (n+1) 0,.ref n 0,.ref (n+3) 0]),(19,(sL Zd a0.Ops)),(20,(vI (a0.Ops.length:Int))),(21,(vI s0_.1))]⟩:Env)) (O':=(Zr O n [some ⟨false,30,11,1,[(vI z15.1),(vI z15.2.1),(sL (eI .u64) z15.2.2.1),(sL Za z15.2.2.2.1),(vI z15.2.2.2.2.1),(sL (eI .u64) z15.2.2.2.2.2.1),(sL Za z15.2.2.2.2.2.2.1),(sL Zi z15.2.2.2.2.2.2.2.1),(sL Zh z15.2.2.2.2.2.2.2.2.1),(vI z15.2.2.2.2.2.2.2.2.2.1),(sL Zd z15.2.2.2.2.2.2.2.2.2.2.1)]⟩,some ⟨false,34,1,1,[.row (n+7) z15.2.2.2.2.2.2.2.2.2.2.2.2.2.length]⟩,some ⟨false,3,1,1,[(vI (IntKind.i64.wrap (z15.2.2.2.2.2.2.2.2.2.2.2.1+1)))]⟩,some ⟨false,3,1,1,[(vI z15.2.2.2.2.2.2.2.2.2.2.2.2.1)]⟩,none,none,none,some (oR 30 11 Zk z15.2.2.2.2.2.2.2.2.2.2.2.2.2),none])) (n':=(n+9)) (Fit2.of (Zz hU rfl rfl ?_) (by omega)) ?_
     ·exact zSe
     refine X3 (k:=9) (k':=11) hU [0,1,2,3,10,10,10,9,10] [0,1,2,3,0,0,0,0,0,7,0] rfl rfl rfl rfl ⟨rfl,rfl⟩ ?_
     exact zSe
    replace hz3:=Zn c16 hz3
    refine zK ?_
    obtain rfl:=sI hz3
    refine And.intro rfl ?_
    refine Fit2.trans (E':=(⟨78,[],[(3,.ref (n+1) 0),(4,.ref (n+2) 0),(5,.ref (n+3) 0),(7,.fn 56 0 [.ref (n+2) 0,.ref (n+1) 0,.ref n 0,.ref (n+3) 0]),(19,(sL Zd a0.Ops)),(20,(vI (a0.Ops.length:Int))),(21,(vI s0_.1))]⟩:Env)) (O':=(Zr O n [some ⟨false,30,11,1,[(vI s0_.2.1),(vI s0_.2.2.1),(sL (eI .u64) s0_.2.2.2.1),(sL Za s0_.2.2.2.2.1),(vI s0_.2.2.2.2.2.1),(sL (eI .u64) s0_.2.2.2.2.2.2.1),(sL Za s0_.2.2.2.2.2.2.2.1),(sL Zi s0_.2.2.2.2.2.2.2.2.1),(sL Zh s0_.2.2.2.2.2.2.2.2.2.1),(vI s0_.2.2.2.2.2.2.2.2.2.2.1),(sL Zd s0_.2.2.2.2.2.2.2.2.2.2.2.1)]⟩,some ⟨false,34,1,1,[.row (n+4) s0_.2.2.2.2.2.2.2.2.2.2.2.2.2.2.length]⟩,some ⟨false,3,1,1,[(vI s0_.2.2.2.2.2.2.2.2.2.2.2.2.1)]⟩,some ⟨false,3,1,1,[(vI s0_.2.2.2.2.2.2.2.2.2.2.2.2.2.1)]⟩,some (oR 30 11 Zk s0_.2.2.2.2.2.2.2.2.2.2.2.2.2.2),none,none])) (n':=(n+7)) (Fit2.of (Zz hU rfl rfl ?_) (by omega)) ?_
    ·exact zSe
    refine X3 (k:=7) (k':=11) hU [0,1,2,3,9,10,10] [0,1,2,3,0,0,0,0,0,4,0] rfl rfl rfl rfl ⟨rfl,rfl⟩ ?_
    exact zSe
   refine zR ?_
   obtain rfl:=sI hs0_
   refine And.intro rfl ?_
   refine Fit2.trans (E':=(⟨78,[],[(3,.ref (n+1) 0),(4,.ref (n+2) 0),(5,.ref (n+3) 0),(7,.fn 56 0 [.ref (n+2) 0,.ref (n+1) 0,.ref n 0,.ref (n+3) 0]),(19,(sL Zd a0.Ops)),(20,(vI (a0.Ops.length:Int))),(21,(vI (IntKind.i64.wrap (s0_.1+1))))]⟩:Env)) (O':=(Zr O n [some ⟨false,30,11,1,[(vI z3.1),(vI z3.2.1),(sL (eI .u64) z3.2.2.1),(sL Za z3.2.2.2.1),(vI z3.2.2.2.2.1),(sL (eI .u64) z3.2.2.2.2.2.1),(sL Za z3.2.2.2.2.2.2.1),(sL Zi z3.2.2.2.2.2.2.2.1),(sL Zh z3.2.2.2.2.2.2.2.2.1),(vI z3.2.2.2.2.2.2.2.2.2.1),(sL Zd z3.2.2.2.2.2.2.2.2.2.2.1)]⟩,some ⟨false,34,1,1,[.row (n+9) z3.2.2.2.2.2.2.2.2.2.2.2.2.2.length]⟩,some ⟨false,3,1,1,[(vI z3.2.2.2.2.2.2.2.2.2.2.2.1)]⟩,some ⟨false,3,1,1,[(vI z3.2.2.2.2.2.2.2.2.2.2.2.2.1)]⟩,none,none,none,none,none,some (oR 30 11 Zk z3.2.2.2.2.2.2.2.2.2.2.2.2.2),none])) (n':=(n+11)) (Fit2.of (Zz hU rfl rfl ?_) (by omega)) ?_
   ·exact zSe
   refine X3 (k:=11) (k':=6) hU [0,1,2,3,5,5,5,5,5,4,5] [0,1,2,3,9,0] rfl rfl rfl rfl ⟨rfl,rfl⟩ ?_
   exact zSe
  replace hs0_:=Zn c20 hs0_
  exact zEx hs0_
 try simp only [Yg,Z3,↓reduceIte,Nat.reduceEqDiff]
 refine zD [3] [false,true,false,false,true,false] ?_
 refine zQ [2] ?_
 refine zW ?_
 obtain rfl:=sI h
 refine Zq (.inr rfl) hU [.row (n+4) z21.length] (by omega) ?_
 simp only [push_cast,seval,Zf,Tryz.results33,hN0,hN]
theorem Zsl:∀ k,(Zey ((Z4 k).1))∧(Zby ((Z4 k).2.1))∧(Zd2 ((Z4 k).2.2)):=fun k=>by
 induction k with
 | zero=>exact ⟨@fun a0 r O n h=>(nomatch (show (none:Option _)=some _ from h)),@fun a0 r O n h=>(nomatch (show (none:Option _)=some _ from h)),@fun a0 r O n h=>(nomatch (show (none:Option _)=some _ from h))⟩
 | succ k ih=>exact ⟨@fun a0 r O n h=>Zv5 (ih.1) (ih.2.1) (ih.2.2)  h,@fun a0 r O n h=>Zro (ih.1) (ih.2.1) (ih.2.2)  h,@fun a0 r O n h=>Zu3 (ih.1) (ih.2.1) (ih.2.2)  h⟩
theorem Zzs {a0:Zb} {r:(List Zb)} {O:Objs} {n:Nat} (h:Zh0 a0=some r):GTo Tryz.prog 17 [.agg (Ze a0)] O n ((sL Zk r)) O n:=by
 obtain ⟨k,hk⟩:=Ux h
 exact (Zsl k).1  hk
theorem Zon {a0:Zb} {r:(List Zb)} {O:Objs} {n:Nat} (h:Ga a0=some r):GTo Tryz.prog 7 [.agg (Ze a0)] O n ((sL Zk r)) O n:=by
 unfold Ga at h
 refine fn0 Zt Tryz.call7 Tryz.func7 rfl fun hU hN0 hN => ?_
 show W _ _ _ _ ⟨6,[],[(0,.agg (Ze a0))]⟩ (Zr O n []) _
 refine zQ [1] ?_
 refine Zl ?_
 obtain ⟨y3,hy3,h⟩:=bC h
 obtain ⟨y4,hy4,h⟩:=bC h
 refine zC (Zok hy3) ?_
 refine zTs (Zzs hy4) ?_
 refine zD [2] [false] ?_
 refine zW ?_
 obtain rfl:=sI h
 refine Zq (.inr rfl) hU [(sL Zk y4)] (by omega) ?_
 simp only [push_cast,seval,Zf,Tryz.results7,hN0,hN]
theorem Z0k {a0:Zg} {r:Int} {O:Objs} {n:Nat} (h:Zmu a0=some r):GTo Tryz.prog 116 [.agg (Z6 a0)] O n ((vI r)) O n:=by
 unfold Zmu at h
 refine fn0 Zt Tryz.call116 Tryz.func116 rfl fun hU hN0 hN => ?_
 show W _ _ _ _ ⟨15,[],[(0,.agg (Z6 a0))]⟩ (Zr O n []) _
 refine zQ [1] ?_
 refine Zl ?_
 refine zQ [1,4] ?_
 refine Z0 ?_
 refine zQ [1,4,5] ?_
 refine Zp (t:=(a0.Kind == 0)) rfl (fun c4 => ?_) (fun c4 => ?_)
 ·replace h:=Zo c4 h
  refine zQ [2] ?_
  refine zW ?_
  obtain rfl:=sI h
  refine Zq (.inr rfl) hU [(vI a0.N)] (by omega) ?_
  simp only [push_cast,seval,Zf,Tryz.results116,hN0,hN]
 replace h:=Zn c4 h
 obtain ⟨z1,hz1,h⟩:=bC h
 refine Yk (E':=⟨15,[],[(1,.ref n 0),(9,(vB z1))]⟩) (O':=(Zr O n [some ⟨false,42,14,1,(Z6 a0)⟩])) (n0:=(n+1)) ?_ ?_
 ·refine zQ [1,4,9] ?_
  refine Zp (t:=(a0.Kind == 1)) rfl (fun c2 => ?_) (fun c2 => ?_)
  ·replace hz1:=Zo c2 hz1
   refine zK ?_
   exact Vu hz1
  replace hz1:=Zn c2 hz1
  refine zR ?_
  exact Vu hz1
 refine Zp (t:=z1) rfl (fun c3 => ?_) (fun c3 => ?_)
 ·replace h:=Zo c3 h
  refine zQ [2] ?_
  refine zW ?_
  obtain rfl:=sI h
  refine Zq (.inr rfl) hU [(vI (a0.L.length:Int))] (by omega) ?_
  simp only [push_cast,seval,Zf,Tryz.results116,hN0,hN]
 replace h:=Zn c3 h
 refine Q5 [] [false] ?_
 refine zQ [2] ?_
 refine zW ?_
 obtain rfl:=sI h
 refine Zq (.inr rfl) hU [(vI 1)] (by omega) ?_
 simp only [push_cast,seval,Zf,Tryz.results116,hN0,hN]
theorem Zig {a0:Yj} {r:(Int×Int×Yj)} {O:Objs} {n:Nat} {i0:Nat} (hi0:i0 < n) (ho0:O i0=some ⟨false,127,2,1,[(sL Zd a0.left),(vI a0.gone)]⟩) (h:Ks a0=some r):GTo Tryz.prog 112 [.ref i0 0] O n (.tup [(vI r.1),(vI r.2.1)]) (Zr (O.upd i0 (some ⟨false,127,2,1,[(sL Zd r.2.2.left),(vI r.2.2.gone)]⟩)) n []) (n+0):=by
 unfold Ks at h
 refine Zn7 Zt Tryz.call112 Tryz.func112 rfl (Nat.le_of_ble_eq_true rfl) (by omega) fun hU => ?_
 rw [show Zr O n []=Zr (O.upd i0 (some ⟨false,127,2,1,[(sL Zd a0.left),(vI a0.gone)]⟩)) n [] from by rw [Zlz (show O i0=_ from by exact ho0)]]
 have hk0:∀ k,i0 < n+k:=fun k=>by omega
 have hN0:∀ o,Objs.upd O i0 o n=none:=fun o=>Kz hU hi0 _ (Nat.le_refl _)
 have hN:∀ o k,Objs.upd O i0 o (n+k)=none:=fun o k=>Kz hU hi0 _ (Nat.le_add_right _ _)
 show W _ _ _ _ ⟨44,[],[(0,.ref i0 0)]⟩ (Zr (O.upd i0 (some ⟨false,127,2,1,[(sL Zd a0.left),(vI a0.gone)]⟩)) n []) _
 refine Znn [0] hi0 hk0 ?_
 refine Zl ?_
 refine zD [0] [] ?_
 obtain ⟨z12,hz12,h⟩:=bC h
 refine U3 (J:=(Xg (fun z12=>JR n (⟨44,[],[(2,(vI z12.1)),(3,(vI z12.2.1))]⟩:Env) (Zr (O.upd i0 (some ⟨false,127,2,1,[(sL Zd z12.2.2.1),(vI z12.2.2.2)]⟩)) n []) n) (fun z12=>JX 0 n (⟨44,[],[]⟩:Env) (Zr (O.upd i0 (some ⟨false,127,2,1,[(sL Zd z12.1),(vI z12.2)]⟩)) n []) n))) (z:=z12) ?_ fun hw => ?_
 ·refine Yi hz12 (fun s0_=>⟨44,[],[(0,.ref i0 0)]⟩) (fun s0_=>(Zr (O.upd i0 (some ⟨false,127,2,1,[(sL Zd s0_.1),(vI s0_.2)]⟩)) n [])) (Xg (fun z12=>JR n (⟨44,[],[(2,(vI z12.1)),(3,(vI z12.2.1))]⟩:Env) (Zr (O.upd i0 (some ⟨false,127,2,1,[(sL Zd z12.2.2.1),(vI z12.2.2.2)]⟩)) n []) n) (fun z12=>JX 0 n (⟨44,[],[]⟩:Env) (Zr (O.upd i0 (some ⟨false,127,2,1,[(sL Zd z12.1),(vI z12.2)]⟩)) n []) n)) ?_
  intro s0_ x0_ hs0_
  unfold Zc4 at hs0_
  try dsimp only
  refine Zl ?_
  refine Znn [0,10] hi0 hk0 ?_
  refine Zp (t:=(decide (0 < (s0_.1.length:Int)))) rfl (fun c11 => ?_) (fun c11 => ?_)
  ·replace hs0_:=Zo c11 hs0_
   refine Q5 [0] [] ?_
   refine Z0 ?_
   refine Zl ?_
   refine Zl ?_
   obtain ⟨x3,hx3,ax3,bx3,cx3,hs0_⟩:=bE (f:=Zd) Jw (fun _=>rfl) (by decide) hs0_
   obtain ⟨y4,hy4,hs0_⟩:=bC hs0_
   refine Vq Zt (by kernel_rfl) [] (by kernel_rfl) ?_
   refine zF5 ax3 bx3 cx3 hi0 hk0 ?_
   refine PCall.of (Z0k hy4) ?_
   refine zF5 ax3 bx3 cx3 hi0 hk0 ?_
   refine zD [0,4] [] ?_
   refine Znn [0,4,24] hi0 hk0 ?_
   refine Zp (t:=(decide (0 < (IntKind.i64.wrap (y4 - s0_.2))))) rfl (fun c10 => ?_) (fun c10 => ?_)
   ·replace hs0_:=Zo c10 hs0_
    obtain ⟨x7,hx7,ax7,bx7,cx7,hs0_⟩:=bE (f:=Zd) Jw (fun _=>rfl) (by decide) hs0_
    have g8:=J0 (f:=Zd) (sz:=14) Zis (fun _=>rfl) (by decide) (by decide) hx7
    refine Zl0 [2,3] (Yn Zt [] ?_)
    refine zF6 ax7 bx7 cx7 g8 hi0 hk0 ?_
    refine zW ?_
    obtain rfl:=sI hs0_
    refine And.intro (fun h=>by cases h) (And.intro rfl (Fit2.of (Xc hU rfl rfl ?_) (by omega)))
    exact Vt hi0 hk0
   replace hs0_:=Zn c10 hs0_
   refine Q5 [0] [] ?_
   obtain ⟨l9,al9,bl9,cl9,gl9,hs0_⟩:=bS (lo:=(some (.i64,1))) (hi:=none) (f:=Zd) rfl rfl Zt7 Jw (fun _=>rfl) hs0_
   refine Ydk [] al9 bl9 cl9 gl9 hi0 hk0 ?_
   obtain rfl:=sI hs0_
   refine And.intro rfl (Fit2.of (Xc hU rfl rfl ?_) (by omega))
   exact Yi6 al9 bl9 cl9 gl9 hi0 hk0
  replace hs0_:=Zn c11 hs0_
  refine zXt ?_
  obtain rfl:=sI hs0_
  refine And.intro (fun h=>by cases h) (And.intro rfl (Fit2.of (Xc hU rfl rfl ?_) (by omega)))
  exact Vt hi0 hk0
 rcases z12 with z12 | z12
 ·dsimp only [Xg] at hw h
  refine Qj hw ?_
  try simp only [Yg,Z3,↓reduceIte,Nat.reduceEqDiff]
  obtain rfl:=sI h
  refine Zgn (k:=0) (i:=i0) (q1:=⟨false,127,2,1,[(sL Zd z12.2.2.1),(vI z12.2.2.2)]⟩) (L3:=[none]) (E2:=(⟨44,[],[(2,(vI z12.1)),(3,(vI z12.2.1))]⟩:Env)) (n3:=(n+1)) (.inr rfl) hU rfl [(vI z12.1),(vI z12.2.1)] ?_ ?_
  ·refine Fit2.trans (E':=(⟨44,[],[(2,(vI z12.1)),(3,(vI z12.2.1))]⟩:Env)) (O':=(Zr (O.upd i0 (some ⟨false,127,2,1,[(sL Zd z12.2.2.1),(vI z12.2.2.2)]⟩)) n [])) (n':=n) (Fit2.of (Xc hU rfl rfl ?_) (by omega)) ?_
   ·exact Vt hi0 hk0
   refine G4 (k:=0) (k':=1) hU [] [0] rfl rfl rfl rfl ⟨rfl,rfl⟩ ?_
   exact Vt hi0 hk0
  simp only [push_cast,seval,Zf,Tryz.results112,hi0,hk0,hN0,hN]
 dsimp only [Xg] at hw h
 refine Z8 hw ?_
 try simp only [Yg,Z3,↓reduceIte,Nat.reduceEqDiff]
 refine zD [] [] ?_
 refine Znn [2,3] hi0 hk0 ?_
 refine zW ?_
 obtain rfl:=sI h
 refine Zgn (k:=0) (i:=i0) (q1:=⟨false,127,2,1,[(sL Zd z12.1),(vI z12.2)]⟩) (L3:=[none]) (E2:=(⟨44,[],[(2,(vI 0)),(3,(vI 0))]⟩:Env)) (n3:=(n+1)) (.inr rfl) hU rfl [(vI 0),(vI 0)] ?_ ?_
 ·refine Fit2.trans (E':=(⟨44,[],[(2,(vI 0)),(3,(vI 0))]⟩:Env)) (O':=(Zr (O.upd i0 (some ⟨false,127,2,1,[(sL Zd z12.1),(vI z12.2)]⟩)) n [])) (n':=n) (Fit2.of (Xc hU rfl rfl ?_) (by omega)) ?_
  ·exact Vt hi0 hk0
  refine G4 (k:=0) (k':=1) hU [] [0] rfl rfl rfl rfl ⟨rfl,rfl⟩ ?_
  exact Vt hi0 hk0
 simp only [push_cast,seval,Zf,Tryz.results112,hi0,hk0,hN0,hN]
theorem Za5 {a0:Yj} {a1:Int} {r:(Zg×Yj)} {O:Objs} {n:Nat} {i0:Nat} (hi0:i0 < n) (ho0:O i0=some ⟨false,127,2,1,[(sL Zd a0.left),(vI a0.gone)]⟩) (h:Kt a0 a1=some r):GTo Tryz.prog 113 [.ref i0 0,(vI a1)] O n (.agg (Z6 r.1)) (Zr (O.upd i0 (some ⟨false,127,2,1,[(sL Zd r.2.left),(vI r.2.gone)]⟩)) n []) (n+0):=by
 unfold Kt at h
 refine Zn7 Zt Tryz.call113 Tryz.func113 rfl (Nat.le_of_ble_eq_true rfl) (by omega) fun hU => ?_
 rw [show Zr O n []=Zr (O.upd i0 (some ⟨false,127,2,1,[(sL Zd a0.left),(vI a0.gone)]⟩)) n [] from by rw [Zlz (show O i0=_ from by exact ho0)]]
 have hk0:∀ k,i0 < n+k:=fun k=>by omega
 have hN0:∀ o,Objs.upd O i0 o n=none:=fun o=>Kz hU hi0 _ (Nat.le_refl _)
 have hN:∀ o k,Objs.upd O i0 o (n+k)=none:=fun o k=>Kz hU hi0 _ (Nat.le_add_right _ _)
 show W _ _ _ _ ⟨50,[],[(0,.ref i0 0),(1,(vI a1))]⟩ (Zr (O.upd i0 (some ⟨false,127,2,1,[(sL Zd a0.left),(vI a0.gone)]⟩)) n []) _
 refine Znn [0,1,4] hi0 hk0 ?_
 refine Zl ?_
 obtain ⟨x2,hx2,ax2,bx2,cx2,h⟩:=bE (f:=Zd) Jw (fun _=>rfl) (by decide) h
 refine Z6e [] ax2 bx2 cx2 hi0 hk0 ?_
 refine zD [0,1,4,5] [true,true] ?_
 obtain ⟨z3,hz3,h⟩:=bC h
 refine Yk (E':=⟨50,[],[(0,.ref i0 0),(1,(vI a1)),(4,.ref n 0),(5,.ref (n+1) 0)]⟩) (O':=(Zr (O.upd i0 (some ⟨false,127,2,1,[(sL Zd a0.left),(vI a0.gone)]⟩)) n [some ⟨false,42,14,1,[(vI 0),(vI 0),nV,(vI 0),(vI 0),nV,nV,(vI 0),nV,nV,nV,nV,(vI 0),nV]⟩,some ⟨false,42,14,1,[(vI x2.Kind),(vI z3.1),(sL Za z3.2),(vI x2.E.Kind),(vI x2.E.Old.Kind),(sL (eI .u64) x2.E.Old.Words),(sL Za x2.E.Old.Kids),(vI x2.E.New.Kind),(sL (eI .u64) x2.E.New.Words),(sL Za x2.E.New.Kids),(sL Zi x2.E.Words),(sL Zh x2.E.Kids),(vI x2.E.List_),(sL Zd x2.E.Ops)]⟩])) (n0:=(n+2)) ?_ ?_
 ·refine Znn [0,1,4,5,13] hi0 hk0 ?_
  refine Z0 ?_
  refine Znn [0,1,4,5,13,14] hi0 hk0 ?_
  refine Zp (t:=(x2.Kind == 0)) rfl (fun c8 => ?_) (fun c8 => ?_)
  ·replace hz3:=Zo c8 hz3
   refine Ja [] hi0 hk0 ?_
   obtain rfl:=sI hz3
   refine And.intro rfl (Fit2.of (Xc hU rfl rfl ?_) (by omega))
   exact Vt hi0 hk0
  replace hz3:=Zn c8 hz3
  obtain ⟨z4,hz4,hz3⟩:=bC hz3
  refine Yk (E':=⟨50,[],[(0,.ref i0 0),(1,(vI a1)),(4,.ref n 0),(5,.ref (n+1) 0),(18,(vB z4))]⟩) (O':=(Zr (O.upd i0 (some ⟨false,127,2,1,[(sL Zd a0.left),(vI a0.gone)]⟩)) n [some ⟨false,42,14,1,[(vI 0),(vI 0),nV,(vI 0),(vI 0),nV,nV,(vI 0),nV,nV,nV,nV,(vI 0),nV]⟩,some ⟨false,42,14,1,(Z6 x2)⟩])) (n0:=(n+2)) ?_ ?_
  ·refine Znn [0,1,4,5,13,18] hi0 hk0 ?_
   refine Zp (t:=(x2.Kind == 1)) rfl (fun c5 => ?_) (fun c5 => ?_)
   ·replace hz4:=Zo c5 hz4
    refine zK ?_
    obtain rfl:=sI hz4
    refine And.intro rfl (Fit2.of (Xc hU rfl rfl ?_) (by omega))
    exact Vt hi0 hk0
   replace hz4:=Zn c5 hz4
   refine Ja [] hi0 hk0 ?_
   obtain rfl:=sI hz4
   refine And.intro rfl (Fit2.of (Xc hU rfl rfl ?_) (by omega))
   exact Vt hi0 hk0
  refine Zp (t:=z4) rfl (fun c7 => ?_) (fun c7 => ?_)
  ·replace hz3:=Zo c7 hz3
   obtain ⟨l6,al6,bl6,cl6,gl6,hz3⟩:=bS3 (lo:=(some (.i64,a0.gone))) (hi:=(.i64,(IntKind.i64.wrap (a0.gone+a1)))) (f:=Za) rfl rfl Zk0 Zbu (fun _=>rfl) hz3
   refine Zka Zt (by kernel_rfl) [false,false,false,false,false,false,false,false,false,false,false,false,false,false,false,false,false,false,false,false,true] [] (by kernel_rfl) ?_
   refine zX6 al6 bl6 cl6 gl6 hi0 hk0 ?_
   obtain rfl:=sI hz3
   refine And.intro rfl (Fit2.of (Xc hU rfl rfl ?_) (by omega))
   exact Yi6 al6 bl6 cl6 gl6 hi0 hk0
  replace hz3:=Zn c7 hz3
  refine zK ?_
  obtain rfl:=sI hz3
  refine And.intro rfl (Fit2.of (Xc hU rfl rfl ?_) (by omega))
  exact Vt hi0 hk0
 refine Zl ?_
 refine Ja [] hi0 hk0 ?_
 refine zDs [4,5] [true,true] ?_
 refine Ja [] hi0 hk0 ?_
 refine zD [4] [true,false] ?_
 refine zW ?_
 obtain rfl:=sI h
 refine Zgn (k:=0) (i:=i0) (q1:=⟨false,127,2,1,[(sL Zd a0.left),(vI (IntKind.i64.wrap (a0.gone+a1)))]⟩) (L3:=[some ⟨false,42,14,1,[(vI x2.Kind),(vI z3.1),(sL Za z3.2),(vI x2.E.Kind),(vI x2.E.Old.Kind),(sL (eI .u64) x2.E.Old.Words),(sL Za x2.E.Old.Kids),(vI x2.E.New.Kind),(sL (eI .u64) x2.E.New.Words),(sL Za x2.E.New.Kids),(sL Zi x2.E.Words),(sL Zh x2.E.Kids),(vI x2.E.List_),(sL Zd x2.E.Ops)]⟩,none]) (E2:=(⟨50,[],[(4,.ref n 0)]⟩:Env)) (n3:=(n+2)) (.inr rfl) hU rfl [.agg [(vI x2.Kind),(vI z3.1),(sL Za z3.2),(vI x2.E.Kind),(vI x2.E.Old.Kind),(sL (eI .u64) x2.E.Old.Words),(sL Za x2.E.Old.Kids),(vI x2.E.New.Kind),(sL (eI .u64) x2.E.New.Words),(sL Za x2.E.New.Kids),(sL Zi x2.E.Words),(sL Zh x2.E.Kids),(vI x2.E.List_),(sL Zd x2.E.Ops)]] ?_ ?_
 ·refine Fit2.trans (E':=(⟨50,[],[(4,.ref n 0)]⟩:Env)) (O':=(Zr (O.upd i0 (some ⟨false,127,2,1,[(sL Zd a0.left),(vI (IntKind.i64.wrap (a0.gone+a1)))]⟩)) n [some ⟨false,42,14,1,[(vI x2.Kind),(vI z3.1),(sL Za z3.2),(vI x2.E.Kind),(vI x2.E.Old.Kind),(sL (eI .u64) x2.E.Old.Words),(sL Za x2.E.Old.Kids),(vI x2.E.New.Kind),(sL (eI .u64) x2.E.New.Words),(sL Za x2.E.New.Kids),(sL Zi x2.E.Words),(sL Zh x2.E.Kids),(vI x2.E.List_),(sL Zd x2.E.Ops)]⟩,none])) (n':=(n+2)) (Fit2.of (Xc hU rfl rfl ?_) (by omega)) ?_
  ·exact Vt hi0 hk0
  refine G4 (k:=2) (k':=2) hU [0,1] [0,0] rfl rfl rfl rfl ⟨rfl,rfl⟩ ?_
  exact Vt hi0 hk0
 simp only [push_cast,seval,Zf,Tryz.results113,hi0,hk0,hN0,hN]
theorem Zv1 {a0:(List Zg)} {a1:(List Zg)} {a2:Int} {a3:Int} {r:((List Z7)×Bool)} {O:Objs} {n:Nat} (h:Zgy a0 a1 a2 a3=some r):GTo Tryz.prog 100 [(sL Zd a0),(sL Zd a1),(vI a2),(vI a3)] O n (.tup [(sL Zy r.1),(vB r.2)]) O n:=by
 unfold Zgy at h
 refine fn0 Zt Tryz.call100 Tryz.func100 rfl fun hU hN0 hN => ?_
 show W _ _ _ _ ⟨83,[],[(0,(sL Zd a0)),(1,(sL Zd a1)),(2,(vI a2)),(3,(vI a3))]⟩ (Zr O n []) _
 refine zQ [0,1,2,3] ?_
 refine zQ [0,1,2,3,10] ?_
 refine Zl ?_
 refine zRd [2,3,10,11,12] [true,true] ?_
 refine zD [2,3,10,11,12] [true,true] ?_
 refine Jz (E':=(⟨83,[],[(2,(vI a2)),(3,(vI a3)),(10,.row (n+2) ([]:List Z7).length),(11,.ref n 0),(12,.ref (n+1) 0)]⟩:Env)) (O':=(Zr O n [some ⟨false,127,2,1,[(sL Zd a0),(vI 0)]⟩,some ⟨false,127,2,1,[(sL Zd a1),(vI 0)]⟩,some (oR 108 29 Zy ([]:List Z7)),none])) (n':=(n+4)) ?_ ?_
 ·refine Fit2.trans (E':=(⟨83,[],[(2,(vI a2)),(3,(vI a3)),(10,nV),(11,.ref n 0),(12,.ref (n+1) 0)]⟩:Env)) (O':=(Zr O n [some ⟨false,127,2,1,[(sL Zd a0),(vI 0)]⟩,some ⟨false,127,2,1,[(sL Zd a1),(vI 0)]⟩])) (n':=(n+2)) (Fit2.of (Zz hU rfl rfl ?_) (by omega)) ?_
  ·exact zSe
  refine Fit2.trans (Zf6 10 108 29 rfl (by omega)) ?_
  simp only [Y5,Yt,Kj,Q8,List.set_cons_zero,List.set_cons_succ,List.cons_append,List.nil_append,List.length_cons,List.length_nil,Nat.zero_add,Nat.reduceAdd,Nat.reduceLT,Nat.add_assoc]
  refine Fit2.trans (E':=(⟨83,[],[(2,(vI a2)),(3,(vI a3)),(10,.row (n+2) ([]:List Z7).length),(11,.ref n 0),(12,.ref (n+1) 0)]⟩:Env)) (O':=(Zr O n [some ⟨false,127,2,1,[(sL Zd a0),(vI 0)]⟩,some ⟨false,127,2,1,[(sL Zd a1),(vI 0)]⟩,some (oR 108 29 Zy ([]:List Z7))])) (n':=(n+3)) (Fit2.of (Zz hU rfl rfl ?_) (by omega)) ?_
  ·exact zSe
  refine X3 (k:=3) (k':=4) hU [0,1,2] [0,1,2,0] rfl rfl rfl rfl ⟨rfl,rfl⟩ ?_
  exact zSe
 obtain ⟨z16,hz16,h⟩:=bC h
 refine Qj (E':=⟨83,[],[(8,(sL Zy z16.1)),(9,(vB z16.2))]⟩) (O':=(Zr O n [none,none])) (n0:=(n+2)) ?_ ?_
 ·refine Yi hz16 (fun s0_=>⟨83,[],[(2,(vI a2)),(3,(vI a3)),(10,.row (n+2) s0_.2.2.2.2.length),(11,.ref n 0),(12,.ref (n+1) 0)]⟩) (fun s0_=>(Zr O n [some ⟨false,127,2,1,[(sL Zd s0_.1),(vI s0_.2.1)]⟩,some ⟨false,127,2,1,[(sL Zd s0_.2.2.1),(vI s0_.2.2.2.1)]⟩,some (oR 108 29 Zy s0_.2.2.2.2),none])) (fun z16=>JR n (⟨83,[],[(8,(sL Zy z16.1)),(9,(vB z16.2))]⟩:Env) (Zr O n [none,none]) (n+2)) ?_
  intro s0_ x0_ hs0_
  unfold Ud at hs0_
  try dsimp only
  refine Z0 ?_
  refine Zl ?_
  obtain ⟨y2,hy2,hs0_⟩:=bC hs0_
  refine zR ?_
  refine (Zig (i0:=n) (by omega) (by simp only [push_cast,seval,Zf,Yw,hN0,hN] <;> rfl) hy2).then ?_
  refine zS ?_
  refine zDs [2,3,10,11,12,13,14] [true,true,true,false] ?_
  obtain ⟨y4,hy4,hs0_⟩:=bC hs0_
  refine zR ?_
  refine (Zig (i0:=(n+1)) (by omega) (by simp only [push_cast,seval,Zf,Yw,hN0,hN] <;> rfl) hy4).then ?_
  refine zS ?_
  refine zD [2,3,10,11,12,13,14,15,16] [true,true,true,false] ?_
  refine Z0 ?_
  refine zQD [2,3,10,11,12,14,15,16,40] [none,none,none] ?_
  refine Zp (t:=(cond (decide (0 < y2.2.1)) (y2.1 == a2) false)) rfl (fun c15 => ?_) (fun c15 => ?_)
  ·replace hs0_:=Zo c15 hs0_
   obtain ⟨y5,hy5,hs0_⟩:=bC hs0_
   obtain ⟨l6,pl6,ql6,el6,hs0_⟩:=bA (k:=1) rfl hs0_
   refine U1 [] pl6 ql6 el6 ?_
   refine (Za5 (i0:=n) (by omega) (by simp only [push_cast,seval,Zf,Yw,pl6,ql6,el6,hN0,hN] <;> rfl) hy5).then ?_
   refine zX3 pl6 ql6 el6 ?_
   exact Zdq hs0_ pl6 ql6 el6
  replace hs0_:=Zn c15 hs0_
  refine zQD [2,3,10,11,12,14,16,54] [none,none,none] ?_
  refine Zp (t:=(cond (decide (0 < y4.2.1)) (y4.1 == a3) false)) rfl (fun c14 => ?_) (fun c14 => ?_)
  ·replace hs0_:=Zo c14 hs0_
   obtain ⟨y7,hy7,hs0_⟩:=bC hs0_
   obtain ⟨l8,pl8,ql8,el8,hs0_⟩:=bA (k:=1) rfl hs0_
   refine U1 [] pl8 ql8 el8 ?_
   refine (Za5 (i0:=(n+1)) (by omega) (by simp only [push_cast,seval,Zf,Yw,pl8,ql8,el8,hN0,hN] <;> rfl) hy7).then ?_
   refine zX3 pl8 ql8 el8 ?_
   exact Zdq hs0_ pl8 ql8 el8
  replace hs0_:=Zn c14 hs0_
  refine zQD [2,3,10,11,12,14,16,68] [none,none] ?_
  refine Zp (t:=(cond (y2.2.1 == 0) (y4.2.1 == 0) false)) rfl (fun c13 => ?_) (fun c13 => ?_)
  ·replace hs0_:=Zo c13 hs0_
   refine zQ [8,9] ?_
   refine zW ?_
   exact zEy hs0_
  replace hs0_:=Zn c13 hs0_
  refine zQD [2,3,10,11,12,14,16,76] [none,none] ?_
  refine Zp (t:=(cond (y2.2.1 == 0) true (y4.2.1 == 0))) rfl (fun c12 => ?_) (fun c12 => ?_)
  ·replace hs0_:=Zo c12 hs0_
   refine zQ [8,9] ?_
   refine zW ?_
   exact zEy hs0_
  replace hs0_:=Zn c12 hs0_
  refine zQ [2,3,10,11,12,14] ?_
  obtain ⟨y9,hy9,hs0_⟩:=bC hs0_
  obtain ⟨y10,hy10,hs0_⟩:=bC hs0_
  obtain ⟨l11,pl11,ql11,el11,hs0_⟩:=bA (k:=1) rfl hs0_
  refine U1 [] pl11 ql11 el11 ?_
  refine (Za5 (i0:=n) (by omega) (by simp only [push_cast,seval,Zf,Yw,pl11,ql11,el11,hN0,hN] <;> rfl) hy9).then ?_
  refine zX3 pl11 ql11 el11 ?_
  refine (Za5 (i0:=(n+1)) (by omega) (by simp only [push_cast,seval,Zf,Yw,pl11,ql11,el11,hN0,hN] <;> rfl) hy10).then ?_
  refine zX3 pl11 ql11 el11 ?_
  exact Zdq hs0_ pl11 ql11 el11
 try simp only [Yg,Z3,↓reduceIte,Nat.reduceEqDiff]
 obtain rfl:=sI h
 refine Zq (.inr rfl) hU [(sL Zy z16.1),(vB z16.2)] (by omega) ?_
 simp only [push_cast,seval,Zf,Tryz.results100,hN0,hN]
theorem Zv0 {a0:(List Zg)} {a1:(List Zg)} {r:((List Z7)×Bool)} {O:Objs} {n:Nat} (h:Zei a0 a1=some r):GTo Tryz.prog 90 [(sL Zd a0),(sL Zd a1)] O n (.tup [(sL Zy r.1),(vB r.2)]) O n:=by
 unfold Zei at h
 refine fn0 Zt Tryz.call90 Tryz.func90 rfl fun hU hN0 hN => ?_
 show W _ _ _ _ ⟨11,[],[(0,(sL Zd a0)),(1,(sL Zd a1))]⟩ (Zr O n []) _
 refine zQ [0,1] ?_
 refine Zl ?_
 obtain ⟨y2,hy2,h⟩:=bC h
 refine zCd (Zv1 hy2) [4,5] [] ?_
 refine zW ?_
 obtain rfl:=sI h
 refine Zq (.inr rfl) hU [(sL Zy y2.1),(vB y2.2)] (by omega) ?_
 simp only [push_cast,seval,Zf,Tryz.results90,hN0,hN]
theorem Zu0 {a0:Z7} {r:((List Zg)×Bool)} {O:Objs} {n:Nat} (h:Zin a0=some r):GTo Tryz.prog 91 [.agg (K0 a0)] O n (.tup [(sL Zd r.1),(vB r.2)]) O n:=by
 unfold Zin at h
 refine fn0 Zt Tryz.call91 Tryz.func91 rfl fun hU hN0 hN => ?_
 show W _ _ _ _ ⟨108,[],[(0,.agg (K0 a0))]⟩ (Zr O n []) _
 refine zQ [1] ?_
 refine Yk (E':=⟨108,[],[(1,.ref n 0),(4,.ref (n+1) 0),(5,.ref (n+2) 0)]⟩) (O':=(Zr O n [some ⟨false,108,29,1,(K0 a0)⟩,some ⟨false,42,14,1,(Z6 a0.P)⟩,some ⟨false,42,14,1,(Z6 a0.Q)⟩])) (n0:=(n+3)) ?_ ?_
 ·refine Z7k Zt (by kernel_rfl) [.low,.low,.low,.low,.pass,.pass,.pass,.pass] (fun i=>i < (n+1)) 4 5 [0,1,2,3] [6,7] [.low,.low,.low,.low] [.pass,.pass,.pass,.pass] [.pass,.pass,.pass,.pass] [] (by kernel_rfl) rfl rfl rfl ?_
  refine zS ?_
  repeat (with_reducible refine And.intro (by omega) ?_)
  refine And.intro ?_ ?_
  ·refine zS ?_
   repeat (with_reducible refine And.intro (by first | exact Zld rfl | exact Zjb) ?_)
   exact zEf
  refine zS ?_
  repeat (with_reducible refine And.intro (by first | exact Zld rfl | exact Zjb) ?_)
  refine And.intro rfl ?_
  refine Fit2.trans (E':=(⟨108,[],[(1,.ref n 0),(4,.ref (n+2) 0),(5,.ref (n+1) 0)]⟩:Env)) (O':=(Zr O n [some ⟨false,108,29,1,(K0 a0)⟩,some ⟨false,42,14,1,(Z6 a0.Q)⟩,some ⟨false,42,14,1,(Z6 a0.P)⟩])) (n':=(n+3)) (Fit2.of (Zz hU rfl rfl ?_) (by omega)) ?_
  ·exact zSe
  refine X3 (k:=3) (k':=3) hU [0,2,1] [0,2,1] rfl rfl rfl rfl ⟨rfl,rfl⟩ ?_
  exact zSe
 refine Zl ?_
 refine Z0 ?_
 refine zQD [1,4,5,16] [none,none,none,none,none,none,none,none] ?_
 refine Zp (t:=(cond (a0.Of == 1) true (cond (a0.Of == 0) (a0.Q.Kind == 0) false))) rfl (fun c7 => ?_) (fun c7 => ?_)
 ·replace h:=Zo c7 h
  refine Zl ?_
  refine zR ?_
  refine Zan ⟨108,[],[(2,.row (n+3) ([a0.P]:List Zg).length),(3,(vB true))]⟩ (Zr O n [none,none,none,some (oR 42 14 Zd ([a0.P]:List Zg))]) (Zz hU rfl rfl ?_) ?_
  ·exact zSe
  refine zW ?_
  obtain rfl:=sI h
  refine Zq (.inr rfl) hU [.row (n+3) ([a0.P]:List Zg).length,(vB true)] (by omega) ?_
  simp only [push_cast,seval,Zf,Tryz.results91,hN0,hN]
 replace h:=Zn c7 h
 refine zQD [4,5,32] [none,none,none] ?_
 refine Zp (t:=(cond (a0.Of == 2) true (a0.P.Kind == 0))) rfl (fun c6 => ?_) (fun c6 => ?_)
 ·replace h:=Zo c6 h
  refine Zl ?_
  refine zR ?_
  refine Zan ⟨108,[],[(2,.row (n+3) ([a0.Q]:List Zg).length),(3,(vB true))]⟩ (Zr O n [none,none,none,some (oR 42 14 Zd ([a0.Q]:List Zg))]) (Zz hU rfl rfl ?_) ?_
  ·exact zSe
  refine zW ?_
  obtain rfl:=sI h
  refine Zq (.inr rfl) hU [.row (n+3) ([a0.Q]:List Zg).length,(vB true)] (by omega) ?_
  simp only [push_cast,seval,Zf,Tryz.results91,hN0,hN]
 replace h:=Zn c6 h
 refine zQD [4,5,43] [none,none,none] ?_
 refine Zp (t:=(cond (a0.P.Kind == 2) (a0.Q.Kind == 1) false)) rfl (fun c5 => ?_) (fun c5 => ?_)
 ·replace h:=Zo c5 h
  refine Zl ?_
  cases h
 replace h:=Zn c5 h
 refine zQ [4,5,57] ?_
 refine Zp (t:=(a0.P.Kind == 2)) rfl (fun c4 => ?_) (fun c4 => ?_)
 ·replace h:=Zo c4 h
  refine Zl ?_
  obtain ⟨x2,hx2,ax2,bx2,cx2,h⟩:=bE (f:=Za) Zbu (fun _=>rfl) (by decide) h
  cases h
 replace h:=Zn c4 h
 refine zQ [4,5,76] ?_
 refine Zp (t:=(a0.Q.Kind == 1)) rfl (fun c3 => ?_) (fun c3 => ?_)
 ·replace h:=Zo c3 h
  refine Zl ?_
  cases h
 replace h:=Zn c3 h
 refine Q5 [4,5] [false,true,true] ?_
 refine Zl ?_
 cases h
theorem Zuz {a0:Zb} {a1:Zb} {r:(Zb×Bool)} {O:Objs} {n:Nat} (h:Zde a0 a1=some r):GTo Tryz.prog 76 [.agg (Ze a0),.agg (Ze a1)] O n (.tup [.agg (Ze r.1),(vB r.2)]) O n:=by
 unfold Zde at h
 refine fn0 Zt Tryz.call76 Tryz.func76 rfl fun hU hN0 hN => ?_
 show W _ _ _ _ ⟨48,[],[(0,.agg (Ze a0)),(1,.agg (Ze a1))]⟩ (Zr O n []) _
 refine zQ [2,3,4] ?_
 refine Zl ?_
 obtain ⟨y2,hy2,h⟩:=bC h
 refine zCd (Zv0 hy2) [2,4,6,7] [true,false,true] ?_
 refine Zl ?_
 refine zQ [2,4,6,22] ?_
 refine Zp (t:=(!y2.2)) rfl (fun c11 => ?_) (fun c11 => ?_)
 ·replace h:=Zo c11 h
  refine Zl ?_
  refine zRd [4,5] [false,false,true] ?_
  refine zW ?_
  obtain rfl:=sI h
  refine Zq (.inr rfl) hU [.agg [(vI 0),(vI 0),nV,nV,(vI 0),nV,nV,nV,nV,(vI 0),nV],(vB false)] (by omega) ?_
  simp only [push_cast,seval,Zf,Tryz.results76,hN0,hN]
 replace h:=Zn c11 h
 refine Q5 [2,4,6] [true,false,true] ?_
 refine Zl ?_
 refine zRd [4,6,8] [false,false,true,true] ?_
 refine Zl ?_
 refine zQd [4,8,27,28,29] [4,8,27,28,29] [false,false,true,true] ?_
 refine Jz (E':=(⟨48,[],[(4,.ref (n+2) 0),(8,.ref (n+3) 0),(27,(sL Zy y2.1)),(28,(vI (y2.1.length:Int))),(29,(vI 0))]⟩:Env)) (O':=(Zr O n [none,none,some ⟨false,30,11,1,[(vI 0),(vI 0),nV,nV,(vI 0),nV,nV,nV,nV,(vI 0),nV]⟩,some ⟨false,30,11,1,[(vI 3),(vI 0),nV,nV,(vI 0),nV,nV,nV,nV,(vI a0.List_),.row (n+4) ([]:List Zg).length]⟩,some (oR 42 14 Zd ([]:List Zg)),none])) (n':=(n+6)) ?_ ?_
 ·refine Fit2.trans (E':=(⟨48,[],[(4,.ref (n+2) 0),(8,.ref (n+3) 0),(27,(sL Zy y2.1)),(28,(vI (y2.1.length:Int))),(29,(vI 0))]⟩:Env)) (O':=(Zr O n [none,none,some ⟨false,30,11,1,[(vI 0),(vI 0),nV,nV,(vI 0),nV,nV,nV,nV,(vI 0),nV]⟩,some ⟨false,30,11,1,[(vI 3),(vI 0),nV,nV,(vI 0),nV,nV,nV,nV,(vI a0.List_),nV]⟩])) (n':=(n+4)) (Fit2.of (Zz hU rfl rfl ?_) (by omega)) ?_
  ·exact zSe
  refine Fit2.trans (Gh (p:=(n+3)) (k:=10) (q:=⟨false,30,11,1,[(vI 3),(vI 0),nV,nV,(vI 0),nV,nV,nV,nV,(vI a0.List_),nV]⟩) 42 14 (by simp only [U2,Zcy,List.getElem?_cons_zero,List.getElem?_cons_succ,Option.join_some,List.length_nil,Ye]) rfl (by omega)) ?_
  simp only [Y5,Yt,Kj,Q8,List.set_cons_zero,List.set_cons_succ,List.cons_append,List.nil_append,List.length_cons,List.length_nil,Nat.zero_add,Nat.reduceAdd,Nat.reduceLT,Nat.add_assoc]
  refine X3 (k:=5) (k':=6) hU [5,5,2,3,4] [0,0,2,3,4,0] rfl rfl rfl rfl ⟨rfl,rfl⟩ ?_
  exact zSe
 obtain ⟨z10,hz10,h⟩:=bC h
 refine U3 (J:=(Xg (fun z10=>JR n (⟨48,[],[(4,.ref (n+2) 0),(5,(vB false))]⟩:Env) (Zr O n [none,none,some ⟨false,30,11,1,[(vI 0),(vI 0),nV,nV,(vI 0),nV,nV,nV,nV,(vI 0),nV]⟩,none]) (n+4)) (fun z10=>JX 0 n (⟨48,[],[(4,.ref (n+2) 0),(8,.ref (n+3) 0)]⟩:Env) (Zr O n [none,none,some ⟨false,30,11,1,[(vI 0),(vI 0),nV,nV,(vI 0),nV,nV,nV,nV,(vI 0),nV]⟩,some ⟨false,30,11,1,[(vI 3),(vI 0),nV,nV,(vI 0),nV,nV,nV,nV,(vI a0.List_),.row (n+4) z10.length]⟩,some (oR 42 14 Zd z10),none]) (n+6)))) (z:=z10) ?_ fun hw => ?_
 ·refine Yi hz10 (fun s0_=>⟨48,[],[(4,.ref (n+2) 0),(8,.ref (n+3) 0),(27,(sL Zy y2.1)),(28,(vI (y2.1.length:Int))),(29,(vI s0_.1))]⟩) (fun s0_=>(Zr O n [none,none,some ⟨false,30,11,1,[(vI 0),(vI 0),nV,nV,(vI 0),nV,nV,nV,nV,(vI 0),nV]⟩,some ⟨false,30,11,1,[(vI 3),(vI 0),nV,nV,(vI 0),nV,nV,nV,nV,(vI a0.List_),.row (n+4) s0_.2.length]⟩,some (oR 42 14 Zd s0_.2),none])) (Xg (fun z10=>JR n (⟨48,[],[(4,.ref (n+2) 0),(5,(vB false))]⟩:Env) (Zr O n [none,none,some ⟨false,30,11,1,[(vI 0),(vI 0),nV,nV,(vI 0),nV,nV,nV,nV,(vI 0),nV]⟩,none]) (n+4)) (fun z10=>JX 0 n (⟨48,[],[(4,.ref (n+2) 0),(8,.ref (n+3) 0)]⟩:Env) (Zr O n [none,none,some ⟨false,30,11,1,[(vI 0),(vI 0),nV,nV,(vI 0),nV,nV,nV,nV,(vI 0),nV]⟩,some ⟨false,30,11,1,[(vI 3),(vI 0),nV,nV,(vI 0),nV,nV,nV,nV,(vI a0.List_),.row (n+4) z10.length]⟩,some (oR 42 14 Zd z10),none]) (n+6))) ?_
  intro s0_ x0_ hs0_
  unfold Zjk at hs0_
  try dsimp only
  refine zQ [4,8,27,28,29,30] ?_
  refine Zl ?_
  refine Zp (t:=(decide (s0_.1 < (y2.1.length:Int)))) rfl (fun c9 => ?_) (fun c9 => ?_)
  ·replace hs0_:=Zo c9 hs0_
   refine Q5 [4,8,27,28,29] [false,false,true,true,true,false] ?_
   refine Zl ?_
   refine Z0 ?_
   refine Zl ?_
   obtain ⟨x4,hx4,ax4,bx4,cx4,hs0_⟩:=bE (f:=Zy) Z0a (fun _=>rfl) (by decide) hs0_
   refine Zdr [] ax4 bx4 cx4 ?_
   refine zDs [4,8,10,27,28,29] [false,false,true,true,true,false,true] ?_
   obtain ⟨y6,hy6,hs0_⟩:=bC hs0_
   refine zCd (Zu0 hy6) [4,8,11,12,27,28,29] [false,false,true,true,true,false,false] ?_
   refine Zl ?_
   refine zQ [4,8,11,27,28,29,39] ?_
   refine Zp (t:=(!y6.2)) rfl (fun c8 => ?_) (fun c8 => ?_)
   ·replace hs0_:=Zo c8 hs0_
    refine Zl ?_
    refine zRd [4,5] [false,false,true,false,false,false,false] ?_
    refine zW ?_
    exact zEy hs0_
   replace hs0_:=Zn c8 hs0_
   refine Q5 [4,8,11,27,28,29] [false,false,true,true,true,false,false] ?_
   obtain ⟨l7,pl7,ql7,el7,hs0_⟩:=bA (k:=y6.1.length) rfl hs0_
   refine U1 [] pl7 ql7 el7 ?_
   refine Zan ⟨48,[],[(4,.ref (n+2) 0),(8,.ref (n+3) 0),(27,(sL Zy y2.1)),(28,(vI (y2.1.length:Int))),(29,(vI s0_.1))]⟩ (Zr O n [none,none,some ⟨false,30,11,1,[(vI 0),(vI 0),nV,nV,(vI 0),nV,nV,nV,nV,(vI 0),nV]⟩,some ⟨false,30,11,1,[(vI 3),(vI 0),nV,nV,(vI 0),nV,nV,nV,nV,(vI a0.List_),.row (n+4) l7.length]⟩,some (oR 42 14 Zd l7),none,none]) (Zz hU rfl rfl ?_) ?_
   ·exact Z0t pl7 ql7 el7
   refine zR ?_
   exact Vu hs0_
  replace hs0_:=Zn c9 hs0_
  exact zEx hs0_
 rcases z10 with z10 | z10
 ·dsimp only [Xg] at hw h
  refine Qj hw ?_
  try simp only [Yg,Z3,↓reduceIte,Nat.reduceEqDiff]
  obtain rfl:=sI h
  refine Zq (.inr rfl) hU [.agg [(vI 0),(vI 0),nV,nV,(vI 0),nV,nV,nV,nV,(vI 0),nV],(vB false)] (by omega) ?_
  simp only [push_cast,seval,Zf,Tryz.results76,hN0,hN]
 dsimp only [Xg] at hw h
 refine Z8 hw ?_
 try simp only [Yg,Z3,↓reduceIte,Nat.reduceEqDiff]
 refine zDs [4,8] [false,false,true,true,true,false] ?_
 refine zRd [4,5] [false,false,true,false,true,false] ?_
 refine zW ?_
 obtain rfl:=sI h
 refine Zq (.inr rfl) hU [.agg [(vI 3),(vI 0),nV,nV,(vI 0),nV,nV,nV,nV,(vI a0.List_),.row (n+4) z10.length],(vB true)] (by omega) ?_
 simp only [push_cast,seval,Zf,Tryz.results76,hN0,hN]
theorem Zv3 {a0:Zb} {a1:Zb} {r:(Zb×Bool)} {O:Objs} {n:Nat} (h:Zcn a0 a1=some r):GTo Tryz.prog 54 [.agg (Ze a0),.agg (Ze a1)] O n (.tup [.agg (Ze r.1),(vB r.2)]) O n:=by
 unfold Zcn at h
 refine fn0 Zt Tryz.call54 Tryz.func54 rfl fun hU hN0 hN => ?_
 show W _ _ _ _ ⟨89,[],[(0,.agg (Ze a0)),(1,.agg (Ze a1))]⟩ (Zr O n []) _
 refine zQ [2,3,4] ?_
 refine Zl ?_
 refine Z0 ?_
 refine zQ [2,3,4,10] ?_
 refine Zp (t:=(a0.Kind == 0)) rfl (fun c8 => ?_) (fun c8 => ?_)
 ·replace h:=Zo c8 h
  refine Zl ?_
  refine zRd [4,5] [false,false,true] ?_
  refine zW ?_
  obtain rfl:=sI h
  refine Zq (.inr rfl) hU [.agg (Ze a1),(vB true)] (by omega) ?_
  simp only [push_cast,seval,Zf,Tryz.results54,hN0,hN]
 replace h:=Zn c8 h
 refine zQ [2,3,4,15] ?_
 refine Zp (t:=(a1.Kind == 0)) rfl (fun c7 => ?_) (fun c7 => ?_)
 ·replace h:=Zo c7 h
  refine Zl ?_
  refine zRd [4,5] [false,false,true] ?_
  refine zW ?_
  obtain rfl:=sI h
  refine Zq (.inr rfl) hU [.agg (Ze a0),(vB true)] (by omega) ?_
  simp only [push_cast,seval,Zf,Tryz.results54,hN0,hN]
 replace h:=Zn c7 h
 refine zQ [2,3,4,20] ?_
 refine Zp (t:=(a0.Kind == 1)) rfl (fun c6 => ?_) (fun c6 => ?_)
 ·replace h:=Zo c6 h
  refine Zl ?_
  cases h
 replace h:=Zn c6 h
 refine zQ [2,3,4,36] ?_
 refine Zp (t:=(a1.Kind == 1)) rfl (fun c5 => ?_) (fun c5 => ?_)
 ·replace h:=Zo c5 h
  refine Zl ?_
  cases h
 replace h:=Zn c5 h
 refine zQD [2,3,4,53] [none,none,none] ?_
 refine Zp (t:=(cond (a0.Kind == 2) (a1.Kind == 2) false)) rfl (fun c4 => ?_) (fun c4 => ?_)
 ·replace h:=Zo c4 h
  refine Zl ?_
  cases h
 replace h:=Zn c4 h
 refine zQD [2,3,4,67] [none,none,none,none,none,none,none,none] ?_
 refine Zp (t:=(cond (cond (a0.Kind == 3) (a1.Kind == 3) false) (a0.List_ == a1.List_) false)) rfl (fun c3 => ?_) (fun c3 => ?_)
 ·replace h:=Zo c3 h
  refine Zl ?_
  obtain ⟨y2,hy2,h⟩:=bC h
  refine zCd (Zuz hy2) [4,5] [false,false,true] ?_
  refine zW ?_
  obtain rfl:=sI h
  refine Zq (.inr rfl) hU [.agg (Ze y2.1),(vB y2.2)] (by omega) ?_
  simp only [push_cast,seval,Zf,Tryz.results54,hN0,hN]
 replace h:=Zn c3 h
 refine Q5 [4] [false,false,true] ?_
 refine Zl ?_
 refine zRd [4,5] [false,false,true] ?_
 refine zW ?_
 obtain rfl:=sI h
 refine Zq (.inr rfl) hU [.agg [(vI 0),(vI 0),nV,nV,(vI 0),nV,nV,nV,nV,(vI 0),nV],(vB false)] (by omega) ?_
 simp only [push_cast,seval,Zf,Tryz.results54,hN0,hN]
end Go.Proofs.YtkbcdcffpefklaaGreat
