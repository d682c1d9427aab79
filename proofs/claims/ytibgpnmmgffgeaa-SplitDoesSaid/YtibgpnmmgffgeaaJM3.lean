/- Part JM3 of this seat's mirrors: functions of the seat's program, and the plain functions that they are; each theorem bears its own conditions. -/
import Derived.Test.YtibgpnmmgffgeaaJM1
namespace Go.Proofs.Ytibgpnmmgffgeaa
open Go.RowKit
set_option linter.unusedVariables false
set_option linter.unusedSimpArgs false
set_option maxRecDepth 100000
set_option maxHeartbeats 4000000
attribute [local push_cast] Try.results20 Try.results36 Try.results46 Try.results47 Try.results48 Try.results49 Try.results50 Try.results51 Try.results52 Try.results72 Try.results73 vI vB nV sL oR V4 Ze Gg Yy Zg Zal Zy0 Zyz Z0d Z0c Y1 Yc Zuv Zn7 Zn6 onW Qa Zf0 Zer Zuw Zux Zsf Zsj Zse Zsi Zwg Zwc Zsh Zwf Zwe Zwd Zsg Zwa Zoy evS wok Jz Op.operands Call.operands gop onK onP atK List.all_cons List.all_nil Bool.and_true Bool.true_and Bool.and_self Value.oneCell' List.take_zero List.take_succ_cons List.take_nil List.drop_zero List.drop_succ_cons List.drop_nil List.append_nil Nat.add_zero Nat.zero_add Zac Yr ev Jw Ze6 Zyr Zyq Zyw Zyu Zyv Zys Zyt Zyp Zus Zw5 Z2j Zl1 Zg7 Zk9 Zgb Zrm Zjn Zln Zls Zn1 Znx Zlq Zn0 Znz Zny Zlp Znv Zlo Zlr Zkk Znw Znb Zn8 Zes Zmy Zet Zn5 Zly Zy5 bLo bHi bMx Zg8 Zn4 Z4h Zlx Znm Zjb Zci Zxq Z4k Zmw Zj3 Z4p Zg6 Z8i Zu4 Zu8 Zu3 Zu7 Zzr Zzn Zzl Zrp Zu5 Zzq Zzp Zzo Zu6 Zzf Zzj Zze Zzi Z4w Z4t Z4s Zzh Z4u Z4v Zzm Zlf gone Zvt Zos Zor pop TK.isAgg Zz5 Zz9 Zz4 Zz8 Zvn Z48 Z44 Zz7 Z47 Z46 Z45 Zz6 Z43 G.under G.unders List.getD_cons_zero List.getD_cons_succ List.set_cons_zero List.set_cons_succ List.map_cons List.map_nil List.toList_toArray Array.toList_append Option.toArray_none Option.toArray_some Array.toList_map Option.map_some Option.map_none Option.bind_some Option.bind_none List.getElem?_cons_zero List.getElem?_cons_succ List.getElem?_nil List.nil_append List.cons_append List.replicate_succ List.replicate_zero List.length_cons List.length_nil and_true true_and and_false false_and Bool.true_eq_false Bool.false_eq_true forall_const false_implies implies_true IntKind.bits if_true if_false ite_true ite_false eq_self true_implies false_or or_false or_true true_or not_true_eq_false not_false_eq_true decide_true decide_false decide_eq_true_eq decide_eq_false_iff_not beq_iff_eq bne_iff_ne ne_eq Bool.not_eq_true Bool.not_eq_false beq_eq_false_iff_ne bne_eq_false_iff_eq beq_self_eq_true bne_self_eq_false Option.some.injEq exists_eq_left' exists_eq_left ge_iff_le gt_iff_lt decide_not Bool.not_true Bool.not_false imp_self Z4m cond_true cond_false Yfu Yft Bool.not_not Bool.and_false Bool.false_and Bool.or_true Bool.true_or Bool.or_false Bool.false_or Ge Zdn Gm V8 Y4 Ym Option.join_some Nat.add_assoc Int.toNat_natCast eI eB eS eL Yl Zmx Zlz Zy4 Zy2 Zy3 Z8t Yay Zm2 Zmh Z0m Z0k Z0l Z24 Zlw Z2f Zga Zw3 Zj2 Zyk List.length_append G.agg.injEq G.row.injEq G.ref.injEq G.val.injEq G.sl.injEq G.tup.injEq Value.int.injEq Value.bool.injEq Value.string.injEq List.cons.injEq exists_and_left exists_const List.flatten_cons List.flatten_nil Int.le_refl Nat.le_refl Qh Yf Yn Bool.not_eq_true' Bool.not_eq_false' Z11 Zqa Z52 Z56 Z51 Z55 Ycz Ycu List.size_toArray Zsa Zmj G.ren G.rens Zvx Zjv Z0q Zym Zyn Zwb Z57 Zfo G.fn.injEq Zw0 Zw1 Z10 Ycv Zwz Z54 Ycy Ycx Ycw Z53 Z4z Yah Option.join_none Z8 Gs undef Zno Arr.len Arr.put_eq Zm1 Zr3 Zoo Zmg Z0j Z0h Z0i onB Z8s Zxp Zv5 Zrg Ztv Ztw Ztx Zty Ztz Zt0 Zrt Zr6 Zr4 Zoq Zmi Zr5 Zvs Zvr Zvq Zvp Yax Yd3 Z23 Z0e Vy Z2v Zrq Zr7 Zop Z49 Zv7 Zlu Znl Zh4 Zp1 Zt1 Zt2 Zt3 Zt4 Zqc Zqd Zqe Zqf Zqg Zqh Zqi Zqj Zqk Zql Zqm Zqn Zqo Zh8 prT Zff Zqp Zqq Zqr Zqs Zqt Zqu Zqv Zqw Zqx Zqy Zqz Zq0 Zq1 Zq2 Zq3 Zq4 Zq5 Zq6 Ygp Z5t Z3r Z5u Ygq Z5v Z3s Z5w Ygr Z5x Ygs Z5y Ygt Z5z Ygu Z50 Ybu Z00 Ybv Z01 Ybw Z02 Ybx Z03 Yby Z04 Ybz Z05 Yb0 Z06 Yb1 Z07 Yb2 Z08 Yb3 Z09 Yb4 Z1a Yb5 Zp9 Z3p Zeq Yb6 Z1b Ug Z1c Yb7 Z1d Yb8 Z1e Z3q Ztt Yb9 Z1f Ziy Z1g Yca Z1h Ycb Z1i Znt Z1j Ycc Z1k Zbm Z1l Ziz Z1m Ycd Z1n Zx9 Z1o Yce Z1p Ycf Z1q Ycg Z1r Ych Z1s Yci Z1t Ycj Z1u Z3t Ztu Yck Z1v Ycl Z1w Ycm Z1x Z5g Zwh Z5h Zwi Z0y Zwj Z5i Zwk Z5j Zwl Z5k Zwm Z5l Zwn Z5m Zwo Z5n Zwp Z5o Zwq Z5p Zwr Z5q Zws Z5r Zwt Z5s Zwu Za Yq Zo4 Zo3 Zoe Zol Zo5 Zmo Zml Zmk Zo1 Zgy Zgw Zge Zgm Zg0 Zfy Zfu Zfs Zgu Zf Zn Zh Zd Xh Y0 Xu Zdg Zdd Zcl Zcv Zdl Zb8 Zb4 Zb1 Zc8 Zec Zea Zd1 Zd5 Zee Zdb Zc2 Zc0 Zd7 Zi3 Zi2 Zie Zim Zi4 Zhx Zhu Zht Zi0 Zsp Zso Zro Zrz Zsq Zo2 Zov Zou Zsl Ye Zcb Zca Zbv Zby Zcc Zbb Zba Za9 Zb6 Zgx Zgv Zgd Zgl Zgz Zfx Zft Zfr Zgt Yi Zdf Zdc Zck Zcu Zdk Zb7 Zb3 Zb0 Zc7 Zx Zeb Zd9 Zd0 Zd4 Zed Zda Zc1 Zcz Zd6 Yj Zdh Zde Zcm Zcw Zdm Zb9 Zb5 Zb2 Zc9
theorem Vo {a0:Zv} {r:Zv} {O:Objs} {n:Nat} {i0 j0_0 j0_1 j0_2:Nat} (hi0:i0 < n) (Un:j0_0 < n) (Zha:j0_1 < n) (Zjc:j0_2 < n) (Jr:i0≠j0_0) (U0:i0≠j0_1) (Za5:i0≠j0_2) (Uz:j0_0≠j0_1) (Za3:j0_0≠j0_2) (Za4:j0_1≠j0_2) (ho0:O i0=some ⟨false,73,4,1,[.row j0_2 a0.out.length,(vI a0.kept),.row j0_0 a0.gone.length,.row j0_1 a0.come.length]⟩) (U1:O j0_0=some (oR 25 3 Za a0.gone)) (Zib:O j0_1=some (oR 25 3 Za a0.come)) (Zkn:O j0_2=some (oR 46 14 Zd a0.out)) (h:Xr a0=some r):GTo Try.prog 52 [.ref i0 0] O n (.tup []) (Zq ((((O.upd j0_0 none).upd j0_1 none).upd j0_2 none).upd i0 (some ⟨false,73,4,1,[.row (n+2) r.out.length,(vI r.kept),.row n r.gone.length,.row (n+1) r.come.length]⟩)) n [some (oR 25 3 Za r.gone),some (oR 25 3 Za r.come),some (oR 46 14 Zd r.out)]) (n+3):=by
 unfold Xr at h
 refine Zi9 Z0 Try.call52 Try.func52 rfl (Nat.le_of_ble_eq_true rfl) (by omega) fun hU => ?_
 have e0:=Jv (ba:=n) (E:=⟨73,[],Ze6 0 [.ref i0 0]⟩) (O:=(Zq O n [])) (n:=n) (i:=i0) (j:=j0_0) (k:=2) (len:=a0.gone.length) (q:=⟨false,73,4,1,[.row j0_2 a0.out.length,.val (.int .i64 a0.kept),.row j0_0 a0.gone.length,.row j0_1 a0.come.length]⟩) (qj:=⟨true,25,3,a0.gone.length,fl Za a0.gone⟩) (by rw [Yf _ hi0];first | exact ho0 | exact Z8 _ _ _) rfl (by rw [Yf _ Un];exact U1) Jr (by omega)
 simp only [Yn _ _ Un,Yn _ _ hi0,Y4,Ym,Qh,Zax Jr,List.set_cons_zero,List.set_cons_succ,List.cons_append,List.nil_append,List.length_cons,List.length_nil,Nat.zero_add,Nat.reduceAdd,Nat.add_assoc] at e0
 refine Q6 e0 ?_
 have e1:=Jv (ba:=n) (E:=⟨73,[],Ze6 0 [.ref i0 0]⟩) (O:=(Zq ((O.upd j0_0 none).upd i0 (some ⟨false,73,4,1,[.row j0_2 a0.out.length,.val (.int .i64 a0.kept),.row n a0.gone.length,.row j0_1 a0.come.length]⟩)) n [some ⟨true,25,3,a0.gone.length,fl Za a0.gone⟩])) (n:=(n+1)) (i:=i0) (j:=j0_1) (k:=3) (len:=a0.come.length) (q:=⟨false,73,4,1,[.row j0_2 a0.out.length,.val (.int .i64 a0.kept),.row n a0.gone.length,.row j0_1 a0.come.length]⟩) (qj:=⟨true,25,3,a0.come.length,fl Za a0.come⟩) (by rw [Yf _ hi0];first | exact ho0 | exact Z8 _ _ _) rfl (by rw [Yf _ Zha,Yv _ _ (Ne.symm U0),Yv _ _ (Ne.symm Uz)];exact Zib) U0 (by omega)
 simp only [Yn _ _ Zha,Yn _ _ hi0,Y4,Ym,Qh,Zax U0,List.set_cons_zero,List.set_cons_succ,List.cons_append,List.nil_append,List.length_cons,List.length_nil,Nat.zero_add,Nat.reduceAdd,Nat.add_assoc] at e1
 refine Q6 e1 ?_
 have e2:=Jv (ba:=n) (E:=⟨73,[],Ze6 0 [.ref i0 0]⟩) (O:=(Zq (((O.upd j0_0 none).upd j0_1 none).upd i0 (some ⟨false,73,4,1,[.row j0_2 a0.out.length,.val (.int .i64 a0.kept),.row n a0.gone.length,.row (n+1) a0.come.length]⟩)) n [some ⟨true,25,3,a0.gone.length,fl Za a0.gone⟩,some ⟨true,25,3,a0.come.length,fl Za a0.come⟩])) (n:=(n+2)) (i:=i0) (j:=j0_2) (k:=0) (len:=a0.out.length) (q:=⟨false,73,4,1,[.row j0_2 a0.out.length,.val (.int .i64 a0.kept),.row n a0.gone.length,.row (n+1) a0.come.length]⟩) (qj:=⟨true,46,14,a0.out.length,fl Zd a0.out⟩) (by rw [Yf _ hi0];first | exact ho0 | exact Z8 _ _ _) rfl (by rw [Yf _ Zjc,Yv _ _ (Ne.symm Za5),Yv _ _ (Ne.symm Za4),Yv _ _ (Ne.symm Za3)];exact Zkn) Za5 (by omega)
 simp only [Yn _ _ Zjc,Yn _ _ hi0,Y4,Ym,Qh,Zax Za5,List.set_cons_zero,List.set_cons_succ,List.cons_append,List.nil_append,List.length_cons,List.length_nil,Nat.zero_add,Nat.reduceAdd,Nat.add_assoc] at e2
 refine Q6 e2 ?_
 have hU:=(Und.drop (Und.drop (Und.drop hU j0_0) j0_1) j0_2)
 have hk0:∀ k,i0 < n+k:=fun k=>by omega
 have hN0:∀ o,Objs.upd (((O.upd j0_0 none).upd j0_1 none).upd j0_2 none) i0 o n=none:=fun o=>X1 hU hi0 _ (Nat.le_refl _)
 have hN:∀ o k,Objs.upd (((O.upd j0_0 none).upd j0_1 none).upd j0_2 none) i0 o (n+k)=none:=fun o k=>X1 hU hi0 _ (Nat.le_add_right _ _)
 show W _ _ _ _ ⟨73,[],[(0,.ref i0 0)]⟩ (Zq ((((O.upd j0_0 none).upd j0_1 none).upd j0_2 none).upd i0 (some ⟨false,73,4,1,[.row (n+2) a0.out.length,(vI a0.kept),.row n a0.gone.length,.row (n+1) a0.come.length]⟩)) n [some (oR 25 3 Za a0.gone),some (oR 25 3 Za a0.come),some (oR 46 14 Zd a0.out)]) _
 obtain ⟨z1,hz1,h⟩:=bC h
 refine Xe (E':=⟨73,[],[(0,.ref i0 0)]⟩) (O':=(Zq ((((O.upd j0_0 none).upd j0_1 none).upd j0_2 none).upd i0 (some ⟨false,73,4,1,[.row (n+2) z1.length,(vI a0.kept),.row n a0.gone.length,.row (n+1) a0.come.length]⟩)) n [some (oR 25 3 Za a0.gone),some (oR 25 3 Za a0.come),some (oR 46 14 Zd z1),none])) (n0:=(n+4)) ?_ ?_
 ·refine Zbd [0,6] hi0 hk0 ?_
  refine Zp (t:=(decide (0 < a0.kept))) rfl (fun c5 => ?_) (fun c5 => ?_)
  ·replace hz1:=Zt c5 hz1
   obtain ⟨l2,pl2,ql2,el2,hz1⟩:=bA (k:=1) rfl hz1
   obtain ⟨x3,hx3,ax3,bx3,cx3,hz1⟩:=bE (f:=Zd) Zbm (fun _=>rfl) (by decide) hz1
   have gu4:Jq (fl Zd a0.out++[.val (.int .i64 0),.val (.int .i64 0),.val (.slice none 0 0),.val (.int .i64 0),.val (.int .i64 0),.val (.slice none 0 0),.val (.slice none 0 0),.val (.int .i64 0),.val (.slice none 0 0),.val (.slice none 0 0),.val (.slice none 0 0),.val (.slice none 0 0),.val (.int .i64 0),.val (.slice none 0 0)]) [.val (.int .i64 0),.val (.int .i64 a0.kept),.val (.slice none 0 0),.val (.int .i64 0),.val (.int .i64 0),.val (.slice none 0 0),.val (.slice none 0 0),.val (.int .i64 0),.val (.slice none 0 0),.val (.slice none 0 0),.val (.slice none 0 0),.val (.slice none 0 0),.val (.int .i64 0),.val (.slice none 0 0)] (List.length a0.out * 14)=some (fl Zd a0.out++[.val (.int .i64 0),.val (.int .i64 a0.kept),.val (.slice none 0 0),.val (.int .i64 0),.val (.int .i64 0),.val (.slice none 0 0),.val (.slice none 0 0),.val (.int .i64 0),.val (.slice none 0 0),.val (.slice none 0 0),.val (.slice none 0 0),.val (.slice none 0 0),.val (.int .i64 0),.val (.slice none 0 0)]):=Zay (f:=Zd) (sz:=14) (fun _=>rfl) rfl rfl
   refine Zae Z0 (by kernel_rfl) [.plain,.low,.low,.low,.plain,.low,.low,.low,.plain,.low,.pass,.bar,.shp,.fill true,.shp,.shp,.fill false] (fun i=>i < (n+3)) [0,1,2,3,4,5,6,7,8,9,10,11,12,13,14,15,16] [.plain,.low,.low,.low,.plain,.low,.low,.low,.plain,.low,.pass,.bar,.shp,.fill true,.shp,.shp,.fill false] [] (by kernel_rfl) rfl ?_
   refine zF9 pl2 ql2 el2 ax3 bx3 cx3 gu4 hi0 hk0 ?_
   refine zO ?_
   obtain rfl:=sI hz1
   refine And.intro rfl (Fit2.of (Z5 hU rfl rfl ?_) (by omega))
   exact Z34 pl2 ql2 el2 ax3 bx3 cx3 gu4 hi0 hk0
  replace hz1:=Zs c5 hz1
  refine zK ?_
  obtain rfl:=sI hz1
  refine And.intro rfl (Fit2.of (Z5 hU rfl rfl ?_) (by omega))
  exact Q2 hi0 hk0
 obtain ⟨z6,hz6,h⟩:=bC h
 refine Xe (E':=⟨73,[],[(0,.ref i0 0)]⟩) (O':=(Zq ((((O.upd j0_0 none).upd j0_1 none).upd j0_2 none).upd i0 (some ⟨false,73,4,1,[.row (n+2) z6.1.length,(vI a0.kept),(sL Za z6.2),.row (n+1) a0.come.length]⟩)) n [none,some (oR 25 3 Za a0.come),some (oR 46 14 Zd z6.1),none,none])) (n0:=(n+5)) ?_ ?_
 ·refine Zbd [0,27] hi0 hk0 ?_
  refine Zp (t:=(decide (0 < (a0.gone.length:Int)))) rfl (fun c12 => ?_) (fun c12 => ?_)
  ·replace hz6:=Zt c12 hz6
   refine Zdy ⟨73,[],[(0,.ref i0 0)]⟩ (Zq ((((O.upd j0_0 none).upd j0_1 none).upd j0_2 none).upd i0 (some ⟨false,73,4,1,[.row (n+2) z1.length,(vI a0.kept),(sL Za a0.gone),.row (n+1) a0.come.length]⟩)) n [none,some (oR 25 3 Za a0.come),some (oR 46 14 Zd z1),none]) (Z5 hU rfl rfl ?_) ?_
   ·exact Q2 hi0 hk0
   obtain ⟨l9,pl9,ql9,el9,hz6⟩:=bA (k:=1) rfl hz6
   obtain ⟨x10,hx10,ax10,bx10,cx10,hz6⟩:=bE (f:=Zd) Zbm (fun _=>rfl) (by decide) hz6
   have gu11:Jq (fl Zd z1++[.val (.int .i64 0),.val (.int .i64 0),.val (.slice none 0 0),.val (.int .i64 0),.val (.int .i64 0),.val (.slice none 0 0),.val (.slice none 0 0),.val (.int .i64 0),.val (.slice none 0 0),.val (.slice none 0 0),.val (.slice none 0 0),.val (.slice none 0 0),.val (.int .i64 0),.val (.slice none 0 0)]) [.val (.int .i64 1),.val (.int .i64 0),.sl a0.gone.length (fl Za a0.gone),.val (.int .i64 0),.val (.int .i64 0),.val (.slice none 0 0),.val (.slice none 0 0),.val (.int .i64 0),.val (.slice none 0 0),.val (.slice none 0 0),.val (.slice none 0 0),.val (.slice none 0 0),.val (.int .i64 0),.val (.slice none 0 0)] (List.length z1 * 14)=some (fl Zd z1++[.val (.int .i64 1),.val (.int .i64 0),.sl a0.gone.length (fl Za a0.gone),.val (.int .i64 0),.val (.int .i64 0),.val (.slice none 0 0),.val (.slice none 0 0),.val (.int .i64 0),.val (.slice none 0 0),.val (.slice none 0 0),.val (.slice none 0 0),.val (.slice none 0 0),.val (.int .i64 0),.val (.slice none 0 0)]):=Zay (f:=Zd) (sz:=14) (fun _=>rfl) rfl rfl
   refine Zae Z0 (by kernel_rfl) [.plain,.low,.low,.low,.plain,.low,.low,.low,.plain,.low,.pass,.bar,.shp,.fill true,.shp,.shp,.fill false] (fun i=>i < (n+4)) [0,1,2,3,4,5,6,7,8,9,10,11,12,13,14,15,16] [.plain,.low,.low,.low,.plain,.low,.low,.low,.plain,.low,.pass,.bar,.shp,.fill true,.shp,.shp,.fill false] [] (by kernel_rfl) rfl ?_
   refine zF9 pl9 ql9 el9 ax10 bx10 cx10 gu11 hi0 hk0 ?_
   refine zO ?_
   obtain rfl:=sI hz6
   refine And.intro rfl (Fit2.of (Z5 hU rfl rfl ?_) (by omega))
   exact Z34 pl9 ql9 el9 ax10 bx10 cx10 gu11 hi0 hk0
  replace hz6:=Zs c12 hz6
  refine zK ?_
  obtain rfl:=sI hz6
  refine And.intro rfl (Fit2.of (Z5 hU rfl rfl ?_) (by omega))
  exact Q2 hi0 hk0
 obtain ⟨z13,hz13,h⟩:=bC h
 refine Xe (E':=⟨73,[],[(0,.ref i0 0)]⟩) (O':=(Zq ((((O.upd j0_0 none).upd j0_1 none).upd j0_2 none).upd i0 (some ⟨false,73,4,1,[.row (n+2) z13.1.length,(vI a0.kept),(sL Za z6.2),(sL Za z13.2)]⟩)) n [none,none,some (oR 46 14 Zd z13.1),none,none,none])) (n0:=(n+6)) ?_ ?_
 ·refine Zbd [0,48] hi0 hk0 ?_
  refine Zp (t:=(decide (0 < (a0.come.length:Int)))) rfl (fun c19 => ?_) (fun c19 => ?_)
  ·replace hz13:=Zt c19 hz13
   refine Zdy ⟨73,[],[(0,.ref i0 0)]⟩ (Zq ((((O.upd j0_0 none).upd j0_1 none).upd j0_2 none).upd i0 (some ⟨false,73,4,1,[.row (n+2) z6.1.length,(vI a0.kept),(sL Za z6.2),(sL Za a0.come)]⟩)) n [none,none,some (oR 46 14 Zd z6.1),none,none]) (Z5 hU rfl rfl ?_) ?_
   ·exact Q2 hi0 hk0
   obtain ⟨l16,pl16,ql16,el16,hz13⟩:=bA (k:=1) rfl hz13
   obtain ⟨x17,hx17,ax17,bx17,cx17,hz13⟩:=bE (f:=Zd) Zbm (fun _=>rfl) (by decide) hz13
   have gu18:Jq (fl Zd z6.1++[.val (.int .i64 0),.val (.int .i64 0),.val (.slice none 0 0),.val (.int .i64 0),.val (.int .i64 0),.val (.slice none 0 0),.val (.slice none 0 0),.val (.int .i64 0),.val (.slice none 0 0),.val (.slice none 0 0),.val (.slice none 0 0),.val (.slice none 0 0),.val (.int .i64 0),.val (.slice none 0 0)]) [.val (.int .i64 2),.val (.int .i64 0),.sl a0.come.length (fl Za a0.come),.val (.int .i64 0),.val (.int .i64 0),.val (.slice none 0 0),.val (.slice none 0 0),.val (.int .i64 0),.val (.slice none 0 0),.val (.slice none 0 0),.val (.slice none 0 0),.val (.slice none 0 0),.val (.int .i64 0),.val (.slice none 0 0)] (List.length z6.1 * 14)=some (fl Zd z6.1++[.val (.int .i64 2),.val (.int .i64 0),.sl a0.come.length (fl Za a0.come),.val (.int .i64 0),.val (.int .i64 0),.val (.slice none 0 0),.val (.slice none 0 0),.val (.int .i64 0),.val (.slice none 0 0),.val (.slice none 0 0),.val (.slice none 0 0),.val (.slice none 0 0),.val (.int .i64 0),.val (.slice none 0 0)]):=Zay (f:=Zd) (sz:=14) (fun _=>rfl) rfl rfl
   refine Zae Z0 (by kernel_rfl) [.plain,.low,.low,.low,.plain,.low,.low,.low,.plain,.low,.pass,.bar,.shp,.fill true,.shp,.shp,.fill false] (fun i=>i < (n+5)) [0,1,2,3,4,5,6,7,8,9,10,11,12,13,14,15,16] [.plain,.low,.low,.low,.plain,.low,.low,.low,.plain,.low,.pass,.bar,.shp,.fill true,.shp,.shp,.fill false] [] (by kernel_rfl) rfl ?_
   refine zF9 pl16 ql16 el16 ax17 bx17 cx17 gu18 hi0 hk0 ?_
   refine zO ?_
   obtain rfl:=sI hz13
   refine And.intro rfl (Fit2.of (Z5 hU rfl rfl ?_) (by omega))
   exact Z34 pl16 ql16 el16 ax17 bx17 cx17 gu18 hi0 hk0
  replace hz13:=Zs c19 hz13
  refine zK ?_
  obtain rfl:=sI hz13
  refine And.intro rfl (Fit2.of (Z5 hU rfl rfl ?_) (by omega))
  exact Q2 hi0 hk0
 refine U9 [] hi0 hk0 ?_
 obtain rfl:=sI h
 refine Ja (k:=3) (i:=i0) (q1:=⟨false,73,4,1,[.row (n+2) z13.1.length,(vI 0),.row n ([]:List Zb).length,.row (n+1) ([]:List Zb).length]⟩) (L3:=[some (oR 25 3 Za ([]:List Zb)),some (oR 25 3 Za ([]:List Zb)),some (oR 46 14 Zd z13.1),none]) (E2:=(⟨73,[],[]⟩:Env)) (n3:=(n+4)) (.inl rfl) hU rfl [] ?_ ?_
 ·refine Fit2.trans (E':=(⟨73,[],[]⟩:Env)) (O':=(Zq ((((O.upd j0_0 none).upd j0_1 none).upd j0_2 none).upd i0 (some ⟨false,73,4,1,[.row (n+2) z13.1.length,(vI 0),nV,nV]⟩)) n [none,none,some (oR 46 14 Zd z13.1),none,none,none])) (n':=(n+6)) (Fit2.of (Z5 hU rfl rfl ?_) (by omega)) ?_
  ·exact Q2 hi0 hk0
  refine Fit2.trans (G7 (p:=i0) (k:=2) (q:=⟨false,73,4,1,[.row (n+2) z13.1.length,(vI 0),nV,nV]⟩) 25 3 (by simp only [Ge,Zdn,List.getElem?_cons_zero,List.getElem?_cons_succ,Option.join_some,List.length_nil,Z8,Yf,hi0,hk0,hN0,hN]) rfl (by omega)) ?_
  simp only [Y4,Ym,Gm,V8,List.set_cons_zero,List.set_cons_succ,List.cons_append,List.nil_append,List.length_cons,List.length_nil,Nat.zero_add,Nat.reduceAdd,Nat.reduceLT,Nat.add_assoc,Yn,Qh,hi0,hk0,hN0,hN]
  refine Fit2.trans (G7 (p:=i0) (k:=3) (q:=⟨false,73,4,1,[.row (n+2) z13.1.length,(vI 0),.row (n+6) ([]:List Zb).length,nV]⟩) 25 3 (by simp only [Ge,Zdn,List.getElem?_cons_zero,List.getElem?_cons_succ,Option.join_some,List.length_nil,Z8,Yf,hi0,hk0,hN0,hN]) rfl (by omega)) ?_
  simp only [Y4,Ym,Gm,V8,List.set_cons_zero,List.set_cons_succ,List.cons_append,List.nil_append,List.length_cons,List.length_nil,Nat.zero_add,Nat.reduceAdd,Nat.reduceLT,Nat.add_assoc,Yn,Qh,hi0,hk0,hN0,hN]
  refine X3 (k:=8) (k':=4) hU [3,3,2,3,3,3,0,1] [6,7,2,0] rfl rfl rfl rfl ⟨rfl,rfl⟩ ?_
  exact Q2 hi0 hk0
 simp only [push_cast,seval,Zi,Try.results52,hi0,hk0,hN0,hN]
theorem Zf6 {a0:Zv} {a1:Int} {r:Zv} {O:Objs} {n:Nat} {i0 j0_0 j0_1 j0_2:Nat} (hi0:i0 < n) (Un:j0_0 < n) (Zha:j0_1 < n) (Zjc:j0_2 < n) (Jr:i0≠j0_0) (U0:i0≠j0_1) (Za5:i0≠j0_2) (Uz:j0_0≠j0_1) (Za3:j0_0≠j0_2) (Za4:j0_1≠j0_2) (ho0:O i0=some ⟨false,73,4,1,[.row j0_2 a0.out.length,(vI a0.kept),.row j0_0 a0.gone.length,.row j0_1 a0.come.length]⟩) (U1:O j0_0=some (oR 25 3 Za a0.gone)) (Zib:O j0_1=some (oR 25 3 Za a0.come)) (Zkn:O j0_2=some (oR 46 14 Zd a0.out)) (h:J8 a0 a1=some r):GTo Try.prog 49 [.ref i0 0,(vI a1)] O n (.tup []) (Zq ((((O.upd j0_0 none).upd j0_1 none).upd j0_2 none).upd i0 (some ⟨false,73,4,1,[.row (n+2) r.out.length,(vI r.kept),.row n r.gone.length,.row (n+1) r.come.length]⟩)) n [some (oR 25 3 Za r.gone),some (oR 25 3 Za r.come),some (oR 46 14 Zd r.out)]) (n+3):=by
 unfold J8 at h
 refine Zi9 Z0 Try.call49 Try.func49 rfl (Nat.le_of_ble_eq_true rfl) (by omega) fun hU => ?_
 have e0:=Jv (ba:=n) (E:=⟨19,[],Ze6 0 [.ref i0 0,.val (.int .i64 a1)]⟩) (O:=(Zq O n [])) (n:=n) (i:=i0) (j:=j0_0) (k:=2) (len:=a0.gone.length) (q:=⟨false,73,4,1,[.row j0_2 a0.out.length,.val (.int .i64 a0.kept),.row j0_0 a0.gone.length,.row j0_1 a0.come.length]⟩) (qj:=⟨true,25,3,a0.gone.length,fl Za a0.gone⟩) (by rw [Yf _ hi0];first | exact ho0 | exact Z8 _ _ _) rfl (by rw [Yf _ Un];exact U1) Jr (by omega)
 simp only [Yn _ _ Un,Yn _ _ hi0,Y4,Ym,Qh,Zax Jr,List.set_cons_zero,List.set_cons_succ,List.cons_append,List.nil_append,List.length_cons,List.length_nil,Nat.zero_add,Nat.reduceAdd,Nat.add_assoc] at e0
 refine Q6 e0 ?_
 have e1:=Jv (ba:=n) (E:=⟨19,[],Ze6 0 [.ref i0 0,.val (.int .i64 a1)]⟩) (O:=(Zq ((O.upd j0_0 none).upd i0 (some ⟨false,73,4,1,[.row j0_2 a0.out.length,.val (.int .i64 a0.kept),.row n a0.gone.length,.row j0_1 a0.come.length]⟩)) n [some ⟨true,25,3,a0.gone.length,fl Za a0.gone⟩])) (n:=(n+1)) (i:=i0) (j:=j0_1) (k:=3) (len:=a0.come.length) (q:=⟨false,73,4,1,[.row j0_2 a0.out.length,.val (.int .i64 a0.kept),.row n a0.gone.length,.row j0_1 a0.come.length]⟩) (qj:=⟨true,25,3,a0.come.length,fl Za a0.come⟩) (by rw [Yf _ hi0];first | exact ho0 | exact Z8 _ _ _) rfl (by rw [Yf _ Zha,Yv _ _ (Ne.symm U0),Yv _ _ (Ne.symm Uz)];exact Zib) U0 (by omega)
 simp only [Yn _ _ Zha,Yn _ _ hi0,Y4,Ym,Qh,Zax U0,List.set_cons_zero,List.set_cons_succ,List.cons_append,List.nil_append,List.length_cons,List.length_nil,Nat.zero_add,Nat.reduceAdd,Nat.add_assoc] at e1
 refine Q6 e1 ?_
 have e2:=Jv (ba:=n) (E:=⟨19,[],Ze6 0 [.ref i0 0,.val (.int .i64 a1)]⟩) (O:=(Zq (((O.upd j0_0 none).upd j0_1 none).upd i0 (some ⟨false,73,4,1,[.row j0_2 a0.out.length,.val (.int .i64 a0.kept),.row n a0.gone.length,.row (n+1) a0.come.length]⟩)) n [some ⟨true,25,3,a0.gone.length,fl Za a0.gone⟩,some ⟨true,25,3,a0.come.length,fl Za a0.come⟩])) (n:=(n+2)) (i:=i0) (j:=j0_2) (k:=0) (len:=a0.out.length) (q:=⟨false,73,4,1,[.row j0_2 a0.out.length,.val (.int .i64 a0.kept),.row n a0.gone.length,.row (n+1) a0.come.length]⟩) (qj:=⟨true,46,14,a0.out.length,fl Zd a0.out⟩) (by rw [Yf _ hi0];first | exact ho0 | exact Z8 _ _ _) rfl (by rw [Yf _ Zjc,Yv _ _ (Ne.symm Za5),Yv _ _ (Ne.symm Za4),Yv _ _ (Ne.symm Za3)];exact Zkn) Za5 (by omega)
 simp only [Yn _ _ Zjc,Yn _ _ hi0,Y4,Ym,Qh,Zax Za5,List.set_cons_zero,List.set_cons_succ,List.cons_append,List.nil_append,List.length_cons,List.length_nil,Nat.zero_add,Nat.reduceAdd,Nat.add_assoc] at e2
 refine Q6 e2 ?_
 have hU:=(Und.drop (Und.drop (Und.drop hU j0_0) j0_1) j0_2)
 have hk0:∀ k,i0 < n+k:=fun k=>by omega
 have hN0:∀ o,Objs.upd (((O.upd j0_0 none).upd j0_1 none).upd j0_2 none) i0 o n=none:=fun o=>X1 hU hi0 _ (Nat.le_refl _)
 have hN:∀ o k,Objs.upd (((O.upd j0_0 none).upd j0_1 none).upd j0_2 none) i0 o (n+k)=none:=fun o k=>X1 hU hi0 _ (Nat.le_add_right _ _)
 show W _ _ _ _ ⟨19,[],[(0,.ref i0 0),(1,(vI a1))]⟩ (Zq ((((O.upd j0_0 none).upd j0_1 none).upd j0_2 none).upd i0 (some ⟨false,73,4,1,[.row (n+2) a0.out.length,(vI a0.kept),.row n a0.gone.length,.row (n+1) a0.come.length]⟩)) n [some (oR 25 3 Za a0.gone),some (oR 25 3 Za a0.come),some (oR 46 14 Zd a0.out)]) _
 obtain ⟨z1,hz1,h⟩:=bC h
 refine Xe (E':=⟨19,[],[(0,.ref i0 0),(1,(vI a1))]⟩) (O':=(Zq ((((O.upd j0_0 none).upd j0_1 none).upd j0_2 none).upd i0 (some ⟨false,73,4,1,[.row (n+6) z1.1.length,(vI z1.2.2.2),.row (n+7) z1.2.1.length,.row (n+8) z1.2.2.1.length]⟩)) n [none,none,none,none,none,none,some (oR 46 14 Zd z1.1),some (oR 25 3 Za z1.2.1),some (oR 25 3 Za z1.2.2.1)])) (n0:=(n+9)) ?_ ?_
 ·refine Zbd [0,1,8] hi0 hk0 ?_
  refine Zp (t:=(a0.kept == 0)) rfl (fun c3 => ?_) (fun c3 => ?_)
  ·replace hz1:=Zt c3 hz1
   obtain ⟨y2,hy2,hz1⟩:=bC hz1
   refine U9 [] hi0 hk0 ?_
   refine (Vo (i0:=i0) (j0_0:=n) (j0_1:=(n+1)) (j0_2:=(n+2)) (by omega) (by omega) (by omega) (by omega) (by omega) (by omega) (by omega) (by omega) (by omega) (by omega) (by simp only [push_cast,seval,Zi,Yl,hi0,hk0,hN0,hN] <;> rfl) (by simp only [push_cast,seval,Zi,Yl,hi0,hk0,hN0,hN] <;> rfl) (by simp only [push_cast,seval,Zi,Yl,hi0,hk0,hN0,hN] <;> rfl) (by simp only [push_cast,seval,Zi,Yl,hi0,hk0,hN0,hN] <;> rfl) hy2).then ?_
   refine zX2 hi0 hk0 ?_
   obtain rfl:=sI hz1
   refine And.intro rfl ?_
   refine Fit2.trans (E':=(⟨19,[],[(0,.ref i0 0),(1,(vI a1))]⟩:Env)) (O':=(Zq ((((O.upd j0_0 none).upd j0_1 none).upd j0_2 none).upd i0 (some ⟨false,73,4,1,[.row (n+5) y2.out.length,(vI y2.kept),.row (n+3) y2.gone.length,.row (n+4) y2.come.length]⟩)) n [none,none,none,some (oR 25 3 Za y2.gone),some (oR 25 3 Za y2.come),some (oR 46 14 Zd y2.out)])) (n':=(n+6)) (Fit2.of (Z5 hU rfl rfl ?_) (by omega)) ?_
   ·exact Q2 hi0 hk0
   refine X3 (k:=6) (k':=9) hU [5,5,5,7,8,6] [0,0,0,0,0,0,5,3,4] rfl rfl rfl rfl ⟨rfl,rfl⟩ ?_
   exact Q2 hi0 hk0
  replace hz1:=Zs c3 hz1
  refine zK ?_
  obtain rfl:=sI hz1
  refine And.intro rfl ?_
  refine Fit2.trans (E':=(⟨19,[],[(0,.ref i0 0),(1,(vI a1))]⟩:Env)) (O':=(Zq ((((O.upd j0_0 none).upd j0_1 none).upd j0_2 none).upd i0 (some ⟨false,73,4,1,[.row (n+2) a0.out.length,(vI a0.kept),.row n a0.gone.length,.row (n+1) a0.come.length]⟩)) n [some (oR 25 3 Za a0.gone),some (oR 25 3 Za a0.come),some (oR 46 14 Zd a0.out)])) (n':=(n+3)) (Fit2.of (Z5 hU rfl rfl ?_) (by omega)) ?_
  ·exact Q2 hi0 hk0
  refine X3 (k:=3) (k':=9) hU [7,8,6] [0,0,0,0,0,0,2,0,1] rfl rfl rfl rfl ⟨rfl,rfl⟩ ?_
  exact Q2 hi0 hk0
 refine U9 [] hi0 hk0 ?_
 obtain rfl:=sI h
 refine Ja (k:=3) (i:=i0) (q1:=⟨false,73,4,1,[.row (n+2) z1.1.length,(vI (IntKind.i64.wrap (z1.2.2.2+a1))),.row n z1.2.1.length,.row (n+1) z1.2.2.1.length]⟩) (L3:=[some (oR 25 3 Za z1.2.1),some (oR 25 3 Za z1.2.2.1),some (oR 46 14 Zd z1.1),none]) (E2:=(⟨19,[],[]⟩:Env)) (n3:=(n+4)) (.inl rfl) hU rfl [] ?_ ?_
 ·refine Fit2.trans (E':=(⟨19,[],[]⟩:Env)) (O':=(Zq ((((O.upd j0_0 none).upd j0_1 none).upd j0_2 none).upd i0 (some ⟨false,73,4,1,[.row (n+6) z1.1.length,(vI (IntKind.i64.wrap (z1.2.2.2+a1))),.row (n+7) z1.2.1.length,.row (n+8) z1.2.2.1.length]⟩)) n [none,none,none,none,none,none,some (oR 46 14 Zd z1.1),some (oR 25 3 Za z1.2.1),some (oR 25 3 Za z1.2.2.1)])) (n':=(n+9)) (Fit2.of (Z5 hU rfl rfl ?_) (by omega)) ?_
  ·exact Q2 hi0 hk0
  refine X3 (k:=9) (k':=4) hU [3,3,3,3,3,3,2,0,1] [7,8,6,0] rfl rfl rfl rfl ⟨rfl,rfl⟩ ?_
  exact Q2 hi0 hk0
 simp only [push_cast,seval,Zi,Try.results49,hi0,hk0,hN0,hN]
theorem Zi5 {a0:Zv} {a2:(List Zb)} {r:Zv} {O:Objs} {n:Nat} {i0 j0_0 j0_1 j0_2:Nat} (hi0:i0 < n) (Un:j0_0 < n) (Zha:j0_1 < n) (Zjc:j0_2 < n) (Jr:i0≠j0_0) (U0:i0≠j0_1) (Za5:i0≠j0_2) (Uz:j0_0≠j0_1) (Za3:j0_0≠j0_2) (Za4:j0_1≠j0_2) (ho0:O i0=some ⟨false,73,4,1,[.row j0_2 a0.out.length,(vI a0.kept),.row j0_0 a0.gone.length,.row j0_1 a0.come.length]⟩) (U1:O j0_0=some (oR 25 3 Za a0.gone)) (Zib:O j0_1=some (oR 25 3 Za a0.come)) (Zkn:O j0_2=some (oR 46 14 Zd a0.out)) (h:Js a0 a2=some r):GTo Try.prog 50 [.ref i0 0,.ref i0 2,(sL Za a2)] O n (.tup []) (Zq ((((O.upd j0_0 none).upd j0_1 none).upd j0_2 none).upd i0 (some ⟨false,73,4,1,[.row (n+2) r.out.length,(vI r.kept),.row n r.gone.length,.row (n+1) r.come.length]⟩)) n [some (oR 25 3 Za r.gone),some (oR 25 3 Za r.come),some (oR 46 14 Zd r.out)]) (n+3):=by
 unfold Js at h
 refine Zi9 Z0 Try.call50 Try.func50 rfl (Nat.le_of_ble_eq_true rfl) (by omega) fun hU => ?_
 have e0:=Jv (ba:=n) (E:=⟨32,[],Ze6 0 [.ref i0 0,.ref i0 2,.sl a2.length (fl Za a2)]⟩) (O:=(Zq O n [])) (n:=n) (i:=i0) (j:=j0_0) (k:=2) (len:=a0.gone.length) (q:=⟨false,73,4,1,[.row j0_2 a0.out.length,.val (.int .i64 a0.kept),.row j0_0 a0.gone.length,.row j0_1 a0.come.length]⟩) (qj:=⟨true,25,3,a0.gone.length,fl Za a0.gone⟩) (by rw [Yf _ hi0];first | exact ho0 | exact Z8 _ _ _) rfl (by rw [Yf _ Un];exact U1) Jr (by omega)
 simp only [Yn _ _ Un,Yn _ _ hi0,Y4,Ym,Qh,Zax Jr,List.set_cons_zero,List.set_cons_succ,List.cons_append,List.nil_append,List.length_cons,List.length_nil,Nat.zero_add,Nat.reduceAdd,Nat.add_assoc] at e0
 refine Q6 e0 ?_
 have e1:=Jv (ba:=n) (E:=⟨32,[],Ze6 0 [.ref i0 0,.ref i0 2,.sl a2.length (fl Za a2)]⟩) (O:=(Zq ((O.upd j0_0 none).upd i0 (some ⟨false,73,4,1,[.row j0_2 a0.out.length,.val (.int .i64 a0.kept),.row n a0.gone.length,.row j0_1 a0.come.length]⟩)) n [some ⟨true,25,3,a0.gone.length,fl Za a0.gone⟩])) (n:=(n+1)) (i:=i0) (j:=j0_1) (k:=3) (len:=a0.come.length) (q:=⟨false,73,4,1,[.row j0_2 a0.out.length,.val (.int .i64 a0.kept),.row n a0.gone.length,.row j0_1 a0.come.length]⟩) (qj:=⟨true,25,3,a0.come.length,fl Za a0.come⟩) (by rw [Yf _ hi0];first | exact ho0 | exact Z8 _ _ _) rfl (by rw [Yf _ Zha,Yv _ _ (Ne.symm U0),Yv _ _ (Ne.symm Uz)];exact Zib) U0 (by omega)
 simp only [Yn _ _ Zha,Yn _ _ hi0,Y4,Ym,Qh,Zax U0,List.set_cons_zero,List.set_cons_succ,List.cons_append,List.nil_append,List.length_cons,List.length_nil,Nat.zero_add,Nat.reduceAdd,Nat.add_assoc] at e1
 refine Q6 e1 ?_
 have e2:=Jv (ba:=n) (E:=⟨32,[],Ze6 0 [.ref i0 0,.ref i0 2,.sl a2.length (fl Za a2)]⟩) (O:=(Zq (((O.upd j0_0 none).upd j0_1 none).upd i0 (some ⟨false,73,4,1,[.row j0_2 a0.out.length,.val (.int .i64 a0.kept),.row n a0.gone.length,.row (n+1) a0.come.length]⟩)) n [some ⟨true,25,3,a0.gone.length,fl Za a0.gone⟩,some ⟨true,25,3,a0.come.length,fl Za a0.come⟩])) (n:=(n+2)) (i:=i0) (j:=j0_2) (k:=0) (len:=a0.out.length) (q:=⟨false,73,4,1,[.row j0_2 a0.out.length,.val (.int .i64 a0.kept),.row n a0.gone.length,.row (n+1) a0.come.length]⟩) (qj:=⟨true,46,14,a0.out.length,fl Zd a0.out⟩) (by rw [Yf _ hi0];first | exact ho0 | exact Z8 _ _ _) rfl (by rw [Yf _ Zjc,Yv _ _ (Ne.symm Za5),Yv _ _ (Ne.symm Za4),Yv _ _ (Ne.symm Za3)];exact Zkn) Za5 (by omega)
 simp only [Yn _ _ Zjc,Yn _ _ hi0,Y4,Ym,Qh,Zax Za5,List.set_cons_zero,List.set_cons_succ,List.cons_append,List.nil_append,List.length_cons,List.length_nil,Nat.zero_add,Nat.reduceAdd,Nat.add_assoc] at e2
 refine Q6 e2 ?_
 have hU:=(Und.drop (Und.drop (Und.drop hU j0_0) j0_1) j0_2)
 have hk0:∀ k,i0 < n+k:=fun k=>by omega
 have hN0:∀ o,Objs.upd (((O.upd j0_0 none).upd j0_1 none).upd j0_2 none) i0 o n=none:=fun o=>X1 hU hi0 _ (Nat.le_refl _)
 have hN:∀ o k,Objs.upd (((O.upd j0_0 none).upd j0_1 none).upd j0_2 none) i0 o (n+k)=none:=fun o k=>X1 hU hi0 _ (Nat.le_add_right _ _)
 show W _ _ _ _ ⟨32,[],[(0,.ref i0 0),(1,.ref i0 2),(2,(sL Za a2))]⟩ (Zq ((((O.upd j0_0 none).upd j0_1 none).upd j0_2 none).upd i0 (some ⟨false,73,4,1,[.row (n+2) a0.out.length,(vI a0.kept),.row n a0.gone.length,.row (n+1) a0.come.length]⟩)) n [some (oR 25 3 Za a0.gone),some (oR 25 3 Za a0.come),some (oR 46 14 Zd a0.out)]) _
 obtain ⟨z1,hz1,h⟩:=bC h
 refine Xe (E':=⟨32,[],[(1,.ref i0 2),(2,(sL Za a2))]⟩) (O':=(Zq ((((O.upd j0_0 none).upd j0_1 none).upd j0_2 none).upd i0 (some ⟨false,73,4,1,[.row (n+6) z1.1.length,(vI z1.2.2.2),.row (n+7) z1.2.1.length,.row (n+8) z1.2.2.1.length]⟩)) n [none,none,none,none,none,none,some (oR 46 14 Zd z1.1),some (oR 25 3 Za z1.2.1),some (oR 25 3 Za z1.2.2.1)])) (n0:=(n+9)) ?_ ?_
 ·refine Zbd [0,1,2,12] hi0 hk0 ?_
  refine Zp (t:=(decide (0 < a0.kept))) rfl (fun c3 => ?_) (fun c3 => ?_)
  ·replace hz1:=Zt c3 hz1
   obtain ⟨y2,hy2,hz1⟩:=bC hz1
   refine U9 [] hi0 hk0 ?_
   refine (Vo (i0:=i0) (j0_0:=n) (j0_1:=(n+1)) (j0_2:=(n+2)) (by omega) (by omega) (by omega) (by omega) (by omega) (by omega) (by omega) (by omega) (by omega) (by omega) (by simp only [push_cast,seval,Zi,Yl,hi0,hk0,hN0,hN] <;> rfl) (by simp only [push_cast,seval,Zi,Yl,hi0,hk0,hN0,hN] <;> rfl) (by simp only [push_cast,seval,Zi,Yl,hi0,hk0,hN0,hN] <;> rfl) (by simp only [push_cast,seval,Zi,Yl,hi0,hk0,hN0,hN] <;> rfl) hy2).then ?_
   refine zX2 hi0 hk0 ?_
   obtain rfl:=sI hz1
   refine And.intro rfl ?_
   refine Fit2.trans (E':=(⟨32,[],[(1,.ref i0 2),(2,(sL Za a2))]⟩:Env)) (O':=(Zq ((((O.upd j0_0 none).upd j0_1 none).upd j0_2 none).upd i0 (some ⟨false,73,4,1,[.row (n+5) y2.out.length,(vI y2.kept),.row (n+3) y2.gone.length,.row (n+4) y2.come.length]⟩)) n [none,none,none,some (oR 25 3 Za y2.gone),some (oR 25 3 Za y2.come),some (oR 46 14 Zd y2.out)])) (n':=(n+6)) (Fit2.of (Z5 hU rfl rfl ?_) (by omega)) ?_
   ·exact Q2 hi0 hk0
   refine X3 (k:=6) (k':=9) hU [5,5,5,7,8,6] [0,0,0,0,0,0,5,3,4] rfl rfl rfl rfl ⟨rfl,rfl⟩ ?_
   exact Q2 hi0 hk0
  replace hz1:=Zs c3 hz1
  refine zK ?_
  obtain rfl:=sI hz1
  refine And.intro rfl ?_
  refine Fit2.trans (E':=(⟨32,[],[(1,.ref i0 2),(2,(sL Za a2))]⟩:Env)) (O':=(Zq ((((O.upd j0_0 none).upd j0_1 none).upd j0_2 none).upd i0 (some ⟨false,73,4,1,[.row (n+2) a0.out.length,(vI a0.kept),.row n a0.gone.length,.row (n+1) a0.come.length]⟩)) n [some (oR 25 3 Za a0.gone),some (oR 25 3 Za a0.come),some (oR 46 14 Zd a0.out)])) (n':=(n+3)) (Fit2.of (Z5 hU rfl rfl ?_) (by omega)) ?_
  ·exact Q2 hi0 hk0
  refine X3 (k:=3) (k':=9) hU [7,8,6] [0,0,0,0,0,0,2,0,1] rfl rfl rfl rfl ⟨rfl,rfl⟩ ?_
  exact Q2 hi0 hk0
 refine Zbd [1,15,16,17] hi0 hk0 ?_
 refine zD [1,15,16,17] [false,false,false,false,false,false,true,true,true] ?_
 obtain ⟨z11,hz11,h⟩:=bC h
 refine Yo (E':=⟨32,[],[]⟩) (O':=(Zq ((((O.upd j0_0 none).upd j0_1 none).upd j0_2 none).upd i0 (some ⟨false,73,4,1,[.row (n+6) z1.1.length,(vI z1.2.2.2),.row (n+7) z11.length,.row (n+8) z1.2.2.1.length]⟩)) n [none,none,none,none,none,none,some (oR 46 14 Zd z1.1),some (oR 25 3 Za z11),some (oR 25 3 Za z1.2.2.1)])) (n0:=(n+9)) ?_ ?_
 ·refine Y2 hz11 (fun s0_=>⟨32,[],[(1,.ref i0 2),(15,(sL Za a2)),(16,(vI (a2.length:Int))),(17,(vI s0_.1))]⟩) (fun s0_=>(Zq ((((O.upd j0_0 none).upd j0_1 none).upd j0_2 none).upd i0 (some ⟨false,73,4,1,[.row (n+6) z1.1.length,(vI z1.2.2.2),.row (n+7) s0_.2.length,.row (n+8) z1.2.2.1.length]⟩)) n [none,none,none,none,none,none,some (oR 46 14 Zd z1.1),some (oR 25 3 Za s0_.2),some (oR 25 3 Za z1.2.2.1)])) (fun z11=>JX 0 n (⟨32,[],[]⟩:Env) (Zq ((((O.upd j0_0 none).upd j0_1 none).upd j0_2 none).upd i0 (some ⟨false,73,4,1,[.row (n+6) z1.1.length,(vI z1.2.2.2),.row (n+7) z11.length,.row (n+8) z1.2.2.1.length]⟩)) n [none,none,none,none,none,none,some (oR 46 14 Zd z1.1),some (oR 25 3 Za z11),some (oR 25 3 Za z1.2.2.1)]) (n+9)) ?_
  intro s0_ x0_ hs0_
  unfold Qr at hs0_
  try dsimp only
  refine Zbd [1,15,16,17,18] hi0 hk0 ?_
  refine Zk ?_
  refine Zp (t:=(decide (s0_.1 < (a2.length:Int)))) rfl (fun c10 => ?_) (fun c10 => ?_)
  ·replace hs0_:=Zt c10 hs0_
   refine Ky [1,15,16,17] [false,false,false,false,false,false,true,true,true] ?_
   refine Zk ?_
   refine Yd ?_
   refine Zk ?_
   obtain ⟨x5,hx5,ax5,bx5,cx5,hs0_⟩:=bE (f:=Za) Ug (fun _=>rfl) (by decide) hs0_
   refine Z75 [] ax5 bx5 cx5 hi0 hk0 ?_
   refine zD [1,7,15,16,17] [false,false,false,false,false,false,true,true,true,true] ?_
   obtain ⟨y6,hy6,hs0_⟩:=bC hs0_
   obtain ⟨l7,pl7,ql7,el7,hs0_⟩:=bA (k:=1) rfl hs0_
   obtain ⟨x8,hx8,ax8,bx8,cx8,hs0_⟩:=bE (f:=Za) Ug (fun _=>rfl) (by decide) hs0_
   have gu9:Jq (fl Za s0_.2++[.val (.int .i64 0),.val (.slice none 0 0),.val (.slice none 0 0)]) [.val (.int .i64 y6.Kind),.sl y6.Words.length (fl (eI .u64) y6.Words),.sl y6.Kids.length (fl Za y6.Kids)] (List.length s0_.2 * 3)=some (fl Za s0_.2++[.val (.int .i64 y6.Kind),.sl y6.Words.length (fl (eI .u64) y6.Words),.sl y6.Kids.length (fl Za y6.Kids)]):=Zay (f:=Za) (sz:=3) (fun _=>rfl) rfl rfl
   refine Zae Z0 (by kernel_rfl) [.plain,.low,.low,.low,.low,.low,.pass,.bar,.shp,.fill true,.shp,.fill false] (fun i=>i < (n+10)) [0,1,2,3,4,5,6,7,8,9,10,11] [.plain,.low,.low,.low,.low,.low,.pass,.bar,.shp,.fill true,.shp,.fill false] [] (by kernel_rfl) rfl ?_
   refine zF9 pl7 ql7 el7 ax8 bx8 cx8 gu9 hi0 hk0 ?_
   refine zO ?_
   first | refine PCallA.of (fun _ _=>Za8 hy6) ?_ | refine PCall.of (Za8 hy6) ?_
   refine zF9 pl7 ql7 el7 ax8 bx8 cx8 gu9 hi0 hk0 ?_
   refine zO ?_
   refine Zdy ⟨32,[],[(1,.ref i0 2),(15,(sL Za a2)),(16,(vI (a2.length:Int))),(17,(vI s0_.1))]⟩ (Zq ((((O.upd j0_0 none).upd j0_1 none).upd j0_2 none).upd i0 (some ⟨false,73,4,1,[.row (n+6) z1.1.length,(vI z1.2.2.2),.row (n+7) (s0_.2++[y6]).length,.row (n+8) z1.2.2.1.length]⟩)) n [none,none,none,none,none,none,some (oR 46 14 Zd z1.1),some (oR 25 3 Za (s0_.2++[y6])),some (oR 25 3 Za z1.2.2.1),none,none]) (Z5 hU rfl rfl ?_) ?_
   ·exact Z34 pl7 ql7 el7 ax8 bx8 cx8 gu9 hi0 hk0
   refine U9 [] hi0 hk0 ?_
   obtain rfl:=sI hs0_
   refine And.intro rfl (Fit2.of (Z5 hU rfl rfl ?_) (by omega))
   exact Q2 hi0 hk0
  replace hs0_:=Zs c10 hs0_
  refine zXt ?_
  obtain rfl:=sI hs0_
  refine And.intro (fun h=>by cases h) (And.intro rfl (Fit2.of (Z5 hU rfl rfl ?_) (by omega)))
  exact Q2 hi0 hk0
 try simp only [Y1,Yc,↓reduceIte,Nat.reduceEqDiff]
 obtain rfl:=sI h
 refine Ja (k:=3) (i:=i0) (q1:=⟨false,73,4,1,[.row (n+2) z1.1.length,(vI z1.2.2.2),.row n z11.length,.row (n+1) z1.2.2.1.length]⟩) (L3:=[some (oR 25 3 Za z11),some (oR 25 3 Za z1.2.2.1),some (oR 46 14 Zd z1.1),none]) (E2:=(⟨32,[],[]⟩:Env)) (n3:=(n+4)) (.inl rfl) hU rfl [] ?_ ?_
 ·refine Fit2.trans (E':=(⟨32,[],[]⟩:Env)) (O':=(Zq ((((O.upd j0_0 none).upd j0_1 none).upd j0_2 none).upd i0 (some ⟨false,73,4,1,[.row (n+6) z1.1.length,(vI z1.2.2.2),.row (n+7) z11.length,.row (n+8) z1.2.2.1.length]⟩)) n [none,none,none,none,none,none,some (oR 46 14 Zd z1.1),some (oR 25 3 Za z11),some (oR 25 3 Za z1.2.2.1)])) (n':=(n+9)) (Fit2.of (Z5 hU rfl rfl ?_) (by omega)) ?_
  ·exact Q2 hi0 hk0
  refine X3 (k:=9) (k':=4) hU [3,3,3,3,3,3,2,0,1] [7,8,6,0] rfl rfl rfl rfl ⟨rfl,rfl⟩ ?_
  exact Q2 hi0 hk0
 simp only [push_cast,seval,Zi,Try.results50,hi0,hk0,hN0,hN]
theorem Zi6 {a0:Zv} {a2:(List Zb)} {r:Zv} {O:Objs} {n:Nat} {i0 j0_0 j0_1 j0_2:Nat} (hi0:i0 < n) (Un:j0_0 < n) (Zha:j0_1 < n) (Zjc:j0_2 < n) (Jr:i0≠j0_0) (U0:i0≠j0_1) (Za5:i0≠j0_2) (Uz:j0_0≠j0_1) (Za3:j0_0≠j0_2) (Za4:j0_1≠j0_2) (ho0:O i0=some ⟨false,73,4,1,[.row j0_2 a0.out.length,(vI a0.kept),.row j0_0 a0.gone.length,.row j0_1 a0.come.length]⟩) (U1:O j0_0=some (oR 25 3 Za a0.gone)) (Zib:O j0_1=some (oR 25 3 Za a0.come)) (Zkn:O j0_2=some (oR 46 14 Zd a0.out)) (h:Jt a0 a2=some r):GTo Try.prog 50 [.ref i0 0,.ref i0 3,(sL Za a2)] O n (.tup []) (Zq ((((O.upd j0_0 none).upd j0_1 none).upd j0_2 none).upd i0 (some ⟨false,73,4,1,[.row (n+2) r.out.length,(vI r.kept),.row n r.gone.length,.row (n+1) r.come.length]⟩)) n [some (oR 25 3 Za r.gone),some (oR 25 3 Za r.come),some (oR 46 14 Zd r.out)]) (n+3):=by
 unfold Jt at h
 refine Zi9 Z0 Try.call50 Try.func50 rfl (Nat.le_of_ble_eq_true rfl) (by omega) fun hU => ?_
 have e0:=Jv (ba:=n) (E:=⟨32,[],Ze6 0 [.ref i0 0,.ref i0 3,.sl a2.length (fl Za a2)]⟩) (O:=(Zq O n [])) (n:=n) (i:=i0) (j:=j0_0) (k:=2) (len:=a0.gone.length) (q:=⟨false,73,4,1,[.row j0_2 a0.out.length,.val (.int .i64 a0.kept),.row j0_0 a0.gone.length,.row j0_1 a0.come.length]⟩) (qj:=⟨true,25,3,a0.gone.length,fl Za a0.gone⟩) (by rw [Yf _ hi0];first | exact ho0 | exact Z8 _ _ _) rfl (by rw [Yf _ Un];exact U1) Jr (by omega)
 simp only [Yn _ _ Un,Yn _ _ hi0,Y4,Ym,Qh,Zax Jr,List.set_cons_zero,List.set_cons_succ,List.cons_append,List.nil_append,List.length_cons,List.length_nil,Nat.zero_add,Nat.reduceAdd,Nat.add_assoc] at e0
 refine Q6 e0 ?_
 have e1:=Jv (ba:=n) (E:=⟨32,[],Ze6 0 [.ref i0 0,.ref i0 3,.sl a2.length (fl Za a2)]⟩) (O:=(Zq ((O.upd j0_0 none).upd i0 (some ⟨false,73,4,1,[.row j0_2 a0.out.length,.val (.int .i64 a0.kept),.row n a0.gone.length,.row j0_1 a0.come.length]⟩)) n [some ⟨true,25,3,a0.gone.length,fl Za a0.gone⟩])) (n:=(n+1)) (i:=i0) (j:=j0_1) (k:=3) (len:=a0.come.length) (q:=⟨false,73,4,1,[.row j0_2 a0.out.length,.val (.int .i64 a0.kept),.row n a0.gone.length,.row j0_1 a0.come.length]⟩) (qj:=⟨true,25,3,a0.come.length,fl Za a0.come⟩) (by rw [Yf _ hi0];first | exact ho0 | exact Z8 _ _ _) rfl (by rw [Yf _ Zha,Yv _ _ (Ne.symm U0),Yv _ _ (Ne.symm Uz)];exact Zib) U0 (by omega)
 simp only [Yn _ _ Zha,Yn _ _ hi0,Y4,Ym,Qh,Zax U0,List.set_cons_zero,List.set_cons_succ,List.cons_append,List.nil_append,List.length_cons,List.length_nil,Nat.zero_add,Nat.reduceAdd,Nat.add_assoc] at e1
 refine Q6 e1 ?_
 have e2:=Jv (ba:=n) (E:=⟨32,[],Ze6 0 [.ref i0 0,.ref i0 3,.sl a2.length (fl Za a2)]⟩) (O:=(Zq (((O.upd j0_0 none).upd j0_1 none).upd i0 (some ⟨false,73,4,1,[.row j0_2 a0.out.length,.val (.int .i64 a0.kept),.row n a0.gone.length,.row (n+1) a0.come.length]⟩)) n [some ⟨true,25,3,a0.gone.length,fl Za a0.gone⟩,some ⟨true,25,3,a0.come.length,fl Za a0.come⟩])) (n:=(n+2)) (i:=i0) (j:=j0_2) (k:=0) (len:=a0.out.length) (q:=⟨false,73,4,1,[.row j0_2 a0.out.length,.val (.int .i64 a0.kept),.row n a0.gone.length,.row (n+1) a0.come.length]⟩) (qj:=⟨true,46,14,a0.out.length,fl Zd a0.out⟩) (by rw [Yf _ hi0];first | exact ho0 | exact Z8 _ _ _) rfl (by rw [Yf _ Zjc,Yv _ _ (Ne.symm Za5),Yv _ _ (Ne.symm Za4),Yv _ _ (Ne.symm Za3)];exact Zkn) Za5 (by omega)
 simp only [Yn _ _ Zjc,Yn _ _ hi0,Y4,Ym,Qh,Zax Za5,List.set_cons_zero,List.set_cons_succ,List.cons_append,List.nil_append,List.length_cons,List.length_nil,Nat.zero_add,Nat.reduceAdd,Nat.add_assoc] at e2
 refine Q6 e2 ?_
 have hU:=(Und.drop (Und.drop (Und.drop hU j0_0) j0_1) j0_2)
 have hk0:∀ k,i0 < n+k:=fun k=>by omega
 have hN0:∀ o,Objs.upd (((O.upd j0_0 none).upd j0_1 none).upd j0_2 none) i0 o n=none:=fun o=>X1 hU hi0 _ (Nat.le_refl _)
 have hN:∀ o k,Objs.upd (((O.upd j0_0 none).upd j0_1 none).upd j0_2 none) i0 o (n+k)=none:=fun o k=>X1 hU hi0 _ (Nat.le_add_right _ _)
 show W _ _ _ _ ⟨32,[],[(0,.ref i0 0),(1,.ref i0 3),(2,(sL Za a2))]⟩ (Zq ((((O.upd j0_0 none).upd j0_1 none).upd j0_2 none).upd i0 (some ⟨false,73,4,1,[.row (n+2) a0.out.length,(vI a0.kept),.row n a0.gone.length,.row (n+1) a0.come.length]⟩)) n [some (oR 25 3 Za a0.gone),some (oR 25 3 Za a0.come),some (oR 46 14 Zd a0.out)]) _
 obtain ⟨z1,hz1,h⟩:=bC h
 refine Xe (E':=⟨32,[],[(1,.ref i0 3),(2,(sL Za a2))]⟩) (O':=(Zq ((((O.upd j0_0 none).upd j0_1 none).upd j0_2 none).upd i0 (some ⟨false,73,4,1,[.row (n+6) z1.1.length,(vI z1.2.2.2),.row (n+7) z1.2.1.length,.row (n+8) z1.2.2.1.length]⟩)) n [none,none,none,none,none,none,some (oR 46 14 Zd z1.1),some (oR 25 3 Za z1.2.1),some (oR 25 3 Za z1.2.2.1)])) (n0:=(n+9)) ?_ ?_
 ·refine Zbd [0,1,2,12] hi0 hk0 ?_
  refine Zp (t:=(decide (0 < a0.kept))) rfl (fun c3 => ?_) (fun c3 => ?_)
  ·replace hz1:=Zt c3 hz1
   obtain ⟨y2,hy2,hz1⟩:=bC hz1
   refine U9 [] hi0 hk0 ?_
   refine (Vo (i0:=i0) (j0_0:=n) (j0_1:=(n+1)) (j0_2:=(n+2)) (by omega) (by omega) (by omega) (by omega) (by omega) (by omega) (by omega) (by omega) (by omega) (by omega) (by simp only [push_cast,seval,Zi,Yl,hi0,hk0,hN0,hN] <;> rfl) (by simp only [push_cast,seval,Zi,Yl,hi0,hk0,hN0,hN] <;> rfl) (by simp only [push_cast,seval,Zi,Yl,hi0,hk0,hN0,hN] <;> rfl) (by simp only [push_cast,seval,Zi,Yl,hi0,hk0,hN0,hN] <;> rfl) hy2).then ?_
   refine zX2 hi0 hk0 ?_
   obtain rfl:=sI hz1
   refine And.intro rfl ?_
   refine Fit2.trans (E':=(⟨32,[],[(1,.ref i0 3),(2,(sL Za a2))]⟩:Env)) (O':=(Zq ((((O.upd j0_0 none).upd j0_1 none).upd j0_2 none).upd i0 (some ⟨false,73,4,1,[.row (n+5) y2.out.length,(vI y2.kept),.row (n+3) y2.gone.length,.row (n+4) y2.come.length]⟩)) n [none,none,none,some (oR 25 3 Za y2.gone),some (oR 25 3 Za y2.come),some (oR 46 14 Zd y2.out)])) (n':=(n+6)) (Fit2.of (Z5 hU rfl rfl ?_) (by omega)) ?_
   ·exact Q2 hi0 hk0
   refine X3 (k:=6) (k':=9) hU [5,5,5,7,8,6] [0,0,0,0,0,0,5,3,4] rfl rfl rfl rfl ⟨rfl,rfl⟩ ?_
   exact Q2 hi0 hk0
  replace hz1:=Zs c3 hz1
  refine zK ?_
  obtain rfl:=sI hz1
  refine And.intro rfl ?_
  refine Fit2.trans (E':=(⟨32,[],[(1,.ref i0 3),(2,(sL Za a2))]⟩:Env)) (O':=(Zq ((((O.upd j0_0 none).upd j0_1 none).upd j0_2 none).upd i0 (some ⟨false,73,4,1,[.row (n+2) a0.out.length,(vI a0.kept),.row n a0.gone.length,.row (n+1) a0.come.length]⟩)) n [some (oR 25 3 Za a0.gone),some (oR 25 3 Za a0.come),some (oR 46 14 Zd a0.out)])) (n':=(n+3)) (Fit2.of (Z5 hU rfl rfl ?_) (by omega)) ?_
  ·exact Q2 hi0 hk0
  refine X3 (k:=3) (k':=9) hU [7,8,6] [0,0,0,0,0,0,2,0,1] rfl rfl rfl rfl ⟨rfl,rfl⟩ ?_
  exact Q2 hi0 hk0
 refine Zbd [1,15,16,17] hi0 hk0 ?_
 refine zD [1,15,16,17] [false,false,false,false,false,false,true,true,true] ?_
 obtain ⟨z11,hz11,h⟩:=bC h
 refine Yo (E':=⟨32,[],[]⟩) (O':=(Zq ((((O.upd j0_0 none).upd j0_1 none).upd j0_2 none).upd i0 (some ⟨false,73,4,1,[.row (n+6) z1.1.length,(vI z1.2.2.2),.row (n+7) z1.2.1.length,.row (n+8) z11.length]⟩)) n [none,none,none,none,none,none,some (oR 46 14 Zd z1.1),some (oR 25 3 Za z1.2.1),some (oR 25 3 Za z11)])) (n0:=(n+9)) ?_ ?_
 ·refine Y2 hz11 (fun s0_=>⟨32,[],[(1,.ref i0 3),(15,(sL Za a2)),(16,(vI (a2.length:Int))),(17,(vI s0_.1))]⟩) (fun s0_=>(Zq ((((O.upd j0_0 none).upd j0_1 none).upd j0_2 none).upd i0 (some ⟨false,73,4,1,[.row (n+6) z1.1.length,(vI z1.2.2.2),.row (n+7) z1.2.1.length,.row (n+8) s0_.2.length]⟩)) n [none,none,none,none,none,none,some (oR 46 14 Zd z1.1),some (oR 25 3 Za z1.2.1),some (oR 25 3 Za s0_.2)])) (fun z11=>JX 0 n (⟨32,[],[]⟩:Env) (Zq ((((O.upd j0_0 none).upd j0_1 none).upd j0_2 none).upd i0 (some ⟨false,73,4,1,[.row (n+6) z1.1.length,(vI z1.2.2.2),.row (n+7) z1.2.1.length,.row (n+8) z11.length]⟩)) n [none,none,none,none,none,none,some (oR 46 14 Zd z1.1),some (oR 25 3 Za z1.2.1),some (oR 25 3 Za z11)]) (n+9)) ?_
  intro s0_ x0_ hs0_
  unfold Qs at hs0_
  try dsimp only
  refine Zbd [1,15,16,17,18] hi0 hk0 ?_
  refine Zk ?_
  refine Zp (t:=(decide (s0_.1 < (a2.length:Int)))) rfl (fun c10 => ?_) (fun c10 => ?_)
  ·replace hs0_:=Zt c10 hs0_
   refine Ky [1,15,16,17] [false,false,false,false,false,false,true,true,true] ?_
   refine Zk ?_
   refine Yd ?_
   refine Zk ?_
   obtain ⟨x5,hx5,ax5,bx5,cx5,hs0_⟩:=bE (f:=Za) Ug (fun _=>rfl) (by decide) hs0_
   refine Z75 [] ax5 bx5 cx5 hi0 hk0 ?_
   refine zD [1,7,15,16,17] [false,false,false,false,false,false,true,true,true,true] ?_
   obtain ⟨y6,hy6,hs0_⟩:=bC hs0_
   obtain ⟨l7,pl7,ql7,el7,hs0_⟩:=bA (k:=1) rfl hs0_
   obtain ⟨x8,hx8,ax8,bx8,cx8,hs0_⟩:=bE (f:=Za) Ug (fun _=>rfl) (by decide) hs0_
   have gu9:Jq (fl Za s0_.2++[.val (.int .i64 0),.val (.slice none 0 0),.val (.slice none 0 0)]) [.val (.int .i64 y6.Kind),.sl y6.Words.length (fl (eI .u64) y6.Words),.sl y6.Kids.length (fl Za y6.Kids)] (List.length s0_.2 * 3)=some (fl Za s0_.2++[.val (.int .i64 y6.Kind),.sl y6.Words.length (fl (eI .u64) y6.Words),.sl y6.Kids.length (fl Za y6.Kids)]):=Zay (f:=Za) (sz:=3) (fun _=>rfl) rfl rfl
   refine Zae Z0 (by kernel_rfl) [.plain,.low,.low,.low,.low,.low,.pass,.bar,.shp,.fill true,.shp,.fill false] (fun i=>i < (n+10)) [0,1,2,3,4,5,6,7,8,9,10,11] [.plain,.low,.low,.low,.low,.low,.pass,.bar,.shp,.fill true,.shp,.fill false] [] (by kernel_rfl) rfl ?_
   refine zF9 pl7 ql7 el7 ax8 bx8 cx8 gu9 hi0 hk0 ?_
   refine zO ?_
   first | refine PCallA.of (fun _ _=>Za8 hy6) ?_ | refine PCall.of (Za8 hy6) ?_
   refine zF9 pl7 ql7 el7 ax8 bx8 cx8 gu9 hi0 hk0 ?_
   refine zO ?_
   refine Zdy ⟨32,[],[(1,.ref i0 3),(15,(sL Za a2)),(16,(vI (a2.length:Int))),(17,(vI s0_.1))]⟩ (Zq ((((O.upd j0_0 none).upd j0_1 none).upd j0_2 none).upd i0 (some ⟨false,73,4,1,[.row (n+6) z1.1.length,(vI z1.2.2.2),.row (n+7) z1.2.1.length,.row (n+8) (s0_.2++[y6]).length]⟩)) n [none,none,none,none,none,none,some (oR 46 14 Zd z1.1),some (oR 25 3 Za z1.2.1),some (oR 25 3 Za (s0_.2++[y6])),none,none]) (Z5 hU rfl rfl ?_) ?_
   ·exact Z34 pl7 ql7 el7 ax8 bx8 cx8 gu9 hi0 hk0
   refine U9 [] hi0 hk0 ?_
   obtain rfl:=sI hs0_
   refine And.intro rfl (Fit2.of (Z5 hU rfl rfl ?_) (by omega))
   exact Q2 hi0 hk0
  replace hs0_:=Zs c10 hs0_
  refine zXt ?_
  obtain rfl:=sI hs0_
  refine And.intro (fun h=>by cases h) (And.intro rfl (Fit2.of (Z5 hU rfl rfl ?_) (by omega)))
  exact Q2 hi0 hk0
 try simp only [Y1,Yc,↓reduceIte,Nat.reduceEqDiff]
 obtain rfl:=sI h
 refine Ja (k:=3) (i:=i0) (q1:=⟨false,73,4,1,[.row (n+2) z1.1.length,(vI z1.2.2.2),.row n z1.2.1.length,.row (n+1) z11.length]⟩) (L3:=[some (oR 25 3 Za z1.2.1),some (oR 25 3 Za z11),some (oR 46 14 Zd z1.1),none]) (E2:=(⟨32,[],[]⟩:Env)) (n3:=(n+4)) (.inl rfl) hU rfl [] ?_ ?_
 ·refine Fit2.trans (E':=(⟨32,[],[]⟩:Env)) (O':=(Zq ((((O.upd j0_0 none).upd j0_1 none).upd j0_2 none).upd i0 (some ⟨false,73,4,1,[.row (n+6) z1.1.length,(vI z1.2.2.2),.row (n+7) z1.2.1.length,.row (n+8) z11.length]⟩)) n [none,none,none,none,none,none,some (oR 46 14 Zd z1.1),some (oR 25 3 Za z1.2.1),some (oR 25 3 Za z11)])) (n':=(n+9)) (Fit2.of (Z5 hU rfl rfl ?_) (by omega)) ?_
  ·exact Q2 hi0 hk0
  refine X3 (k:=9) (k':=4) hU [3,3,3,3,3,3,2,0,1] [7,8,6,0] rfl rfl rfl rfl ⟨rfl,rfl⟩ ?_
  exact Q2 hi0 hk0
 simp only [push_cast,seval,Zi,Try.results50,hi0,hk0,hN0,hN]
theorem Zvg {a0:Int} {a1:Zc} {r:Bool} {O:Objs} {n:Nat} (h:Zel a0 a1=some r):GTo Try.prog 73 [(vI a0),.agg (Ze a1)] O n ((vB r)) O n:=by
 unfold Zel at h
 refine zFn Try.call73 Try.func73 fun hU hN0 hN => ?_
 show W _ _ _ _ ⟨27,[],[(0,(vI a0)),(1,.agg (Ze a1))]⟩ (Zq O n []) _
 refine zQ [0,3] ?_
 refine zQD [4] [none,none,none,none,none,none,none,none,none,none,none,none,none,none,none,none,none] ?_
 exact Y9 [(vB (cond (a1.Kind == 0) true (cond (cond (a0 == 9) (a1.Kind == 2) false) ((IntKind.i64.wrap ((a1.Words.length:Int)+(a1.Kids.length:Int))) == 0) false)))]
theorem Zjr {a0:Zv} {a1:Int} {a2:Zc} {r:Zv} {O:Objs} {n:Nat} {i0 j0_0 j0_1 j0_2:Nat} (hi0:i0 < n) (Un:j0_0 < n) (Zha:j0_1 < n) (Zjc:j0_2 < n) (Jr:i0≠j0_0) (U0:i0≠j0_1) (Za5:i0≠j0_2) (Uz:j0_0≠j0_1) (Za3:j0_0≠j0_2) (Za4:j0_1≠j0_2) (ho0:O i0=some ⟨false,73,4,1,[.row j0_2 a0.out.length,(vI a0.kept),.row j0_0 a0.gone.length,.row j0_1 a0.come.length]⟩) (U1:O j0_0=some (oR 25 3 Za a0.gone)) (Zib:O j0_1=some (oR 25 3 Za a0.come)) (Zkn:O j0_2=some (oR 46 14 Zd a0.out)) (h:J7 a0 a1 a2=some r):GTo Try.prog 51 [.ref i0 0,(vI a1),.agg (Ze a2)] O n (.tup []) (Zq ((((O.upd j0_0 none).upd j0_1 none).upd j0_2 none).upd i0 (some ⟨false,73,4,1,[.row (n+2) r.out.length,(vI r.kept),.row n r.gone.length,.row (n+1) r.come.length]⟩)) n [some (oR 25 3 Za r.gone),some (oR 25 3 Za r.come),some (oR 46 14 Zd r.out)]) (n+3):=by
 unfold J7 at h
 refine Zi9 Z0 Try.call51 Try.func51 rfl (Nat.le_of_ble_eq_true rfl) (by omega) fun hU => ?_
 have e0:=Jv (ba:=n) (E:=⟨25,[],Ze6 0 [.ref i0 0,.val (.int .i64 a1),.agg [.val (.int .i64 a2.Kind),.val (.int .i64 a2.Old.Kind),.sl a2.Old.Words.length (fl (eI .u64) a2.Old.Words),.sl a2.Old.Kids.length (fl Za a2.Old.Kids),.val (.int .i64 a2.New.Kind),.sl a2.New.Words.length (fl (eI .u64) a2.New.Words),.sl a2.New.Kids.length (fl Za a2.New.Kids),.sl a2.Words.length (fl Zf a2.Words),.sl a2.Kids.length (fl Zh a2.Kids),.val (.int .i64 a2.List_),.sl a2.Ops.length (fl Zd a2.Ops)]]⟩) (O:=(Zq O n [])) (n:=n) (i:=i0) (j:=j0_0) (k:=2) (len:=a0.gone.length) (q:=⟨false,73,4,1,[.row j0_2 a0.out.length,.val (.int .i64 a0.kept),.row j0_0 a0.gone.length,.row j0_1 a0.come.length]⟩) (qj:=⟨true,25,3,a0.gone.length,fl Za a0.gone⟩) (by rw [Yf _ hi0];first | exact ho0 | exact Z8 _ _ _) rfl (by rw [Yf _ Un];exact U1) Jr (by omega)
 simp only [Yn _ _ Un,Yn _ _ hi0,Y4,Ym,Qh,Zax Jr,List.set_cons_zero,List.set_cons_succ,List.cons_append,List.nil_append,List.length_cons,List.length_nil,Nat.zero_add,Nat.reduceAdd,Nat.add_assoc] at e0
 refine Q6 e0 ?_
 have e1:=Jv (ba:=n) (E:=⟨25,[],Ze6 0 [.ref i0 0,.val (.int .i64 a1),.agg [.val (.int .i64 a2.Kind),.val (.int .i64 a2.Old.Kind),.sl a2.Old.Words.length (fl (eI .u64) a2.Old.Words),.sl a2.Old.Kids.length (fl Za a2.Old.Kids),.val (.int .i64 a2.New.Kind),.sl a2.New.Words.length (fl (eI .u64) a2.New.Words),.sl a2.New.Kids.length (fl Za a2.New.Kids),.sl a2.Words.length (fl Zf a2.Words),.sl a2.Kids.length (fl Zh a2.Kids),.val (.int .i64 a2.List_),.sl a2.Ops.length (fl Zd a2.Ops)]]⟩) (O:=(Zq ((O.upd j0_0 none).upd i0 (some ⟨false,73,4,1,[.row j0_2 a0.out.length,.val (.int .i64 a0.kept),.row n a0.gone.length,.row j0_1 a0.come.length]⟩)) n [some ⟨true,25,3,a0.gone.length,fl Za a0.gone⟩])) (n:=(n+1)) (i:=i0) (j:=j0_1) (k:=3) (len:=a0.come.length) (q:=⟨false,73,4,1,[.row j0_2 a0.out.length,.val (.int .i64 a0.kept),.row n a0.gone.length,.row j0_1 a0.come.length]⟩) (qj:=⟨true,25,3,a0.come.length,fl Za a0.come⟩) (by rw [Yf _ hi0];first | exact ho0 | exact Z8 _ _ _) rfl (by rw [Yf _ Zha,Yv _ _ (Ne.symm U0),Yv _ _ (Ne.symm Uz)];exact Zib) U0 (by omega)
 simp only [Yn _ _ Zha,Yn _ _ hi0,Y4,Ym,Qh,Zax U0,List.set_cons_zero,List.set_cons_succ,List.cons_append,List.nil_append,List.length_cons,List.length_nil,Nat.zero_add,Nat.reduceAdd,Nat.add_assoc] at e1
 refine Q6 e1 ?_
 have e2:=Jv (ba:=n) (E:=⟨25,[],Ze6 0 [.ref i0 0,.val (.int .i64 a1),.agg [.val (.int .i64 a2.Kind),.val (.int .i64 a2.Old.Kind),.sl a2.Old.Words.length (fl (eI .u64) a2.Old.Words),.sl a2.Old.Kids.length (fl Za a2.Old.Kids),.val (.int .i64 a2.New.Kind),.sl a2.New.Words.length (fl (eI .u64) a2.New.Words),.sl a2.New.Kids.length (fl Za a2.New.Kids),.sl a2.Words.length (fl Zf a2.Words),.sl a2.Kids.length (fl Zh a2.Kids),.val (.int .i64 a2.List_),.sl a2.Ops.length (fl Zd a2.Ops)]]⟩) (O:=(Zq (((O.upd j0_0 none).upd j0_1 none).upd i0 (some ⟨false,73,4,1,[.row j0_2 a0.out.length,.val (.int .i64 a0.kept),.row n a0.gone.length,.row (n+1) a0.come.length]⟩)) n [some ⟨true,25,3,a0.gone.length,fl Za a0.gone⟩,some ⟨true,25,3,a0.come.length,fl Za a0.come⟩])) (n:=(n+2)) (i:=i0) (j:=j0_2) (k:=0) (len:=a0.out.length) (q:=⟨false,73,4,1,[.row j0_2 a0.out.length,.val (.int .i64 a0.kept),.row n a0.gone.length,.row (n+1) a0.come.length]⟩) (qj:=⟨true,46,14,a0.out.length,fl Zd a0.out⟩) (by rw [Yf _ hi0];first | exact ho0 | exact Z8 _ _ _) rfl (by rw [Yf _ Zjc,Yv _ _ (Ne.symm Za5),Yv _ _ (Ne.symm Za4),Yv _ _ (Ne.symm Za3)];exact Zkn) Za5 (by omega)
 simp only [Yn _ _ Zjc,Yn _ _ hi0,Y4,Ym,Qh,Zax Za5,List.set_cons_zero,List.set_cons_succ,List.cons_append,List.nil_append,List.length_cons,List.length_nil,Nat.zero_add,Nat.reduceAdd,Nat.add_assoc] at e2
 refine Q6 e2 ?_
 have hU:=(Und.drop (Und.drop (Und.drop hU j0_0) j0_1) j0_2)
 have hk0:∀ k,i0 < n+k:=fun k=>by omega
 have hN0:∀ o,Objs.upd (((O.upd j0_0 none).upd j0_1 none).upd j0_2 none) i0 o n=none:=fun o=>X1 hU hi0 _ (Nat.le_refl _)
 have hN:∀ o k,Objs.upd (((O.upd j0_0 none).upd j0_1 none).upd j0_2 none) i0 o (n+k)=none:=fun o k=>X1 hU hi0 _ (Nat.le_add_right _ _)
 show W _ _ _ _ ⟨25,[],[(0,.ref i0 0),(1,(vI a1)),(2,.agg (Ze a2))]⟩ (Zq ((((O.upd j0_0 none).upd j0_1 none).upd j0_2 none).upd i0 (some ⟨false,73,4,1,[.row (n+2) a0.out.length,(vI a0.kept),.row n a0.gone.length,.row (n+1) a0.come.length]⟩)) n [some (oR 25 3 Za a0.gone),some (oR 25 3 Za a0.come),some (oR 46 14 Zd a0.out)]) _
 refine Zbd [0,1,5] hi0 hk0 ?_
 refine Zk ?_
 refine Zk ?_
 obtain ⟨y2,hy2,h⟩:=bC h
 refine U9 [] hi0 hk0 ?_
 refine (Zvg hy2).then ?_
 refine zX2 hi0 hk0 ?_
 refine zD [0,5,8] [true,true,true,true] ?_
 refine Zp (t:=y2) rfl (fun c10 => ?_) (fun c10 => ?_)
 ·replace h:=Zt c10 h
  refine Zk ?_
  obtain ⟨y4,hy4,h⟩:=bC h
  refine U9 [] hi0 hk0 ?_
  refine (Zf6 (i0:=i0) (j0_0:=n) (j0_1:=(n+1)) (j0_2:=(n+2)) (by omega) (by omega) (by omega) (by omega) (by omega) (by omega) (by omega) (by omega) (by omega) (by omega) (by simp only [push_cast,seval,Zi,Yl,hi0,hk0,hN0,hN] <;> rfl) (by simp only [push_cast,seval,Zi,Yl,hi0,hk0,hN0,hN] <;> rfl) (by simp only [push_cast,seval,Zi,Yl,hi0,hk0,hN0,hN] <;> rfl) (by simp only [push_cast,seval,Zi,Yl,hi0,hk0,hN0,hN] <;> rfl) hy4).then ?_
  refine zX2 hi0 hk0 ?_
  refine zD [] [false,false,false,false,true,true,true] ?_
  refine zW ?_
  obtain rfl:=sI h
  refine Ja (k:=3) (i:=i0) (q1:=⟨false,73,4,1,[.row (n+2) y4.out.length,(vI y4.kept),.row n y4.gone.length,.row (n+1) y4.come.length]⟩) (L3:=[some (oR 25 3 Za y4.gone),some (oR 25 3 Za y4.come),some (oR 46 14 Zd y4.out),none]) (E2:=(⟨25,[],[]⟩:Env)) (n3:=(n+4)) (.inr rfl) hU rfl [] ?_ ?_
  ·refine Fit2.trans (E':=(⟨25,[],[]⟩:Env)) (O':=(Zq ((((O.upd j0_0 none).upd j0_1 none).upd j0_2 none).upd i0 (some ⟨false,73,4,1,[.row (n+6) y4.out.length,(vI y4.kept),.row (n+4) y4.gone.length,.row (n+5) y4.come.length]⟩)) n [none,none,none,none,some (oR 25 3 Za y4.gone),some (oR 25 3 Za y4.come),some (oR 46 14 Zd y4.out)])) (n':=(n+7)) (Fit2.of (Z5 hU rfl rfl ?_) (by omega)) ?_
   ·exact Q2 hi0 hk0
   refine X3 (k:=7) (k':=4) hU [3,3,3,3,0,1,2] [4,5,6,0] rfl rfl rfl rfl ⟨rfl,rfl⟩ ?_
   exact Q2 hi0 hk0
  simp only [push_cast,seval,Zi,Try.results51,hi0,hk0,hN0,hN]
 replace h:=Zs c10 h
 refine Ky [0,5] [true,true,true,true] ?_
 refine Zk ?_
 obtain ⟨y6,hy6,h⟩:=bC h
 refine U9 [] hi0 hk0 ?_
 refine (Vo (i0:=i0) (j0_0:=n) (j0_1:=(n+1)) (j0_2:=(n+2)) (by omega) (by omega) (by omega) (by omega) (by omega) (by omega) (by omega) (by omega) (by omega) (by omega) (by simp only [push_cast,seval,Zi,Yl,hi0,hk0,hN0,hN] <;> rfl) (by simp only [push_cast,seval,Zi,Yl,hi0,hk0,hN0,hN] <;> rfl) (by simp only [push_cast,seval,Zi,Yl,hi0,hk0,hN0,hN] <;> rfl) (by simp only [push_cast,seval,Zi,Yl,hi0,hk0,hN0,hN] <;> rfl) hy6).then ?_
 refine zX2 hi0 hk0 ?_
 refine zD [0,5] [false,false,false,true,true,true,true] ?_
 obtain ⟨l7,pl7,ql7,el7,h⟩:=bA (k:=1) rfl h
 obtain ⟨x8,hx8,ax8,bx8,cx8,h⟩:=bE (f:=Zd) Zbm (fun _=>rfl) (by decide) h
 have gu9:Jq (fl Zd y6.out++[.val (.int .i64 0),.val (.int .i64 0),.val (.slice none 0 0),.val (.int .i64 0),.val (.int .i64 0),.val (.slice none 0 0),.val (.slice none 0 0),.val (.int .i64 0),.val (.slice none 0 0),.val (.slice none 0 0),.val (.slice none 0 0),.val (.slice none 0 0),.val (.int .i64 0),.val (.slice none 0 0)]) [.val (.int .i64 3),.val (.int .i64 0),.val (.slice none 0 0),.val (.int .i64 a2.Kind),.val (.int .i64 a2.Old.Kind),.sl a2.Old.Words.length (fl (eI .u64) a2.Old.Words),.sl a2.Old.Kids.length (fl Za a2.Old.Kids),.val (.int .i64 a2.New.Kind),.sl a2.New.Words.length (fl (eI .u64) a2.New.Words),.sl a2.New.Kids.length (fl Za a2.New.Kids),.sl a2.Words.length (fl Zf a2.Words),.sl a2.Kids.length (fl Zh a2.Kids),.val (.int .i64 a2.List_),.sl a2.Ops.length (fl Zd a2.Ops)] (List.length y6.out * 14)=some (fl Zd y6.out++[.val (.int .i64 3),.val (.int .i64 0),.val (.slice none 0 0),.val (.int .i64 a2.Kind),.val (.int .i64 a2.Old.Kind),.sl a2.Old.Words.length (fl (eI .u64) a2.Old.Words),.sl a2.Old.Kids.length (fl Za a2.Old.Kids),.val (.int .i64 a2.New.Kind),.sl a2.New.Words.length (fl (eI .u64) a2.New.Words),.sl a2.New.Kids.length (fl Za a2.New.Kids),.sl a2.Words.length (fl Zf a2.Words),.sl a2.Kids.length (fl Zh a2.Kids),.val (.int .i64 a2.List_),.sl a2.Ops.length (fl Zd a2.Ops)]):=Zay (f:=Zd) (sz:=14) (fun _=>rfl) rfl rfl
 refine Zae Z0 (by kernel_rfl) [.plain,.low,.low,.low,.low,.plain,.low,.pass,.bar,.shp,.fill true,.shp,.shp,.fill false] (fun i=>i < (n+7)) [0,1,2,3,4,5,6,7,8,9,10,11,12,13] [.plain,.low,.low,.low,.low,.plain,.low,.pass,.bar,.shp,.fill true,.shp,.shp,.fill false] [] (by kernel_rfl) rfl ?_
 refine zF9 pl7 ql7 el7 ax8 bx8 cx8 gu9 hi0 hk0 ?_
 refine zO ?_
 obtain rfl:=sI h
 refine Ja (k:=3) (i:=i0) (q1:=⟨false,73,4,1,[.row (n+2) (y6.out++[(⟨3,0,([]:(List Zb)),a2⟩:Zl)]).length,(vI y6.kept),.row n y6.gone.length,.row (n+1) y6.come.length]⟩) (L3:=[some (oR 25 3 Za y6.gone),some (oR 25 3 Za y6.come),some (oR 46 14 Zd (y6.out++[(⟨3,0,([]:(List Zb)),a2⟩:Zl)])),none]) (E2:=(⟨25,[],[]⟩:Env)) (n3:=(n+4)) (.inl rfl) hU rfl [] ?_ ?_
 ·refine Fit2.trans (E':=(⟨25,[],[]⟩:Env)) (O':=(Zq ((((O.upd j0_0 none).upd j0_1 none).upd j0_2 none).upd i0 (some ⟨false,73,4,1,[.row (n+6) (y6.out++[(⟨3,0,([]:(List Zb)),a2⟩:Zl)]).length,(vI y6.kept),.row (n+4) y6.gone.length,.row (n+5) y6.come.length]⟩)) n [none,none,none,none,some (oR 25 3 Za y6.gone),some (oR 25 3 Za y6.come),some (oR 46 14 Zd (y6.out++[(⟨3,0,([]:(List Zb)),a2⟩:Zl)])),none])) (n':=(n+8)) (Fit2.of (Z5 hU rfl rfl ?_) (by omega)) ?_
  ·exact Z34 pl7 ql7 el7 ax8 bx8 cx8 gu9 hi0 hk0
  refine X3 (k:=8) (k':=4) hU [3,3,3,3,0,1,2,3] [4,5,6,0] rfl rfl rfl rfl ⟨rfl,rfl⟩ ?_
  exact Q2 hi0 hk0
 simp only [push_cast,seval,Zi,Try.results51,hi0,hk0,hN0,hN]
def Zgi (Xz:(Zc→Option Zc)):Prop:=∀ {a0:Zc} {r:Zc} {O:Objs} {n:Nat},Xz a0=some r→GTo Try.prog 20 [.agg (Ze a0)] O n (.agg (Ze r)) O n
def Zhr (Ve:(Int→(List Zl)→Option (List Zl))):Prop:=∀ {a0:Int} {a1:(List Zl)} {r:(List Zl)} {O:Objs} {n:Nat},Ve a0 a1=some r→GTo Try.prog 36 [(vI a0),(sL Zd a1)] O n ((sL Zd r)) O n
theorem Zta {Xz:(Zc→Option Zc)} {Ve:(Int→(List Zl)→Option (List Zl))} (Zdu:Zgi Xz) (Zlb:Zhr Ve) {a0:Zc} {r:Zc} {O:Objs} {n:Nat} (h:Zeh Xz Ve a0=some r):GTo Try.prog 20 [.agg (Ze a0)] O n (.agg (Ze r)) O n:=by
 unfold Zeh at h
 refine zFn Try.call20 Try.func20 fun hU hN0 hN => ?_
 show W _ _ _ _ ⟨54,[],[(0,.agg (Ze a0))]⟩ (Zq O n []) _
 refine zQ [1,2] ?_
 refine Zk ?_
 refine zQ [1,2,7] ?_
 refine Yd ?_
 refine zQ [1,2,7,8] ?_
 refine Zp (t:=(a0.Kind == 1)) rfl (fun c17 => ?_) (fun c17 => ?_)
 ·replace h:=Zt c17 h
  refine Zk ?_
  obtain ⟨y3,hy3,h⟩:=bC h
  obtain ⟨y4,hy4,h⟩:=bC h
  refine Zg1 Z0 (by kernel_rfl) [false,false,false,false,false,false,false,true] [] (by kernel_rfl) ?_
  refine zS ?_
  refine PCall.of (Za8 hy3) ?_
  refine zS ?_
  refine PCall.of (Za8 hy4) ?_
  refine zS ?_
  refine zD [2] [false,true] ?_
  exact Y9 [.agg [(vI 1),(vI y3.Kind),(sL (eI .u64) y3.Words),(sL Za y3.Kids),(vI y4.Kind),(sL (eI .u64) y4.Words),(sL Za y4.Kids),nV,nV,(vI 0),nV]]
 replace h:=Zs c17 h
 refine zQ [1,2,7,17] ?_
 refine Zp (t:=(a0.Kind == 2)) rfl (fun c16 => ?_) (fun c16 => ?_)
 ·replace h:=Zt c16 h
  refine Zk ?_
  obtain ⟨y6,hy6,h⟩:=bC h
  refine zR ?_
  refine (Zbk  hy6).then ?_
  refine zS ?_
  refine zDs [1,2,3] [true,true,true,true] ?_
  refine zQd [2,3,24,25,26] [2,3,24,25,26] [false,true,true,true] ?_
  refine Q6 (E':=(⟨54,[],[(2,.ref (n+1) 0),(3,.ref (n+3) 0),(24,(sL Zh a0.Kids)),(25,(vI (a0.Kids.length:Int))),(26,(vI 0))]⟩:Env)) (O':=(Zq O n [none,some ⟨false,30,11,1,[(vI 0),(vI 0),nV,nV,(vI 0),nV,nV,nV,nV,(vI 0),nV]⟩,some (oR 57 4 Zf y6),some ⟨false,30,11,1,[(vI 2),(vI 0),nV,nV,(vI 0),nV,nV,.row (n+2) y6.length,.row (n+4) ([]:List Zm).length,(vI 0),nV]⟩,some (oR 44 12 Zh ([]:List Zm)),none])) (n':=(n+6)) ?_ ?_
  ·refine Fit2.trans (E':=(⟨54,[],[(2,.ref (n+1) 0),(3,.ref (n+3) 0),(24,(sL Zh a0.Kids)),(25,(vI (a0.Kids.length:Int))),(26,(vI 0))]⟩:Env)) (O':=(Zq O n [none,some ⟨false,30,11,1,[(vI 0),(vI 0),nV,nV,(vI 0),nV,nV,nV,nV,(vI 0),nV]⟩,some (oR 57 4 Zf y6),some ⟨false,30,11,1,[(vI 2),(vI 0),nV,nV,(vI 0),nV,nV,.row (n+2) y6.length,nV,(vI 0),nV]⟩])) (n':=(n+4)) (Fit2.of (Z9 hU rfl rfl ?_) (by omega)) ?_
   ·exact zSe
   refine Fit2.trans (G7 (p:=(n+3)) (k:=8) (q:=⟨false,30,11,1,[(vI 2),(vI 0),nV,nV,(vI 0),nV,nV,.row (n+2) y6.length,nV,(vI 0),nV]⟩) 44 12 (by simp only [Ge,Zdn,List.getElem?_cons_zero,List.getElem?_cons_succ,Option.join_some,List.length_nil,Z8]) rfl (by omega)) ?_
   simp only [Y4,Ym,Gm,V8,List.set_cons_zero,List.set_cons_succ,List.cons_append,List.nil_append,List.length_cons,List.length_nil,Nat.zero_add,Nat.reduceAdd,Nat.reduceLT,Nat.add_assoc]
   refine X0 (k:=5) (k':=6) hU [5,1,2,3,4] [0,1,2,3,4,0] rfl rfl rfl rfl ⟨rfl,rfl⟩ ?_
   exact zSe
  obtain ⟨z12,hz12,h⟩:=bC h
  refine Yo (E':=⟨54,[],[(2,.ref (n+1) 0),(3,.ref (n+3) 0)]⟩) (O':=(Zq O n [none,some ⟨false,30,11,1,[(vI 0),(vI 0),nV,nV,(vI 0),nV,nV,nV,nV,(vI 0),nV]⟩,some (oR 57 4 Zf y6),some ⟨false,30,11,1,[(vI 2),(vI 0),nV,nV,(vI 0),nV,nV,.row (n+2) y6.length,.row (n+4) z12.length,(vI 0),nV]⟩,some (oR 44 12 Zh z12),none])) (n0:=(n+6)) ?_ ?_
  ·refine Y2 hz12 (fun s0_=>⟨54,[],[(2,.ref (n+1) 0),(3,.ref (n+3) 0),(24,(sL Zh a0.Kids)),(25,(vI (a0.Kids.length:Int))),(26,(vI s0_.1))]⟩) (fun s0_=>(Zq O n [none,some ⟨false,30,11,1,[(vI 0),(vI 0),nV,nV,(vI 0),nV,nV,nV,nV,(vI 0),nV]⟩,some (oR 57 4 Zf y6),some ⟨false,30,11,1,[(vI 2),(vI 0),nV,nV,(vI 0),nV,nV,.row (n+2) y6.length,.row (n+4) s0_.2.length,(vI 0),nV]⟩,some (oR 44 12 Zh s0_.2),none])) (fun z12=>JX 1 n (⟨54,[],[(2,.ref (n+1) 0),(3,.ref (n+3) 0)]⟩:Env) (Zq O n [none,some ⟨false,30,11,1,[(vI 0),(vI 0),nV,nV,(vI 0),nV,nV,nV,nV,(vI 0),nV]⟩,some (oR 57 4 Zf y6),some ⟨false,30,11,1,[(vI 2),(vI 0),nV,nV,(vI 0),nV,nV,.row (n+2) y6.length,.row (n+4) z12.length,(vI 0),nV]⟩,some (oR 44 12 Zh z12),none]) (n+6)) ?_
   intro s0_ x0_ hs0_
   unfold Zaj at hs0_
   try dsimp only
   refine zQ [2,3,24,25,26,27] ?_
   refine Zk ?_
   refine Zp (t:=(decide (s0_.1 < (a0.Kids.length:Int)))) rfl (fun c11 => ?_) (fun c11 => ?_)
   ·replace hs0_:=Zt c11 hs0_
    refine Ky [2,3,24,25,26] [false,true,true,true,true,false] ?_
    refine Zk ?_
    refine Yd ?_
    refine Zk ?_
    obtain ⟨x8,hx8,ax8,bx8,cx8,hs0_⟩:=bE (f:=Zh) Znt (fun _=>rfl) (by decide) hs0_
    refine Zcg [] ax8 bx8 cx8 ?_
    refine zD [2,3,5,24,25,26] [false,true,true,true,true,false,true] ?_
    obtain ⟨y9,hy9,hs0_⟩:=bC hs0_
    obtain ⟨l10,pl10,ql10,el10,hs0_⟩:=bA (k:=1) rfl hs0_
    refine Zae Z0 (by kernel_rfl) [.low,.low,.plain,.plain,.plain,.plain,.plain,.plain,.pass,.bar,.plain,.bar] (fun i=>i < (n+7)) [0,1,2,3,4,5,6,7,8,9,10,11] [.low,.low,.plain,.plain,.plain,.plain,.plain,.plain,.pass,.bar,.plain,.bar] [] (by kernel_rfl) rfl ?_
    refine zX3 pl10 ql10 el10 ?_
    refine zO ?_
    first | refine PCallA.of (fun _ _=>Zdu hy9) ?_ | refine PCall.of (Zdu hy9) ?_
    refine zX3 pl10 ql10 el10 ?_
    refine zO ?_
    refine Zdy ⟨54,[],[(2,.ref (n+1) 0),(3,.ref (n+3) 0),(24,(sL Zh a0.Kids)),(25,(vI (a0.Kids.length:Int))),(26,(vI s0_.1))]⟩ (Zq O n [none,some ⟨false,30,11,1,[(vI 0),(vI 0),nV,nV,(vI 0),nV,nV,nV,nV,(vI 0),nV]⟩,some (oR 57 4 Zf y6),some ⟨false,30,11,1,[(vI 2),(vI 0),nV,nV,(vI 0),nV,nV,.row (n+2) y6.length,.row (n+4) l10.length,(vI 0),nV]⟩,some (oR 44 12 Zh l10),none,none,none]) (Z9 hU rfl rfl ?_) ?_
    ·exact Zxh pl10 ql10 el10
    refine zR ?_
    exact zEn hs0_
   replace hs0_:=Zs c11 hs0_
   exact zEx hs0_
  try simp only [Y1,Yc,↓reduceIte,Nat.reduceEqDiff]
  refine zDs [2,3] [false,true,true,true,true,false] ?_
  refine zRd [2] [false,true,true,false,true,false] ?_
  exact Y9 [.agg [(vI 2),(vI 0),nV,nV,(vI 0),nV,nV,.row (n+2) y6.length,.row (n+4) z12.length,(vI 0),nV]]
 replace h:=Zs c16 h
 refine zQ [1,2,43] ?_
 refine Zp (t:=(a0.Kind == 3)) rfl (fun c15 => ?_) (fun c15 => ?_)
 ·replace h:=Zt c15 h
  refine Zk ?_
  obtain ⟨y14,hy14,h⟩:=bC h
  refine Zg1 Z0 (by kernel_rfl) [false,false,false,false,false,false,false,false,true] [] (by kernel_rfl) ?_
  refine zS ?_
  refine PCall.of (Zlb hy14) ?_
  refine zS ?_
  refine zD [2] [false,true] ?_
  exact Y9 [.agg [(vI 3),(vI 0),nV,nV,(vI 0),nV,nV,nV,nV,(vI a0.List_),(sL Zd y14)]]
 replace h:=Zs c15 h
 refine Ky [2] [false,true] ?_
 refine Zk ?_
 refine zRd [2] [false,true] ?_
 exact Y9 [.agg [(vI 0),(vI 0),nV,nV,(vI 0),nV,nV,nV,nV,(vI 0),nV]]
theorem Zvl {Xz:(Zc→Option Zc)} {Ve:(Int→(List Zl)→Option (List Zl))} (Zdu:Zgi Xz) (Zlb:Zhr Ve) {a0:Int} {a1:(List Zl)} {r:(List Zl)} {O:Objs} {n:Nat} (h:Zdp Xz Ve a0 a1=some r):GTo Try.prog 36 [(vI a0),(sL Zd a1)] O n ((sL Zd r)) O n:=by
 unfold Zdp at h
 refine zFn Try.call36 Try.func36 fun hU hN0 hN => ?_
 show W _ _ _ _ ⟨44,[],[(0,(vI a0)),(1,(sL Zd a1))]⟩ (Zq O n []) _
 refine zQ [0,1] ?_
 refine zQ [0,1,5] ?_
 refine Zk ?_
 refine zQd [0,5,8,9,10] [0,5,8,9,10] [true] ?_
 refine Q6 (E':=(⟨44,[],[(0,(vI a0)),(5,.ref n 0),(8,(sL Zd a1)),(9,(vI (a1.length:Int))),(10,(vI 0))]⟩:Env)) (O':=(Zq O n [some ⟨false,73,4,1,[.row (n+1) ([]:List Zl).length,(vI 0),.row (n+2) ([]:List Zb).length,.row (n+3) ([]:List Zb).length]⟩,some (oR 46 14 Zd ([]:List Zl)),some (oR 25 3 Za ([]:List Zb)),some (oR 25 3 Za ([]:List Zb)),none])) (n':=(n+5)) ?_ ?_
 ·refine Fit2.trans (E':=(⟨44,[],[(0,(vI a0)),(5,.ref n 0),(8,(sL Zd a1)),(9,(vI (a1.length:Int))),(10,(vI 0))]⟩:Env)) (O':=(Zq O n [some ⟨false,73,4,1,[nV,(vI 0),nV,nV]⟩])) (n':=(n+1)) (Fit2.of (Z9 hU rfl rfl ?_) (by omega)) ?_
  ·exact zSe
  refine Fit2.trans (G7 (p:=n) (k:=0) (q:=⟨false,73,4,1,[nV,(vI 0),nV,nV]⟩) 46 14 (by simp only [Ge,Zdn,List.getElem?_cons_zero,List.getElem?_cons_succ,Option.join_some,List.length_nil,Z8]) rfl (by omega)) ?_
  simp only [Y4,Ym,Gm,V8,List.set_cons_zero,List.set_cons_succ,List.cons_append,List.nil_append,List.length_cons,List.length_nil,Nat.zero_add,Nat.reduceAdd,Nat.reduceLT,Nat.add_assoc]
  refine Fit2.trans (G7 (p:=n) (k:=2) (q:=⟨false,73,4,1,[.row (n+1) ([]:List Zl).length,(vI 0),nV,nV]⟩) 25 3 (by simp only [Ge,Zdn,List.getElem?_cons_zero,List.getElem?_cons_succ,Option.join_some,List.length_nil,Z8]) rfl (by omega)) ?_
  simp only [Y4,Ym,Gm,V8,List.set_cons_zero,List.set_cons_succ,List.cons_append,List.nil_append,List.length_cons,List.length_nil,Nat.zero_add,Nat.reduceAdd,Nat.reduceLT,Nat.add_assoc]
  refine Fit2.trans (G7 (p:=n) (k:=3) (q:=⟨false,73,4,1,[.row (n+1) ([]:List Zl).length,(vI 0),.row (n+2) ([]:List Zb).length,nV]⟩) 25 3 (by simp only [Ge,Zdn,List.getElem?_cons_zero,List.getElem?_cons_succ,Option.join_some,List.length_nil,Z8]) rfl (by omega)) ?_
  simp only [Y4,Ym,Gm,V8,List.set_cons_zero,List.set_cons_succ,List.cons_append,List.nil_append,List.length_cons,List.length_nil,Nat.zero_add,Nat.reduceAdd,Nat.reduceLT,Nat.add_assoc]
  refine X0 (k:=4) (k':=5) hU [0,1,2,3] [0,1,2,3,0] rfl rfl rfl rfl ⟨rfl,rfl⟩ ?_
  exact zSe
 obtain ⟨z14,hz14,h⟩:=bC h
 refine Yo (E':=⟨44,[],[(5,.ref n 0)]⟩) (O':=(Zq O n [some ⟨false,73,4,1,[.row (n+1) z14.2.1.length,(vI z14.1),.row (n+2) z14.2.2.1.length,.row (n+3) z14.2.2.2.length]⟩,some (oR 46 14 Zd z14.2.1),some (oR 25 3 Za z14.2.2.1),some (oR 25 3 Za z14.2.2.2),none])) (n0:=(n+5)) ?_ ?_
 ·refine Y2 hz14 (fun s0_=>⟨44,[],[(0,(vI a0)),(5,.ref n 0),(8,(sL Zd a1)),(9,(vI (a1.length:Int))),(10,(vI s0_.1))]⟩) (fun s0_=>(Zq O n [some ⟨false,73,4,1,[.row (n+1) s0_.2.2.1.length,(vI s0_.2.1),.row (n+2) s0_.2.2.2.1.length,.row (n+3) s0_.2.2.2.2.length]⟩,some (oR 46 14 Zd s0_.2.2.1),some (oR 25 3 Za s0_.2.2.2.1),some (oR 25 3 Za s0_.2.2.2.2),none])) (fun z14=>JX 0 n (⟨44,[],[(5,.ref n 0)]⟩:Env) (Zq O n [some ⟨false,73,4,1,[.row (n+1) z14.2.1.length,(vI z14.1),.row (n+2) z14.2.2.1.length,.row (n+3) z14.2.2.2.length]⟩,some (oR 46 14 Zd z14.2.1),some (oR 25 3 Za z14.2.2.1),some (oR 25 3 Za z14.2.2.2),none]) (n+5)) ?_
  intro s0_ x0_ hs0_
  unfold V3 at hs0_
  try dsimp only
  refine zQ [0,5,8,9,10,11] ?_
  refine Zk ?_
  refine Zp (t:=(decide (s0_.1 < (a1.length:Int)))) rfl (fun c13 => ?_) (fun c13 => ?_)
  ·replace hs0_:=Zt c13 hs0_
   refine Ky [0,5,8,9,10] [true,true,true,true,false] ?_
   obtain ⟨z1,hz1,hs0_⟩:=bC hs0_
   refine Xe (E':=⟨44,[],[(0,(vI a0)),(5,.ref n 0),(8,(sL Zd a1)),(9,(vI (a1.length:Int))),(10,(vI s0_.1))]⟩) (O':=(Zq O n [some ⟨false,73,4,1,[.row (n+9) z1.2.1.length,(vI z1.1),.row (n+10) z1.2.2.1.length,.row (n+11) z1.2.2.2.length]⟩,none,none,none,none,none,none,none,none,some (oR 46 14 Zd z1.2.1),some (oR 25 3 Za z1.2.2.1),some (oR 25 3 Za z1.2.2.2),none])) (n0:=(n+13)) ?_ ?_
   ·refine Yd ?_
    refine Zk ?_
    obtain ⟨x3,hx3,ax3,bx3,cx3,hz1⟩:=bE (f:=Zd) Zbm (fun _=>rfl) (by decide) hz1
    refine Zcg [] ax3 bx3 cx3 ?_
    refine zD [0,5,7,8,9,10] [true,true,true,true,false,true] ?_
    refine zQ [0,5,7,8,9,10,15] ?_
    refine Yd ?_
    refine zQ [0,5,7,8,9,10,15,16] ?_
    refine Zp (t:=(x3.Kind == 0)) rfl (fun c12 => ?_) (fun c12 => ?_)
    ·replace hz1:=Zt c12 hz1
     obtain ⟨y4,hy4,hz1⟩:=bC hz1
     refine zR ?_
     refine (Zf6 (i0:=n) (j0_0:=(n+2)) (j0_1:=(n+3)) (j0_2:=(n+1)) (by omega) (by omega) (by omega) (by omega) (by omega) (by omega) (by omega) (by omega) (by omega) (by omega) (by simp only [push_cast,seval,Zi,Yl,hN0,hN] <;> rfl) (by simp only [push_cast,seval,Zi,Yl,hN0,hN] <;> rfl) (by simp only [push_cast,seval,Zi,Yl,hN0,hN] <;> rfl) (by simp only [push_cast,seval,Zi,Yl,hN0,hN] <;> rfl) hy4).then ?_
     refine zS ?_
     obtain rfl:=sI hz1
     refine And.intro rfl ?_
     refine Fit2.trans (E':=(⟨44,[],[(0,(vI a0)),(5,.ref n 0),(8,(sL Zd a1)),(9,(vI (a1.length:Int))),(10,(vI s0_.1))]⟩:Env)) (O':=(Zq O n [some ⟨false,73,4,1,[.row (n+8) y4.out.length,(vI y4.kept),.row (n+6) y4.gone.length,.row (n+7) y4.come.length]⟩,none,none,none,none,none,some (oR 25 3 Za y4.gone),some (oR 25 3 Za y4.come),some (oR 46 14 Zd y4.out)])) (n':=(n+9)) (Fit2.of (Z9 hU rfl rfl ?_) (by omega)) ?_
     ·exact zSe
     refine X0 (k:=9) (k':=13) hU [0,12,12,12,12,12,10,11,9] [0,0,0,0,0,0,0,0,0,8,6,7,0] rfl rfl rfl rfl ⟨rfl,rfl⟩ ?_
     exact zSe
    replace hz1:=Zs c12 hz1
    refine zQ [0,5,7,8,9,10,15,21] ?_
    refine Zp (t:=(x3.Kind == 1)) rfl (fun c11 => ?_) (fun c11 => ?_)
    ·replace hz1:=Zt c11 hz1
     obtain ⟨y5,hy5,hz1⟩:=bC hz1
     refine zR ?_
     refine (Zi5 (i0:=n) (j0_0:=(n+2)) (j0_1:=(n+3)) (j0_2:=(n+1)) (by omega) (by omega) (by omega) (by omega) (by omega) (by omega) (by omega) (by omega) (by omega) (by omega) (by simp only [push_cast,seval,Zi,Yl,hN0,hN] <;> rfl) (by simp only [push_cast,seval,Zi,Yl,hN0,hN] <;> rfl) (by simp only [push_cast,seval,Zi,Yl,hN0,hN] <;> rfl) (by simp only [push_cast,seval,Zi,Yl,hN0,hN] <;> rfl) hy5).then ?_
     refine zS ?_
     obtain rfl:=sI hz1
     refine And.intro rfl ?_
     refine Fit2.trans (E':=(⟨44,[],[(0,(vI a0)),(5,.ref n 0),(8,(sL Zd a1)),(9,(vI (a1.length:Int))),(10,(vI s0_.1))]⟩:Env)) (O':=(Zq O n [some ⟨false,73,4,1,[.row (n+8) y5.out.length,(vI y5.kept),.row (n+6) y5.gone.length,.row (n+7) y5.come.length]⟩,none,none,none,none,none,some (oR 25 3 Za y5.gone),some (oR 25 3 Za y5.come),some (oR 46 14 Zd y5.out)])) (n':=(n+9)) (Fit2.of (Z9 hU rfl rfl ?_) (by omega)) ?_
     ·exact zSe
     refine X0 (k:=9) (k':=13) hU [0,12,12,12,12,12,10,11,9] [0,0,0,0,0,0,0,0,0,8,6,7,0] rfl rfl rfl rfl ⟨rfl,rfl⟩ ?_
     exact zSe
    replace hz1:=Zs c11 hz1
    refine zQ [0,5,7,8,9,10,15,27] ?_
    refine Zp (t:=(x3.Kind == 2)) rfl (fun c10 => ?_) (fun c10 => ?_)
    ·replace hz1:=Zt c10 hz1
     obtain ⟨y6,hy6,hz1⟩:=bC hz1
     refine zR ?_
     refine (Zi6 (i0:=n) (j0_0:=(n+2)) (j0_1:=(n+3)) (j0_2:=(n+1)) (by omega) (by omega) (by omega) (by omega) (by omega) (by omega) (by omega) (by omega) (by omega) (by omega) (by simp only [push_cast,seval,Zi,Yl,hN0,hN] <;> rfl) (by simp only [push_cast,seval,Zi,Yl,hN0,hN] <;> rfl) (by simp only [push_cast,seval,Zi,Yl,hN0,hN] <;> rfl) (by simp only [push_cast,seval,Zi,Yl,hN0,hN] <;> rfl) hy6).then ?_
     refine zS ?_
     obtain rfl:=sI hz1
     refine And.intro rfl ?_
     refine Fit2.trans (E':=(⟨44,[],[(0,(vI a0)),(5,.ref n 0),(8,(sL Zd a1)),(9,(vI (a1.length:Int))),(10,(vI s0_.1))]⟩:Env)) (O':=(Zq O n [some ⟨false,73,4,1,[.row (n+8) y6.out.length,(vI y6.kept),.row (n+6) y6.gone.length,.row (n+7) y6.come.length]⟩,none,none,none,none,none,some (oR 25 3 Za y6.gone),some (oR 25 3 Za y6.come),some (oR 46 14 Zd y6.out)])) (n':=(n+9)) (Fit2.of (Z9 hU rfl rfl ?_) (by omega)) ?_
     ·exact zSe
     refine X0 (k:=9) (k':=13) hU [0,12,12,12,12,12,10,11,9] [0,0,0,0,0,0,0,0,0,8,6,7,0] rfl rfl rfl rfl ⟨rfl,rfl⟩ ?_
     exact zSe
    replace hz1:=Zs c10 hz1
    refine zQ [0,5,7,8,9,10,33] ?_
    refine Zp (t:=(x3.Kind == 3)) rfl (fun c9 => ?_) (fun c9 => ?_)
    ·replace hz1:=Zt c9 hz1
     obtain ⟨y7,hy7,hz1⟩:=bC hz1
     obtain ⟨y8,hy8,hz1⟩:=bC hz1
     refine zC (Zdu hy7) ?_
     refine (Zjr (i0:=n) (j0_0:=(n+2)) (j0_1:=(n+3)) (j0_2:=(n+1)) (by omega) (by omega) (by omega) (by omega) (by omega) (by omega) (by omega) (by omega) (by omega) (by omega) (by simp only [push_cast,seval,Zi,Yl,hN0,hN] <;> rfl) (by simp only [push_cast,seval,Zi,Yl,hN0,hN] <;> rfl) (by simp only [push_cast,seval,Zi,Yl,hN0,hN] <;> rfl) (by simp only [push_cast,seval,Zi,Yl,hN0,hN] <;> rfl) hy8).then ?_
     refine zS ?_
     obtain rfl:=sI hz1
     refine And.intro rfl ?_
     refine Fit2.trans (E':=(⟨44,[],[(0,(vI a0)),(5,.ref n 0),(8,(sL Zd a1)),(9,(vI (a1.length:Int))),(10,(vI s0_.1))]⟩:Env)) (O':=(Zq O n [some ⟨false,73,4,1,[.row (n+8) y8.out.length,(vI y8.kept),.row (n+6) y8.gone.length,.row (n+7) y8.come.length]⟩,none,none,none,none,none,some (oR 25 3 Za y8.gone),some (oR 25 3 Za y8.come),some (oR 46 14 Zd y8.out)])) (n':=(n+9)) (Fit2.of (Z9 hU rfl rfl ?_) (by omega)) ?_
     ·exact zSe
     refine X0 (k:=9) (k':=13) hU [0,12,12,12,12,12,10,11,9] [0,0,0,0,0,0,0,0,0,8,6,7,0] rfl rfl rfl rfl ⟨rfl,rfl⟩ ?_
     exact zSe
    replace hz1:=Zs c9 hz1
    refine zK ?_
    obtain rfl:=sI hz1
    refine And.intro rfl ?_
    refine Fit2.trans (E':=(⟨44,[],[(0,(vI a0)),(5,.ref n 0),(8,(sL Zd a1)),(9,(vI (a1.length:Int))),(10,(vI s0_.1))]⟩:Env)) (O':=(Zq O n [some ⟨false,73,4,1,[.row (n+1) s0_.2.2.1.length,(vI s0_.2.1),.row (n+2) s0_.2.2.2.1.length,.row (n+3) s0_.2.2.2.2.length]⟩,some (oR 46 14 Zd s0_.2.2.1),some (oR 25 3 Za s0_.2.2.2.1),some (oR 25 3 Za s0_.2.2.2.2),none,none])) (n':=(n+6)) (Fit2.of (Z9 hU rfl rfl ?_) (by omega)) ?_
    ·exact zSe
    refine X0 (k:=6) (k':=13) hU [0,9,10,11,12,12] [0,0,0,0,0,0,0,0,0,1,2,3,0] rfl rfl rfl rfl ⟨rfl,rfl⟩ ?_
    exact zSe
   refine zR ?_
   obtain rfl:=sI hs0_
   refine And.intro rfl ?_
   refine Fit2.trans (E':=(⟨44,[],[(0,(vI a0)),(5,.ref n 0),(8,(sL Zd a1)),(9,(vI (a1.length:Int))),(10,(vI (IntKind.i64.wrap (s0_.1+1))))]⟩:Env)) (O':=(Zq O n [some ⟨false,73,4,1,[.row (n+9) z1.2.1.length,(vI z1.1),.row (n+10) z1.2.2.1.length,.row (n+11) z1.2.2.2.length]⟩,none,none,none,none,none,none,none,none,some (oR 46 14 Zd z1.2.1),some (oR 25 3 Za z1.2.2.1),some (oR 25 3 Za z1.2.2.2),none])) (n':=(n+13)) (Fit2.of (Z9 hU rfl rfl ?_) (by omega)) ?_
   ·exact zSe
   refine X0 (k:=13) (k':=5) hU [0,4,4,4,4,4,4,4,4,1,2,3,4] [0,9,10,11,0] rfl rfl rfl rfl ⟨rfl,rfl⟩ ?_
   exact zSe
  replace hs0_:=Zs c13 hs0_
  exact zEx hs0_
 try simp only [Y1,Yc,↓reduceIte,Nat.reduceEqDiff]
 refine zDs [5] [true,true,true,true,false] ?_
 obtain ⟨y16,hy16,h⟩:=bC h
 refine zR ?_
 refine (Vo (i0:=n) (j0_0:=(n+2)) (j0_1:=(n+3)) (j0_2:=(n+1)) (by omega) (by omega) (by omega) (by omega) (by omega) (by omega) (by omega) (by omega) (by omega) (by omega) (by simp only [push_cast,seval,Zi,Yl,hN0,hN] <;> rfl) (by simp only [push_cast,seval,Zi,Yl,hN0,hN] <;> rfl) (by simp only [push_cast,seval,Zi,Yl,hN0,hN] <;> rfl) (by simp only [push_cast,seval,Zi,Yl,hN0,hN] <;> rfl) hy16).then ?_
 refine zS ?_
 refine zD [5] [true,false,false,false,false,true,true,true] ?_
 refine zQ [4] ?_
 exact Y9 [.row (n+7) y16.out.length]
theorem Zpn:∀ k,(Zgi ((Xv k).1))∧(Zhr ((Xv k).2)):=fun k=>by
 induction k with
 | zero=>exact ⟨@fun a0 r O n h=>(nomatch (show (none:Option _)=some _ from h)),@fun a0 a1 r O n h=>(nomatch (show (none:Option _)=some _ from h))⟩
 | succ k ih=>exact ⟨@fun a0 r O n h=>Zta (ih.1) (ih.2)  h,@fun a0 a1 r O n h=>Zvl (ih.1) (ih.2)  h⟩
theorem Zl8 {a0:Zc} {r:Zc} {O:Objs} {n:Nat} (h:Zbr a0=some r):GTo Try.prog 20 [.agg (Ze a0)] O n (.agg (Ze r)) O n:=by
 obtain ⟨k,hk⟩:=Gt h
 exact (Zpn k).1  hk
theorem Zla {a0:Zl} {r:Int} {O:Objs} {n:Nat} (h:Zau a0=some r):GTo Try.prog 72 [.agg (Yy a0)] O n ((vI r)) O n:=by
 unfold Zau at h
 refine zFn Try.call72 Try.func72 fun hU hN0 hN => ?_
 show W _ _ _ _ ⟨19,[],[(0,.agg (Yy a0))]⟩ (Zq O n []) _
 refine zQ [1] ?_
 refine Zk ?_
 refine zQ [1,4] ?_
 refine Yd ?_
 refine zQ [1,4,5] ?_
 refine Zp (t:=(a0.Kind == 0)) rfl (fun c5 => ?_) (fun c5 => ?_)
 ·replace h:=Zt c5 h
  refine zQ [2] ?_
  exact Y9 [(vI (if 1048576 < (if a0.N < 0 then 0 else a0.N) then 1048576 else (if a0.N < 0 then 0 else a0.N)))]
 replace h:=Zs c5 h
 obtain ⟨z1,hz1,h⟩:=bC h
 refine Xe (E':=⟨19,[],[(1,.ref n 0),(4,(vI a0.Kind)),(11,(vB z1))]⟩) (O':=(Zq O n [some ⟨false,46,14,1,(Yy a0)⟩])) (n0:=(n+1)) ?_ ?_
 ·refine zQ [1,4,11] ?_
  refine Zp (t:=(a0.Kind == 1)) rfl (fun c2 => ?_) (fun c2 => ?_)
  ·replace hz1:=Zt c2 hz1
   refine zK ?_
   exact zEn hz1
  replace hz1:=Zs c2 hz1
  refine zR ?_
  exact zEn hz1
 refine Zp (t:=z1) rfl (fun c4 => ?_) (fun c4 => ?_)
 ·replace h:=Zt c4 h
  refine zQ [2] ?_
  exact Y9 [(vI (a0.L.length:Int))]
 replace h:=Zs c4 h
 refine zQ [17] ?_
 refine Zp (t:=(a0.Kind == 3)) rfl (fun c3 => ?_) (fun c3 => ?_)
 ·replace h:=Zt c3 h
  refine zQ [2] ?_
  exact Y9 [(vI 1)]
 replace h:=Zs c3 h
 refine Ky [] [false] ?_
 refine zQ [2] ?_
 exact Y9 [(vI 0)]
theorem Zs9 {a0:Zc} {r:(Int×Int)} {O:Objs} {n:Nat} (h:Vn a0=some r):GTo Try.prog 46 [.agg (Ze a0)] O n (.tup [(vI r.1),(vI r.2)]) O n:=by
 unfold Vn at h
 refine zFn Try.call46 Try.func46 fun hU hN0 hN => ?_
 show W _ _ _ _ ⟨34,[],[(0,.agg (Ze a0))]⟩ (Zq O n []) _
 refine zQ [1] ?_
 refine zQ [1,4,5] ?_
 refine Zk ?_
 refine zQd [4,5,9,10,11] [4,5,9,10,11] [false] ?_
 obtain ⟨z10,hz10,h⟩:=bC h
 refine Yo (E':=⟨34,[],[(4,(vI z10.1)),(5,(vI z10.2))]⟩) (O':=(Zq O n [none])) (n0:=(n+1)) ?_ ?_
 ·refine Y2 hz10 (fun s0_=>⟨34,[],[(4,(vI s0_.1)),(5,(vI s0_.2.1)),(9,(sL Zd a0.Ops)),(10,(vI (a0.Ops.length:Int))),(11,(vI s0_.2.2))]⟩) (fun s0_=>(Zq O n [none])) (fun z10=>JX 0 n (⟨34,[],[(4,(vI z10.1)),(5,(vI z10.2))]⟩:Env) (Zq O n [none]) (n+1)) ?_
  intro s0_ x0_ hs0_
  unfold Gz at hs0_
  try dsimp only
  refine zQ [4,5,9,10,11,12] ?_
  refine Zk ?_
  refine Zp (t:=(decide (s0_.2.2 < (a0.Ops.length:Int)))) rfl (fun c9 => ?_) (fun c9 => ?_)
  ·replace hs0_:=Zt c9 hs0_
   refine Ky [4,5,9,10,11] [false] ?_
   obtain ⟨z1,hz1,hs0_⟩:=bC hs0_
   refine Xe (E':=⟨34,[],[(4,(vI z1.1)),(5,(vI z1.2)),(9,(sL Zd a0.Ops)),(10,(vI (a0.Ops.length:Int))),(11,(vI s0_.2.2))]⟩) (O':=(Zq O n [none,none])) (n0:=(n+2)) ?_ ?_
   ·refine Yd ?_
    refine Zk ?_
    obtain ⟨x3,hx3,ax3,bx3,cx3,hz1⟩:=bE (f:=Zd) Zbm (fun _=>rfl) (by decide) hz1
    refine Zcg [] ax3 bx3 cx3 ?_
    refine zD [4,5,7,9,10,11] [false,true] ?_
    obtain ⟨z4,hz4,hz1⟩:=bC hz1
    refine Xe (E':=⟨34,[],[(4,(vI z4)),(5,(vI s0_.2.1)),(7,.ref (n+1) 0),(9,(sL Zd a0.Ops)),(10,(vI (a0.Ops.length:Int))),(11,(vI s0_.2.2))]⟩) (O':=(Zq O n [none,some ⟨false,46,14,1,(Yy x3)⟩])) (n0:=(n+2)) ?_ ?_
    ·refine zQ [4,5,7,9,10,11,17] ?_
     refine Zp (t:=(x3.Kind != 2)) rfl (fun c6 => ?_) (fun c6 => ?_)
     ·replace hz4:=Zt c6 hz4
      obtain ⟨y5,hy5,hz4⟩:=bC hz4
      refine zC (Zla hy5) ?_
      exact zEn hz4
     replace hz4:=Zs c6 hz4
     refine zK ?_
     exact zEn hz4
    refine zQ [4,5,7,9,10,11,25] ?_
    refine Zp (t:=(x3.Kind != 1)) rfl (fun c8 => ?_) (fun c8 => ?_)
    ·replace hz1:=Zt c8 hz1
     obtain ⟨y7,hy7,hz1⟩:=bC hz1
     refine zC (Zla hy7) ?_
     exact zEn hz1
    replace hz1:=Zs c8 hz1
    refine zK ?_
    exact zEn hz1
   refine zR ?_
   exact zEn hs0_
  replace hs0_:=Zs c9 hs0_
  exact zEx hs0_
 try simp only [Y1,Yc,↓reduceIte,Nat.reduceEqDiff]
 refine zD [4,5] [false] ?_
 refine zQ [2,3] ?_
 exact Y9 [(vI z10.1),(vI z10.2)]
theorem Zh2 {a0:(List Zl)} {a1:Int} {r:(List Zl)} {O:Objs} {n:Nat} {t0:Nat} (ht0:t0 < n) (hot0:O t0=some (oR 46 14 Zd a0)) (h:Va a0 a1=some r):GTo Try.prog 48 [.row t0 a0.length,(vI a1)] O n (.row n r.length) (Zq (O.upd t0 none) n [some (oR 46 14 Zd r)]) (n+1):=by
 unfold Va at h
 refine Zi9 Z0 Try.call48 Try.func48 rfl (Nat.le_of_ble_eq_true rfl) (by omega) fun hU => ?_
 have e0:=Z85 (ba:=n) (E:=⟨13,[],[(0,.row t0 a0.length),(1,.val (.int .i64 a1))]⟩) (O:=(Zq O n [])) (n:=n) (j:=t0) (len:=a0.length) (q:=⟨true,46,14,a0.length,fl Zd a0⟩) 0 rfl (by rw [Yf _ ht0];exact hot0) (by omega)
 simp only [Yn _ _ ht0,Y4,Ym,List.cons_append,List.nil_append,List.length_cons,List.length_nil,Nat.zero_add,Nat.reduceAdd,Nat.add_assoc] at e0
 refine Q6 e0 ?_
 have hU:=(Und.drop hU t0)
 have hN0:(O.upd t0 none) n=none:=hU.fresh _ (Nat.le_refl _)
 have hN:∀ k,(O.upd t0 none) (n+k)=none:=fun k=>hU.fresh _ (Nat.le_add_right _ _)
 show W _ _ _ _ ⟨13,[],[(0,.row n a0.length),(0,.row t0 a0.length),(1,(vI a1))]⟩ (Zq (O.upd t0 none) n [some (oR 46 14 Zd a0)]) _
 refine zQ [0,1] ?_
 refine Zk ?_
 refine zQ [0,1,6] ?_
 refine Zp (t:=(decide (a1≤0))) rfl (fun c3 => ?_) (fun c3 => ?_)
 ·replace h:=Zt c3 h
  refine zQ [4] ?_
  refine zW ?_
  obtain rfl:=sI h
  refine Zlv (k:=1) (L3:=[some (oR 46 14 Zd a0),none]) (E2:=(⟨13,[],[(4,.row n a0.length)]⟩:Env)) (n3:=(n+2)) (.inr rfl) hU rfl [.row n a0.length] ?_ ?_
  ·refine Fit2.trans (E':=(⟨13,[],[(4,.row n a0.length)]⟩:Env)) (O':=(Zq (O.upd t0 none) n [some (oR 46 14 Zd a0)])) (n':=(n+1)) (Fit2.of (Z9 hU rfl rfl ?_) (by omega)) ?_
   ·exact zSe
   refine X0 (k:=1) (k':=2) hU [0] [0,0] rfl rfl rfl rfl ⟨rfl,rfl⟩ ?_
   exact zSe
  simp only [push_cast,seval,Zi,Try.results48,hN0,hN]
 replace h:=Zs c3 h
 refine Ky [0,1] [true] ?_
 refine Zk ?_
 obtain ⟨l2,pl2,ql2,el2,h⟩:=bA (k:=1) rfl h
 refine Zfz [] pl2 ql2 el2 ?_
 refine Zdy ⟨13,[],[(4,.row n l2.length)]⟩ (Zq (O.upd t0 none) n [some (oR 46 14 Zd l2),none]) (Z9 hU rfl rfl ?_) ?_
 ·exact Zxh pl2 ql2 el2
 refine zW ?_
 obtain rfl:=sI h
 refine Zlv (k:=1) (L3:=[some (oR 46 14 Zd l2),none]) (E2:=(⟨13,[],[(4,.row n l2.length)]⟩:Env)) (n3:=(n+2)) (.inr rfl) hU rfl [.row n l2.length] ?_ ?_
 ·refine Fit2.trans (E':=(⟨13,[],[(4,.row n l2.length)]⟩:Env)) (O':=(Zq (O.upd t0 none) n [some (oR 46 14 Zd l2),none])) (n':=(n+2)) (Fit2.of (Z9 hU rfl rfl ?_) (by omega)) ?_
  ·exact zSe
  refine X0 (k:=2) (k':=2) hU [0,1] [0,0] rfl rfl rfl rfl ⟨rfl,rfl⟩ ?_
  exact zSe
 simp only [push_cast,seval,Zi,Try.results48,hN0,hN]
theorem Zfn {a0:Zl} {a1:Int} {a2:(List Zc)} {a3:Zc} {a4:Int} {r:(Int×(List Zc)×Zc×Int)} {O:Objs} {n:Nat} {i1 i2 j2_0 i3 i4:Nat} (hi1:i1 < n) (hi2:i2 < n) (Ye6:j2_0 < n) (Z4q:i2≠j2_0) (hi3:i3 < n) (hi4:i4 < n) (Zxt:i1≠j2_0) (Zxu:i3≠j2_0) (Zxv:i4≠j2_0) (Z2p:i1≠i2) (Z6v:i1≠i3) (Z6w:i1≠i4) (Z2q:i2≠i3) (Z2r:i2≠i4) (Z6x:i3≠i4) (ho1:O i1=some ⟨false,3,1,1,[(vI a1)]⟩) (ho2:O i2=some ⟨false,35,1,1,[.row j2_0 a2.length]⟩) (Yf8:O j2_0=some (oR 30 11 Zn a2)) (ho3:O i3=some ⟨false,30,11,1,(Ze a3)⟩) (ho4:O i4=some ⟨false,3,1,1,[(vI a4)]⟩) (h:Vb a0 a1 a2 a3 a4=some r):GTo Try.prog 47 [.agg (Yy a0),.ref i1 0,.ref i2 0,.ref i3 0,.ref i4 0] O n (.tup []) (Zq (((((O.upd j2_0 none).upd i1 (some ⟨false,3,1,1,[(vI r.1)]⟩)).upd i2 (some ⟨false,35,1,1,[.row n r.2.1.length]⟩)).upd i3 (some ⟨false,30,11,1,(Ze r.2.2.1)⟩)).upd i4 (some ⟨false,3,1,1,[(vI r.2.2.2)]⟩)) n [some (oR 30 11 Zn r.2.1)]) (n+1):=by
 unfold Vb at h
 refine Zi9 Z0 Try.call47 Try.func47 rfl (Nat.le_of_ble_eq_true rfl) (by omega) fun hU => ?_
 rw [show Zq O n []=Zq ((((O.upd i1 (some ⟨false,3,1,1,[(vI a1)]⟩)).upd i2 (some ⟨false,35,1,1,[.row j2_0 a2.length]⟩)).upd i3 (some ⟨false,30,11,1,(Ze a3)⟩)).upd i4 (some ⟨false,3,1,1,[(vI a4)]⟩)) n [] from by rw [Zki ho1,Zki ho2,Zki ho3,Zki ho4]]
 have e0:=Jv (ba:=n) (E:=⟨22,[],Ze6 0 [.agg [.val (.int .i64 a0.Kind),.val (.int .i64 a0.N),.sl a0.L.length (fl Za a0.L),.val (.int .i64 a0.E.Kind),.val (.int .i64 a0.E.Old.Kind),.sl a0.E.Old.Words.length (fl (eI .u64) a0.E.Old.Words),.sl a0.E.Old.Kids.length (fl Za a0.E.Old.Kids),.val (.int .i64 a0.E.New.Kind),.sl a0.E.New.Words.length (fl (eI .u64) a0.E.New.Words),.sl a0.E.New.Kids.length (fl Za a0.E.New.Kids),.sl a0.E.Words.length (fl Zf a0.E.Words),.sl a0.E.Kids.length (fl Zh a0.E.Kids),.val (.int .i64 a0.E.List_),.sl a0.E.Ops.length (fl Zd a0.E.Ops)],.ref i1 0,.ref i2 0,.ref i3 0,.ref i4 0]⟩) (O:=(Zq ((((O.upd i1 (some ⟨false,3,1,1,[.val (.int .i64 a1)]⟩)).upd i2 (some ⟨false,35,1,1,[.row j2_0 a2.length]⟩)).upd i3 (some ⟨false,30,11,1,[.val (.int .i64 a3.Kind),.val (.int .i64 a3.Old.Kind),.sl a3.Old.Words.length (fl (eI .u64) a3.Old.Words),.sl a3.Old.Kids.length (fl Za a3.Old.Kids),.val (.int .i64 a3.New.Kind),.sl a3.New.Words.length (fl (eI .u64) a3.New.Words),.sl a3.New.Kids.length (fl Za a3.New.Kids),.sl a3.Words.length (fl Zf a3.Words),.sl a3.Kids.length (fl Zh a3.Kids),.val (.int .i64 a3.List_),.sl a3.Ops.length (fl Zd a3.Ops)]⟩)).upd i4 (some ⟨false,3,1,1,[.val (.int .i64 a4)]⟩)) n [])) (n:=n) (i:=i2) (j:=j2_0) (k:=0) (len:=a2.length) (q:=⟨false,35,1,1,[.row j2_0 a2.length]⟩) (qj:=⟨true,30,11,a2.length,fl Zn a2⟩) (by rw [Yf _ hi2];simp only [Z8,Zbc (Ne.symm Z2p),Zbc Z2q,Zbc Z2r]) rfl (by rw [Yf _ Ye6];simp only [Zbc (Ne.symm Zxt),Zbc (Ne.symm Z4q),Zbc (Ne.symm Zxu),Zbc (Ne.symm Zxv)];exact Yf8) Z4q (by omega)
 simp only [Yn _ _ Ye6,Yn _ _ hi2,Y4,Ym,Qh,Zd8 (Ne.symm Zxt),Zd8 (Ne.symm Z4q),Zd8 (Ne.symm Zxu),Zd8 (Ne.symm Zxv),Zd8 Z2p,Zd8 Z6v,Zd8 Z6w,Zd8 Z2q,Zd8 Z2r,Zd8 Z6x,List.set_cons_zero,List.set_cons_succ,List.cons_append,List.nil_append,List.length_cons,List.length_nil,Nat.zero_add,Nat.reduceAdd,Nat.add_assoc] at e0
 refine Q6 e0 ?_
 have hU:=(Und.drop hU j2_0)
 have ra1_2:=fun X=>@Zbc X _ _ Z2p
 have rb1_2:=fun X=>@Zbc X _ _ (Ne.symm Z2p)
 have rc1_2:=fun X b c=>@Zd8 X _ _ b c Z2p
 have ra1_3:=fun X=>@Zbc X _ _ Z6v
 have rb1_3:=fun X=>@Zbc X _ _ (Ne.symm Z6v)
 have rc1_3:=fun X b c=>@Zd8 X _ _ b c Z6v
 have ra1_4:=fun X=>@Zbc X _ _ Z6w
 have rb1_4:=fun X=>@Zbc X _ _ (Ne.symm Z6w)
 have rc1_4:=fun X b c=>@Zd8 X _ _ b c Z6w
 have ra2_3:=fun X=>@Zbc X _ _ Z2q
 have rb2_3:=fun X=>@Zbc X _ _ (Ne.symm Z2q)
 have rc2_3:=fun X b c=>@Zd8 X _ _ b c Z2q
 have ra2_4:=fun X=>@Zbc X _ _ Z2r
 have rb2_4:=fun X=>@Zbc X _ _ (Ne.symm Z2r)
 have rc2_4:=fun X b c=>@Zd8 X _ _ b c Z2r
 have ra3_4:=fun X=>@Zbc X _ _ Z6x
 have rb3_4:=fun X=>@Zbc X _ _ (Ne.symm Z6x)
 have rc3_4:=fun X b c=>@Zd8 X _ _ b c Z6x
 have hk1:∀ k,i1 < n+k:=fun k=>by omega
 have hk2:∀ k,i2 < n+k:=fun k=>by omega
 have hk3:∀ k,i3 < n+k:=fun k=>by omega
 have hk4:∀ k,i4 < n+k:=fun k=>by omega
 have hN0:∀ o p r s,Objs.upd (Objs.upd (Objs.upd (Objs.upd (O.upd j2_0 none) i1 o) i2 p) i3 r) i4 s n=none:=fun o p r s=>(Yv _ _ (by omega)).trans ((Yv _ _ (by omega)).trans ((Yv _ _ (by omega)).trans (X1 hU hi1 _ (Nat.le_refl _))))
 have hN:∀ o p r s k,Objs.upd (Objs.upd (Objs.upd (Objs.upd (O.upd j2_0 none) i1 o) i2 p) i3 r) i4 s (n+k)=none:=fun o p r s k=>(Yv _ _ (by omega)).trans ((Yv _ _ (by omega)).trans ((Yv _ _ (by omega)).trans (X1 hU hi1 _ (Nat.le_add_right _ _))))
 show W _ _ _ _ ⟨22,[],[(0,.agg (Yy a0)),(1,.ref i1 0),(2,.ref i2 0),(3,.ref i3 0),(4,.ref i4 0)]⟩ (Zq (((((O.upd j2_0 none).upd i1 (some ⟨false,3,1,1,[(vI a1)]⟩)).upd i2 (some ⟨false,35,1,1,[.row n a2.length]⟩)).upd i3 (some ⟨false,30,11,1,(Ze a3)⟩)).upd i4 (some ⟨false,3,1,1,[(vI a4)]⟩)) n [some (oR 30 11 Zn a2)]) _
 refine Zlm [1,2,3,4,5] (Yp Z0 [] ?_)
 simp only [push_cast,seval,Zi,hi1,hk1,hi2,hk2,hi3,hk3,hi4,hk4,ra1_2,rb1_2,rc1_2,ra1_3,rb1_3,rc1_3,ra1_4,rb1_4,rc1_4,ra2_3,rb2_3,rc2_3,ra2_4,rb2_4,rc2_4,ra3_4,rb3_4,rc3_4,hN0,hN]
 refine Zk ?_
 obtain ⟨y2,hy2,h⟩:=bC h
 refine Yp Z0 [] ?_
 simp only [push_cast,seval,Zi,hi1,hk1,hi2,hk2,hi3,hk3,hi4,hk4,ra1_2,rb1_2,rc1_2,ra1_3,rb1_3,rc1_3,ra1_4,rb1_4,rc1_4,ra2_3,rb2_3,rc2_3,ra2_4,rb2_4,rc2_4,ra3_4,rb3_4,rc3_4,hN0,hN]
 refine GCalls.adopt (pre:=[]) 46 14 ?_
 simp only [push_cast,seval,Zi,List.append_eq,List.cons_append,List.nil_append,hi1,hk1,hi2,hk2,hi3,hk3,hi4,hk4,ra1_2,rb1_2,rc1_2,ra1_3,rb1_3,rc1_3,ra1_4,rb1_4,rc1_4,ra2_3,rb2_3,rc2_3,ra2_4,rb2_4,rc2_4,ra3_4,rb3_4,rc3_4,hN0,hN]
 refine (Zh2 (t0:=(n+2)) (by omega) (by simp only [push_cast,seval,Zi,Yl,hi1,hk1,hi2,hk2,hi3,hk3,hi4,hk4,ra1_2,rb1_2,rc1_2,ra1_3,rb1_3,rc1_3,ra1_4,rb1_4,rc1_4,ra2_3,rb2_3,rc2_3,ra2_4,rb2_4,rc2_4,ra3_4,rb3_4,rc3_4,hN0,hN] <;> rfl) hy2).then ?_
 simp only [push_cast,seval,Zi,hi1,hk1,hi2,hk2,hi3,hk3,hi4,hk4,ra1_2,rb1_2,rc1_2,ra1_3,rb1_3,rc1_3,ra1_4,rb1_4,rc1_4,ra2_3,rb2_3,rc2_3,ra2_4,rb2_4,rc2_4,ra3_4,rb3_4,rc3_4,hN0,hN]
 refine zDs [2,3,4,5,6] [true,true,false,true] ?_
 obtain ⟨l4,pl4,ql4,el4,h⟩:=bA (k:=1) rfl h
 refine Yp Z0 [] ?_
 simp only [push_cast,seval,Zi,pl4,ql4,el4,hi1,hk1,hi2,hk2,hi3,hk3,hi4,hk4,ra1_2,rb1_2,rc1_2,ra1_3,rb1_3,rc1_3,ra1_4,rb1_4,rc1_4,ra2_3,rb2_3,rc2_3,ra2_4,rb2_4,rc2_4,ra3_4,rb3_4,rc3_4,hN0,hN]
 refine Zdy ⟨22,[],[(2,.ref i2 0),(3,.ref i3 0),(4,.ref i4 0),(6,.row (n+3) l4.length)]⟩ (Zq (((((O.upd j2_0 none).upd i1 (some ⟨false,3,1,1,[(vI a1)]⟩)).upd i2 (some ⟨false,35,1,1,[.row n a2.length]⟩)).upd i3 (some ⟨false,30,11,1,(Ze a3)⟩)).upd i4 (some ⟨false,3,1,1,[(vI a4)]⟩)) n [some (oR 30 11 Zn a2),none,none,some (oR 46 14 Zd l4),none]) (Zxn hU rfl rfl ?_) ?_
 ·simp only [push_cast,seval,Zi,pl4,ql4,el4,hi1,hk1,hi2,hk2,hi3,hk3,hi4,hk4,ra1_2,rb1_2,rc1_2,ra1_3,rb1_3,rc1_3,ra1_4,rb1_4,rc1_4,ra2_3,rb2_3,rc2_3,ra2_4,rb2_4,rc2_4,ra3_4,rb3_4,rc3_4,hN0,hN]
 obtain ⟨y5,hy5,h⟩:=bC h
 obtain ⟨l6,pl6,ql6,el6,h⟩:=bA (k:=1) rfl h
 refine Zae Z0 (by kernel_rfl) [.low,.low,.low,.plain,.plain,.pass,.plain,.pass,.bar,.bar] (fun i=>i < (n+5)∧¬ i=n+3) [0,1,2,3,4,5,6,7,8,9] [.low,.low,.low,.plain,.plain,.pass,.plain,.pass,.bar,.bar] [] (by kernel_rfl) rfl ?_
 simp only [push_cast,seval,Zi,pl6,ql6,el6,hi1,hk1,hi2,hk2,hi3,hk3,hi4,hk4,ra1_2,rb1_2,rc1_2,ra1_3,rb1_3,rc1_3,ra1_4,rb1_4,rc1_4,ra2_3,rb2_3,rc2_3,ra2_4,rb2_4,rc2_4,ra3_4,rb3_4,rc3_4,hN0,hN]
 refine zO ?_
 refine (Zh2 (t0:=(n+3)) (by omega) (by simp only [push_cast,seval,Zi,Yl,pl6,ql6,el6,hi1,hk1,hi2,hk2,hi3,hk3,hi4,hk4,ra1_2,rb1_2,rc1_2,ra1_3,rb1_3,rc1_3,ra1_4,rb1_4,rc1_4,ra2_3,rb2_3,rc2_3,ra2_4,rb2_4,rc2_4,ra3_4,rb3_4,rc3_4,hN0,hN] <;> rfl) hy5).then ?_
 simp only [push_cast,seval,Zi,pl6,ql6,el6,hi1,hk1,hi2,hk2,hi3,hk3,hi4,hk4,ra1_2,rb1_2,rc1_2,ra1_3,rb1_3,rc1_3,ra1_4,rb1_4,rc1_4,ra2_3,rb2_3,rc2_3,ra2_4,rb2_4,rc2_4,ra3_4,rb3_4,rc3_4,hN0,hN]
 refine zO ?_
 obtain rfl:=sI h
 refine Z8e (k:=1) (i:=i1) (j:=i2) (u:=i3) (v:=i4) (q1:=⟨false,3,1,1,[(vI a1)]⟩) (p1:=⟨false,35,1,1,[.row n l6.length]⟩) (s1:=⟨false,30,11,1,(Ze a3)⟩) (t1:=⟨false,3,1,1,[(vI a4)]⟩) (L3:=[some (oR 30 11 Zn l6),none]) (E2:=(⟨22,[],[]⟩:Env)) (n3:=(n+2)) (.inl rfl) hU rfl [] ?_ ?_
 ·refine Fit2.trans (E':=(⟨22,[],[]⟩:Env)) (O':=(Zq (((((O.upd j2_0 none).upd i1 (some ⟨false,3,1,1,[(vI a1)]⟩)).upd i2 (some ⟨false,35,1,1,[.row n l6.length]⟩)).upd i3 (some ⟨false,30,11,1,(Ze a3)⟩)).upd i4 (some ⟨false,3,1,1,[(vI a4)]⟩)) n [some (oR 30 11 Zn l6),none,none,none,none,none,none])) (n':=(n+7)) (Fit2.of (Zxn hU rfl rfl ?_) (by omega)) ?_
  ·simp only [push_cast,seval,Zi,pl6,ql6,el6,hi1,hk1,hi2,hk2,hi3,hk3,hi4,hk4,ra1_2,rb1_2,rc1_2,ra1_3,rb1_3,rc1_3,ra1_4,rb1_4,rc1_4,ra2_3,rb2_3,rc2_3,ra2_4,rb2_4,rc2_4,ra3_4,rb3_4,rc3_4,hN0,hN]
  refine Z81 (k:=7) (k':=2) hU [0,1,1,1,1,1,1] [0,0] rfl rfl rfl rfl ⟨rfl,rfl⟩ ?_
  simp only [push_cast,seval,Zi,hi1,hk1,hi2,hk2,hi3,hk3,hi4,hk4,ra1_2,rb1_2,rc1_2,ra1_3,rb1_3,rc1_3,ra1_4,rb1_4,rc1_4,ra2_3,rb2_3,rc2_3,ra2_4,rb2_4,rc2_4,ra3_4,rb3_4,rc3_4,hN0,hN]
 simp only [push_cast,seval,Zi,Try.results47,hi1,hk1,hi2,hk2,hi3,hk3,hi4,hk4,ra1_2,rb1_2,rc1_2,ra1_3,rb1_3,rc1_3,ra1_4,rb1_4,rc1_4,ra2_3,rb2_3,rc2_3,ra2_4,rb2_4,rc2_4,ra3_4,rb3_4,rc3_4,hN0,hN]
attribute [local push_cast] Try.results19 Try.results33 Try.results34 Try.results45 Try.results71 Try.results8 Try.results82 Try.results83 Try.results85 Try.results86 Try.results87 Try.results88
def Zdt (Xf:(Zc→Option (List Zc))):Prop:=∀ {a0:Zc} {r:(List Zc)} {O:Objs} {n:Nat},Xf a0=some r→GTo Try.prog 19 [.agg (Ze a0)] O n ((sL Zn r)) O n
def Zah (Xi:(Zc→Option (List Zc))):Prop:=∀ {a0:Zc} {r:(List Zc)} {O:Objs} {n:Nat},Xi a0=some r→GTo Try.prog 33 [.agg (Ze a0)] O n ((sL Zn r)) O n
def Zcf (Xx:(Zc→Option (List Zc))):Prop:=∀ {a0:Zc} {r:(List Zc)} {O:Objs} {n:Nat},Xx a0=some r→GTo Try.prog 34 [.agg (Ze a0)] O n ((sL Zn r)) O n
theorem Ztb {Xf:(Zc→Option (List Zc))} {Xi:(Zc→Option (List Zc))} {Xx:(Zc→Option (List Zc))} (Zdv:Zdt Xf) (Zd3:Zah Xi) (Zfm:Zcf Xx) {a0:Zc} {r:(List Zc)} {O:Objs} {n:Nat} (h:G8 Xf Xi Xx a0=some r):GTo Try.prog 19 [.agg (Ze a0)] O n ((sL Zn r)) O n:=by
 unfold G8 at h
 refine zFn Try.call19 Try.func19 fun hU hN0 hN => ?_
 show W _ _ _ _ ⟨22,[],[(0,.agg (Ze a0))]⟩ (Zq O n []) _
 refine zQ [1] ?_
 refine zQ [1,3] ?_
 obtain ⟨z1,hz1,h⟩:=bC h
 refine Yg2 (J:=(Ql (fun z1=>JN n (⟨22,[],[(1,.ref n 0),(3,(sL Zn z1))]⟩:Env) (Zq O n [some ⟨false,30,11,1,(Ze a0)⟩]) (n+1)) (fun z1=>JR n (⟨22,[],[(2,nV)]⟩:Env) (Zq O n [none]) (n+1)))) (z:=z1) ?_ fun hw => ?_
 ·refine zQ [1,3,5] ?_
  refine Yd ?_
  refine zQ [1,3,5,6] ?_
  refine Zp (t:=(a0.Kind == 0)) rfl (fun c6 => ?_) (fun c6 => ?_)
  ·replace hz1:=Zt c6 hz1
   refine zQ [2] ?_
   refine zW ?_
   exact zEn hz1
  replace hz1:=Zs c6 hz1
  refine zQ [1,3,5,8] ?_
  refine Zp (t:=(a0.Kind == 2)) rfl (fun c5 => ?_) (fun c5 => ?_)
  ·replace hz1:=Zt c5 hz1
   obtain ⟨y2,hy2,hz1⟩:=bC hz1
   refine zC (Zd3 hy2) ?_
   exact zEn hz1
  replace hz1:=Zs c5 hz1
  refine zQ [1,3,12] ?_
  refine Zp (t:=(a0.Kind == 3)) rfl (fun c4 => ?_) (fun c4 => ?_)
  ·replace hz1:=Zt c4 hz1
   obtain ⟨y3,hy3,hz1⟩:=bC hz1
   refine zC (Zfm hy3) ?_
   exact zEn hz1
  replace hz1:=Zs c4 hz1
  refine zK ?_
  exact zEn hz1
 rcases z1 with z1 | z1
 ·dsimp only [Ql] at hw h
  refine Xe hw ?_
  refine Zk ?_
  refine zQ [1,3,18] ?_
  refine Zp (t:=((z1.length:Int) == 0)) rfl (fun c7 => ?_) (fun c7 => ?_)
  ·replace h:=Zt c7 h
   refine Zk ?_
   refine zR ?_
   refine Zdy ⟨22,[],[(2,.row (n+1) ([a0]:List Zc).length)]⟩ (Zq O n [none,some (oR 30 11 Zn ([a0]:List Zc))]) (Z9 hU rfl rfl ?_) ?_
   ·exact zSe
   exact Y9 [.row (n+1) ([a0]:List Zc).length]
  replace h:=Zs c7 h
  refine Ky [3] [false] ?_
  refine zQ [2] ?_
  exact Y9 [(sL Zn z1)]
 dsimp only [Ql] at hw h
 refine Yfo hw ?_
 try simp only [Y1,Yc]
 exact Zk7 [nV]
theorem Zok {Xf:(Zc→Option (List Zc))} {Xi:(Zc→Option (List Zc))} {Xx:(Zc→Option (List Zc))} (Zdv:Zdt Xf) (Zd3:Zah Xi) (Zfm:Zcf Xx) {a0:Zc} {r:(List Zc)} {O:Objs} {n:Nat} (h:Us Xf Xi Xx a0=some r):GTo Try.prog 33 [.agg (Ze a0)] O n ((sL Zn r)) O n:=by
 unfold Us at h
 refine zFn Try.call33 Try.func33 fun hU hN0 hN => ?_
 show W _ _ _ _ ⟨51,[],[(0,.agg (Ze a0))]⟩ (Zq O n []) _
 refine zQ [1] ?_
 refine zQ [1,3] ?_
 refine Zk ?_
 refine zQd [1,3,11,12,13] [1,3,11,12,13] [true] ?_
 refine Q6 (E':=(⟨51,[],[(1,.ref n 0),(3,.row (n+1) ([]:List Zc).length),(11,(sL Zf a0.Words)),(12,(vI (a0.Words.length:Int))),(13,(vI 0))]⟩:Env)) (O':=(Zq O n [some ⟨false,30,11,1,(Ze a0)⟩,some (oR 30 11 Zn ([]:List Zc)),none])) (n':=(n+3)) ?_ ?_
 ·refine Fit2.trans (E':=(⟨51,[],[(1,.ref n 0),(3,nV),(11,(sL Zf a0.Words)),(12,(vI (a0.Words.length:Int))),(13,(vI 0))]⟩:Env)) (O':=(Zq O n [some ⟨false,30,11,1,(Ze a0)⟩])) (n':=(n+1)) (Fit2.of (Z9 hU rfl rfl ?_) (by omega)) ?_
  ·exact zSe
  refine Fit2.trans (Zh5 3 30 11 rfl (by omega)) ?_
  simp only [Y4,Ym,Gm,V8,List.set_cons_zero,List.set_cons_succ,List.cons_append,List.nil_append,List.length_cons,List.length_nil,Nat.zero_add,Nat.reduceAdd,Nat.reduceLT,Nat.add_assoc]
  refine Fit2.trans (E':=(⟨51,[],[(1,.ref n 0),(3,.row (n+1) ([]:List Zc).length),(11,(sL Zf a0.Words)),(12,(vI (a0.Words.length:Int))),(13,(vI 0))]⟩:Env)) (O':=(Zq O n [some ⟨false,30,11,1,(Ze a0)⟩,some (oR 30 11 Zn ([]:List Zc))])) (n':=(n+2)) (Fit2.of (Z9 hU rfl rfl ?_) (by omega)) ?_
  ·exact zSe
  refine X0 (k:=2) (k':=3) hU [0,1] [0,1,0] rfl rfl rfl rfl ⟨rfl,rfl⟩ ?_
  exact zSe
 obtain ⟨z5,hz5,h⟩:=bC h
 refine Yo (E':=⟨51,[],[(1,.ref n 0),(3,.row (n+1) z5.length)]⟩) (O':=(Zq O n [some ⟨false,30,11,1,(Ze a0)⟩,some (oR 30 11 Zn z5),none])) (n0:=(n+3)) ?_ ?_
 ·refine Y2 hz5 (fun s0_=>⟨51,[],[(1,.ref n 0),(3,.row (n+1) s0_.2.length),(11,(sL Zf a0.Words)),(12,(vI (a0.Words.length:Int))),(13,(vI s0_.1))]⟩) (fun s0_=>(Zq O n [some ⟨false,30,11,1,(Ze a0)⟩,some (oR 30 11 Zn s0_.2),none])) (fun z5=>JX 0 n (⟨51,[],[(1,.ref n 0),(3,.row (n+1) z5.length)]⟩:Env) (Zq O n [some ⟨false,30,11,1,(Ze a0)⟩,some (oR 30 11 Zn z5),none]) (n+3)) ?_
  intro s0_ x0_ hs0_
  unfold Ua at hs0_
  try dsimp only
  refine zQ [1,3,11,12,13,14] ?_
  refine Zk ?_
  refine Zp (t:=(decide (s0_.1 < (a0.Words.length:Int)))) rfl (fun c4 => ?_) (fun c4 => ?_)
  ·replace hs0_:=Zt c4 hs0_
   refine Ky [1,3,11,12,13] [true,true,false] ?_
   refine Zk ?_
   refine Yd ?_
   refine Zk ?_
   obtain ⟨x2,hx2,ax2,bx2,cx2,hs0_⟩:=bE (f:=Zf) Zx9 (fun _=>rfl) (by decide) hs0_
   refine Zcg [] ax2 bx2 cx2 ?_
   refine zD [1,3,5,11,12,13] [true,true,false,true] ?_
   obtain ⟨l3,pl3,ql3,el3,hs0_⟩:=bA (k:=1) rfl hs0_
   refine Zfz [] pl3 ql3 el3 ?_
   refine Zdy ⟨51,[],[(1,.ref n 0),(3,.row (n+1) l3.length),(11,(sL Zf a0.Words)),(12,(vI (a0.Words.length:Int))),(13,(vI s0_.1))]⟩ (Zq O n [some ⟨false,30,11,1,(Ze a0)⟩,some (oR 30 11 Zn l3),none,none,none,none]) (Z9 hU rfl rfl ?_) ?_
   ·exact Zxh pl3 ql3 el3
   refine zR ?_
   exact zEn hs0_
  replace hs0_:=Zs c4 hs0_
  exact zEx hs0_
 try simp only [Y1,Yc,↓reduceIte,Nat.reduceEqDiff]
 refine zDs [1,3] [true,true,false] ?_
 refine zQd [3,25,26,27] [3,25,26,27] [false,true,false] ?_
 obtain ⟨z16,hz16,h⟩:=bC h
 refine Yo (E':=⟨51,[],[(3,.row (n+1) z16.length)]⟩) (O':=(Zq O n [none,some (oR 30 11 Zn z16),none])) (n0:=(n+3)) ?_ ?_
 ·refine Y2 hz16 (fun s1_=>⟨51,[],[(3,.row (n+1) s1_.2.length),(25,(sL Zh a0.Kids)),(26,(vI (a0.Kids.length:Int))),(27,(vI s1_.1))]⟩) (fun s1_=>(Zq O n [none,some (oR 30 11 Zn s1_.2),none])) (fun z16=>JX 2 n (⟨51,[],[(3,.row (n+1) z16.length)]⟩:Env) (Zq O n [none,some (oR 30 11 Zn z16),none]) (n+3)) ?_
  intro s1_ x1_ hs1_
  unfold Kp at hs1_
  try dsimp only
  refine zQ [3,25,26,27,28] ?_
  refine Zk ?_
  refine Zp (t:=(decide (s1_.1 < (a0.Kids.length:Int)))) rfl (fun c15 => ?_) (fun c15 => ?_)
  ·replace hs1_:=Zt c15 hs1_
   refine Ky [3,25,26,27] [false,true,false] ?_
   refine Zk ?_
   refine Yd ?_
   refine Zk ?_
   obtain ⟨x7,hx7,ax7,bx7,cx7,hs1_⟩:=bE (f:=Zh) Znt (fun _=>rfl) (by decide) hs1_
   refine Zcg [] ax7 bx7 cx7 ?_
   refine zDs [3,7,25,26,27] [false,true,false,true] ?_
   obtain ⟨y9,hy9,hs1_⟩:=bC hs1_
   refine zCd (Zdv hy9) [3,7,25,26,27,33,34,35] [false,true,false,true] ?_
   refine zD [3,7,25,26,27,33,34,35] [false,true,false,true] ?_
   obtain ⟨z14,hz14,hs1_⟩:=bC hs1_
   refine Yo (E':=⟨51,[],[(3,.row (n+1) z14.length),(25,(sL Zh a0.Kids)),(26,(vI (a0.Kids.length:Int))),(27,(vI s1_.1))]⟩) (O':=(Zq O n [none,some (oR 30 11 Zn z14),none,none])) (n0:=(n+4)) ?_ ?_
   ·refine Y2 hz14 (fun s2_=>⟨51,[],[(3,.row (n+1) s2_.2.length),(7,.ref (n+3) 0),(25,(sL Zh a0.Kids)),(26,(vI (a0.Kids.length:Int))),(27,(vI s1_.1)),(33,(sL Zn y9)),(34,(vI (y9.length:Int))),(35,(vI s2_.1))]⟩) (fun s2_=>(Zq O n [none,some (oR 30 11 Zn s2_.2),none,some ⟨false,44,12,1,(Gg x7)⟩])) (fun z14=>JX 4 n (⟨51,[],[(3,.row (n+1) z14.length),(25,(sL Zh a0.Kids)),(26,(vI (a0.Kids.length:Int))),(27,(vI s1_.1))]⟩:Env) (Zq O n [none,some (oR 30 11 Zn z14),none,none]) (n+4)) ?_
    intro s2_ x2_ hs2_
    unfold Ub at hs2_
    try dsimp only
    refine zQ [3,7,25,26,27,33,34,35,36] ?_
    refine Zk ?_
    refine Zp (t:=(decide (s2_.1 < (y9.length:Int)))) rfl (fun c13 => ?_) (fun c13 => ?_)
    ·replace hs2_:=Zt c13 hs2_
     refine Ky [3,7,25,26,27,33,34,35] [false,true,false,true] ?_
     refine Zk ?_
     refine Yd ?_
     refine Zk ?_
     obtain ⟨x11,hx11,ax11,bx11,cx11,hs2_⟩:=bE (f:=Zn) Ziy (fun _=>rfl) (by decide) hs2_
     refine Zcg [] ax11 bx11 cx11 ?_
     refine zD [3,7,9,25,26,27,33,34,35] [false,true,false,true,true] ?_
     obtain ⟨l12,pl12,ql12,el12,hs2_⟩:=bA (k:=1) rfl hs2_
     refine Zfz [] pl12 ql12 el12 ?_
     refine Zdy ⟨51,[],[(3,.row (n+1) l12.length),(7,.ref (n+3) 0),(25,(sL Zh a0.Kids)),(26,(vI (a0.Kids.length:Int))),(27,(vI s1_.1)),(33,(sL Zn y9)),(34,(vI (y9.length:Int))),(35,(vI s2_.1))]⟩ (Zq O n [none,some (oR 30 11 Zn l12),none,some ⟨false,44,12,1,(Gg x7)⟩,none,none,none]) (Z9 hU rfl rfl ?_) ?_
     ·exact Zxh pl12 ql12 el12
     refine zR ?_
     exact zEn hs2_
    replace hs2_:=Zs c13 hs2_
    exact zEx hs2_
   try simp only [Y1,Yc,↓reduceIte,Nat.reduceEqDiff]
   refine zD [3,25,26,27] [false,true,false,false] ?_
   refine zR ?_
   exact zEn hs1_
  replace hs1_:=Zs c15 hs1_
  exact zEx hs1_
 try simp only [Y1,Yc,↓reduceIte,Nat.reduceEqDiff]
 refine zD [3] [false,true,false] ?_
 refine zQ [2] ?_
 exact Y9 [.row (n+1) z16.length]
theorem Zry {Xf:(Zc→Option (List Zc))} {Xi:(Zc→Option (List Zc))} {Xx:(Zc→Option (List Zc))} (Zdv:Zdt Xf) (Zd3:Zah Xi) (Zfm:Zcf Xx) {a0:Zc} {r:(List Zc)} {O:Objs} {n:Nat} (h:Uy Xf Xi Xx a0=some r):GTo Try.prog 34 [.agg (Ze a0)] O n ((sL Zn r)) O n:=by
 unfold Uy at h
 refine zFn Try.call34 Try.func34 fun hU hN0 hN => ?_
 show W _ _ _ _ ⟨78,[],[(0,.agg (Ze a0))]⟩ (Zq O n []) _
 refine zQ [1] ?_
 refine zQ [1,3] ?_
 refine Zk ?_
 refine zRd [1,3,4] [true,true,true] ?_
 refine Zk ?_
 obtain ⟨y2,hy2,h⟩:=bC h
 refine zCd (Zs9 hy2) [1,3,4,5] [true,true,true,true] ?_
 refine zQ [1,3,4,5,7] ?_
 refine Zk ?_
 refine zQd [3,4,5,7,19,20,21] [3,4,5,7,19,20,21] [true,true,true,true] ?_
 refine Q6 (E':=(⟨78,[],[(3,.ref (n+1) 0),(4,.ref (n+2) 0),(5,.ref (n+3) 0),(7,.fn 47 0 [.ref (n+2) 0,.ref (n+1) 0,.ref n 0,.ref (n+3) 0]),(19,(sL Zd a0.Ops)),(20,(vI (a0.Ops.length:Int))),(21,(vI 0))]⟩:Env)) (O':=(Zq O n [some ⟨false,30,11,1,(Ze a0)⟩,some ⟨false,35,1,1,[.row (n+4) ([]:List Zc).length]⟩,some ⟨false,3,1,1,[(vI 0)]⟩,some ⟨false,3,1,1,[(vI y2.1)]⟩,some (oR 30 11 Zn ([]:List Zc)),none])) (n':=(n+6)) ?_ ?_
 ·refine Fit2.trans (E':=(⟨78,[],[(3,.ref (n+1) 0),(4,.ref (n+2) 0),(5,.ref (n+3) 0),(7,.fn 47 0 [.ref (n+2) 0,.ref (n+1) 0,.ref n 0,.ref (n+3) 0]),(19,(sL Zd a0.Ops)),(20,(vI (a0.Ops.length:Int))),(21,(vI 0))]⟩:Env)) (O':=(Zq O n [some ⟨false,30,11,1,(Ze a0)⟩,some ⟨false,35,1,1,[nV]⟩,some ⟨false,3,1,1,[(vI 0)]⟩,some ⟨false,3,1,1,[(vI y2.1)]⟩])) (n':=(n+4)) (Fit2.of (Z9 hU rfl rfl ?_) (by omega)) ?_
  ·exact zSe
  refine Fit2.trans (G7 (p:=(n+1)) (k:=0) (q:=⟨false,35,1,1,[nV]⟩) 30 11 (by simp only [Ge,Zdn,List.getElem?_cons_zero,List.getElem?_cons_succ,Option.join_some,List.length_nil,Z8]) rfl (by omega)) ?_
  simp only [Y4,Ym,Gm,V8,List.set_cons_zero,List.set_cons_succ,List.cons_append,List.nil_append,List.length_cons,List.length_nil,Nat.zero_add,Nat.reduceAdd,Nat.reduceLT,Nat.add_assoc]
  refine X0 (k:=5) (k':=6) hU [0,1,2,3,4] [0,1,2,3,4,0] rfl rfl rfl rfl ⟨rfl,rfl⟩ ?_
  exact zSe
 obtain ⟨z21,hz21,h⟩:=bC h
 refine Yo (E':=⟨78,[],[(3,.ref (n+1) 0)]⟩) (O':=(Zq O n [none,some ⟨false,35,1,1,[.row (n+4) z21.length]⟩,none,none,some (oR 30 11 Zn z21),none])) (n0:=(n+6)) ?_ ?_
 ·refine Y2 hz21 (fun s0_=>⟨78,[],[(3,.ref (n+1) 0),(4,.ref (n+2) 0),(5,.ref (n+3) 0),(7,.fn 47 0 [.ref (n+2) 0,.ref (n+1) 0,.ref n 0,.ref (n+3) 0]),(19,(sL Zd a0.Ops)),(20,(vI (a0.Ops.length:Int))),(21,(vI s0_.1))]⟩) (fun s0_=>(Zq O n [some ⟨false,30,11,1,[(vI s0_.2.1),(vI s0_.2.2.1),(sL (eI .u64) s0_.2.2.2.1),(sL Za s0_.2.2.2.2.1),(vI s0_.2.2.2.2.2.1),(sL (eI .u64) s0_.2.2.2.2.2.2.1),(sL Za s0_.2.2.2.2.2.2.2.1),(sL Zf s0_.2.2.2.2.2.2.2.2.1),(sL Zh s0_.2.2.2.2.2.2.2.2.2.1),(vI s0_.2.2.2.2.2.2.2.2.2.2.1),(sL Zd s0_.2.2.2.2.2.2.2.2.2.2.2.1)]⟩,some ⟨false,35,1,1,[.row (n+4) s0_.2.2.2.2.2.2.2.2.2.2.2.2.2.2.length]⟩,some ⟨false,3,1,1,[(vI s0_.2.2.2.2.2.2.2.2.2.2.2.2.1)]⟩,some ⟨false,3,1,1,[(vI s0_.2.2.2.2.2.2.2.2.2.2.2.2.2.1)]⟩,some (oR 30 11 Zn s0_.2.2.2.2.2.2.2.2.2.2.2.2.2.2),none])) (fun z21=>JX 0 n (⟨78,[],[(3,.ref (n+1) 0)]⟩:Env) (Zq O n [none,some ⟨false,35,1,1,[.row (n+4) z21.length]⟩,none,none,some (oR 30 11 Zn z21),none]) (n+6)) ?_
  intro s0_ x0_ hs0_
  unfold Vs at hs0_
  try dsimp only
  refine zQ [3,4,5,7,19,20,21,22] ?_
  refine Zk ?_
  refine Zp (t:=(decide (s0_.1 < (a0.Ops.length:Int)))) rfl (fun c20 => ?_) (fun c20 => ?_)
  ·replace hs0_:=Zt c20 hs0_
   refine Ky [3,4,5,7,19,20,21] [true,true,true,true,true,false] ?_
   obtain ⟨z3,hz3,hs0_⟩:=bC hs0_
   refine Xe (E':=⟨78,[],[(3,.ref (n+1) 0),(4,.ref (n+2) 0),(5,.ref (n+3) 0),(7,.fn 47 0 [.ref (n+2) 0,.ref (n+1) 0,.ref n 0,.ref (n+3) 0]),(19,(sL Zd a0.Ops)),(20,(vI (a0.Ops.length:Int))),(21,(vI s0_.1))]⟩) (O':=(Zq O n [some ⟨false,30,11,1,[(vI z3.1),(vI z3.2.1),(sL (eI .u64) z3.2.2.1),(sL Za z3.2.2.2.1),(vI z3.2.2.2.2.1),(sL (eI .u64) z3.2.2.2.2.2.1),(sL Za z3.2.2.2.2.2.2.1),(sL Zf z3.2.2.2.2.2.2.2.1),(sL Zh z3.2.2.2.2.2.2.2.2.1),(vI z3.2.2.2.2.2.2.2.2.2.1),(sL Zd z3.2.2.2.2.2.2.2.2.2.2.1)]⟩,some ⟨false,35,1,1,[.row (n+9) z3.2.2.2.2.2.2.2.2.2.2.2.2.2.length]⟩,some ⟨false,3,1,1,[(vI z3.2.2.2.2.2.2.2.2.2.2.2.1)]⟩,some ⟨false,3,1,1,[(vI z3.2.2.2.2.2.2.2.2.2.2.2.2.1)]⟩,none,none,none,none,none,some (oR 30 11 Zn z3.2.2.2.2.2.2.2.2.2.2.2.2.2),none])) (n0:=(n+11)) ?_ ?_
   ·refine Yd ?_
    refine Zk ?_
    obtain ⟨x5,hx5,ax5,bx5,cx5,hz3⟩:=bE (f:=Zd) Zbm (fun _=>rfl) (by decide) hz3
    refine Zcg [] ax5 bx5 cx5 ?_
    refine zD [3,4,5,7,9,19,20,21] [true,true,true,true,true,false,true] ?_
    refine zQ [3,4,5,7,9,19,20,21,26] ?_
    refine Yd ?_
    refine zQ [3,4,5,7,9,19,20,21,26,27] ?_
    refine Zp (t:=(x5.Kind == 0)) rfl (fun c19 => ?_) (fun c19 => ?_)
    ·replace hz3:=Zt c19 hz3
     refine Zae Z0 (by kernel_rfl) [.plain,.plain,.plain,.plain,.low,.low,.low,.low,.pass,.bar] (fun i=>i≠n+2) [0,1,2,3,4,5,6,7,8,9] [.plain,.plain,.plain,.plain,.low,.low,.low,.low,.pass,.bar] [] (by kernel_rfl) rfl ?_
     refine zS ?_
     refine zO ?_
     obtain rfl:=sI hz3
     refine And.intro rfl ?_
     refine Fit2.trans (E':=(⟨78,[],[(3,.ref (n+1) 0),(4,.ref (n+2) 0),(5,.ref (n+3) 0),(7,.fn 47 0 [.ref (n+2) 0,.ref (n+1) 0,.ref n 0,.ref (n+3) 0]),(19,(sL Zd a0.Ops)),(20,(vI (a0.Ops.length:Int))),(21,(vI s0_.1))]⟩:Env)) (O':=(Zq O n [some ⟨false,30,11,1,[(vI s0_.2.1),(vI s0_.2.2.1),(sL (eI .u64) s0_.2.2.2.1),(sL Za s0_.2.2.2.2.1),(vI s0_.2.2.2.2.2.1),(sL (eI .u64) s0_.2.2.2.2.2.2.1),(sL Za s0_.2.2.2.2.2.2.2.1),(sL Zf s0_.2.2.2.2.2.2.2.2.1),(sL Zh s0_.2.2.2.2.2.2.2.2.2.1),(vI s0_.2.2.2.2.2.2.2.2.2.2.1),(sL Zd s0_.2.2.2.2.2.2.2.2.2.2.2.1)]⟩,some ⟨false,35,1,1,[.row (n+4) s0_.2.2.2.2.2.2.2.2.2.2.2.2.2.2.length]⟩,some ⟨false,3,1,1,[(vI (IntKind.i64.wrap (s0_.2.2.2.2.2.2.2.2.2.2.2.2.1+x5.N)))]⟩,some ⟨false,3,1,1,[(vI (IntKind.i64.wrap (s0_.2.2.2.2.2.2.2.2.2.2.2.2.2.1 - x5.N)))]⟩,some (oR 30 11 Zn s0_.2.2.2.2.2.2.2.2.2.2.2.2.2.2),none,none])) (n':=(n+7)) (Fit2.of (Z9 hU rfl rfl ?_) (by omega)) ?_
     ·exact zSe
     refine X0 (k:=7) (k':=11) hU [0,1,2,3,9,10,10] [0,1,2,3,0,0,0,0,0,4,0] rfl rfl rfl rfl ⟨rfl,rfl⟩ ?_
     exact zSe
    replace hz3:=Zs c19 hz3
    refine zQ [3,4,5,7,9,19,20,21,26,37] ?_
    refine Zp (t:=(x5.Kind == 1)) rfl (fun c18 => ?_) (fun c18 => ?_)
    ·replace hz3:=Zt c18 hz3
     refine Zk ?_
     refine zRd [3,4,5,7,9,19,20,21] [true,true,true,true,true,false,true] ?_
     obtain ⟨y6,hy6,hz3⟩:=bC hz3
     refine zR ?_
     refine (Zfn (i1:=(n+2)) (i2:=(n+1)) (i3:=n) (i4:=(n+3)) (j2_0:=(n+4)) (by omega) (by omega) (by omega) (by omega) (by omega) (by omega) (by omega) (by omega) (by omega) (by omega) (by omega) (by omega) (by omega) (by omega) (by omega) (by simp only [push_cast,seval,Zi,Yl,hN0,hN] <;> rfl) (by simp only [push_cast,seval,Zi,Yl,hN0,hN] <;> rfl) (by simp only [push_cast,seval,Zi,Yl,hN0,hN] <;> rfl) (by simp only [push_cast,seval,Zi,Yl,hN0,hN] <;> rfl) (by simp only [push_cast,seval,Zi,Yl,hN0,hN] <;> rfl) hy6).then ?_
     refine zS ?_
     obtain rfl:=sI hz3
     refine And.intro rfl ?_
     refine Fit2.trans (E':=(⟨78,[],[(3,.ref (n+1) 0),(4,.ref (n+2) 0),(5,.ref (n+3) 0),(7,.fn 47 0 [.ref (n+2) 0,.ref (n+1) 0,.ref n 0,.ref (n+3) 0]),(19,(sL Zd a0.Ops)),(20,(vI (a0.Ops.length:Int))),(21,(vI s0_.1))]⟩:Env)) (O':=(Zq O n [some ⟨false,30,11,1,(Ze y6.2.2.1)⟩,some ⟨false,35,1,1,[.row (n+7) y6.2.1.length]⟩,some ⟨false,3,1,1,[(vI y6.1)]⟩,some ⟨false,3,1,1,[(vI y6.2.2.2)]⟩,none,none,none,some (oR 30 11 Zn y6.2.1)])) (n':=(n+8)) (Fit2.of (Z9 hU rfl rfl ?_) (by omega)) ?_
     ·exact zSe
     refine X0 (k:=8) (k':=11) hU [0,1,2,3,10,10,10,9] [0,1,2,3,0,0,0,0,0,7,0] rfl rfl rfl rfl ⟨rfl,rfl⟩ ?_
     exact zSe
    replace hz3:=Zs c18 hz3
    refine zQ [3,4,5,7,9,19,20,21,26,47] ?_
    refine Zp (t:=(x5.Kind == 2)) rfl (fun c17 => ?_) (fun c17 => ?_)
    ·replace hz3:=Zt c17 hz3
     refine Zk ?_
     obtain ⟨y8,hy8,hz3⟩:=bC hz3
     refine zR ?_
     refine (Zfn (i1:=(n+2)) (i2:=(n+1)) (i3:=n) (i4:=(n+3)) (j2_0:=(n+4)) (by omega) (by omega) (by omega) (by omega) (by omega) (by omega) (by omega) (by omega) (by omega) (by omega) (by omega) (by omega) (by omega) (by omega) (by omega) (by simp only [push_cast,seval,Zi,Yl,hN0,hN] <;> rfl) (by simp only [push_cast,seval,Zi,Yl,hN0,hN] <;> rfl) (by simp only [push_cast,seval,Zi,Yl,hN0,hN] <;> rfl) (by simp only [push_cast,seval,Zi,Yl,hN0,hN] <;> rfl) (by simp only [push_cast,seval,Zi,Yl,hN0,hN] <;> rfl) hy8).then ?_
     refine zS ?_
     refine zD [3,4,5,7,9,19,20,21] [true,true,true,true,false,false,true,true] ?_
     refine zR ?_
     obtain rfl:=sI hz3
     refine And.intro rfl ?_
     refine Fit2.trans (E':=(⟨78,[],[(3,.ref (n+1) 0),(4,.ref (n+2) 0),(5,.ref (n+3) 0),(7,.fn 47 0 [.ref (n+2) 0,.ref (n+1) 0,.ref n 0,.ref (n+3) 0]),(19,(sL Zd a0.Ops)),(20,(vI (a0.Ops.length:Int))),(21,(vI s0_.1))]⟩:Env)) (O':=(Zq O n [some ⟨false,30,11,1,(Ze y8.2.2.1)⟩,some ⟨false,35,1,1,[.row (n+7) y8.2.1.length]⟩,some ⟨false,3,1,1,[(vI (IntKind.i64.wrap (y8.1+(x5.L.length:Int))))]⟩,some ⟨false,3,1,1,[(vI y8.2.2.2)]⟩,none,none,none,some (oR 30 11 Zn y8.2.1)])) (n':=(n+8)) (Fit2.of (Z9 hU rfl rfl ?_) (by omega)) ?_
     ·exact zSe
     refine X0 (k:=8) (k':=11) hU [0,1,2,3,10,10,10,9] [0,1,2,3,0,0,0,0,0,7,0] rfl rfl rfl rfl ⟨rfl,rfl⟩ ?_
     exact zSe
    replace hz3:=Zs c17 hz3
    refine zQ [3,4,5,7,9,19,20,21,57] ?_
    refine Zp (t:=(x5.Kind == 3)) rfl (fun c16 => ?_) (fun c16 => ?_)
    ·replace hz3:=Zt c16 hz3
     refine Zk ?_
     refine zRd [3,4,5,7,9,19,20,21] [true,true,true,true,true,false,true] ?_
     refine Zk ?_
     refine Zk ?_
     obtain ⟨y10,hy10,hz3⟩:=bC hz3
     refine zCd (Zdv hy10) [3,4,5,7,19,20,21,63,64,65] [true,true,true,true,true,false,false] ?_
     refine zD [3,4,5,7,19,20,21,63,64,65] [true,true,true,true,true,false,false] ?_
     refine Q6 (E':=(⟨78,[],[(3,.ref (n+1) 0),(4,.ref (n+2) 0),(5,.ref (n+3) 0),(7,.fn 47 0 [.ref (n+2) 0,.ref (n+1) 0,.ref n 0,.ref (n+3) 0]),(19,(sL Zd a0.Ops)),(20,(vI (a0.Ops.length:Int))),(21,(vI s0_.1)),(63,(sL Zn y10)),(64,(vI (y10.length:Int))),(65,(vI 0))]⟩:Env)) (O':=(Zq O n [some ⟨false,30,11,1,[(vI s0_.2.1),(vI s0_.2.2.1),(sL (eI .u64) s0_.2.2.2.1),(sL Za s0_.2.2.2.2.1),(vI s0_.2.2.2.2.2.1),(sL (eI .u64) s0_.2.2.2.2.2.2.1),(sL Za s0_.2.2.2.2.2.2.2.1),(sL Zf s0_.2.2.2.2.2.2.2.2.1),(sL Zh s0_.2.2.2.2.2.2.2.2.2.1),(vI s0_.2.2.2.2.2.2.2.2.2.2.1),(sL Zd s0_.2.2.2.2.2.2.2.2.2.2.2.1)]⟩,some ⟨false,35,1,1,[.row (n+7) s0_.2.2.2.2.2.2.2.2.2.2.2.2.2.2.length]⟩,some ⟨false,3,1,1,[(vI s0_.2.2.2.2.2.2.2.2.2.2.2.2.1)]⟩,some ⟨false,3,1,1,[(vI (IntKind.i64.wrap (s0_.2.2.2.2.2.2.2.2.2.2.2.2.2.1 - 1)))]⟩,none,none,none,some (oR 30 11 Zn s0_.2.2.2.2.2.2.2.2.2.2.2.2.2.2),none])) (n':=(n+9)) ?_ ?_
     ·refine Fit2.trans (E':=(⟨78,[],[(3,.ref (n+1) 0),(4,.ref (n+2) 0),(5,.ref (n+3) 0),(7,.fn 47 0 [.ref (n+2) 0,.ref (n+1) 0,.ref n 0,.ref (n+3) 0]),(19,(sL Zd a0.Ops)),(20,(vI (a0.Ops.length:Int))),(21,(vI s0_.1)),(63,(sL Zn y10)),(64,(vI (y10.length:Int))),(65,(vI 0))]⟩:Env)) (O':=(Zq O n [some ⟨false,30,11,1,[(vI s0_.2.1),(vI s0_.2.2.1),(sL (eI .u64) s0_.2.2.2.1),(sL Za s0_.2.2.2.2.1),(vI s0_.2.2.2.2.2.1),(sL (eI .u64) s0_.2.2.2.2.2.2.1),(sL Za s0_.2.2.2.2.2.2.2.1),(sL Zf s0_.2.2.2.2.2.2.2.2.1),(sL Zh s0_.2.2.2.2.2.2.2.2.2.1),(vI s0_.2.2.2.2.2.2.2.2.2.2.1),(sL Zd s0_.2.2.2.2.2.2.2.2.2.2.2.1)]⟩,some ⟨false,35,1,1,[.row (n+4) s0_.2.2.2.2.2.2.2.2.2.2.2.2.2.2.length]⟩,some ⟨false,3,1,1,[(vI s0_.2.2.2.2.2.2.2.2.2.2.2.2.1)]⟩,some ⟨false,3,1,1,[(vI (IntKind.i64.wrap (s0_.2.2.2.2.2.2.2.2.2.2.2.2.2.1 - 1)))]⟩,some (oR 30 11 Zn s0_.2.2.2.2.2.2.2.2.2.2.2.2.2.2),none,none])) (n':=(n+7)) (Fit2.of (Z9 hU rfl rfl ?_) (by omega)) ?_
      ·exact zSe
      refine X0 (k:=7) (k':=9) hU [0,1,2,3,7,8,8] [0,1,2,3,0,0,0,4,0] rfl rfl rfl rfl ⟨rfl,rfl⟩ ?_
      exact zSe
     obtain ⟨z15,hz15,hz3⟩:=bC hz3
     refine Yo (E':=⟨78,[],[(3,.ref (n+1) 0),(4,.ref (n+2) 0),(5,.ref (n+3) 0),(7,.fn 47 0 [.ref (n+2) 0,.ref (n+1) 0,.ref n 0,.ref (n+3) 0]),(19,(sL Zd a0.Ops)),(20,(vI (a0.Ops.length:Int))),(21,(vI s0_.1))]⟩) (O':=(Zq O n [some ⟨false,30,11,1,[(vI z15.1),(vI z15.2.1),(sL (eI .u64) z15.2.2.1),(sL Za z15.2.2.2.1),(vI z15.2.2.2.2.1),(sL (eI .u64) z15.2.2.2.2.2.1),(sL Za z15.2.2.2.2.2.2.1),(sL Zf z15.2.2.2.2.2.2.2.1),(sL Zh z15.2.2.2.2.2.2.2.2.1),(vI z15.2.2.2.2.2.2.2.2.2.1),(sL Zd z15.2.2.2.2.2.2.2.2.2.2.1)]⟩,some ⟨false,35,1,1,[.row (n+7) z15.2.2.2.2.2.2.2.2.2.2.2.2.2.length]⟩,some ⟨false,3,1,1,[(vI z15.2.2.2.2.2.2.2.2.2.2.2.1)]⟩,some ⟨false,3,1,1,[(vI z15.2.2.2.2.2.2.2.2.2.2.2.2.1)]⟩,none,none,none,some (oR 30 11 Zn z15.2.2.2.2.2.2.2.2.2.2.2.2.2),none])) (n0:=(n+9)) ?_ ?_
     ·refine Y2 hz15 (fun s1_=>⟨78,[],[(3,.ref (n+1) 0),(4,.ref (n+2) 0),(5,.ref (n+3) 0),(7,.fn 47 0 [.ref (n+2) 0,.ref (n+1) 0,.ref n 0,.ref (n+3) 0]),(19,(sL Zd a0.Ops)),(20,(vI (a0.Ops.length:Int))),(21,(vI s0_.1)),(63,(sL Zn y10)),(64,(vI (y10.length:Int))),(65,(vI s1_.1))]⟩) (fun s1_=>(Zq O n [some ⟨false,30,11,1,[(vI s1_.2.1),(vI s1_.2.2.1),(sL (eI .u64) s1_.2.2.2.1),(sL Za s1_.2.2.2.2.1),(vI s1_.2.2.2.2.2.1),(sL (eI .u64) s1_.2.2.2.2.2.2.1),(sL Za s1_.2.2.2.2.2.2.2.1),(sL Zf s1_.2.2.2.2.2.2.2.2.1),(sL Zh s1_.2.2.2.2.2.2.2.2.2.1),(vI s1_.2.2.2.2.2.2.2.2.2.2.1),(sL Zd s1_.2.2.2.2.2.2.2.2.2.2.2.1)]⟩,some ⟨false,35,1,1,[.row (n+7) s1_.2.2.2.2.2.2.2.2.2.2.2.2.2.2.length]⟩,some ⟨false,3,1,1,[(vI s1_.2.2.2.2.2.2.2.2.2.2.2.2.1)]⟩,some ⟨false,3,1,1,[(vI s1_.2.2.2.2.2.2.2.2.2.2.2.2.2.1)]⟩,none,none,none,some (oR 30 11 Zn s1_.2.2.2.2.2.2.2.2.2.2.2.2.2.2),none])) (fun z15=>JX 3 n (⟨78,[],[(3,.ref (n+1) 0),(4,.ref (n+2) 0),(5,.ref (n+3) 0),(7,.fn 47 0 [.ref (n+2) 0,.ref (n+1) 0,.ref n 0,.ref (n+3) 0]),(19,(sL Zd a0.Ops)),(20,(vI (a0.Ops.length:Int))),(21,(vI s0_.1))]⟩:Env) (Zq O n [some ⟨false,30,11,1,[(vI z15.1),(vI z15.2.1),(sL (eI .u64) z15.2.2.1),(sL Za z15.2.2.2.1),(vI z15.2.2.2.2.1),(sL (eI .u64) z15.2.2.2.2.2.1),(sL Za z15.2.2.2.2.2.2.1),(sL Zf z15.2.2.2.2.2.2.2.1),(sL Zh z15.2.2.2.2.2.2.2.2.1),(vI z15.2.2.2.2.2.2.2.2.2.1),(sL Zd z15.2.2.2.2.2.2.2.2.2.2.1)]⟩,some ⟨false,35,1,1,[.row (n+7) z15.2.2.2.2.2.2.2.2.2.2.2.2.2.length]⟩,some ⟨false,3,1,1,[(vI z15.2.2.2.2.2.2.2.2.2.2.2.1)]⟩,some ⟨false,3,1,1,[(vI z15.2.2.2.2.2.2.2.2.2.2.2.2.1)]⟩,none,none,none,some (oR 30 11 Zn z15.2.2.2.2.2.2.2.2.2.2.2.2.2),none]) (n+9)) ?_
      intro s1_ x1_ hs1_
      unfold Vt at hs1_
      try dsimp only
      refine zQ [3,4,5,7,19,20,21,63,64,65,66] ?_
      refine Zk ?_
      refine Zp (t:=(decide (s1_.1 < (y10.length:Int)))) rfl (fun c14 => ?_) (fun c14 => ?_)
      ·replace hs1_:=Zt c14 hs1_
       refine Ky [3,4,5,7,19,20,21,63,64,65] [true,true,true,true,false,false,false,true,false] ?_
       refine Zk ?_
       refine Yd ?_
       refine Zk ?_
       obtain ⟨x12,hx12,ax12,bx12,cx12,hs1_⟩:=bE (f:=Zn) Ziy (fun _=>rfl) (by decide) hs1_
       refine Zcg [] ax12 bx12 cx12 ?_
       refine zD [3,4,5,7,11,19,20,21,63,64,65] [true,true,true,true,false,false,false,true,false,true] ?_
       obtain ⟨y13,hy13,hs1_⟩:=bC hs1_
       refine zR ?_
       refine GCalls.argsW ?_ ((Zfn (i1:=(n+2)) (i2:=(n+1)) (i3:=n) (i4:=(n+3)) (j2_0:=(n+7)) (by omega) (by omega) (by omega) (by omega) (by omega) (by omega) (by omega) (by omega) (by omega) (by omega) (by omega) (by omega) (by omega) (by omega) (by omega) (by simp only [push_cast,seval,Zi,Yl,hN0,hN] <;> rfl) (by simp only [push_cast,seval,Zi,Yl,hN0,hN] <;> rfl) (by simp only [push_cast,seval,Zi,Yl,hN0,hN] <;> rfl) (by simp only [push_cast,seval,Zi,Yl,hN0,hN] <;> rfl) (by simp only [push_cast,seval,Zi,Yl,hN0,hN] <;> rfl) hy13).then ?_)
       ·exact zSe
       refine zS ?_
       refine zD [3,4,5,7,19,20,21,63,64,65] [true,true,true,true,false,false,false,false,false,false,true] ?_
       refine zR ?_
       obtain rfl:=sI hs1_
       refine And.intro rfl ?_
       refine Fit2.trans (E':=(⟨78,[],[(3,.ref (n+1) 0),(4,.ref (n+2) 0),(5,.ref (n+3) 0),(7,.fn 47 0 [.ref (n+2) 0,.ref (n+1) 0,.ref n 0,.ref (n+3) 0]),(19,(sL Zd a0.Ops)),(20,(vI (a0.Ops.length:Int))),(21,(vI s0_.1)),(63,(sL Zn y10)),(64,(vI (y10.length:Int))),(65,(vI (IntKind.i64.wrap (s1_.1+1))))]⟩:Env)) (O':=(Zq O n [some ⟨false,30,11,1,(Ze y13.2.2.1)⟩,some ⟨false,35,1,1,[.row (n+10) y13.2.1.length]⟩,some ⟨false,3,1,1,[(vI y13.1)]⟩,some ⟨false,3,1,1,[(vI y13.2.2.2)]⟩,none,none,none,none,none,none,some (oR 30 11 Zn y13.2.1)])) (n':=(n+11)) (Fit2.of (Z9 hU rfl rfl ?_) (by omega)) ?_
       ·exact zSe
       refine X0 (k:=11) (k':=9) hU [0,1,2,3,8,8,8,8,8,8,7] [0,1,2,3,0,0,0,10,0] rfl rfl rfl rfl ⟨rfl,rfl⟩ ?_
       exact zSe
      replace hs1_:=Zs c14 hs1_
      exact zEx hs1_
     try simp only [Y1,Yc,↓reduceIte,Nat.reduceEqDiff]
     refine zD [3,4,5,7,19,20,21] [true,true,true,true,false,false,false,true,false] ?_
     refine zR ?_
     obtain rfl:=sI hz3
     refine And.intro rfl ?_
     refine Fit2.trans (E':=(⟨78,[],[(3,.ref (n+1) 0),(4,.ref (n+2) 0),(5,.ref (n+3) 0),(7,.fn 47 0 [.ref (n+2) 0,.ref (n+1) 0,.ref n 0,.ref (n+3) 0]),(19,(sL Zd a0.Ops)),(20,(vI (a0.Ops.length:Int))),(21,(vI s0_.1))]⟩:Env)) (O':=(Zq O n [some ⟨false,30,11,1,[(vI z15.1),(vI z15.2.1),(sL (eI .u64) z15.2.2.1),(sL Za z15.2.2.2.1),(vI z15.2.2.2.2.1),(sL (eI .u64) z15.2.2.2.2.2.1),(sL Za z15.2.2.2.2.2.2.1),(sL Zf z15.2.2.2.2.2.2.2.1),(sL Zh z15.2.2.2.2.2.2.2.2.1),(vI z15.2.2.2.2.2.2.2.2.2.1),(sL Zd z15.2.2.2.2.2.2.2.2.2.2.1)]⟩,some ⟨false,35,1,1,[.row (n+7) z15.2.2.2.2.2.2.2.2.2.2.2.2.2.length]⟩,some ⟨false,3,1,1,[(vI (IntKind.i64.wrap (z15.2.2.2.2.2.2.2.2.2.2.2.1+1)))]⟩,some ⟨false,3,1,1,[(vI z15.2.2.2.2.2.2.2.2.2.2.2.2.1)]⟩,none,none,none,some (oR 30 11 Zn z15.2.2.2.2.2.2.2.2.2.2.2.2.2),none])) (n':=(n+9)) (Fit2.of (Z9 hU rfl rfl ?_) (by omega)) ?_
     ·exact zSe
     refine X0 (k:=9) (k':=11) hU [0,1,2,3,10,10,10,9,10] [0,1,2,3,0,0,0,0,0,7,0] rfl rfl rfl rfl ⟨rfl,rfl⟩ ?_
     exact zSe
    replace hz3:=Zs c16 hz3
    refine zK ?_
    obtain rfl:=sI hz3
    refine And.intro rfl ?_
    refine Fit2.trans (E':=(⟨78,[],[(3,.ref (n+1) 0),(4,.ref (n+2) 0),(5,.ref (n+3) 0),(7,.fn 47 0 [.ref (n+2) 0,.ref (n+1) 0,.ref n 0,.ref (n+3) 0]),(19,(sL Zd a0.Ops)),(20,(vI (a0.Ops.length:Int))),(21,(vI s0_.1))]⟩:Env)) (O':=(Zq O n [some ⟨false,30,11,1,[(vI s0_.2.1),(vI s0_.2.2.1),(sL (eI .u64) s0_.2.2.2.1),(sL Za s0_.2.2.2.2.1),(vI s0_.2.2.2.2.2.1),(sL (eI .u64) s0_.2.2.2.2.2.2.1),(sL Za s0_.2.2.2.2.2.2.2.1),(sL Zf s0_.2.2.2.2.2.2.2.2.1),(sL Zh s0_.2.2.2.2.2.2.2.2.2.1),(vI s0_.2.2.2.2.2.2.2.2.2.2.1),(sL Zd s0_.2.2.2.2.2.2.2.2.2.2.2.1)]⟩,some ⟨false,35,1,1,[.row (n+4) s0_.2.2.2.2.2.2.2.2.2.2.2.2.2.2.length]⟩,some ⟨false,3,1,1,[(vI s0_.2.2.2.2.2.2.2.2.2.2.2.2.1)]⟩,some ⟨false,3,1,1,[(vI s0_.2.2.2.2.2.2.2.2.2.2.2.2.2.1)]⟩,some (oR 30 11 Zn s0_.2.2.2.2.2.2.2.2.2.2.2.2.2.2),none,none])) (n':=(n+7)) (Fit2.of (Z9 hU rfl rfl ?_) (by omega)) ?_
    ·exact zSe
    refine X0 (k:=7) (k':=11) hU [0,1,2,3,9,10,10] [0,1,2,3,0,0,0,0,0,4,0] rfl rfl rfl rfl ⟨rfl,rfl⟩ ?_
    exact zSe
   refine zR ?_
   obtain rfl:=sI hs0_
   refine And.intro rfl ?_
   refine Fit2.trans (E':=(⟨78,[],[(3,.ref (n+1) 0),(4,.ref (n+2) 0),(5,.ref (n+3) 0),(7,.fn 47 0 [.ref (n+2) 0,.ref (n+1) 0,.ref n 0,.ref (n+3) 0]),(19,(sL Zd a0.Ops)),(20,(vI (a0.Ops.length:Int))),(21,(vI (IntKind.i64.wrap (s0_.1+1))))]⟩:Env)) (O':=(Zq O n [some ⟨false,30,11,1,[(vI z3.1),(vI z3.2.1),(sL (eI .u64) z3.2.2.1),(sL Za z3.2.2.2.1),(vI z3.2.2.2.2.1),(sL (eI .u64) z3.2.2.2.2.2.1),(sL Za z3.2.2.2.2.2.2.1),(sL Zf z3.2.2.2.2.2.2.2.1),(sL Zh z3.2.2.2.2.2.2.2.2.1),(vI z3.2.2.2.2.2.2.2.2.2.1),(sL Zd z3.2.2.2.2.2.2.2.2.2.2.1)]⟩,some ⟨false,35,1,1,[.row (n+9) z3.2.2.2.2.2.2.2.2.2.2.2.2.2.length]⟩,some ⟨false,3,1,1,[(vI z3.2.2.2.2.2.2.2.2.2.2.2.1)]⟩,some ⟨false,3,1,1,[(vI z3.2.2.2.2.2.2.2.2.2.2.2.2.1)]⟩,none,none,none,none,none,some (oR 30 11 Zn z3.2.2.2.2.2.2.2.2.2.2.2.2.2),none])) (n':=(n+11)) (Fit2.of (Z9 hU rfl rfl ?_) (by omega)) ?_
   ·exact zSe
   refine X0 (k:=11) (k':=6) hU [0,1,2,3,5,5,5,5,5,4,5] [0,1,2,3,9,0] rfl rfl rfl rfl ⟨rfl,rfl⟩ ?_
   exact zSe
  replace hs0_:=Zs c20 hs0_
  exact zEx hs0_
 try simp only [Y1,Yc,↓reduceIte,Nat.reduceEqDiff]
 refine zD [3] [false,true,false,false,true,false] ?_
 refine zQ [2] ?_
 exact Y9 [.row (n+4) z21.length]
theorem Zpo:∀ k,(Zdt ((Z3 k).1))∧(Zah ((Z3 k).2.1))∧(Zcf ((Z3 k).2.2)):=fun k=>by
 induction k with
 | zero=>exact ⟨@fun a0 r O n h=>(nomatch (show (none:Option _)=some _ from h)),@fun a0 r O n h=>(nomatch (show (none:Option _)=some _ from h)),@fun a0 r O n h=>(nomatch (show (none:Option _)=some _ from h))⟩
 | succ k ih=>exact ⟨@fun a0 r O n h=>Ztb (ih.1) (ih.2.1) (ih.2.2)  h,@fun a0 r O n h=>Zok (ih.1) (ih.2.1) (ih.2.2)  h,@fun a0 r O n h=>Zry (ih.1) (ih.2.1) (ih.2.2)  h⟩
theorem Zvi {a0:Zc} {r:(List Zc)} {O:Objs} {n:Nat} (h:Zg2 a0=some r):GTo Try.prog 19 [.agg (Ze a0)] O n ((sL Zn r)) O n:=by
 obtain ⟨k,hk⟩:=Gt h
 exact (Zpo k).1  hk
theorem Zmb {a0:Zc} {r:(List Zc)} {O:Objs} {n:Nat} (h:Uo a0=some r):GTo Try.prog 8 [.agg (Ze a0)] O n ((sL Zn r)) O n:=by
 unfold Uo at h
 refine zFn Try.call8 Try.func8 fun hU hN0 hN => ?_
 show W _ _ _ _ ⟨6,[],[(0,.agg (Ze a0))]⟩ (Zq O n []) _
 refine zQ [1] ?_
 refine Zk ?_
 obtain ⟨y3,hy3,h⟩:=bC h
 obtain ⟨y4,hy4,h⟩:=bC h
 refine zC (Zl8 hy3) ?_
 refine zTs (Zvi hy4) ?_
 refine zD [2] [false] ?_
 exact Y9 [(sL Zn y4)]
theorem Zw9 {a0:Zl} {r:Int} {O:Objs} {n:Nat} (h:Zks a0=some r):GTo Try.prog 88 [.agg (Yy a0)] O n ((vI r)) O n:=by
 unfold Zks at h
 refine zFn Try.call88 Try.func88 fun hU hN0 hN => ?_
 show W _ _ _ _ ⟨15,[],[(0,.agg (Yy a0))]⟩ (Zq O n []) _
 refine zQ [1] ?_
 refine Zk ?_
 refine zQ [1,4] ?_
 refine Yd ?_
 refine zQ [1,4,5] ?_
 refine Zp (t:=(a0.Kind == 0)) rfl (fun c4 => ?_) (fun c4 => ?_)
 ·replace h:=Zt c4 h
  refine zQ [2] ?_
  exact Y9 [(vI a0.N)]
 replace h:=Zs c4 h
 obtain ⟨z1,hz1,h⟩:=bC h
 refine Xe (E':=⟨15,[],[(1,.ref n 0),(9,(vB z1))]⟩) (O':=(Zq O n [some ⟨false,46,14,1,(Yy a0)⟩])) (n0:=(n+1)) ?_ ?_
 ·refine zQ [1,4,9] ?_
  refine Zp (t:=(a0.Kind == 1)) rfl (fun c2 => ?_) (fun c2 => ?_)
  ·replace hz1:=Zt c2 hz1
   refine zK ?_
   exact zEn hz1
  replace hz1:=Zs c2 hz1
  refine zR ?_
  exact zEn hz1
 refine Zp (t:=z1) rfl (fun c3 => ?_) (fun c3 => ?_)
 ·replace h:=Zt c3 h
  refine zQ [2] ?_
  exact Y9 [(vI (a0.L.length:Int))]
 replace h:=Zs c3 h
 refine Ky [] [false] ?_
 refine zQ [2] ?_
 exact Y9 [(vI 1)]
theorem Zhj {a0:Yh} {r:(Int×Int×Yh)} {O:Objs} {n:Nat} {i0:Nat} (hi0:i0 < n) (ho0:O i0=some ⟨false,118,2,1,[(sL Zd a0.left),(vI a0.gone)]⟩) (h:Kq a0=some r):GTo Try.prog 86 [.ref i0 0] O n (.tup [(vI r.1),(vI r.2.1)]) (Zq (O.upd i0 (some ⟨false,118,2,1,[(sL Zd r.2.2.left),(vI r.2.2.gone)]⟩)) n []) (n+0):=by
 unfold Kq at h
 refine Zi9 Z0 Try.call86 Try.func86 rfl (Nat.le_of_ble_eq_true rfl) (by omega) fun hU => ?_
 rw [show Zq O n []=Zq (O.upd i0 (some ⟨false,118,2,1,[(sL Zd a0.left),(vI a0.gone)]⟩)) n [] from by rw [Zki (show O i0=_ from by exact ho0)]]
 have hk0:∀ k,i0 < n+k:=fun k=>by omega
 have hN0:∀ o,Objs.upd O i0 o n=none:=fun o=>X1 hU hi0 _ (Nat.le_refl _)
 have hN:∀ o k,Objs.upd O i0 o (n+k)=none:=fun o k=>X1 hU hi0 _ (Nat.le_add_right _ _)
 show W _ _ _ _ ⟨44,[],[(0,.ref i0 0)]⟩ (Zq (O.upd i0 (some ⟨false,118,2,1,[(sL Zd a0.left),(vI a0.gone)]⟩)) n []) _
 refine Zbd [0] hi0 hk0 ?_
 refine Zk ?_
 refine zD [0] [] ?_
 obtain ⟨z12,hz12,h⟩:=bC h
 refine Zbu (J:=(Ql (fun z12=>JR n (⟨44,[],[(2,(vI z12.1)),(3,(vI z12.2.1))]⟩:Env) (Zq (O.upd i0 (some ⟨false,118,2,1,[(sL Zd z12.2.2.1),(vI z12.2.2.2)]⟩)) n []) n) (fun z12=>JX 0 n (⟨44,[],[]⟩:Env) (Zq (O.upd i0 (some ⟨false,118,2,1,[(sL Zd z12.1),(vI z12.2)]⟩)) n []) n))) (z:=z12) ?_ fun hw => ?_
 ·refine Y2 hz12 (fun s0_=>⟨44,[],[(0,.ref i0 0)]⟩) (fun s0_=>(Zq (O.upd i0 (some ⟨false,118,2,1,[(sL Zd s0_.1),(vI s0_.2)]⟩)) n [])) (Ql (fun z12=>JR n (⟨44,[],[(2,(vI z12.1)),(3,(vI z12.2.1))]⟩:Env) (Zq (O.upd i0 (some ⟨false,118,2,1,[(sL Zd z12.2.2.1),(vI z12.2.2.2)]⟩)) n []) n) (fun z12=>JX 0 n (⟨44,[],[]⟩:Env) (Zq (O.upd i0 (some ⟨false,118,2,1,[(sL Zd z12.1),(vI z12.2)]⟩)) n []) n)) ?_
  intro s0_ x0_ hs0_
  unfold Za6 at hs0_
  try dsimp only
  refine Zk ?_
  refine Zbd [0,10] hi0 hk0 ?_
  refine Zp (t:=(decide (0 < (s0_.1.length:Int)))) rfl (fun c11 => ?_) (fun c11 => ?_)
  ·replace hs0_:=Zt c11 hs0_
   refine Ky [0] [] ?_
   refine Yd ?_
   refine Zk ?_
   refine Zk ?_
   obtain ⟨x3,hx3,ax3,bx3,cx3,hs0_⟩:=bE (f:=Zd) Zbm (fun _=>rfl) (by decide) hs0_
   obtain ⟨y4,hy4,hs0_⟩:=bC hs0_
   refine Kx Z0 (by kernel_rfl) [] (by kernel_rfl) ?_
   refine zF5 ax3 bx3 cx3 hi0 hk0 ?_
   refine PCall.of (Zw9 hy4) ?_
   refine zF5 ax3 bx3 cx3 hi0 hk0 ?_
   refine zD [0,4] [] ?_
   refine Zbd [0,4,24] hi0 hk0 ?_
   refine Zp (t:=(decide (0 < (IntKind.i64.wrap (y4 - s0_.2))))) rfl (fun c10 => ?_) (fun c10 => ?_)
   ·replace hs0_:=Zt c10 hs0_
    obtain ⟨x7,hx7,ax7,bx7,cx7,hs0_⟩:=bE (f:=Zd) Zbm (fun _=>rfl) (by decide) hs0_
    have g8:=Zkl (f:=Zd) (sz:=14) Z3r (fun _=>rfl) (by decide) (by decide) hx7
    refine Zlm [2,3] (Yp Z0 [] ?_)
    refine zF6 ax7 bx7 cx7 g8 hi0 hk0 ?_
    refine zW ?_
    obtain rfl:=sI hs0_
    refine And.intro (fun h=>by cases h) (And.intro rfl (Fit2.of (Z5 hU rfl rfl ?_) (by omega)))
    exact Q2 hi0 hk0
   replace hs0_:=Zs c10 hs0_
   refine Ky [0] [] ?_
   obtain ⟨l9,al9,bl9,cl9,gl9,hs0_⟩:=bS (lo:=(some (.i64,1))) (hi:=none) (f:=Zd) rfl rfl Ztt Zbm (fun _=>rfl) hs0_
   refine Yc3 [] al9 bl9 cl9 gl9 hi0 hk0 ?_
   obtain rfl:=sI hs0_
   refine And.intro rfl (Fit2.of (Z5 hU rfl rfl ?_) (by omega))
   exact Yjm al9 bl9 cl9 gl9 hi0 hk0
  replace hs0_:=Zs c11 hs0_
  refine zXt ?_
  obtain rfl:=sI hs0_
  refine And.intro (fun h=>by cases h) (And.intro rfl (Fit2.of (Z5 hU rfl rfl ?_) (by omega)))
  exact Q2 hi0 hk0
 rcases z12 with z12 | z12
 ·dsimp only [Ql] at hw h
  refine Kh hw ?_
  try simp only [Y1,Yc,↓reduceIte,Nat.reduceEqDiff]
  obtain rfl:=sI h
  refine Ja (k:=0) (i:=i0) (q1:=⟨false,118,2,1,[(sL Zd z12.2.2.1),(vI z12.2.2.2)]⟩) (L3:=[none]) (E2:=(⟨44,[],[(2,(vI z12.1)),(3,(vI z12.2.1))]⟩:Env)) (n3:=(n+1)) (.inr rfl) hU rfl [(vI z12.1),(vI z12.2.1)] ?_ ?_
  ·refine Fit2.trans (E':=(⟨44,[],[(2,(vI z12.1)),(3,(vI z12.2.1))]⟩:Env)) (O':=(Zq (O.upd i0 (some ⟨false,118,2,1,[(sL Zd z12.2.2.1),(vI z12.2.2.2)]⟩)) n [])) (n':=n) (Fit2.of (Z5 hU rfl rfl ?_) (by omega)) ?_
   ·exact Q2 hi0 hk0
   refine X3 (k:=0) (k':=1) hU [] [0] rfl rfl rfl rfl ⟨rfl,rfl⟩ ?_
   exact Q2 hi0 hk0
  simp only [push_cast,seval,Zi,Try.results86,hi0,hk0,hN0,hN]
 dsimp only [Ql] at hw h
 refine Yo hw ?_
 try simp only [Y1,Yc,↓reduceIte,Nat.reduceEqDiff]
 refine zD [] [] ?_
 refine Zbd [2,3] hi0 hk0 ?_
 refine zW ?_
 obtain rfl:=sI h
 refine Ja (k:=0) (i:=i0) (q1:=⟨false,118,2,1,[(sL Zd z12.1),(vI z12.2)]⟩) (L3:=[none]) (E2:=(⟨44,[],[(2,(vI 0)),(3,(vI 0))]⟩:Env)) (n3:=(n+1)) (.inr rfl) hU rfl [(vI 0),(vI 0)] ?_ ?_
 ·refine Fit2.trans (E':=(⟨44,[],[(2,(vI 0)),(3,(vI 0))]⟩:Env)) (O':=(Zq (O.upd i0 (some ⟨false,118,2,1,[(sL Zd z12.1),(vI z12.2)]⟩)) n [])) (n':=n) (Fit2.of (Z5 hU rfl rfl ?_) (by omega)) ?_
  ·exact Q2 hi0 hk0
  refine X3 (k:=0) (k':=1) hU [] [0] rfl rfl rfl rfl ⟨rfl,rfl⟩ ?_
  exact Q2 hi0 hk0
 simp only [push_cast,seval,Zi,Try.results86,hi0,hk0,hN0,hN]
theorem G0 {a0:Yh} {a1:Int} {r:(Zl×Yh)} {O:Objs} {n:Nat} {i0:Nat} (hi0:i0 < n) (ho0:O i0=some ⟨false,118,2,1,[(sL Zd a0.left),(vI a0.gone)]⟩) (h:Kr a0 a1=some r):GTo Try.prog 87 [.ref i0 0,(vI a1)] O n (.agg (Yy r.1)) (Zq (O.upd i0 (some ⟨false,118,2,1,[(sL Zd r.2.left),(vI r.2.gone)]⟩)) n []) (n+0):=by
 unfold Kr at h
 refine Zi9 Z0 Try.call87 Try.func87 rfl (Nat.le_of_ble_eq_true rfl) (by omega) fun hU => ?_
 rw [show Zq O n []=Zq (O.upd i0 (some ⟨false,118,2,1,[(sL Zd a0.left),(vI a0.gone)]⟩)) n [] from by rw [Zki (show O i0=_ from by exact ho0)]]
 have hk0:∀ k,i0 < n+k:=fun k=>by omega
 have hN0:∀ o,Objs.upd O i0 o n=none:=fun o=>X1 hU hi0 _ (Nat.le_refl _)
 have hN:∀ o k,Objs.upd O i0 o (n+k)=none:=fun o k=>X1 hU hi0 _ (Nat.le_add_right _ _)
 show W _ _ _ _ ⟨50,[],[(0,.ref i0 0),(1,(vI a1))]⟩ (Zq (O.upd i0 (some ⟨false,118,2,1,[(sL Zd a0.left),(vI a0.gone)]⟩)) n []) _
 refine Zbd [0,1,4] hi0 hk0 ?_
 refine Zk ?_
 obtain ⟨x2,hx2,ax2,bx2,cx2,h⟩:=bE (f:=Zd) Zbm (fun _=>rfl) (by decide) h
 refine Z75 [] ax2 bx2 cx2 hi0 hk0 ?_
 refine zD [0,1,4,5] [true,true] ?_
 obtain ⟨z3,hz3,h⟩:=bC h
 refine Xe (E':=⟨50,[],[(0,.ref i0 0),(1,(vI a1)),(4,.ref n 0),(5,.ref (n+1) 0)]⟩) (O':=(Zq (O.upd i0 (some ⟨false,118,2,1,[(sL Zd a0.left),(vI a0.gone)]⟩)) n [some ⟨false,46,14,1,[(vI 0),(vI 0),nV,(vI 0),(vI 0),nV,nV,(vI 0),nV,nV,nV,nV,(vI 0),nV]⟩,some ⟨false,46,14,1,[(vI x2.Kind),(vI z3.1),(sL Za z3.2),(vI x2.E.Kind),(vI x2.E.Old.Kind),(sL (eI .u64) x2.E.Old.Words),(sL Za x2.E.Old.Kids),(vI x2.E.New.Kind),(sL (eI .u64) x2.E.New.Words),(sL Za x2.E.New.Kids),(sL Zf x2.E.Words),(sL Zh x2.E.Kids),(vI x2.E.List_),(sL Zd x2.E.Ops)]⟩])) (n0:=(n+2)) ?_ ?_
 ·refine Zbd [0,1,4,5,13] hi0 hk0 ?_
  refine Yd ?_
  refine Zbd [0,1,4,5,13,14] hi0 hk0 ?_
  refine Zp (t:=(x2.Kind == 0)) rfl (fun c8 => ?_) (fun c8 => ?_)
  ·replace hz3:=Zt c8 hz3
   refine U9 [] hi0 hk0 ?_
   obtain rfl:=sI hz3
   refine And.intro rfl (Fit2.of (Z5 hU rfl rfl ?_) (by omega))
   exact Q2 hi0 hk0
  replace hz3:=Zs c8 hz3
  obtain ⟨z4,hz4,hz3⟩:=bC hz3
  refine Xe (E':=⟨50,[],[(0,.ref i0 0),(1,(vI a1)),(4,.ref n 0),(5,.ref (n+1) 0),(18,(vB z4))]⟩) (O':=(Zq (O.upd i0 (some ⟨false,118,2,1,[(sL Zd a0.left),(vI a0.gone)]⟩)) n [some ⟨false,46,14,1,[(vI 0),(vI 0),nV,(vI 0),(vI 0),nV,nV,(vI 0),nV,nV,nV,nV,(vI 0),nV]⟩,some ⟨false,46,14,1,(Yy x2)⟩])) (n0:=(n+2)) ?_ ?_
  ·refine Zbd [0,1,4,5,13,18] hi0 hk0 ?_
   refine Zp (t:=(x2.Kind == 1)) rfl (fun c5 => ?_) (fun c5 => ?_)
   ·replace hz4:=Zt c5 hz4
    refine zK ?_
    obtain rfl:=sI hz4
    refine And.intro rfl (Fit2.of (Z5 hU rfl rfl ?_) (by omega))
    exact Q2 hi0 hk0
   replace hz4:=Zs c5 hz4
   refine U9 [] hi0 hk0 ?_
   obtain rfl:=sI hz4
   refine And.intro rfl (Fit2.of (Z5 hU rfl rfl ?_) (by omega))
   exact Q2 hi0 hk0
  refine Zp (t:=z4) rfl (fun c7 => ?_) (fun c7 => ?_)
  ·replace hz3:=Zt c7 hz3
   obtain ⟨l6,al6,bl6,cl6,gl6,hz3⟩:=bS3 (lo:=(some (.i64,a0.gone))) (hi:=(.i64,(IntKind.i64.wrap (a0.gone+a1)))) (f:=Za) rfl rfl Zeq Ug (fun _=>rfl) hz3
   refine Zg1 Z0 (by kernel_rfl) [false,false,false,false,false,false,false,false,false,false,false,false,false,false,false,false,false,false,false,false,true] [] (by kernel_rfl) ?_
   refine zX6 al6 bl6 cl6 gl6 hi0 hk0 ?_
   obtain rfl:=sI hz3
   refine And.intro rfl (Fit2.of (Z5 hU rfl rfl ?_) (by omega))
   exact Yjm al6 bl6 cl6 gl6 hi0 hk0
  replace hz3:=Zs c7 hz3
  refine zK ?_
  obtain rfl:=sI hz3
  refine And.intro rfl (Fit2.of (Z5 hU rfl rfl ?_) (by omega))
  exact Q2 hi0 hk0
 refine Zk ?_
 refine U9 [] hi0 hk0 ?_
 refine zDs [4,5] [true,true] ?_
 refine U9 [] hi0 hk0 ?_
 refine zD [4] [true,false] ?_
 refine zW ?_
 obtain rfl:=sI h
 refine Ja (k:=0) (i:=i0) (q1:=⟨false,118,2,1,[(sL Zd a0.left),(vI (IntKind.i64.wrap (a0.gone+a1)))]⟩) (L3:=[some ⟨false,46,14,1,[(vI x2.Kind),(vI z3.1),(sL Za z3.2),(vI x2.E.Kind),(vI x2.E.Old.Kind),(sL (eI .u64) x2.E.Old.Words),(sL Za x2.E.Old.Kids),(vI x2.E.New.Kind),(sL (eI .u64) x2.E.New.Words),(sL Za x2.E.New.Kids),(sL Zf x2.E.Words),(sL Zh x2.E.Kids),(vI x2.E.List_),(sL Zd x2.E.Ops)]⟩,none]) (E2:=(⟨50,[],[(4,.ref n 0)]⟩:Env)) (n3:=(n+2)) (.inr rfl) hU rfl [.agg [(vI x2.Kind),(vI z3.1),(sL Za z3.2),(vI x2.E.Kind),(vI x2.E.Old.Kind),(sL (eI .u64) x2.E.Old.Words),(sL Za x2.E.Old.Kids),(vI x2.E.New.Kind),(sL (eI .u64) x2.E.New.Words),(sL Za x2.E.New.Kids),(sL Zf x2.E.Words),(sL Zh x2.E.Kids),(vI x2.E.List_),(sL Zd x2.E.Ops)]] ?_ ?_
 ·refine Fit2.trans (E':=(⟨50,[],[(4,.ref n 0)]⟩:Env)) (O':=(Zq (O.upd i0 (some ⟨false,118,2,1,[(sL Zd a0.left),(vI (IntKind.i64.wrap (a0.gone+a1)))]⟩)) n [some ⟨false,46,14,1,[(vI x2.Kind),(vI z3.1),(sL Za z3.2),(vI x2.E.Kind),(vI x2.E.Old.Kind),(sL (eI .u64) x2.E.Old.Words),(sL Za x2.E.Old.Kids),(vI x2.E.New.Kind),(sL (eI .u64) x2.E.New.Words),(sL Za x2.E.New.Kids),(sL Zf x2.E.Words),(sL Zh x2.E.Kids),(vI x2.E.List_),(sL Zd x2.E.Ops)]⟩,none])) (n':=(n+2)) (Fit2.of (Z5 hU rfl rfl ?_) (by omega)) ?_
  ·exact Q2 hi0 hk0
  refine X3 (k:=2) (k':=2) hU [0,1] [0,0] rfl rfl rfl rfl ⟨rfl,rfl⟩ ?_
  exact Q2 hi0 hk0
 simp only [push_cast,seval,Zi,Try.results87,hi0,hk0,hN0,hN]
theorem Zs5 {a0:(List Zl)} {a1:(List Zl)} {a2:Int} {a3:Int} {r:((List Z4)×Bool)} {O:Objs} {n:Nat} (h:Zfg a0 a1 a2 a3=some r):GTo Try.prog 85 [(sL Zd a0),(sL Zd a1),(vI a2),(vI a3)] O n (.tup [(sL Zx r.1),(vB r.2)]) O n:=by
 unfold Zfg at h
 refine zFn Try.call85 Try.func85 fun hU hN0 hN => ?_
 show W _ _ _ _ ⟨83,[],[(0,(sL Zd a0)),(1,(sL Zd a1)),(2,(vI a2)),(3,(vI a3))]⟩ (Zq O n []) _
 refine zQ [0,1,2,3] ?_
 refine zQ [0,1,2,3,10] ?_
 refine Zk ?_
 refine zRd [2,3,10,11,12] [true,true] ?_
 refine zD [2,3,10,11,12] [true,true] ?_
 refine Q6 (E':=(⟨83,[],[(2,(vI a2)),(3,(vI a3)),(10,.row (n+2) ([]:List Z4).length),(11,.ref n 0),(12,.ref (n+1) 0)]⟩:Env)) (O':=(Zq O n [some ⟨false,118,2,1,[(sL Zd a0),(vI 0)]⟩,some ⟨false,118,2,1,[(sL Zd a1),(vI 0)]⟩,some (oR 110 29 Zx ([]:List Z4)),none])) (n':=(n+4)) ?_ ?_
 ·refine Fit2.trans (E':=(⟨83,[],[(2,(vI a2)),(3,(vI a3)),(10,nV),(11,.ref n 0),(12,.ref (n+1) 0)]⟩:Env)) (O':=(Zq O n [some ⟨false,118,2,1,[(sL Zd a0),(vI 0)]⟩,some ⟨false,118,2,1,[(sL Zd a1),(vI 0)]⟩])) (n':=(n+2)) (Fit2.of (Z9 hU rfl rfl ?_) (by omega)) ?_
  ·exact zSe
  refine Fit2.trans (Zh5 10 110 29 rfl (by omega)) ?_
  simp only [Y4,Ym,Gm,V8,List.set_cons_zero,List.set_cons_succ,List.cons_append,List.nil_append,List.length_cons,List.length_nil,Nat.zero_add,Nat.reduceAdd,Nat.reduceLT,Nat.add_assoc]
  refine Fit2.trans (E':=(⟨83,[],[(2,(vI a2)),(3,(vI a3)),(10,.row (n+2) ([]:List Z4).length),(11,.ref n 0),(12,.ref (n+1) 0)]⟩:Env)) (O':=(Zq O n [some ⟨false,118,2,1,[(sL Zd a0),(vI 0)]⟩,some ⟨false,118,2,1,[(sL Zd a1),(vI 0)]⟩,some (oR 110 29 Zx ([]:List Z4))])) (n':=(n+3)) (Fit2.of (Z9 hU rfl rfl ?_) (by omega)) ?_
  ·exact zSe
  refine X0 (k:=3) (k':=4) hU [0,1,2] [0,1,2,0] rfl rfl rfl rfl ⟨rfl,rfl⟩ ?_
  exact zSe
 obtain ⟨z16,hz16,h⟩:=bC h
 refine Kh (E':=⟨83,[],[(8,(sL Zx z16.1)),(9,(vB z16.2))]⟩) (O':=(Zq O n [none,none])) (n0:=(n+2)) ?_ ?_
 ·refine Y2 hz16 (fun s0_=>⟨83,[],[(2,(vI a2)),(3,(vI a3)),(10,.row (n+2) s0_.2.2.2.2.length),(11,.ref n 0),(12,.ref (n+1) 0)]⟩) (fun s0_=>(Zq O n [some ⟨false,118,2,1,[(sL Zd s0_.1),(vI s0_.2.1)]⟩,some ⟨false,118,2,1,[(sL Zd s0_.2.2.1),(vI s0_.2.2.2.1)]⟩,some (oR 110 29 Zx s0_.2.2.2.2),none])) (fun z16=>JR n (⟨83,[],[(8,(sL Zx z16.1)),(9,(vB z16.2))]⟩:Env) (Zq O n [none,none]) (n+2)) ?_
  intro s0_ x0_ hs0_
  unfold Vu at hs0_
  try dsimp only
  refine Yd ?_
  refine Zk ?_
  obtain ⟨y2,hy2,hs0_⟩:=bC hs0_
  refine zR ?_
  refine (Zhj (i0:=n) (by omega) (by simp only [push_cast,seval,Zi,Yl,hN0,hN] <;> rfl) hy2).then ?_
  refine zS ?_
  refine zDs [2,3,10,11,12,13,14] [true,true,true,false] ?_
  obtain ⟨y4,hy4,hs0_⟩:=bC hs0_
  refine zR ?_
  refine (Zhj (i0:=(n+1)) (by omega) (by simp only [push_cast,seval,Zi,Yl,hN0,hN] <;> rfl) hy4).then ?_
  refine zS ?_
  refine zD [2,3,10,11,12,13,14,15,16] [true,true,true,false] ?_
  refine Yd ?_
  refine zQD [2,3,10,11,12,14,15,16,40] [none,none,none] ?_
  refine Zp (t:=(cond (decide (0 < y2.2.1)) (y2.1 == a2) false)) rfl (fun c15 => ?_) (fun c15 => ?_)
  ·replace hs0_:=Zt c15 hs0_
   obtain ⟨y5,hy5,hs0_⟩:=bC hs0_
   obtain ⟨l6,pl6,ql6,el6,hs0_⟩:=bA (k:=1) rfl hs0_
   refine Zfz [] pl6 ql6 el6 ?_
   refine (G0 (i0:=n) (by omega) (by simp only [push_cast,seval,Zi,Yl,pl6,ql6,el6,hN0,hN] <;> rfl) hy5).then ?_
   refine zX3 pl6 ql6 el6 ?_
   exact Zjm hs0_ pl6 ql6 el6
  replace hs0_:=Zs c15 hs0_
  refine zQD [2,3,10,11,12,14,16,54] [none,none,none] ?_
  refine Zp (t:=(cond (decide (0 < y4.2.1)) (y4.1 == a3) false)) rfl (fun c14 => ?_) (fun c14 => ?_)
  ·replace hs0_:=Zt c14 hs0_
   obtain ⟨y7,hy7,hs0_⟩:=bC hs0_
   obtain ⟨l8,pl8,ql8,el8,hs0_⟩:=bA (k:=1) rfl hs0_
   refine Zfz [] pl8 ql8 el8 ?_
   refine (G0 (i0:=(n+1)) (by omega) (by simp only [push_cast,seval,Zi,Yl,pl8,ql8,el8,hN0,hN] <;> rfl) hy7).then ?_
   refine zX3 pl8 ql8 el8 ?_
   exact Zjm hs0_ pl8 ql8 el8
  replace hs0_:=Zs c14 hs0_
  refine zQD [2,3,10,11,12,14,16,68] [none,none] ?_
  refine Zp (t:=(cond (y2.2.1 == 0) (y4.2.1 == 0) false)) rfl (fun c13 => ?_) (fun c13 => ?_)
  ·replace hs0_:=Zt c13 hs0_
   refine zQ [8,9] ?_
   refine zW ?_
   exact zEy hs0_
  replace hs0_:=Zs c13 hs0_
  refine zQD [2,3,10,11,12,14,16,76] [none,none] ?_
  refine Zp (t:=(cond (y2.2.1 == 0) true (y4.2.1 == 0))) rfl (fun c12 => ?_) (fun c12 => ?_)
  ·replace hs0_:=Zt c12 hs0_
   refine zQ [8,9] ?_
   refine zW ?_
   exact zEy hs0_
  replace hs0_:=Zs c12 hs0_
  refine zQ [2,3,10,11,12,14] ?_
  obtain ⟨y9,hy9,hs0_⟩:=bC hs0_
  obtain ⟨y10,hy10,hs0_⟩:=bC hs0_
  obtain ⟨l11,pl11,ql11,el11,hs0_⟩:=bA (k:=1) rfl hs0_
  refine Zfz [] pl11 ql11 el11 ?_
  refine (G0 (i0:=n) (by omega) (by simp only [push_cast,seval,Zi,Yl,pl11,ql11,el11,hN0,hN] <;> rfl) hy9).then ?_
  refine zX3 pl11 ql11 el11 ?_
  refine (G0 (i0:=(n+1)) (by omega) (by simp only [push_cast,seval,Zi,Yl,pl11,ql11,el11,hN0,hN] <;> rfl) hy10).then ?_
  refine zX3 pl11 ql11 el11 ?_
  exact Zjm hs0_ pl11 ql11 el11
 try simp only [Y1,Yc,↓reduceIte,Nat.reduceEqDiff]
 exact Zk7 [(sL Zx z16.1),(vB z16.2)]
theorem Zs4 {a0:(List Zl)} {a1:(List Zl)} {r:((List Z4)×Bool)} {O:Objs} {n:Nat} (h:Zco a0 a1=some r):GTo Try.prog 82 [(sL Zd a0),(sL Zd a1)] O n (.tup [(sL Zx r.1),(vB r.2)]) O n:=by
 unfold Zco at h
 refine zFn Try.call82 Try.func82 fun hU hN0 hN => ?_
 show W _ _ _ _ ⟨11,[],[(0,(sL Zd a0)),(1,(sL Zd a1))]⟩ (Zq O n []) _
 refine zQ [0,1] ?_
 refine Zk ?_
 obtain ⟨y2,hy2,h⟩:=bC h
 refine zCd (Zs5 hy2) [4,5] [] ?_
 exact Y9 [(sL Zx y2.1),(vB y2.2)]
theorem Zrx {a0:Z4} {r:((List Zl)×Bool)} {O:Objs} {n:Nat} (h:Zhq a0=some r):GTo Try.prog 83 [.agg (V4 a0)] O n (.tup [(sL Zd r.1),(vB r.2)]) O n:=by
 unfold Zhq at h
 refine zFn Try.call83 Try.func83 fun hU hN0 hN => ?_
 show W _ _ _ _ ⟨108,[],[(0,.agg (V4 a0))]⟩ (Zq O n []) _
 refine zQ [1] ?_
 refine Xe (E':=⟨108,[],[(1,.ref n 0),(4,.ref (n+1) 0),(5,.ref (n+2) 0)]⟩) (O':=(Zq O n [some ⟨false,110,29,1,(V4 a0)⟩,some ⟨false,46,14,1,(Yy a0.P)⟩,some ⟨false,46,14,1,(Yy a0.Q)⟩])) (n0:=(n+3)) ?_ ?_
 ·refine Yc8 Z0 (by kernel_rfl) [.low,.low,.low,.low,.pass,.pass,.pass,.pass] (fun i=>i < (n+1)) 4 5 [0,1,2,3] [6,7] [.low,.low,.low,.low] [.pass,.pass,.pass,.pass] [.pass,.pass,.pass,.pass] [] (by kernel_rfl) rfl rfl rfl ?_
  refine zS ?_
  repeat (with_reducible refine And.intro (by omega) ?_)
  refine And.intro ?_ ?_
  ·refine zS ?_
   repeat (with_reducible refine And.intro (by first | exact K6 rfl | exact Jy) ?_)
   exact zEf
  refine zS ?_
  repeat (with_reducible refine And.intro (by first | exact K6 rfl | exact Jy) ?_)
  refine And.intro rfl ?_
  refine Fit2.trans (E':=(⟨108,[],[(1,.ref n 0),(4,.ref (n+2) 0),(5,.ref (n+1) 0)]⟩:Env)) (O':=(Zq O n [some ⟨false,110,29,1,(V4 a0)⟩,some ⟨false,46,14,1,(Yy a0.Q)⟩,some ⟨false,46,14,1,(Yy a0.P)⟩])) (n':=(n+3)) (Fit2.of (Z9 hU rfl rfl ?_) (by omega)) ?_
  ·exact zSe
  refine X0 (k:=3) (k':=3) hU [0,2,1] [0,2,1] rfl rfl rfl rfl ⟨rfl,rfl⟩ ?_
  exact zSe
 refine Zk ?_
 refine Yd ?_
 refine zQD [1,4,5,16] [none,none,none,none,none,none,none,none] ?_
 refine Zp (t:=(cond (a0.Of == 1) true (cond (a0.Of == 0) (a0.Q.Kind == 0) false))) rfl (fun c7 => ?_) (fun c7 => ?_)
 ·replace h:=Zt c7 h
  refine Zk ?_
  refine zR ?_
  refine Zdy ⟨108,[],[(2,.row (n+3) ([a0.P]:List Zl).length),(3,(vB true))]⟩ (Zq O n [none,none,none,some (oR 46 14 Zd ([a0.P]:List Zl))]) (Z9 hU rfl rfl ?_) ?_
  ·exact zSe
  exact Y9 [.row (n+3) ([a0.P]:List Zl).length,(vB true)]
 replace h:=Zs c7 h
 refine zQD [4,5,32] [none,none,none] ?_
 refine Zp (t:=(cond (a0.Of == 2) true (a0.P.Kind == 0))) rfl (fun c6 => ?_) (fun c6 => ?_)
 ·replace h:=Zt c6 h
  refine Zk ?_
  refine zR ?_
  refine Zdy ⟨108,[],[(2,.row (n+3) ([a0.Q]:List Zl).length),(3,(vB true))]⟩ (Zq O n [none,none,none,some (oR 46 14 Zd ([a0.Q]:List Zl))]) (Z9 hU rfl rfl ?_) ?_
  ·exact zSe
  exact Y9 [.row (n+3) ([a0.Q]:List Zl).length,(vB true)]
 replace h:=Zs c6 h
 refine zQD [4,5,43] [none,none,none] ?_
 refine Zp (t:=(cond (a0.P.Kind == 2) (a0.Q.Kind == 1) false)) rfl (fun c5 => ?_) (fun c5 => ?_)
 ·replace h:=Zt c5 h
  refine Zk ?_
  cases h
 replace h:=Zs c5 h
 refine zQ [4,5,57] ?_
 refine Zp (t:=(a0.P.Kind == 2)) rfl (fun c4 => ?_) (fun c4 => ?_)
 ·replace h:=Zt c4 h
  refine Zk ?_
  obtain ⟨x2,hx2,ax2,bx2,cx2,h⟩:=bE (f:=Za) Ug (fun _=>rfl) (by decide) h
  cases h
 replace h:=Zs c4 h
 refine zQ [4,5,76] ?_
 refine Zp (t:=(a0.Q.Kind == 1)) rfl (fun c3 => ?_) (fun c3 => ?_)
 ·replace h:=Zt c3 h
  refine Zk ?_
  cases h
 replace h:=Zs c3 h
 refine Ky [4,5] [false,true,true] ?_
 refine Zk ?_
 cases h
theorem Zrw {a0:Zc} {a1:Zc} {r:(Zc×Bool)} {O:Objs} {n:Nat} (h:Zbh a0 a1=some r):GTo Try.prog 71 [.agg (Ze a0),.agg (Ze a1)] O n (.tup [.agg (Ze r.1),(vB r.2)]) O n:=by
 unfold Zbh at h
 refine zFn Try.call71 Try.func71 fun hU hN0 hN => ?_
 show W _ _ _ _ ⟨48,[],[(0,.agg (Ze a0)),(1,.agg (Ze a1))]⟩ (Zq O n []) _
 refine zQ [2,3,4] ?_
 refine Zk ?_
 obtain ⟨y2,hy2,h⟩:=bC h
 refine zCd (Zs4 hy2) [2,4,6,7] [true,false,true] ?_
 refine Zk ?_
 refine zQ [2,4,6,22] ?_
 refine Zp (t:=(!y2.2)) rfl (fun c11 => ?_) (fun c11 => ?_)
 ·replace h:=Zt c11 h
  refine Zk ?_
  refine zRd [4,5] [false,false,true] ?_
  exact Y9 [.agg [(vI 0),(vI 0),nV,nV,(vI 0),nV,nV,nV,nV,(vI 0),nV],(vB false)]
 replace h:=Zs c11 h
 refine Ky [2,4,6] [true,false,true] ?_
 refine Zk ?_
 refine zRd [4,6,8] [false,false,true,true] ?_
 refine Zk ?_
 refine zQd [4,8,27,28,29] [4,8,27,28,29] [false,false,true,true] ?_
 refine Q6 (E':=(⟨48,[],[(4,.ref (n+2) 0),(8,.ref (n+3) 0),(27,(sL Zx y2.1)),(28,(vI (y2.1.length:Int))),(29,(vI 0))]⟩:Env)) (O':=(Zq O n [none,none,some ⟨false,30,11,1,[(vI 0),(vI 0),nV,nV,(vI 0),nV,nV,nV,nV,(vI 0),nV]⟩,some ⟨false,30,11,1,[(vI 3),(vI 0),nV,nV,(vI 0),nV,nV,nV,nV,(vI a0.List_),.row (n+4) ([]:List Zl).length]⟩,some (oR 46 14 Zd ([]:List Zl)),none])) (n':=(n+6)) ?_ ?_
 ·refine Fit2.trans (E':=(⟨48,[],[(4,.ref (n+2) 0),(8,.ref (n+3) 0),(27,(sL Zx y2.1)),(28,(vI (y2.1.length:Int))),(29,(vI 0))]⟩:Env)) (O':=(Zq O n [none,none,some ⟨false,30,11,1,[(vI 0),(vI 0),nV,nV,(vI 0),nV,nV,nV,nV,(vI 0),nV]⟩,some ⟨false,30,11,1,[(vI 3),(vI 0),nV,nV,(vI 0),nV,nV,nV,nV,(vI a0.List_),nV]⟩])) (n':=(n+4)) (Fit2.of (Z9 hU rfl rfl ?_) (by omega)) ?_
  ·exact zSe
  refine Fit2.trans (G7 (p:=(n+3)) (k:=10) (q:=⟨false,30,11,1,[(vI 3),(vI 0),nV,nV,(vI 0),nV,nV,nV,nV,(vI a0.List_),nV]⟩) 46 14 (by simp only [Ge,Zdn,List.getElem?_cons_zero,List.getElem?_cons_succ,Option.join_some,List.length_nil,Z8]) rfl (by omega)) ?_
  simp only [Y4,Ym,Gm,V8,List.set_cons_zero,List.set_cons_succ,List.cons_append,List.nil_append,List.length_cons,List.length_nil,Nat.zero_add,Nat.reduceAdd,Nat.reduceLT,Nat.add_assoc]
  refine X0 (k:=5) (k':=6) hU [5,5,2,3,4] [0,0,2,3,4,0] rfl rfl rfl rfl ⟨rfl,rfl⟩ ?_
  exact zSe
 obtain ⟨z10,hz10,h⟩:=bC h
 refine Zbu (J:=(Ql (fun z10=>JR n (⟨48,[],[(4,.ref (n+2) 0),(5,(vB false))]⟩:Env) (Zq O n [none,none,some ⟨false,30,11,1,[(vI 0),(vI 0),nV,nV,(vI 0),nV,nV,nV,nV,(vI 0),nV]⟩,none]) (n+4)) (fun z10=>JX 0 n (⟨48,[],[(4,.ref (n+2) 0),(8,.ref (n+3) 0)]⟩:Env) (Zq O n [none,none,some ⟨false,30,11,1,[(vI 0),(vI 0),nV,nV,(vI 0),nV,nV,nV,nV,(vI 0),nV]⟩,some ⟨false,30,11,1,[(vI 3),(vI 0),nV,nV,(vI 0),nV,nV,nV,nV,(vI a0.List_),.row (n+4) z10.length]⟩,some (oR 46 14 Zd z10),none]) (n+6)))) (z:=z10) ?_ fun hw => ?_
 ·refine Y2 hz10 (fun s0_=>⟨48,[],[(4,.ref (n+2) 0),(8,.ref (n+3) 0),(27,(sL Zx y2.1)),(28,(vI (y2.1.length:Int))),(29,(vI s0_.1))]⟩) (fun s0_=>(Zq O n [none,none,some ⟨false,30,11,1,[(vI 0),(vI 0),nV,nV,(vI 0),nV,nV,nV,nV,(vI 0),nV]⟩,some ⟨false,30,11,1,[(vI 3),(vI 0),nV,nV,(vI 0),nV,nV,nV,nV,(vI a0.List_),.row (n+4) s0_.2.length]⟩,some (oR 46 14 Zd s0_.2),none])) (Ql (fun z10=>JR n (⟨48,[],[(4,.ref (n+2) 0),(5,(vB false))]⟩:Env) (Zq O n [none,none,some ⟨false,30,11,1,[(vI 0),(vI 0),nV,nV,(vI 0),nV,nV,nV,nV,(vI 0),nV]⟩,none]) (n+4)) (fun z10=>JX 0 n (⟨48,[],[(4,.ref (n+2) 0),(8,.ref (n+3) 0)]⟩:Env) (Zq O n [none,none,some ⟨false,30,11,1,[(vI 0),(vI 0),nV,nV,(vI 0),nV,nV,nV,nV,(vI 0),nV]⟩,some ⟨false,30,11,1,[(vI 3),(vI 0),nV,nV,(vI 0),nV,nV,nV,nV,(vI a0.List_),.row (n+4) z10.length]⟩,some (oR 46 14 Zd z10),none]) (n+6))) ?_
  intro s0_ x0_ hs0_
  unfold Zif at hs0_
  try dsimp only
  refine zQ [4,8,27,28,29,30] ?_
  refine Zk ?_
  refine Zp (t:=(decide (s0_.1 < (y2.1.length:Int)))) rfl (fun c9 => ?_) (fun c9 => ?_)
  ·replace hs0_:=Zt c9 hs0_
   refine Ky [4,8,27,28,29] [false,false,true,true,true,false] ?_
   refine Zk ?_
   refine Yd ?_
   refine Zk ?_
   obtain ⟨x4,hx4,ax4,bx4,cx4,hs0_⟩:=bE (f:=Zx) Z0y (fun _=>rfl) (by decide) hs0_
   refine Zcg [] ax4 bx4 cx4 ?_
   refine zDs [4,8,10,27,28,29] [false,false,true,true,true,false,true] ?_
   obtain ⟨y6,hy6,hs0_⟩:=bC hs0_
   refine zCd (Zrx hy6) [4,8,11,12,27,28,29] [false,false,true,true,true,false,false] ?_
   refine Zk ?_
   refine zQ [4,8,11,27,28,29,39] ?_
   refine Zp (t:=(!y6.2)) rfl (fun c8 => ?_) (fun c8 => ?_)
   ·replace hs0_:=Zt c8 hs0_
    refine Zk ?_
    refine zRd [4,5] [false,false,true,false,false,false,false] ?_
    refine zW ?_
    exact zEy hs0_
   replace hs0_:=Zs c8 hs0_
   refine Ky [4,8,11,27,28,29] [false,false,true,true,true,false,false] ?_
   obtain ⟨l7,pl7,ql7,el7,hs0_⟩:=bA (k:=y6.1.length) rfl hs0_
   refine Zfz [] pl7 ql7 el7 ?_
   refine Zdy ⟨48,[],[(4,.ref (n+2) 0),(8,.ref (n+3) 0),(27,(sL Zx y2.1)),(28,(vI (y2.1.length:Int))),(29,(vI s0_.1))]⟩ (Zq O n [none,none,some ⟨false,30,11,1,[(vI 0),(vI 0),nV,nV,(vI 0),nV,nV,nV,nV,(vI 0),nV]⟩,some ⟨false,30,11,1,[(vI 3),(vI 0),nV,nV,(vI 0),nV,nV,nV,nV,(vI a0.List_),.row (n+4) l7.length]⟩,some (oR 46 14 Zd l7),none,none]) (Z9 hU rfl rfl ?_) ?_
   ·exact Zxh pl7 ql7 el7
   refine zR ?_
   exact zEn hs0_
  replace hs0_:=Zs c9 hs0_
  exact zEx hs0_
 rcases z10 with z10 | z10
 ·dsimp only [Ql] at hw h
  refine Kh hw ?_
  try simp only [Y1,Yc,↓reduceIte,Nat.reduceEqDiff]
  exact Zk7 [.agg [(vI 0),(vI 0),nV,nV,(vI 0),nV,nV,nV,nV,(vI 0),nV],(vB false)]
 dsimp only [Ql] at hw h
 refine Yo hw ?_
 try simp only [Y1,Yc,↓reduceIte,Nat.reduceEqDiff]
 refine zDs [4,8] [false,false,true,true,true,false] ?_
 refine zRd [4,5] [false,false,true,false,true,false] ?_
 exact Y9 [.agg [(vI 3),(vI 0),nV,nV,(vI 0),nV,nV,nV,nV,(vI a0.List_),.row (n+4) z10.length],(vB true)]
theorem Zs8 {a0:Zc} {a1:Zc} {r:(Zc×Bool)} {O:Objs} {n:Nat} (h:Zat a0 a1=some r):GTo Try.prog 45 [.agg (Ze a0),.agg (Ze a1)] O n (.tup [.agg (Ze r.1),(vB r.2)]) O n:=by
 unfold Zat at h
 refine zFn Try.call45 Try.func45 fun hU hN0 hN => ?_
 show W _ _ _ _ ⟨89,[],[(0,.agg (Ze a0)),(1,.agg (Ze a1))]⟩ (Zq O n []) _
 refine zQ [2,3,4] ?_
 refine Zk ?_
 refine Yd ?_
 refine zQ [2,3,4,10] ?_
 refine Zp (t:=(a0.Kind == 0)) rfl (fun c8 => ?_) (fun c8 => ?_)
 ·replace h:=Zt c8 h
  refine Zk ?_
  refine zRd [4,5] [false,false,true] ?_
  exact Y9 [.agg (Ze a1),(vB true)]
 replace h:=Zs c8 h
 refine zQ [2,3,4,15] ?_
 refine Zp (t:=(a1.Kind == 0)) rfl (fun c7 => ?_) (fun c7 => ?_)
 ·replace h:=Zt c7 h
  refine Zk ?_
  refine zRd [4,5] [false,false,true] ?_
  exact Y9 [.agg (Ze a0),(vB true)]
 replace h:=Zs c7 h
 refine zQ [2,3,4,20] ?_
 refine Zp (t:=(a0.Kind == 1)) rfl (fun c6 => ?_) (fun c6 => ?_)
 ·replace h:=Zt c6 h
  refine Zk ?_
  cases h
 replace h:=Zs c6 h
 refine zQ [2,3,4,36] ?_
 refine Zp (t:=(a1.Kind == 1)) rfl (fun c5 => ?_) (fun c5 => ?_)
 ·replace h:=Zt c5 h
  refine Zk ?_
  cases h
 replace h:=Zs c5 h
 refine zQD [2,3,4,53] [none,none,none] ?_
 refine Zp (t:=(cond (a0.Kind == 2) (a1.Kind == 2) false)) rfl (fun c4 => ?_) (fun c4 => ?_)
 ·replace h:=Zt c4 h
  refine Zk ?_
  cases h
 replace h:=Zs c4 h
 refine zQD [2,3,4,67] [none,none,none,none,none,none,none,none] ?_
 refine Zp (t:=(cond (cond (a0.Kind == 3) (a1.Kind == 3) false) (a0.List_ == a1.List_) false)) rfl (fun c3 => ?_) (fun c3 => ?_)
 ·replace h:=Zt c3 h
  refine Zk ?_
  obtain ⟨y2,hy2,h⟩:=bC h
  refine zCd (Zrw hy2) [4,5] [false,false,true] ?_
  exact Y9 [.agg (Ze y2.1),(vB y2.2)]
 replace h:=Zs c3 h
 refine Ky [4] [false,false,true] ?_
 refine Zk ?_
 refine zRd [4,5] [false,false,true] ?_
 exact Y9 [.agg [(vI 0),(vI 0),nV,nV,(vI 0),nV,nV,nV,nV,(vI 0),nV],(vB false)]
end Go.Proofs.Ytibgpnmmgffgeaa
