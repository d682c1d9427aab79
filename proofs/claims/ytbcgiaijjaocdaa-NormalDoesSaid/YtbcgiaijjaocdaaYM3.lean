/- Part YM3 of this seat's mirrors: functions of the seat's program, and the plain functions that they are; each theorem bears its own conditions. -/
import Derived.Test.YtbcgiaijjaocdaaYE
import Derived.Test.YtbcgiaijjaocdaaYM1
namespace Go.Proofs.Ytbcgiaijjaocdaa
open Go.RowKit
set_option linter.unusedVariables false
set_option linter.unusedSimpArgs false
set_option maxRecDepth 100000
set_option maxHeartbeats 1000000
attribute [local push_cast] Zh Zad Z7 Zf U9 Zt7 Zt6 Zuy Zux Zk Ze Zp4 Zkz Zky onW X7 Zd6 Zcu Zp5 Zp6 Ziv evS wok Ja Op.operands Call.operands gop onK onP atK List.all_cons List.all_nil Bool.and_true Bool.true_and Bool.and_self Value.oneCell' List.take_zero List.take_succ_cons List.take_nil List.drop_zero List.drop_succ_cons List.drop_nil List.append_nil Nat.add_zero Nat.zero_add Uz Yq ev Jm Zd4 Zyl Zsg Zsf Zyp Zja Zev Zip Zea Zne Zg4 Ga Zk1 Zk0 Zcv Zj2 Zcw Zkx Zi6 Zuc bLo bHi bMx Zew Zkw Zyn Zi5 Zkl Zgu Zba Zs4 Zyr Zj0 Zyw Zeu Z10 Jl Zi8 gone Zq1 Zli Zlh pop TK.isAgg G.one G.under G.unders List.getD_cons_zero List.getD_cons_succ List.set_cons_zero List.set_cons_succ List.map_cons List.map_nil List.toList_toArray Array.toList_append Option.toArray_none Option.toArray_some Array.toList_map Option.map_some Option.map_none Option.bind_some Option.bind_none List.getElem?_cons_zero List.getElem?_cons_succ List.getElem?_nil List.nil_append List.cons_append List.replicate_succ List.replicate_zero List.length_cons List.length_nil and_true true_and and_false false_and Bool.true_eq_false Bool.false_eq_true forall_const false_implies implies_true IntKind.bits if_true if_false ite_true ite_false eq_self true_implies false_or or_false or_true true_or not_true_eq_false not_false_eq_true decide_true decide_false decide_eq_true_eq decide_eq_false_iff_not beq_iff_eq bne_iff_ne ne_eq Bool.not_eq_true Bool.not_eq_false beq_eq_false_iff_ne bne_eq_false_iff_eq beq_self_eq_true bne_self_eq_false Option.some.injEq exists_eq_left' exists_eq_left ge_iff_le gt_iff_lt decide_not Bool.not_true Bool.not_false imp_self Zyt cond_true cond_false Z7i Z7h Bool.not_not Bool.and_false Bool.false_and Bool.or_true Bool.true_or Bool.or_false Bool.false_or U3 Zdc Zcr Za5 Xj Y2 Option.join_some Nat.add_assoc Int.toNat_natCast eI eB eS eL Xf Zj1 Zi7 Zub Zt9 Zua Z19 Z3x Zj5 Zjk Zu7 Zu5 Zu6 Zxn Zkt Zwz Zmr Ztw Zhk Zty List.length_append G.agg.injEq G.row.injEq G.ref.injEq G.val.injEq G.sl.injEq G.tup.injEq Value.int.injEq Value.bool.injEq Value.string.injEq List.cons.injEq exists_and_left exists_const List.flatten_cons List.flatten_nil Int.le_refl Nat.le_refl X9 Yo Yu Bool.not_eq_true' Bool.not_eq_false' Zwm Zmx Zz8 Z0c Zz7 Z0b Z5y Z5t List.size_toArray Zos Zq4 G.ren G.rens Zso Zhe Zvb Zt1 Zt2 Zri Z0d Zfb G.fn.injEq Zsb Zsc Zwl Z5u Zsa Z0a Z5x Z5w Zz9 Zyz Z3i Option.join_none Yh Ue undef Zkn Arr.len Arr.put_eq Zj4 Znu Zle Zjj Zu4 Zu2 Zu3 onB Z18 Zs3 Zrd Zpa Zpb Zpc Zpd Zpe Zpf Znm Znx Znv Zlg Zjl Znw Zq0 Zqz Zqy Zqx Z3w Z6n Zxm Zuz Gw Zxg Zol Zny Zlf Zy1 Zrf Zi4 Zkk Zfn Zmp Zpg Zph Zpi Zpj Zmy Zmz Zm0 Zm1 Zm2 Zm3 Zm4 Zft prT Zgq Z71 Zzx Zvh Zzy Z72 Zzz Zx5 Zz0 Z73 Zz1 Z74 Zz2 Z75 Zz3 Z76 Zz4 Z4q Zvi Z4r Zvj Z4s Zvk Z4t Zvl Z4u Zvm Z4v Zvn Z4w Zvo Z4x Zvp Z4y Zvq Z4z Zvr Z40 Zvs Z41 Zo8 Zx4 Zer Z42 Zvt Vm Zvu Z43 Zvv Z44 Zvw Z45 Zvx Z46 Zvy Zrj Zvz Z47 Zv0 Z48 Zv1 Z49 Zv2 Zg2 Zv3 Z5a Zv4 Ztl Zv5 Z5b Zv6 Z5c Zv7 Zda Zv8 Z5d Zv9 Zmv Zwa Z5e Zwb Z5f Zwc Z5g Zwd Z5h Zwe Z5i Zwf Z5j Zwg Zx6 Zo9 Z5k Zwh Zza Zrl Zzb Zrm Zzc Zrn Zzd Zro Zze Zrp Zzf Zrq Zzg Zrr Zzh Zrs Zzi Zrt Zzj Zru Zzk Zrv Zzl Zrw Zzm Zrx Zzn Zry Zzo Zrz Zzp Zr0 Zzq Zr1 Zzr Zr2 Zzs Zr3 Zzt Zr4 Zzu Zr5 Zzv Zr6 Zzw Zr7 Zb Ys Zlw Zlu Zk5 Zlc Zly Zjw Zjq Zjo Zlr Zeo Zen Zec Zeg Zep Zd2 Zdx Zdw Zel Zo Qf Zg Zn Xs X1 Y5 Zbx Zbv Zbb Zbk Zb0 Zaz Zaw Zau Zbs Zce Zcd Zca Zcb Zcf Zbu Zbq Zbp Zcc Zgo Zgn Zfz Zf8 Zgp Zff Zfd Zfc Zgm Zoa Zn9 Znh Znr Zob Zls Zlk Zlj Zn5 Yd Za2 Za1 Zar Zat Za3 Gz Gy Gx Zay Yj Zby Zbw Zbc Zbl Zb1 Za0 Zax Zav Zbt Zlv Zlt Zk4 Zlb Zlx Zjv Zjp Zjn Zlq
theorem Zgr {a0:Zw} {a2:(List S_api_Tree)} {r:Zw} {O:Objs} {n:Nat} {i0 j0_0 j0_1 j0_2:Nat} (hi0:i0 < n) (Vl:j0_0 < n) (Zey:j0_1 < n) (Zgv:j0_2 < n) (Q4:i0≠j0_0) (Vx:i0≠j0_1) (Gr:i0≠j0_2) (Vw:j0_0≠j0_1) (Gp:j0_0≠j0_2) (Gq:j0_1≠j0_2) (ho0:O i0=some ⟨false,110,4,1,[.row j0_2 a0.out.length,.val (.int .i64 a0.kept),.row j0_0 a0.gone.length,.row j0_1 a0.come.length]⟩) (Vy:O j0_0=some ⟨true,25,3,a0.gone.length,fl Zb a0.gone⟩) (Zfx:O j0_1=some ⟨true,25,3,a0.come.length,fl Zb a0.come⟩) (Zh4:O j0_2=some ⟨true,69,14,a0.out.length,fl Zg a0.out⟩) (h:Q5 a0 a2=some r):GTo Try.prog 85 [.ref i0 0,.ref i0 2,.sl a2.length (fl Zb a2)] O n (.tup []) (Zx ((((O.upd j0_0 none).upd j0_1 none).upd j0_2 none).upd i0 (some ⟨false,110,4,1,[.row (n+2) r.out.length,.val (.int .i64 r.kept),.row n r.gone.length,.row (n+1) r.come.length]⟩)) n [some ⟨true,25,3,r.gone.length,fl Zb r.gone⟩,some ⟨true,25,3,r.come.length,fl Zb r.come⟩,some ⟨true,69,14,r.out.length,fl Zg r.out⟩]) (n+3):=by
 unfold Q5 at h
 refine Y8 Zd Try.call85 Try.func85 rfl (Nat.le_of_ble_eq_true rfl) (by omega) fun hU => ?_
 have e0:=Jj (ba:=n) (E:=⟨32,[],Zd4 0 [.ref i0 0,.ref i0 2,.sl a2.length (fl Zb a2)]⟩) (O:=(Zx O n [])) (n:=n) (i:=i0) (j:=j0_0) (k:=2) (len:=a0.gone.length) (q:=⟨false,110,4,1,[.row j0_2 a0.out.length,.val (.int .i64 a0.kept),.row j0_0 a0.gone.length,.row j0_1 a0.come.length]⟩) (qj:=⟨true,25,3,a0.gone.length,fl Zb a0.gone⟩) (by rw [Yo _ hi0];first | exact ho0 | exact Yh _ _ _) rfl (by rw [Yo _ Vl];exact Vy) Q4 (by omega)
 simp only [Yu _ _ Vl,Yu _ _ hi0,Xj,Y2,X9,Gh Q4,List.set_cons_zero,List.set_cons_succ,List.cons_append,List.nil_append,List.length_cons,List.length_nil,Nat.zero_add,Nat.reduceAdd,Nat.add_assoc] at e0
 refine Ku e0 ?_
 have e1:=Jj (ba:=n) (E:=⟨32,[],Zd4 0 [.ref i0 0,.ref i0 2,.sl a2.length (fl Zb a2)]⟩) (O:=(Zx ((O.upd j0_0 none).upd i0 (some ⟨false,110,4,1,[.row j0_2 a0.out.length,.val (.int .i64 a0.kept),.row n a0.gone.length,.row j0_1 a0.come.length]⟩)) n [some ⟨true,25,3,a0.gone.length,fl Zb a0.gone⟩])) (n:=(n+1)) (i:=i0) (j:=j0_1) (k:=3) (len:=a0.come.length) (q:=⟨false,110,4,1,[.row j0_2 a0.out.length,.val (.int .i64 a0.kept),.row n a0.gone.length,.row j0_1 a0.come.length]⟩) (qj:=⟨true,25,3,a0.come.length,fl Zb a0.come⟩) (by rw [Yo _ hi0];first | exact ho0 | exact Yh _ _ _) rfl (by rw [Yo _ Zey,Y3 _ _ (Ne.symm Vx),Y3 _ _ (Ne.symm Vw)];exact Zfx) Vx (by omega)
 simp only [Yu _ _ Zey,Yu _ _ hi0,Xj,Y2,X9,Gh Vx,List.set_cons_zero,List.set_cons_succ,List.cons_append,List.nil_append,List.length_cons,List.length_nil,Nat.zero_add,Nat.reduceAdd,Nat.add_assoc] at e1
 refine Ku e1 ?_
 have e2:=Jj (ba:=n) (E:=⟨32,[],Zd4 0 [.ref i0 0,.ref i0 2,.sl a2.length (fl Zb a2)]⟩) (O:=(Zx (((O.upd j0_0 none).upd j0_1 none).upd i0 (some ⟨false,110,4,1,[.row j0_2 a0.out.length,.val (.int .i64 a0.kept),.row n a0.gone.length,.row (n+1) a0.come.length]⟩)) n [some ⟨true,25,3,a0.gone.length,fl Zb a0.gone⟩,some ⟨true,25,3,a0.come.length,fl Zb a0.come⟩])) (n:=(n+2)) (i:=i0) (j:=j0_2) (k:=0) (len:=a0.out.length) (q:=⟨false,110,4,1,[.row j0_2 a0.out.length,.val (.int .i64 a0.kept),.row n a0.gone.length,.row (n+1) a0.come.length]⟩) (qj:=⟨true,69,14,a0.out.length,fl Zg a0.out⟩) (by rw [Yo _ hi0];first | exact ho0 | exact Yh _ _ _) rfl (by rw [Yo _ Zgv,Y3 _ _ (Ne.symm Gr),Y3 _ _ (Ne.symm Gq),Y3 _ _ (Ne.symm Gp)];exact Zh4) Gr (by omega)
 simp only [Yu _ _ Zgv,Yu _ _ hi0,Xj,Y2,X9,Gh Gr,List.set_cons_zero,List.set_cons_succ,List.cons_append,List.nil_append,List.length_cons,List.length_nil,Nat.zero_add,Nat.reduceAdd,Nat.add_assoc] at e2
 refine Ku e2 ?_
 have hU:=(Und.drop (Und.drop (Und.drop hU j0_0) j0_1) j0_2)
 have hk0:∀ k,i0 < n+k:=fun k=>by omega
 have hN0:∀ o,Objs.upd (((O.upd j0_0 none).upd j0_1 none).upd j0_2 none) i0 o n=none:=fun o=>Q3 hU hi0 _ (Nat.le_refl _)
 have hN:∀ o k,Objs.upd (((O.upd j0_0 none).upd j0_1 none).upd j0_2 none) i0 o (n+k)=none:=fun o k=>Q3 hU hi0 _ (Nat.le_add_right _ _)
 show W _ _ _ _ ⟨32,[],[(0,.ref i0 0),(1,.ref i0 2),(2,.sl a2.length (fl Zb a2))]⟩ (Zx ((((O.upd j0_0 none).upd j0_1 none).upd j0_2 none).upd i0 (some ⟨false,110,4,1,[.row (n+2) a0.out.length,.val (.int .i64 a0.kept),.row n a0.gone.length,.row (n+1) a0.come.length]⟩)) n [some ⟨true,25,3,a0.gone.length,fl Zb a0.gone⟩,some ⟨true,25,3,a0.come.length,fl Zb a0.come⟩,some ⟨true,69,14,a0.out.length,fl Zg a0.out⟩]) _
 obtain ⟨z1,hz1,h⟩:=bC h
 refine Y6 (E':=⟨32,[],[(1,.ref i0 2),(2,.sl a2.length (fl Zb a2))]⟩) (O':=(Zx ((((O.upd j0_0 none).upd j0_1 none).upd j0_2 none).upd i0 (some ⟨false,110,4,1,[.row (n+6) z1.1.length,.val (.int .i64 z1.2.2.2),.row (n+7) z1.2.1.length,.row (n+8) z1.2.2.1.length]⟩)) n [none,none,none,none,none,none,some ⟨true,69,14,z1.1.length,fl Zg z1.1⟩,some ⟨true,25,3,z1.2.1.length,fl Zb z1.2.1⟩,some ⟨true,25,3,z1.2.2.1.length,fl Zb z1.2.2.1⟩])) (n0:=(n+9)) ?_ ?_
 ·refine Zr [0,1,2,12] (Zc Zd [] ?_)
  simp only [push_cast,seval,↓reduceIte,Za,hi0,hk0,hN0,hN]
  refine Zv (t:=(decide (0 < a0.kept))) rfl (fun c3 => ?_) (fun c3 => ?_)
  ·replace hz1:=Zu c3 hz1
   obtain ⟨y2,hy2,hz1⟩:=bC hz1
   refine Zc Zd [] ?_
   simp only [push_cast,seval,↓reduceIte,Za,hi0,hk0,hN0,hN]
   refine (K2 (i0:=i0) (j0_0:=n) (j0_1:=(n+1)) (j0_2:=(n+2)) (by omega) (by omega) (by omega) (by omega) (by omega) (by omega) (by omega) (by omega) (by omega) (by omega) (by simp only [push_cast,seval,↓reduceIte,Za,Xf,hi0,hk0,hN0,hN] <;> rfl) (by simp only [push_cast,seval,↓reduceIte,Za,Xf,hi0,hk0,hN0,hN] <;> rfl) (by simp only [push_cast,seval,↓reduceIte,Za,Xf,hi0,hk0,hN0,hN] <;> rfl) (by simp only [push_cast,seval,↓reduceIte,Za,Xf,hi0,hk0,hN0,hN] <;> rfl) hy2).then ?_
   simp only [push_cast,seval,↓reduceIte,Za,hi0,hk0,hN0,hN]
   have hz1:=Option.some.inj hz1;subst hz1
   refine And.intro rfl ?_
   refine Fit2.trans (E':=(⟨32,[],[(1,.ref i0 2),(2,.sl a2.length (fl Zb a2))]⟩:Env)) (O':=(Zx ((((O.upd j0_0 none).upd j0_1 none).upd j0_2 none).upd i0 (some ⟨false,110,4,1,[.row (n+5) y2.out.length,.val (.int .i64 y2.kept),.row (n+3) y2.gone.length,.row (n+4) y2.come.length]⟩)) n [none,none,none,some ⟨true,25,3,y2.gone.length,fl Zb y2.gone⟩,some ⟨true,25,3,y2.come.length,fl Zb y2.come⟩,some ⟨true,69,14,y2.out.length,fl Zg y2.out⟩])) (n':=(n+6)) (Fit2.of (Yg hU rfl rfl ?_) (by omega)) ?_
   ·simp only [push_cast,seval,↓reduceIte,Za,hi0,hk0,hN0,hN]
   refine X8 (k:=6) (k':=9) hU [5,5,5,7,8,6] [0,0,0,0,0,0,5,3,4] rfl rfl rfl rfl ⟨rfl,rfl⟩ ?_
   simp only [push_cast,seval,↓reduceIte,Za,hi0,hk0,hN0,hN]
  replace hz1:=Zt c3 hz1
  refine Zy ?_
  try simp only [Zk,Ze]
  have hz1:=Option.some.inj hz1;subst hz1
  refine And.intro rfl ?_
  refine Fit2.trans (E':=(⟨32,[],[(1,.ref i0 2),(2,.sl a2.length (fl Zb a2))]⟩:Env)) (O':=(Zx ((((O.upd j0_0 none).upd j0_1 none).upd j0_2 none).upd i0 (some ⟨false,110,4,1,[.row (n+2) a0.out.length,.val (.int .i64 a0.kept),.row n a0.gone.length,.row (n+1) a0.come.length]⟩)) n [some ⟨true,25,3,a0.gone.length,fl Zb a0.gone⟩,some ⟨true,25,3,a0.come.length,fl Zb a0.come⟩,some ⟨true,69,14,a0.out.length,fl Zg a0.out⟩])) (n':=(n+3)) (Fit2.of (Yg hU rfl rfl ?_) (by omega)) ?_
  ·simp only [push_cast,seval,↓reduceIte,Za,hi0,hk0,hN0,hN]
  refine X8 (k:=3) (k':=9) hU [7,8,6] [0,0,0,0,0,0,2,0,1] rfl rfl rfl rfl ⟨rfl,rfl⟩ ?_
  simp only [push_cast,seval,↓reduceIte,Za,hi0,hk0,hN0,hN]
 refine Zr [1,15,16,17] (Zc Zd [] ?_)
 simp only [push_cast,seval,↓reduceIte,Za,hi0,hk0,hN0,hN]
 refine Zl [1,15,16,17] [false,false,false,false,false,false,true,true,true] ?_
 simp only [push_cast,seval,↓reduceIte]
 obtain ⟨z11,hz11,h⟩:=bC h
 refine Yx (E':=⟨32,[],[]⟩) (O':=(Zx ((((O.upd j0_0 none).upd j0_1 none).upd j0_2 none).upd i0 (some ⟨false,110,4,1,[.row (n+6) z1.1.length,.val (.int .i64 z1.2.2.2),.row (n+7) z11.length,.row (n+8) z1.2.2.1.length]⟩)) n [none,none,none,none,none,none,some ⟨true,69,14,z1.1.length,fl Zg z1.1⟩,some ⟨true,25,3,z11.length,fl Zb z11⟩,some ⟨true,25,3,z1.2.2.1.length,fl Zb z1.2.2.1⟩])) (n0:=(n+9)) ?_ ?_
 ·refine Xg hz11 (fun s0_=>⟨32,[],[(1,.ref i0 2),(15,.sl a2.length (fl Zb a2)),(16,.val (.int .i64 (a2.length:Int))),(17,.val (.int .i64 s0_.1))]⟩) (fun s0_=>(Zx ((((O.upd j0_0 none).upd j0_1 none).upd j0_2 none).upd i0 (some ⟨false,110,4,1,[.row (n+6) z1.1.length,.val (.int .i64 z1.2.2.2),.row (n+7) s0_.2.length,.row (n+8) z1.2.2.1.length]⟩)) n [none,none,none,none,none,none,some ⟨true,69,14,z1.1.length,fl Zg z1.1⟩,some ⟨true,25,3,s0_.2.length,fl Zb s0_.2⟩,some ⟨true,25,3,z1.2.2.1.length,fl Zb z1.2.2.1⟩])) (fun z11=>JX 0 n (⟨32,[],[]⟩:Env) (Zx ((((O.upd j0_0 none).upd j0_1 none).upd j0_2 none).upd i0 (some ⟨false,110,4,1,[.row (n+6) z1.1.length,.val (.int .i64 z1.2.2.2),.row (n+7) z11.length,.row (n+8) z1.2.2.1.length]⟩)) n [none,none,none,none,none,none,some ⟨true,69,14,z1.1.length,fl Zg z1.1⟩,some ⟨true,25,3,z11.length,fl Zb z11⟩,some ⟨true,25,3,z1.2.2.1.length,fl Zb z1.2.2.1⟩]) (n+9)) ?_
  intro s0_ x0_ hs0_
  unfold Qg at hs0_
  try dsimp only
  refine Zr [1,15,16,17,18] (Zc Zd [] ?_)
  simp only [push_cast,seval,↓reduceIte,Za,hi0,hk0,hN0,hN]
  refine Zm ?_
  refine Zv (t:=(decide (s0_.1 < (a2.length:Int)))) rfl (fun c10 => ?_) (fun c10 => ?_)
  ·replace hs0_:=Zu c10 hs0_
   refine Zy ?_
   try simp only [Zk,Ze]
   refine Zl [1,15,16,17] [false,false,false,false,false,false,true,true,true] ?_
   simp only [push_cast,seval,↓reduceIte]
   refine Zm ?_
   refine Ym ?_
   refine Zm ?_
   obtain ⟨x5,hx5,ax5,bx5,cx5,hs0_⟩:=bE (f:=Zb) Vm (fun _=>rfl) (by decide) hs0_
   refine Zc Zd [] ?_
   simp only [push_cast,Nat.reduceAdd,Nat.reduceSub,Nat.reduceMul,Nat.reduceLeDiff,Nat.reduceLT,Nat.reduceEqDiff,↓reduceIte,reduceCtorEq,Int.reduceBEq,Int.reduceBNe,Nat.reduceBEq,Int.reduceLE,Int.reduceLT,Int.reduceEq,Int.reduceNe,Int.reduceNeg,Nat.reduceDiv,Nat.reduceMod,Nat.reducePow,Za,ax5,bx5,cx5,hi0,hk0,hN0,hN]
   refine Zl [1,7,15,16,17] [false,false,false,false,false,false,true,true,true,true] ?_
   simp only [push_cast,seval,↓reduceIte]
   obtain ⟨y6,hy6,hs0_⟩:=bC hs0_
   obtain ⟨l7,pl7,ql7,el7,hs0_⟩:=bA (k:=1) rfl hs0_
   obtain ⟨x8,hx8,ax8,bx8,cx8,hs0_⟩:=bE (f:=Zb) Vm (fun _=>rfl) (by decide) hs0_
   have gu9:Js (fl Zb s0_.2++[.val (.int .i64 0),.val (.slice none 0 0),.val (.slice none 0 0)]) [.val (.int .i64 y6.Kind),.sl y6.Words.length (fl (eI .u64) y6.Words),.sl y6.Kids.length (fl Zb y6.Kids)] (List.length s0_.2 * 3)=some (fl Zb s0_.2++[.val (.int .i64 y6.Kind),.sl y6.Words.length (fl (eI .u64) y6.Words),.sl y6.Kids.length (fl Zb y6.Kids)]):=Gi (f:=Zb) (sz:=3) (fun _=>rfl) rfl rfl
   refine Zcs Zd (by kernel_rfl) [.low,.low,.low,.low,.low,.low,.pass,.bar,.shp,.fill true,.shp,.fill false] (fun i=>i < (n+10)) [0,1,2,3,4,5,6,7,8,9,10,11] [.low,.low,.low,.low,.low,.low,.pass,.bar,.shp,.fill true,.shp,.fill false] [] (by kernel_rfl) rfl ?_
   simp only [push_cast,Nat.reduceAdd,Nat.reduceSub,Nat.reduceMul,Nat.reduceLeDiff,Nat.reduceLT,Nat.reduceEqDiff,↓reduceIte,reduceCtorEq,Int.reduceBEq,Int.reduceBNe,Nat.reduceBEq,Int.reduceLE,Int.reduceLT,Int.reduceEq,Int.reduceNe,Int.reduceNeg,Nat.reduceDiv,Nat.reduceMod,Nat.reducePow,Za,pl7,ql7,el7,ax8,bx8,cx8,gu9,hi0,hk0,hN0,hN]
   repeat (with_reducible refine And.intro (by first | omega | exact Xe rfl | exact Y0 | exact J7 rfl rfl) ?_)
   first | refine PCallA.of (fun _ _=>Gv hy6) ?_ | refine PCall.of (Gv hy6) ?_
   simp only [push_cast,Nat.reduceAdd,Nat.reduceSub,Nat.reduceMul,Nat.reduceLeDiff,Nat.reduceLT,Nat.reduceEqDiff,↓reduceIte,reduceCtorEq,Int.reduceBEq,Int.reduceBNe,Nat.reduceBEq,Int.reduceLE,Int.reduceLT,Int.reduceEq,Int.reduceNe,Int.reduceNeg,Nat.reduceDiv,Nat.reduceMod,Nat.reducePow,Za,pl7,ql7,el7,ax8,bx8,cx8,gu9,hi0,hk0,hN0,hN]
   repeat (with_reducible refine And.intro (by first | omega | exact Xe rfl | exact Y0 | exact J7 rfl rfl) ?_)
   refine Zhg ⟨32,[],[(1,.ref i0 2),(15,.sl a2.length (fl Zb a2)),(16,.val (.int .i64 (a2.length:Int))),(17,.val (.int .i64 s0_.1))]⟩ (Zx ((((O.upd j0_0 none).upd j0_1 none).upd j0_2 none).upd i0 (some ⟨false,110,4,1,[.row (n+6) z1.1.length,.val (.int .i64 z1.2.2.2),.row (n+7) (s0_.2++[y6]).length,.row (n+8) z1.2.2.1.length]⟩)) n [none,none,none,none,none,none,some ⟨true,69,14,z1.1.length,fl Zg z1.1⟩,some ⟨true,25,3,(s0_.2++[y6]).length,fl Zb (s0_.2++[y6])⟩,some ⟨true,25,3,z1.2.2.1.length,fl Zb z1.2.2.1⟩,none,none]) (Yg hU rfl rfl ?_) ?_
   ·simp only [push_cast,Nat.reduceAdd,Nat.reduceSub,Nat.reduceMul,Nat.reduceLeDiff,Nat.reduceLT,Nat.reduceEqDiff,↓reduceIte,reduceCtorEq,Int.reduceBEq,Int.reduceBNe,Nat.reduceBEq,Int.reduceLE,Int.reduceLT,Int.reduceEq,Int.reduceNe,Int.reduceNeg,Nat.reduceDiv,Nat.reduceMod,Nat.reducePow,Za,pl7,ql7,el7,ax8,bx8,cx8,gu9,hi0,hk0,hN0,hN]
   refine Zc Zd [] ?_
   simp only [push_cast,seval,↓reduceIte,Za,hi0,hk0,hN0,hN]
   have hs0_:=Option.some.inj hs0_;subst hs0_
   refine And.intro rfl (Fit2.of (Yg hU rfl rfl ?_) (by omega))
   simp only [push_cast,seval,↓reduceIte,Za,hi0,hk0,hN0,hN]
  replace hs0_:=Zt c10 hs0_
  refine Xp ?_
  try simp only [Zk,Ze,↓reduceIte,Nat.reduceEqDiff]
  have hs0_:=Option.some.inj hs0_;subst hs0_
  refine And.intro (fun h=>by cases h) (And.intro rfl (Fit2.of (Yg hU rfl rfl ?_) (by omega)))
  simp only [push_cast,seval,↓reduceIte,Za,hi0,hk0,hN0,hN]
 try simp only [Zk,Ze,↓reduceIte,Nat.reduceEqDiff]
 have h:=Option.some.inj h;subst h
 refine Jr (k:=3) (i:=i0) (q1:=⟨false,110,4,1,[.row (n+2) z1.1.length,.val (.int .i64 z1.2.2.2),.row n z11.length,.row (n+1) z1.2.2.1.length]⟩) (L3:=[some ⟨true,25,3,z11.length,fl Zb z11⟩,some ⟨true,25,3,z1.2.2.1.length,fl Zb z1.2.2.1⟩,some ⟨true,69,14,z1.1.length,fl Zg z1.1⟩,none]) (E2:=(⟨32,[],[]⟩:Env)) (n3:=(n+4)) (.inl rfl) hU rfl [] ?_ ?_
 ·refine Fit2.trans (E':=(⟨32,[],[]⟩:Env)) (O':=(Zx ((((O.upd j0_0 none).upd j0_1 none).upd j0_2 none).upd i0 (some ⟨false,110,4,1,[.row (n+6) z1.1.length,.val (.int .i64 z1.2.2.2),.row (n+7) z11.length,.row (n+8) z1.2.2.1.length]⟩)) n [none,none,none,none,none,none,some ⟨true,69,14,z1.1.length,fl Zg z1.1⟩,some ⟨true,25,3,z11.length,fl Zb z11⟩,some ⟨true,25,3,z1.2.2.1.length,fl Zb z1.2.2.1⟩])) (n':=(n+9)) (Fit2.of (Yg hU rfl rfl ?_) (by omega)) ?_
  ·simp only [push_cast,seval,↓reduceIte,Za,hi0,hk0,hN0,hN]
  refine X8 (k:=9) (k':=4) hU [3,3,3,3,3,3,2,0,1] [7,8,6,0] rfl rfl rfl rfl ⟨rfl,rfl⟩ ?_
  simp only [push_cast,seval,↓reduceIte,Za,hi0,hk0,hN0,hN]
 simp only [push_cast,seval,↓reduceIte,Za,Try.results85,hi0,hk0,hN0,hN]
theorem Zgs {a0:Zw} {a2:(List S_api_Tree)} {r:Zw} {O:Objs} {n:Nat} {i0 j0_0 j0_1 j0_2:Nat} (hi0:i0 < n) (Vl:j0_0 < n) (Zey:j0_1 < n) (Zgv:j0_2 < n) (Q4:i0≠j0_0) (Vx:i0≠j0_1) (Gr:i0≠j0_2) (Vw:j0_0≠j0_1) (Gp:j0_0≠j0_2) (Gq:j0_1≠j0_2) (ho0:O i0=some ⟨false,110,4,1,[.row j0_2 a0.out.length,.val (.int .i64 a0.kept),.row j0_0 a0.gone.length,.row j0_1 a0.come.length]⟩) (Vy:O j0_0=some ⟨true,25,3,a0.gone.length,fl Zb a0.gone⟩) (Zfx:O j0_1=some ⟨true,25,3,a0.come.length,fl Zb a0.come⟩) (Zh4:O j0_2=some ⟨true,69,14,a0.out.length,fl Zg a0.out⟩) (h:Q6 a0 a2=some r):GTo Try.prog 85 [.ref i0 0,.ref i0 3,.sl a2.length (fl Zb a2)] O n (.tup []) (Zx ((((O.upd j0_0 none).upd j0_1 none).upd j0_2 none).upd i0 (some ⟨false,110,4,1,[.row (n+2) r.out.length,.val (.int .i64 r.kept),.row n r.gone.length,.row (n+1) r.come.length]⟩)) n [some ⟨true,25,3,r.gone.length,fl Zb r.gone⟩,some ⟨true,25,3,r.come.length,fl Zb r.come⟩,some ⟨true,69,14,r.out.length,fl Zg r.out⟩]) (n+3):=by
 unfold Q6 at h
 refine Y8 Zd Try.call85 Try.func85 rfl (Nat.le_of_ble_eq_true rfl) (by omega) fun hU => ?_
 have e0:=Jj (ba:=n) (E:=⟨32,[],Zd4 0 [.ref i0 0,.ref i0 3,.sl a2.length (fl Zb a2)]⟩) (O:=(Zx O n [])) (n:=n) (i:=i0) (j:=j0_0) (k:=2) (len:=a0.gone.length) (q:=⟨false,110,4,1,[.row j0_2 a0.out.length,.val (.int .i64 a0.kept),.row j0_0 a0.gone.length,.row j0_1 a0.come.length]⟩) (qj:=⟨true,25,3,a0.gone.length,fl Zb a0.gone⟩) (by rw [Yo _ hi0];first | exact ho0 | exact Yh _ _ _) rfl (by rw [Yo _ Vl];exact Vy) Q4 (by omega)
 simp only [Yu _ _ Vl,Yu _ _ hi0,Xj,Y2,X9,Gh Q4,List.set_cons_zero,List.set_cons_succ,List.cons_append,List.nil_append,List.length_cons,List.length_nil,Nat.zero_add,Nat.reduceAdd,Nat.add_assoc] at e0
 refine Ku e0 ?_
 have e1:=Jj (ba:=n) (E:=⟨32,[],Zd4 0 [.ref i0 0,.ref i0 3,.sl a2.length (fl Zb a2)]⟩) (O:=(Zx ((O.upd j0_0 none).upd i0 (some ⟨false,110,4,1,[.row j0_2 a0.out.length,.val (.int .i64 a0.kept),.row n a0.gone.length,.row j0_1 a0.come.length]⟩)) n [some ⟨true,25,3,a0.gone.length,fl Zb a0.gone⟩])) (n:=(n+1)) (i:=i0) (j:=j0_1) (k:=3) (len:=a0.come.length) (q:=⟨false,110,4,1,[.row j0_2 a0.out.length,.val (.int .i64 a0.kept),.row n a0.gone.length,.row j0_1 a0.come.length]⟩) (qj:=⟨true,25,3,a0.come.length,fl Zb a0.come⟩) (by rw [Yo _ hi0];first | exact ho0 | exact Yh _ _ _) rfl (by rw [Yo _ Zey,Y3 _ _ (Ne.symm Vx),Y3 _ _ (Ne.symm Vw)];exact Zfx) Vx (by omega)
 simp only [Yu _ _ Zey,Yu _ _ hi0,Xj,Y2,X9,Gh Vx,List.set_cons_zero,List.set_cons_succ,List.cons_append,List.nil_append,List.length_cons,List.length_nil,Nat.zero_add,Nat.reduceAdd,Nat.add_assoc] at e1
 refine Ku e1 ?_
 have e2:=Jj (ba:=n) (E:=⟨32,[],Zd4 0 [.ref i0 0,.ref i0 3,.sl a2.length (fl Zb a2)]⟩) (O:=(Zx (((O.upd j0_0 none).upd j0_1 none).upd i0 (some ⟨false,110,4,1,[.row j0_2 a0.out.length,.val (.int .i64 a0.kept),.row n a0.gone.length,.row (n+1) a0.come.length]⟩)) n [some ⟨true,25,3,a0.gone.length,fl Zb a0.gone⟩,some ⟨true,25,3,a0.come.length,fl Zb a0.come⟩])) (n:=(n+2)) (i:=i0) (j:=j0_2) (k:=0) (len:=a0.out.length) (q:=⟨false,110,4,1,[.row j0_2 a0.out.length,.val (.int .i64 a0.kept),.row n a0.gone.length,.row (n+1) a0.come.length]⟩) (qj:=⟨true,69,14,a0.out.length,fl Zg a0.out⟩) (by rw [Yo _ hi0];first | exact ho0 | exact Yh _ _ _) rfl (by rw [Yo _ Zgv,Y3 _ _ (Ne.symm Gr),Y3 _ _ (Ne.symm Gq),Y3 _ _ (Ne.symm Gp)];exact Zh4) Gr (by omega)
 simp only [Yu _ _ Zgv,Yu _ _ hi0,Xj,Y2,X9,Gh Gr,List.set_cons_zero,List.set_cons_succ,List.cons_append,List.nil_append,List.length_cons,List.length_nil,Nat.zero_add,Nat.reduceAdd,Nat.add_assoc] at e2
 refine Ku e2 ?_
 have hU:=(Und.drop (Und.drop (Und.drop hU j0_0) j0_1) j0_2)
 have hk0:∀ k,i0 < n+k:=fun k=>by omega
 have hN0:∀ o,Objs.upd (((O.upd j0_0 none).upd j0_1 none).upd j0_2 none) i0 o n=none:=fun o=>Q3 hU hi0 _ (Nat.le_refl _)
 have hN:∀ o k,Objs.upd (((O.upd j0_0 none).upd j0_1 none).upd j0_2 none) i0 o (n+k)=none:=fun o k=>Q3 hU hi0 _ (Nat.le_add_right _ _)
 show W _ _ _ _ ⟨32,[],[(0,.ref i0 0),(1,.ref i0 3),(2,.sl a2.length (fl Zb a2))]⟩ (Zx ((((O.upd j0_0 none).upd j0_1 none).upd j0_2 none).upd i0 (some ⟨false,110,4,1,[.row (n+2) a0.out.length,.val (.int .i64 a0.kept),.row n a0.gone.length,.row (n+1) a0.come.length]⟩)) n [some ⟨true,25,3,a0.gone.length,fl Zb a0.gone⟩,some ⟨true,25,3,a0.come.length,fl Zb a0.come⟩,some ⟨true,69,14,a0.out.length,fl Zg a0.out⟩]) _
 obtain ⟨z1,hz1,h⟩:=bC h
 refine Y6 (E':=⟨32,[],[(1,.ref i0 3),(2,.sl a2.length (fl Zb a2))]⟩) (O':=(Zx ((((O.upd j0_0 none).upd j0_1 none).upd j0_2 none).upd i0 (some ⟨false,110,4,1,[.row (n+6) z1.1.length,.val (.int .i64 z1.2.2.2),.row (n+7) z1.2.1.length,.row (n+8) z1.2.2.1.length]⟩)) n [none,none,none,none,none,none,some ⟨true,69,14,z1.1.length,fl Zg z1.1⟩,some ⟨true,25,3,z1.2.1.length,fl Zb z1.2.1⟩,some ⟨true,25,3,z1.2.2.1.length,fl Zb z1.2.2.1⟩])) (n0:=(n+9)) ?_ ?_
 ·refine Zr [0,1,2,12] (Zc Zd [] ?_)
  simp only [push_cast,seval,↓reduceIte,Za,hi0,hk0,hN0,hN]
  refine Zv (t:=(decide (0 < a0.kept))) rfl (fun c3 => ?_) (fun c3 => ?_)
  ·replace hz1:=Zu c3 hz1
   obtain ⟨y2,hy2,hz1⟩:=bC hz1
   refine Zc Zd [] ?_
   simp only [push_cast,seval,↓reduceIte,Za,hi0,hk0,hN0,hN]
   refine (K2 (i0:=i0) (j0_0:=n) (j0_1:=(n+1)) (j0_2:=(n+2)) (by omega) (by omega) (by omega) (by omega) (by omega) (by omega) (by omega) (by omega) (by omega) (by omega) (by simp only [push_cast,seval,↓reduceIte,Za,Xf,hi0,hk0,hN0,hN] <;> rfl) (by simp only [push_cast,seval,↓reduceIte,Za,Xf,hi0,hk0,hN0,hN] <;> rfl) (by simp only [push_cast,seval,↓reduceIte,Za,Xf,hi0,hk0,hN0,hN] <;> rfl) (by simp only [push_cast,seval,↓reduceIte,Za,Xf,hi0,hk0,hN0,hN] <;> rfl) hy2).then ?_
   simp only [push_cast,seval,↓reduceIte,Za,hi0,hk0,hN0,hN]
   have hz1:=Option.some.inj hz1;subst hz1
   refine And.intro rfl ?_
   refine Fit2.trans (E':=(⟨32,[],[(1,.ref i0 3),(2,.sl a2.length (fl Zb a2))]⟩:Env)) (O':=(Zx ((((O.upd j0_0 none).upd j0_1 none).upd j0_2 none).upd i0 (some ⟨false,110,4,1,[.row (n+5) y2.out.length,.val (.int .i64 y2.kept),.row (n+3) y2.gone.length,.row (n+4) y2.come.length]⟩)) n [none,none,none,some ⟨true,25,3,y2.gone.length,fl Zb y2.gone⟩,some ⟨true,25,3,y2.come.length,fl Zb y2.come⟩,some ⟨true,69,14,y2.out.length,fl Zg y2.out⟩])) (n':=(n+6)) (Fit2.of (Yg hU rfl rfl ?_) (by omega)) ?_
   ·simp only [push_cast,seval,↓reduceIte,Za,hi0,hk0,hN0,hN]
   refine X8 (k:=6) (k':=9) hU [5,5,5,7,8,6] [0,0,0,0,0,0,5,3,4] rfl rfl rfl rfl ⟨rfl,rfl⟩ ?_
   simp only [push_cast,seval,↓reduceIte,Za,hi0,hk0,hN0,hN]
  replace hz1:=Zt c3 hz1
  refine Zy ?_
  try simp only [Zk,Ze]
  have hz1:=Option.some.inj hz1;subst hz1
  refine And.intro rfl ?_
  refine Fit2.trans (E':=(⟨32,[],[(1,.ref i0 3),(2,.sl a2.length (fl Zb a2))]⟩:Env)) (O':=(Zx ((((O.upd j0_0 none).upd j0_1 none).upd j0_2 none).upd i0 (some ⟨false,110,4,1,[.row (n+2) a0.out.length,.val (.int .i64 a0.kept),.row n a0.gone.length,.row (n+1) a0.come.length]⟩)) n [some ⟨true,25,3,a0.gone.length,fl Zb a0.gone⟩,some ⟨true,25,3,a0.come.length,fl Zb a0.come⟩,some ⟨true,69,14,a0.out.length,fl Zg a0.out⟩])) (n':=(n+3)) (Fit2.of (Yg hU rfl rfl ?_) (by omega)) ?_
  ·simp only [push_cast,seval,↓reduceIte,Za,hi0,hk0,hN0,hN]
  refine X8 (k:=3) (k':=9) hU [7,8,6] [0,0,0,0,0,0,2,0,1] rfl rfl rfl rfl ⟨rfl,rfl⟩ ?_
  simp only [push_cast,seval,↓reduceIte,Za,hi0,hk0,hN0,hN]
 refine Zr [1,15,16,17] (Zc Zd [] ?_)
 simp only [push_cast,seval,↓reduceIte,Za,hi0,hk0,hN0,hN]
 refine Zl [1,15,16,17] [false,false,false,false,false,false,true,true,true] ?_
 simp only [push_cast,seval,↓reduceIte]
 obtain ⟨z11,hz11,h⟩:=bC h
 refine Yx (E':=⟨32,[],[]⟩) (O':=(Zx ((((O.upd j0_0 none).upd j0_1 none).upd j0_2 none).upd i0 (some ⟨false,110,4,1,[.row (n+6) z1.1.length,.val (.int .i64 z1.2.2.2),.row (n+7) z1.2.1.length,.row (n+8) z11.length]⟩)) n [none,none,none,none,none,none,some ⟨true,69,14,z1.1.length,fl Zg z1.1⟩,some ⟨true,25,3,z1.2.1.length,fl Zb z1.2.1⟩,some ⟨true,25,3,z11.length,fl Zb z11⟩])) (n0:=(n+9)) ?_ ?_
 ·refine Xg hz11 (fun s0_=>⟨32,[],[(1,.ref i0 3),(15,.sl a2.length (fl Zb a2)),(16,.val (.int .i64 (a2.length:Int))),(17,.val (.int .i64 s0_.1))]⟩) (fun s0_=>(Zx ((((O.upd j0_0 none).upd j0_1 none).upd j0_2 none).upd i0 (some ⟨false,110,4,1,[.row (n+6) z1.1.length,.val (.int .i64 z1.2.2.2),.row (n+7) z1.2.1.length,.row (n+8) s0_.2.length]⟩)) n [none,none,none,none,none,none,some ⟨true,69,14,z1.1.length,fl Zg z1.1⟩,some ⟨true,25,3,z1.2.1.length,fl Zb z1.2.1⟩,some ⟨true,25,3,s0_.2.length,fl Zb s0_.2⟩])) (fun z11=>JX 0 n (⟨32,[],[]⟩:Env) (Zx ((((O.upd j0_0 none).upd j0_1 none).upd j0_2 none).upd i0 (some ⟨false,110,4,1,[.row (n+6) z1.1.length,.val (.int .i64 z1.2.2.2),.row (n+7) z1.2.1.length,.row (n+8) z11.length]⟩)) n [none,none,none,none,none,none,some ⟨true,69,14,z1.1.length,fl Zg z1.1⟩,some ⟨true,25,3,z1.2.1.length,fl Zb z1.2.1⟩,some ⟨true,25,3,z11.length,fl Zb z11⟩]) (n+9)) ?_
  intro s0_ x0_ hs0_
  unfold Qh at hs0_
  try dsimp only
  refine Zr [1,15,16,17,18] (Zc Zd [] ?_)
  simp only [push_cast,seval,↓reduceIte,Za,hi0,hk0,hN0,hN]
  refine Zm ?_
  refine Zv (t:=(decide (s0_.1 < (a2.length:Int)))) rfl (fun c10 => ?_) (fun c10 => ?_)
  ·replace hs0_:=Zu c10 hs0_
   refine Zy ?_
   try simp only [Zk,Ze]
   refine Zl [1,15,16,17] [false,false,false,false,false,false,true,true,true] ?_
   simp only [push_cast,seval,↓reduceIte]
   refine Zm ?_
   refine Ym ?_
   refine Zm ?_
   obtain ⟨x5,hx5,ax5,bx5,cx5,hs0_⟩:=bE (f:=Zb) Vm (fun _=>rfl) (by decide) hs0_
   refine Zc Zd [] ?_
   simp only [push_cast,Nat.reduceAdd,Nat.reduceSub,Nat.reduceMul,Nat.reduceLeDiff,Nat.reduceLT,Nat.reduceEqDiff,↓reduceIte,reduceCtorEq,Int.reduceBEq,Int.reduceBNe,Nat.reduceBEq,Int.reduceLE,Int.reduceLT,Int.reduceEq,Int.reduceNe,Int.reduceNeg,Nat.reduceDiv,Nat.reduceMod,Nat.reducePow,Za,ax5,bx5,cx5,hi0,hk0,hN0,hN]
   refine Zl [1,7,15,16,17] [false,false,false,false,false,false,true,true,true,true] ?_
   simp only [push_cast,seval,↓reduceIte]
   obtain ⟨y6,hy6,hs0_⟩:=bC hs0_
   obtain ⟨l7,pl7,ql7,el7,hs0_⟩:=bA (k:=1) rfl hs0_
   obtain ⟨x8,hx8,ax8,bx8,cx8,hs0_⟩:=bE (f:=Zb) Vm (fun _=>rfl) (by decide) hs0_
   have gu9:Js (fl Zb s0_.2++[.val (.int .i64 0),.val (.slice none 0 0),.val (.slice none 0 0)]) [.val (.int .i64 y6.Kind),.sl y6.Words.length (fl (eI .u64) y6.Words),.sl y6.Kids.length (fl Zb y6.Kids)] (List.length s0_.2 * 3)=some (fl Zb s0_.2++[.val (.int .i64 y6.Kind),.sl y6.Words.length (fl (eI .u64) y6.Words),.sl y6.Kids.length (fl Zb y6.Kids)]):=Gi (f:=Zb) (sz:=3) (fun _=>rfl) rfl rfl
   refine Zcs Zd (by kernel_rfl) [.low,.low,.low,.low,.low,.low,.pass,.bar,.shp,.fill true,.shp,.fill false] (fun i=>i < (n+10)) [0,1,2,3,4,5,6,7,8,9,10,11] [.low,.low,.low,.low,.low,.low,.pass,.bar,.shp,.fill true,.shp,.fill false] [] (by kernel_rfl) rfl ?_
   simp only [push_cast,Nat.reduceAdd,Nat.reduceSub,Nat.reduceMul,Nat.reduceLeDiff,Nat.reduceLT,Nat.reduceEqDiff,↓reduceIte,reduceCtorEq,Int.reduceBEq,Int.reduceBNe,Nat.reduceBEq,Int.reduceLE,Int.reduceLT,Int.reduceEq,Int.reduceNe,Int.reduceNeg,Nat.reduceDiv,Nat.reduceMod,Nat.reducePow,Za,pl7,ql7,el7,ax8,bx8,cx8,gu9,hi0,hk0,hN0,hN]
   repeat (with_reducible refine And.intro (by first | omega | exact Xe rfl | exact Y0 | exact J7 rfl rfl) ?_)
   first | refine PCallA.of (fun _ _=>Gv hy6) ?_ | refine PCall.of (Gv hy6) ?_
   simp only [push_cast,Nat.reduceAdd,Nat.reduceSub,Nat.reduceMul,Nat.reduceLeDiff,Nat.reduceLT,Nat.reduceEqDiff,↓reduceIte,reduceCtorEq,Int.reduceBEq,Int.reduceBNe,Nat.reduceBEq,Int.reduceLE,Int.reduceLT,Int.reduceEq,Int.reduceNe,Int.reduceNeg,Nat.reduceDiv,Nat.reduceMod,Nat.reducePow,Za,pl7,ql7,el7,ax8,bx8,cx8,gu9,hi0,hk0,hN0,hN]
   repeat (with_reducible refine And.intro (by first | omega | exact Xe rfl | exact Y0 | exact J7 rfl rfl) ?_)
   refine Zhg ⟨32,[],[(1,.ref i0 3),(15,.sl a2.length (fl Zb a2)),(16,.val (.int .i64 (a2.length:Int))),(17,.val (.int .i64 s0_.1))]⟩ (Zx ((((O.upd j0_0 none).upd j0_1 none).upd j0_2 none).upd i0 (some ⟨false,110,4,1,[.row (n+6) z1.1.length,.val (.int .i64 z1.2.2.2),.row (n+7) z1.2.1.length,.row (n+8) (s0_.2++[y6]).length]⟩)) n [none,none,none,none,none,none,some ⟨true,69,14,z1.1.length,fl Zg z1.1⟩,some ⟨true,25,3,z1.2.1.length,fl Zb z1.2.1⟩,some ⟨true,25,3,(s0_.2++[y6]).length,fl Zb (s0_.2++[y6])⟩,none,none]) (Yg hU rfl rfl ?_) ?_
   ·simp only [push_cast,Nat.reduceAdd,Nat.reduceSub,Nat.reduceMul,Nat.reduceLeDiff,Nat.reduceLT,Nat.reduceEqDiff,↓reduceIte,reduceCtorEq,Int.reduceBEq,Int.reduceBNe,Nat.reduceBEq,Int.reduceLE,Int.reduceLT,Int.reduceEq,Int.reduceNe,Int.reduceNeg,Nat.reduceDiv,Nat.reduceMod,Nat.reducePow,Za,pl7,ql7,el7,ax8,bx8,cx8,gu9,hi0,hk0,hN0,hN]
   refine Zc Zd [] ?_
   simp only [push_cast,seval,↓reduceIte,Za,hi0,hk0,hN0,hN]
   have hs0_:=Option.some.inj hs0_;subst hs0_
   refine And.intro rfl (Fit2.of (Yg hU rfl rfl ?_) (by omega))
   simp only [push_cast,seval,↓reduceIte,Za,hi0,hk0,hN0,hN]
  replace hs0_:=Zt c10 hs0_
  refine Xp ?_
  try simp only [Zk,Ze,↓reduceIte,Nat.reduceEqDiff]
  have hs0_:=Option.some.inj hs0_;subst hs0_
  refine And.intro (fun h=>by cases h) (And.intro rfl (Fit2.of (Yg hU rfl rfl ?_) (by omega)))
  simp only [push_cast,seval,↓reduceIte,Za,hi0,hk0,hN0,hN]
 try simp only [Zk,Ze,↓reduceIte,Nat.reduceEqDiff]
 have h:=Option.some.inj h;subst h
 refine Jr (k:=3) (i:=i0) (q1:=⟨false,110,4,1,[.row (n+2) z1.1.length,.val (.int .i64 z1.2.2.2),.row n z1.2.1.length,.row (n+1) z11.length]⟩) (L3:=[some ⟨true,25,3,z1.2.1.length,fl Zb z1.2.1⟩,some ⟨true,25,3,z11.length,fl Zb z11⟩,some ⟨true,69,14,z1.1.length,fl Zg z1.1⟩,none]) (E2:=(⟨32,[],[]⟩:Env)) (n3:=(n+4)) (.inl rfl) hU rfl [] ?_ ?_
 ·refine Fit2.trans (E':=(⟨32,[],[]⟩:Env)) (O':=(Zx ((((O.upd j0_0 none).upd j0_1 none).upd j0_2 none).upd i0 (some ⟨false,110,4,1,[.row (n+6) z1.1.length,.val (.int .i64 z1.2.2.2),.row (n+7) z1.2.1.length,.row (n+8) z11.length]⟩)) n [none,none,none,none,none,none,some ⟨true,69,14,z1.1.length,fl Zg z1.1⟩,some ⟨true,25,3,z1.2.1.length,fl Zb z1.2.1⟩,some ⟨true,25,3,z11.length,fl Zb z11⟩])) (n':=(n+9)) (Fit2.of (Yg hU rfl rfl ?_) (by omega)) ?_
  ·simp only [push_cast,seval,↓reduceIte,Za,hi0,hk0,hN0,hN]
  refine X8 (k:=9) (k':=4) hU [3,3,3,3,3,3,2,0,1] [7,8,6,0] rfl rfl rfl rfl ⟨rfl,rfl⟩ ?_
  simp only [push_cast,seval,↓reduceIte,Za,hi0,hk0,hN0,hN]
 simp only [push_cast,seval,↓reduceIte,Za,Try.results85,hi0,hk0,hN0,hN]
theorem Zak {a0 r:List Z3} {O:Objs} {n:Nat} (h:Qe a0=some r):GTo Try.prog 54 [.sl a0.length (fl Zo a0)] O n (.row n r.length) (Zx O n [some ⟨true,58,4,r.length,fl Zo r⟩]) (n+1):=by
 have h1:=Ztq h
 have h2:=Ztr h
 have h3:=Zov h
 rw [List.nil_append] at h3
 subst h3
 simp only [List.length_nil,Nat.zero_add] at h1 h2
 clear h
 refine Y8 Zd Try.call54 Try.func54 rfl (Nat.le_of_ble_eq_true rfl) (by omega) fun hU => ?_
 have hN0:O n=none:=hU.fresh _ (Nat.le_refl _)
 have hN:∀ k,O (n+k)=none:=fun k=>hU.fresh _ (Nat.le_add_right _ _)
 show W _ _ _ _ ⟨8,[],[(0,.sl r.length (fl Zo r))]⟩ (Zx O n []) _
 refine Zr [0] (Zc Zd [] ?_)
 simp only [push_cast,seval,↓reduceIte,Za,hN0,hN]
 refine Zye 0 r.length (fl Zo r) rfl (Nat.le_of_ble_eq_true rfl) (Yl Xc _) fun A c hA => ?_
 refine Zr [0,4] (Zc Zd [] ?_)
 simp only [push_cast,seval,↓reduceIte,Za,hN0,hN]
 cases A with
 | none =>
  obtain rfl:r=[]:=List.eq_nil_of_length_eq_zero (hA rfl)
  refine Zv (t:=true) rfl (fun _ => ?_) (fun hc=>by cases hc)
  refine Zr [2] (Zc Zd [] ?_)
  simp only [push_cast,seval,↓reduceIte,Za,hN0,hN]
  refine Z4 ?_
  try simp only [Zk,Ze]
  refine Zpz (k:=1) (L3:=[some ⟨true,58,4,0,[]⟩]) (E2:=⟨8,[],[(2,.row n 0),(2,.val (.slice none 0 0))]⟩) (n3:=(n+1)) (.inr rfl) hU rfl [.row n 0] ?_ ?_
  ·have ha:=Zm6 (ba:=n) (E:=⟨8,[],[(2,.val (.slice none 0 0))]⟩) (O:=(Zx O n [])) (n:=n) 2 58 4 rfl (by omega)
   simp only [Y2] at ha
   exact ha
  simp only [push_cast,seval,↓reduceIte,Za,Try.results54,hN0,hN]
 | some A =>
  refine Zv (t:=false) rfl (fun hc=>by cases hc) (fun _ => ?_)
  refine Zy ?_
  try simp only [Zk,Ze]
  refine And.intro rfl (And.intro (Nat.le_of_ble_eq_true rfl) ?_)
  refine Zm ?_
  refine Zc Zd [] ?_
  simp only [push_cast,seval,↓reduceIte,Za,h1,h2,hN0,hN]
  refine Z4 ?_
  try simp only [Zk,Ze]
  refine Zpy (.inr rfl) hU rfl [.row n r.length] (by omega) ?_
  simp only [push_cast,seval,↓reduceIte,Za,Try.results54,hN0,hN]
theorem Zqk {a0:Int} {a1:S_api_Edit} {r:Bool} {O:Objs} {n:Nat} (h:Zcl a0 a1=some r):GTo Try.prog 20 [.val (.int .i64 a0),.agg (Zh a1)] O n (.val (.bool r)) O n:=by
 unfold Zcl at h
 refine Y8 Zd Try.call20 Try.func20 rfl (Nat.le_of_ble_eq_true rfl) (Nat.le_refl _) fun hU => ?_
 have hN0:O n=none:=hU.fresh _ (Nat.le_refl _)
 have hN:∀ k,O (n+k)=none:=fun k=>hU.fresh _ (Nat.le_add_right _ _)
 show W _ _ _ _ ⟨27,[],[(0,.val (.int .i64 a0)),(1,.agg (Zh a1))]⟩ (Zx O n []) _
 refine Zr [0,3] (Zc Zd [] ?_)
 simp only [push_cast,seval,↓reduceIte,Za,hN0,hN]
 refine Zr [4] (Zc Zd [none,none,none,none,none,none,none,none,none,none,none,none,none,none,none,none,none] ?_)
 simp only [push_cast,seval,↓reduceIte,Za,hN0,hN]
 repeat (with_reducible refine And.intro (by first | (intro h0;simp only [h0,and_self];done) | (intro h0;simp only [h0,Bool.not_false,Bool.not_true,Bool.true_and,Bool.and_true,true_and,and_true,and_self,imp_self,implies_true,bne_iff_ne,ne_eq,beq_iff_eq];done) | (intros;simp_all;done) | exact True.intro) ?_)
 refine Z4 ?_
 try simp only [Zk,Ze]
 have h:=Option.some.inj h;subst h
 refine Zs (.inr rfl) hU [.val (.bool (cond (a1.Kind == 0) true (cond (cond (a0 == 9) (a1.Kind == 2) false) ((IntKind.i64.wrap ((a1.Words.length:Int)+(a1.Kids.length:Int))) == 0) false)))] (by omega) ?_
 simp only [push_cast,seval,↓reduceIte,Za,Try.results20,hN0,hN]
theorem Zha {a0:Zw} {a1:Int} {a2:S_api_Edit} {r:Zw} {O:Objs} {n:Nat} {i0 j0_0 j0_1 j0_2:Nat} (hi0:i0 < n) (Vl:j0_0 < n) (Zey:j0_1 < n) (Zgv:j0_2 < n) (Q4:i0≠j0_0) (Vx:i0≠j0_1) (Gr:i0≠j0_2) (Vw:j0_0≠j0_1) (Gp:j0_0≠j0_2) (Gq:j0_1≠j0_2) (ho0:O i0=some ⟨false,110,4,1,[.row j0_2 a0.out.length,.val (.int .i64 a0.kept),.row j0_0 a0.gone.length,.row j0_1 a0.come.length]⟩) (Vy:O j0_0=some ⟨true,25,3,a0.gone.length,fl Zb a0.gone⟩) (Zfx:O j0_1=some ⟨true,25,3,a0.come.length,fl Zb a0.come⟩) (Zh4:O j0_2=some ⟨true,69,14,a0.out.length,fl Zg a0.out⟩) (h:Jg a0 a1 a2=some r):GTo Try.prog 86 [.ref i0 0,.val (.int .i64 a1),.agg (Zh a2)] O n (.tup []) (Zx ((((O.upd j0_0 none).upd j0_1 none).upd j0_2 none).upd i0 (some ⟨false,110,4,1,[.row (n+2) r.out.length,.val (.int .i64 r.kept),.row n r.gone.length,.row (n+1) r.come.length]⟩)) n [some ⟨true,25,3,r.gone.length,fl Zb r.gone⟩,some ⟨true,25,3,r.come.length,fl Zb r.come⟩,some ⟨true,69,14,r.out.length,fl Zg r.out⟩]) (n+3):=by
 unfold Jg at h
 refine Y8 Zd Try.call86 Try.func86 rfl (Nat.le_of_ble_eq_true rfl) (by omega) fun hU => ?_
 have e0:=Jj (ba:=n) (E:=⟨25,[],Zd4 0 [.ref i0 0,.val (.int .i64 a1),.agg [.val (.int .i64 a2.Kind),.val (.int .i64 a2.Old.Kind),.sl a2.Old.Words.length (fl (eI .u64) a2.Old.Words),.sl a2.Old.Kids.length (fl Zb a2.Old.Kids),.val (.int .i64 a2.New.Kind),.sl a2.New.Words.length (fl (eI .u64) a2.New.Words),.sl a2.New.Kids.length (fl Zb a2.New.Kids),.sl a2.Words.length (fl Zo a2.Words),.sl a2.Kids.length (fl Zn a2.Kids),.val (.int .i64 a2.List_),.sl a2.Ops.length (fl Zg a2.Ops)]]⟩) (O:=(Zx O n [])) (n:=n) (i:=i0) (j:=j0_0) (k:=2) (len:=a0.gone.length) (q:=⟨false,110,4,1,[.row j0_2 a0.out.length,.val (.int .i64 a0.kept),.row j0_0 a0.gone.length,.row j0_1 a0.come.length]⟩) (qj:=⟨true,25,3,a0.gone.length,fl Zb a0.gone⟩) (by rw [Yo _ hi0];first | exact ho0 | exact Yh _ _ _) rfl (by rw [Yo _ Vl];exact Vy) Q4 (by omega)
 simp only [Yu _ _ Vl,Yu _ _ hi0,Xj,Y2,X9,Gh Q4,List.set_cons_zero,List.set_cons_succ,List.cons_append,List.nil_append,List.length_cons,List.length_nil,Nat.zero_add,Nat.reduceAdd,Nat.add_assoc] at e0
 refine Ku e0 ?_
 have e1:=Jj (ba:=n) (E:=⟨25,[],Zd4 0 [.ref i0 0,.val (.int .i64 a1),.agg [.val (.int .i64 a2.Kind),.val (.int .i64 a2.Old.Kind),.sl a2.Old.Words.length (fl (eI .u64) a2.Old.Words),.sl a2.Old.Kids.length (fl Zb a2.Old.Kids),.val (.int .i64 a2.New.Kind),.sl a2.New.Words.length (fl (eI .u64) a2.New.Words),.sl a2.New.Kids.length (fl Zb a2.New.Kids),.sl a2.Words.length (fl Zo a2.Words),.sl a2.Kids.length (fl Zn a2.Kids),.val (.int .i64 a2.List_),.sl a2.Ops.length (fl Zg a2.Ops)]]⟩) (O:=(Zx ((O.upd j0_0 none).upd i0 (some ⟨false,110,4,1,[.row j0_2 a0.out.length,.val (.int .i64 a0.kept),.row n a0.gone.length,.row j0_1 a0.come.length]⟩)) n [some ⟨true,25,3,a0.gone.length,fl Zb a0.gone⟩])) (n:=(n+1)) (i:=i0) (j:=j0_1) (k:=3) (len:=a0.come.length) (q:=⟨false,110,4,1,[.row j0_2 a0.out.length,.val (.int .i64 a0.kept),.row n a0.gone.length,.row j0_1 a0.come.length]⟩) (qj:=⟨true,25,3,a0.come.length,fl Zb a0.come⟩) (by rw [Yo _ hi0];first | exact ho0 | exact Yh _ _ _) rfl (by rw [Yo _ Zey,Y3 _ _ (Ne.symm Vx),Y3 _ _ (Ne.symm Vw)];exact Zfx) Vx (by omega)
 simp only [Yu _ _ Zey,Yu _ _ hi0,Xj,Y2,X9,Gh Vx,List.set_cons_zero,List.set_cons_succ,List.cons_append,List.nil_append,List.length_cons,List.length_nil,Nat.zero_add,Nat.reduceAdd,Nat.add_assoc] at e1
 refine Ku e1 ?_
 have e2:=Jj (ba:=n) (E:=⟨25,[],Zd4 0 [.ref i0 0,.val (.int .i64 a1),.agg [.val (.int .i64 a2.Kind),.val (.int .i64 a2.Old.Kind),.sl a2.Old.Words.length (fl (eI .u64) a2.Old.Words),.sl a2.Old.Kids.length (fl Zb a2.Old.Kids),.val (.int .i64 a2.New.Kind),.sl a2.New.Words.length (fl (eI .u64) a2.New.Words),.sl a2.New.Kids.length (fl Zb a2.New.Kids),.sl a2.Words.length (fl Zo a2.Words),.sl a2.Kids.length (fl Zn a2.Kids),.val (.int .i64 a2.List_),.sl a2.Ops.length (fl Zg a2.Ops)]]⟩) (O:=(Zx (((O.upd j0_0 none).upd j0_1 none).upd i0 (some ⟨false,110,4,1,[.row j0_2 a0.out.length,.val (.int .i64 a0.kept),.row n a0.gone.length,.row (n+1) a0.come.length]⟩)) n [some ⟨true,25,3,a0.gone.length,fl Zb a0.gone⟩,some ⟨true,25,3,a0.come.length,fl Zb a0.come⟩])) (n:=(n+2)) (i:=i0) (j:=j0_2) (k:=0) (len:=a0.out.length) (q:=⟨false,110,4,1,[.row j0_2 a0.out.length,.val (.int .i64 a0.kept),.row n a0.gone.length,.row (n+1) a0.come.length]⟩) (qj:=⟨true,69,14,a0.out.length,fl Zg a0.out⟩) (by rw [Yo _ hi0];first | exact ho0 | exact Yh _ _ _) rfl (by rw [Yo _ Zgv,Y3 _ _ (Ne.symm Gr),Y3 _ _ (Ne.symm Gq),Y3 _ _ (Ne.symm Gp)];exact Zh4) Gr (by omega)
 simp only [Yu _ _ Zgv,Yu _ _ hi0,Xj,Y2,X9,Gh Gr,List.set_cons_zero,List.set_cons_succ,List.cons_append,List.nil_append,List.length_cons,List.length_nil,Nat.zero_add,Nat.reduceAdd,Nat.add_assoc] at e2
 refine Ku e2 ?_
 have hU:=(Und.drop (Und.drop (Und.drop hU j0_0) j0_1) j0_2)
 have hk0:∀ k,i0 < n+k:=fun k=>by omega
 have hN0:∀ o,Objs.upd (((O.upd j0_0 none).upd j0_1 none).upd j0_2 none) i0 o n=none:=fun o=>Q3 hU hi0 _ (Nat.le_refl _)
 have hN:∀ o k,Objs.upd (((O.upd j0_0 none).upd j0_1 none).upd j0_2 none) i0 o (n+k)=none:=fun o k=>Q3 hU hi0 _ (Nat.le_add_right _ _)
 show W _ _ _ _ ⟨25,[],[(0,.ref i0 0),(1,.val (.int .i64 a1)),(2,.agg (Zh a2))]⟩ (Zx ((((O.upd j0_0 none).upd j0_1 none).upd j0_2 none).upd i0 (some ⟨false,110,4,1,[.row (n+2) a0.out.length,.val (.int .i64 a0.kept),.row n a0.gone.length,.row (n+1) a0.come.length]⟩)) n [some ⟨true,25,3,a0.gone.length,fl Zb a0.gone⟩,some ⟨true,25,3,a0.come.length,fl Zb a0.come⟩,some ⟨true,69,14,a0.out.length,fl Zg a0.out⟩]) _
 refine Zr [0,1,5] (Zc Zd [] ?_)
 simp only [push_cast,seval,↓reduceIte,Za,hi0,hk0,hN0,hN]
 refine Zm ?_
 refine Zm ?_
 obtain ⟨y2,hy2,h⟩:=bC h
 refine Zc Zd [] ?_
 simp only [push_cast,seval,↓reduceIte,Za,hi0,hk0,hN0,hN]
 refine (Zqk hy2).then ?_
 simp only [push_cast,seval,↓reduceIte,Za,hi0,hk0,hN0,hN]
 refine Zl [0,5,8] [true,true,true,true] ?_
 simp only [push_cast,seval,↓reduceIte]
 refine Zv (t:=y2) rfl (fun c10 => ?_) (fun c10 => ?_)
 ·replace h:=Zu c10 h
  refine Zm ?_
  obtain ⟨y4,hy4,h⟩:=bC h
  refine Zc Zd [] ?_
  simp only [push_cast,seval,↓reduceIte,Za,hi0,hk0,hN0,hN]
  refine (Zd8 (i0:=i0) (j0_0:=n) (j0_1:=(n+1)) (j0_2:=(n+2)) (by omega) (by omega) (by omega) (by omega) (by omega) (by omega) (by omega) (by omega) (by omega) (by omega) (by simp only [push_cast,seval,↓reduceIte,Za,Xf,hi0,hk0,hN0,hN] <;> rfl) (by simp only [push_cast,seval,↓reduceIte,Za,Xf,hi0,hk0,hN0,hN] <;> rfl) (by simp only [push_cast,seval,↓reduceIte,Za,Xf,hi0,hk0,hN0,hN] <;> rfl) (by simp only [push_cast,seval,↓reduceIte,Za,Xf,hi0,hk0,hN0,hN] <;> rfl) hy4).then ?_
  simp only [push_cast,seval,↓reduceIte,Za,hi0,hk0,hN0,hN]
  refine Zl [] [false,false,false,false,true,true,true] ?_
  simp only [push_cast,seval,↓reduceIte]
  refine Z4 ?_
  try simp only [Zk,Ze]
  have h:=Option.some.inj h;subst h
  refine Jr (k:=3) (i:=i0) (q1:=⟨false,110,4,1,[.row (n+2) y4.out.length,.val (.int .i64 y4.kept),.row n y4.gone.length,.row (n+1) y4.come.length]⟩) (L3:=[some ⟨true,25,3,y4.gone.length,fl Zb y4.gone⟩,some ⟨true,25,3,y4.come.length,fl Zb y4.come⟩,some ⟨true,69,14,y4.out.length,fl Zg y4.out⟩,none]) (E2:=(⟨25,[],[]⟩:Env)) (n3:=(n+4)) (.inr rfl) hU rfl [] ?_ ?_
  ·refine Fit2.trans (E':=(⟨25,[],[]⟩:Env)) (O':=(Zx ((((O.upd j0_0 none).upd j0_1 none).upd j0_2 none).upd i0 (some ⟨false,110,4,1,[.row (n+6) y4.out.length,.val (.int .i64 y4.kept),.row (n+4) y4.gone.length,.row (n+5) y4.come.length]⟩)) n [none,none,none,none,some ⟨true,25,3,y4.gone.length,fl Zb y4.gone⟩,some ⟨true,25,3,y4.come.length,fl Zb y4.come⟩,some ⟨true,69,14,y4.out.length,fl Zg y4.out⟩])) (n':=(n+7)) (Fit2.of (Yg hU rfl rfl ?_) (by omega)) ?_
   ·simp only [push_cast,seval,↓reduceIte,Za,hi0,hk0,hN0,hN]
   refine X8 (k:=7) (k':=4) hU [3,3,3,3,0,1,2] [4,5,6,0] rfl rfl rfl rfl ⟨rfl,rfl⟩ ?_
   simp only [push_cast,seval,↓reduceIte,Za,hi0,hk0,hN0,hN]
  simp only [push_cast,seval,↓reduceIte,Za,Try.results86,hi0,hk0,hN0,hN]
 replace h:=Zt c10 h
 refine Zy ?_
 try simp only [Zk,Ze]
 refine Zl [0,5] [true,true,true,true] ?_
 simp only [push_cast,seval,↓reduceIte]
 refine Zm ?_
 obtain ⟨y6,hy6,h⟩:=bC h
 refine Zc Zd [] ?_
 simp only [push_cast,seval,↓reduceIte,Za,hi0,hk0,hN0,hN]
 refine (K2 (i0:=i0) (j0_0:=n) (j0_1:=(n+1)) (j0_2:=(n+2)) (by omega) (by omega) (by omega) (by omega) (by omega) (by omega) (by omega) (by omega) (by omega) (by omega) (by simp only [push_cast,seval,↓reduceIte,Za,Xf,hi0,hk0,hN0,hN] <;> rfl) (by simp only [push_cast,seval,↓reduceIte,Za,Xf,hi0,hk0,hN0,hN] <;> rfl) (by simp only [push_cast,seval,↓reduceIte,Za,Xf,hi0,hk0,hN0,hN] <;> rfl) (by simp only [push_cast,seval,↓reduceIte,Za,Xf,hi0,hk0,hN0,hN] <;> rfl) hy6).then ?_
 simp only [push_cast,seval,↓reduceIte,Za,hi0,hk0,hN0,hN]
 refine Zl [0,5] [false,false,false,true,true,true,true] ?_
 simp only [push_cast,seval,↓reduceIte]
 obtain ⟨l7,pl7,ql7,el7,h⟩:=bA (k:=1) rfl h
 obtain ⟨x8,hx8,ax8,bx8,cx8,h⟩:=bE (f:=Zg) Zda (fun _=>rfl) (by decide) h
 have gu9:Js (fl Zg y6.out++[.val (.int .i64 0),.val (.int .i64 0),.val (.slice none 0 0),.val (.int .i64 0),.val (.int .i64 0),.val (.slice none 0 0),.val (.slice none 0 0),.val (.int .i64 0),.val (.slice none 0 0),.val (.slice none 0 0),.val (.slice none 0 0),.val (.slice none 0 0),.val (.int .i64 0),.val (.slice none 0 0)]) [.val (.int .i64 3),.val (.int .i64 0),.val (.slice none 0 0),.val (.int .i64 a2.Kind),.val (.int .i64 a2.Old.Kind),.sl a2.Old.Words.length (fl (eI .u64) a2.Old.Words),.sl a2.Old.Kids.length (fl Zb a2.Old.Kids),.val (.int .i64 a2.New.Kind),.sl a2.New.Words.length (fl (eI .u64) a2.New.Words),.sl a2.New.Kids.length (fl Zb a2.New.Kids),.sl a2.Words.length (fl Zo a2.Words),.sl a2.Kids.length (fl Zn a2.Kids),.val (.int .i64 a2.List_),.sl a2.Ops.length (fl Zg a2.Ops)] (List.length y6.out * 14)=some (fl Zg y6.out++[.val (.int .i64 3),.val (.int .i64 0),.val (.slice none 0 0),.val (.int .i64 a2.Kind),.val (.int .i64 a2.Old.Kind),.sl a2.Old.Words.length (fl (eI .u64) a2.Old.Words),.sl a2.Old.Kids.length (fl Zb a2.Old.Kids),.val (.int .i64 a2.New.Kind),.sl a2.New.Words.length (fl (eI .u64) a2.New.Words),.sl a2.New.Kids.length (fl Zb a2.New.Kids),.sl a2.Words.length (fl Zo a2.Words),.sl a2.Kids.length (fl Zn a2.Kids),.val (.int .i64 a2.List_),.sl a2.Ops.length (fl Zg a2.Ops)]):=Gi (f:=Zg) (sz:=14) (fun _=>rfl) rfl rfl
 refine Zcs Zd (by kernel_rfl) [.low,.low,.low,.low,.low,.low,.low,.pass,.bar,.shp,.fill true,.shp,.shp,.fill false] (fun i=>i < (n+7)) [0,1,2,3,4,5,6,7,8,9,10,11,12,13] [.low,.low,.low,.low,.low,.low,.low,.pass,.bar,.shp,.fill true,.shp,.shp,.fill false] [] (by kernel_rfl) rfl ?_
 simp only [push_cast,Nat.reduceAdd,Nat.reduceSub,Nat.reduceMul,Nat.reduceLeDiff,Nat.reduceLT,Nat.reduceEqDiff,↓reduceIte,reduceCtorEq,Int.reduceBEq,Int.reduceBNe,Nat.reduceBEq,Int.reduceLE,Int.reduceLT,Int.reduceEq,Int.reduceNe,Int.reduceNeg,Nat.reduceDiv,Nat.reduceMod,Nat.reducePow,Za,pl7,ql7,el7,ax8,bx8,cx8,gu9,hi0,hk0,hN0,hN]
 repeat (with_reducible refine And.intro (by first | omega | exact Xe rfl | exact Y0 | exact J7 rfl rfl) ?_)
 have h:=Option.some.inj h;subst h
 refine Jr (k:=3) (i:=i0) (q1:=⟨false,110,4,1,[.row (n+2) (y6.out++[(⟨3,0,([]:(List S_api_Tree)),a2⟩:S_api_Op)]).length,.val (.int .i64 y6.kept),.row n y6.gone.length,.row (n+1) y6.come.length]⟩) (L3:=[some ⟨true,25,3,y6.gone.length,fl Zb y6.gone⟩,some ⟨true,25,3,y6.come.length,fl Zb y6.come⟩,some ⟨true,69,14,(y6.out++[(⟨3,0,([]:(List S_api_Tree)),a2⟩:S_api_Op)]).length,fl Zg (y6.out++[(⟨3,0,([]:(List S_api_Tree)),a2⟩:S_api_Op)])⟩,none]) (E2:=(⟨25,[],[]⟩:Env)) (n3:=(n+4)) (.inl rfl) hU rfl [] ?_ ?_
 ·refine Fit2.trans (E':=(⟨25,[],[]⟩:Env)) (O':=(Zx ((((O.upd j0_0 none).upd j0_1 none).upd j0_2 none).upd i0 (some ⟨false,110,4,1,[.row (n+6) (y6.out++[(⟨3,0,([]:(List S_api_Tree)),a2⟩:S_api_Op)]).length,.val (.int .i64 y6.kept),.row (n+4) y6.gone.length,.row (n+5) y6.come.length]⟩)) n [none,none,none,none,some ⟨true,25,3,y6.gone.length,fl Zb y6.gone⟩,some ⟨true,25,3,y6.come.length,fl Zb y6.come⟩,some ⟨true,69,14,(y6.out++[(⟨3,0,([]:(List S_api_Tree)),a2⟩:S_api_Op)]).length,fl Zg (y6.out++[(⟨3,0,([]:(List S_api_Tree)),a2⟩:S_api_Op)])⟩,none])) (n':=(n+8)) (Fit2.of (Yg hU rfl rfl ?_) (by omega)) ?_
  ·simp only [push_cast,Nat.reduceAdd,Nat.reduceSub,Nat.reduceMul,Nat.reduceLeDiff,Nat.reduceLT,Nat.reduceEqDiff,↓reduceIte,reduceCtorEq,Int.reduceBEq,Int.reduceBNe,Nat.reduceBEq,Int.reduceLE,Int.reduceLT,Int.reduceEq,Int.reduceNe,Int.reduceNeg,Nat.reduceDiv,Nat.reduceMod,Nat.reducePow,Za,pl7,ql7,el7,ax8,bx8,cx8,gu9,hi0,hk0,hN0,hN]
  refine X8 (k:=8) (k':=4) hU [3,3,3,3,0,1,2,3] [4,5,6,0] rfl rfl rfl rfl ⟨rfl,rfl⟩ ?_
  simp only [push_cast,seval,↓reduceIte,Za,hi0,hk0,hN0,hN]
 simp only [push_cast,seval,↓reduceIte,Za,Try.results86,hi0,hk0,hN0,hN]
theorem Zoq {Qa:(S_api_Edit→Option S_api_Edit)} {Ur:(Int→(List S_api_Op)→Option (List S_api_Op))} (Zb9:∀ {a0:S_api_Edit} {r:S_api_Edit} {O:Objs} {n:Nat},Qa a0=some r→GTo Try.prog 18 [.agg (Zh a0)] O n (.agg (Zh r)) O n) (Zir:∀ {a0:Int} {a1:(List S_api_Op)} {r:(List S_api_Op)} {O:Objs} {n:Nat},Ur a0 a1=some r→GTo Try.prog 51 [.val (.int .i64 a0),.sl a1.length (fl Zg a1)] O n (.sl r.length (fl Zg r)) O n) {a0:S_api_Edit} {r:S_api_Edit} {O:Objs} {n:Nat} (h:Zci Qa Ur a0=some r):GTo Try.prog 18 [.agg (Zh a0)] O n (.agg (Zh r)) O n:=by
 unfold Zci at h
 refine Y8 Zd Try.call18 Try.func18 rfl (Nat.le_of_ble_eq_true rfl) (Nat.le_refl _) fun hU => ?_
 have hN0:O n=none:=hU.fresh _ (Nat.le_refl _)
 have hN:∀ k,O (n+k)=none:=fun k=>hU.fresh _ (Nat.le_add_right _ _)
 show W _ _ _ _ ⟨54,[],[(0,.agg (Zh a0))]⟩ (Zx O n []) _
 refine Zr [1,2] (Zc Zd [] ?_)
 simp only [push_cast,seval,↓reduceIte,Za,hN0,hN]
 refine Zm ?_
 refine Zr [1,2,7] (Zc Zd [] ?_)
 simp only [push_cast,seval,↓reduceIte,Za,hN0,hN]
 refine Ym ?_
 refine Zr [1,2,7,8] (Zc Zd [] ?_)
 simp only [push_cast,seval,↓reduceIte,Za,hN0,hN]
 refine Zv (t:=(a0.Kind == 1)) rfl (fun c17 => ?_) (fun c17 => ?_)
 ·replace h:=Zu c17 h
  refine Zm ?_
  obtain ⟨y3,hy3,h⟩:=bC h
  obtain ⟨y4,hy4,h⟩:=bC h
  refine Zfl Zd (by kernel_rfl) [false,false,false,false,false,false,false,true] [] (by kernel_rfl) ?_
  simp only [push_cast,seval,↓reduceIte,Za,hN0,hN]
  refine PCall.of (Gv hy3) ?_
  simp only [push_cast,seval,↓reduceIte,Za,hN0,hN]
  refine PCall.of (Gv hy4) ?_
  simp only [push_cast,seval,↓reduceIte,Za,hN0,hN]
  refine Zl [2] [false,true] ?_
  simp only [push_cast,seval,↓reduceIte]
  refine Z4 ?_
  try simp only [Zk,Ze]
  have h:=Option.some.inj h;subst h
  refine Zs (.inr rfl) hU [.agg [.val (.int .i64 1),.val (.int .i64 y3.Kind),.sl y3.Words.length (fl (eI .u64) y3.Words),.sl y3.Kids.length (fl Zb y3.Kids),.val (.int .i64 y4.Kind),.sl y4.Words.length (fl (eI .u64) y4.Words),.sl y4.Kids.length (fl Zb y4.Kids),.val (.slice none 0 0),.val (.slice none 0 0),.val (.int .i64 0),.val (.slice none 0 0)]] (by omega) ?_
  simp only [push_cast,seval,↓reduceIte,Za,Try.results18,hN0,hN]
 replace h:=Zt c17 h
 refine Zr [1,2,7,17] (Zc Zd [] ?_)
 simp only [push_cast,seval,↓reduceIte,Za,hN0,hN]
 refine Zv (t:=(a0.Kind == 2)) rfl (fun c16 => ?_) (fun c16 => ?_)
 ·replace h:=Zu c16 h
  refine Zm ?_
  obtain ⟨y6,hy6,h⟩:=bC h
  refine Zc Zd [] ?_
  simp only [push_cast,seval,↓reduceIte,Za,hN0,hN]
  refine (Zak  hy6).then ?_
  simp only [push_cast,seval,↓reduceIte,Za,hN0,hN]
  refine Zl [1,2,3] [true,true,true,true] ?_
  simp only [push_cast,seval,↓reduceIte]
  refine Zm ?_
  refine Zr [2,3,24,25,26] (Zc Zd [] ?_)
  simp only [push_cast,seval,↓reduceIte,Za,hN0,hN]
  refine Zl [2,3,24,25,26] [false,true,true,true] ?_
  simp only [push_cast,seval,↓reduceIte]
  refine Ku (E':=(⟨54,[],[(2,.ref (n+1) 0),(3,.ref (n+3) 0),(24,.sl a0.Kids.length (fl Zn a0.Kids)),(25,.val (.int .i64 (a0.Kids.length:Int))),(26,.val (.int .i64 0))]⟩:Env)) (O':=(Zx O n [none,some ⟨false,30,11,1,[.val (.int .i64 0),.val (.int .i64 0),.val (.slice none 0 0),.val (.slice none 0 0),.val (.int .i64 0),.val (.slice none 0 0),.val (.slice none 0 0),.val (.slice none 0 0),.val (.slice none 0 0),.val (.int .i64 0),.val (.slice none 0 0)]⟩,some ⟨true,58,4,y6.length,fl Zo y6⟩,some ⟨false,30,11,1,[.val (.int .i64 2),.val (.int .i64 0),.val (.slice none 0 0),.val (.slice none 0 0),.val (.int .i64 0),.val (.slice none 0 0),.val (.slice none 0 0),.row (n+2) y6.length,.row (n+4) ([]:List S_api_KidEdit).length,.val (.int .i64 0),.val (.slice none 0 0)]⟩,some ⟨true,71,12,([]:List S_api_KidEdit).length,fl Zn ([]:List S_api_KidEdit)⟩,none])) (n':=(n+6)) ?_ ?_
  ·refine Fit2.trans (E':=(⟨54,[],[(2,.ref (n+1) 0),(3,.ref (n+3) 0),(24,.sl a0.Kids.length (fl Zn a0.Kids)),(25,.val (.int .i64 (a0.Kids.length:Int))),(26,.val (.int .i64 0))]⟩:Env)) (O':=(Zx O n [none,some ⟨false,30,11,1,[.val (.int .i64 0),.val (.int .i64 0),.val (.slice none 0 0),.val (.slice none 0 0),.val (.int .i64 0),.val (.slice none 0 0),.val (.slice none 0 0),.val (.slice none 0 0),.val (.slice none 0 0),.val (.int .i64 0),.val (.slice none 0 0)]⟩,some ⟨true,58,4,y6.length,fl Zo y6⟩,some ⟨false,30,11,1,[.val (.int .i64 2),.val (.int .i64 0),.val (.slice none 0 0),.val (.slice none 0 0),.val (.int .i64 0),.val (.slice none 0 0),.val (.slice none 0 0),.row (n+2) y6.length,.val (.slice none 0 0),.val (.int .i64 0),.val (.slice none 0 0)]⟩])) (n':=(n+4)) (Fit2.of (Zj hU rfl rfl ?_) (by omega)) ?_
   ·simp only [push_cast,seval,↓reduceIte,Za,hN0,hN]
   refine Fit2.trans (E':=(⟨54,[],[(2,.ref (n+1) 0),(3,.ref (n+3) 0),(24,.sl a0.Kids.length (fl Zn a0.Kids)),(25,.val (.int .i64 (a0.Kids.length:Int))),(26,.val (.int .i64 0))]⟩:Env)) (O':=(Zx O n [none,some ⟨false,30,11,1,[.val (.int .i64 0),.val (.int .i64 0),.val (.slice none 0 0),.val (.slice none 0 0),.val (.int .i64 0),.val (.slice none 0 0),.val (.slice none 0 0),.val (.slice none 0 0),.val (.slice none 0 0),.val (.int .i64 0),.val (.slice none 0 0)]⟩,some ⟨true,58,4,y6.length,fl Zo y6⟩,some ⟨false,30,11,1,[.val (.int .i64 2),.val (.int .i64 0),.val (.slice none 0 0),.val (.slice none 0 0),.val (.int .i64 0),.val (.slice none 0 0),.val (.slice none 0 0),.row (n+2) y6.length,.row (n+4) 0,.val (.int .i64 0),.val (.slice none 0 0)]⟩,some ⟨true,71,12,0,[]⟩])) (n':=(n+5)) ?_ ?_
   ·have ha:=Za6 (ba:=n) (E:=(⟨54,[],[(2,.ref (n+1) 0),(3,.ref (n+3) 0),(24,.sl a0.Kids.length (fl Zn a0.Kids)),(25,.val (.int .i64 (a0.Kids.length:Int))),(26,.val (.int .i64 0))]⟩:Env)) (O:=(Zx O n [none,some ⟨false,30,11,1,[.val (.int .i64 0),.val (.int .i64 0),.val (.slice none 0 0),.val (.slice none 0 0),.val (.int .i64 0),.val (.slice none 0 0),.val (.slice none 0 0),.val (.slice none 0 0),.val (.slice none 0 0),.val (.int .i64 0),.val (.slice none 0 0)]⟩,some ⟨true,58,4,y6.length,fl Zo y6⟩,some ⟨false,30,11,1,[.val (.int .i64 2),.val (.int .i64 0),.val (.slice none 0 0),.val (.slice none 0 0),.val (.int .i64 0),.val (.slice none 0 0),.val (.slice none 0 0),.row (n+2) y6.length,.val (.slice none 0 0),.val (.int .i64 0),.val (.slice none 0 0)]⟩])) (n:=(n+4)) (p:=(n+3)) (k:=8) (q:=⟨false,30,11,1,[.val (.int .i64 2),.val (.int .i64 0),.val (.slice none 0 0),.val (.slice none 0 0),.val (.int .i64 0),.val (.slice none 0 0),.val (.slice none 0 0),.row (n+2) y6.length,.val (.slice none 0 0),.val (.int .i64 0),.val (.slice none 0 0)]⟩) 71 12 (by simp only [U3,Zdc,List.getElem?_cons_zero,List.getElem?_cons_succ,Option.join_some,Yh]) rfl (by omega)
    simp only [Xj,Y2,Zcr,Za5,List.set_cons_zero,List.set_cons_succ,List.cons_append,List.nil_append,List.length_cons,List.length_nil,Nat.zero_add,Nat.reduceAdd,Nat.reduceLT,Nat.add_assoc] at ha
    exact ha
   refine Fit2.trans (E':=(⟨54,[],[(2,.ref (n+1) 0),(3,.ref (n+3) 0),(24,.sl a0.Kids.length (fl Zn a0.Kids)),(25,.val (.int .i64 (a0.Kids.length:Int))),(26,.val (.int .i64 0))]⟩:Env)) (O':=(Zx O n [none,some ⟨false,30,11,1,[.val (.int .i64 0),.val (.int .i64 0),.val (.slice none 0 0),.val (.slice none 0 0),.val (.int .i64 0),.val (.slice none 0 0),.val (.slice none 0 0),.val (.slice none 0 0),.val (.slice none 0 0),.val (.int .i64 0),.val (.slice none 0 0)]⟩,some ⟨true,58,4,y6.length,fl Zo y6⟩,some ⟨false,30,11,1,[.val (.int .i64 2),.val (.int .i64 0),.val (.slice none 0 0),.val (.slice none 0 0),.val (.int .i64 0),.val (.slice none 0 0),.val (.slice none 0 0),.row (n+2) y6.length,.row (n+4) ([]:List S_api_KidEdit).length,.val (.int .i64 0),.val (.slice none 0 0)]⟩,some ⟨true,71,12,([]:List S_api_KidEdit).length,fl Zn ([]:List S_api_KidEdit)⟩])) (n':=(n+5)) (Fit2.of (Zj hU rfl rfl ?_) (by omega)) ?_
   ·simp only [push_cast,seval,↓reduceIte,Za,hN0,hN]
   refine V5 (k:=5) (k':=6) hU [5,1,2,3,4] [0,1,2,3,4,0] rfl rfl rfl rfl ⟨rfl,rfl⟩ ?_
   simp only [push_cast,seval,↓reduceIte,Za,hN0,hN]
  obtain ⟨z12,hz12,h⟩:=bC h
  refine Yx (E':=⟨54,[],[(2,.ref (n+1) 0),(3,.ref (n+3) 0)]⟩) (O':=(Zx O n [none,some ⟨false,30,11,1,[.val (.int .i64 0),.val (.int .i64 0),.val (.slice none 0 0),.val (.slice none 0 0),.val (.int .i64 0),.val (.slice none 0 0),.val (.slice none 0 0),.val (.slice none 0 0),.val (.slice none 0 0),.val (.int .i64 0),.val (.slice none 0 0)]⟩,some ⟨true,58,4,y6.length,fl Zo y6⟩,some ⟨false,30,11,1,[.val (.int .i64 2),.val (.int .i64 0),.val (.slice none 0 0),.val (.slice none 0 0),.val (.int .i64 0),.val (.slice none 0 0),.val (.slice none 0 0),.row (n+2) y6.length,.row (n+4) z12.length,.val (.int .i64 0),.val (.slice none 0 0)]⟩,some ⟨true,71,12,z12.length,fl Zn z12⟩,none])) (n0:=(n+6)) ?_ ?_
  ·refine Xg hz12 (fun s0_=>⟨54,[],[(2,.ref (n+1) 0),(3,.ref (n+3) 0),(24,.sl a0.Kids.length (fl Zn a0.Kids)),(25,.val (.int .i64 (a0.Kids.length:Int))),(26,.val (.int .i64 s0_.1))]⟩) (fun s0_=>(Zx O n [none,some ⟨false,30,11,1,[.val (.int .i64 0),.val (.int .i64 0),.val (.slice none 0 0),.val (.slice none 0 0),.val (.int .i64 0),.val (.slice none 0 0),.val (.slice none 0 0),.val (.slice none 0 0),.val (.slice none 0 0),.val (.int .i64 0),.val (.slice none 0 0)]⟩,some ⟨true,58,4,y6.length,fl Zo y6⟩,some ⟨false,30,11,1,[.val (.int .i64 2),.val (.int .i64 0),.val (.slice none 0 0),.val (.slice none 0 0),.val (.int .i64 0),.val (.slice none 0 0),.val (.slice none 0 0),.row (n+2) y6.length,.row (n+4) s0_.2.length,.val (.int .i64 0),.val (.slice none 0 0)]⟩,some ⟨true,71,12,s0_.2.length,fl Zn s0_.2⟩,none])) (fun z12=>JX 1 n (⟨54,[],[(2,.ref (n+1) 0),(3,.ref (n+3) 0)]⟩:Env) (Zx O n [none,some ⟨false,30,11,1,[.val (.int .i64 0),.val (.int .i64 0),.val (.slice none 0 0),.val (.slice none 0 0),.val (.int .i64 0),.val (.slice none 0 0),.val (.slice none 0 0),.val (.slice none 0 0),.val (.slice none 0 0),.val (.int .i64 0),.val (.slice none 0 0)]⟩,some ⟨true,58,4,y6.length,fl Zo y6⟩,some ⟨false,30,11,1,[.val (.int .i64 2),.val (.int .i64 0),.val (.slice none 0 0),.val (.slice none 0 0),.val (.int .i64 0),.val (.slice none 0 0),.val (.slice none 0 0),.row (n+2) y6.length,.row (n+4) z12.length,.val (.int .i64 0),.val (.slice none 0 0)]⟩,some ⟨true,71,12,z12.length,fl Zn z12⟩,none]) (n+6)) ?_
   intro s0_ x0_ hs0_
   unfold U7 at hs0_
   try dsimp only
   refine Zr [2,3,24,25,26,27] (Zc Zd [] ?_)
   simp only [push_cast,seval,↓reduceIte,Za,hN0,hN]
   refine Zm ?_
   refine Zv (t:=(decide (s0_.1 < (a0.Kids.length:Int)))) rfl (fun c11 => ?_) (fun c11 => ?_)
   ·replace hs0_:=Zu c11 hs0_
    refine Zy ?_
    try simp only [Zk,Ze]
    refine Zl [2,3,24,25,26] [false,true,true,true,true,false] ?_
    simp only [push_cast,seval,↓reduceIte]
    refine Zm ?_
    refine Ym ?_
    refine Zm ?_
    obtain ⟨x8,hx8,ax8,bx8,cx8,hs0_⟩:=bE (f:=Zn) Zmv (fun _=>rfl) (by decide) hs0_
    refine Zc Zd [] ?_
    simp only [push_cast,Nat.reduceAdd,Nat.reduceSub,Nat.reduceMul,Nat.reduceLeDiff,Nat.reduceLT,Nat.reduceEqDiff,↓reduceIte,reduceCtorEq,Int.reduceBEq,Int.reduceBNe,Nat.reduceBEq,Int.reduceLE,Int.reduceLT,Int.reduceEq,Int.reduceNe,Int.reduceNeg,Nat.reduceDiv,Nat.reduceMod,Nat.reducePow,Za,ax8,bx8,cx8,hN0,hN]
    refine Zl [2,3,5,24,25,26] [false,true,true,true,true,false,true] ?_
    simp only [push_cast,seval,↓reduceIte]
    obtain ⟨y9,hy9,hs0_⟩:=bC hs0_
    obtain ⟨l10,pl10,ql10,el10,hs0_⟩:=bA (k:=1) rfl hs0_
    refine Zcs Zd (by kernel_rfl) [.low,.low,.plain,.plain,.plain,.plain,.plain,.plain,.pass,.bar,.plain,.bar] (fun i=>i < (n+7)) [0,1,2,3,4,5,6,7,8,9,10,11] [.low,.low,.plain,.plain,.plain,.plain,.plain,.plain,.pass,.bar,.plain,.bar] [] (by kernel_rfl) rfl ?_
    simp only [push_cast,seval,↓reduceIte,Za,pl10,ql10,el10,hN0,hN]
    repeat (with_reducible refine And.intro (by first | omega | exact Xe rfl | exact Y0 | exact J7 rfl rfl) ?_)
    first | refine PCallA.of (fun _ _=>Zb9 hy9) ?_ | refine PCall.of (Zb9 hy9) ?_
    simp only [push_cast,seval,↓reduceIte,Za,pl10,ql10,el10,hN0,hN]
    repeat (with_reducible refine And.intro (by first | omega | exact Xe rfl | exact Y0 | exact J7 rfl rfl) ?_)
    refine Zhg ⟨54,[],[(2,.ref (n+1) 0),(3,.ref (n+3) 0),(24,.sl a0.Kids.length (fl Zn a0.Kids)),(25,.val (.int .i64 (a0.Kids.length:Int))),(26,.val (.int .i64 s0_.1))]⟩ (Zx O n [none,some ⟨false,30,11,1,[.val (.int .i64 0),.val (.int .i64 0),.val (.slice none 0 0),.val (.slice none 0 0),.val (.int .i64 0),.val (.slice none 0 0),.val (.slice none 0 0),.val (.slice none 0 0),.val (.slice none 0 0),.val (.int .i64 0),.val (.slice none 0 0)]⟩,some ⟨true,58,4,y6.length,fl Zo y6⟩,some ⟨false,30,11,1,[.val (.int .i64 2),.val (.int .i64 0),.val (.slice none 0 0),.val (.slice none 0 0),.val (.int .i64 0),.val (.slice none 0 0),.val (.slice none 0 0),.row (n+2) y6.length,.row (n+4) l10.length,.val (.int .i64 0),.val (.slice none 0 0)]⟩,some ⟨true,71,12,l10.length,fl Zn l10⟩,none,none,none]) (Zj hU rfl rfl ?_) ?_
    ·simp only [push_cast,seval,↓reduceIte,Za,pl10,ql10,el10,hN0,hN]
    refine Zc Zd [] ?_
    simp only [push_cast,seval,↓reduceIte,Za,hN0,hN]
    have hs0_:=Option.some.inj hs0_;subst hs0_
    refine And.intro rfl (Fit2.of (Zj hU rfl rfl ?_) (by omega))
    simp only [push_cast,seval,↓reduceIte,Za,hN0,hN]
   replace hs0_:=Zt c11 hs0_
   refine Xp ?_
   try simp only [Zk,Ze,↓reduceIte,Nat.reduceEqDiff]
   have hs0_:=Option.some.inj hs0_;subst hs0_
   refine And.intro (fun h=>by cases h) (And.intro rfl (Fit2.of (Zj hU rfl rfl ?_) (by omega)))
   simp only [push_cast,seval,↓reduceIte,Za,hN0,hN]
  try simp only [Zk,Ze,↓reduceIte,Nat.reduceEqDiff]
  refine Zl [2,3] [false,true,true,true,true,false] ?_
  simp only [push_cast,seval,↓reduceIte]
  refine Zm ?_
  refine Zc Zd [] ?_
  simp only [push_cast,seval,↓reduceIte,Za,hN0,hN]
  refine Zl [2] [false,true,true,false,true,false] ?_
  simp only [push_cast,seval,↓reduceIte]
  refine Z4 ?_
  try simp only [Zk,Ze]
  have h:=Option.some.inj h;subst h
  refine Zs (.inr rfl) hU [.agg [.val (.int .i64 2),.val (.int .i64 0),.val (.slice none 0 0),.val (.slice none 0 0),.val (.int .i64 0),.val (.slice none 0 0),.val (.slice none 0 0),.row (n+2) y6.length,.row (n+4) z12.length,.val (.int .i64 0),.val (.slice none 0 0)]] (by omega) ?_
  simp only [push_cast,seval,↓reduceIte,Za,Try.results18,hN0,hN]
 replace h:=Zt c16 h
 refine Zr [1,2,43] (Zc Zd [] ?_)
 simp only [push_cast,seval,↓reduceIte,Za,hN0,hN]
 refine Zv (t:=(a0.Kind == 3)) rfl (fun c15 => ?_) (fun c15 => ?_)
 ·replace h:=Zu c15 h
  refine Zm ?_
  obtain ⟨y14,hy14,h⟩:=bC h
  refine Zfl Zd (by kernel_rfl) [false,false,false,false,false,false,false,false,true] [] (by kernel_rfl) ?_
  simp only [push_cast,seval,↓reduceIte,Za,hN0,hN]
  refine PCall.of (Zir hy14) ?_
  simp only [push_cast,seval,↓reduceIte,Za,hN0,hN]
  refine Zl [2] [false,true] ?_
  simp only [push_cast,seval,↓reduceIte]
  refine Z4 ?_
  try simp only [Zk,Ze]
  have h:=Option.some.inj h;subst h
  refine Zs (.inr rfl) hU [.agg [.val (.int .i64 3),.val (.int .i64 0),.val (.slice none 0 0),.val (.slice none 0 0),.val (.int .i64 0),.val (.slice none 0 0),.val (.slice none 0 0),.val (.slice none 0 0),.val (.slice none 0 0),.val (.int .i64 a0.List_),.sl y14.length (fl Zg y14)]] (by omega) ?_
  simp only [push_cast,seval,↓reduceIte,Za,Try.results18,hN0,hN]
 replace h:=Zt c15 h
 refine Zy ?_
 try simp only [Zk,Ze]
 refine Zl [2] [false,true] ?_
 simp only [push_cast,seval,↓reduceIte]
 refine Zm ?_
 refine Zc Zd [] ?_
 simp only [push_cast,seval,↓reduceIte,Za,hN0,hN]
 refine Zl [2] [false,true] ?_
 simp only [push_cast,seval,↓reduceIte]
 refine Z4 ?_
 try simp only [Zk,Ze]
 have h:=Option.some.inj h;subst h
 refine Zs (.inr rfl) hU [.agg [.val (.int .i64 0),.val (.int .i64 0),.val (.slice none 0 0),.val (.slice none 0 0),.val (.int .i64 0),.val (.slice none 0 0),.val (.slice none 0 0),.val (.slice none 0 0),.val (.slice none 0 0),.val (.int .i64 0),.val (.slice none 0 0)]] (by omega) ?_
 simp only [push_cast,seval,↓reduceIte,Za,Try.results18,hN0,hN]
theorem Zqq {Qa:(S_api_Edit→Option S_api_Edit)} {Ur:(Int→(List S_api_Op)→Option (List S_api_Op))} (Zb9:∀ {a0:S_api_Edit} {r:S_api_Edit} {O:Objs} {n:Nat},Qa a0=some r→GTo Try.prog 18 [.agg (Zh a0)] O n (.agg (Zh r)) O n) (Zir:∀ {a0:Int} {a1:(List S_api_Op)} {r:(List S_api_Op)} {O:Objs} {n:Nat},Ur a0 a1=some r→GTo Try.prog 51 [.val (.int .i64 a0),.sl a1.length (fl Zg a1)] O n (.sl r.length (fl Zg r)) O n) {a0:Int} {a1:(List S_api_Op)} {r:(List S_api_Op)} {O:Objs} {n:Nat} (h:Zb3 Qa Ur a0 a1=some r):GTo Try.prog 51 [.val (.int .i64 a0),.sl a1.length (fl Zg a1)] O n (.sl r.length (fl Zg r)) O n:=by
 unfold Zb3 at h
 refine Y8 Zd Try.call51 Try.func51 rfl (Nat.le_of_ble_eq_true rfl) (Nat.le_refl _) fun hU => ?_
 have hN0:O n=none:=hU.fresh _ (Nat.le_refl _)
 have hN:∀ k,O (n+k)=none:=fun k=>hU.fresh _ (Nat.le_add_right _ _)
 show W _ _ _ _ ⟨44,[],[(0,.val (.int .i64 a0)),(1,.sl a1.length (fl Zg a1))]⟩ (Zx O n []) _
 refine Zr [0,1] (Zc Zd [] ?_)
 simp only [push_cast,seval,↓reduceIte,Za,hN0,hN]
 refine Zr [0,1,5] (Zc Zd [] ?_)
 simp only [push_cast,seval,↓reduceIte,Za,hN0,hN]
 refine Zm ?_
 refine Zr [0,5,8,9,10] (Zc Zd [] ?_)
 simp only [push_cast,seval,↓reduceIte,Za,hN0,hN]
 refine Zl [0,5,8,9,10] [true] ?_
 simp only [push_cast,seval,↓reduceIte]
 refine Ku (E':=(⟨44,[],[(0,.val (.int .i64 a0)),(5,.ref n 0),(8,.sl a1.length (fl Zg a1)),(9,.val (.int .i64 (a1.length:Int))),(10,.val (.int .i64 0))]⟩:Env)) (O':=(Zx O n [some ⟨false,110,4,1,[.row (n+1) ([]:List S_api_Op).length,.val (.int .i64 0),.row (n+2) ([]:List S_api_Tree).length,.row (n+3) ([]:List S_api_Tree).length]⟩,some ⟨true,69,14,([]:List S_api_Op).length,fl Zg ([]:List S_api_Op)⟩,some ⟨true,25,3,([]:List S_api_Tree).length,fl Zb ([]:List S_api_Tree)⟩,some ⟨true,25,3,([]:List S_api_Tree).length,fl Zb ([]:List S_api_Tree)⟩,none])) (n':=(n+5)) ?_ ?_
 ·refine Fit2.trans (E':=(⟨44,[],[(0,.val (.int .i64 a0)),(5,.ref n 0),(8,.sl a1.length (fl Zg a1)),(9,.val (.int .i64 (a1.length:Int))),(10,.val (.int .i64 0))]⟩:Env)) (O':=(Zx O n [some ⟨false,110,4,1,[.val (.slice none 0 0),.val (.int .i64 0),.val (.slice none 0 0),.val (.slice none 0 0)]⟩])) (n':=(n+1)) (Fit2.of (Zj hU rfl rfl ?_) (by omega)) ?_
  ·simp only [push_cast,seval,↓reduceIte,Za,hN0,hN]
  refine Fit2.trans (E':=(⟨44,[],[(0,.val (.int .i64 a0)),(5,.ref n 0),(8,.sl a1.length (fl Zg a1)),(9,.val (.int .i64 (a1.length:Int))),(10,.val (.int .i64 0))]⟩:Env)) (O':=(Zx O n [some ⟨false,110,4,1,[.row (n+1) 0,.val (.int .i64 0),.val (.slice none 0 0),.val (.slice none 0 0)]⟩,some ⟨true,69,14,0,[]⟩])) (n':=(n+2)) ?_ ?_
  ·have ha:=Za6 (ba:=n) (E:=(⟨44,[],[(0,.val (.int .i64 a0)),(5,.ref n 0),(8,.sl a1.length (fl Zg a1)),(9,.val (.int .i64 (a1.length:Int))),(10,.val (.int .i64 0))]⟩:Env)) (O:=(Zx O n [some ⟨false,110,4,1,[.val (.slice none 0 0),.val (.int .i64 0),.val (.slice none 0 0),.val (.slice none 0 0)]⟩])) (n:=(n+1)) (p:=n) (k:=0) (q:=⟨false,110,4,1,[.val (.slice none 0 0),.val (.int .i64 0),.val (.slice none 0 0),.val (.slice none 0 0)]⟩) 69 14 (by simp only [U3,Zdc,List.getElem?_cons_zero,List.getElem?_cons_succ,Option.join_some,Yh]) rfl (by omega)
   simp only [Xj,Y2,Zcr,Za5,List.set_cons_zero,List.set_cons_succ,List.cons_append,List.nil_append,List.length_cons,List.length_nil,Nat.zero_add,Nat.reduceAdd,Nat.reduceLT,Nat.add_assoc] at ha
   exact ha
  refine Fit2.trans (E':=(⟨44,[],[(0,.val (.int .i64 a0)),(5,.ref n 0),(8,.sl a1.length (fl Zg a1)),(9,.val (.int .i64 (a1.length:Int))),(10,.val (.int .i64 0))]⟩:Env)) (O':=(Zx O n [some ⟨false,110,4,1,[.row (n+1) ([]:List S_api_Op).length,.val (.int .i64 0),.val (.slice none 0 0),.val (.slice none 0 0)]⟩,some ⟨true,69,14,([]:List S_api_Op).length,fl Zg ([]:List S_api_Op)⟩])) (n':=(n+2)) (Fit2.of (Zj hU rfl rfl ?_) (by omega)) ?_
  ·simp only [push_cast,seval,↓reduceIte,Za,hN0,hN]
  refine Fit2.trans (E':=(⟨44,[],[(0,.val (.int .i64 a0)),(5,.ref n 0),(8,.sl a1.length (fl Zg a1)),(9,.val (.int .i64 (a1.length:Int))),(10,.val (.int .i64 0))]⟩:Env)) (O':=(Zx O n [some ⟨false,110,4,1,[.row (n+1) ([]:List S_api_Op).length,.val (.int .i64 0),.row (n+2) 0,.val (.slice none 0 0)]⟩,some ⟨true,69,14,([]:List S_api_Op).length,fl Zg ([]:List S_api_Op)⟩,some ⟨true,25,3,0,[]⟩])) (n':=(n+3)) ?_ ?_
  ·have ha:=Za6 (ba:=n) (E:=(⟨44,[],[(0,.val (.int .i64 a0)),(5,.ref n 0),(8,.sl a1.length (fl Zg a1)),(9,.val (.int .i64 (a1.length:Int))),(10,.val (.int .i64 0))]⟩:Env)) (O:=(Zx O n [some ⟨false,110,4,1,[.row (n+1) ([]:List S_api_Op).length,.val (.int .i64 0),.val (.slice none 0 0),.val (.slice none 0 0)]⟩,some ⟨true,69,14,([]:List S_api_Op).length,fl Zg ([]:List S_api_Op)⟩])) (n:=(n+2)) (p:=n) (k:=2) (q:=⟨false,110,4,1,[.row (n+1) ([]:List S_api_Op).length,.val (.int .i64 0),.val (.slice none 0 0),.val (.slice none 0 0)]⟩) 25 3 (by simp only [U3,Zdc,List.getElem?_cons_zero,List.getElem?_cons_succ,Option.join_some,Yh]) rfl (by omega)
   simp only [Xj,Y2,Zcr,Za5,List.set_cons_zero,List.set_cons_succ,List.cons_append,List.nil_append,List.length_cons,List.length_nil,Nat.zero_add,Nat.reduceAdd,Nat.reduceLT,Nat.add_assoc] at ha
   exact ha
  refine Fit2.trans (E':=(⟨44,[],[(0,.val (.int .i64 a0)),(5,.ref n 0),(8,.sl a1.length (fl Zg a1)),(9,.val (.int .i64 (a1.length:Int))),(10,.val (.int .i64 0))]⟩:Env)) (O':=(Zx O n [some ⟨false,110,4,1,[.row (n+1) ([]:List S_api_Op).length,.val (.int .i64 0),.row (n+2) ([]:List S_api_Tree).length,.val (.slice none 0 0)]⟩,some ⟨true,69,14,([]:List S_api_Op).length,fl Zg ([]:List S_api_Op)⟩,some ⟨true,25,3,([]:List S_api_Tree).length,fl Zb ([]:List S_api_Tree)⟩])) (n':=(n+3)) (Fit2.of (Zj hU rfl rfl ?_) (by omega)) ?_
  ·simp only [push_cast,seval,↓reduceIte,Za,hN0,hN]
  refine Fit2.trans (E':=(⟨44,[],[(0,.val (.int .i64 a0)),(5,.ref n 0),(8,.sl a1.length (fl Zg a1)),(9,.val (.int .i64 (a1.length:Int))),(10,.val (.int .i64 0))]⟩:Env)) (O':=(Zx O n [some ⟨false,110,4,1,[.row (n+1) ([]:List S_api_Op).length,.val (.int .i64 0),.row (n+2) ([]:List S_api_Tree).length,.row (n+3) 0]⟩,some ⟨true,69,14,([]:List S_api_Op).length,fl Zg ([]:List S_api_Op)⟩,some ⟨true,25,3,0,[]⟩,some ⟨true,25,3,0,[]⟩])) (n':=(n+4)) ?_ ?_
  ·have ha:=Za6 (ba:=n) (E:=(⟨44,[],[(0,.val (.int .i64 a0)),(5,.ref n 0),(8,.sl a1.length (fl Zg a1)),(9,.val (.int .i64 (a1.length:Int))),(10,.val (.int .i64 0))]⟩:Env)) (O:=(Zx O n [some ⟨false,110,4,1,[.row (n+1) ([]:List S_api_Op).length,.val (.int .i64 0),.row (n+2) ([]:List S_api_Tree).length,.val (.slice none 0 0)]⟩,some ⟨true,69,14,([]:List S_api_Op).length,fl Zg ([]:List S_api_Op)⟩,some ⟨true,25,3,([]:List S_api_Tree).length,fl Zb ([]:List S_api_Tree)⟩])) (n:=(n+3)) (p:=n) (k:=3) (q:=⟨false,110,4,1,[.row (n+1) ([]:List S_api_Op).length,.val (.int .i64 0),.row (n+2) ([]:List S_api_Tree).length,.val (.slice none 0 0)]⟩) 25 3 (by simp only [U3,Zdc,List.getElem?_cons_zero,List.getElem?_cons_succ,Option.join_some,Yh]) rfl (by omega)
   simp only [Xj,Y2,Zcr,Za5,List.set_cons_zero,List.set_cons_succ,List.cons_append,List.nil_append,List.length_cons,List.length_nil,Nat.zero_add,Nat.reduceAdd,Nat.reduceLT,Nat.add_assoc] at ha
   exact ha
  refine Fit2.trans (E':=(⟨44,[],[(0,.val (.int .i64 a0)),(5,.ref n 0),(8,.sl a1.length (fl Zg a1)),(9,.val (.int .i64 (a1.length:Int))),(10,.val (.int .i64 0))]⟩:Env)) (O':=(Zx O n [some ⟨false,110,4,1,[.row (n+1) ([]:List S_api_Op).length,.val (.int .i64 0),.row (n+2) ([]:List S_api_Tree).length,.row (n+3) ([]:List S_api_Tree).length]⟩,some ⟨true,69,14,([]:List S_api_Op).length,fl Zg ([]:List S_api_Op)⟩,some ⟨true,25,3,([]:List S_api_Tree).length,fl Zb ([]:List S_api_Tree)⟩,some ⟨true,25,3,([]:List S_api_Tree).length,fl Zb ([]:List S_api_Tree)⟩])) (n':=(n+4)) (Fit2.of (Zj hU rfl rfl ?_) (by omega)) ?_
  ·simp only [push_cast,seval,↓reduceIte,Za,hN0,hN]
  refine V5 (k:=4) (k':=5) hU [0,1,2,3] [0,1,2,3,0] rfl rfl rfl rfl ⟨rfl,rfl⟩ ?_
  simp only [push_cast,seval,↓reduceIte,Za,hN0,hN]
 obtain ⟨z14,hz14,h⟩:=bC h
 refine Yx (E':=⟨44,[],[(5,.ref n 0)]⟩) (O':=(Zx O n [some ⟨false,110,4,1,[.row (n+1) z14.2.1.length,.val (.int .i64 z14.1),.row (n+2) z14.2.2.1.length,.row (n+3) z14.2.2.2.length]⟩,some ⟨true,69,14,z14.2.1.length,fl Zg z14.2.1⟩,some ⟨true,25,3,z14.2.2.1.length,fl Zb z14.2.2.1⟩,some ⟨true,25,3,z14.2.2.2.length,fl Zb z14.2.2.2⟩,none])) (n0:=(n+5)) ?_ ?_
 ·refine Xg hz14 (fun s0_=>⟨44,[],[(0,.val (.int .i64 a0)),(5,.ref n 0),(8,.sl a1.length (fl Zg a1)),(9,.val (.int .i64 (a1.length:Int))),(10,.val (.int .i64 s0_.1))]⟩) (fun s0_=>(Zx O n [some ⟨false,110,4,1,[.row (n+1) s0_.2.2.1.length,.val (.int .i64 s0_.2.1),.row (n+2) s0_.2.2.2.1.length,.row (n+3) s0_.2.2.2.2.length]⟩,some ⟨true,69,14,s0_.2.2.1.length,fl Zg s0_.2.2.1⟩,some ⟨true,25,3,s0_.2.2.2.1.length,fl Zb s0_.2.2.2.1⟩,some ⟨true,25,3,s0_.2.2.2.2.length,fl Zb s0_.2.2.2.2⟩,none])) (fun z14=>JX 0 n (⟨44,[],[(5,.ref n 0)]⟩:Env) (Zx O n [some ⟨false,110,4,1,[.row (n+1) z14.2.1.length,.val (.int .i64 z14.1),.row (n+2) z14.2.2.1.length,.row (n+3) z14.2.2.2.length]⟩,some ⟨true,69,14,z14.2.1.length,fl Zg z14.2.1⟩,some ⟨true,25,3,z14.2.2.1.length,fl Zb z14.2.2.1⟩,some ⟨true,25,3,z14.2.2.2.length,fl Zb z14.2.2.2⟩,none]) (n+5)) ?_
  intro s0_ x0_ hs0_
  unfold Vc at hs0_
  try dsimp only
  refine Zr [0,5,8,9,10,11] (Zc Zd [] ?_)
  simp only [push_cast,seval,↓reduceIte,Za,hN0,hN]
  refine Zm ?_
  refine Zv (t:=(decide (s0_.1 < (a1.length:Int)))) rfl (fun c13 => ?_) (fun c13 => ?_)
  ·replace hs0_:=Zu c13 hs0_
   refine Zy ?_
   try simp only [Zk,Ze]
   refine Zl [0,5,8,9,10] [true,true,true,true,false] ?_
   simp only [push_cast,seval,↓reduceIte]
   obtain ⟨z1,hz1,hs0_⟩:=bC hs0_
   refine Y6 (E':=⟨44,[],[(0,.val (.int .i64 a0)),(5,.ref n 0),(8,.sl a1.length (fl Zg a1)),(9,.val (.int .i64 (a1.length:Int))),(10,.val (.int .i64 s0_.1))]⟩) (O':=(Zx O n [some ⟨false,110,4,1,[.row (n+9) z1.2.1.length,.val (.int .i64 z1.1),.row (n+10) z1.2.2.1.length,.row (n+11) z1.2.2.2.length]⟩,none,none,none,none,none,none,none,none,some ⟨true,69,14,z1.2.1.length,fl Zg z1.2.1⟩,some ⟨true,25,3,z1.2.2.1.length,fl Zb z1.2.2.1⟩,some ⟨true,25,3,z1.2.2.2.length,fl Zb z1.2.2.2⟩,none])) (n0:=(n+13)) ?_ ?_
   ·refine Ym ?_
    refine Zm ?_
    obtain ⟨x3,hx3,ax3,bx3,cx3,hz1⟩:=bE (f:=Zg) Zda (fun _=>rfl) (by decide) hz1
    refine Zc Zd [] ?_
    simp only [push_cast,Nat.reduceAdd,Nat.reduceSub,Nat.reduceMul,Nat.reduceLeDiff,Nat.reduceLT,Nat.reduceEqDiff,↓reduceIte,reduceCtorEq,Int.reduceBEq,Int.reduceBNe,Nat.reduceBEq,Int.reduceLE,Int.reduceLT,Int.reduceEq,Int.reduceNe,Int.reduceNeg,Nat.reduceDiv,Nat.reduceMod,Nat.reducePow,Za,ax3,bx3,cx3,hN0,hN]
    refine Zl [0,5,7,8,9,10] [true,true,true,true,false,true] ?_
    simp only [push_cast,seval,↓reduceIte]
    refine Zr [0,5,7,8,9,10,15] (Zc Zd [] ?_)
    simp only [push_cast,seval,↓reduceIte,Za,hN0,hN]
    refine Ym ?_
    refine Zr [0,5,7,8,9,10,15,16] (Zc Zd [] ?_)
    simp only [push_cast,seval,↓reduceIte,Za,hN0,hN]
    refine Zv (t:=(x3.Kind == 0)) rfl (fun c12 => ?_) (fun c12 => ?_)
    ·replace hz1:=Zu c12 hz1
     obtain ⟨y4,hy4,hz1⟩:=bC hz1
     refine Zc Zd [] ?_
     simp only [push_cast,seval,↓reduceIte,Za,hN0,hN]
     refine (Zd8 (i0:=n) (j0_0:=(n+2)) (j0_1:=(n+3)) (j0_2:=(n+1)) (by omega) (by omega) (by omega) (by omega) (by omega) (by omega) (by omega) (by omega) (by omega) (by omega) (by simp only [push_cast,seval,↓reduceIte,Za,Xf,hN0,hN] <;> rfl) (by simp only [push_cast,seval,↓reduceIte,Za,Xf,hN0,hN] <;> rfl) (by simp only [push_cast,seval,↓reduceIte,Za,Xf,hN0,hN] <;> rfl) (by simp only [push_cast,seval,↓reduceIte,Za,Xf,hN0,hN] <;> rfl) hy4).then ?_
     simp only [push_cast,seval,↓reduceIte,Za,hN0,hN]
     have hz1:=Option.some.inj hz1;subst hz1
     refine And.intro rfl ?_
     refine Fit2.trans (E':=(⟨44,[],[(0,.val (.int .i64 a0)),(5,.ref n 0),(8,.sl a1.length (fl Zg a1)),(9,.val (.int .i64 (a1.length:Int))),(10,.val (.int .i64 s0_.1))]⟩:Env)) (O':=(Zx O n [some ⟨false,110,4,1,[.row (n+8) y4.out.length,.val (.int .i64 y4.kept),.row (n+6) y4.gone.length,.row (n+7) y4.come.length]⟩,none,none,none,none,none,some ⟨true,25,3,y4.gone.length,fl Zb y4.gone⟩,some ⟨true,25,3,y4.come.length,fl Zb y4.come⟩,some ⟨true,69,14,y4.out.length,fl Zg y4.out⟩])) (n':=(n+9)) (Fit2.of (Zj hU rfl rfl ?_) (by omega)) ?_
     ·simp only [push_cast,seval,↓reduceIte,Za,hN0,hN]
     refine V5 (k:=9) (k':=13) hU [0,12,12,12,12,12,10,11,9] [0,0,0,0,0,0,0,0,0,8,6,7,0] rfl rfl rfl rfl ⟨rfl,rfl⟩ ?_
     simp only [push_cast,seval,↓reduceIte,Za,hN0,hN]
    replace hz1:=Zt c12 hz1
    refine Zr [0,5,7,8,9,10,15,21] (Zc Zd [] ?_)
    simp only [push_cast,seval,↓reduceIte,Za,hN0,hN]
    refine Zv (t:=(x3.Kind == 1)) rfl (fun c11 => ?_) (fun c11 => ?_)
    ·replace hz1:=Zu c11 hz1
     obtain ⟨y5,hy5,hz1⟩:=bC hz1
     refine Zc Zd [] ?_
     simp only [push_cast,seval,↓reduceIte,Za,hN0,hN]
     refine (Zgr (i0:=n) (j0_0:=(n+2)) (j0_1:=(n+3)) (j0_2:=(n+1)) (by omega) (by omega) (by omega) (by omega) (by omega) (by omega) (by omega) (by omega) (by omega) (by omega) (by simp only [push_cast,seval,↓reduceIte,Za,Xf,hN0,hN] <;> rfl) (by simp only [push_cast,seval,↓reduceIte,Za,Xf,hN0,hN] <;> rfl) (by simp only [push_cast,seval,↓reduceIte,Za,Xf,hN0,hN] <;> rfl) (by simp only [push_cast,seval,↓reduceIte,Za,Xf,hN0,hN] <;> rfl) hy5).then ?_
     simp only [push_cast,seval,↓reduceIte,Za,hN0,hN]
     have hz1:=Option.some.inj hz1;subst hz1
     refine And.intro rfl ?_
     refine Fit2.trans (E':=(⟨44,[],[(0,.val (.int .i64 a0)),(5,.ref n 0),(8,.sl a1.length (fl Zg a1)),(9,.val (.int .i64 (a1.length:Int))),(10,.val (.int .i64 s0_.1))]⟩:Env)) (O':=(Zx O n [some ⟨false,110,4,1,[.row (n+8) y5.out.length,.val (.int .i64 y5.kept),.row (n+6) y5.gone.length,.row (n+7) y5.come.length]⟩,none,none,none,none,none,some ⟨true,25,3,y5.gone.length,fl Zb y5.gone⟩,some ⟨true,25,3,y5.come.length,fl Zb y5.come⟩,some ⟨true,69,14,y5.out.length,fl Zg y5.out⟩])) (n':=(n+9)) (Fit2.of (Zj hU rfl rfl ?_) (by omega)) ?_
     ·simp only [push_cast,seval,↓reduceIte,Za,hN0,hN]
     refine V5 (k:=9) (k':=13) hU [0,12,12,12,12,12,10,11,9] [0,0,0,0,0,0,0,0,0,8,6,7,0] rfl rfl rfl rfl ⟨rfl,rfl⟩ ?_
     simp only [push_cast,seval,↓reduceIte,Za,hN0,hN]
    replace hz1:=Zt c11 hz1
    refine Zr [0,5,7,8,9,10,15,27] (Zc Zd [] ?_)
    simp only [push_cast,seval,↓reduceIte,Za,hN0,hN]
    refine Zv (t:=(x3.Kind == 2)) rfl (fun c10 => ?_) (fun c10 => ?_)
    ·replace hz1:=Zu c10 hz1
     obtain ⟨y6,hy6,hz1⟩:=bC hz1
     refine Zc Zd [] ?_
     simp only [push_cast,seval,↓reduceIte,Za,hN0,hN]
     refine (Zgs (i0:=n) (j0_0:=(n+2)) (j0_1:=(n+3)) (j0_2:=(n+1)) (by omega) (by omega) (by omega) (by omega) (by omega) (by omega) (by omega) (by omega) (by omega) (by omega) (by simp only [push_cast,seval,↓reduceIte,Za,Xf,hN0,hN] <;> rfl) (by simp only [push_cast,seval,↓reduceIte,Za,Xf,hN0,hN] <;> rfl) (by simp only [push_cast,seval,↓reduceIte,Za,Xf,hN0,hN] <;> rfl) (by simp only [push_cast,seval,↓reduceIte,Za,Xf,hN0,hN] <;> rfl) hy6).then ?_
     simp only [push_cast,seval,↓reduceIte,Za,hN0,hN]
     have hz1:=Option.some.inj hz1;subst hz1
     refine And.intro rfl ?_
     refine Fit2.trans (E':=(⟨44,[],[(0,.val (.int .i64 a0)),(5,.ref n 0),(8,.sl a1.length (fl Zg a1)),(9,.val (.int .i64 (a1.length:Int))),(10,.val (.int .i64 s0_.1))]⟩:Env)) (O':=(Zx O n [some ⟨false,110,4,1,[.row (n+8) y6.out.length,.val (.int .i64 y6.kept),.row (n+6) y6.gone.length,.row (n+7) y6.come.length]⟩,none,none,none,none,none,some ⟨true,25,3,y6.gone.length,fl Zb y6.gone⟩,some ⟨true,25,3,y6.come.length,fl Zb y6.come⟩,some ⟨true,69,14,y6.out.length,fl Zg y6.out⟩])) (n':=(n+9)) (Fit2.of (Zj hU rfl rfl ?_) (by omega)) ?_
     ·simp only [push_cast,seval,↓reduceIte,Za,hN0,hN]
     refine V5 (k:=9) (k':=13) hU [0,12,12,12,12,12,10,11,9] [0,0,0,0,0,0,0,0,0,8,6,7,0] rfl rfl rfl rfl ⟨rfl,rfl⟩ ?_
     simp only [push_cast,seval,↓reduceIte,Za,hN0,hN]
    replace hz1:=Zt c10 hz1
    refine Zr [0,5,7,8,9,10,33] (Zc Zd [] ?_)
    simp only [push_cast,seval,↓reduceIte,Za,hN0,hN]
    refine Zv (t:=(x3.Kind == 3)) rfl (fun c9 => ?_) (fun c9 => ?_)
    ·replace hz1:=Zu c9 hz1
     obtain ⟨y7,hy7,hz1⟩:=bC hz1
     obtain ⟨y8,hy8,hz1⟩:=bC hz1
     refine Zc Zd [] ?_
     simp only [push_cast,seval,↓reduceIte,Za,hN0,hN]
     refine (Zb9 hy7).then ?_
     simp only [push_cast,seval,↓reduceIte,Za,hN0,hN]
     refine (Zha (i0:=n) (j0_0:=(n+2)) (j0_1:=(n+3)) (j0_2:=(n+1)) (by omega) (by omega) (by omega) (by omega) (by omega) (by omega) (by omega) (by omega) (by omega) (by omega) (by simp only [push_cast,seval,↓reduceIte,Za,Xf,hN0,hN] <;> rfl) (by simp only [push_cast,seval,↓reduceIte,Za,Xf,hN0,hN] <;> rfl) (by simp only [push_cast,seval,↓reduceIte,Za,Xf,hN0,hN] <;> rfl) (by simp only [push_cast,seval,↓reduceIte,Za,Xf,hN0,hN] <;> rfl) hy8).then ?_
     simp only [push_cast,seval,↓reduceIte,Za,hN0,hN]
     have hz1:=Option.some.inj hz1;subst hz1
     refine And.intro rfl ?_
     refine Fit2.trans (E':=(⟨44,[],[(0,.val (.int .i64 a0)),(5,.ref n 0),(8,.sl a1.length (fl Zg a1)),(9,.val (.int .i64 (a1.length:Int))),(10,.val (.int .i64 s0_.1))]⟩:Env)) (O':=(Zx O n [some ⟨false,110,4,1,[.row (n+8) y8.out.length,.val (.int .i64 y8.kept),.row (n+6) y8.gone.length,.row (n+7) y8.come.length]⟩,none,none,none,none,none,some ⟨true,25,3,y8.gone.length,fl Zb y8.gone⟩,some ⟨true,25,3,y8.come.length,fl Zb y8.come⟩,some ⟨true,69,14,y8.out.length,fl Zg y8.out⟩])) (n':=(n+9)) (Fit2.of (Zj hU rfl rfl ?_) (by omega)) ?_
     ·simp only [push_cast,seval,↓reduceIte,Za,hN0,hN]
     refine V5 (k:=9) (k':=13) hU [0,12,12,12,12,12,10,11,9] [0,0,0,0,0,0,0,0,0,8,6,7,0] rfl rfl rfl rfl ⟨rfl,rfl⟩ ?_
     simp only [push_cast,seval,↓reduceIte,Za,hN0,hN]
    replace hz1:=Zt c9 hz1
    refine Zy ?_
    try simp only [Zk,Ze]
    have hz1:=Option.some.inj hz1;subst hz1
    refine And.intro rfl ?_
    refine Fit2.trans (E':=(⟨44,[],[(0,.val (.int .i64 a0)),(5,.ref n 0),(8,.sl a1.length (fl Zg a1)),(9,.val (.int .i64 (a1.length:Int))),(10,.val (.int .i64 s0_.1))]⟩:Env)) (O':=(Zx O n [some ⟨false,110,4,1,[.row (n+1) s0_.2.2.1.length,.val (.int .i64 s0_.2.1),.row (n+2) s0_.2.2.2.1.length,.row (n+3) s0_.2.2.2.2.length]⟩,some ⟨true,69,14,s0_.2.2.1.length,fl Zg s0_.2.2.1⟩,some ⟨true,25,3,s0_.2.2.2.1.length,fl Zb s0_.2.2.2.1⟩,some ⟨true,25,3,s0_.2.2.2.2.length,fl Zb s0_.2.2.2.2⟩,none,none])) (n':=(n+6)) (Fit2.of (Zj hU rfl rfl ?_) (by omega)) ?_
    ·simp only [push_cast,seval,↓reduceIte,Za,hN0,hN]
    refine V5 (k:=6) (k':=13) hU [0,9,10,11,12,12] [0,0,0,0,0,0,0,0,0,1,2,3,0] rfl rfl rfl rfl ⟨rfl,rfl⟩ ?_
    simp only [push_cast,seval,↓reduceIte,Za,hN0,hN]
   refine Zc Zd [] ?_
   simp only [push_cast,seval,↓reduceIte,Za,hN0,hN]
   have hs0_:=Option.some.inj hs0_;subst hs0_
   refine And.intro rfl ?_
   refine Fit2.trans (E':=(⟨44,[],[(0,.val (.int .i64 a0)),(5,.ref n 0),(8,.sl a1.length (fl Zg a1)),(9,.val (.int .i64 (a1.length:Int))),(10,.val (.int .i64 (IntKind.i64.wrap (s0_.1+1))))]⟩:Env)) (O':=(Zx O n [some ⟨false,110,4,1,[.row (n+9) z1.2.1.length,.val (.int .i64 z1.1),.row (n+10) z1.2.2.1.length,.row (n+11) z1.2.2.2.length]⟩,none,none,none,none,none,none,none,none,some ⟨true,69,14,z1.2.1.length,fl Zg z1.2.1⟩,some ⟨true,25,3,z1.2.2.1.length,fl Zb z1.2.2.1⟩,some ⟨true,25,3,z1.2.2.2.length,fl Zb z1.2.2.2⟩,none])) (n':=(n+13)) (Fit2.of (Zj hU rfl rfl ?_) (by omega)) ?_
   ·simp only [push_cast,seval,↓reduceIte,Za,hN0,hN]
   refine V5 (k:=13) (k':=5) hU [0,4,4,4,4,4,4,4,4,1,2,3,4] [0,9,10,11,0] rfl rfl rfl rfl ⟨rfl,rfl⟩ ?_
   simp only [push_cast,seval,↓reduceIte,Za,hN0,hN]
  replace hs0_:=Zt c13 hs0_
  refine Xp ?_
  try simp only [Zk,Ze,↓reduceIte,Nat.reduceEqDiff]
  have hs0_:=Option.some.inj hs0_;subst hs0_
  refine And.intro (fun h=>by cases h) (And.intro rfl (Fit2.of (Zj hU rfl rfl ?_) (by omega)))
  simp only [push_cast,seval,↓reduceIte,Za,hN0,hN]
 try simp only [Zk,Ze,↓reduceIte,Nat.reduceEqDiff]
 refine Zl [5] [true,true,true,true,false] ?_
 simp only [push_cast,seval,↓reduceIte]
 refine Zm ?_
 obtain ⟨y16,hy16,h⟩:=bC h
 refine Zc Zd [] ?_
 simp only [push_cast,seval,↓reduceIte,Za,hN0,hN]
 refine (K2 (i0:=n) (j0_0:=(n+2)) (j0_1:=(n+3)) (j0_2:=(n+1)) (by omega) (by omega) (by omega) (by omega) (by omega) (by omega) (by omega) (by omega) (by omega) (by omega) (by simp only [push_cast,seval,↓reduceIte,Za,Xf,hN0,hN] <;> rfl) (by simp only [push_cast,seval,↓reduceIte,Za,Xf,hN0,hN] <;> rfl) (by simp only [push_cast,seval,↓reduceIte,Za,Xf,hN0,hN] <;> rfl) (by simp only [push_cast,seval,↓reduceIte,Za,Xf,hN0,hN] <;> rfl) hy16).then ?_
 simp only [push_cast,seval,↓reduceIte,Za,hN0,hN]
 refine Zl [5] [true,false,false,false,false,true,true,true] ?_
 simp only [push_cast,seval,↓reduceIte]
 refine Zr [4] (Zc Zd [] ?_)
 simp only [push_cast,seval,↓reduceIte,Za,hN0,hN]
 refine Z4 ?_
 try simp only [Zk,Ze]
 have h:=Option.some.inj h;subst h
 refine Zs (.inr rfl) hU [.row (n+7) y16.out.length] (by omega) ?_
 simp only [push_cast,seval,↓reduceIte,Za,Try.results51,hN0,hN]
theorem Zgx:∀ k,(∀ {a0:S_api_Edit} {r:S_api_Edit} {O:Objs} {n:Nat},(Xk k).1 a0=some r→GTo Try.prog 18 [.agg (Zh a0)] O n (.agg (Zh r)) O n)∧(∀ {a0:Int} {a1:(List S_api_Op)} {r:(List S_api_Op)} {O:Objs} {n:Nat},(Xk k).2 a0 a1=some r→GTo Try.prog 51 [.val (.int .i64 a0),.sl a1.length (fl Zg a1)] O n (.sl r.length (fl Zg r)) O n):=fun k=>by
 induction k with
 | zero=>exact ⟨@fun a0 r O n h=>(nomatch (show (none:Option _)=some _ from h)),@fun a0 a1 r O n h=>(nomatch (show (none:Option _)=some _ from h))⟩
 | succ k ih=>exact ⟨@fun a0 r O n h=>Zoq (ih.1) (ih.2)  h,@fun a0 a1 r O n h=>Zqq (ih.1) (ih.2)  h⟩
theorem Zqj {a0:S_api_Edit} {r:S_api_Edit} {O:Objs} {n:Nat} (h:Zg6 a0=some r):GTo Try.prog 18 [.agg (Zh a0)] O n (.agg (Zh r)) O n:=by
 obtain ⟨k,hk⟩:=Uh h
 exact (Zgx k).1  hk
theorem Zsk {a0:Int} {a1:(List S_api_Op)} {r:(List S_api_Op)} {O:Objs} {n:Nat} (h:Zia a0 a1=some r):GTo Try.prog 51 [.val (.int .i64 a0),.sl a1.length (fl Zg a1)] O n (.sl r.length (fl Zg r)) O n:=by
 obtain ⟨k,hk⟩:=Uh h
 exact (Zgx k).2  hk
theorem Zfi  {r:Bool} {O:Objs} {n:Nat} (h:Kf=some r):GTo Try.prog 16 [] O n (.val (.bool r)) O n:=by
 unfold Kf at h
 refine Y8 Zd Try.call16 Try.func16 rfl (Nat.le_of_ble_eq_true rfl) (Nat.le_refl _) fun hU => ?_
 have hN0:O n=none:=hU.fresh _ (Nat.le_refl _)
 have hN:∀ k,O (n+k)=none:=fun k=>hU.fresh _ (Nat.le_add_right _ _)
 show W _ _ _ _ ⟨49,[],[]⟩ (Zx O n []) _
 refine Zr [] (Zc Zd [] ?_)
 simp only [push_cast,seval,↓reduceIte,Za,hN0,hN]
 refine Zm ?_
 refine Zc Zd [] ?_
 simp only [push_cast,seval,↓reduceIte,Za,hN0,hN]
 refine Zhg ⟨49,[],[(1,.row (n+1) ([(⟨10,([1]:List Int),([]:(List S_api_Tree))⟩:S_api_Tree)]:List S_api_Tree).length)]⟩ (Zx O n [none,some ⟨true,25,3,([(⟨10,([1]:List Int),([]:(List S_api_Tree))⟩:S_api_Tree)]:List S_api_Tree).length,fl Zb ([(⟨10,([1]:List Int),([]:(List S_api_Tree))⟩:S_api_Tree)]:List S_api_Tree)⟩]) (Zj hU rfl rfl ?_) ?_
 ·simp only [push_cast,seval,↓reduceIte,Za,hN0,hN]
 refine Zm ?_
 refine Zc Zd [] ?_
 simp only [push_cast,seval,↓reduceIte,Za,hN0,hN]
 refine Zhg ⟨49,[],[(1,.row (n+1) ([(⟨10,([1]:List Int),([]:(List S_api_Tree))⟩:S_api_Tree)]:List S_api_Tree).length),(2,.row (n+3) ([(⟨10,([2]:List Int),([]:(List S_api_Tree))⟩:S_api_Tree)]:List S_api_Tree).length)]⟩ (Zx O n [none,some ⟨true,25,3,([(⟨10,([1]:List Int),([]:(List S_api_Tree))⟩:S_api_Tree)]:List S_api_Tree).length,fl Zb ([(⟨10,([1]:List Int),([]:(List S_api_Tree))⟩:S_api_Tree)]:List S_api_Tree)⟩,none,some ⟨true,25,3,([(⟨10,([2]:List Int),([]:(List S_api_Tree))⟩:S_api_Tree)]:List S_api_Tree).length,fl Zb ([(⟨10,([2]:List Int),([]:(List S_api_Tree))⟩:S_api_Tree)]:List S_api_Tree)⟩]) (Zj hU rfl rfl ?_) ?_
 ·simp only [push_cast,seval,↓reduceIte,Za,hN0,hN]
 refine Zhg ⟨49,[],[(1,.sl ([(⟨10,([1]:List Int),([]:(List S_api_Tree))⟩:S_api_Tree)]:List S_api_Tree).length (fl Zb ([(⟨10,([1]:List Int),([]:(List S_api_Tree))⟩:S_api_Tree)]:List S_api_Tree))),(2,.sl ([(⟨10,([2]:List Int),([]:(List S_api_Tree))⟩:S_api_Tree)]:List S_api_Tree).length (fl Zb ([(⟨10,([2]:List Int),([]:(List S_api_Tree))⟩:S_api_Tree)]:List S_api_Tree)))]⟩ (Zx O n [none,none,none,none]) (Zj hU rfl rfl ?_) ?_
 ·simp only [push_cast,seval,↓reduceIte,Za,hN0,hN]
 refine Zm ?_
 obtain ⟨y2,hy2,h⟩:=bC h
 refine Zc Zd [] ?_
 simp only [push_cast,seval,↓reduceIte,Za,hN0,hN]
 refine GCalls.dropL (l':=[none,none,none,none,none]) hU rfl ?_ ((Zsk hy2).then ?_)
 ·simp only [push_cast,seval,↓reduceIte,Za,hN0,hN]
 simp only [push_cast,seval,↓reduceIte,Za,hN0,hN]
 refine Zl [3] [false,false,false,false,false] ?_
 simp only [push_cast,seval,↓reduceIte]
 obtain ⟨z11,hz11,h⟩:=bC h
 refine Y6 (E':=⟨49,[],[(0,.val (.bool z11))]⟩) (O':=(Zx O n [none,none,none,none,none])) (n0:=(n+5)) ?_ ?_
 ·rcases Bool.eq_false_or_eq_true ((y2.length:Int) == 3) with c28 | c28
  ·replace hz11:=Zu c28 hz11
   obtain ⟨x20,hx20,ax20,bx20,cx20,hz11⟩:=bE (f:=Zg) Zda (fun _=>rfl) (by decide) hz11
   have g21:=Zh2 (f:=Zg) (sz:=14) Zvh (fun _=>rfl) (by decide) (by decide) hx20
   rcases Bool.eq_false_or_eq_true (x20.Kind == 1) with c29 | c29
   ·replace hz11:=Zu c29 hz11
    try rw [c29] at c28
    obtain ⟨x22,hx22,ax22,bx22,cx22,hz11⟩:=bE (f:=Zg) Zda (fun _=>rfl) (by decide) hz11
    have g23:=Zh2 (f:=Zg) (sz:=14) Zvh (fun _=>rfl) (by decide) (by decide) hx22
    rcases Bool.eq_false_or_eq_true (x22.Kind == 2) with c30 | c30
    ·replace hz11:=Zu c30 hz11
     try rw [c30] at c28
     try rw [c30] at c29
     obtain ⟨x24,hx24,ax24,bx24,cx24,hz11⟩:=bE (f:=Zg) Zda (fun _=>rfl) (by decide) hz11
     have g25:=Zh2 (f:=Zg) (sz:=14) Zvh (fun _=>rfl) (by decide) (by decide) hx24
     rcases Bool.eq_false_or_eq_true (x24.Kind == 0) with c31 | c31
     ·replace hz11:=Zu c31 hz11
      try rw [c31] at c28
      try rw [c31] at c29
      try rw [c31] at c30
      have g27:=Zc6 (f:=Zg) (off:=1) (sz:=14) Zvh (fun _=>rfl) (by decide) (by decide) hx24
      refine Zc Zd [some true,some true,some true,some true,some true,some true,some true,some true,some true,some true,some true,some true,some true,some true,some true,some true,some true,some true,some true,some true] ?_
      simp only [push_cast,Nat.reduceAdd,Nat.reduceSub,Nat.reduceMul,Nat.reduceLeDiff,Nat.reduceLT,Nat.reduceEqDiff,↓reduceIte,reduceCtorEq,Int.reduceBEq,Int.reduceBNe,Nat.reduceBEq,Int.reduceLE,Int.reduceLT,Int.reduceEq,Int.reduceNe,Int.reduceNeg,Nat.reduceDiv,Nat.reduceMod,Nat.reducePow,Za,c28,ax20,bx20,cx20,g21,c29,ax22,bx22,cx22,g23,c30,ax24,bx24,cx24,g25,c31,g27,hN0,hN]
      have hz11:=Option.some.inj hz11;subst hz11
      refine And.intro rfl (Fit2.of (Zj hU rfl rfl ?_) (by omega))
      simp only [push_cast,Nat.reduceAdd,Nat.reduceSub,Nat.reduceMul,Nat.reduceLeDiff,Nat.reduceLT,Nat.reduceEqDiff,↓reduceIte,reduceCtorEq,Int.reduceBEq,Int.reduceBNe,Nat.reduceBEq,Int.reduceLE,Int.reduceLT,Int.reduceEq,Int.reduceNe,Int.reduceNeg,Nat.reduceDiv,Nat.reduceMod,Nat.reducePow,Za,c28,ax20,bx20,cx20,g21,c29,ax22,bx22,cx22,g23,c30,ax24,bx24,cx24,g25,c31,g27,hN0,hN]
     replace hz11:=Zt c31 hz11
     try rw [c31] at c28
     try rw [c31] at c29
     try rw [c31] at c30
     refine Zc Zd [some true,some true,some true,some true,some true,some true,some true,some true,some true,some true,some true,some true,some true,some true,some true,some false,some false,some false,some false,some false] ?_
     simp only [push_cast,Nat.reduceAdd,Nat.reduceSub,Nat.reduceMul,Nat.reduceLeDiff,Nat.reduceLT,Nat.reduceEqDiff,↓reduceIte,reduceCtorEq,Int.reduceBEq,Int.reduceBNe,Nat.reduceBEq,Int.reduceLE,Int.reduceLT,Int.reduceEq,Int.reduceNe,Int.reduceNeg,Nat.reduceDiv,Nat.reduceMod,Nat.reducePow,Za,c28,ax20,bx20,cx20,g21,c29,ax22,bx22,cx22,g23,c30,ax24,bx24,cx24,g25,c31,hN0,hN]
     have hz11:=Option.some.inj hz11;subst hz11
     refine And.intro rfl (Fit2.of (Zj hU rfl rfl ?_) (by omega))
     simp only [push_cast,Nat.reduceAdd,Nat.reduceSub,Nat.reduceMul,Nat.reduceLeDiff,Nat.reduceLT,Nat.reduceEqDiff,↓reduceIte,reduceCtorEq,Int.reduceBEq,Int.reduceBNe,Nat.reduceBEq,Int.reduceLE,Int.reduceLT,Int.reduceEq,Int.reduceNe,Int.reduceNeg,Nat.reduceDiv,Nat.reduceMod,Nat.reducePow,Za,c28,ax20,bx20,cx20,g21,c29,ax22,bx22,cx22,g23,c30,ax24,bx24,cx24,g25,c31,hN0,hN]
    replace hz11:=Zt c30 hz11
    try rw [c30] at c28
    try rw [c30] at c29
    refine Zc Zd [some true,some true,some true,some true,some true,some true,some true,some true,some true,some true,some false,some false,some false,some false,some false,some false,some false,some false,some false,some false] ?_
    simp only [push_cast,Nat.reduceAdd,Nat.reduceSub,Nat.reduceMul,Nat.reduceLeDiff,Nat.reduceLT,Nat.reduceEqDiff,↓reduceIte,reduceCtorEq,Int.reduceBEq,Int.reduceBNe,Nat.reduceBEq,Int.reduceLE,Int.reduceLT,Int.reduceEq,Int.reduceNe,Int.reduceNeg,Nat.reduceDiv,Nat.reduceMod,Nat.reducePow,Za,c28,ax20,bx20,cx20,g21,c29,ax22,bx22,cx22,g23,c30,hN0,hN]
    have hz11:=Option.some.inj hz11;subst hz11
    refine And.intro rfl (Fit2.of (Zj hU rfl rfl ?_) (by omega))
    simp only [push_cast,Nat.reduceAdd,Nat.reduceSub,Nat.reduceMul,Nat.reduceLeDiff,Nat.reduceLT,Nat.reduceEqDiff,↓reduceIte,reduceCtorEq,Int.reduceBEq,Int.reduceBNe,Nat.reduceBEq,Int.reduceLE,Int.reduceLT,Int.reduceEq,Int.reduceNe,Int.reduceNeg,Nat.reduceDiv,Nat.reduceMod,Nat.reducePow,Za,c28,ax20,bx20,cx20,g21,c29,ax22,bx22,cx22,g23,c30,hN0,hN]
   replace hz11:=Zt c29 hz11
   try rw [c29] at c28
   refine Zc Zd [some true,some true,some true,some true,some true,some false,some false,some false,some false,some false,some false,some false,some false,some false,some false,some false,some false,some false,some false,some false] ?_
   simp only [push_cast,Nat.reduceAdd,Nat.reduceSub,Nat.reduceMul,Nat.reduceLeDiff,Nat.reduceLT,Nat.reduceEqDiff,↓reduceIte,reduceCtorEq,Int.reduceBEq,Int.reduceBNe,Nat.reduceBEq,Int.reduceLE,Int.reduceLT,Int.reduceEq,Int.reduceNe,Int.reduceNeg,Nat.reduceDiv,Nat.reduceMod,Nat.reducePow,Za,c28,ax20,bx20,cx20,g21,c29,hN0,hN]
   have hz11:=Option.some.inj hz11;subst hz11
   refine And.intro rfl (Fit2.of (Zj hU rfl rfl ?_) (by omega))
   simp only [push_cast,Nat.reduceAdd,Nat.reduceSub,Nat.reduceMul,Nat.reduceLeDiff,Nat.reduceLT,Nat.reduceEqDiff,↓reduceIte,reduceCtorEq,Int.reduceBEq,Int.reduceBNe,Nat.reduceBEq,Int.reduceLE,Int.reduceLT,Int.reduceEq,Int.reduceNe,Int.reduceNeg,Nat.reduceDiv,Nat.reduceMod,Nat.reducePow,Za,c28,ax20,bx20,cx20,g21,c29,hN0,hN]
  replace hz11:=Zt c28 hz11
  refine Zc Zd [some false,some false,some false,some false,some false,some false,some false,some false,some false,some false,some false,some false,some false,some false,some false,some false,some false,some false,some false,some false] ?_
  simp only [push_cast,seval,↓reduceIte,Za,c28,hN0,hN]
  have hz11:=Option.some.inj hz11;subst hz11
  refine And.intro rfl (Fit2.of (Zj hU rfl rfl ?_) (by omega))
  simp only [push_cast,seval,↓reduceIte,Za,c28,hN0,hN]
 refine Z4 ?_
 try simp only [Zk,Ze]
 have h:=Option.some.inj h;subst h
 refine Zs (.inr rfl) hU [.val (.bool z11)] (by omega) ?_
 simp only [push_cast,seval,↓reduceIte,Za,Try.results16,hN0,hN]
theorem Qx {a0:(List Int)} {a1:(List Int)} {r:Bool} {O:Objs} {n:Nat} (h:Xt a0 a1=some r):GTo Try.prog 115 [.sl a0.length (fl (eI .u64) a0),.sl a1.length (fl (eI .u64) a1)] O n (.val (.bool r)) O n:=by
 unfold Xt at h
 refine Y8 Zd Try.call115 Try.func115 rfl (Nat.le_of_ble_eq_true rfl) (Nat.le_refl _) fun hU => ?_
 have hN0:O n=none:=hU.fresh _ (Nat.le_refl _)
 have hN:∀ k,O (n+k)=none:=fun k=>hU.fresh _ (Nat.le_add_right _ _)
 show W _ _ _ _ ⟨26,[],[(0,.sl a0.length (fl (eI .u64) a0)),(1,.sl a1.length (fl (eI .u64) a1))]⟩ (Zx O n []) _
 refine Zr [0,1] (Zc Zd [] ?_)
 simp only [push_cast,seval,↓reduceIte,Za,hN0,hN]
 refine Zm ?_
 refine Zr [0,1,10] (Zc Zd [] ?_)
 simp only [push_cast,seval,↓reduceIte,Za,hN0,hN]
 refine Zv (t:=((a0.length:Int) != (a1.length:Int))) rfl (fun c8 => ?_) (fun c8 => ?_)
 ·replace h:=Zu c8 h
  refine Zr [4] (Zc Zd [] ?_)
  simp only [push_cast,seval,↓reduceIte,Za,hN0,hN]
  refine Z4 ?_
  try simp only [Zk,Ze]
  have h:=Option.some.inj h;subst h
  refine Zs (.inr rfl) hU [.val (.bool false)] (by omega) ?_
  simp only [push_cast,seval,↓reduceIte,Za,Try.results115,hN0,hN]
 replace h:=Zt c8 h
 refine Zy ?_
 try simp only [Zk,Ze]
 refine Zl [0,1] [] ?_
 simp only [push_cast,seval,↓reduceIte]
 refine Zm ?_
 refine Zr [0,1,12,13] (Zc Zd [] ?_)
 simp only [push_cast,seval,↓reduceIte,Za,hN0,hN]
 refine Zl [0,1,12,13] [] ?_
 simp only [push_cast,seval,↓reduceIte]
 obtain ⟨z7,hz7,h⟩:=bC h
 refine U4 (J:=(Xw (fun z7=>JR n (⟨26,[],[(4,.val (.bool false))]⟩:Env) (Zx O n []) n) (fun z7=>JX 0 n (⟨26,[],[]⟩:Env) (Zx O n []) n))) (z:=z7) ?_ fun hw => ?_
 ·refine Xg hz7 (fun s0_=>⟨26,[],[(0,.sl a0.length (fl (eI .u64) a0)),(1,.sl a1.length (fl (eI .u64) a1)),(12,.val (.int .i64 (a0.length:Int))),(13,.val (.int .i64 s0_))]⟩) (fun s0_=>(Zx O n [])) (Xw (fun z7=>JR n (⟨26,[],[(4,.val (.bool false))]⟩:Env) (Zx O n []) n) (fun z7=>JX 0 n (⟨26,[],[]⟩:Env) (Zx O n []) n)) ?_
  intro s0_ x0_ hs0_
  unfold Xx at hs0_
  try dsimp only
  refine Zr [0,1,12,13,14] (Zc Zd [] ?_)
  simp only [push_cast,seval,↓reduceIte,Za,hN0,hN]
  refine Zm ?_
  refine Zv (t:=(decide (s0_ < (a0.length:Int)))) rfl (fun c6 => ?_) (fun c6 => ?_)
  ·replace hs0_:=Zu c6 hs0_
   refine Zy ?_
   try simp only [Zk,Ze]
   refine Zl [0,1,12,13] [] ?_
   simp only [push_cast,seval,↓reduceIte]
   refine Zm ?_
   refine Ym ?_
   refine Zr [0,1,5,12,13] (Zc Zd [] ?_)
   simp only [push_cast,seval,↓reduceIte,Za,hN0,hN]
   obtain ⟨x3,hx3,ax3,bx3,cx3,hs0_⟩:=bE (f:=(eI .u64)) Zg2 (fun _=>rfl) (by decide) hs0_
   obtain ⟨x4,hx4,ax4,bx4,cx4,hs0_⟩:=bE (f:=(eI .u64)) Zg2 (fun _=>rfl) (by decide) hs0_
   refine Zr [0,1,12,13,24] (Kq Zd (by kernel_rfl) [] (by kernel_rfl) ?_)
   simp only [push_cast,Nat.reduceAdd,Nat.reduceSub,Nat.reduceMul,Nat.reduceLeDiff,Nat.reduceLT,Nat.reduceEqDiff,↓reduceIte,reduceCtorEq,Int.reduceBEq,Int.reduceBNe,Nat.reduceBEq,Int.reduceLE,Int.reduceLT,Int.reduceEq,Int.reduceNe,Int.reduceNeg,Nat.reduceDiv,Nat.reduceMod,Nat.reducePow,Za,ax3,bx3,cx3,ax4,bx4,cx4,hN0,hN]
   refine Zv (t:=(x3 != x4)) rfl (fun c5 => ?_) (fun c5 => ?_)
   ·replace hs0_:=Zu c5 hs0_
    refine Zr [4] (Zc Zd [] ?_)
    simp only [push_cast,seval,↓reduceIte,Za,hN0,hN]
    refine Z4 ?_
    try simp only [Zk,Ze]
    have hs0_:=Option.some.inj hs0_;subst hs0_
    refine And.intro (fun h=>by cases h) (And.intro rfl (Fit2.of (Zj hU rfl rfl ?_) (by omega)))
    simp only [push_cast,seval,↓reduceIte,Za,hN0,hN]
   replace hs0_:=Zt c5 hs0_
   refine Zy ?_
   try simp only [Zk,Ze]
   refine Zl [0,1,12,13] [] ?_
   simp only [push_cast,seval,↓reduceIte]
   refine Zc Zd [] ?_
   simp only [push_cast,seval,↓reduceIte,Za,hN0,hN]
   have hs0_:=Option.some.inj hs0_;subst hs0_
   refine And.intro rfl (Fit2.of (Zj hU rfl rfl ?_) (by omega))
   simp only [push_cast,seval,↓reduceIte,Za,hN0,hN]
  replace hs0_:=Zt c6 hs0_
  refine Xp ?_
  try simp only [Zk,Ze,↓reduceIte,Nat.reduceEqDiff]
  have hs0_:=Option.some.inj hs0_;subst hs0_
  refine And.intro (fun h=>by cases h) (And.intro rfl (Fit2.of (Zj hU rfl rfl ?_) (by omega)))
  simp only [push_cast,seval,↓reduceIte,Za,hN0,hN]
 rcases z7 with z7 | z7
 ·dsimp only [Xw] at hw h
  refine Jc hw ?_
  try simp only [Zk,Ze,↓reduceIte,Nat.reduceEqDiff]
  have h:=Option.some.inj h;subst h
  refine Zs (.inr rfl) hU [.val (.bool false)] (by omega) ?_
  simp only [push_cast,seval,↓reduceIte,Za,Try.results115,hN0,hN]
 dsimp only [Xw] at hw h
 refine Yx hw ?_
 try simp only [Zk,Ze,↓reduceIte,Nat.reduceEqDiff]
 refine Zl [] [] ?_
 simp only [push_cast,seval,↓reduceIte]
 refine Zr [4] (Zc Zd [] ?_)
 simp only [push_cast,seval,↓reduceIte,Za,hN0,hN]
 refine Z4 ?_
 try simp only [Zk,Ze]
 have h:=Option.some.inj h;subst h
 refine Zs (.inr rfl) hU [.val (.bool true)] (by omega) ?_
 simp only [push_cast,seval,↓reduceIte,Za,Try.results115,hN0,hN]
theorem Zqr {Ks:(S_api_Tree→S_api_Tree→Option Bool)} {Zz:((List S_api_Tree)→(List S_api_Tree)→Option Bool)} (Zis:∀ {a0:S_api_Tree} {a1:S_api_Tree} {r:Bool} {O:Objs} {n:Nat},Ks a0 a1=some r→GTo Try.prog 93 [.agg (Zf a0),.agg (Zf a1)] O n (.val (.bool r)) O n) (Y7:∀ {a0:(List S_api_Tree)} {a1:(List S_api_Tree)} {r:Bool} {O:Objs} {n:Nat},Zz a0 a1=some r→GTo Try.prog 116 [.sl a0.length (fl Zb a0),.sl a1.length (fl Zb a1),.fn 93 0 []] O n (.val (.bool r)) O n) {a0:S_api_Tree} {a1:S_api_Tree} {r:Bool} {O:Objs} {n:Nat} (h:Zdg Ks Zz a0 a1=some r):GTo Try.prog 93 [.agg (Zf a0),.agg (Zf a1)] O n (.val (.bool r)) O n:=by
 unfold Zdg at h
 refine Y8 Zd Try.call93 Try.func93 rfl (Nat.le_of_ble_eq_true rfl) (Nat.le_refl _) fun hU => ?_
 have hN0:O n=none:=hU.fresh _ (Nat.le_refl _)
 have hN:∀ k,O (n+k)=none:=fun k=>hU.fresh _ (Nat.le_add_right _ _)
 show W _ _ _ _ ⟨44,[],[(0,.agg (Zf a0)),(1,.agg (Zf a1))]⟩ (Zx O n []) _
 refine Zr [2,3] (Zc Zd [] ?_)
 simp only [push_cast,seval,↓reduceIte,Za,hN0,hN]
 refine Zm ?_
 refine Zr [2,3,9] (Zc Zd [] ?_)
 simp only [push_cast,seval,↓reduceIte,Za,hN0,hN]
 refine Zv (t:=(a0.Kind != a1.Kind)) rfl (fun c31 => ?_) (fun c31 => ?_)
 ·replace h:=Zu c31 h
  refine Zr [4] (Zc Zd [] ?_)
  simp only [push_cast,seval,↓reduceIte,Za,hN0,hN]
  refine Z4 ?_
  try simp only [Zk,Ze]
  have h:=Option.some.inj h;subst h
  refine Zs (.inr rfl) hU [.val (.bool false)] (by omega) ?_
  simp only [push_cast,seval,↓reduceIte,Za,Try.results93,hN0,hN]
 replace h:=Zt c31 h
 refine Zy ?_
 try simp only [Zk,Ze]
 refine Zl [2,3] [true,true] ?_
 simp only [push_cast,seval,↓reduceIte]
 refine Zm ?_
 refine Zr [2,3,11] (Zc Zd [] ?_)
 simp only [push_cast,seval,↓reduceIte,Za,hN0,hN]
 refine Ym ?_
 refine Zr [2,3,11,12] (Zc Zd [] ?_)
 simp only [push_cast,seval,↓reduceIte,Za,hN0,hN]
 refine Zv (t:=(a0.Kind == 0)) rfl (fun c30 => ?_) (fun c30 => ?_)
 ·replace h:=Zu c30 h
  refine Zr [4] (Zc Zd [] ?_)
  simp only [push_cast,seval,↓reduceIte,Za,hN0,hN]
  refine Z4 ?_
  try simp only [Zk,Ze]
  have h:=Option.some.inj h;subst h
  refine Zs (.inr rfl) hU [.val (.bool true)] (by omega) ?_
  simp only [push_cast,seval,↓reduceIte,Za,Try.results93,hN0,hN]
 replace h:=Zt c30 h
 refine Zr [2,3,14] (Zc Zd [] ?_)
 simp only [push_cast,seval,↓reduceIte,Za,hN0,hN]
 refine Zv (t:=(a0.Kind == 1)) rfl (fun c29 => ?_) (fun c29 => ?_)
 ·replace h:=Zu c29 h
  obtain ⟨z7,hz7,h⟩:=bC h
  refine Y6 (E':=⟨44,[],[(4,.val (.bool z7))]⟩) (O':=(Zx O n [none,none])) (n0:=(n+2)) ?_ ?_
  ·obtain ⟨y14,hy14,hz7⟩:=bC hz7
   obtain ⟨y15,hy15,hz7⟩:=bC hz7
   obtain ⟨y16,hy16,hz7⟩:=bC hz7
   rcases Bool.eq_false_or_eq_true y16 with c20 | c20
   ·replace hz7:=Zu c20 hz7
    obtain ⟨y17,hy17,hz7⟩:=bC hz7
    obtain ⟨y18,hy18,hz7⟩:=bC hz7
    obtain ⟨y19,hy19,hz7⟩:=bC hz7
    refine Kq Zd (by kernel_rfl) [some true,some true,some true,some true,some true,some true,some true] (by kernel_rfl) ?_
    simp only [push_cast,seval,↓reduceIte,Za,c20,hN0,hN]
    refine PCall.of (Uq hy14) ?_
    simp only [push_cast,seval,↓reduceIte,Za,c20,hN0,hN]
    refine PCall.of (Uq hy15) ?_
    simp only [push_cast,seval,↓reduceIte,Za,c20,hN0,hN]
    refine PCall.of (Qx hy16) ?_
    simp only [push_cast,seval,↓reduceIte,Za,c20,hN0,hN]
    refine PCall.of (Zef hy17) ?_
    simp only [push_cast,seval,↓reduceIte,Za,c20,hN0,hN]
    refine PCall.of (Zef hy18) ?_
    simp only [push_cast,seval,↓reduceIte,Za,c20,hN0,hN]
    refine PCall.of (Y7 hy19) ?_
    simp only [push_cast,seval,↓reduceIte,Za,c20,hN0,hN]
    have hz7:=Option.some.inj hz7;subst hz7
    refine And.intro rfl (Fit2.of (Zj hU rfl rfl ?_) (by omega))
    simp only [push_cast,seval,↓reduceIte,Za,c20,hN0,hN]
   replace hz7:=Zt c20 hz7
   refine Kq Zd (by kernel_rfl) [some false,some false,some false,some false,some false,some false,some false] (by kernel_rfl) ?_
   simp only [push_cast,seval,↓reduceIte,Za,c20,hN0,hN]
   refine PCall.of (Uq hy14) ?_
   simp only [push_cast,seval,↓reduceIte,Za,c20,hN0,hN]
   refine PCall.of (Uq hy15) ?_
   simp only [push_cast,seval,↓reduceIte,Za,c20,hN0,hN]
   refine PCall.of (Qx hy16) ?_
   simp only [push_cast,seval,↓reduceIte,Za,c20,hN0,hN]
   have hz7:=Option.some.inj hz7;subst hz7
   refine And.intro rfl (Fit2.of (Zj hU rfl rfl ?_) (by omega))
   simp only [push_cast,seval,↓reduceIte,Za,c20,hN0,hN]
  refine Z4 ?_
  try simp only [Zk,Ze]
  have h:=Option.some.inj h;subst h
  refine Zs (.inr rfl) hU [.val (.bool z7)] (by omega) ?_
  simp only [push_cast,seval,↓reduceIte,Za,Try.results93,hN0,hN]
 replace h:=Zt c29 h
 refine Zy ?_
 try simp only [Zk,Ze]
 refine Zl [2,3] [true,true] ?_
 simp only [push_cast,seval,↓reduceIte]
 obtain ⟨z23,hz23,h⟩:=bC h
 refine Y6 (E':=⟨44,[],[(4,.val (.bool z23))]⟩) (O':=(Zx O n [none,none])) (n0:=(n+2)) ?_ ?_
 ·obtain ⟨y26,hy26,hz23⟩:=bC hz23
  rcases Bool.eq_false_or_eq_true y26 with c28 | c28
  ·replace hz23:=Zu c28 hz23
   obtain ⟨y27,hy27,hz23⟩:=bC hz23
   refine Zc Zd [some true,some true,some true,some true,some true] ?_
   simp only [push_cast,seval,↓reduceIte,Za,c28,hN0,hN]
   refine (Qx hy26).then ?_
   simp only [push_cast,seval,↓reduceIte,Za,c28,hN0,hN]
   refine (Y7 hy27).then ?_
   simp only [push_cast,seval,↓reduceIte,Za,c28,hN0,hN]
   have hz23:=Option.some.inj hz23;subst hz23
   refine And.intro rfl (Fit2.of (Zj hU rfl rfl ?_) (by omega))
   simp only [push_cast,seval,↓reduceIte,Za,c28,hN0,hN]
  replace hz23:=Zt c28 hz23
  refine Zc Zd [some false,some false,some false,some false,some false] ?_
  simp only [push_cast,seval,↓reduceIte,Za,c28,hN0,hN]
  refine (Qx hy26).then ?_
  simp only [push_cast,seval,↓reduceIte,Za,c28,hN0,hN]
  have hz23:=Option.some.inj hz23;subst hz23
  refine And.intro rfl (Fit2.of (Zj hU rfl rfl ?_) (by omega))
  simp only [push_cast,seval,↓reduceIte,Za,c28,hN0,hN]
 refine Z4 ?_
 try simp only [Zk,Ze]
 have h:=Option.some.inj h;subst h
 refine Zs (.inr rfl) hU [.val (.bool z23)] (by omega) ?_
 simp only [push_cast,seval,↓reduceIte,Za,Try.results93,hN0,hN]
theorem J6 {Ks:(S_api_Tree→S_api_Tree→Option Bool)} {Zz:((List S_api_Tree)→(List S_api_Tree)→Option Bool)} (Zis:∀ {a0:S_api_Tree} {a1:S_api_Tree} {r:Bool} {O:Objs} {n:Nat},Ks a0 a1=some r→GTo Try.prog 93 [.agg (Zf a0),.agg (Zf a1)] O n (.val (.bool r)) O n) (Y7:∀ {a0:(List S_api_Tree)} {a1:(List S_api_Tree)} {r:Bool} {O:Objs} {n:Nat},Zz a0 a1=some r→GTo Try.prog 116 [.sl a0.length (fl Zb a0),.sl a1.length (fl Zb a1),.fn 93 0 []] O n (.val (.bool r)) O n) {a0:(List S_api_Tree)} {a1:(List S_api_Tree)} {r:Bool} {O:Objs} {n:Nat} (h:Yc Ks Zz a0 a1=some r):GTo Try.prog 116 [.sl a0.length (fl Zb a0),.sl a1.length (fl Zb a1),.fn 93 0 []] O n (.val (.bool r)) O n:=by
 unfold Yc at h
 refine Y8 Zd Try.call116 Try.func116 rfl (Nat.le_of_ble_eq_true rfl) (Nat.le_refl _) fun hU => ?_
 have hN0:O n=none:=hU.fresh _ (Nat.le_refl _)
 have hN:∀ k,O (n+k)=none:=fun k=>hU.fresh _ (Nat.le_add_right _ _)
 show W _ _ _ _ ⟨32,[],[(0,.sl a0.length (fl Zb a0)),(1,.sl a1.length (fl Zb a1)),(2,.fn 93 0 [])]⟩ (Zx O n []) _
 refine Zr [0,1,2] (Zc Zd [] ?_)
 simp only [push_cast,seval,↓reduceIte,Za,hN0,hN]
 refine Zm ?_
 refine Zr [0,1,2,14] (Zc Zd [] ?_)
 simp only [push_cast,seval,↓reduceIte,Za,hN0,hN]
 refine Zv (t:=((a0.length:Int) != (a1.length:Int))) rfl (fun c10 => ?_) (fun c10 => ?_)
 ·replace h:=Zu c10 h
  refine Zr [6] (Zc Zd [] ?_)
  simp only [push_cast,seval,↓reduceIte,Za,hN0,hN]
  refine Z4 ?_
  try simp only [Zk,Ze]
  have h:=Option.some.inj h;subst h
  refine Zs (.inr rfl) hU [.val (.bool false)] (by omega) ?_
  simp only [push_cast,seval,↓reduceIte,Za,Try.results116,hN0,hN]
 replace h:=Zt c10 h
 refine Zy ?_
 try simp only [Zk,Ze]
 refine Zl [0,1,2] [] ?_
 simp only [push_cast,seval,↓reduceIte]
 refine Zm ?_
 refine Zr [1,2,15,16,17] (Zc Zd [] ?_)
 simp only [push_cast,seval,↓reduceIte,Za,hN0,hN]
 refine Zl [1,2,15,16,17] [] ?_
 simp only [push_cast,seval,↓reduceIte]
 obtain ⟨z9,hz9,h⟩:=bC h
 refine U4 (J:=(Xw (fun z9=>JR n (⟨32,[],[(6,.val (.bool false))]⟩:Env) (Zx O n []) n) (fun z9=>JX 0 n (⟨32,[],[]⟩:Env) (Zx O n []) n))) (z:=z9) ?_ fun hw => ?_
 ·refine Xg hz9 (fun s0_=>⟨32,[],[(1,.sl a1.length (fl Zb a1)),(2,.fn 93 0 []),(15,.sl a0.length (fl Zb a0)),(16,.val (.int .i64 (a0.length:Int))),(17,.val (.int .i64 s0_))]⟩) (fun s0_=>(Zx O n [])) (Xw (fun z9=>JR n (⟨32,[],[(6,.val (.bool false))]⟩:Env) (Zx O n []) n) (fun z9=>JX 0 n (⟨32,[],[]⟩:Env) (Zx O n []) n)) ?_
  intro s0_ x0_ hs0_
  unfold Ya at hs0_
  try dsimp only
  refine Zr [1,2,15,16,17,18] (Zc Zd [] ?_)
  simp only [push_cast,seval,↓reduceIte,Za,hN0,hN]
  refine Zm ?_
  refine Zv (t:=(decide (s0_ < (a0.length:Int)))) rfl (fun c8 => ?_) (fun c8 => ?_)
  ·replace hs0_:=Zu c8 hs0_
   refine Zy ?_
   try simp only [Zk,Ze]
   refine Zl [1,2,15,16,17] [] ?_
   simp only [push_cast,seval,↓reduceIte]
   refine Zm ?_
   refine Ym ?_
   refine Zm ?_
   obtain ⟨x2,hx2,ax2,bx2,cx2,hs0_⟩:=bE (f:=Zb) Vm (fun _=>rfl) (by decide) hs0_
   refine Zc Zd [] ?_
   simp only [push_cast,Nat.reduceAdd,Nat.reduceSub,Nat.reduceMul,Nat.reduceLeDiff,Nat.reduceLT,Nat.reduceEqDiff,↓reduceIte,reduceCtorEq,Int.reduceBEq,Int.reduceBNe,Nat.reduceBEq,Int.reduceLE,Int.reduceLT,Int.reduceEq,Int.reduceNe,Int.reduceNeg,Nat.reduceDiv,Nat.reduceMod,Nat.reducePow,Za,ax2,bx2,cx2,hN0,hN]
   refine Zl [1,2,7,8,15,16,17] [true] ?_
   simp only [push_cast,seval,↓reduceIte]
   refine Zm ?_
   obtain ⟨x4,hx4,ax4,bx4,cx4,hs0_⟩:=bE (f:=Zb) Vm (fun _=>rfl) (by decide) hs0_
   refine Zc Zd [] ?_
   simp only [push_cast,Nat.reduceAdd,Nat.reduceSub,Nat.reduceMul,Nat.reduceLeDiff,Nat.reduceLT,Nat.reduceEqDiff,↓reduceIte,reduceCtorEq,Int.reduceBEq,Int.reduceBNe,Nat.reduceBEq,Int.reduceLE,Int.reduceLT,Int.reduceEq,Int.reduceNe,Int.reduceNeg,Nat.reduceDiv,Nat.reduceMod,Nat.reducePow,Za,ax4,bx4,cx4,hN0,hN]
   refine Zl [1,2,8,9,15,16,17] [true,true] ?_
   simp only [push_cast,seval,↓reduceIte]
   refine Zm ?_
   obtain ⟨y6,hy6,hs0_⟩:=bC hs0_
   refine Zc Zd [] ?_
   simp only [push_cast,seval,↓reduceIte,Za,hN0,hN]
   refine (Zis hy6).then ?_
   simp only [push_cast,seval,↓reduceIte,Za,hN0,hN]
   refine Zl [1,2,15,16,17,30] [false,false] ?_
   simp only [push_cast,seval,↓reduceIte]
   refine Zv (t:=(!y6)) rfl (fun c7 => ?_) (fun c7 => ?_)
   ·replace hs0_:=Zu c7 hs0_
    refine Zr [6] (Zc Zd [] ?_)
    simp only [push_cast,seval,↓reduceIte,Za,hN0,hN]
    refine Z4 ?_
    try simp only [Zk,Ze]
    have hs0_:=Option.some.inj hs0_;subst hs0_
    refine And.intro (fun h=>by cases h) (And.intro rfl (Fit2.of (Zj hU rfl rfl ?_) (by omega)))
    simp only [push_cast,seval,↓reduceIte,Za,hN0,hN]
   replace hs0_:=Zt c7 hs0_
   refine Zy ?_
   try simp only [Zk,Ze]
   refine Zl [1,2,15,16,17] [false,false] ?_
   simp only [push_cast,seval,↓reduceIte]
   refine Zc Zd [] ?_
   simp only [push_cast,seval,↓reduceIte,Za,hN0,hN]
   have hs0_:=Option.some.inj hs0_;subst hs0_
   refine And.intro rfl (Fit2.of (Zj hU rfl rfl ?_) (by omega))
   simp only [push_cast,seval,↓reduceIte,Za,hN0,hN]
  replace hs0_:=Zt c8 hs0_
  refine Xp ?_
  try simp only [Zk,Ze,↓reduceIte,Nat.reduceEqDiff]
  have hs0_:=Option.some.inj hs0_;subst hs0_
  refine And.intro (fun h=>by cases h) (And.intro rfl (Fit2.of (Zj hU rfl rfl ?_) (by omega)))
  simp only [push_cast,seval,↓reduceIte,Za,hN0,hN]
 rcases z9 with z9 | z9
 ·dsimp only [Xw] at hw h
  refine Jc hw ?_
  try simp only [Zk,Ze,↓reduceIte,Nat.reduceEqDiff]
  have h:=Option.some.inj h;subst h
  refine Zs (.inr rfl) hU [.val (.bool false)] (by omega) ?_
  simp only [push_cast,seval,↓reduceIte,Za,Try.results116,hN0,hN]
 dsimp only [Xw] at hw h
 refine Yx hw ?_
 try simp only [Zk,Ze,↓reduceIte,Nat.reduceEqDiff]
 refine Zl [] [] ?_
 simp only [push_cast,seval,↓reduceIte]
 refine Zr [6] (Zc Zd [] ?_)
 simp only [push_cast,seval,↓reduceIte,Za,hN0,hN]
 refine Z4 ?_
 try simp only [Zk,Ze]
 have h:=Option.some.inj h;subst h
 refine Zs (.inr rfl) hU [.val (.bool true)] (by omega) ?_
 simp only [push_cast,seval,↓reduceIte,Za,Try.results116,hN0,hN]
theorem Zhq:∀ k,(∀ {a0:S_api_Tree} {a1:S_api_Tree} {r:Bool} {O:Objs} {n:Nat},(Xq k).1 a0 a1=some r→GTo Try.prog 93 [.agg (Zf a0),.agg (Zf a1)] O n (.val (.bool r)) O n)∧(∀ {a0:(List S_api_Tree)} {a1:(List S_api_Tree)} {r:Bool} {O:Objs} {n:Nat},(Xq k).2 a0 a1=some r→GTo Try.prog 116 [.sl a0.length (fl Zb a0),.sl a1.length (fl Zb a1),.fn 93 0 []] O n (.val (.bool r)) O n):=fun k=>by
 induction k with
 | zero=>exact ⟨@fun a0 a1 r O n h=>(nomatch (show (none:Option _)=some _ from h)),@fun a0 a1 r O n h=>(nomatch (show (none:Option _)=some _ from h))⟩
 | succ k ih=>exact ⟨@fun a0 a1 r O n h=>Zqr (ih.1) (ih.2)  h,@fun a0 a1 r O n h=>J6 (ih.1) (ih.2)  h⟩
theorem Zsl {a0:S_api_Tree} {a1:S_api_Tree} {r:Bool} {O:Objs} {n:Nat} (h:Zib a0 a1=some r):GTo Try.prog 93 [.agg (Zf a0),.agg (Zf a1)] O n (.val (.bool r)) O n:=by
 obtain ⟨k,hk⟩:=Uh h
 exact (Zhq k).1  hk
theorem Kc {a0:(List S_api_Tree)} {a1:(List S_api_Tree)} {r:Bool} {O:Objs} {n:Nat} (h:Y9 a0 a1=some r):GTo Try.prog 116 [.sl a0.length (fl Zb a0),.sl a1.length (fl Zb a1),.fn 93 0 []] O n (.val (.bool r)) O n:=by
 obtain ⟨k,hk⟩:=Uh h
 exact (Zhq k).2  hk
theorem Gk {a0 r:List Int} {O:Objs} {n:Nat} (h:Vd a0=some r):GTo Try.prog 117 [.sl a0.length (fl (eI .u64) a0)] O n (.row n r.length) (Zx O n [some ⟨true,56,1,r.length,fl (eI .u64) r⟩]) (n+1):=by
 have h1:=Ztq h
 have h2:=Ztr h
 have h3:=Zov h
 rw [List.nil_append] at h3
 subst h3
 simp only [List.length_nil,Nat.zero_add] at h1 h2
 clear h
 refine Y8 Zd Try.call117 Try.func117 rfl (Nat.le_of_ble_eq_true rfl) (by omega) fun hU => ?_
 have hN0:O n=none:=hU.fresh _ (Nat.le_refl _)
 have hN:∀ k,O (n+k)=none:=fun k=>hU.fresh _ (Nat.le_add_right _ _)
 show W _ _ _ _ ⟨8,[],[(0,.sl r.length (fl (eI .u64) r))]⟩ (Zx O n []) _
 refine Zr [0] (Zc Zd [] ?_)
 simp only [push_cast,seval,↓reduceIte,Za,hN0,hN]
 refine Zye 0 r.length (fl (eI .u64) r) rfl (Nat.le_of_ble_eq_true rfl) (Yl Jz _) fun A c hA => ?_
 refine Zr [0,4] (Zc Zd [] ?_)
 simp only [push_cast,seval,↓reduceIte,Za,hN0,hN]
 cases A with
 | none =>
  obtain rfl:r=[]:=List.eq_nil_of_length_eq_zero (hA rfl)
  refine Zv (t:=true) rfl (fun _ => ?_) (fun hc=>by cases hc)
  refine Zr [2] (Zc Zd [] ?_)
  simp only [push_cast,seval,↓reduceIte,Za,hN0,hN]
  refine Z4 ?_
  try simp only [Zk,Ze]
  refine Zpz (k:=1) (L3:=[some ⟨true,56,1,0,[]⟩]) (E2:=⟨8,[],[(2,.row n 0),(2,.val (.slice none 0 0))]⟩) (n3:=(n+1)) (.inr rfl) hU rfl [.row n 0] ?_ ?_
  ·have ha:=Zm6 (ba:=n) (E:=⟨8,[],[(2,.val (.slice none 0 0))]⟩) (O:=(Zx O n [])) (n:=n) 2 56 1 rfl (by omega)
   simp only [Y2] at ha
   exact ha
  simp only [push_cast,seval,↓reduceIte,Za,Try.results117,hN0,hN]
 | some A =>
  refine Zv (t:=false) rfl (fun hc=>by cases hc) (fun _ => ?_)
  refine Zy ?_
  try simp only [Zk,Ze]
  refine And.intro rfl (And.intro (Nat.le_of_ble_eq_true rfl) ?_)
  refine Zm ?_
  refine Zc Zd [] ?_
  simp only [push_cast,seval,↓reduceIte,Za,h1,h2,hN0,hN]
  refine Z4 ?_
  try simp only [Zk,Ze]
  refine Zpy (.inr rfl) hU rfl [.row n r.length] (by omega) ?_
  simp only [push_cast,seval,↓reduceIte,Za,Try.results117,hN0,hN]
theorem Jn {a0 r:List S_api_Tree} {O:Objs} {n:Nat} (h:Jt a0=some r):GTo Try.prog 118 [.sl a0.length (fl Zb a0)] O n (.row n r.length) (Zx O n [some ⟨true,25,3,r.length,fl Zb r⟩]) (n+1):=by
 have h1:=Ztq h
 have h2:=Ztr h
 have h3:=Zov h
 rw [List.nil_append] at h3
 subst h3
 simp only [List.length_nil,Nat.zero_add] at h1 h2
 clear h
 refine Y8 Zd Try.call118 Try.func118 rfl (Nat.le_of_ble_eq_true rfl) (by omega) fun hU => ?_
 have hN0:O n=none:=hU.fresh _ (Nat.le_refl _)
 have hN:∀ k,O (n+k)=none:=fun k=>hU.fresh _ (Nat.le_add_right _ _)
 show W _ _ _ _ ⟨8,[],[(0,.sl r.length (fl Zb r))]⟩ (Zx O n []) _
 refine Zr [0] (Zc Zd [] ?_)
 simp only [push_cast,seval,↓reduceIte,Za,hN0,hN]
 refine Zye 0 r.length (fl Zb r) rfl (Nat.le_of_ble_eq_true rfl) (Yl Xb _) fun A c hA => ?_
 refine Zr [0,4] (Zc Zd [] ?_)
 simp only [push_cast,seval,↓reduceIte,Za,hN0,hN]
 cases A with
 | none =>
  obtain rfl:r=[]:=List.eq_nil_of_length_eq_zero (hA rfl)
  refine Zv (t:=true) rfl (fun _ => ?_) (fun hc=>by cases hc)
  refine Zr [2] (Zc Zd [] ?_)
  simp only [push_cast,seval,↓reduceIte,Za,hN0,hN]
  refine Z4 ?_
  try simp only [Zk,Ze]
  refine Zpz (k:=1) (L3:=[some ⟨true,25,3,0,[]⟩]) (E2:=⟨8,[],[(2,.row n 0),(2,.val (.slice none 0 0))]⟩) (n3:=(n+1)) (.inr rfl) hU rfl [.row n 0] ?_ ?_
  ·have ha:=Zm6 (ba:=n) (E:=⟨8,[],[(2,.val (.slice none 0 0))]⟩) (O:=(Zx O n [])) (n:=n) 2 25 3 rfl (by omega)
   simp only [Y2] at ha
   exact ha
  simp only [push_cast,seval,↓reduceIte,Za,Try.results118,hN0,hN]
 | some A =>
  refine Zv (t:=false) rfl (fun hc=>by cases hc) (fun _ => ?_)
  refine Zy ?_
  try simp only [Zk,Ze]
  refine And.intro rfl (And.intro (Nat.le_of_ble_eq_true rfl) ?_)
  refine Zm ?_
  refine Zc Zd [] ?_
  simp only [push_cast,seval,↓reduceIte,Za,h1,h2,hN0,hN]
  refine Z4 ?_
  try simp only [Zk,Ze]
  refine Zpy (.inr rfl) hU rfl [.row n r.length] (by omega) ?_
  simp only [push_cast,seval,↓reduceIte,Za,Try.results118,hN0,hN]
theorem Zuu {a0:S_api_Tree} {a1:Int} {r:Int} {O:Objs} {n:Nat} (h:Ze3 a0 a1=some r):GTo Try.prog 112 [.agg (Zf a0),.val (.int .i64 a1)] O n (.val (.int .u64 r)) O n:=by
 unfold Ze3 at h
 refine Y8 Zd Try.call112 Try.func112 rfl (Nat.le_of_ble_eq_true rfl) (Nat.le_refl _) fun hU => ?_
 have hN0:O n=none:=hU.fresh _ (Nat.le_refl _)
 have hN:∀ k,O (n+k)=none:=fun k=>hU.fresh _ (Nat.le_add_right _ _)
 show W _ _ _ _ ⟨19,[],[(0,.agg (Zf a0)),(1,.val (.int .i64 a1))]⟩ (Zx O n []) _
 refine Zr [1,2] (Zc Zd [] ?_)
 simp only [push_cast,seval,↓reduceIte,Za,hN0,hN]
 refine Zm ?_
 refine Zr [1,2,13] (Zc Zd [none,none,none,none,none] ?_)
 simp only [push_cast,seval,↓reduceIte,Za,hN0,hN]
 repeat (with_reducible refine And.intro (by first | (intro h0;simp only [h0,and_self];done) | (intro h0;simp only [h0,Bool.not_false,Bool.not_true,Bool.true_and,Bool.and_true,true_and,and_true,and_self,imp_self,implies_true,bne_iff_ne,ne_eq,beq_iff_eq];done) | (intros;simp_all;done) | exact True.intro) ?_)
 refine Zv (t:=(cond (decide (a1 < 0)) true (decide ((a0.Words.length:Int)≤a1)))) rfl (fun c3 => ?_) (fun c3 => ?_)
 ·replace h:=Zu c3 h
  refine Zr [4] (Zc Zd [] ?_)
  simp only [push_cast,seval,↓reduceIte,Za,hN0,hN]
  refine Z4 ?_
  try simp only [Zk,Ze]
  have h:=Option.some.inj h;subst h
  refine Zs (.inr rfl) hU [.val (.int .u64 0)] (by omega) ?_
  simp only [push_cast,seval,↓reduceIte,Za,Try.results112,hN0,hN]
 replace h:=Zt c3 h
 refine Zy ?_
 try simp only [Zk,Ze]
 refine Zl [1,2] [true] ?_
 simp only [push_cast,seval,↓reduceIte]
 obtain ⟨x2,hx2,ax2,bx2,cx2,h⟩:=bE (f:=(eI .u64)) Zg2 (fun _=>rfl) (by decide) h
 refine Zr [4] (Zc Zd [] ?_)
 simp only [push_cast,Nat.reduceAdd,Nat.reduceSub,Nat.reduceMul,Nat.reduceLeDiff,Nat.reduceLT,Nat.reduceEqDiff,↓reduceIte,reduceCtorEq,Int.reduceBEq,Int.reduceBNe,Nat.reduceBEq,Int.reduceLE,Int.reduceLT,Int.reduceEq,Int.reduceNe,Int.reduceNeg,Nat.reduceDiv,Nat.reduceMod,Nat.reducePow,Za,ax2,bx2,cx2,hN0,hN]
 refine Z4 ?_
 try simp only [Zk,Ze]
 have h:=Option.some.inj h;subst h
 refine Zs (.inr rfl) hU [.val (.int .u64 x2)] (by omega) ?_
 simp only [push_cast,seval,↓reduceIte,Za,Try.results112,hN0,hN]
theorem Zee {a0:Int} {r:Bool} {O:Objs} {n:Nat} (h:V6 a0=some r):GTo Try.prog 119 [.val (.int .i64 a0)] O n (.val (.bool r)) O n:=by
 unfold V6 at h
 refine Y8 Zd Try.call119 Try.func119 rfl (Nat.le_of_ble_eq_true rfl) (Nat.le_refl _) fun hU => ?_
 have hN0:O n=none:=hU.fresh _ (Nat.le_refl _)
 have hN:∀ k,O (n+k)=none:=fun k=>hU.fresh _ (Nat.le_add_right _ _)
 show W _ _ _ _ ⟨9,[],[(0,.val (.int .i64 a0))]⟩ (Zx O n []) _
 refine Zr [0] (Zc Zd [] ?_)
 simp only [push_cast,seval,↓reduceIte,Za,hN0,hN]
 refine Zr [2] (Zc Zd [none,none] ?_)
 simp only [push_cast,seval,↓reduceIte,Za,hN0,hN]
 repeat (with_reducible refine And.intro (by first | (intro h0;simp only [h0,and_self];done) | (intro h0;simp only [h0,Bool.not_false,Bool.not_true,Bool.true_and,Bool.and_true,true_and,and_true,and_self,imp_self,implies_true,bne_iff_ne,ne_eq,beq_iff_eq];done) | (intros;simp_all;done) | exact True.intro) ?_)
 refine Z4 ?_
 try simp only [Zk,Ze]
 have h:=Option.some.inj h;subst h
 refine Zs (.inr rfl) hU [.val (.bool (cond (decide (a0 < 0)) true (decide (65534 < a0))))] (by omega) ?_
 simp only [push_cast,seval,↓reduceIte,Za,Try.results119,hN0,hN]
theorem Zif {a0:Int} {r:Int} {O:Objs} {n:Nat} (h:Uo a0=some r):GTo Try.prog 72 [.val (.int .u8 a0)] O n (.val (.int .u64 r)) O n:=by
 unfold Uo at h
 refine Y8 Zd Try.call72 Try.func72 rfl (Nat.le_of_ble_eq_true rfl) (Nat.le_refl _) fun hU => ?_
 have hN0:O n=none:=hU.fresh _ (Nat.le_refl _)
 have hN:∀ k,O (n+k)=none:=fun k=>hU.fresh _ (Nat.le_add_right _ _)
 show W _ _ _ _ ⟨20,[],[(0,.val (.int .u8 a0))]⟩ (Zx O n []) _
 refine Zr [0] (Zc Zd [] ?_)
 simp only [push_cast,seval,↓reduceIte,Za,hN0,hN]
 refine Zr [0,3] (Zc Zd [] ?_)
 simp only [push_cast,seval,↓reduceIte,Za,hN0,hN]
 refine Zm ?_
 refine Zr [0,3,5] (Zc Zd [] ?_)
 simp only [push_cast,seval,↓reduceIte,Za,hN0,hN]
 refine Zl [0,3,5] [] ?_
 simp only [push_cast,seval,↓reduceIte]
 obtain ⟨z7,hz7,h⟩:=bC h
 refine Yx (E':=⟨20,[],[(3,.val (.int .u64 z7))]⟩) (O':=(Zx O n [])) (n0:=n) ?_ ?_
 ·refine Xg hz7 (fun s0_=>⟨20,[],[(0,.val (.int .u8 a0)),(3,.val (.int .u64 s0_.1)),(5,.val (.int .i64 s0_.2))]⟩) (fun s0_=>(Zx O n [])) (fun z7=>JX 0 n (⟨20,[],[(3,.val (.int .u64 z7))]⟩:Env) (Zx O n []) n) ?_
  intro s0_ x0_ hs0_
  unfold Zbh at hs0_
  try dsimp only
  refine Zr [0,3,5,6] (Zc Zd [] ?_)
  simp only [push_cast,seval,↓reduceIte,Za,hN0,hN]
  refine Zm ?_
  refine Zv (t:=(decide (s0_.2 < 8))) rfl (fun c6 => ?_) (fun c6 => ?_)
  ·replace hs0_:=Zu c6 hs0_
   refine Zy ?_
   try simp only [Zk,Ze]
   refine Zl [0,3,5] [] ?_
   simp only [push_cast,seval,↓reduceIte]
   obtain ⟨z1,hz1,hs0_⟩:=bC hs0_
   refine Y6 (E':=⟨20,[],[(0,.val (.int .u8 a0)),(3,.val (.int .u64 z1)),(5,.val (.int .i64 s0_.2))]⟩) (O':=(Zx O n [])) (n0:=n) ?_ ?_
   ·refine Ym ?_
    refine Zr [0,3,4,5] (Zc Zd [] ?_)
    simp only [push_cast,seval,↓reduceIte,Za,hN0,hN]
    obtain ⟨pu3,hz1⟩:=bG hz1
    refine Zr [0,3,4,5,12] (Zc Zd [] ?_)
    simp only [push_cast,seval,↓reduceIte,Za,pu3,hN0,hN]
    refine Zv (t:=((IntKind.u8.wrap (Zc7 .u8 (Int.fdiv a0 (2 ^ min (Int.toNat s0_.2) 8)) 1)) == 1)) rfl (fun c5 => ?_) (fun c5 => ?_)
    ·replace hz1:=Zu c5 hz1
     obtain ⟨pu4,hz1⟩:=bG hz1
     refine Zc Zd [] ?_
     simp only [push_cast,seval,↓reduceIte,Za,pu4,hN0,hN]
     have hz1:=Option.some.inj hz1;subst hz1
     refine And.intro rfl (Fit2.of (Zj hU rfl rfl ?_) (by omega))
     simp only [push_cast,seval,↓reduceIte,Za,pu4,hN0,hN]
    replace hz1:=Zt c5 hz1
    refine Zy ?_
    try simp only [Zk,Ze]
    have hz1:=Option.some.inj hz1;subst hz1
    refine And.intro rfl (Fit2.of (Zj hU rfl rfl ?_) (by omega))
    simp only [push_cast,seval,↓reduceIte,Za,hN0,hN]
   refine Zc Zd [] ?_
   simp only [push_cast,seval,↓reduceIte,Za,hN0,hN]
   have hs0_:=Option.some.inj hs0_;subst hs0_
   refine And.intro rfl (Fit2.of (Zj hU rfl rfl ?_) (by omega))
   simp only [push_cast,seval,↓reduceIte,Za,hN0,hN]
  replace hs0_:=Zt c6 hs0_
  refine Xp ?_
  try simp only [Zk,Ze,↓reduceIte,Nat.reduceEqDiff]
  have hs0_:=Option.some.inj hs0_;subst hs0_
  refine And.intro (fun h=>by cases h) (And.intro rfl (Fit2.of (Zj hU rfl rfl ?_) (by omega)))
  simp only [push_cast,seval,↓reduceIte,Za,hN0,hN]
 try simp only [Zk,Ze,↓reduceIte,Nat.reduceEqDiff]
 refine Zl [3] [] ?_
 simp only [push_cast,seval,↓reduceIte]
 refine Zr [2] (Zc Zd [] ?_)
 simp only [push_cast,seval,↓reduceIte,Za,hN0,hN]
 refine Z4 ?_
 try simp only [Zk,Ze]
 have h:=Option.some.inj h;subst h
 refine Zs (.inr rfl) hU [.val (.int .u64 z7)] (by omega) ?_
 simp only [push_cast,seval,↓reduceIte,Za,Try.results72,hN0,hN]
theorem Zxl {a0:Int} {a1:Int} {a2:Int} {r:Int} {O:Objs} {n:Nat} (h:Zed a0 a1 a2=some r):GTo Try.prog 73 [.val (.int .u64 a0),.val (.int .u64 a1),.val (.int .u8 a2)] O n (.val (.int .u64 r)) O n:=by
 unfold Zed at h
 refine Y8 Zd Try.call73 Try.func73 rfl (Nat.le_of_ble_eq_true rfl) (Nat.le_refl _) fun hU => ?_
 have hN0:O n=none:=hU.fresh _ (Nat.le_refl _)
 have hN:∀ k,O (n+k)=none:=fun k=>hU.fresh _ (Nat.le_add_right _ _)
 show W _ _ _ _ ⟨17,[],[(0,.val (.int .u64 a0)),(1,.val (.int .u64 a1)),(2,.val (.int .u8 a2))]⟩ (Zx O n []) _
 refine Zr [0,1,2] (Zc Zd [] ?_)
 simp only [push_cast,seval,↓reduceIte,Za,hN0,hN]
 refine Zm ?_
 obtain ⟨y2,hy2,h⟩:=bC h
 refine Zc Zd [] ?_
 simp only [push_cast,seval,↓reduceIte,Za,hN0,hN]
 refine (Zif hy2).then ?_
 simp only [push_cast,seval,↓reduceIte,Za,hN0,hN]
 refine Zl [0,1,7] [] ?_
 simp only [push_cast,seval,↓reduceIte]
 refine Zr [6] (Zc Zd [] ?_)
 simp only [push_cast,seval,↓reduceIte,Za,hN0,hN]
 refine Z4 ?_
 try simp only [Zk,Ze]
 have h:=Option.some.inj h;subst h
 refine Zs (.inr rfl) hU [.val (.int .u64 (IntKind.u64.wrap (Zqg .u64 (IntKind.u64.wrap (Zs6 .u64 a0 y2)) (IntKind.u64.wrap (Zc7 .u64 a1 y2)))))] (by omega) ?_
 simp only [push_cast,seval,↓reduceIte,Za,Try.results73,hN0,hN]
theorem Zno {a0:S_api_Tree} {a1:Int} {a2:Int} {r:S_api_Tree} {O:Objs} {n:Nat} {i0 j0_0 j0_1:Nat} (hi0:i0 < n) (Vl:j0_0 < n) (Zey:j0_1 < n) (Q4:i0≠j0_0) (Vx:i0≠j0_1) (Vw:j0_0≠j0_1) (ho0:O i0=some ⟨false,25,3,1,[.val (.int .i64 a0.Kind),.row j0_1 a0.Words.length,.row j0_0 a0.Kids.length]⟩) (Vy:O j0_0=some ⟨true,25,3,a0.Kids.length,fl Zb a0.Kids⟩) (Zfx:O j0_1=some ⟨true,56,1,a0.Words.length,fl (eI .u64) a0.Words⟩) (h:Zaf a0 a1 a2=some r):GTo Try.prog 120 [.ref i0 0,.val (.int .i64 a1),.val (.int .u64 a2)] O n (.tup []) (Zx (((O.upd j0_0 none).upd j0_1 none).upd i0 (some ⟨false,25,3,1,[.val (.int .i64 r.Kind),.row (n+1) r.Words.length,.row n r.Kids.length]⟩)) n [some ⟨true,25,3,r.Kids.length,fl Zb r.Kids⟩,some ⟨true,56,1,r.Words.length,fl (eI .u64) r.Words⟩]) (n+2):=by
 unfold Zaf at h
 refine Y8 Zd Try.call120 Try.func120 rfl (Nat.le_of_ble_eq_true rfl) (by omega) fun hU => ?_
 have e0:=Jj (ba:=n) (E:=⟨40,[],Zd4 0 [.ref i0 0,.val (.int .i64 a1),.val (.int .u64 a2)]⟩) (O:=(Zx O n [])) (n:=n) (i:=i0) (j:=j0_0) (k:=2) (len:=a0.Kids.length) (q:=⟨false,25,3,1,[.val (.int .i64 a0.Kind),.row j0_1 a0.Words.length,.row j0_0 a0.Kids.length]⟩) (qj:=⟨true,25,3,a0.Kids.length,fl Zb a0.Kids⟩) (by rw [Yo _ hi0];first | exact ho0 | exact Yh _ _ _) rfl (by rw [Yo _ Vl];exact Vy) Q4 (by omega)
 simp only [Yu _ _ Vl,Yu _ _ hi0,Xj,Y2,X9,Gh Q4,List.set_cons_zero,List.set_cons_succ,List.cons_append,List.nil_append,List.length_cons,List.length_nil,Nat.zero_add,Nat.reduceAdd,Nat.add_assoc] at e0
 refine Ku e0 ?_
 have e1:=Jj (ba:=n) (E:=⟨40,[],Zd4 0 [.ref i0 0,.val (.int .i64 a1),.val (.int .u64 a2)]⟩) (O:=(Zx ((O.upd j0_0 none).upd i0 (some ⟨false,25,3,1,[.val (.int .i64 a0.Kind),.row j0_1 a0.Words.length,.row n a0.Kids.length]⟩)) n [some ⟨true,25,3,a0.Kids.length,fl Zb a0.Kids⟩])) (n:=(n+1)) (i:=i0) (j:=j0_1) (k:=1) (len:=a0.Words.length) (q:=⟨false,25,3,1,[.val (.int .i64 a0.Kind),.row j0_1 a0.Words.length,.row n a0.Kids.length]⟩) (qj:=⟨true,56,1,a0.Words.length,fl (eI .u64) a0.Words⟩) (by rw [Yo _ hi0];first | exact ho0 | exact Yh _ _ _) rfl (by rw [Yo _ Zey,Y3 _ _ (Ne.symm Vx),Y3 _ _ (Ne.symm Vw)];exact Zfx) Vx (by omega)
 simp only [Yu _ _ Zey,Yu _ _ hi0,Xj,Y2,X9,Gh Vx,List.set_cons_zero,List.set_cons_succ,List.cons_append,List.nil_append,List.length_cons,List.length_nil,Nat.zero_add,Nat.reduceAdd,Nat.add_assoc] at e1
 refine Ku e1 ?_
 have hU:=(Und.drop (Und.drop hU j0_0) j0_1)
 have hk0:∀ k,i0 < n+k:=fun k=>by omega
 have hN0:∀ o,Objs.upd ((O.upd j0_0 none).upd j0_1 none) i0 o n=none:=fun o=>Q3 hU hi0 _ (Nat.le_refl _)
 have hN:∀ o k,Objs.upd ((O.upd j0_0 none).upd j0_1 none) i0 o (n+k)=none:=fun o k=>Q3 hU hi0 _ (Nat.le_add_right _ _)
 show W _ _ _ _ ⟨40,[],[(0,.ref i0 0),(1,.val (.int .i64 a1)),(2,.val (.int .u64 a2))]⟩ (Zx (((O.upd j0_0 none).upd j0_1 none).upd i0 (some ⟨false,25,3,1,[.val (.int .i64 a0.Kind),.row (n+1) a0.Words.length,.row n a0.Kids.length]⟩)) n [some ⟨true,25,3,a0.Kids.length,fl Zb a0.Kids⟩,some ⟨true,56,1,a0.Words.length,fl (eI .u64) a0.Words⟩]) _
 refine Zm ?_
 refine Zl [0,1,2] [true,true] ?_
 simp only [push_cast,seval,↓reduceIte]
 obtain ⟨z3,hz3,h⟩:=bC h
 refine Yx (E':=⟨40,[],[(0,.ref i0 0),(1,.val (.int .i64 a1)),(2,.val (.int .u64 a2))]⟩) (O':=(Zx (((O.upd j0_0 none).upd j0_1 none).upd i0 (some ⟨false,25,3,1,[.val (.int .i64 a0.Kind),.row (n+1) z3.length,.row n a0.Kids.length]⟩)) n [some ⟨true,25,3,a0.Kids.length,fl Zb a0.Kids⟩,some ⟨true,56,1,z3.length,fl (eI .u64) z3⟩])) (n0:=(n+2)) ?_ ?_
 ·refine Xg hz3 (fun s0_=>⟨40,[],[(0,.ref i0 0),(1,.val (.int .i64 a1)),(2,.val (.int .u64 a2))]⟩) (fun s0_=>(Zx (((O.upd j0_0 none).upd j0_1 none).upd i0 (some ⟨false,25,3,1,[.val (.int .i64 a0.Kind),.row (n+1) s0_.length,.row n a0.Kids.length]⟩)) n [some ⟨true,25,3,a0.Kids.length,fl Zb a0.Kids⟩,some ⟨true,56,1,s0_.length,fl (eI .u64) s0_⟩])) (fun z3=>JX 0 n (⟨40,[],[(0,.ref i0 0),(1,.val (.int .i64 a1)),(2,.val (.int .u64 a2))]⟩:Env) (Zx (((O.upd j0_0 none).upd j0_1 none).upd i0 (some ⟨false,25,3,1,[.val (.int .i64 a0.Kind),.row (n+1) z3.length,.row n a0.Kids.length]⟩)) n [some ⟨true,25,3,a0.Kids.length,fl Zb a0.Kids⟩,some ⟨true,56,1,z3.length,fl (eI .u64) z3⟩]) (n+2)) ?_
  intro s0_ x0_ hs0_
  unfold Vz at hs0_
  try dsimp only
  refine Zm ?_
  refine Zr [0,1,2,16] (Zc Zd [none,none] ?_)
  simp only [push_cast,seval,↓reduceIte,Za,hi0,hk0,hN0,hN]
  repeat (with_reducible refine And.intro (by first | (intro h0;simp only [h0,and_self];done) | (intro h0;simp only [h0,Bool.not_false,Bool.not_true,Bool.true_and,Bool.and_true,true_and,and_true,and_self,imp_self,implies_true,bne_iff_ne,ne_eq,beq_iff_eq];done) | (intros;simp_all;done) | exact True.intro) ?_)
  refine Zv (t:=(cond (decide ((s0_.length:Int)≤a1)) (a2 != 0) false)) rfl (fun c2 => ?_) (fun c2 => ?_)
  ·replace hs0_:=Zu c2 hs0_
   refine Zy ?_
   try simp only [Zk,Ze]
   refine Zl [0,1,2] [true,true] ?_
   simp only [push_cast,seval,↓reduceIte]
   refine Ym ?_
   obtain ⟨l1,pl1,ql1,el1,hs0_⟩:=bA (k:=1) rfl hs0_
   refine Zc Zd [] ?_
   simp only [push_cast,seval,↓reduceIte,Za,pl1,ql1,el1,hi0,hk0,hN0,hN]
   have hs0_:=Option.some.inj hs0_;subst hs0_
   refine And.intro rfl (Fit2.of (Yg hU rfl rfl ?_) (by omega))
   simp only [push_cast,seval,↓reduceIte,Za,pl1,ql1,el1,hi0,hk0,hN0,hN]
  replace hs0_:=Zt c2 hs0_
  refine Xp ?_
  try simp only [Zk,Ze,↓reduceIte,Nat.reduceEqDiff]
  have hs0_:=Option.some.inj hs0_;subst hs0_
  refine And.intro (fun h=>by cases h) (And.intro rfl (Fit2.of (Yg hU rfl rfl ?_) (by omega)))
  simp only [push_cast,seval,↓reduceIte,Za,hi0,hk0,hN0,hN]
 try simp only [Zk,Ze,↓reduceIte,Nat.reduceEqDiff]
 refine Zl [0,1,2] [true,true] ?_
 simp only [push_cast,seval,↓reduceIte]
 refine Zr [0,1,2,32] (Zc Zd [] ?_)
 simp only [push_cast,seval,↓reduceIte,Za,hi0,hk0,hN0,hN]
 refine Zv (t:=(decide (a1 < (z3.length:Int)))) rfl (fun c6 => ?_) (fun c6 => ?_)
 ·replace h:=Zu c6 h
  obtain ⟨x4,hx4,ax4,bx4,cx4,h⟩:=bE (f:=(eI .u64)) Zg2 (fun _=>rfl) (by decide) h
  have gu5:Js (fl (eI .u64) z3) [.val (.int .u64 a2)] (Int.toNat a1 * 1)=some (fl (eI .u64) (Zc4 z3 a1 a2)):=Zhn (f:=(eI .u64)) (ti:=⟨.bool,1,0,[],false⟩) (x:=a2) (fun _=>rfl) (Zdo hx4)
  refine Zc Zd [] ?_
  simp only [push_cast,Nat.reduceAdd,Nat.reduceSub,Nat.reduceMul,Nat.reduceLeDiff,Nat.reduceLT,Nat.reduceEqDiff,↓reduceIte,reduceCtorEq,Int.reduceBEq,Int.reduceBNe,Nat.reduceBEq,Int.reduceLE,Int.reduceLT,Int.reduceEq,Int.reduceNe,Int.reduceNeg,Nat.reduceDiv,Nat.reduceMod,Nat.reducePow,Za,ax4,bx4,cx4,gu5,hi0,hk0,hN0,hN]
  have h:=Option.some.inj h;subst h
  refine Jr (k:=2) (i:=i0) (q1:=⟨false,25,3,1,[.val (.int .i64 a0.Kind),.row (n+1) (Zc4 z3 a1 a2).length,.row n a0.Kids.length]⟩) (L3:=[some ⟨true,25,3,a0.Kids.length,fl Zb a0.Kids⟩,some ⟨true,56,1,(Zc4 z3 a1 a2).length,fl (eI .u64) (Zc4 z3 a1 a2)⟩,none]) (E2:=(⟨40,[],[]⟩:Env)) (n3:=(n+3)) (.inl rfl) hU rfl [] ?_ ?_
  ·refine Fit2.trans (E':=(⟨40,[],[]⟩:Env)) (O':=(Zx (((O.upd j0_0 none).upd j0_1 none).upd i0 (some ⟨false,25,3,1,[.val (.int .i64 a0.Kind),.row (n+1) (Zc4 z3 a1 a2).length,.row n a0.Kids.length]⟩)) n [some ⟨true,25,3,a0.Kids.length,fl Zb a0.Kids⟩,some ⟨true,56,1,(Zc4 z3 a1 a2).length,fl (eI .u64) (Zc4 z3 a1 a2)⟩])) (n':=(n+2)) (Fit2.of (Yg hU rfl rfl ?_) (by omega)) ?_
   ·simp only [push_cast,Nat.reduceAdd,Nat.reduceSub,Nat.reduceMul,Nat.reduceLeDiff,Nat.reduceLT,Nat.reduceEqDiff,↓reduceIte,reduceCtorEq,Int.reduceBEq,Int.reduceBNe,Nat.reduceBEq,Int.reduceLE,Int.reduceLT,Int.reduceEq,Int.reduceNe,Int.reduceNeg,Nat.reduceDiv,Nat.reduceMod,Nat.reducePow,Za,ax4,bx4,cx4,gu5,hi0,hk0,hN0,hN]
   refine X8 (k:=2) (k':=3) hU [0,1] [0,1,0] rfl rfl rfl rfl ⟨rfl,rfl⟩ ?_
   simp only [push_cast,seval,↓reduceIte,Za,hi0,hk0,hN0,hN]
  simp only [push_cast,seval,↓reduceIte,Za,Try.results120,hi0,hk0,hN0,hN]
 replace h:=Zt c6 h
 refine Zy ?_
 try simp only [Zk,Ze]
 have h:=Option.some.inj h;subst h
 refine Jr (k:=2) (i:=i0) (q1:=⟨false,25,3,1,[.val (.int .i64 a0.Kind),.row (n+1) z3.length,.row n a0.Kids.length]⟩) (L3:=[some ⟨true,25,3,a0.Kids.length,fl Zb a0.Kids⟩,some ⟨true,56,1,z3.length,fl (eI .u64) z3⟩,none]) (E2:=(⟨40,[],[]⟩:Env)) (n3:=(n+3)) (.inl rfl) hU rfl [] ?_ ?_
 ·refine Fit2.trans (E':=(⟨40,[],[]⟩:Env)) (O':=(Zx (((O.upd j0_0 none).upd j0_1 none).upd i0 (some ⟨false,25,3,1,[.val (.int .i64 a0.Kind),.row (n+1) z3.length,.row n a0.Kids.length]⟩)) n [some ⟨true,25,3,a0.Kids.length,fl Zb a0.Kids⟩,some ⟨true,56,1,z3.length,fl (eI .u64) z3⟩])) (n':=(n+2)) (Fit2.of (Yg hU rfl rfl ?_) (by omega)) ?_
  ·simp only [push_cast,seval,↓reduceIte,Za,hi0,hk0,hN0,hN]
  refine X8 (k:=2) (k':=3) hU [0,1] [0,1,0] rfl rfl rfl rfl ⟨rfl,rfl⟩ ?_
  simp only [push_cast,seval,↓reduceIte,Za,hi0,hk0,hN0,hN]
 simp only [push_cast,seval,↓reduceIte,Za,Try.results120,hi0,hk0,hN0,hN]
theorem Zoh {a0:S_api_Tree} {a1:Int} {r:S_api_Tree} {O:Objs} {n:Nat} (h:Zf0 a0 a1=some r):GTo Try.prog 111 [.agg (Zf a0),.val (.int .i64 a1)] O n (.agg (Zf r)) O n:=by
 unfold Zf0 at h
 refine Y8 Zd Try.call111 Try.func111 rfl (Nat.le_of_ble_eq_true rfl) (Nat.le_refl _) fun hU => ?_
 have hN0:O n=none:=hU.fresh _ (Nat.le_refl _)
 have hN:∀ k,O (n+k)=none:=fun k=>hU.fresh _ (Nat.le_add_right _ _)
 show W _ _ _ _ ⟨20,[],[(0,.agg (Zf a0)),(1,.val (.int .i64 a1))]⟩ (Zx O n []) _
 refine Zr [1,2,4] (Zc Zd [] ?_)
 simp only [push_cast,seval,↓reduceIte,Za,hN0,hN]
 refine Zm ?_
 refine Zr [1,2,4,13] (Zc Zd [none,none,none,none,none] ?_)
 simp only [push_cast,seval,↓reduceIte,Za,hN0,hN]
 repeat (with_reducible refine And.intro (by first | (intro h0;simp only [h0,and_self];done) | (intro h0;simp only [h0,Bool.not_false,Bool.not_true,Bool.true_and,Bool.and_true,true_and,and_true,and_self,imp_self,implies_true,bne_iff_ne,ne_eq,beq_iff_eq];done) | (intros;simp_all;done) | exact True.intro) ?_)
 refine Zv (t:=(cond (decide (a1 < 0)) true (decide ((a0.Kids.length:Int)≤a1)))) rfl (fun c3 => ?_) (fun c3 => ?_)
 ·replace h:=Zu c3 h
  refine Zm ?_
  refine Zc Zd [] ?_
  simp only [push_cast,seval,↓reduceIte,Za,hN0,hN]
  refine Zl [4] [false,true] ?_
  simp only [push_cast,seval,↓reduceIte]
  refine Z4 ?_
  try simp only [Zk,Ze]
  have h:=Option.some.inj h;subst h
  refine Zs (.inr rfl) hU [.agg [.val (.int .i64 0),.val (.slice none 0 0),.val (.slice none 0 0)]] (by omega) ?_
  simp only [push_cast,seval,↓reduceIte,Za,Try.results111,hN0,hN]
 replace h:=Zt c3 h
 refine Zy ?_
 try simp only [Zk,Ze]
 refine Zl [1,2,4] [true,true] ?_
 simp only [push_cast,seval,↓reduceIte]
 refine Zm ?_
 obtain ⟨x2,hx2,ax2,bx2,cx2,h⟩:=bE (f:=Zb) Vm (fun _=>rfl) (by decide) h
 refine Zc Zd [] ?_
 simp only [push_cast,Nat.reduceAdd,Nat.reduceSub,Nat.reduceMul,Nat.reduceLeDiff,Nat.reduceLT,Nat.reduceEqDiff,↓reduceIte,reduceCtorEq,Int.reduceBEq,Int.reduceBNe,Nat.reduceBEq,Int.reduceLE,Int.reduceLT,Int.reduceEq,Int.reduceNe,Int.reduceNeg,Nat.reduceDiv,Nat.reduceMod,Nat.reducePow,Za,ax2,bx2,cx2,hN0,hN]
 refine Zl [4] [false,true] ?_
 simp only [push_cast,seval,↓reduceIte]
 refine Z4 ?_
 try simp only [Zk,Ze]
 have h:=Option.some.inj h;subst h
 refine Zs (.inr rfl) hU [.agg (Zf x2)] (by omega) ?_
 simp only [push_cast,seval,↓reduceIte,Za,Try.results111,hN0,hN]
theorem Zoo {a0:S_api_Tree} {a1:Int} {a2:S_api_Tree} {r:S_api_Tree} {O:Objs} {n:Nat} {i0 j0_0:Nat} (hi0:i0 < n) (Vl:j0_0 < n) (Q4:i0≠j0_0) (ho0:O i0=some ⟨false,25,3,1,[.val (.int .i64 a0.Kind),.sl a0.Words.length (fl (eI .u64) a0.Words),.row j0_0 a0.Kids.length]⟩) (Vy:O j0_0=some ⟨true,25,3,a0.Kids.length,fl Zb a0.Kids⟩) (h:Zbe a0 a1 a2=some r):GTo Try.prog 121 [.ref i0 0,.val (.int .i64 a1),.agg (Zf a2)] O n (.tup []) (Zx ((O.upd j0_0 none).upd i0 (some ⟨false,25,3,1,[.val (.int .i64 r.Kind),.sl r.Words.length (fl (eI .u64) r.Words),.row n r.Kids.length]⟩)) n [some ⟨true,25,3,r.Kids.length,fl Zb r.Kids⟩]) (n+1):=by
 unfold Zbe at h
 refine Y8 Zd Try.call121 Try.func121 rfl (Nat.le_of_ble_eq_true rfl) (by omega) fun hU => ?_
 have e0:=Jj (ba:=n) (E:=⟨43,[],Zd4 0 [.ref i0 0,.val (.int .i64 a1),.agg [.val (.int .i64 a2.Kind),.sl a2.Words.length (fl (eI .u64) a2.Words),.sl a2.Kids.length (fl Zb a2.Kids)]]⟩) (O:=(Zx O n [])) (n:=n) (i:=i0) (j:=j0_0) (k:=2) (len:=a0.Kids.length) (q:=⟨false,25,3,1,[.val (.int .i64 a0.Kind),.sl a0.Words.length (fl (eI .u64) a0.Words),.row j0_0 a0.Kids.length]⟩) (qj:=⟨true,25,3,a0.Kids.length,fl Zb a0.Kids⟩) (by rw [Yo _ hi0];first | exact ho0 | exact Yh _ _ _) rfl (by rw [Yo _ Vl];exact Vy) Q4 (by omega)
 simp only [Yu _ _ Vl,Yu _ _ hi0,Xj,Y2,X9,Gh Q4,List.set_cons_zero,List.set_cons_succ,List.cons_append,List.nil_append,List.length_cons,List.length_nil,Nat.zero_add,Nat.reduceAdd,Nat.add_assoc] at e0
 refine Ku e0 ?_
 have hU:=(Und.drop hU j0_0)
 have hk0:∀ k,i0 < n+k:=fun k=>by omega
 have hN0:∀ o,Objs.upd (O.upd j0_0 none) i0 o n=none:=fun o=>Q3 hU hi0 _ (Nat.le_refl _)
 have hN:∀ o k,Objs.upd (O.upd j0_0 none) i0 o (n+k)=none:=fun o k=>Q3 hU hi0 _ (Nat.le_add_right _ _)
 show W _ _ _ _ ⟨43,[],[(0,.ref i0 0),(1,.val (.int .i64 a1)),(2,.agg (Zf a2))]⟩ (Zx ((O.upd j0_0 none).upd i0 (some ⟨false,25,3,1,[.val (.int .i64 a0.Kind),.sl a0.Words.length (fl (eI .u64) a0.Words),.row n a0.Kids.length]⟩)) n [some ⟨true,25,3,a0.Kids.length,fl Zb a0.Kids⟩]) _
 refine Zr [0,1,5] (Zc Zd [] ?_)
 simp only [push_cast,seval,↓reduceIte,Za,hi0,hk0,hN0,hN]
 refine Zm ?_
 refine Zl [0,1,5] [true,true] ?_
 simp only [push_cast,seval,↓reduceIte]
 obtain ⟨z5,hz5,h⟩:=bC h
 refine Yx (E':=⟨43,[],[(0,.ref i0 0),(1,.val (.int .i64 a1)),(5,.ref (n+1) 0)]⟩) (O':=(Zx ((O.upd j0_0 none).upd i0 (some ⟨false,25,3,1,[.val (.int .i64 a0.Kind),.sl a0.Words.length (fl (eI .u64) a0.Words),.row n z5.length]⟩)) n [some ⟨true,25,3,z5.length,fl Zb z5⟩,some ⟨false,25,3,1,(Zf a2)⟩])) (n0:=(n+2)) ?_ ?_
 ·refine Xg hz5 (fun s0_=>⟨43,[],[(0,.ref i0 0),(1,.val (.int .i64 a1)),(5,.ref (n+1) 0)]⟩) (fun s0_=>(Zx ((O.upd j0_0 none).upd i0 (some ⟨false,25,3,1,[.val (.int .i64 a0.Kind),.sl a0.Words.length (fl (eI .u64) a0.Words),.row n s0_.length]⟩)) n [some ⟨true,25,3,s0_.length,fl Zb s0_⟩,some ⟨false,25,3,1,(Zf a2)⟩])) (fun z5=>JX 0 n (⟨43,[],[(0,.ref i0 0),(1,.val (.int .i64 a1)),(5,.ref (n+1) 0)]⟩:Env) (Zx ((O.upd j0_0 none).upd i0 (some ⟨false,25,3,1,[.val (.int .i64 a0.Kind),.sl a0.Words.length (fl (eI .u64) a0.Words),.row n z5.length]⟩)) n [some ⟨true,25,3,z5.length,fl Zb z5⟩,some ⟨false,25,3,1,(Zf a2)⟩]) (n+2)) ?_
  intro s0_ x0_ hs0_
  unfold Ui at hs0_
  try dsimp only
  refine Zm ?_
  refine Zr [0,1,5,17] (Zc Zd [none,none,none] ?_)
  simp only [push_cast,seval,↓reduceIte,Za,hi0,hk0,hN0,hN]
  repeat (with_reducible refine And.intro (by first | (intro h0;simp only [h0,and_self];done) | (intro h0;simp only [h0,Bool.not_false,Bool.not_true,Bool.true_and,Bool.and_true,true_and,and_true,and_self,imp_self,implies_true,bne_iff_ne,ne_eq,beq_iff_eq];done) | (intros;simp_all;done) | exact True.intro) ?_)
  refine Zv (t:=(cond (decide ((s0_.length:Int)≤a1)) (a2.Kind != 0) false)) rfl (fun c4 => ?_) (fun c4 => ?_)
  ·replace hs0_:=Zu c4 hs0_
   refine Zy ?_
   try simp only [Zk,Ze]
   refine Zl [0,1,5] [true,true] ?_
   simp only [push_cast,seval,↓reduceIte]
   refine Ym ?_
   obtain ⟨l1,pl1,ql1,el1,hs0_⟩:=bA (k:=1) rfl hs0_
   obtain ⟨x2,hx2,ax2,bx2,cx2,hs0_⟩:=bE (f:=Zb) Vm (fun _=>rfl) (by decide) hs0_
   have gu3:Js (fl Zb s0_++[.val (.int .i64 0),.val (.slice none 0 0),.val (.slice none 0 0)]) [.val (.int .i64 0),.val (.slice none 0 0),.val (.slice none 0 0)] (List.length s0_ * 3)=some (fl Zb s0_++[.val (.int .i64 0),.val (.slice none 0 0),.val (.slice none 0 0)]):=Gi (f:=Zb) (sz:=3) (fun _=>rfl) rfl rfl
   refine Zcs Zd (by kernel_rfl) [.low,.low,.low,.low,.low,.low,.pass,.bar,.shp,.fill true,.shp,.shp,.fill false] (fun i=>i < (n+2)) [0,1,2,3,4,5,6,7,8,9,10,11,12] [.low,.low,.low,.low,.low,.low,.pass,.bar,.shp,.fill true,.shp,.shp,.fill false] [] (by kernel_rfl) rfl ?_
   simp only [push_cast,Nat.reduceAdd,Nat.reduceSub,Nat.reduceMul,Nat.reduceLeDiff,Nat.reduceLT,Nat.reduceEqDiff,↓reduceIte,reduceCtorEq,Int.reduceBEq,Int.reduceBNe,Nat.reduceBEq,Int.reduceLE,Int.reduceLT,Int.reduceEq,Int.reduceNe,Int.reduceNeg,Nat.reduceDiv,Nat.reduceMod,Nat.reducePow,Za,pl1,ql1,el1,ax2,bx2,cx2,gu3,hi0,hk0,hN0,hN]
   repeat (with_reducible refine And.intro (by first | omega | exact Xe rfl | exact Y0 | exact J7 rfl rfl) ?_)
   have hs0_:=Option.some.inj hs0_;subst hs0_
   refine And.intro rfl (Fit2.of (Yg hU rfl rfl ?_) (by omega))
   simp only [push_cast,Nat.reduceAdd,Nat.reduceSub,Nat.reduceMul,Nat.reduceLeDiff,Nat.reduceLT,Nat.reduceEqDiff,↓reduceIte,reduceCtorEq,Int.reduceBEq,Int.reduceBNe,Nat.reduceBEq,Int.reduceLE,Int.reduceLT,Int.reduceEq,Int.reduceNe,Int.reduceNeg,Nat.reduceDiv,Nat.reduceMod,Nat.reducePow,Za,pl1,ql1,el1,ax2,bx2,cx2,gu3,hi0,hk0,hN0,hN]
  replace hs0_:=Zt c4 hs0_
  refine Xp ?_
  try simp only [Zk,Ze,↓reduceIte,Nat.reduceEqDiff]
  have hs0_:=Option.some.inj hs0_;subst hs0_
  refine And.intro (fun h=>by cases h) (And.intro rfl (Fit2.of (Yg hU rfl rfl ?_) (by omega)))
  simp only [push_cast,seval,↓reduceIte,Za,hi0,hk0,hN0,hN]
 try simp only [Zk,Ze,↓reduceIte,Nat.reduceEqDiff]
 refine Zl [0,1,5] [true,true] ?_
 simp only [push_cast,seval,↓reduceIte]
 refine Zr [0,1,5,35] (Zc Zd [] ?_)
 simp only [push_cast,seval,↓reduceIte,Za,hi0,hk0,hN0,hN]
 refine Zv (t:=(decide (a1 < (z5.length:Int)))) rfl (fun c8 => ?_) (fun c8 => ?_)
 ·replace h:=Zu c8 h
  obtain ⟨x6,hx6,ax6,bx6,cx6,h⟩:=bE (f:=Zb) Vm (fun _=>rfl) (by decide) h
  have gu7:Js (fl Zb z5) [.val (.int .i64 a2.Kind),.sl a2.Words.length (fl (eI .u64) a2.Words),.sl a2.Kids.length (fl Zb a2.Kids)] (Int.toNat a1 * 3)=some (fl Zb (Zc4 z5 a1 a2)):=(congrArg (fun c=>Js (fl Zb z5) c (Int.toNat a1 * 3)) (show [.val (.int .i64 a2.Kind),.sl a2.Words.length (fl (eI .u64) a2.Words),.sl a2.Kids.length (fl Zb a2.Kids)]=Zb a2 from by simp only [Zb,Ys,eI,eB,eS,eL])).trans (Zhn (f:=Zb) (ti:=⟨.bool,3,0,[],false⟩) (x:=a2) (fun _=>rfl) (Zdo hx6))
  refine Zfl Zd (by kernel_rfl) [false,false,false,false,false,false,false,true] [] (by kernel_rfl) ?_
  simp only [push_cast,Nat.reduceAdd,Nat.reduceSub,Nat.reduceMul,Nat.reduceLeDiff,Nat.reduceLT,Nat.reduceEqDiff,↓reduceIte,reduceCtorEq,Int.reduceBEq,Int.reduceBNe,Nat.reduceBEq,Int.reduceLE,Int.reduceLT,Int.reduceEq,Int.reduceNe,Int.reduceNeg,Nat.reduceDiv,Nat.reduceMod,Nat.reducePow,Za,ax6,bx6,cx6,gu7,hi0,hk0,hN0,hN]
  have h:=Option.some.inj h;subst h
  refine Jr (k:=1) (i:=i0) (q1:=⟨false,25,3,1,[.val (.int .i64 a0.Kind),.sl a0.Words.length (fl (eI .u64) a0.Words),.row n (Zc4 z5 a1 a2).length]⟩) (L3:=[some ⟨true,25,3,(Zc4 z5 a1 a2).length,fl Zb (Zc4 z5 a1 a2)⟩,none]) (E2:=(⟨43,[],[]⟩:Env)) (n3:=(n+2)) (.inl rfl) hU rfl [] ?_ ?_
  ·refine Fit2.trans (E':=(⟨43,[],[]⟩:Env)) (O':=(Zx ((O.upd j0_0 none).upd i0 (some ⟨false,25,3,1,[.val (.int .i64 a0.Kind),.sl a0.Words.length (fl (eI .u64) a0.Words),.row n (Zc4 z5 a1 a2).length]⟩)) n [some ⟨true,25,3,(Zc4 z5 a1 a2).length,fl Zb (Zc4 z5 a1 a2)⟩,none])) (n':=(n+2)) (Fit2.of (Yg hU rfl rfl ?_) (by omega)) ?_
   ·simp only [push_cast,Nat.reduceAdd,Nat.reduceSub,Nat.reduceMul,Nat.reduceLeDiff,Nat.reduceLT,Nat.reduceEqDiff,↓reduceIte,reduceCtorEq,Int.reduceBEq,Int.reduceBNe,Nat.reduceBEq,Int.reduceLE,Int.reduceLT,Int.reduceEq,Int.reduceNe,Int.reduceNeg,Nat.reduceDiv,Nat.reduceMod,Nat.reducePow,Za,ax6,bx6,cx6,gu7,hi0,hk0,hN0,hN]
   refine X8 (k:=2) (k':=2) hU [0,1] [0,0] rfl rfl rfl rfl ⟨rfl,rfl⟩ ?_
   simp only [push_cast,seval,↓reduceIte,Za,hi0,hk0,hN0,hN]
  simp only [push_cast,seval,↓reduceIte,Za,Try.results121,hi0,hk0,hN0,hN]
 replace h:=Zt c8 h
 refine Zy ?_
 try simp only [Zk,Ze]
 have h:=Option.some.inj h;subst h
 refine Jr (k:=1) (i:=i0) (q1:=⟨false,25,3,1,[.val (.int .i64 a0.Kind),.sl a0.Words.length (fl (eI .u64) a0.Words),.row n z5.length]⟩) (L3:=[some ⟨true,25,3,z5.length,fl Zb z5⟩,none]) (E2:=(⟨43,[],[]⟩:Env)) (n3:=(n+2)) (.inl rfl) hU rfl [] ?_ ?_
 ·refine Fit2.trans (E':=(⟨43,[],[]⟩:Env)) (O':=(Zx ((O.upd j0_0 none).upd i0 (some ⟨false,25,3,1,[.val (.int .i64 a0.Kind),.sl a0.Words.length (fl (eI .u64) a0.Words),.row n z5.length]⟩)) n [some ⟨true,25,3,z5.length,fl Zb z5⟩,none])) (n':=(n+2)) (Fit2.of (Yg hU rfl rfl ?_) (by omega)) ?_
  ·simp only [push_cast,seval,↓reduceIte,Za,hi0,hk0,hN0,hN]
  refine X8 (k:=2) (k':=2) hU [0,1] [0,0] rfl rfl rfl rfl ⟨rfl,rfl⟩ ?_
  simp only [push_cast,seval,↓reduceIte,Za,hi0,hk0,hN0,hN]
 simp only [push_cast,seval,↓reduceIte,Za,Try.results121,hi0,hk0,hN0,hN]
theorem Zie {a0:Int} {r:Bool} {O:Objs} {n:Nat} (h:Zbg a0=some r):GTo Try.prog 110 [.val (.int .i64 a0)] O n (.val (.bool r)) O n:=by
 unfold Zbg at h
 refine Y8 Zd Try.call110 Try.func110 rfl (Nat.le_of_ble_eq_true rfl) (Nat.le_refl _) fun hU => ?_
 have hN0:O n=none:=hU.fresh _ (Nat.le_refl _)
 have hN:∀ k,O (n+k)=none:=fun k=>hU.fresh _ (Nat.le_add_right _ _)
 show W _ _ _ _ ⟨9,[],[(0,.val (.int .i64 a0))]⟩ (Zx O n []) _
 refine Zr [0] (Zc Zd [] ?_)
 simp only [push_cast,seval,↓reduceIte,Za,hN0,hN]
 refine Zr [2] (Zc Zd [none,none] ?_)
 simp only [push_cast,seval,↓reduceIte,Za,hN0,hN]
 repeat (with_reducible refine And.intro (by first | (intro h0;simp only [h0,and_self];done) | (intro h0;simp only [h0,Bool.not_false,Bool.not_true,Bool.true_and,Bool.and_true,true_and,and_true,and_self,imp_self,implies_true,bne_iff_ne,ne_eq,beq_iff_eq];done) | (intros;simp_all;done) | exact True.intro) ?_)
 refine Z4 ?_
 try simp only [Zk,Ze]
 have h:=Option.some.inj h;subst h
 refine Zs (.inr rfl) hU [.val (.bool (cond (decide (2≤a0)) (decide (a0≤9)) false))] (by omega) ?_
 simp only [push_cast,seval,↓reduceIte,Za,Try.results110,hN0,hN]
theorem Zqm {Y4:(S_api_Edit→S_api_Tree→Option (S_api_Tree×Bool))} {Yi:(S_api_Edit→S_api_Tree→Option (S_api_Tree×Bool))} {Xh:(S_api_Edit→S_api_Tree→Option (S_api_Tree×Bool))} {Z8:(Zi→S_api_Op→Option (Bool×Zi))} {Z6:(Zi→S_api_Edit→Option (Bool×Zi))} (J4:∀ {a0:S_api_Edit} {a1:S_api_Tree} {r:(S_api_Tree×Bool)} {O:Objs} {n:Nat},Y4 a0 a1=some r→GTo Try.prog 58 [.agg (Zh a0),.agg (Zf a1)] O n (.tup [.agg (Zf r.1),.val (.bool r.2)]) O n) (K3:∀ {a0:S_api_Edit} {a1:S_api_Tree} {r:(S_api_Tree×Bool)} {O:Objs} {n:Nat},Yi a0 a1=some r→GTo Try.prog 94 [.agg (Zh a0),.agg (Zf a1)] O n (.tup [.agg (Zf r.1),.val (.bool r.2)]) O n) (Zah:∀ {a0:S_api_Edit} {a1:S_api_Tree} {r:(S_api_Tree×Bool)} {O:Objs} {n:Nat},Xh a0 a1=some r→GTo Try.prog 95 [.agg (Zh a0),.agg (Zf a1)] O n (.tup [.agg (Zf r.1),.val (.bool r.2)]) O n) (Ju:∀ {a0:Zi} {a1:S_api_Op} {r:(Bool×Zi)} {O:Objs} {n:Nat} {i0 j0_0:Nat},i0 < n→j0_0 < n→i0≠j0_0→O i0=some ⟨false,139,2,1,[.sl a0.left.length (fl Zb a0.left),.row j0_0 a0.out.length]⟩→O j0_0=some ⟨true,25,3,a0.out.length,fl Zb a0.out⟩→Z8 a0 a1=some r→GTo Try.prog 122 [.ref i0 0,.agg (Z7 a1)] O n (.val (.bool r.1)) (Zx ((O.upd j0_0 none).upd i0 (some ⟨false,139,2,1,[.sl r.2.left.length (fl Zb r.2.left),.row n r.2.out.length]⟩)) n [some ⟨true,25,3,r.2.out.length,fl Zb r.2.out⟩]) (n+1)) (Qr:∀ {a0:Zi} {a1:S_api_Edit} {r:(Bool×Zi)} {O:Objs} {n:Nat} {i0 j0_0:Nat},i0 < n→j0_0 < n→i0≠j0_0→O i0=some ⟨false,139,2,1,[.sl a0.left.length (fl Zb a0.left),.row j0_0 a0.out.length]⟩→O j0_0=some ⟨true,25,3,a0.out.length,fl Zb a0.out⟩→Z6 a0 a1=some r→GTo Try.prog 129 [.ref i0 0,.agg (Zh a1)] O n (.val (.bool r.1)) (Zx ((O.upd j0_0 none).upd i0 (some ⟨false,139,2,1,[.sl r.2.left.length (fl Zb r.2.left),.row n r.2.out.length]⟩)) n [some ⟨true,25,3,r.2.out.length,fl Zb r.2.out⟩]) (n+1)) {a0:S_api_Edit} {a1:S_api_Tree} {r:(S_api_Tree×Bool)} {O:Objs} {n:Nat} (h:Ub Y4 Yi Xh Z8 Z6 a0 a1=some r):GTo Try.prog 58 [.agg (Zh a0),.agg (Zf a1)] O n (.tup [.agg (Zf r.1),.val (.bool r.2)]) O n:=by
 unfold Ub at h
 refine Y8 Zd Try.call58 Try.func58 rfl (Nat.le_of_ble_eq_true rfl) (Nat.le_refl _) fun hU => ?_
 have hN0:O n=none:=hU.fresh _ (Nat.le_refl _)
 have hN:∀ k,O (n+k)=none:=fun k=>hU.fresh _ (Nat.le_add_right _ _)
 show W _ _ _ _ ⟨34,[],[(0,.agg (Zh a0)),(1,.agg (Zf a1))]⟩ (Zx O n []) _
 refine Zr [2,3,4] (Zc Zd [] ?_)
 simp only [push_cast,seval,↓reduceIte,Za,hN0,hN]
 refine Zm ?_
 refine Zr [2,3,4,7] (Zc Zd [] ?_)
 simp only [push_cast,seval,↓reduceIte,Za,hN0,hN]
 refine Ym ?_
 refine Zr [2,3,4,7,8] (Zc Zd [] ?_)
 simp only [push_cast,seval,↓reduceIte,Za,hN0,hN]
 refine Zv (t:=(a0.Kind == 0)) rfl (fun c10 => ?_) (fun c10 => ?_)
 ·replace h:=Zu c10 h
  refine Zm ?_
  refine Zc Zd [] ?_
  simp only [push_cast,seval,↓reduceIte,Za,hN0,hN]
  refine Zl [4,5] [false,false,true] ?_
  simp only [push_cast,seval,↓reduceIte]
  refine Z4 ?_
  try simp only [Zk,Ze]
  have h:=Option.some.inj h;subst h
  refine Zs (.inr rfl) hU [.agg (Zf a1),.val (.bool true)] (by omega) ?_
  simp only [push_cast,seval,↓reduceIte,Za,Try.results58,hN0,hN]
 replace h:=Zt c10 h
 refine Zr [2,3,4,7,11] (Zc Zd [] ?_)
 simp only [push_cast,seval,↓reduceIte,Za,hN0,hN]
 refine Zv (t:=(a0.Kind == 1)) rfl (fun c9 => ?_) (fun c9 => ?_)
 ·replace h:=Zu c9 h
  refine Zm ?_
  obtain ⟨y2,hy2,h⟩:=bC h
  refine Zfl Zd (by kernel_rfl) [false,false,false,false,false,false,true,false] [] (by kernel_rfl) ?_
  simp only [push_cast,seval,↓reduceIte,Za,hN0,hN]
  refine PCall.of (Zsl hy2) ?_
  simp only [push_cast,seval,↓reduceIte,Za,hN0,hN]
  refine Zl [4,5] [false,false,true] ?_
  simp only [push_cast,seval,↓reduceIte]
  refine Z4 ?_
  try simp only [Zk,Ze]
  have h:=Option.some.inj h;subst h
  refine Zs (.inr rfl) hU [.agg (Zf a0.New),.val (.bool y2)] (by omega) ?_
  simp only [push_cast,seval,↓reduceIte,Za,Try.results58,hN0,hN]
 replace h:=Zt c9 h
 refine Zr [2,3,4,7,19] (Zc Zd [] ?_)
 simp only [push_cast,seval,↓reduceIte,Za,hN0,hN]
 refine Zv (t:=(a0.Kind == 2)) rfl (fun c8 => ?_) (fun c8 => ?_)
 ·replace h:=Zu c8 h
  refine Zm ?_
  obtain ⟨y4,hy4,h⟩:=bC h
  refine Zc Zd [] ?_
  simp only [push_cast,seval,↓reduceIte,Za,hN0,hN]
  refine (K3 hy4).then ?_
  simp only [push_cast,seval,↓reduceIte,Za,hN0,hN]
  refine Zl [4,5] [false,false,true] ?_
  simp only [push_cast,seval,↓reduceIte]
  refine Z4 ?_
  try simp only [Zk,Ze]
  have h:=Option.some.inj h;subst h
  refine Zs (.inr rfl) hU [.agg (Zf y4.1),.val (.bool y4.2)] (by omega) ?_
  simp only [push_cast,seval,↓reduceIte,Za,Try.results58,hN0,hN]
 replace h:=Zt c8 h
 refine Zr [2,3,4,26] (Zc Zd [] ?_)
 simp only [push_cast,seval,↓reduceIte,Za,hN0,hN]
 refine Zv (t:=(a0.Kind == 3)) rfl (fun c7 => ?_) (fun c7 => ?_)
 ·replace h:=Zu c7 h
  refine Zm ?_
  obtain ⟨y6,hy6,h⟩:=bC h
  refine Zc Zd [] ?_
  simp only [push_cast,seval,↓reduceIte,Za,hN0,hN]
  refine (Zah hy6).then ?_
  simp only [push_cast,seval,↓reduceIte,Za,hN0,hN]
  refine Zl [4,5] [false,false,true] ?_
  simp only [push_cast,seval,↓reduceIte]
  refine Z4 ?_
  try simp only [Zk,Ze]
  have h:=Option.some.inj h;subst h
  refine Zs (.inr rfl) hU [.agg (Zf y6.1),.val (.bool y6.2)] (by omega) ?_
  simp only [push_cast,seval,↓reduceIte,Za,Try.results58,hN0,hN]
 replace h:=Zt c7 h
 refine Zy ?_
 try simp only [Zk,Ze]
 refine Zl [4] [false,false,true] ?_
 simp only [push_cast,seval,↓reduceIte]
 refine Zm ?_
 refine Zc Zd [] ?_
 simp only [push_cast,seval,↓reduceIte,Za,hN0,hN]
 refine Zl [4,5] [false,false,true] ?_
 simp only [push_cast,seval,↓reduceIte]
 refine Z4 ?_
 try simp only [Zk,Ze]
 have h:=Option.some.inj h;subst h
 refine Zs (.inr rfl) hU [.agg [.val (.int .i64 0),.val (.slice none 0 0),.val (.slice none 0 0)],.val (.bool false)] (by omega) ?_
 simp only [push_cast,seval,↓reduceIte,Za,Try.results58,hN0,hN]
theorem Zkh {Y4:(S_api_Edit→S_api_Tree→Option (S_api_Tree×Bool))} {Yi:(S_api_Edit→S_api_Tree→Option (S_api_Tree×Bool))} {Xh:(S_api_Edit→S_api_Tree→Option (S_api_Tree×Bool))} {Z8:(Zi→S_api_Op→Option (Bool×Zi))} {Z6:(Zi→S_api_Edit→Option (Bool×Zi))} (J4:∀ {a0:S_api_Edit} {a1:S_api_Tree} {r:(S_api_Tree×Bool)} {O:Objs} {n:Nat},Y4 a0 a1=some r→GTo Try.prog 58 [.agg (Zh a0),.agg (Zf a1)] O n (.tup [.agg (Zf r.1),.val (.bool r.2)]) O n) (K3:∀ {a0:S_api_Edit} {a1:S_api_Tree} {r:(S_api_Tree×Bool)} {O:Objs} {n:Nat},Yi a0 a1=some r→GTo Try.prog 94 [.agg (Zh a0),.agg (Zf a1)] O n (.tup [.agg (Zf r.1),.val (.bool r.2)]) O n) (Zah:∀ {a0:S_api_Edit} {a1:S_api_Tree} {r:(S_api_Tree×Bool)} {O:Objs} {n:Nat},Xh a0 a1=some r→GTo Try.prog 95 [.agg (Zh a0),.agg (Zf a1)] O n (.tup [.agg (Zf r.1),.val (.bool r.2)]) O n) (Ju:∀ {a0:Zi} {a1:S_api_Op} {r:(Bool×Zi)} {O:Objs} {n:Nat} {i0 j0_0:Nat},i0 < n→j0_0 < n→i0≠j0_0→O i0=some ⟨false,139,2,1,[.sl a0.left.length (fl Zb a0.left),.row j0_0 a0.out.length]⟩→O j0_0=some ⟨true,25,3,a0.out.length,fl Zb a0.out⟩→Z8 a0 a1=some r→GTo Try.prog 122 [.ref i0 0,.agg (Z7 a1)] O n (.val (.bool r.1)) (Zx ((O.upd j0_0 none).upd i0 (some ⟨false,139,2,1,[.sl r.2.left.length (fl Zb r.2.left),.row n r.2.out.length]⟩)) n [some ⟨true,25,3,r.2.out.length,fl Zb r.2.out⟩]) (n+1)) (Qr:∀ {a0:Zi} {a1:S_api_Edit} {r:(Bool×Zi)} {O:Objs} {n:Nat} {i0 j0_0:Nat},i0 < n→j0_0 < n→i0≠j0_0→O i0=some ⟨false,139,2,1,[.sl a0.left.length (fl Zb a0.left),.row j0_0 a0.out.length]⟩→O j0_0=some ⟨true,25,3,a0.out.length,fl Zb a0.out⟩→Z6 a0 a1=some r→GTo Try.prog 129 [.ref i0 0,.agg (Zh a1)] O n (.val (.bool r.1)) (Zx ((O.upd j0_0 none).upd i0 (some ⟨false,139,2,1,[.sl r.2.left.length (fl Zb r.2.left),.row n r.2.out.length]⟩)) n [some ⟨true,25,3,r.2.out.length,fl Zb r.2.out⟩]) (n+1)) {a0:S_api_Edit} {a1:S_api_Tree} {r:(S_api_Tree×Bool)} {O:Objs} {n:Nat} (h:K4 Y4 Yi Xh Z8 Z6 a0 a1=some r):GTo Try.prog 94 [.agg (Zh a0),.agg (Zf a1)] O n (.tup [.agg (Zf r.1),.val (.bool r.2)]) O n:=by
 unfold K4 at h
 refine Y8 Zd Try.call94 Try.func94 rfl (Nat.le_of_ble_eq_true rfl) (Nat.le_refl _) fun hU => ?_
 have hN0:O n=none:=hU.fresh _ (Nat.le_refl _)
 have hN:∀ k,O (n+k)=none:=fun k=>hU.fresh _ (Nat.le_add_right _ _)
 show W _ _ _ _ ⟨92,[],[(0,.agg (Zh a0)),(1,.agg (Zf a1))]⟩ (Zx O n []) _
 refine Zr [2,3,4] (Zc Zd [] ?_)
 simp only [push_cast,seval,↓reduceIte,Za,hN0,hN]
 refine Zm ?_
 refine Zr [2,3,4,16] (Zc Zd [] ?_)
 simp only [push_cast,seval,↓reduceIte,Za,hN0,hN]
 refine Zv (t:=(a1.Kind != 1)) rfl (fun c138 => ?_) (fun c138 => ?_)
 ·replace h:=Zu c138 h
  refine Zm ?_
  refine Zc Zd [] ?_
  simp only [push_cast,seval,↓reduceIte,Za,hN0,hN]
  refine Zl [4,5] [false,false,true] ?_
  simp only [push_cast,seval,↓reduceIte]
  refine Z4 ?_
  try simp only [Zk,Ze]
  have h:=Option.some.inj h;subst h
  refine Zs (.inr rfl) hU [.agg [.val (.int .i64 0),.val (.slice none 0 0),.val (.slice none 0 0)],.val (.bool false)] (by omega) ?_
  simp only [push_cast,seval,↓reduceIte,Za,Try.results94,hN0,hN]
 replace h:=Zt c138 h
 refine Zy ?_
 try simp only [Zk,Ze]
 refine Zl [2,3,4] [true,true,true] ?_
 simp only [push_cast,seval,↓reduceIte]
 obtain ⟨y25,hy25,h⟩:=bC h
 obtain ⟨y61,hy61,h⟩:=bC h
 refine Y6 (E':=⟨92,[],[(2,.ref n 0),(3,.ref (n+1) 0),(4,.ref (n+2) 0),(6,.ref (n+5) 0)]⟩) (O':=(Zx O n [some ⟨false,30,11,1,(Zh a0)⟩,some ⟨false,25,3,1,(Zf a1)⟩,some ⟨false,25,3,1,[.val (.int .i64 0),.val (.slice none 0 0),.val (.slice none 0 0)]⟩,some ⟨true,56,1,y25.length,fl (eI .u64) y25⟩,some ⟨true,25,3,y61.length,fl Zb y61⟩,some ⟨false,25,3,1,[.val (.int .i64 1),.row (n+3) y25.length,.row (n+4) y61.length]⟩])) (n0:=(n+6)) ?_ ?_
 ·refine Z54 Zd (by kernel_rfl) [.low,.low,.pass,.low,.low,.pass,.plain,.pass,.pass] (fun i=>i < (n+3)) [0,1,3,4] [2,5,6,7] [8] (.two 2 (.two 5 (.seq [6,7]) 7 (.seq [5,6])) 7 (.seq [2,5,6])) [.low,.low,.low,.low] [] (by kernel_rfl) rfl ?_
  simp only [push_cast,seval,↓reduceIte,Za,hN0,hN]
  repeat (with_reducible refine And.intro (by omega) ?_)
  try simp only [push_cast,seval,↓reduceIte,Za,hN0,hN]
  refine And.intro ?_ ?_
  ·try simp only [push_cast,seval,↓reduceIte,Za,hN0,hN]
   repeat (with_reducible refine And.intro (by first | exact Xe rfl | exact Y0) ?_)
   refine (Gk hy25).then ?_
   try simp only [push_cast,seval,↓reduceIte,Za,hN0,hN]
   repeat (with_reducible refine And.intro (by first | exact Xe rfl | exact Y0) ?_)
   try simp only [push_cast,seval,↓reduceIte,Za,hN0,hN]
   refine And.intro ?_ ?_
   ·try simp only [push_cast,seval,↓reduceIte,Za,hN0,hN]
    repeat (with_reducible refine And.intro (by first | exact Xe rfl | exact Y0) ?_)
    refine (Jn hy61).then ?_
    try simp only [push_cast,seval,↓reduceIte,Za,hN0,hN]
    repeat (with_reducible refine And.intro (by first | exact Xe rfl | exact Y0) ?_)
    try simp only [push_cast,seval,↓reduceIte,Za,hN0,hN]
    repeat (with_reducible refine And.intro (by first | exact Xe rfl | exact Y0) ?_)
    refine And.intro rfl (Fit2.of (Zj hU rfl rfl ?_) (by omega))
    simp only [push_cast,seval,↓reduceIte,Za,hN0,hN]
   try simp only [push_cast,seval,↓reduceIte,Za,hN0,hN]
   repeat (with_reducible refine And.intro (by first | exact Xe rfl | exact Y0) ?_)
   try simp only [push_cast,seval,↓reduceIte,Za,hN0,hN]
   repeat (with_reducible refine And.intro (by first | exact Xe rfl | exact Y0) ?_)
   refine (Jn hy61).then ?_
   try simp only [push_cast,seval,↓reduceIte,Za,hN0,hN]
   repeat (with_reducible refine And.intro (by first | exact Xe rfl | exact Y0) ?_)
   refine And.intro rfl ?_
   refine Fit2.trans (E':=(⟨92,[],[(2,.ref n 0),(3,.ref (n+1) 0),(4,.ref (n+2) 0),(6,.ref (n+4) 0)]⟩:Env)) (O':=(Zx O n [some ⟨false,30,11,1,(Zh a0)⟩,some ⟨false,25,3,1,(Zf a1)⟩,some ⟨false,25,3,1,[.val (.int .i64 0),.val (.slice none 0 0),.val (.slice none 0 0)]⟩,some ⟨true,56,1,y25.length,fl (eI .u64) y25⟩,some ⟨false,25,3,1,[.val (.int .i64 1),.row (n+3) y25.length,.row (n+5) y61.length]⟩,some ⟨true,25,3,y61.length,fl Zb y61⟩])) (n':=(n+6)) (Fit2.of (Zj hU rfl rfl ?_) (by omega)) ?_
   ·simp only [push_cast,seval,↓reduceIte,Za,hN0,hN]
   refine V5 (k:=6) (k':=6) hU [0,1,2,3,5,4] [0,1,2,3,5,4] rfl rfl rfl rfl ⟨rfl,rfl⟩ ?_
   simp only [push_cast,seval,↓reduceIte,Za,hN0,hN]
  try simp only [push_cast,seval,↓reduceIte,Za,hN0,hN]
  repeat (with_reducible refine And.intro (by first | exact Xe rfl | exact Y0) ?_)
  try simp only [push_cast,seval,↓reduceIte,Za,hN0,hN]
  repeat (with_reducible refine And.intro (by first | exact Xe rfl | exact Y0) ?_)
  refine (Gk hy25).then ?_
  try simp only [push_cast,seval,↓reduceIte,Za,hN0,hN]
  repeat (with_reducible refine And.intro (by first | exact Xe rfl | exact Y0) ?_)
  refine (Jn hy61).then ?_
  try simp only [push_cast,seval,↓reduceIte,Za,hN0,hN]
  repeat (with_reducible refine And.intro (by first | exact Xe rfl | exact Y0) ?_)
  refine And.intro rfl ?_
  refine Fit2.trans (E':=(⟨92,[],[(2,.ref n 0),(3,.ref (n+1) 0),(4,.ref (n+2) 0),(6,.ref (n+3) 0)]⟩:Env)) (O':=(Zx O n [some ⟨false,30,11,1,(Zh a0)⟩,some ⟨false,25,3,1,(Zf a1)⟩,some ⟨false,25,3,1,[.val (.int .i64 0),.val (.slice none 0 0),.val (.slice none 0 0)]⟩,some ⟨false,25,3,1,[.val (.int .i64 1),.row (n+4) y25.length,.row (n+5) y61.length]⟩,some ⟨true,56,1,y25.length,fl (eI .u64) y25⟩,some ⟨true,25,3,y61.length,fl Zb y61⟩])) (n':=(n+6)) (Fit2.of (Zj hU rfl rfl ?_) (by omega)) ?_
  ·simp only [push_cast,seval,↓reduceIte,Za,hN0,hN]
  refine V5 (k:=6) (k':=6) hU [0,1,2,5,3,4] [0,1,2,4,5,3] rfl rfl rfl rfl ⟨rfl,rfl⟩ ?_
  simp only [push_cast,seval,↓reduceIte,Za,hN0,hN]
 refine Zm ?_
 refine Zr [2,3,4,6,26,27,28] (Zc Zd [] ?_)
 simp only [push_cast,seval,↓reduceIte,Za,hN0,hN]
 refine Zl [2,3,4,6,26,27,28] [true,true,true,true,true,true] ?_
 simp only [push_cast,seval,↓reduceIte]
 refine Ku (E':=(⟨92,[],[(2,.ref n 0),(3,.ref (n+1) 0),(4,.ref (n+2) 0),(6,.ref (n+5) 0),(26,.sl a0.Words.length (fl Zo a0.Words)),(27,.val (.int .i64 (a0.Words.length:Int))),(28,.val (.int .i64 0))]⟩:Env)) (O':=(Zx O n [some ⟨false,30,11,1,(Zh a0)⟩,some ⟨false,25,3,1,(Zf a1)⟩,some ⟨false,25,3,1,[.val (.int .i64 0),.val (.slice none 0 0),.val (.slice none 0 0)]⟩,none,none,some ⟨false,25,3,1,[.val (.int .i64 1),.row (n+6) y25.length,.row (n+7) y61.length]⟩,some ⟨true,56,1,y25.length,fl (eI .u64) y25⟩,some ⟨true,25,3,y61.length,fl Zb y61⟩,none])) (n':=(n+9)) ?_ ?_
 ·refine Fit2.trans (E':=(⟨92,[],[(2,.ref n 0),(3,.ref (n+1) 0),(4,.ref (n+2) 0),(6,.ref (n+5) 0),(26,.sl a0.Words.length (fl Zo a0.Words)),(27,.val (.int .i64 (a0.Words.length:Int))),(28,.val (.int .i64 0))]⟩:Env)) (O':=(Zx O n [some ⟨false,30,11,1,(Zh a0)⟩,some ⟨false,25,3,1,(Zf a1)⟩,some ⟨false,25,3,1,[.val (.int .i64 0),.val (.slice none 0 0),.val (.slice none 0 0)]⟩,some ⟨true,56,1,y25.length,fl (eI .u64) y25⟩,some ⟨true,25,3,y61.length,fl Zb y61⟩,some ⟨false,25,3,1,[.val (.int .i64 1),.row (n+3) y25.length,.row (n+4) y61.length]⟩])) (n':=(n+6)) (Fit2.of (Zj hU rfl rfl ?_) (by omega)) ?_
  ·simp only [push_cast,seval,↓reduceIte,Za,hN0,hN]
  refine V5 (k:=6) (k':=9) hU [0,1,2,6,7,5] [0,1,2,0,0,5,3,4,0] rfl rfl rfl rfl ⟨rfl,rfl⟩ ?_
  simp only [push_cast,seval,↓reduceIte,Za,hN0,hN]
 obtain ⟨z125,hz125,h⟩:=bC h
 refine U4 (J:=(Xw (fun z125=>JR n (⟨92,[],[(4,.ref (n+2) 0),(5,.val (.bool false))]⟩:Env) (Zx O n [none,none,some ⟨false,25,3,1,[.val (.int .i64 0),.val (.slice none 0 0),.val (.slice none 0 0)]⟩,none,none,none]) (n+6)) (fun z125=>JX 0 n (⟨92,[],[(2,.ref n 0),(3,.ref (n+1) 0),(4,.ref (n+2) 0),(6,.ref (n+5) 0)]⟩:Env) (Zx O n [some ⟨false,30,11,1,(Zh a0)⟩,some ⟨false,25,3,1,(Zf a1)⟩,some ⟨false,25,3,1,[.val (.int .i64 0),.val (.slice none 0 0),.val (.slice none 0 0)]⟩,none,none,some ⟨false,25,3,1,[.val (.int .i64 z125.1),.row (n+6) z125.2.1.length,.row (n+7) z125.2.2.length]⟩,some ⟨true,56,1,z125.2.1.length,fl (eI .u64) z125.2.1⟩,some ⟨true,25,3,z125.2.2.length,fl Zb z125.2.2⟩,none]) (n+9)))) (z:=z125) ?_ fun hw => ?_
 ·refine Xg hz125 (fun s0_=>⟨92,[],[(2,.ref n 0),(3,.ref (n+1) 0),(4,.ref (n+2) 0),(6,.ref (n+5) 0),(26,.sl a0.Words.length (fl Zo a0.Words)),(27,.val (.int .i64 (a0.Words.length:Int))),(28,.val (.int .i64 s0_.1))]⟩) (fun s0_=>(Zx O n [some ⟨false,30,11,1,(Zh a0)⟩,some ⟨false,25,3,1,(Zf a1)⟩,some ⟨false,25,3,1,[.val (.int .i64 0),.val (.slice none 0 0),.val (.slice none 0 0)]⟩,none,none,some ⟨false,25,3,1,[.val (.int .i64 s0_.2.1),.row (n+6) s0_.2.2.1.length,.row (n+7) s0_.2.2.2.length]⟩,some ⟨true,56,1,s0_.2.2.1.length,fl (eI .u64) s0_.2.2.1⟩,some ⟨true,25,3,s0_.2.2.2.length,fl Zb s0_.2.2.2⟩,none])) (Xw (fun z125=>JR n (⟨92,[],[(4,.ref (n+2) 0),(5,.val (.bool false))]⟩:Env) (Zx O n [none,none,some ⟨false,25,3,1,[.val (.int .i64 0),.val (.slice none 0 0),.val (.slice none 0 0)]⟩,none,none,none]) (n+6)) (fun z125=>JX 0 n (⟨92,[],[(2,.ref n 0),(3,.ref (n+1) 0),(4,.ref (n+2) 0),(6,.ref (n+5) 0)]⟩:Env) (Zx O n [some ⟨false,30,11,1,(Zh a0)⟩,some ⟨false,25,3,1,(Zf a1)⟩,some ⟨false,25,3,1,[.val (.int .i64 0),.val (.slice none 0 0),.val (.slice none 0 0)]⟩,none,none,some ⟨false,25,3,1,[.val (.int .i64 z125.1),.row (n+6) z125.2.1.length,.row (n+7) z125.2.2.length]⟩,some ⟨true,56,1,z125.2.1.length,fl (eI .u64) z125.2.1⟩,some ⟨true,25,3,z125.2.2.length,fl Zb z125.2.2⟩,none]) (n+9))) ?_
  intro s0_ x0_ hs0_
  unfold Qk at hs0_
  try dsimp only
  refine Zr [2,3,4,6,26,27,28,29] (Zc Zd [] ?_)
  simp only [push_cast,seval,↓reduceIte,Za,hN0,hN]
  refine Zm ?_
  refine Zv (t:=(decide (s0_.1 < (a0.Words.length:Int)))) rfl (fun c124 => ?_) (fun c124 => ?_)
  ·replace hs0_:=Zu c124 hs0_
   refine Zy ?_
   try simp only [Zk,Ze]
   refine Zl [2,3,4,6,26,27,28] [true,true,true,false,false,true,true,true,false] ?_
   simp only [push_cast,seval,↓reduceIte]
   refine Zm ?_
   refine Ym ?_
   refine Zm ?_
   obtain ⟨x110,hx110,ax110,bx110,cx110,hs0_⟩:=bE (f:=Zo) Ztl (fun _=>rfl) (by decide) hs0_
   refine Zc Zd [] ?_
   simp only [push_cast,Nat.reduceAdd,Nat.reduceSub,Nat.reduceMul,Nat.reduceLeDiff,Nat.reduceLT,Nat.reduceEqDiff,↓reduceIte,reduceCtorEq,Int.reduceBEq,Int.reduceBNe,Nat.reduceBEq,Int.reduceLE,Int.reduceLT,Int.reduceEq,Int.reduceNe,Int.reduceNeg,Nat.reduceDiv,Nat.reduceMod,Nat.reducePow,Za,ax110,bx110,cx110,hN0,hN]
   refine Zl [2,3,4,6,8,26,27,28] [true,true,true,false,false,true,true,true,false,true] ?_
   simp only [push_cast,seval,↓reduceIte]
   refine Zm ?_
   obtain ⟨y112,hy112,hs0_⟩:=bC hs0_
   refine Zc Zd [] ?_
   simp only [push_cast,seval,↓reduceIte,Za,hN0,hN]
   refine (Zuu hy112).then ?_
   simp only [push_cast,seval,↓reduceIte,Za,hN0,hN]
   refine Zl [2,3,4,6,8,9,26,27,28] [true,true,true,false,false,true,true,true,false,true] ?_
   simp only [push_cast,seval,↓reduceIte]
   refine Zm ?_
   obtain ⟨z115,hz115,hs0_⟩:=bC hs0_
   refine Y6 (E':=⟨92,[],[(2,.ref n 0),(3,.ref (n+1) 0),(4,.ref (n+2) 0),(6,.ref (n+5) 0),(8,.ref (n+9) 0),(9,.val (.int .u64 y112)),(26,.sl a0.Words.length (fl Zo a0.Words)),(27,.val (.int .i64 (a0.Words.length:Int))),(28,.val (.int .i64 s0_.1)),(49,.val (.bool z115))]⟩) (O':=(Zx O n [some ⟨false,30,11,1,(Zh a0)⟩,some ⟨false,25,3,1,(Zf a1)⟩,some ⟨false,25,3,1,[.val (.int .i64 0),.val (.slice none 0 0),.val (.slice none 0 0)]⟩,none,none,some ⟨false,25,3,1,[.val (.int .i64 s0_.2.1),.row (n+6) s0_.2.2.1.length,.row (n+7) s0_.2.2.2.length]⟩,some ⟨true,56,1,s0_.2.2.1.length,fl (eI .u64) s0_.2.2.1⟩,some ⟨true,25,3,s0_.2.2.2.length,fl Zb s0_.2.2.2⟩,none,some ⟨false,58,4,1,(U9 x110)⟩])) (n0:=(n+10)) ?_ ?_
   ·obtain ⟨y118,hy118,hz115⟩:=bC hz115
    rcases Bool.eq_false_or_eq_true y118 with c120 | c120
    ·replace hz115:=Zu c120 hz115
     refine Kq Zd (by kernel_rfl) [some false,some false,some false,some false,some false,some false,some false,some false,some false] (by kernel_rfl) ?_
     simp only [push_cast,seval,↓reduceIte,Za,c120,hN0,hN]
     refine PCall.of (Zee hy118) ?_
     simp only [push_cast,seval,↓reduceIte,Za,c120,hN0,hN]
     have hz115:=Option.some.inj hz115;subst hz115
     refine And.intro rfl (Fit2.of (Zj hU rfl rfl ?_) (by omega))
     simp only [push_cast,seval,↓reduceIte,Za,c120,hN0,hN]
    replace hz115:=Zt c120 hz115
    obtain ⟨y119,hy119,hz115⟩:=bC hz115
    refine Kq Zd (by kernel_rfl) [some true,some true,some true,some true,some true,some true,some true,some true,some true] (by kernel_rfl) ?_
    simp only [push_cast,seval,↓reduceIte,Za,c120,hN0,hN]
    refine PCall.of (Zee hy118) ?_
    simp only [push_cast,seval,↓reduceIte,Za,c120,hN0,hN]
    refine PCall.of (Zif hy119) ?_
    simp only [push_cast,seval,↓reduceIte,Za,c120,hN0,hN]
    have hz115:=Option.some.inj hz115;subst hz115
    refine And.intro rfl (Fit2.of (Zj hU rfl rfl ?_) (by omega))
    simp only [push_cast,seval,↓reduceIte,Za,c120,hN0,hN]
   refine Zv (t:=z115) rfl (fun c123 => ?_) (fun c123 => ?_)
   ·replace hs0_:=Zu c123 hs0_
    refine Zm ?_
    refine Zc Zd [] ?_
    simp only [push_cast,seval,↓reduceIte,Za,hN0,hN]
    refine Zl [4,5] [false,false,true,false,false,false,false,false,false,false] ?_
    simp only [push_cast,seval,↓reduceIte]
    refine Z4 ?_
    try simp only [Zk,Ze]
    have hs0_:=Option.some.inj hs0_;subst hs0_
    refine And.intro (fun h=>by cases h) (And.intro rfl (Fit2.of (Zj hU rfl rfl ?_) (by omega)))
    simp only [push_cast,seval,↓reduceIte,Za,hN0,hN]
   replace hs0_:=Zt c123 hs0_
   refine Zy ?_
   try simp only [Zk,Ze]
   refine Zl [2,3,4,6,8,9,26,27,28] [true,true,true,false,false,true,true,true,false,true] ?_
   simp only [push_cast,seval,↓reduceIte]
   obtain ⟨y121,hy121,hs0_⟩:=bC hs0_
   obtain ⟨y122,hy122,hs0_⟩:=bC hs0_
   refine Zfl Zd (by kernel_rfl) [false,false,false,false,false,false,false,false,true] [] (by kernel_rfl) ?_
   simp only [push_cast,seval,↓reduceIte,Za,hN0,hN]
   refine PCall.of (Zxl hy121) ?_
   simp only [push_cast,seval,↓reduceIte,Za,hN0,hN]
   refine (Zno (i0:=(n+5)) (j0_0:=(n+7)) (j0_1:=(n+6)) (by omega) (by omega) (by omega) (by omega) (by omega) (by omega) (by simp only [push_cast,seval,↓reduceIte,Za,Xf,hN0,hN] <;> rfl) (by simp only [push_cast,seval,↓reduceIte,Za,Xf,hN0,hN] <;> rfl) (by simp only [push_cast,seval,↓reduceIte,Za,Xf,hN0,hN] <;> rfl) hy122).then ?_
   simp only [push_cast,seval,↓reduceIte,Za,hN0,hN]
   refine Zl [2,3,4,6,26,27,28] [true,true,true,false,false,true,false,false,false,false,true,true] ?_
   simp only [push_cast,seval,↓reduceIte]
   refine Zc Zd [] ?_
   simp only [push_cast,seval,↓reduceIte,Za,hN0,hN]
   have hs0_:=Option.some.inj hs0_;subst hs0_
   refine And.intro rfl ?_
   refine Fit2.trans (E':=(⟨92,[],[(2,.ref n 0),(3,.ref (n+1) 0),(4,.ref (n+2) 0),(6,.ref (n+5) 0),(26,.sl a0.Words.length (fl Zo a0.Words)),(27,.val (.int .i64 (a0.Words.length:Int))),(28,.val (.int .i64 (IntKind.i64.wrap (s0_.1+1))))]⟩:Env)) (O':=(Zx O n [some ⟨false,30,11,1,(Zh a0)⟩,some ⟨false,25,3,1,(Zf a1)⟩,some ⟨false,25,3,1,[.val (.int .i64 0),.val (.slice none 0 0),.val (.slice none 0 0)]⟩,none,none,some ⟨false,25,3,1,[.val (.int .i64 y122.Kind),.row (n+11) y122.Words.length,.row (n+10) y122.Kids.length]⟩,none,none,none,none,some ⟨true,25,3,y122.Kids.length,fl Zb y122.Kids⟩,some ⟨true,56,1,y122.Words.length,fl (eI .u64) y122.Words⟩])) (n':=(n+12)) (Fit2.of (Zj hU rfl rfl ?_) (by omega)) ?_
   ·simp only [push_cast,seval,↓reduceIte,Za,hN0,hN]
   refine V5 (k:=12) (k':=9) hU [0,1,2,8,8,5,8,8,8,8,7,6] [0,1,2,0,0,5,11,10,0] rfl rfl rfl rfl ⟨rfl,rfl⟩ ?_
   simp only [push_cast,seval,↓reduceIte,Za,hN0,hN]
  replace hs0_:=Zt c124 hs0_
  refine Xp ?_
  try simp only [Zk,Ze,↓reduceIte,Nat.reduceEqDiff]
  have hs0_:=Option.some.inj hs0_;subst hs0_
  refine And.intro (fun h=>by cases h) (And.intro rfl (Fit2.of (Zj hU rfl rfl ?_) (by omega)))
  simp only [push_cast,seval,↓reduceIte,Za,hN0,hN]
 rcases z125 with z125 | z125
 ·dsimp only [Xw] at hw h
  refine Jc hw ?_
  try simp only [Zk,Ze,↓reduceIte,Nat.reduceEqDiff]
  have h:=Option.some.inj h;subst h
  refine Zs (.inr rfl) hU [.agg [.val (.int .i64 0),.val (.slice none 0 0),.val (.slice none 0 0)],.val (.bool false)] (by omega) ?_
  simp only [push_cast,seval,↓reduceIte,Za,Try.results94,hN0,hN]
 dsimp only [Xw] at hw h
 refine Yx hw ?_
 try simp only [Zk,Ze,↓reduceIte,Nat.reduceEqDiff]
 refine Zl [2,3,4,6] [true,true,true,false,false,true,true,true,false] ?_
 simp only [push_cast,seval,↓reduceIte]
 refine Zm ?_
 refine Zr [3,4,6,62,63,64] (Zc Zd [] ?_)
 simp only [push_cast,seval,↓reduceIte,Za,hN0,hN]
 refine Zl [3,4,6,62,63,64] [false,true,true,false,false,true,true,true,false] ?_
 simp only [push_cast,seval,↓reduceIte]
 refine Ku (E':=(⟨92,[],[(3,.ref (n+1) 0),(4,.ref (n+2) 0),(6,.ref (n+5) 0),(62,.sl a0.Kids.length (fl Zn a0.Kids)),(63,.val (.int .i64 (a0.Kids.length:Int))),(64,.val (.int .i64 0))]⟩:Env)) (O':=(Zx O n [none,some ⟨false,25,3,1,(Zf a1)⟩,some ⟨false,25,3,1,[.val (.int .i64 0),.val (.slice none 0 0),.val (.slice none 0 0)]⟩,none,none,some ⟨false,25,3,1,[.val (.int .i64 z125.1),.sl z125.2.1.length (fl (eI .u64) z125.2.1),.row (n+9) z125.2.2.length]⟩,none,none,none,some ⟨true,25,3,z125.2.2.length,fl Zb z125.2.2⟩,none])) (n':=(n+11)) ?_ ?_
 ·refine Fit2.trans (E':=(⟨92,[],[(3,.ref (n+1) 0),(4,.ref (n+2) 0),(6,.ref (n+5) 0),(62,.sl a0.Kids.length (fl Zn a0.Kids)),(63,.val (.int .i64 (a0.Kids.length:Int))),(64,.val (.int .i64 0))]⟩:Env)) (O':=(Zx O n [none,some ⟨false,25,3,1,(Zf a1)⟩,some ⟨false,25,3,1,[.val (.int .i64 0),.val (.slice none 0 0),.val (.slice none 0 0)]⟩,none,none,some ⟨false,25,3,1,[.val (.int .i64 z125.1),.sl z125.2.1.length (fl (eI .u64) z125.2.1),.row (n+7) z125.2.2.length]⟩,none,some ⟨true,25,3,z125.2.2.length,fl Zb z125.2.2⟩,none])) (n':=(n+9)) (Fit2.of (Zj hU rfl rfl ?_) (by omega)) ?_
  ·simp only [push_cast,seval,↓reduceIte,Za,hN0,hN]
  refine V5 (k:=9) (k':=11) hU [10,1,2,10,10,5,10,9,10] [0,1,2,0,0,5,0,0,0,7,0] rfl rfl rfl rfl ⟨rfl,rfl⟩ ?_
  simp only [push_cast,seval,↓reduceIte,Za,hN0,hN]
 obtain ⟨z137,hz137,h⟩:=bC h
 refine U4 (J:=(Xw (fun z137=>JR n (⟨92,[],[(4,.ref (n+2) 0),(5,.val (.bool false))]⟩:Env) (Zx O n [none,none,some ⟨false,25,3,1,[.val (.int .i64 0),.val (.slice none 0 0),.val (.slice none 0 0)]⟩,none,none,none,none,none,none]) (n+9)) (fun z137=>JX 2 n (⟨92,[],[(4,.ref (n+2) 0),(6,.ref (n+5) 0)]⟩:Env) (Zx O n [none,none,some ⟨false,25,3,1,[.val (.int .i64 0),.val (.slice none 0 0),.val (.slice none 0 0)]⟩,none,none,some ⟨false,25,3,1,[.val (.int .i64 z137.1),.sl z137.2.1.length (fl (eI .u64) z137.2.1),.row (n+9) z137.2.2.length]⟩,none,none,none,some ⟨true,25,3,z137.2.2.length,fl Zb z137.2.2⟩,none]) (n+11)))) (z:=z137) ?_ fun hw => ?_
 ·refine Xg hz137 (fun s1_=>⟨92,[],[(3,.ref (n+1) 0),(4,.ref (n+2) 0),(6,.ref (n+5) 0),(62,.sl a0.Kids.length (fl Zn a0.Kids)),(63,.val (.int .i64 (a0.Kids.length:Int))),(64,.val (.int .i64 s1_.1))]⟩) (fun s1_=>(Zx O n [none,some ⟨false,25,3,1,(Zf a1)⟩,some ⟨false,25,3,1,[.val (.int .i64 0),.val (.slice none 0 0),.val (.slice none 0 0)]⟩,none,none,some ⟨false,25,3,1,[.val (.int .i64 s1_.2.1),.sl s1_.2.2.1.length (fl (eI .u64) s1_.2.2.1),.row (n+9) s1_.2.2.2.length]⟩,none,none,none,some ⟨true,25,3,s1_.2.2.2.length,fl Zb s1_.2.2.2⟩,none])) (Xw (fun z137=>JR n (⟨92,[],[(4,.ref (n+2) 0),(5,.val (.bool false))]⟩:Env) (Zx O n [none,none,some ⟨false,25,3,1,[.val (.int .i64 0),.val (.slice none 0 0),.val (.slice none 0 0)]⟩,none,none,none,none,none,none]) (n+9)) (fun z137=>JX 2 n (⟨92,[],[(4,.ref (n+2) 0),(6,.ref (n+5) 0)]⟩:Env) (Zx O n [none,none,some ⟨false,25,3,1,[.val (.int .i64 0),.val (.slice none 0 0),.val (.slice none 0 0)]⟩,none,none,some ⟨false,25,3,1,[.val (.int .i64 z137.1),.sl z137.2.1.length (fl (eI .u64) z137.2.1),.row (n+9) z137.2.2.length]⟩,none,none,none,some ⟨true,25,3,z137.2.2.length,fl Zb z137.2.2⟩,none]) (n+11))) ?_
  intro s1_ x1_ hs1_
  unfold X2 at hs1_
  try dsimp only
  refine Zr [3,4,6,62,63,64,65] (Zc Zd [] ?_)
  simp only [push_cast,seval,↓reduceIte,Za,hN0,hN]
  refine Zm ?_
  refine Zv (t:=(decide (s1_.1 < (a0.Kids.length:Int)))) rfl (fun c136 => ?_) (fun c136 => ?_)
  ·replace hs1_:=Zu c136 hs1_
   refine Zy ?_
   try simp only [Zk,Ze]
   refine Zl [3,4,6,62,63,64] [false,true,true,false,false,true,false,false,false,true,false] ?_
   simp only [push_cast,seval,↓reduceIte]
   refine Zm ?_
   refine Ym ?_
   refine Zm ?_
   obtain ⟨x127,hx127,ax127,bx127,cx127,hs1_⟩:=bE (f:=Zn) Zmv (fun _=>rfl) (by decide) hs1_
   refine Zc Zd [] ?_
   simp only [push_cast,Nat.reduceAdd,Nat.reduceSub,Nat.reduceMul,Nat.reduceLeDiff,Nat.reduceLT,Nat.reduceEqDiff,↓reduceIte,reduceCtorEq,Int.reduceBEq,Int.reduceBNe,Nat.reduceBEq,Int.reduceLE,Int.reduceLT,Int.reduceEq,Int.reduceNe,Int.reduceNeg,Nat.reduceDiv,Nat.reduceMod,Nat.reducePow,Za,ax127,bx127,cx127,hN0,hN]
   refine Zl [3,4,6,11,62,63,64] [false,true,true,false,false,true,false,false,false,true,false,true] ?_
   simp only [push_cast,seval,↓reduceIte]
   refine Zm ?_
   obtain ⟨y130,hy130,hs1_⟩:=bC hs1_
   obtain ⟨y131,hy131,hs1_⟩:=bC hs1_
   refine Zcs Zd (by kernel_rfl) [.low,.low,.low,.low,.low,.low,.low,.low,.low,.low,.pass,.pass,.plain] (fun i=>i < (n+12)) [0,1,2,3,4,5,6,7,8,9,10,11,12] [.low,.low,.low,.low,.low,.low,.low,.low,.low,.low,.pass,.pass,.plain] [] (by kernel_rfl) rfl ?_
   simp only [push_cast,seval,↓reduceIte,Za,hN0,hN]
   repeat (with_reducible refine And.intro (by first | omega | exact Xe rfl | exact Y0 | exact J7 rfl rfl) ?_)
   first | refine PCallA.of (fun _ _=>Zoh hy130) ?_ | refine PCall.of (Zoh hy130) ?_
   simp only [push_cast,seval,↓reduceIte,Za,hN0,hN]
   repeat (with_reducible refine And.intro (by first | omega | exact Xe rfl | exact Y0 | exact J7 rfl rfl) ?_)
   first | refine PCallA.of (fun _ _=>J4 hy131) ?_ | refine PCall.of (J4 hy131) ?_
   simp only [push_cast,seval,↓reduceIte,Za,hN0,hN]
   repeat (with_reducible refine And.intro (by first | omega | exact Xe rfl | exact Y0 | exact J7 rfl rfl) ?_)
   refine Zl [3,4,6,11,12,13,62,63,64] [false,true,true,false,false,true,false,false,false,true,false,true,true] ?_
   simp only [push_cast,seval,↓reduceIte]
   refine Zm ?_
   refine Zm ?_
   obtain ⟨y133,hy133,hs1_⟩:=bC hs1_
   refine Zc Zd [none,none] ?_
   simp only [push_cast,seval,↓reduceIte,Za,hN0,hN]
   repeat (with_reducible refine And.intro (by first | (intro h0;simp only [h0,and_self];done) | (intro h0;simp only [h0,Bool.not_false,Bool.not_true,Bool.true_and,Bool.and_true,true_and,and_true,and_self,imp_self,implies_true,bne_iff_ne,ne_eq,beq_iff_eq];done) | (intros;simp_all;done) | exact True.intro) ?_)
   refine (Zee hy133).then ?_
   simp only [push_cast,seval,↓reduceIte,Za,hN0,hN]
   repeat (with_reducible refine And.intro (by first | (intro h0;simp only [h0,and_self];done) | (intro h0;simp only [h0,Bool.not_false,Bool.not_true,Bool.true_and,Bool.and_true,true_and,and_true,and_self,imp_self,implies_true,bne_iff_ne,ne_eq,beq_iff_eq];done) | (intros;simp_all;done) | exact True.intro) ?_)
   refine Zl [3,4,6,11,12,62,63,64,84] [false,true,true,false,false,true,false,false,false,true,false,true,true] ?_
   simp only [push_cast,seval,↓reduceIte]
   refine Zv (t:=(cond y133 true (!y131.2))) rfl (fun c135 => ?_) (fun c135 => ?_)
   ·replace hs1_:=Zu c135 hs1_
    refine Zm ?_
    refine Zc Zd [] ?_
    simp only [push_cast,seval,↓reduceIte,Za,hN0,hN]
    refine Zl [4,5] [false,false,true,false,false,false,false,false,false,false,false,false,false] ?_
    simp only [push_cast,seval,↓reduceIte]
    refine Z4 ?_
    try simp only [Zk,Ze]
    have hs1_:=Option.some.inj hs1_;subst hs1_
    refine And.intro (fun h=>by cases h) (And.intro rfl (Fit2.of (Zj hU rfl rfl ?_) (by omega)))
    simp only [push_cast,seval,↓reduceIte,Za,hN0,hN]
   replace hs1_:=Zt c135 hs1_
   refine Zy ?_
   try simp only [Zk,Ze]
   refine Zl [3,4,6,11,12,62,63,64] [false,true,true,false,false,true,false,false,false,true,false,true,true] ?_
   simp only [push_cast,seval,↓reduceIte]
   obtain ⟨y134,hy134,hs1_⟩:=bC hs1_
   refine Zc Zd [] ?_
   simp only [push_cast,seval,↓reduceIte,Za,hN0,hN]
   refine (Zoo (i0:=(n+5)) (j0_0:=(n+9)) (by omega) (by omega) (by omega) (by simp only [push_cast,seval,↓reduceIte,Za,Xf,hN0,hN] <;> rfl) (by simp only [push_cast,seval,↓reduceIte,Za,Xf,hN0,hN] <;> rfl) hy134).then ?_
   simp only [push_cast,seval,↓reduceIte,Za,hN0,hN]
   refine Zl [3,4,6,62,63,64] [false,true,true,false,false,true,false,false,false,false,false,false,false,true] ?_
   simp only [push_cast,seval,↓reduceIte]
   refine Zc Zd [] ?_
   simp only [push_cast,seval,↓reduceIte,Za,hN0,hN]
   have hs1_:=Option.some.inj hs1_;subst hs1_
   refine And.intro rfl ?_
   refine Fit2.trans (E':=(⟨92,[],[(3,.ref (n+1) 0),(4,.ref (n+2) 0),(6,.ref (n+5) 0),(62,.sl a0.Kids.length (fl Zn a0.Kids)),(63,.val (.int .i64 (a0.Kids.length:Int))),(64,.val (.int .i64 (IntKind.i64.wrap (s1_.1+1))))]⟩:Env)) (O':=(Zx O n [none,some ⟨false,25,3,1,(Zf a1)⟩,some ⟨false,25,3,1,[.val (.int .i64 0),.val (.slice none 0 0),.val (.slice none 0 0)]⟩,none,none,some ⟨false,25,3,1,[.val (.int .i64 y134.Kind),.sl y134.Words.length (fl (eI .u64) y134.Words),.row (n+13) y134.Kids.length]⟩,none,none,none,none,none,none,none,some ⟨true,25,3,y134.Kids.length,fl Zb y134.Kids⟩])) (n':=(n+14)) (Fit2.of (Zj hU rfl rfl ?_) (by omega)) ?_
   ·simp only [push_cast,seval,↓reduceIte,Za,hN0,hN]
   refine V5 (k:=14) (k':=11) hU [10,1,2,10,10,5,10,10,10,10,10,10,10,9] [0,1,2,0,0,5,0,0,0,13,0] rfl rfl rfl rfl ⟨rfl,rfl⟩ ?_
   simp only [push_cast,seval,↓reduceIte,Za,hN0,hN]
  replace hs1_:=Zt c136 hs1_
  refine Xp ?_
  try simp only [Zk,Ze,↓reduceIte,Nat.reduceEqDiff]
  have hs1_:=Option.some.inj hs1_;subst hs1_
  refine And.intro (fun h=>by cases h) (And.intro rfl (Fit2.of (Zj hU rfl rfl ?_) (by omega)))
  simp only [push_cast,seval,↓reduceIte,Za,hN0,hN]
 rcases z137 with z137 | z137
 ·dsimp only [Xw] at hw h
  refine Jc hw ?_
  try simp only [Zk,Ze,↓reduceIte,Nat.reduceEqDiff]
  have h:=Option.some.inj h;subst h
  refine Zs (.inr rfl) hU [.agg [.val (.int .i64 0),.val (.slice none 0 0),.val (.slice none 0 0)],.val (.bool false)] (by omega) ?_
  simp only [push_cast,seval,↓reduceIte,Za,Try.results94,hN0,hN]
 dsimp only [Xw] at hw h
 refine Yx hw ?_
 try simp only [Zk,Ze,↓reduceIte,Nat.reduceEqDiff]
 refine Zl [4,6] [false,false,true,false,false,true,false,false,false,true,false] ?_
 simp only [push_cast,seval,↓reduceIte]
 refine Zm ?_
 refine Zc Zd [] ?_
 simp only [push_cast,seval,↓reduceIte,Za,hN0,hN]
 refine Zl [4,5] [false,false,true,false,false,false,false,false,false,true,false] ?_
 simp only [push_cast,seval,↓reduceIte]
 refine Z4 ?_
 try simp only [Zk,Ze]
 have h:=Option.some.inj h;subst h
 refine Zs (.inr rfl) hU [.agg [.val (.int .i64 z137.1),.sl z137.2.1.length (fl (eI .u64) z137.2.1),.row (n+9) z137.2.2.length],.val (.bool true)] (by omega) ?_
 simp only [push_cast,seval,↓reduceIte,Za,Try.results94,hN0,hN]
theorem Zqn {Y4:(S_api_Edit→S_api_Tree→Option (S_api_Tree×Bool))} {Yi:(S_api_Edit→S_api_Tree→Option (S_api_Tree×Bool))} {Xh:(S_api_Edit→S_api_Tree→Option (S_api_Tree×Bool))} {Z8:(Zi→S_api_Op→Option (Bool×Zi))} {Z6:(Zi→S_api_Edit→Option (Bool×Zi))} (J4:∀ {a0:S_api_Edit} {a1:S_api_Tree} {r:(S_api_Tree×Bool)} {O:Objs} {n:Nat},Y4 a0 a1=some r→GTo Try.prog 58 [.agg (Zh a0),.agg (Zf a1)] O n (.tup [.agg (Zf r.1),.val (.bool r.2)]) O n) (K3:∀ {a0:S_api_Edit} {a1:S_api_Tree} {r:(S_api_Tree×Bool)} {O:Objs} {n:Nat},Yi a0 a1=some r→GTo Try.prog 94 [.agg (Zh a0),.agg (Zf a1)] O n (.tup [.agg (Zf r.1),.val (.bool r.2)]) O n) (Zah:∀ {a0:S_api_Edit} {a1:S_api_Tree} {r:(S_api_Tree×Bool)} {O:Objs} {n:Nat},Xh a0 a1=some r→GTo Try.prog 95 [.agg (Zh a0),.agg (Zf a1)] O n (.tup [.agg (Zf r.1),.val (.bool r.2)]) O n) (Ju:∀ {a0:Zi} {a1:S_api_Op} {r:(Bool×Zi)} {O:Objs} {n:Nat} {i0 j0_0:Nat},i0 < n→j0_0 < n→i0≠j0_0→O i0=some ⟨false,139,2,1,[.sl a0.left.length (fl Zb a0.left),.row j0_0 a0.out.length]⟩→O j0_0=some ⟨true,25,3,a0.out.length,fl Zb a0.out⟩→Z8 a0 a1=some r→GTo Try.prog 122 [.ref i0 0,.agg (Z7 a1)] O n (.val (.bool r.1)) (Zx ((O.upd j0_0 none).upd i0 (some ⟨false,139,2,1,[.sl r.2.left.length (fl Zb r.2.left),.row n r.2.out.length]⟩)) n [some ⟨true,25,3,r.2.out.length,fl Zb r.2.out⟩]) (n+1)) (Qr:∀ {a0:Zi} {a1:S_api_Edit} {r:(Bool×Zi)} {O:Objs} {n:Nat} {i0 j0_0:Nat},i0 < n→j0_0 < n→i0≠j0_0→O i0=some ⟨false,139,2,1,[.sl a0.left.length (fl Zb a0.left),.row j0_0 a0.out.length]⟩→O j0_0=some ⟨true,25,3,a0.out.length,fl Zb a0.out⟩→Z6 a0 a1=some r→GTo Try.prog 129 [.ref i0 0,.agg (Zh a1)] O n (.val (.bool r.1)) (Zx ((O.upd j0_0 none).upd i0 (some ⟨false,139,2,1,[.sl r.2.left.length (fl Zb r.2.left),.row n r.2.out.length]⟩)) n [some ⟨true,25,3,r.2.out.length,fl Zb r.2.out⟩]) (n+1)) {a0:S_api_Edit} {a1:S_api_Tree} {r:(S_api_Tree×Bool)} {O:Objs} {n:Nat} (h:Zb2 Y4 Yi Xh Z8 Z6 a0 a1=some r):GTo Try.prog 95 [.agg (Zh a0),.agg (Zf a1)] O n (.tup [.agg (Zf r.1),.val (.bool r.2)]) O n:=by
 unfold Zb2 at h
 refine Y8 Zd Try.call95 Try.func95 rfl (Nat.le_of_ble_eq_true rfl) (Nat.le_refl _) fun hU => ?_
 have hN0:O n=none:=hU.fresh _ (Nat.le_refl _)
 have hN:∀ k,O (n+k)=none:=fun k=>hU.fresh _ (Nat.le_add_right _ _)
 show W _ _ _ _ ⟨45,[],[(0,.agg (Zh a0)),(1,.agg (Zf a1))]⟩ (Zx O n []) _
 refine Zr [2,3,4] (Zc Zd [] ?_)
 simp only [push_cast,seval,↓reduceIte,Za,hN0,hN]
 refine Zm ?_
 obtain ⟨z2,hz2,h⟩:=bC h
 refine Y6 (E':=⟨45,[],[(2,.ref n 0),(3,.ref (n+1) 0),(4,.ref (n+2) 0),(19,.val (.bool z2))]⟩) (O':=(Zx O n [some ⟨false,30,11,1,(Zh a0)⟩,some ⟨false,25,3,1,(Zf a1)⟩,some ⟨false,25,3,1,[.val (.int .i64 0),.val (.slice none 0 0),.val (.slice none 0 0)]⟩])) (n0:=(n+3)) ?_ ?_
 ·rcases Bool.eq_false_or_eq_true (a1.Kind != a0.List_) with c5 | c5
  ·replace hz2:=Zu c5 hz2
   refine Zc Zd [some false,some false,some false,some false] ?_
   simp only [push_cast,seval,↓reduceIte,Za,c5,hN0,hN]
   have hz2:=Option.some.inj hz2;subst hz2
   refine And.intro rfl (Fit2.of (Zj hU rfl rfl ?_) (by omega))
   simp only [push_cast,seval,↓reduceIte,Za,c5,hN0,hN]
  replace hz2:=Zt c5 hz2
  obtain ⟨y4,hy4,hz2⟩:=bC hz2
  refine Zc Zd [some true,some true,some true,some true] ?_
  simp only [push_cast,seval,↓reduceIte,Za,c5,hN0,hN]
  refine (Zie hy4).then ?_
  simp only [push_cast,seval,↓reduceIte,Za,c5,hN0,hN]
  have hz2:=Option.some.inj hz2;subst hz2
  refine And.intro rfl (Fit2.of (Zj hU rfl rfl ?_) (by omega))
  simp only [push_cast,seval,↓reduceIte,Za,c5,hN0,hN]
 refine Zv (t:=z2) rfl (fun c13 => ?_) (fun c13 => ?_)
 ·replace h:=Zu c13 h
  refine Zm ?_
  refine Zc Zd [] ?_
  simp only [push_cast,seval,↓reduceIte,Za,hN0,hN]
  refine Zl [4,5] [false,false,true] ?_
  simp only [push_cast,seval,↓reduceIte]
  refine Z4 ?_
  try simp only [Zk,Ze]
  have h:=Option.some.inj h;subst h
  refine Zs (.inr rfl) hU [.agg [.val (.int .i64 0),.val (.slice none 0 0),.val (.slice none 0 0)],.val (.bool false)] (by omega) ?_
  simp only [push_cast,seval,↓reduceIte,Za,Try.results95,hN0,hN]
 replace h:=Zt c13 h
 refine Zy ?_
 try simp only [Zk,Ze]
 refine Zl [2,3,4] [true,true,true] ?_
 simp only [push_cast,seval,↓reduceIte]
 refine Zm ?_
 refine Zc Zd [] ?_
 simp only [push_cast,seval,↓reduceIte,Za,hN0,hN]
 refine Zl [2,3,4,6] [true,true,true,true] ?_
 simp only [push_cast,seval,↓reduceIte]
 refine Zm ?_
 refine Zr [3,4,6,25,26,27] (Zc Zd [] ?_)
 simp only [push_cast,seval,↓reduceIte,Za,hN0,hN]
 refine Zl [3,4,6,25,26,27] [false,true,true,true] ?_
 simp only [push_cast,seval,↓reduceIte]
 refine Ku (E':=(⟨45,[],[(3,.ref (n+1) 0),(4,.ref (n+2) 0),(6,.ref (n+3) 0),(25,.sl a0.Ops.length (fl Zg a0.Ops)),(26,.val (.int .i64 (a0.Ops.length:Int))),(27,.val (.int .i64 0))]⟩:Env)) (O':=(Zx O n [none,some ⟨false,25,3,1,(Zf a1)⟩,some ⟨false,25,3,1,[.val (.int .i64 0),.val (.slice none 0 0),.val (.slice none 0 0)]⟩,some ⟨false,139,2,1,[.sl a1.Kids.length (fl Zb a1.Kids),.row (n+4) ([]:List S_api_Tree).length]⟩,some ⟨true,25,3,([]:List S_api_Tree).length,fl Zb ([]:List S_api_Tree)⟩,none])) (n':=(n+6)) ?_ ?_
 ·refine Fit2.trans (E':=(⟨45,[],[(3,.ref (n+1) 0),(4,.ref (n+2) 0),(6,.ref (n+3) 0),(25,.sl a0.Ops.length (fl Zg a0.Ops)),(26,.val (.int .i64 (a0.Ops.length:Int))),(27,.val (.int .i64 0))]⟩:Env)) (O':=(Zx O n [none,some ⟨false,25,3,1,(Zf a1)⟩,some ⟨false,25,3,1,[.val (.int .i64 0),.val (.slice none 0 0),.val (.slice none 0 0)]⟩,some ⟨false,139,2,1,[.sl a1.Kids.length (fl Zb a1.Kids),.val (.slice none 0 0)]⟩])) (n':=(n+4)) (Fit2.of (Zj hU rfl rfl ?_) (by omega)) ?_
  ·simp only [push_cast,seval,↓reduceIte,Za,hN0,hN]
  refine Fit2.trans (E':=(⟨45,[],[(3,.ref (n+1) 0),(4,.ref (n+2) 0),(6,.ref (n+3) 0),(25,.sl a0.Ops.length (fl Zg a0.Ops)),(26,.val (.int .i64 (a0.Ops.length:Int))),(27,.val (.int .i64 0))]⟩:Env)) (O':=(Zx O n [none,some ⟨false,25,3,1,(Zf a1)⟩,some ⟨false,25,3,1,[.val (.int .i64 0),.val (.slice none 0 0),.val (.slice none 0 0)]⟩,some ⟨false,139,2,1,[.sl a1.Kids.length (fl Zb a1.Kids),.row (n+4) 0]⟩,some ⟨true,25,3,0,[]⟩])) (n':=(n+5)) ?_ ?_
  ·have ha:=Za6 (ba:=n) (E:=(⟨45,[],[(3,.ref (n+1) 0),(4,.ref (n+2) 0),(6,.ref (n+3) 0),(25,.sl a0.Ops.length (fl Zg a0.Ops)),(26,.val (.int .i64 (a0.Ops.length:Int))),(27,.val (.int .i64 0))]⟩:Env)) (O:=(Zx O n [none,some ⟨false,25,3,1,[.val (.int .i64 a1.Kind),.sl a1.Words.length (fl (eI .u64) a1.Words),.sl a1.Kids.length (fl Zb a1.Kids)]⟩,some ⟨false,25,3,1,[.val (.int .i64 0),.val (.slice none 0 0),.val (.slice none 0 0)]⟩,some ⟨false,139,2,1,[.sl a1.Kids.length (fl Zb a1.Kids),.val (.slice none 0 0)]⟩])) (n:=(n+4)) (p:=(n+3)) (k:=1) (q:=⟨false,139,2,1,[.sl a1.Kids.length (fl Zb a1.Kids),.val (.slice none 0 0)]⟩) 25 3 (by simp only [U3,Zdc,List.getElem?_cons_zero,List.getElem?_cons_succ,Option.join_some,Yh]) rfl (by omega)
   simp only [Xj,Y2,Zcr,Za5,List.set_cons_zero,List.set_cons_succ,List.cons_append,List.nil_append,List.length_cons,List.length_nil,Nat.zero_add,Nat.reduceAdd,Nat.reduceLT,Nat.add_assoc] at ha
   exact ha
  refine Fit2.trans (E':=(⟨45,[],[(3,.ref (n+1) 0),(4,.ref (n+2) 0),(6,.ref (n+3) 0),(25,.sl a0.Ops.length (fl Zg a0.Ops)),(26,.val (.int .i64 (a0.Ops.length:Int))),(27,.val (.int .i64 0))]⟩:Env)) (O':=(Zx O n [none,some ⟨false,25,3,1,(Zf a1)⟩,some ⟨false,25,3,1,[.val (.int .i64 0),.val (.slice none 0 0),.val (.slice none 0 0)]⟩,some ⟨false,139,2,1,[.sl a1.Kids.length (fl Zb a1.Kids),.row (n+4) ([]:List S_api_Tree).length]⟩,some ⟨true,25,3,([]:List S_api_Tree).length,fl Zb ([]:List S_api_Tree)⟩])) (n':=(n+5)) (Fit2.of (Zj hU rfl rfl ?_) (by omega)) ?_
  ·simp only [push_cast,seval,↓reduceIte,Za,hN0,hN]
  refine V5 (k:=5) (k':=6) hU [5,1,2,3,4] [0,1,2,3,4,0] rfl rfl rfl rfl ⟨rfl,rfl⟩ ?_
  simp only [push_cast,seval,↓reduceIte,Za,hN0,hN]
 obtain ⟨z12,hz12,h⟩:=bC h
 refine U4 (J:=(Xw (fun z12=>JR n (⟨45,[],[(4,.ref (n+2) 0),(5,.val (.bool false))]⟩:Env) (Zx O n [none,none,some ⟨false,25,3,1,[.val (.int .i64 0),.val (.slice none 0 0),.val (.slice none 0 0)]⟩,none]) (n+4)) (fun z12=>JX 0 n (⟨45,[],[(3,.ref (n+1) 0),(4,.ref (n+2) 0),(6,.ref (n+3) 0)]⟩:Env) (Zx O n [none,some ⟨false,25,3,1,(Zf a1)⟩,some ⟨false,25,3,1,[.val (.int .i64 0),.val (.slice none 0 0),.val (.slice none 0 0)]⟩,some ⟨false,139,2,1,[.sl z12.1.length (fl Zb z12.1),.row (n+4) z12.2.length]⟩,some ⟨true,25,3,z12.2.length,fl Zb z12.2⟩,none]) (n+6)))) (z:=z12) ?_ fun hw => ?_
 ·refine Xg hz12 (fun s0_=>⟨45,[],[(3,.ref (n+1) 0),(4,.ref (n+2) 0),(6,.ref (n+3) 0),(25,.sl a0.Ops.length (fl Zg a0.Ops)),(26,.val (.int .i64 (a0.Ops.length:Int))),(27,.val (.int .i64 s0_.1))]⟩) (fun s0_=>(Zx O n [none,some ⟨false,25,3,1,(Zf a1)⟩,some ⟨false,25,3,1,[.val (.int .i64 0),.val (.slice none 0 0),.val (.slice none 0 0)]⟩,some ⟨false,139,2,1,[.sl s0_.2.1.length (fl Zb s0_.2.1),.row (n+4) s0_.2.2.length]⟩,some ⟨true,25,3,s0_.2.2.length,fl Zb s0_.2.2⟩,none])) (Xw (fun z12=>JR n (⟨45,[],[(4,.ref (n+2) 0),(5,.val (.bool false))]⟩:Env) (Zx O n [none,none,some ⟨false,25,3,1,[.val (.int .i64 0),.val (.slice none 0 0),.val (.slice none 0 0)]⟩,none]) (n+4)) (fun z12=>JX 0 n (⟨45,[],[(3,.ref (n+1) 0),(4,.ref (n+2) 0),(6,.ref (n+3) 0)]⟩:Env) (Zx O n [none,some ⟨false,25,3,1,(Zf a1)⟩,some ⟨false,25,3,1,[.val (.int .i64 0),.val (.slice none 0 0),.val (.slice none 0 0)]⟩,some ⟨false,139,2,1,[.sl z12.1.length (fl Zb z12.1),.row (n+4) z12.2.length]⟩,some ⟨true,25,3,z12.2.length,fl Zb z12.2⟩,none]) (n+6))) ?_
  intro s0_ x0_ hs0_
  unfold J3 at hs0_
  try dsimp only
  refine Zr [3,4,6,25,26,27,28] (Zc Zd [] ?_)
  simp only [push_cast,seval,↓reduceIte,Za,hN0,hN]
  refine Zm ?_
  refine Zv (t:=(decide (s0_.1 < (a0.Ops.length:Int)))) rfl (fun c11 => ?_) (fun c11 => ?_)
  ·replace hs0_:=Zu c11 hs0_
   refine Zy ?_
   try simp only [Zk,Ze]
   refine Zl [3,4,6,25,26,27] [false,true,true,true,true,false] ?_
   simp only [push_cast,seval,↓reduceIte]
   refine Zm ?_
   refine Ym ?_
   refine Zm ?_
   obtain ⟨x7,hx7,ax7,bx7,cx7,hs0_⟩:=bE (f:=Zg) Zda (fun _=>rfl) (by decide) hs0_
   refine Zc Zd [] ?_
   simp only [push_cast,Nat.reduceAdd,Nat.reduceSub,Nat.reduceMul,Nat.reduceLeDiff,Nat.reduceLT,Nat.reduceEqDiff,↓reduceIte,reduceCtorEq,Int.reduceBEq,Int.reduceBNe,Nat.reduceBEq,Int.reduceLE,Int.reduceLT,Int.reduceEq,Int.reduceNe,Int.reduceNeg,Nat.reduceDiv,Nat.reduceMod,Nat.reducePow,Za,ax7,bx7,cx7,hN0,hN]
   refine Zl [3,4,6,8,25,26,27] [false,true,true,true,true,false,true] ?_
   simp only [push_cast,seval,↓reduceIte]
   refine Zm ?_
   obtain ⟨y9,hy9,hs0_⟩:=bC hs0_
   refine Zc Zd [] ?_
   simp only [push_cast,seval,↓reduceIte,Za,hN0,hN]
   refine (Ju (i0:=(n+3)) (j0_0:=(n+4)) (by omega) (by omega) (by omega) (by simp only [push_cast,seval,↓reduceIte,Za,Xf,hN0,hN] <;> rfl) (by simp only [push_cast,seval,↓reduceIte,Za,Xf,hN0,hN] <;> rfl) hy9).then ?_
   simp only [push_cast,seval,↓reduceIte,Za,hN0,hN]
   refine Zl [3,4,6,25,26,27,33] [false,true,true,true,false,false,false,true] ?_
   simp only [push_cast,seval,↓reduceIte]
   refine Zv (t:=(!y9.1)) rfl (fun c10 => ?_) (fun c10 => ?_)
   ·replace hs0_:=Zu c10 hs0_
    refine Zm ?_
    refine Zc Zd [] ?_
    simp only [push_cast,seval,↓reduceIte,Za,hN0,hN]
    refine Zl [4,5] [false,false,true,false,false,false,false,false] ?_
    simp only [push_cast,seval,↓reduceIte]
    refine Z4 ?_
    try simp only [Zk,Ze]
    have hs0_:=Option.some.inj hs0_;subst hs0_
    refine And.intro (fun h=>by cases h) (And.intro rfl (Fit2.of (Zj hU rfl rfl ?_) (by omega)))
    simp only [push_cast,seval,↓reduceIte,Za,hN0,hN]
   replace hs0_:=Zt c10 hs0_
   refine Zy ?_
   try simp only [Zk,Ze]
   refine Zl [3,4,6,25,26,27] [false,true,true,true,false,false,false,true] ?_
   simp only [push_cast,seval,↓reduceIte]
   refine Zc Zd [] ?_
   simp only [push_cast,seval,↓reduceIte,Za,hN0,hN]
   have hs0_:=Option.some.inj hs0_;subst hs0_
   refine And.intro rfl ?_
   refine Fit2.trans (E':=(⟨45,[],[(3,.ref (n+1) 0),(4,.ref (n+2) 0),(6,.ref (n+3) 0),(25,.sl a0.Ops.length (fl Zg a0.Ops)),(26,.val (.int .i64 (a0.Ops.length:Int))),(27,.val (.int .i64 (IntKind.i64.wrap (s0_.1+1))))]⟩:Env)) (O':=(Zx O n [none,some ⟨false,25,3,1,(Zf a1)⟩,some ⟨false,25,3,1,[.val (.int .i64 0),.val (.slice none 0 0),.val (.slice none 0 0)]⟩,some ⟨false,139,2,1,[.sl y9.2.left.length (fl Zb y9.2.left),.row (n+7) y9.2.out.length]⟩,none,none,none,some ⟨true,25,3,y9.2.out.length,fl Zb y9.2.out⟩])) (n':=(n+8)) (Fit2.of (Zj hU rfl rfl ?_) (by omega)) ?_
   ·simp only [push_cast,seval,↓reduceIte,Za,hN0,hN]
   refine V5 (k:=8) (k':=6) hU [5,1,2,3,5,5,5,4] [0,1,2,3,7,0] rfl rfl rfl rfl ⟨rfl,rfl⟩ ?_
   simp only [push_cast,seval,↓reduceIte,Za,hN0,hN]
  replace hs0_:=Zt c11 hs0_
  refine Xp ?_
  try simp only [Zk,Ze,↓reduceIte,Nat.reduceEqDiff]
  have hs0_:=Option.some.inj hs0_;subst hs0_
  refine And.intro (fun h=>by cases h) (And.intro rfl (Fit2.of (Zj hU rfl rfl ?_) (by omega)))
  simp only [push_cast,seval,↓reduceIte,Za,hN0,hN]
 rcases z12 with z12 | z12
 ·dsimp only [Xw] at hw h
  refine Jc hw ?_
  try simp only [Zk,Ze,↓reduceIte,Nat.reduceEqDiff]
  have h:=Option.some.inj h;subst h
  refine Zs (.inr rfl) hU [.agg [.val (.int .i64 0),.val (.slice none 0 0),.val (.slice none 0 0)],.val (.bool false)] (by omega) ?_
  simp only [push_cast,seval,↓reduceIte,Za,Try.results95,hN0,hN]
 dsimp only [Xw] at hw h
 refine Yx hw ?_
 try simp only [Zk,Ze,↓reduceIte,Nat.reduceEqDiff]
 refine Zl [3,4,6] [false,true,true,true,true,false] ?_
 simp only [push_cast,seval,↓reduceIte]
 refine Zm ?_
 refine Zcs Zd (by kernel_rfl) [.plain,.plain,.plain,.plain,.plain,.low,.low,.low,.low,.pass,.plain] (fun i=>i≠n+2) [0,1,2,3,4,5,6,7,8,9,10] [.plain,.plain,.plain,.plain,.plain,.low,.low,.low,.low,.pass,.plain] [] (by kernel_rfl) rfl ?_
 simp only [push_cast,seval,↓reduceIte,Za,hN0,hN]
 repeat (with_reducible refine And.intro (by first | omega | exact Xe rfl | exact Y0 | exact J7 rfl rfl) ?_)
 refine Zl [4,5] [false,false,true,false,true,false] ?_
 simp only [push_cast,seval,↓reduceIte]
 refine Z4 ?_
 try simp only [Zk,Ze]
 have h:=Option.some.inj h;subst h
 refine Zs (.inr rfl) hU [.agg [.val (.int .i64 a1.Kind),.val (.slice none 0 0),.row (n+4) z12.2.length],.val (.bool ((z12.1.length:Int) == 0))] (by omega) ?_
 simp only [push_cast,seval,↓reduceIte,Za,Try.results95,hN0,hN]
theorem Zi0 {Y4:(S_api_Edit→S_api_Tree→Option (S_api_Tree×Bool))} {Yi:(S_api_Edit→S_api_Tree→Option (S_api_Tree×Bool))} {Xh:(S_api_Edit→S_api_Tree→Option (S_api_Tree×Bool))} {Z8:(Zi→S_api_Op→Option (Bool×Zi))} {Z6:(Zi→S_api_Edit→Option (Bool×Zi))} (J4:∀ {a0:S_api_Edit} {a1:S_api_Tree} {r:(S_api_Tree×Bool)} {O:Objs} {n:Nat},Y4 a0 a1=some r→GTo Try.prog 58 [.agg (Zh a0),.agg (Zf a1)] O n (.tup [.agg (Zf r.1),.val (.bool r.2)]) O n) (K3:∀ {a0:S_api_Edit} {a1:S_api_Tree} {r:(S_api_Tree×Bool)} {O:Objs} {n:Nat},Yi a0 a1=some r→GTo Try.prog 94 [.agg (Zh a0),.agg (Zf a1)] O n (.tup [.agg (Zf r.1),.val (.bool r.2)]) O n) (Zah:∀ {a0:S_api_Edit} {a1:S_api_Tree} {r:(S_api_Tree×Bool)} {O:Objs} {n:Nat},Xh a0 a1=some r→GTo Try.prog 95 [.agg (Zh a0),.agg (Zf a1)] O n (.tup [.agg (Zf r.1),.val (.bool r.2)]) O n) (Ju:∀ {a0:Zi} {a1:S_api_Op} {r:(Bool×Zi)} {O:Objs} {n:Nat} {i0 j0_0:Nat},i0 < n→j0_0 < n→i0≠j0_0→O i0=some ⟨false,139,2,1,[.sl a0.left.length (fl Zb a0.left),.row j0_0 a0.out.length]⟩→O j0_0=some ⟨true,25,3,a0.out.length,fl Zb a0.out⟩→Z8 a0 a1=some r→GTo Try.prog 122 [.ref i0 0,.agg (Z7 a1)] O n (.val (.bool r.1)) (Zx ((O.upd j0_0 none).upd i0 (some ⟨false,139,2,1,[.sl r.2.left.length (fl Zb r.2.left),.row n r.2.out.length]⟩)) n [some ⟨true,25,3,r.2.out.length,fl Zb r.2.out⟩]) (n+1)) (Qr:∀ {a0:Zi} {a1:S_api_Edit} {r:(Bool×Zi)} {O:Objs} {n:Nat} {i0 j0_0:Nat},i0 < n→j0_0 < n→i0≠j0_0→O i0=some ⟨false,139,2,1,[.sl a0.left.length (fl Zb a0.left),.row j0_0 a0.out.length]⟩→O j0_0=some ⟨true,25,3,a0.out.length,fl Zb a0.out⟩→Z6 a0 a1=some r→GTo Try.prog 129 [.ref i0 0,.agg (Zh a1)] O n (.val (.bool r.1)) (Zx ((O.upd j0_0 none).upd i0 (some ⟨false,139,2,1,[.sl r.2.left.length (fl Zb r.2.left),.row n r.2.out.length]⟩)) n [some ⟨true,25,3,r.2.out.length,fl Zb r.2.out⟩]) (n+1)) {a0:Zi} {a1:S_api_Op} {r:(Bool×Zi)} {O:Objs} {n:Nat} {i0 j0_0:Nat} (hi0:i0 < n) (Vl:j0_0 < n) (Q4:i0≠j0_0) (ho0:O i0=some ⟨false,139,2,1,[.sl a0.left.length (fl Zb a0.left),.row j0_0 a0.out.length]⟩) (Vy:O j0_0=some ⟨true,25,3,a0.out.length,fl Zb a0.out⟩) (h:Vf Y4 Yi Xh Z8 Z6 a0 a1=some r):GTo Try.prog 122 [.ref i0 0,.agg (Z7 a1)] O n (.val (.bool r.1)) (Zx ((O.upd j0_0 none).upd i0 (some ⟨false,139,2,1,[.sl r.2.left.length (fl Zb r.2.left),.row n r.2.out.length]⟩)) n [some ⟨true,25,3,r.2.out.length,fl Zb r.2.out⟩]) (n+1):=by
 unfold Vf at h
 refine Y8 Zd Try.call122 Try.func122 rfl (Nat.le_of_ble_eq_true rfl) (by omega) fun hU => ?_
 have e0:=Jj (ba:=n) (E:=⟨99,[],Zd4 0 [.ref i0 0,.agg [.val (.int .i64 a1.Kind),.val (.int .i64 a1.N),.sl a1.L.length (fl Zb a1.L),.val (.int .i64 a1.E.Kind),.val (.int .i64 a1.E.Old.Kind),.sl a1.E.Old.Words.length (fl (eI .u64) a1.E.Old.Words),.sl a1.E.Old.Kids.length (fl Zb a1.E.Old.Kids),.val (.int .i64 a1.E.New.Kind),.sl a1.E.New.Words.length (fl (eI .u64) a1.E.New.Words),.sl a1.E.New.Kids.length (fl Zb a1.E.New.Kids),.sl a1.E.Words.length (fl Zo a1.E.Words),.sl a1.E.Kids.length (fl Zn a1.E.Kids),.val (.int .i64 a1.E.List_),.sl a1.E.Ops.length (fl Zg a1.E.Ops)]]⟩) (O:=(Zx O n [])) (n:=n) (i:=i0) (j:=j0_0) (k:=1) (len:=a0.out.length) (q:=⟨false,139,2,1,[.sl a0.left.length (fl Zb a0.left),.row j0_0 a0.out.length]⟩) (qj:=⟨true,25,3,a0.out.length,fl Zb a0.out⟩) (by rw [Yo _ hi0];first | exact ho0 | exact Yh _ _ _) rfl (by rw [Yo _ Vl];exact Vy) Q4 (by omega)
 simp only [Yu _ _ Vl,Yu _ _ hi0,Xj,Y2,X9,Gh Q4,List.set_cons_zero,List.set_cons_succ,List.cons_append,List.nil_append,List.length_cons,List.length_nil,Nat.zero_add,Nat.reduceAdd,Nat.add_assoc] at e0
 refine Ku e0 ?_
 have hU:=(Und.drop hU j0_0)
 have hk0:∀ k,i0 < n+k:=fun k=>by omega
 have hN0:∀ o,Objs.upd (O.upd j0_0 none) i0 o n=none:=fun o=>Q3 hU hi0 _ (Nat.le_refl _)
 have hN:∀ o k,Objs.upd (O.upd j0_0 none) i0 o (n+k)=none:=fun o k=>Q3 hU hi0 _ (Nat.le_add_right _ _)
 show W _ _ _ _ ⟨99,[],[(0,.ref i0 0),(1,.agg (Z7 a1))]⟩ (Zx ((O.upd j0_0 none).upd i0 (some ⟨false,139,2,1,[.sl a0.left.length (fl Zb a0.left),.row n a0.out.length]⟩)) n [some ⟨true,25,3,a0.out.length,fl Zb a0.out⟩]) _
 refine Zr [0,3] (Zc Zd [] ?_)
 simp only [push_cast,seval,↓reduceIte,Za,hi0,hk0,hN0,hN]
 refine Zm ?_
 refine Zr [0,3,7] (Zc Zd [] ?_)
 simp only [push_cast,seval,↓reduceIte,Za,hi0,hk0,hN0,hN]
 refine Ym ?_
 refine Zr [0,3,7,8] (Zc Zd [] ?_)
 simp only [push_cast,seval,↓reduceIte,Za,hi0,hk0,hN0,hN]
 refine Zv (t:=(a1.Kind == 0)) rfl (fun c28 => ?_) (fun c28 => ?_)
 ·replace h:=Zu c28 h
  refine Zm ?_
  obtain ⟨z1,hz1,h⟩:=bC h
  refine Y6 (E':=⟨99,[],[(0,.ref i0 0),(3,.ref (n+1) 0),(22,.val (.bool z1))]⟩) (O':=(Zx ((O.upd j0_0 none).upd i0 (some ⟨false,139,2,1,[.sl a0.left.length (fl Zb a0.left),.row n a0.out.length]⟩)) n [some ⟨true,25,3,a0.out.length,fl Zb a0.out⟩,some ⟨false,69,14,1,(Z7 a1)⟩])) (n0:=(n+2)) ?_ ?_
  ·rcases Bool.eq_false_or_eq_true (decide (a1.N < 0)) with c2 | c2
   ·replace hz1:=Zu c2 hz1
    refine Kq Zd (by kernel_rfl) [some false,some false,some false,some false,some false,some false,some false,some false] (by kernel_rfl) ?_
    simp only [push_cast,seval,↓reduceIte,Za,c2,hi0,hk0,hN0,hN]
    have hz1:=Option.some.inj hz1;subst hz1
    refine And.intro rfl (Fit2.of (Yg hU rfl rfl ?_) (by omega))
    simp only [push_cast,seval,↓reduceIte,Za,c2,hi0,hk0,hN0,hN]
   replace hz1:=Zt c2 hz1
   refine Kq Zd (by kernel_rfl) [some true,some true,some true,some true,some true,some true,some true,some true] (by kernel_rfl) ?_
   simp only [push_cast,seval,↓reduceIte,Za,c2,hi0,hk0,hN0,hN]
   have hz1:=Option.some.inj hz1;subst hz1
   refine And.intro rfl (Fit2.of (Yg hU rfl rfl ?_) (by omega))
   simp only [push_cast,seval,↓reduceIte,Za,c2,hi0,hk0,hN0,hN]
  refine Zv (t:=z1) rfl (fun c9 => ?_) (fun c9 => ?_)
  ·replace h:=Zu c9 h
   refine Zr [4] (Zc Zd [] ?_)
   simp only [push_cast,seval,↓reduceIte,Za,hi0,hk0,hN0,hN]
   refine Z4 ?_
   try simp only [Zk,Ze]
   have h:=Option.some.inj h;subst h
   refine Jr (k:=1) (i:=i0) (q1:=⟨false,139,2,1,[.sl a0.left.length (fl Zb a0.left),.row n a0.out.length]⟩) (L3:=[some ⟨true,25,3,a0.out.length,fl Zb a0.out⟩,none]) (E2:=(⟨99,[],[(4,.val (.bool false))]⟩:Env)) (n3:=(n+2)) (.inr rfl) hU rfl [.val (.bool false)] ?_ ?_
   ·refine Fit2.trans (E':=(⟨99,[],[(4,.val (.bool false))]⟩:Env)) (O':=(Zx ((O.upd j0_0 none).upd i0 (some ⟨false,139,2,1,[.sl a0.left.length (fl Zb a0.left),.row n a0.out.length]⟩)) n [some ⟨true,25,3,a0.out.length,fl Zb a0.out⟩,none])) (n':=(n+2)) (Fit2.of (Yg hU rfl rfl ?_) (by omega)) ?_
    ·simp only [push_cast,seval,↓reduceIte,Za,hi0,hk0,hN0,hN]
    refine X8 (k:=2) (k':=2) hU [0,1] [0,0] rfl rfl rfl rfl ⟨rfl,rfl⟩ ?_
    simp only [push_cast,seval,↓reduceIte,Za,hi0,hk0,hN0,hN]
   simp only [push_cast,seval,↓reduceIte,Za,Try.results122,hi0,hk0,hN0,hN]
  replace h:=Zt c9 h
  refine Zy ?_
  try simp only [Zk,Ze]
  refine Zl [0,3] [true,true] ?_
  simp only [push_cast,seval,↓reduceIte]
  refine Zm ?_
  obtain ⟨l5,al5,bl5,cl5,gl5,h⟩:=bS (lo:=none) (hi:=(some (.i64,a1.N))) (f:=Zb) rfl rfl Zer Vm (fun _=>rfl) h
  obtain ⟨l6,pl6,ql6,el6,h⟩:=bA (k:=l5.length) rfl h
  refine Zfl Zd (by kernel_rfl) [false,false,false,false,false,false,false,false,false,false,false,false,true,false,false,true] [] (by kernel_rfl) ?_
  simp only [push_cast,seval,↓reduceIte,Za,al5,bl5,cl5,gl5,pl6,ql6,el6,hi0,hk0,hN0,hN]
  refine Zhg ⟨99,[],[(0,.ref i0 0),(3,.ref (n+1) 0)]⟩ (Zx ((O.upd j0_0 none).upd i0 (some ⟨false,139,2,1,[.sl a0.left.length (fl Zb a0.left),.row n l6.length]⟩)) n [some ⟨true,25,3,l6.length,fl Zb l6⟩,some ⟨false,69,14,1,(Z7 a1)⟩]) (Yg hU rfl rfl ?_) ?_
  ·simp only [push_cast,seval,↓reduceIte,Za,al5,bl5,cl5,gl5,pl6,ql6,el6,hi0,hk0,hN0,hN]
  refine Zm ?_
  obtain ⟨l8,al8,bl8,cl8,gl8,h⟩:=bS (lo:=(some (.i64,a1.N))) (hi:=none) (f:=Zb) rfl rfl Zer Vm (fun _=>rfl) h
  refine Zfl Zd (by kernel_rfl) [false,false,false,false,false,false,false,false,false,false,true] [] (by kernel_rfl) ?_
  simp only [push_cast,seval,↓reduceIte,Za,al8,bl8,cl8,gl8,hi0,hk0,hN0,hN]
  refine Zl [] [true,false] ?_
  simp only [push_cast,seval,↓reduceIte]
  refine Zr [4] (Zc Zd [] ?_)
  simp only [push_cast,seval,↓reduceIte,Za,hi0,hk0,hN0,hN]
  refine Z4 ?_
  try simp only [Zk,Ze]
  have h:=Option.some.inj h;subst h
  refine Jr (k:=1) (i:=i0) (q1:=⟨false,139,2,1,[.sl l8.length (fl Zb l8),.row n l6.length]⟩) (L3:=[some ⟨true,25,3,l6.length,fl Zb l6⟩,none]) (E2:=(⟨99,[],[(4,.val (.bool true))]⟩:Env)) (n3:=(n+2)) (.inr rfl) hU rfl [.val (.bool true)] ?_ ?_
  ·refine Fit2.trans (E':=(⟨99,[],[(4,.val (.bool true))]⟩:Env)) (O':=(Zx ((O.upd j0_0 none).upd i0 (some ⟨false,139,2,1,[.sl l8.length (fl Zb l8),.row n l6.length]⟩)) n [some ⟨true,25,3,l6.length,fl Zb l6⟩,none])) (n':=(n+2)) (Fit2.of (Yg hU rfl rfl ?_) (by omega)) ?_
   ·simp only [push_cast,seval,↓reduceIte,Za,hi0,hk0,hN0,hN]
   refine X8 (k:=2) (k':=2) hU [0,1] [0,0] rfl rfl rfl rfl ⟨rfl,rfl⟩ ?_
   simp only [push_cast,seval,↓reduceIte,Za,hi0,hk0,hN0,hN]
  simp only [push_cast,seval,↓reduceIte,Za,Try.results122,hi0,hk0,hN0,hN]
 replace h:=Zt c28 h
 refine Zr [0,3,7,48] (Zc Zd [] ?_)
 simp only [push_cast,seval,↓reduceIte,Za,hi0,hk0,hN0,hN]
 refine Zv (t:=(a1.Kind == 1)) rfl (fun c27 => ?_) (fun c27 => ?_)
 ·replace h:=Zu c27 h
  refine Zr [0,3,5] (Zc Zd [] ?_)
  simp only [push_cast,seval,↓reduceIte,Za,hi0,hk0,hN0,hN]
  refine Zm ?_
  obtain ⟨z12,hz12,h⟩:=bC h
  refine Y6 (E':=⟨99,[],[(0,.ref i0 0),(5,.val (.int .i64 (a1.L.length:Int))),(71,.val (.bool z12))]⟩) (O':=(Zx ((O.upd j0_0 none).upd i0 (some ⟨false,139,2,1,[.sl a0.left.length (fl Zb a0.left),.row n a0.out.length]⟩)) n [some ⟨true,25,3,a0.out.length,fl Zb a0.out⟩,none])) (n0:=(n+2)) ?_ ?_
  ·rcases Bool.eq_false_or_eq_true (decide ((a0.left.length:Int) < (a1.L.length:Int))) with c17 | c17
   ·replace hz12:=Zu c17 hz12
    refine Kq Zd (by kernel_rfl) [some false,some false,some false,some false,some false,some false,some false,some false,some false,some false] (by kernel_rfl) ?_
    simp only [push_cast,seval,↓reduceIte,Za,c17,hi0,hk0,hN0,hN]
    have hz12:=Option.some.inj hz12;subst hz12
    refine And.intro rfl (Fit2.of (Yg hU rfl rfl ?_) (by omega))
    simp only [push_cast,seval,↓reduceIte,Za,c17,hi0,hk0,hN0,hN]
   replace hz12:=Zt c17 hz12
   obtain ⟨l15,al15,bl15,cl15,gl15,hz12⟩:=bS (lo:=none) (hi:=(some (.i64,(a1.L.length:Int)))) (f:=Zb) rfl rfl Zer Vm (fun _=>rfl) hz12
   obtain ⟨y16,hy16,hz12⟩:=bC hz12
   refine Kq Zd (by kernel_rfl) [some true,some true,some true,some true,some true,some true,some true,some true,some true,some true] (by kernel_rfl) ?_
   simp only [push_cast,seval,↓reduceIte,Za,c17,al15,bl15,cl15,gl15,hi0,hk0,hN0,hN]
   refine PCall.of (Kc hy16) ?_
   simp only [push_cast,seval,↓reduceIte,Za,c17,al15,bl15,cl15,gl15,hi0,hk0,hN0,hN]
   have hz12:=Option.some.inj hz12;subst hz12
   refine And.intro rfl (Fit2.of (Yg hU rfl rfl ?_) (by omega))
   simp only [push_cast,seval,↓reduceIte,Za,c17,al15,bl15,cl15,gl15,hi0,hk0,hN0,hN]
  refine Zv (t:=z12) rfl (fun c20 => ?_) (fun c20 => ?_)
  ·replace h:=Zu c20 h
   refine Zr [4] (Zc Zd [] ?_)
   simp only [push_cast,seval,↓reduceIte,Za,hi0,hk0,hN0,hN]
   refine Z4 ?_
   try simp only [Zk,Ze]
   have h:=Option.some.inj h;subst h
   refine Jr (k:=1) (i:=i0) (q1:=⟨false,139,2,1,[.sl a0.left.length (fl Zb a0.left),.row n a0.out.length]⟩) (L3:=[some ⟨true,25,3,a0.out.length,fl Zb a0.out⟩,none]) (E2:=(⟨99,[],[(4,.val (.bool false))]⟩:Env)) (n3:=(n+2)) (.inr rfl) hU rfl [.val (.bool false)] ?_ ?_
   ·refine Fit2.trans (E':=(⟨99,[],[(4,.val (.bool false))]⟩:Env)) (O':=(Zx ((O.upd j0_0 none).upd i0 (some ⟨false,139,2,1,[.sl a0.left.length (fl Zb a0.left),.row n a0.out.length]⟩)) n [some ⟨true,25,3,a0.out.length,fl Zb a0.out⟩,none])) (n':=(n+2)) (Fit2.of (Yg hU rfl rfl ?_) (by omega)) ?_
    ·simp only [push_cast,seval,↓reduceIte,Za,hi0,hk0,hN0,hN]
    refine X8 (k:=2) (k':=2) hU [0,1] [0,0] rfl rfl rfl rfl ⟨rfl,rfl⟩ ?_
    simp only [push_cast,seval,↓reduceIte,Za,hi0,hk0,hN0,hN]
   simp only [push_cast,seval,↓reduceIte,Za,Try.results122,hi0,hk0,hN0,hN]
  replace h:=Zt c20 h
  refine Zy ?_
  try simp only [Zk,Ze]
  refine Zl [0,5] [true,false] ?_
  simp only [push_cast,seval,↓reduceIte]
  refine Zm ?_
  obtain ⟨l19,al19,bl19,cl19,gl19,h⟩:=bS (lo:=(some (.i64,(a1.L.length:Int)))) (hi:=none) (f:=Zb) rfl rfl Zer Vm (fun _=>rfl) h
  refine Zc Zd [] ?_
  simp only [push_cast,seval,↓reduceIte,Za,al19,bl19,cl19,gl19,hi0,hk0,hN0,hN]
  refine Zl [] [true,false] ?_
  simp only [push_cast,seval,↓reduceIte]
  refine Zr [4] (Zc Zd [] ?_)
  simp only [push_cast,seval,↓reduceIte,Za,hi0,hk0,hN0,hN]
  refine Z4 ?_
  try simp only [Zk,Ze]
  have h:=Option.some.inj h;subst h
  refine Jr (k:=1) (i:=i0) (q1:=⟨false,139,2,1,[.sl l19.length (fl Zb l19),.row n a0.out.length]⟩) (L3:=[some ⟨true,25,3,a0.out.length,fl Zb a0.out⟩,none]) (E2:=(⟨99,[],[(4,.val (.bool true))]⟩:Env)) (n3:=(n+2)) (.inr rfl) hU rfl [.val (.bool true)] ?_ ?_
  ·refine Fit2.trans (E':=(⟨99,[],[(4,.val (.bool true))]⟩:Env)) (O':=(Zx ((O.upd j0_0 none).upd i0 (some ⟨false,139,2,1,[.sl l19.length (fl Zb l19),.row n a0.out.length]⟩)) n [some ⟨true,25,3,a0.out.length,fl Zb a0.out⟩,none])) (n':=(n+2)) (Fit2.of (Yg hU rfl rfl ?_) (by omega)) ?_
   ·simp only [push_cast,seval,↓reduceIte,Za,hi0,hk0,hN0,hN]
   refine X8 (k:=2) (k':=2) hU [0,1] [0,0] rfl rfl rfl rfl ⟨rfl,rfl⟩ ?_
   simp only [push_cast,seval,↓reduceIte,Za,hi0,hk0,hN0,hN]
  simp only [push_cast,seval,↓reduceIte,Za,Try.results122,hi0,hk0,hN0,hN]
 replace h:=Zt c27 h
 refine Zr [0,3,7,81] (Zc Zd [] ?_)
 simp only [push_cast,seval,↓reduceIte,Za,hi0,hk0,hN0,hN]
 refine Zv (t:=(a1.Kind == 2)) rfl (fun c26 => ?_) (fun c26 => ?_)
 ·replace h:=Zu c26 h
  refine Zm ?_
  obtain ⟨l22,pl22,ql22,el22,h⟩:=bA (k:=a1.L.length) rfl h
  refine Zfl Zd (by kernel_rfl) [false,false,false,false,false,false,false,true,false,false,true] [] (by kernel_rfl) ?_
  simp only [push_cast,seval,↓reduceIte,Za,pl22,ql22,el22,hi0,hk0,hN0,hN]
  refine Zhg ⟨99,[],[]⟩ (Zx ((O.upd j0_0 none).upd i0 (some ⟨false,139,2,1,[.sl a0.left.length (fl Zb a0.left),.row n l22.length]⟩)) n [some ⟨true,25,3,l22.length,fl Zb l22⟩,none]) (Yg hU rfl rfl ?_) ?_
  ·simp only [push_cast,seval,↓reduceIte,Za,pl22,ql22,el22,hi0,hk0,hN0,hN]
  refine Zr [4] (Zc Zd [] ?_)
  simp only [push_cast,seval,↓reduceIte,Za,hi0,hk0,hN0,hN]
  refine Z4 ?_
  try simp only [Zk,Ze]
  have h:=Option.some.inj h;subst h
  refine Jr (k:=1) (i:=i0) (q1:=⟨false,139,2,1,[.sl a0.left.length (fl Zb a0.left),.row n l22.length]⟩) (L3:=[some ⟨true,25,3,l22.length,fl Zb l22⟩,none]) (E2:=(⟨99,[],[(4,.val (.bool true))]⟩:Env)) (n3:=(n+2)) (.inr rfl) hU rfl [.val (.bool true)] ?_ ?_
  ·refine Fit2.trans (E':=(⟨99,[],[(4,.val (.bool true))]⟩:Env)) (O':=(Zx ((O.upd j0_0 none).upd i0 (some ⟨false,139,2,1,[.sl a0.left.length (fl Zb a0.left),.row n l22.length]⟩)) n [some ⟨true,25,3,l22.length,fl Zb l22⟩,none])) (n':=(n+2)) (Fit2.of (Yg hU rfl rfl ?_) (by omega)) ?_
   ·simp only [push_cast,seval,↓reduceIte,Za,hi0,hk0,hN0,hN]
   refine X8 (k:=2) (k':=2) hU [0,1] [0,0] rfl rfl rfl rfl ⟨rfl,rfl⟩ ?_
   simp only [push_cast,seval,↓reduceIte,Za,hi0,hk0,hN0,hN]
  simp only [push_cast,seval,↓reduceIte,Za,Try.results122,hi0,hk0,hN0,hN]
 replace h:=Zt c26 h
 refine Zr [0,3,93] (Zc Zd [] ?_)
 simp only [push_cast,seval,↓reduceIte,Za,hi0,hk0,hN0,hN]
 refine Zv (t:=(a1.Kind == 3)) rfl (fun c25 => ?_) (fun c25 => ?_)
 ·replace h:=Zu c25 h
  refine Zm ?_
  obtain ⟨y24,hy24,h⟩:=bC h
  refine Zc Zd [] ?_
  simp only [push_cast,seval,↓reduceIte,Za,hi0,hk0,hN0,hN]
  refine (Qr (i0:=i0) (j0_0:=n) (by omega) (by omega) (by omega) (by simp only [push_cast,seval,↓reduceIte,Za,Xf,hi0,hk0,hN0,hN] <;> rfl) (by simp only [push_cast,seval,↓reduceIte,Za,Xf,hi0,hk0,hN0,hN] <;> rfl) hy24).then ?_
  simp only [push_cast,seval,↓reduceIte,Za,hi0,hk0,hN0,hN]
  refine Zl [4] [false,false,true] ?_
  simp only [push_cast,seval,↓reduceIte]
  refine Z4 ?_
  try simp only [Zk,Ze]
  have h:=Option.some.inj h;subst h
  refine Jr (k:=1) (i:=i0) (q1:=⟨false,139,2,1,[.sl y24.2.left.length (fl Zb y24.2.left),.row n y24.2.out.length]⟩) (L3:=[some ⟨true,25,3,y24.2.out.length,fl Zb y24.2.out⟩,none]) (E2:=(⟨99,[],[(4,.val (.bool y24.1))]⟩:Env)) (n3:=(n+2)) (.inr rfl) hU rfl [.val (.bool y24.1)] ?_ ?_
  ·refine Fit2.trans (E':=(⟨99,[],[(4,.val (.bool y24.1))]⟩:Env)) (O':=(Zx ((O.upd j0_0 none).upd i0 (some ⟨false,139,2,1,[.sl y24.2.left.length (fl Zb y24.2.left),.row (n+2) y24.2.out.length]⟩)) n [none,none,some ⟨true,25,3,y24.2.out.length,fl Zb y24.2.out⟩])) (n':=(n+3)) (Fit2.of (Yg hU rfl rfl ?_) (by omega)) ?_
   ·simp only [push_cast,seval,↓reduceIte,Za,hi0,hk0,hN0,hN]
   refine X8 (k:=3) (k':=2) hU [1,1,0] [2,0] rfl rfl rfl rfl ⟨rfl,rfl⟩ ?_
   simp only [push_cast,seval,↓reduceIte,Za,hi0,hk0,hN0,hN]
  simp only [push_cast,seval,↓reduceIte,Za,Try.results122,hi0,hk0,hN0,hN]
 replace h:=Zt c25 h
 refine Zy ?_
 try simp only [Zk,Ze]
 refine Zl [] [true,false] ?_
 simp only [push_cast,seval,↓reduceIte]
 refine Zr [4] (Zc Zd [] ?_)
 simp only [push_cast,seval,↓reduceIte,Za,hi0,hk0,hN0,hN]
 refine Z4 ?_
 try simp only [Zk,Ze]
 have h:=Option.some.inj h;subst h
 refine Jr (k:=1) (i:=i0) (q1:=⟨false,139,2,1,[.sl a0.left.length (fl Zb a0.left),.row n a0.out.length]⟩) (L3:=[some ⟨true,25,3,a0.out.length,fl Zb a0.out⟩,none]) (E2:=(⟨99,[],[(4,.val (.bool false))]⟩:Env)) (n3:=(n+2)) (.inr rfl) hU rfl [.val (.bool false)] ?_ ?_
 ·refine Fit2.trans (E':=(⟨99,[],[(4,.val (.bool false))]⟩:Env)) (O':=(Zx ((O.upd j0_0 none).upd i0 (some ⟨false,139,2,1,[.sl a0.left.length (fl Zb a0.left),.row n a0.out.length]⟩)) n [some ⟨true,25,3,a0.out.length,fl Zb a0.out⟩,none])) (n':=(n+2)) (Fit2.of (Yg hU rfl rfl ?_) (by omega)) ?_
  ·simp only [push_cast,seval,↓reduceIte,Za,hi0,hk0,hN0,hN]
  refine X8 (k:=2) (k':=2) hU [0,1] [0,0] rfl rfl rfl rfl ⟨rfl,rfl⟩ ?_
  simp only [push_cast,seval,↓reduceIte,Za,hi0,hk0,hN0,hN]
 simp only [push_cast,seval,↓reduceIte,Za,Try.results122,hi0,hk0,hN0,hN]
theorem Zhb {Y4:(S_api_Edit→S_api_Tree→Option (S_api_Tree×Bool))} {Yi:(S_api_Edit→S_api_Tree→Option (S_api_Tree×Bool))} {Xh:(S_api_Edit→S_api_Tree→Option (S_api_Tree×Bool))} {Z8:(Zi→S_api_Op→Option (Bool×Zi))} {Z6:(Zi→S_api_Edit→Option (Bool×Zi))} (J4:∀ {a0:S_api_Edit} {a1:S_api_Tree} {r:(S_api_Tree×Bool)} {O:Objs} {n:Nat},Y4 a0 a1=some r→GTo Try.prog 58 [.agg (Zh a0),.agg (Zf a1)] O n (.tup [.agg (Zf r.1),.val (.bool r.2)]) O n) (K3:∀ {a0:S_api_Edit} {a1:S_api_Tree} {r:(S_api_Tree×Bool)} {O:Objs} {n:Nat},Yi a0 a1=some r→GTo Try.prog 94 [.agg (Zh a0),.agg (Zf a1)] O n (.tup [.agg (Zf r.1),.val (.bool r.2)]) O n) (Zah:∀ {a0:S_api_Edit} {a1:S_api_Tree} {r:(S_api_Tree×Bool)} {O:Objs} {n:Nat},Xh a0 a1=some r→GTo Try.prog 95 [.agg (Zh a0),.agg (Zf a1)] O n (.tup [.agg (Zf r.1),.val (.bool r.2)]) O n) (Ju:∀ {a0:Zi} {a1:S_api_Op} {r:(Bool×Zi)} {O:Objs} {n:Nat} {i0 j0_0:Nat},i0 < n→j0_0 < n→i0≠j0_0→O i0=some ⟨false,139,2,1,[.sl a0.left.length (fl Zb a0.left),.row j0_0 a0.out.length]⟩→O j0_0=some ⟨true,25,3,a0.out.length,fl Zb a0.out⟩→Z8 a0 a1=some r→GTo Try.prog 122 [.ref i0 0,.agg (Z7 a1)] O n (.val (.bool r.1)) (Zx ((O.upd j0_0 none).upd i0 (some ⟨false,139,2,1,[.sl r.2.left.length (fl Zb r.2.left),.row n r.2.out.length]⟩)) n [some ⟨true,25,3,r.2.out.length,fl Zb r.2.out⟩]) (n+1)) (Qr:∀ {a0:Zi} {a1:S_api_Edit} {r:(Bool×Zi)} {O:Objs} {n:Nat} {i0 j0_0:Nat},i0 < n→j0_0 < n→i0≠j0_0→O i0=some ⟨false,139,2,1,[.sl a0.left.length (fl Zb a0.left),.row j0_0 a0.out.length]⟩→O j0_0=some ⟨true,25,3,a0.out.length,fl Zb a0.out⟩→Z6 a0 a1=some r→GTo Try.prog 129 [.ref i0 0,.agg (Zh a1)] O n (.val (.bool r.1)) (Zx ((O.upd j0_0 none).upd i0 (some ⟨false,139,2,1,[.sl r.2.left.length (fl Zb r.2.left),.row n r.2.out.length]⟩)) n [some ⟨true,25,3,r.2.out.length,fl Zb r.2.out⟩]) (n+1)) {a0:Zi} {a1:S_api_Edit} {r:(Bool×Zi)} {O:Objs} {n:Nat} {i0 j0_0:Nat} (hi0:i0 < n) (Vl:j0_0 < n) (Q4:i0≠j0_0) (ho0:O i0=some ⟨false,139,2,1,[.sl a0.left.length (fl Zb a0.left),.row j0_0 a0.out.length]⟩) (Vy:O j0_0=some ⟨true,25,3,a0.out.length,fl Zb a0.out⟩) (h:Jq Y4 Yi Xh Z8 Z6 a0 a1=some r):GTo Try.prog 129 [.ref i0 0,.agg (Zh a1)] O n (.val (.bool r.1)) (Zx ((O.upd j0_0 none).upd i0 (some ⟨false,139,2,1,[.sl r.2.left.length (fl Zb r.2.left),.row n r.2.out.length]⟩)) n [some ⟨true,25,3,r.2.out.length,fl Zb r.2.out⟩]) (n+1):=by
 unfold Jq at h
 refine Y8 Zd Try.call129 Try.func129 rfl (Nat.le_of_ble_eq_true rfl) (by omega) fun hU => ?_
 have e0:=Jj (ba:=n) (E:=⟨44,[],Zd4 0 [.ref i0 0,.agg [.val (.int .i64 a1.Kind),.val (.int .i64 a1.Old.Kind),.sl a1.Old.Words.length (fl (eI .u64) a1.Old.Words),.sl a1.Old.Kids.length (fl Zb a1.Old.Kids),.val (.int .i64 a1.New.Kind),.sl a1.New.Words.length (fl (eI .u64) a1.New.Words),.sl a1.New.Kids.length (fl Zb a1.New.Kids),.sl a1.Words.length (fl Zo a1.Words),.sl a1.Kids.length (fl Zn a1.Kids),.val (.int .i64 a1.List_),.sl a1.Ops.length (fl Zg a1.Ops)]]⟩) (O:=(Zx O n [])) (n:=n) (i:=i0) (j:=j0_0) (k:=1) (len:=a0.out.length) (q:=⟨false,139,2,1,[.sl a0.left.length (fl Zb a0.left),.row j0_0 a0.out.length]⟩) (qj:=⟨true,25,3,a0.out.length,fl Zb a0.out⟩) (by rw [Yo _ hi0];first | exact ho0 | exact Yh _ _ _) rfl (by rw [Yo _ Vl];exact Vy) Q4 (by omega)
 simp only [Yu _ _ Vl,Yu _ _ hi0,Xj,Y2,X9,Gh Q4,List.set_cons_zero,List.set_cons_succ,List.cons_append,List.nil_append,List.length_cons,List.length_nil,Nat.zero_add,Nat.reduceAdd,Nat.add_assoc] at e0
 refine Ku e0 ?_
 have hU:=(Und.drop hU j0_0)
 have hk0:∀ k,i0 < n+k:=fun k=>by omega
 have hN0:∀ o,Objs.upd (O.upd j0_0 none) i0 o n=none:=fun o=>Q3 hU hi0 _ (Nat.le_refl _)
 have hN:∀ o k,Objs.upd (O.upd j0_0 none) i0 o (n+k)=none:=fun o k=>Q3 hU hi0 _ (Nat.le_add_right _ _)
 show W _ _ _ _ ⟨44,[],[(0,.ref i0 0),(1,.agg (Zh a1))]⟩ (Zx ((O.upd j0_0 none).upd i0 (some ⟨false,139,2,1,[.sl a0.left.length (fl Zb a0.left),.row n a0.out.length]⟩)) n [some ⟨true,25,3,a0.out.length,fl Zb a0.out⟩]) _
 refine Zr [0,3] (Zc Zd [] ?_)
 simp only [push_cast,seval,↓reduceIte,Za,hi0,hk0,hN0,hN]
 refine Zm ?_
 refine Zr [0,3,12] (Zc Zd [] ?_)
 simp only [push_cast,seval,↓reduceIte,Za,hi0,hk0,hN0,hN]
 refine Zv (t:=((a0.left.length:Int) == 0)) rfl (fun c13 => ?_) (fun c13 => ?_)
 ·replace h:=Zu c13 h
  refine Zr [4] (Zc Zd [] ?_)
  simp only [push_cast,seval,↓reduceIte,Za,hi0,hk0,hN0,hN]
  refine Z4 ?_
  try simp only [Zk,Ze]
  have h:=Option.some.inj h;subst h
  refine Jr (k:=1) (i:=i0) (q1:=⟨false,139,2,1,[.sl a0.left.length (fl Zb a0.left),.row n a0.out.length]⟩) (L3:=[some ⟨true,25,3,a0.out.length,fl Zb a0.out⟩,none]) (E2:=(⟨44,[],[(4,.val (.bool false))]⟩:Env)) (n3:=(n+2)) (.inr rfl) hU rfl [.val (.bool false)] ?_ ?_
  ·refine Fit2.trans (E':=(⟨44,[],[(4,.val (.bool false))]⟩:Env)) (O':=(Zx ((O.upd j0_0 none).upd i0 (some ⟨false,139,2,1,[.sl a0.left.length (fl Zb a0.left),.row n a0.out.length]⟩)) n [some ⟨true,25,3,a0.out.length,fl Zb a0.out⟩,none])) (n':=(n+2)) (Fit2.of (Yg hU rfl rfl ?_) (by omega)) ?_
   ·simp only [push_cast,seval,↓reduceIte,Za,hi0,hk0,hN0,hN]
   refine X8 (k:=2) (k':=2) hU [0,1] [0,0] rfl rfl rfl rfl ⟨rfl,rfl⟩ ?_
   simp only [push_cast,seval,↓reduceIte,Za,hi0,hk0,hN0,hN]
  simp only [push_cast,seval,↓reduceIte,Za,Try.results129,hi0,hk0,hN0,hN]
 replace h:=Zt c13 h
 refine Zy ?_
 try simp only [Zk,Ze]
 refine Zl [0,3] [true,true] ?_
 simp only [push_cast,seval,↓reduceIte]
 refine Zm ?_
 obtain ⟨x3,hx3,ax3,bx3,cx3,h⟩:=bE (f:=Zb) Vm (fun _=>rfl) (by decide) h
 obtain ⟨y4,hy4,h⟩:=bC h
 refine Zcs Zd (by kernel_rfl) [.low,.low,.low,.low,.low,.low,.low,.low,.low,.low,.low,.pass,.pass,.plain] (fun i=>i < (n+2)) [0,1,2,3,4,5,6,7,8,9,10,11,12,13] [.low,.low,.low,.low,.low,.low,.low,.low,.low,.low,.low,.pass,.pass,.plain] [] (by kernel_rfl) rfl ?_
 simp only [push_cast,Nat.reduceAdd,Nat.reduceSub,Nat.reduceMul,Nat.reduceLeDiff,Nat.reduceLT,Nat.reduceEqDiff,↓reduceIte,reduceCtorEq,Int.reduceBEq,Int.reduceBNe,Nat.reduceBEq,Int.reduceLE,Int.reduceLT,Int.reduceEq,Int.reduceNe,Int.reduceNeg,Nat.reduceDiv,Nat.reduceMod,Nat.reducePow,Za,ax3,bx3,cx3,hi0,hk0,hN0,hN]
 repeat (with_reducible refine And.intro (by first | omega | exact Xe rfl | exact Y0 | exact J7 rfl rfl) ?_)
 first | refine PCallA.of (fun _ _=>J4 hy4) ?_ | refine PCall.of (J4 hy4) ?_
 simp only [push_cast,Nat.reduceAdd,Nat.reduceSub,Nat.reduceMul,Nat.reduceLeDiff,Nat.reduceLT,Nat.reduceEqDiff,↓reduceIte,reduceCtorEq,Int.reduceBEq,Int.reduceBNe,Nat.reduceBEq,Int.reduceLE,Int.reduceLT,Int.reduceEq,Int.reduceNe,Int.reduceNeg,Nat.reduceDiv,Nat.reduceMod,Nat.reducePow,Za,ax3,bx3,cx3,hi0,hk0,hN0,hN]
 repeat (with_reducible refine And.intro (by first | omega | exact Xe rfl | exact Y0 | exact J7 rfl rfl) ?_)
 refine Zl [0,5,6] [true,false,true] ?_
 simp only [push_cast,seval,↓reduceIte]
 refine Zm ?_
 obtain ⟨l8,pl8,ql8,el8,h⟩:=bA (k:=1) rfl h
 obtain ⟨x9,hx9,ax9,bx9,cx9,h⟩:=bE (f:=Zb) Vm (fun _=>rfl) (by decide) h
 have gu10:Js (fl Zb a0.out++[.val (.int .i64 0),.val (.slice none 0 0),.val (.slice none 0 0)]) [.val (.int .i64 y4.1.Kind),.sl y4.1.Words.length (fl (eI .u64) y4.1.Words),.sl y4.1.Kids.length (fl Zb y4.1.Kids)] (List.length a0.out * 3)=some (fl Zb a0.out++[.val (.int .i64 y4.1.Kind),.sl y4.1.Words.length (fl (eI .u64) y4.1.Words),.sl y4.1.Kids.length (fl Zb y4.1.Kids)]):=Gi (f:=Zb) (sz:=3) (fun _=>rfl) rfl rfl
 refine Zcs Zd (by kernel_rfl) [.low,.low,.low,.low,.low,.low,.pass,.bar,.shp,.fill true,.shp,.shp,.fill false] (fun i=>i < (n+3)) [0,1,2,3,4,5,6,7,8,9,10,11,12] [.low,.low,.low,.low,.low,.low,.pass,.bar,.shp,.fill true,.shp,.shp,.fill false] [] (by kernel_rfl) rfl ?_
 simp only [push_cast,Nat.reduceAdd,Nat.reduceSub,Nat.reduceMul,Nat.reduceLeDiff,Nat.reduceLT,Nat.reduceEqDiff,↓reduceIte,reduceCtorEq,Int.reduceBEq,Int.reduceBNe,Nat.reduceBEq,Int.reduceLE,Int.reduceLT,Int.reduceEq,Int.reduceNe,Int.reduceNeg,Nat.reduceDiv,Nat.reduceMod,Nat.reducePow,Za,pl8,ql8,el8,ax9,bx9,cx9,gu10,hi0,hk0,hN0,hN]
 repeat (with_reducible refine And.intro (by first | omega | exact Xe rfl | exact Y0 | exact J7 rfl rfl) ?_)
 refine Zhg ⟨44,[],[(0,.ref i0 0),(6,.val (.bool y4.2))]⟩ (Zx ((O.upd j0_0 none).upd i0 (some ⟨false,139,2,1,[.sl a0.left.length (fl Zb a0.left),.row n (a0.out++[y4.1]).length]⟩)) n [some ⟨true,25,3,(a0.out++[y4.1]).length,fl Zb (a0.out++[y4.1])⟩,none,none,none]) (Yg hU rfl rfl ?_) ?_
 ·simp only [push_cast,Nat.reduceAdd,Nat.reduceSub,Nat.reduceMul,Nat.reduceLeDiff,Nat.reduceLT,Nat.reduceEqDiff,↓reduceIte,reduceCtorEq,Int.reduceBEq,Int.reduceBNe,Nat.reduceBEq,Int.reduceLE,Int.reduceLT,Int.reduceEq,Int.reduceNe,Int.reduceNeg,Nat.reduceDiv,Nat.reduceMod,Nat.reducePow,Za,pl8,ql8,el8,ax9,bx9,cx9,gu10,hi0,hk0,hN0,hN]
 refine Zm ?_
 obtain ⟨l12,al12,bl12,cl12,gl12,h⟩:=bS (lo:=(some (.i64,1))) (hi:=none) (f:=Zb) rfl rfl Zer Vm (fun _=>rfl) h
 refine Zc Zd [] ?_
 simp only [push_cast,seval,↓reduceIte,Za,al12,bl12,cl12,gl12,hi0,hk0,hN0,hN]
 refine Zl [6] [true,false,false,false] ?_
 simp only [push_cast,seval,↓reduceIte]
 refine Zr [4] (Zc Zd [] ?_)
 simp only [push_cast,seval,↓reduceIte,Za,hi0,hk0,hN0,hN]
 refine Z4 ?_
 try simp only [Zk,Ze]
 have h:=Option.some.inj h;subst h
 refine Jr (k:=1) (i:=i0) (q1:=⟨false,139,2,1,[.sl l12.length (fl Zb l12),.row n (a0.out++[y4.1]).length]⟩) (L3:=[some ⟨true,25,3,(a0.out++[y4.1]).length,fl Zb (a0.out++[y4.1])⟩,none]) (E2:=(⟨44,[],[(4,.val (.bool y4.2))]⟩:Env)) (n3:=(n+2)) (.inr rfl) hU rfl [.val (.bool y4.2)] ?_ ?_
 ·refine Fit2.trans (E':=(⟨44,[],[(4,.val (.bool y4.2))]⟩:Env)) (O':=(Zx ((O.upd j0_0 none).upd i0 (some ⟨false,139,2,1,[.sl l12.length (fl Zb l12),.row n (a0.out++[y4.1]).length]⟩)) n [some ⟨true,25,3,(a0.out++[y4.1]).length,fl Zb (a0.out++[y4.1])⟩,none,none,none])) (n':=(n+4)) (Fit2.of (Yg hU rfl rfl ?_) (by omega)) ?_
  ·simp only [push_cast,seval,↓reduceIte,Za,hi0,hk0,hN0,hN]
  refine X8 (k:=4) (k':=2) hU [0,1,1,1] [0,0] rfl rfl rfl rfl ⟨rfl,rfl⟩ ?_
  simp only [push_cast,seval,↓reduceIte,Za,hi0,hk0,hN0,hN]
 simp only [push_cast,seval,↓reduceIte,Za,Try.results129,hi0,hk0,hN0,hN]
theorem Zni:∀ k,(∀ {a0:S_api_Edit} {a1:S_api_Tree} {r:(S_api_Tree×Bool)} {O:Objs} {n:Nat},(Zq k).1 a0 a1=some r→GTo Try.prog 58 [.agg (Zh a0),.agg (Zf a1)] O n (.tup [.agg (Zf r.1),.val (.bool r.2)]) O n)∧(∀ {a0:S_api_Edit} {a1:S_api_Tree} {r:(S_api_Tree×Bool)} {O:Objs} {n:Nat},(Zq k).2.1 a0 a1=some r→GTo Try.prog 94 [.agg (Zh a0),.agg (Zf a1)] O n (.tup [.agg (Zf r.1),.val (.bool r.2)]) O n)∧(∀ {a0:S_api_Edit} {a1:S_api_Tree} {r:(S_api_Tree×Bool)} {O:Objs} {n:Nat},(Zq k).2.2.1 a0 a1=some r→GTo Try.prog 95 [.agg (Zh a0),.agg (Zf a1)] O n (.tup [.agg (Zf r.1),.val (.bool r.2)]) O n)∧(∀ {a0:Zi} {a1:S_api_Op} {r:(Bool×Zi)} {O:Objs} {n:Nat} {i0 j0_0:Nat},i0 < n→j0_0 < n→i0≠j0_0→O i0=some ⟨false,139,2,1,[.sl a0.left.length (fl Zb a0.left),.row j0_0 a0.out.length]⟩→O j0_0=some ⟨true,25,3,a0.out.length,fl Zb a0.out⟩→(Zq k).2.2.2.1 a0 a1=some r→GTo Try.prog 122 [.ref i0 0,.agg (Z7 a1)] O n (.val (.bool r.1)) (Zx ((O.upd j0_0 none).upd i0 (some ⟨false,139,2,1,[.sl r.2.left.length (fl Zb r.2.left),.row n r.2.out.length]⟩)) n [some ⟨true,25,3,r.2.out.length,fl Zb r.2.out⟩]) (n+1))∧(∀ {a0:Zi} {a1:S_api_Edit} {r:(Bool×Zi)} {O:Objs} {n:Nat} {i0 j0_0:Nat},i0 < n→j0_0 < n→i0≠j0_0→O i0=some ⟨false,139,2,1,[.sl a0.left.length (fl Zb a0.left),.row j0_0 a0.out.length]⟩→O j0_0=some ⟨true,25,3,a0.out.length,fl Zb a0.out⟩→(Zq k).2.2.2.2 a0 a1=some r→GTo Try.prog 129 [.ref i0 0,.agg (Zh a1)] O n (.val (.bool r.1)) (Zx ((O.upd j0_0 none).upd i0 (some ⟨false,139,2,1,[.sl r.2.left.length (fl Zb r.2.left),.row n r.2.out.length]⟩)) n [some ⟨true,25,3,r.2.out.length,fl Zb r.2.out⟩]) (n+1)):=fun k=>by
 induction k with
 | zero=>exact ⟨@fun a0 a1 r O n h=>(nomatch (show (none:Option _)=some _ from h)),@fun a0 a1 r O n h=>(nomatch (show (none:Option _)=some _ from h)),@fun a0 a1 r O n h=>(nomatch (show (none:Option _)=some _ from h)),@fun a0 a1 r O n i0 j0_0 hi0 Vl Q4 ho0 Vy h=>(nomatch (show (none:Option _)=some _ from h)),@fun a0 a1 r O n i0 j0_0 hi0 Vl Q4 ho0 Vy h=>(nomatch (show (none:Option _)=some _ from h))⟩
 | succ k ih=>exact ⟨@fun a0 a1 r O n h=>Zqm (ih.1) (ih.2.1) (ih.2.2.1) (ih.2.2.2.1) (ih.2.2.2.2)  h,@fun a0 a1 r O n h=>Zkh (ih.1) (ih.2.1) (ih.2.2.1) (ih.2.2.2.1) (ih.2.2.2.2)  h,@fun a0 a1 r O n h=>Zqn (ih.1) (ih.2.1) (ih.2.2.1) (ih.2.2.2.1) (ih.2.2.2.2)  h,@fun a0 a1 r O n i0 j0_0 hi0 Vl Q4 ho0 Vy h=>Zi0 (ih.1) (ih.2.1) (ih.2.2.1) (ih.2.2.2.1) (ih.2.2.2.2) hi0 Vl Q4 ho0 Vy h,@fun a0 a1 r O n i0 j0_0 hi0 Vl Q4 ho0 Vy h=>Zhb (ih.1) (ih.2.1) (ih.2.2.1) (ih.2.2.2.1) (ih.2.2.2.2) hi0 Vl Q4 ho0 Vy h⟩
theorem Zsj {a0:S_api_Edit} {a1:S_api_Tree} {r:(S_api_Tree×Bool)} {O:Objs} {n:Nat} (h:Zh8 a0 a1=some r):GTo Try.prog 58 [.agg (Zh a0),.agg (Zf a1)] O n (.tup [.agg (Zf r.1),.val (.bool r.2)]) O n:=by
 obtain ⟨k,hk⟩:=Uh h
 exact (Zni k).1  hk
theorem Zkp {a0:S_api_Edit} {a1:S_api_Tree} {r:(S_api_Tree×Bool)} {O:Objs} {n:Nat} (h:Zb7 a0 a1=some r):GTo Try.prog 23 [.agg (Zh a0),.agg (Zf a1)] O n (.tup [.agg (Zf r.1),.val (.bool r.2)]) O n:=by
 unfold Zb7 at h
 refine Y8 Zd Try.call23 Try.func23 rfl (Nat.le_of_ble_eq_true rfl) (Nat.le_refl _) fun hU => ?_
 have hN0:O n=none:=hU.fresh _ (Nat.le_refl _)
 have hN:∀ k,O (n+k)=none:=fun k=>hU.fresh _ (Nat.le_add_right _ _)
 show W _ _ _ _ ⟨19,[],[(0,.agg (Zh a0)),(1,.agg (Zf a1))]⟩ (Zx O n []) _
 refine Zr [2,3,4] (Zc Zd [] ?_)
 simp only [push_cast,seval,↓reduceIte,Za,hN0,hN]
 refine Zm ?_
 obtain ⟨y2,hy2,h⟩:=bC h
 refine Zc Zd [] ?_
 simp only [push_cast,seval,↓reduceIte,Za,hN0,hN]
 refine (Zsj hy2).then ?_
 simp only [push_cast,seval,↓reduceIte,Za,hN0,hN]
 refine Zl [4,6,7] [false,false,true,true] ?_
 simp only [push_cast,seval,↓reduceIte]
 refine Zm ?_
 refine Zr [4,6,15] (Zc Zd [] ?_)
 simp only [push_cast,seval,↓reduceIte,Za,hN0,hN]
 refine Zv (t:=(!y2.2)) rfl (fun c5 => ?_) (fun c5 => ?_)
 ·replace h:=Zu c5 h
  refine Zm ?_
  refine Zc Zd [] ?_
  simp only [push_cast,seval,↓reduceIte,Za,hN0,hN]
  refine Zl [4,5] [false,false,true,false] ?_
  simp only [push_cast,seval,↓reduceIte]
  refine Z4 ?_
  try simp only [Zk,Ze]
  have h:=Option.some.inj h;subst h
  refine Zs (.inr rfl) hU [.agg [.val (.int .i64 0),.val (.slice none 0 0),.val (.slice none 0 0)],.val (.bool false)] (by omega) ?_
  simp only [push_cast,seval,↓reduceIte,Za,Try.results23,hN0,hN]
 replace h:=Zt c5 h
 refine Zy ?_
 try simp only [Zk,Ze]
 refine Zl [4,6] [false,false,true,true] ?_
 simp only [push_cast,seval,↓reduceIte]
 refine Zm ?_
 obtain ⟨y4,hy4,h⟩:=bC h
 refine Zc Zd [] ?_
 simp only [push_cast,seval,↓reduceIte,Za,hN0,hN]
 refine (Gv hy4).then ?_
 simp only [push_cast,seval,↓reduceIte,Za,hN0,hN]
 refine Zl [4,5] [false,false,true,false] ?_
 simp only [push_cast,seval,↓reduceIte]
 refine Z4 ?_
 try simp only [Zk,Ze]
 have h:=Option.some.inj h;subst h
 refine Zs (.inr rfl) hU [.agg (Zf y4),.val (.bool true)] (by omega) ?_
 simp only [push_cast,seval,↓reduceIte,Za,Try.results23,hN0,hN]
end Go.Proofs.Ytbcgiaijjaocdaa
