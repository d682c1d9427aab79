/- Part YM5 of this seat's mirrors: functions of the seat's program, and the plain functions that they are; each theorem bears its own conditions. -/
import Derived.Test.YtbcgiaijjaocdaaYE
import Derived.Test.YtbcgiaijjaocdaaYM3
namespace Go.Proofs.Ytbcgiaijjaocdaa
open Go.RowKit
set_option linter.unusedVariables false
set_option linter.unusedSimpArgs false
set_option maxRecDepth 100000
set_option maxHeartbeats 1000000
attribute [local push_cast] Zh Zad Z7 Zf U9 Zt7 Zt6 Zuy Zux Zk Ze Zp4 Zkz Zky onW X7 Zd6 Zcu Zp5 Zp6 Ziv evS wok Ja Op.operands Call.operands gop onK onP atK List.all_cons List.all_nil Bool.and_true Bool.true_and Bool.and_self Value.oneCell' List.take_zero List.take_succ_cons List.take_nil List.drop_zero List.drop_succ_cons List.drop_nil List.append_nil Nat.add_zero Nat.zero_add Uz Yq ev Jm Zd4 Zyl Zsg Zsf Zyp Zja Zev Zip Zea Zne Zg4 Ga Zk1 Zk0 Zcv Zj2 Zcw Zkx Zi6 Zuc bLo bHi bMx Zew Zkw Zyn Zi5 Zkl Zgu Zba Zs4 Zyr Zj0 Zyw Zeu Z10 Jl Zi8 gone Zq1 Zli Zlh pop TK.isAgg G.one G.under G.unders List.getD_cons_zero List.getD_cons_succ List.set_cons_zero List.set_cons_succ List.map_cons List.map_nil List.toList_toArray Array.toList_append Option.toArray_none Option.toArray_some Array.toList_map Option.map_some Option.map_none Option.bind_some Option.bind_none List.getElem?_cons_zero List.getElem?_cons_succ List.getElem?_nil List.nil_append List.cons_append List.replicate_succ List.replicate_zero List.length_cons List.length_nil and_true true_and and_false false_and Bool.true_eq_false Bool.false_eq_true forall_const false_implies implies_true IntKind.bits if_true if_false ite_true ite_false eq_self true_implies false_or or_false or_true true_or not_true_eq_false not_false_eq_true decide_true decide_false decide_eq_true_eq decide_eq_false_iff_not beq_iff_eq bne_iff_ne ne_eq Bool.not_eq_true Bool.not_eq_false beq_eq_false_iff_ne bne_eq_false_iff_eq beq_self_eq_true bne_self_eq_false Option.some.injEq exists_eq_left' exists_eq_left ge_iff_le gt_iff_lt decide_not Bool.not_true Bool.not_false imp_self Zyt cond_true cond_false Z7i Z7h Bool.not_not Bool.and_false Bool.false_and Bool.or_true Bool.true_or Bool.or_false Bool.false_or U3 Zdc Zcr Za5 Xj Y2 Option.join_some Nat.add_assoc Int.toNat_natCast eI eB eS eL Xf Zj1 Zi7 Zub Zt9 Zua Z19 Z3x Zj5 Zjk Zu7 Zu5 Zu6 Zxn Zkt Zwz Zmr Ztw Zhk Zty List.length_append G.agg.injEq G.row.injEq G.ref.injEq G.val.injEq G.sl.injEq G.tup.injEq Value.int.injEq Value.bool.injEq Value.string.injEq List.cons.injEq exists_and_left exists_const List.flatten_cons List.flatten_nil Int.le_refl Nat.le_refl X9 Yo Yu Bool.not_eq_true' Bool.not_eq_false' Zwm Zmx Zz8 Z0c Zz7 Z0b Z5y Z5t List.size_toArray Zos Zq4 G.ren G.rens Zso Zhe Zvb Zt1 Zt2 Zri Z0d Zfb G.fn.injEq Zsb Zsc Zwl Z5u Zsa Z0a Z5x Z5w Zz9 Zyz Z3i Option.join_none Yh Ue undef Zkn Arr.len Arr.put_eq Zj4 Znu Zle Zjj Zu4 Zu2 Zu3 onB Z18 Zs3 Zrd Zpa Zpb Zpc Zpd Zpe Zpf Znm Znx Znv Zlg Zjl Znw Zq0 Zqz Zqy Zqx Z3w Z6n Zxm Zuz Gw Zxg Zol Zny Zlf Zy1 Zrf Zi4 Zkk Zfn Zmp Zpg Zph Zpi Zpj Zmy Zmz Zm0 Zm1 Zm2 Zm3 Zm4 Zft prT Zgq Z71 Zzx Zvh Zzy Z72 Zzz Zx5 Zz0 Z73 Zz1 Z74 Zz2 Z75 Zz3 Z76 Zz4 Z4q Zvi Z4r Zvj Z4s Zvk Z4t Zvl Z4u Zvm Z4v Zvn Z4w Zvo Z4x Zvp Z4y Zvq Z4z Zvr Z40 Zvs Z41 Zo8 Zx4 Zer Z42 Zvt Vm Zvu Z43 Zvv Z44 Zvw Z45 Zvx Z46 Zvy Zrj Zvz Z47 Zv0 Z48 Zv1 Z49 Zv2 Zg2 Zv3 Z5a Zv4 Ztl Zv5 Z5b Zv6 Z5c Zv7 Zda Zv8 Z5d Zv9 Zmv Zwa Z5e Zwb Z5f Zwc Z5g Zwd Z5h Zwe Z5i Zwf Z5j Zwg Zx6 Zo9 Z5k Zwh Zza Zrl Zzb Zrm Zzc Zrn Zzd Zro Zze Zrp Zzf Zrq Zzg Zrr Zzh Zrs Zzi Zrt Zzj Zru Zzk Zrv Zzl Zrw Zzm Zrx Zzn Zry Zzo Zrz Zzp Zr0 Zzq Zr1 Zzr Zr2 Zzs Zr3 Zzt Zr4 Zzu Zr5 Zzv Zr6 Zzw Zr7 Zb Ys Zlw Zlu Zk5 Zlc Zly Zjw Zjq Zjo Zlr Zeo Zen Zec Zeg Zep Zd2 Zdx Zdw Zel Zo Qf Zg Zn Xs X1 Y5 Zbx Zbv Zbb Zbk Zb0 Zaz Zaw Zau Zbs Zce Zcd Zca Zcb Zcf Zbu Zbq Zbp Zcc Zgo Zgn Zfz Zf8 Zgp Zff Zfd Zfc Zgm Zoa Zn9 Znh Znr Zob Zls Zlk Zlj Zn5 Yd Za2 Za1 Zar Zat Za3 Gz Gy Gx Zay Yj Zby Zbw Zbc Zbl Zb1 Za0 Zax Zav Zbt Zlv Zlt Zk4 Zlb Zlx Zjv Zjp Zjn Zlq
theorem Zdv {a0:S_api_Tree} {r:Bool} {O:Objs} {n:Nat} (h:Vn a0=some r):GTo Try.prog 97 [.agg (Zf a0)] O n (.val (.bool r)) O n:=by
 unfold Vn at h
 refine Y8 Zd Try.call97 Try.func97 rfl (Nat.le_of_ble_eq_true rfl) (Nat.le_refl _) fun hU => ?_
 have hN0:O n=none:=hU.fresh _ (Nat.le_refl _)
 have hN:∀ k,O (n+k)=none:=fun k=>hU.fresh _ (Nat.le_add_right _ _)
 show W _ _ _ _ ⟨16,[],[(0,.agg (Zf a0))]⟩ (Zx O n []) _
 refine Zr [1] (Zc Zd [] ?_)
 simp only [push_cast,seval,↓reduceIte,Za,hN0,hN]
 refine Zr [2] (Zc Zd [none,none,none,none,none,none,none,none] ?_)
 simp only [push_cast,seval,↓reduceIte,Za,hN0,hN]
 repeat (with_reducible refine And.intro (by first | (intro h0;simp only [h0,and_self];done) | (intro h0;simp only [h0,Bool.not_false,Bool.not_true,Bool.true_and,Bool.and_true,true_and,and_true,and_self,imp_self,implies_true,bne_iff_ne,ne_eq,beq_iff_eq];done) | (intros;simp_all;done) | exact True.intro) ?_)
 refine Z4 ?_
 try simp only [Zk,Ze]
 have h:=Option.some.inj h;subst h
 refine Zs (.inr rfl) hU [.val (.bool (cond (a0.Kind != 0) true (decide (0 < (IntKind.i64.wrap ((a0.Words.length:Int)+(a0.Kids.length:Int)))))))] (by omega) ?_
 simp only [push_cast,seval,↓reduceIte,Za,Try.results97,hN0,hN]
theorem Q8 {a0:Bool} {a1:Bool} {a2:Bool} {a3:S_api_Edit} {r:Bool} {O:Objs} {n:Nat} (h:K0 a0 a1 a2 a3=some r):GTo Try.prog 96 [.val (.bool a0),.val (.bool a1),.val (.bool a2),.ip (Zh a3) 0] O n (.val (.bool r)) O n:=by
 unfold K0 at h
 refine Y8 Zd Try.call96 Try.func96 rfl (Nat.le_of_ble_eq_true rfl) (Nat.le_refl _) fun hU => ?_
 have hN0:O n=none:=hU.fresh _ (Nat.le_refl _)
 have hN:∀ k,O (n+k)=none:=fun k=>hU.fresh _ (Nat.le_add_right _ _)
 show W _ _ _ _ ⟨49,[],[(0,.val (.bool a0)),(1,.val (.bool a1)),(2,.val (.bool a2)),(3,.ip (Zh a3) 0)]⟩ (Zx O n []) _
 refine Zr [0,1,2,3] (Zc Zd [] ?_)
 simp only [push_cast,seval,↓reduceIte,Za,hN0,hN]
 obtain ⟨z3,hz3,h⟩:=bC h
 refine Y6 (E':=⟨49,[],[(7,.val (.bool z3))]⟩) (O':=(Zx O n [])) (n0:=n) ?_ ?_
 ·rcases Bool.eq_false_or_eq_true a0 with c8 | c8
  ·replace hz3:=Zu c8 hz3
   obtain ⟨y6,hy6,hz3⟩:=bC hz3
   rcases Bool.eq_false_or_eq_true y6 with c9 | c9
   ·replace hz3:=Zu c9 hz3
    try rw [c9] at c8
    refine Zc Zd [some true,some true,some true,some true,some false,some false,some false,some true,some false,some false,some false,some false,some false,some false,some false,some false,some false,some false,some false,some false,some false,some false,some false,some false,some false,some false,some false,some false,some false,some false,some false,some false,some false] ?_
    simp only [push_cast,seval,↓reduceIte,Za,c8,c9,hN0,hN]
    refine (Zdv hy6).then ?_
    simp only [push_cast,seval,↓reduceIte,Za,c8,c9,hN0,hN]
    have hz3:=Option.some.inj hz3;subst hz3
    refine And.intro rfl (Fit2.of (Zj hU rfl rfl ?_) (by omega))
    simp only [push_cast,seval,↓reduceIte,Za,c8,c9,hN0,hN]
   replace hz3:=Zt c9 hz3
   try rw [c9] at c8
   obtain ⟨y7,hy7,hz3⟩:=bC hz3
   refine Zc Zd [some true,some true,some true,some true,some true,some true,some true,some true,none,none,none,none,none,none,none,none,none,none,none,none,none,none,none,none,none,none,none,none,none,none,none,none,none] ?_
   simp only [push_cast,seval,↓reduceIte,Za,c8,c9,hN0,hN]
   repeat (with_reducible refine And.intro (by first | (intro h0;simp only [h0,and_self];done) | (intro h0;simp only [h0,Bool.not_false,Bool.not_true,Bool.true_and,Bool.and_true,true_and,and_true,and_self,imp_self,implies_true,bne_iff_ne,ne_eq,beq_iff_eq];done) | (intros;simp_all;done) | exact True.intro) ?_)
   refine (Zdv hy6).then ?_
   simp only [push_cast,seval,↓reduceIte,Za,c8,c9,hN0,hN]
   repeat (with_reducible refine And.intro (by first | (intro h0;simp only [h0,and_self];done) | (intro h0;simp only [h0,Bool.not_false,Bool.not_true,Bool.true_and,Bool.and_true,true_and,and_true,and_self,imp_self,implies_true,bne_iff_ne,ne_eq,beq_iff_eq];done) | (intros;simp_all;done) | exact True.intro) ?_)
   refine (Zdv hy7).then ?_
   simp only [push_cast,seval,↓reduceIte,Za,c8,c9,hN0,hN]
   repeat (with_reducible refine And.intro (by first | (intro h0;simp only [h0,and_self];done) | (intro h0;simp only [h0,Bool.not_false,Bool.not_true,Bool.true_and,Bool.and_true,true_and,and_true,and_self,imp_self,implies_true,bne_iff_ne,ne_eq,beq_iff_eq];done) | (intros;simp_all;done) | exact True.intro) ?_)
   have hz3:=Option.some.inj hz3;subst hz3
   refine And.intro rfl (Fit2.of (Zj hU rfl rfl ?_) (by omega))
   simp only [push_cast,seval,↓reduceIte,Za,c8,c9,hN0,hN]
  replace hz3:=Zt c8 hz3
  refine Zc Zd [some false,some false,some false,some false,some false,some false,some false,some false,some true,some true,none,none,none,none,none,none,none,none,some true,some true,none,none,none,none,none,none,none,none,none,none,none,none,none] ?_
  simp only [push_cast,seval,↓reduceIte,Za,c8,hN0,hN]
  repeat (with_reducible refine And.intro (by first | (intro h0;simp only [h0,and_self];done) | (intro h0;simp only [h0,Bool.not_false,Bool.not_true,Bool.true_and,Bool.and_true,true_and,and_true,and_self,imp_self,implies_true,bne_iff_ne,ne_eq,beq_iff_eq];done) | (intros;simp_all;done) | exact True.intro) ?_)
  have hz3:=Option.some.inj hz3;subst hz3
  refine And.intro rfl (Fit2.of (Zj hU rfl rfl ?_) (by omega))
  simp only [push_cast,seval,↓reduceIte,Za,c8,hN0,hN]
 refine Z4 ?_
 try simp only [Zk,Ze]
 have h:=Option.some.inj h;subst h
 refine Zs (.inr rfl) hU [.val (.bool z3)] (by omega) ?_
 simp only [push_cast,seval,↓reduceIte,Za,Try.results96,hN0,hN]
theorem Zf7 {a0:(List S_api_Tree)} {r:Bool} {O:Objs} {n:Nat} (h:Un a0=some r):GTo Try.prog 141 [.sl a0.length (fl Zb a0)] O n (.val (.bool r)) O n:=by
 unfold Un at h
 refine Y8 Zd Try.call141 Try.func141 rfl (Nat.le_of_ble_eq_true rfl) (Nat.le_refl _) fun hU => ?_
 have hN0:O n=none:=hU.fresh _ (Nat.le_refl _)
 have hN:∀ k,O (n+k)=none:=fun k=>hU.fresh _ (Nat.le_add_right _ _)
 show W _ _ _ _ ⟨15,[],[(0,.sl a0.length (fl Zb a0))]⟩ (Zx O n []) _
 refine Zr [0] (Zc Zd [] ?_)
 simp only [push_cast,seval,↓reduceIte,Za,hN0,hN]
 refine Zm ?_
 refine Zr [5,6,7] (Zc Zd [] ?_)
 simp only [push_cast,seval,↓reduceIte,Za,hN0,hN]
 refine Zl [5,6,7] [] ?_
 simp only [push_cast,seval,↓reduceIte]
 obtain ⟨z5,hz5,h⟩:=bC h
 refine U4 (J:=(Xw (fun z5=>JR n (⟨15,[],[(2,.val (.bool false))]⟩:Env) (Zx O n []) n) (fun z5=>JX 0 n (⟨15,[],[]⟩:Env) (Zx O n []) n))) (z:=z5) ?_ fun hw => ?_
 ·refine Xg hz5 (fun s0_=>⟨15,[],[(5,.sl a0.length (fl Zb a0)),(6,.val (.int .i64 (a0.length:Int))),(7,.val (.int .i64 s0_))]⟩) (fun s0_=>(Zx O n [])) (Xw (fun z5=>JR n (⟨15,[],[(2,.val (.bool false))]⟩:Env) (Zx O n []) n) (fun z5=>JX 0 n (⟨15,[],[]⟩:Env) (Zx O n []) n)) ?_
  intro s0_ x0_ hs0_
  unfold K1 at hs0_
  try dsimp only
  refine Zr [5,6,7,8] (Zc Zd [] ?_)
  simp only [push_cast,seval,↓reduceIte,Za,hN0,hN]
  refine Zm ?_
  refine Zv (t:=(decide (s0_ < (a0.length:Int)))) rfl (fun c4 => ?_) (fun c4 => ?_)
  ·replace hs0_:=Zu c4 hs0_
   refine Zy ?_
   try simp only [Zk,Ze]
   refine Zl [5,6,7] [] ?_
   simp only [push_cast,seval,↓reduceIte]
   refine Zm ?_
   refine Ym ?_
   refine Zm ?_
   obtain ⟨x2,hx2,ax2,bx2,cx2,hs0_⟩:=bE (f:=Zb) Vm (fun _=>rfl) (by decide) hs0_
   refine Zc Zd [] ?_
   simp only [push_cast,Nat.reduceAdd,Nat.reduceSub,Nat.reduceMul,Nat.reduceLeDiff,Nat.reduceLT,Nat.reduceEqDiff,↓reduceIte,reduceCtorEq,Int.reduceBEq,Int.reduceBNe,Nat.reduceBEq,Int.reduceLE,Int.reduceLT,Int.reduceEq,Int.reduceNe,Int.reduceNeg,Nat.reduceDiv,Nat.reduceMod,Nat.reducePow,Za,ax2,bx2,cx2,hN0,hN]
   refine Zl [4,5,6,7] [true] ?_
   simp only [push_cast,seval,↓reduceIte]
   refine Zr [5,6,7,13] (Zc Zd [] ?_)
   simp only [push_cast,seval,↓reduceIte,Za,hN0,hN]
   refine Zv (t:=(x2.Kind != 1)) rfl (fun c3 => ?_) (fun c3 => ?_)
   ·replace hs0_:=Zu c3 hs0_
    refine Zr [2] (Zc Zd [] ?_)
    simp only [push_cast,seval,↓reduceIte,Za,hN0,hN]
    refine Z4 ?_
    try simp only [Zk,Ze]
    have hs0_:=Option.some.inj hs0_;subst hs0_
    refine And.intro (fun h=>by cases h) (And.intro rfl (Fit2.of (Zj hU rfl rfl ?_) (by omega)))
    simp only [push_cast,seval,↓reduceIte,Za,hN0,hN]
   replace hs0_:=Zt c3 hs0_
   refine Zy ?_
   try simp only [Zk,Ze]
   refine Zl [5,6,7] [false] ?_
   simp only [push_cast,seval,↓reduceIte]
   refine Zc Zd [] ?_
   simp only [push_cast,seval,↓reduceIte,Za,hN0,hN]
   have hs0_:=Option.some.inj hs0_;subst hs0_
   refine And.intro rfl (Fit2.of (Zj hU rfl rfl ?_) (by omega))
   simp only [push_cast,seval,↓reduceIte,Za,hN0,hN]
  replace hs0_:=Zt c4 hs0_
  refine Xp ?_
  try simp only [Zk,Ze,↓reduceIte,Nat.reduceEqDiff]
  have hs0_:=Option.some.inj hs0_;subst hs0_
  refine And.intro (fun h=>by cases h) (And.intro rfl (Fit2.of (Zj hU rfl rfl ?_) (by omega)))
  simp only [push_cast,seval,↓reduceIte,Za,hN0,hN]
 rcases z5 with z5 | z5
 ·dsimp only [Xw] at hw h
  refine Jc hw ?_
  try simp only [Zk,Ze,↓reduceIte,Nat.reduceEqDiff]
  have h:=Option.some.inj h;subst h
  refine Zs (.inr rfl) hU [.val (.bool false)] (by omega) ?_
  simp only [push_cast,seval,↓reduceIte,Za,Try.results141,hN0,hN]
 dsimp only [Xw] at hw h
 refine Yx hw ?_
 try simp only [Zk,Ze,↓reduceIte,Nat.reduceEqDiff]
 refine Zl [] [] ?_
 simp only [push_cast,seval,↓reduceIte]
 refine Zr [2] (Zc Zd [] ?_)
 simp only [push_cast,seval,↓reduceIte,Za,hN0,hN]
 refine Z4 ?_
 try simp only [Zk,Ze]
 have h:=Option.some.inj h;subst h
 refine Zs (.inr rfl) hU [.val (.bool true)] (by omega) ?_
 simp only [push_cast,seval,↓reduceIte,Za,Try.results141,hN0,hN]
theorem Zsm {a0:Int} {r:(Int×Bool)} {O:Objs} {n:Nat} (h:Zic a0=some r):GTo Try.prog 144 [.val (.int .i64 a0)] O n (.tup [.val (.int .i64 r.1),.val (.bool r.2)]) O n:=by
 unfold Zic at h
 refine Y8 Zd Try.call144 Try.func144 rfl (Nat.le_of_ble_eq_true rfl) (Nat.le_refl _) fun hU => ?_
 have hN0:O n=none:=hU.fresh _ (Nat.le_refl _)
 have hN:∀ k,O (n+k)=none:=fun k=>hU.fresh _ (Nat.le_add_right _ _)
 show W _ _ _ _ ⟨15,[],[(0,.val (.int .i64 a0))]⟩ (Zx O n []) _
 refine Zr [0] (Zc Zd [] ?_)
 simp only [push_cast,seval,↓reduceIte,Za,hN0,hN]
 refine Zm ?_
 obtain ⟨y6,hy6,ey6,h⟩:=bY (f:=(eI .i64)) (cs:=[.val (.int .i64 0),.val (.int .i64 1),.val (.int .i64 8),.val (.int .i64 16),.val (.int .i64 32),.val (.int .i64 64)]) rfl h
 have g7:=congrArg G.agg ey6
 obtain ⟨y8,hy8,ey8,h⟩:=bY (f:=(eI .i64)) (cs:=[.val (.int .i64 0),.val (.int .i64 0),.val (.int .i64 0),.val (.int .i64 0),.val (.int .i64 0),.val (.int .i64 0)]) rfl h
 have g9:=congrArg (GObj.mk false 157 6 1) ey8
 have g10:=Zfw (f:=(eI .i64)) y8 y6 (fun _=>rfl)
 refine Zc Zd [] ?_
 simp only [push_cast,seval,↓reduceIte,Za,g7,g9,g10,hN0,hN]
 refine Zl [0,4] [true] ?_
 simp only [push_cast,seval,↓reduceIte]
 refine Zm ?_
 refine Zr [0,4,11] (Zc Zd [none,none] ?_)
 simp only [push_cast,seval,↓reduceIte,Za,hN0,hN]
 repeat (with_reducible refine And.intro (by first | (intro h0;simp only [h0,and_self];done) | (intro h0;simp only [h0,Bool.not_false,Bool.not_true,Bool.true_and,Bool.and_true,true_and,and_true,and_self,imp_self,implies_true,bne_iff_ne,ne_eq,beq_iff_eq];done) | (intros;simp_all;done) | exact True.intro) ?_)
 refine Zv (t:=(cond (decide (a0 < 0)) true (decide (6≤a0)))) rfl (fun c13 => ?_) (fun c13 => ?_)
 ·replace h:=Zu c13 h
  refine Zr [2,3] (Zc Zd [] ?_)
  simp only [push_cast,seval,↓reduceIte,Za,hN0,hN]
  refine Z4 ?_
  try simp only [Zk,Ze]
  have h:=Option.some.inj h;subst h
  refine Zs (.inr rfl) hU [.val (.int .i64 0),.val (.bool false)] (by omega) ?_
  simp only [push_cast,seval,↓reduceIte,Za,Try.results144,hN0,hN]
 replace h:=Zt c13 h
 refine Zy ?_
 try simp only [Zk,Ze]
 refine Zl [0,4] [true] ?_
 simp only [push_cast,seval,↓reduceIte]
 obtain ⟨x12,hx12,ax12,bx12,cx12,h⟩:=bEA (f:=(eI .i64)) (b:=6) rfl Zvh (fun _=>rfl) (by decide) h
 refine Zr [2,3] (Zc Zd [] ?_)
 simp only [push_cast,Nat.reduceAdd,Nat.reduceSub,Nat.reduceMul,Nat.reduceLeDiff,Nat.reduceLT,Nat.reduceEqDiff,↓reduceIte,reduceCtorEq,Int.reduceBEq,Int.reduceBNe,Nat.reduceBEq,Int.reduceLE,Int.reduceLT,Int.reduceEq,Int.reduceNe,Int.reduceNeg,Nat.reduceDiv,Nat.reduceMod,Nat.reducePow,Za,ax12,bx12,cx12,hN0,hN]
 refine Z4 ?_
 try simp only [Zk,Ze]
 have h:=Option.some.inj h;subst h
 refine Zs (.inr rfl) hU [.val (.int .i64 x12),.val (.bool true)] (by omega) ?_
 simp only [push_cast,seval,↓reduceIte,Za,Try.results144,hN0,hN]
theorem Zuv {a0:Int} {a1:Int} {r:Bool} {O:Objs} {n:Nat} (h:Ze4 a0 a1=some r):GTo Try.prog 143 [.val (.int .i64 a0),.val (.int .u64 a1)] O n (.val (.bool r)) O n:=by
 unfold Ze4 at h
 refine Y8 Zd Try.call143 Try.func143 rfl (Nat.le_of_ble_eq_true rfl) (Nat.le_refl _) fun hU => ?_
 have hN0:O n=none:=hU.fresh _ (Nat.le_refl _)
 have hN:∀ k,O (n+k)=none:=fun k=>hU.fresh _ (Nat.le_add_right _ _)
 show W _ _ _ _ ⟨19,[],[(0,.val (.int .i64 a0)),(1,.val (.int .u64 a1))]⟩ (Zx O n []) _
 refine Zr [0,1] (Zc Zd [] ?_)
 simp only [push_cast,seval,↓reduceIte,Za,hN0,hN]
 refine Zm ?_
 obtain ⟨y2,hy2,h⟩:=bC h
 refine Zc Zd [] ?_
 simp only [push_cast,seval,↓reduceIte,Za,hN0,hN]
 refine (Zsm hy2).then ?_
 simp only [push_cast,seval,↓reduceIte,Za,hN0,hN]
 refine Zl [1,5,6] [] ?_
 simp only [push_cast,seval,↓reduceIte]
 obtain ⟨z4,hz4,h⟩:=bC h
 refine Y6 (E':=⟨19,[],[(4,.val (.bool z4))]⟩) (O':=(Zx O n [])) (n0:=n) ?_ ?_
 ·rcases Bool.eq_false_or_eq_true y2.2 with c7 | c7
  ·replace hz4:=Zu c7 hz4
   obtain ⟨pu6,hz4⟩:=bG hz4
   refine Zc Zd [some true,some true,some true,some true] ?_
   simp only [push_cast,seval,↓reduceIte,Za,c7,pu6,hN0,hN]
   have hz4:=Option.some.inj hz4;subst hz4
   refine And.intro rfl (Fit2.of (Zj hU rfl rfl ?_) (by omega))
   simp only [push_cast,seval,↓reduceIte,Za,c7,pu6,hN0,hN]
  replace hz4:=Zt c7 hz4
  refine Zc Zd [some false,some false,some false,some false] ?_
  simp only [push_cast,seval,↓reduceIte,Za,c7,hN0,hN]
  have hz4:=Option.some.inj hz4;subst hz4
  refine And.intro rfl (Fit2.of (Zj hU rfl rfl ?_) (by omega))
  simp only [push_cast,seval,↓reduceIte,Za,c7,hN0,hN]
 refine Z4 ?_
 try simp only [Zk,Ze]
 have h:=Option.some.inj h;subst h
 refine Zs (.inr rfl) hU [.val (.bool z4)] (by omega) ?_
 simp only [push_cast,seval,↓reduceIte,Za,Try.results143,hN0,hN]
theorem Zqs {Xo:(S_api_Tree→Option Bool)} {Xi:(S_api_Tree→Int→Option Bool)} {Y1:((List S_api_Tree)→Int→Option Bool)} {Xd:((List S_api_Tree)→Int→Option Bool)} (Zai:∀ {a0:S_api_Tree} {r:Bool} {O:Objs} {n:Nat},Xo a0=some r→GTo Try.prog 123 [.agg (Zf a0)] O n (.val (.bool r)) O n) (Zaj:∀ {a0:S_api_Tree} {a1:Int} {r:Bool} {O:Objs} {n:Nat},Xi a0 a1=some r→GTo Try.prog 130 [.agg (Zf a0),.val (.int .i64 a1)] O n (.val (.bool r)) O n) (Kl:∀ {a0:(List S_api_Tree)} {a1:Int} {r:Bool} {O:Objs} {n:Nat},Y1 a0 a1=some r→GTo Try.prog 140 [.sl a0.length (fl Zb a0),.val (.int .i64 a1)] O n (.val (.bool r)) O n) (Gu:∀ {a0:(List S_api_Tree)} {a1:Int} {r:Bool} {O:Objs} {n:Nat},Xd a0 a1=some r→GTo Try.prog 142 [.sl a0.length (fl Zb a0),.val (.int .i64 a1)] O n (.val (.bool r)) O n) {a0:S_api_Tree} {r:Bool} {O:Objs} {n:Nat} (h:Zdh Xo Xi Y1 Xd a0=some r):GTo Try.prog 123 [.agg (Zf a0)] O n (.val (.bool r)) O n:=by
 unfold Zdh at h
 refine Y8 Zd Try.call123 Try.func123 rfl (Nat.le_of_ble_eq_true rfl) (Nat.le_refl _) fun hU => ?_
 have hN0:O n=none:=hU.fresh _ (Nat.le_refl _)
 have hN:∀ k,O (n+k)=none:=fun k=>hU.fresh _ (Nat.le_add_right _ _)
 show W _ _ _ _ ⟨18,[],[(0,.agg (Zf a0))]⟩ (Zx O n []) _
 refine Zr [1] (Zc Zd [] ?_)
 simp only [push_cast,seval,↓reduceIte,Za,hN0,hN]
 refine Zm ?_
 refine Zr [1,5] (Zc Zd [] ?_)
 simp only [push_cast,seval,↓reduceIte,Za,hN0,hN]
 refine Zv (t:=(a0.Kind == 10)) rfl (fun c3 => ?_) (fun c3 => ?_)
 ·replace h:=Zu c3 h
  refine Zr [2] (Zc Zd [none,none,none,none] ?_)
  simp only [push_cast,seval,↓reduceIte,Za,hN0,hN]
  repeat (with_reducible refine And.intro (by first | (intro h0;simp only [h0,and_self];done) | (intro h0;simp only [h0,Bool.not_false,Bool.not_true,Bool.true_and,Bool.and_true,true_and,and_true,and_self,imp_self,implies_true,bne_iff_ne,ne_eq,beq_iff_eq];done) | (intros;simp_all;done) | exact True.intro) ?_)
  refine Z4 ?_
  try simp only [Zk,Ze]
  have h:=Option.some.inj h;subst h
  refine Zs (.inr rfl) hU [.val (.bool (cond ((a0.Words.length:Int) == 1) ((a0.Kids.length:Int) == 0) false))] (by omega) ?_
  simp only [push_cast,seval,↓reduceIte,Za,Try.results123,hN0,hN]
 replace h:=Zt c3 h
 refine Zy ?_
 try simp only [Zk,Ze]
 refine Zl [1] [true] ?_
 simp only [push_cast,seval,↓reduceIte]
 refine Zm ?_
 obtain ⟨y2,hy2,h⟩:=bC h
 refine Zc Zd [] ?_
 simp only [push_cast,seval,↓reduceIte,Za,hN0,hN]
 refine (Zaj hy2).then ?_
 simp only [push_cast,seval,↓reduceIte,Za,hN0,hN]
 refine Zl [2] [false] ?_
 simp only [push_cast,seval,↓reduceIte]
 refine Z4 ?_
 try simp only [Zk,Ze]
 have h:=Option.some.inj h;subst h
 refine Zs (.inr rfl) hU [.val (.bool y2)] (by omega) ?_
 simp only [push_cast,seval,↓reduceIte,Za,Try.results123,hN0,hN]
theorem Zqt {Xo:(S_api_Tree→Option Bool)} {Xi:(S_api_Tree→Int→Option Bool)} {Y1:((List S_api_Tree)→Int→Option Bool)} {Xd:((List S_api_Tree)→Int→Option Bool)} (Zai:∀ {a0:S_api_Tree} {r:Bool} {O:Objs} {n:Nat},Xo a0=some r→GTo Try.prog 123 [.agg (Zf a0)] O n (.val (.bool r)) O n) (Zaj:∀ {a0:S_api_Tree} {a1:Int} {r:Bool} {O:Objs} {n:Nat},Xi a0 a1=some r→GTo Try.prog 130 [.agg (Zf a0),.val (.int .i64 a1)] O n (.val (.bool r)) O n) (Kl:∀ {a0:(List S_api_Tree)} {a1:Int} {r:Bool} {O:Objs} {n:Nat},Y1 a0 a1=some r→GTo Try.prog 140 [.sl a0.length (fl Zb a0),.val (.int .i64 a1)] O n (.val (.bool r)) O n) (Gu:∀ {a0:(List S_api_Tree)} {a1:Int} {r:Bool} {O:Objs} {n:Nat},Xd a0 a1=some r→GTo Try.prog 142 [.sl a0.length (fl Zb a0),.val (.int .i64 a1)] O n (.val (.bool r)) O n) {a0:S_api_Tree} {a1:Int} {r:Bool} {O:Objs} {n:Nat} (h:Zdi Xo Xi Y1 Xd a0 a1=some r):GTo Try.prog 130 [.agg (Zf a0),.val (.int .i64 a1)] O n (.val (.bool r)) O n:=by
 unfold Zdi at h
 refine Y8 Zd Try.call130 Try.func130 rfl (Nat.le_of_ble_eq_true rfl) (Nat.le_refl _) fun hU => ?_
 have hN0:O n=none:=hU.fresh _ (Nat.le_refl _)
 have hN:∀ k,O (n+k)=none:=fun k=>hU.fresh _ (Nat.le_add_right _ _)
 show W _ _ _ _ ⟨83,[],[(0,.agg (Zf a0)),(1,.val (.int .i64 a1))]⟩ (Zx O n []) _
 refine Zr [1,2] (Zc Zd [] ?_)
 simp only [push_cast,seval,↓reduceIte,Za,hN0,hN]
 refine Zm ?_
 refine Zr [1,2,7] (Zc Zd [] ?_)
 simp only [push_cast,seval,↓reduceIte,Za,hN0,hN]
 refine Zv (t:=(a0.Kind == 0)) rfl (fun c26 => ?_) (fun c26 => ?_)
 ·replace h:=Zu c26 h
  refine Zr [4] (Zc Zd [none,none,none,none] ?_)
  simp only [push_cast,seval,↓reduceIte,Za,hN0,hN]
  repeat (with_reducible refine And.intro (by first | (intro h0;simp only [h0,and_self];done) | (intro h0;simp only [h0,Bool.not_false,Bool.not_true,Bool.true_and,Bool.and_true,true_and,and_true,and_self,imp_self,implies_true,bne_iff_ne,ne_eq,beq_iff_eq];done) | (intros;simp_all;done) | exact True.intro) ?_)
  refine Z4 ?_
  try simp only [Zk,Ze]
  have h:=Option.some.inj h;subst h
  refine Zs (.inr rfl) hU [.val (.bool (cond ((a0.Words.length:Int) == 0) ((a0.Kids.length:Int) == 0) false))] (by omega) ?_
  simp only [push_cast,seval,↓reduceIte,Za,Try.results130,hN0,hN]
 replace h:=Zt c26 h
 refine Zy ?_
 try simp only [Zk,Ze]
 refine Zl [1,2] [true] ?_
 simp only [push_cast,seval,↓reduceIte]
 refine Zm ?_
 refine Zr [1,2,19] (Zc Zd [] ?_)
 simp only [push_cast,seval,↓reduceIte,Za,hN0,hN]
 refine Zv (t:=(a1 == 0)) rfl (fun c25 => ?_) (fun c25 => ?_)
 ·replace h:=Zu c25 h
  refine Zr [4] (Zc Zd [] ?_)
  simp only [push_cast,seval,↓reduceIte,Za,hN0,hN]
  refine Z4 ?_
  try simp only [Zk,Ze]
  have h:=Option.some.inj h;subst h
  refine Zs (.inr rfl) hU [.val (.bool false)] (by omega) ?_
  simp only [push_cast,seval,↓reduceIte,Za,Try.results130,hN0,hN]
 replace h:=Zt c25 h
 refine Zy ?_
 try simp only [Zk,Ze]
 refine Zl [1,2] [true] ?_
 simp only [push_cast,seval,↓reduceIte]
 refine Zm ?_
 refine Zr [1,2,22] (Zc Zd [] ?_)
 simp only [push_cast,seval,↓reduceIte,Za,hN0,hN]
 refine Zv (t:=(a0.Kind == 1)) rfl (fun c24 => ?_) (fun c24 => ?_)
 ·replace h:=Zu c24 h
  obtain ⟨z2,hz2,h⟩:=bC h
  refine Y6 (E':=⟨83,[],[(4,.val (.bool z2))]⟩) (O':=(Zx O n [none])) (n0:=(n+1)) ?_ ?_
  ·rcases Bool.eq_false_or_eq_true (decide ((a0.Words.length:Int) < 65536)) with c5 | c5
   ·replace hz2:=Zu c5 hz2
    rcases Bool.eq_false_or_eq_true (decide ((a0.Kids.length:Int) < 65536)) with c6 | c6
    ·replace hz2:=Zu c6 hz2
     try rw [c6] at c5
     obtain ⟨y4,hy4,hz2⟩:=bC hz2
     refine Zc Zd [none,none,none,none,some true,some true,some true,some true,some true] ?_
     simp only [push_cast,seval,↓reduceIte,Za,c5,c6,hN0,hN]
     repeat (with_reducible refine And.intro (by first | (intro h0;simp only [h0,and_self];done) | (intro h0;simp only [h0,Bool.not_false,Bool.not_true,Bool.true_and,Bool.and_true,true_and,and_true,and_self,imp_self,implies_true,bne_iff_ne,ne_eq,beq_iff_eq];done) | (intros;simp_all;done) | exact True.intro) ?_)
     refine (Kl hy4).then ?_
     simp only [push_cast,seval,↓reduceIte,Za,c5,c6,hN0,hN]
     repeat (with_reducible refine And.intro (by first | (intro h0;simp only [h0,and_self];done) | (intro h0;simp only [h0,Bool.not_false,Bool.not_true,Bool.true_and,Bool.and_true,true_and,and_true,and_self,imp_self,implies_true,bne_iff_ne,ne_eq,beq_iff_eq];done) | (intros;simp_all;done) | exact True.intro) ?_)
     have hz2:=Option.some.inj hz2;subst hz2
     refine And.intro rfl (Fit2.of (Zj hU rfl rfl ?_) (by omega))
     simp only [push_cast,seval,↓reduceIte,Za,c5,c6,hN0,hN]
    replace hz2:=Zt c6 hz2
    try rw [c6] at c5
    refine Zc Zd [none,none,none,none,some false,some false,some false,some false,some false] ?_
    simp only [push_cast,seval,↓reduceIte,Za,c5,c6,hN0,hN]
    repeat (with_reducible refine And.intro (by first | (intro h0;simp only [h0,and_self];done) | (intro h0;simp only [h0,Bool.not_false,Bool.not_true,Bool.true_and,Bool.and_true,true_and,and_true,and_self,imp_self,implies_true,bne_iff_ne,ne_eq,beq_iff_eq];done) | (intros;simp_all;done) | exact True.intro) ?_)
    have hz2:=Option.some.inj hz2;subst hz2
    refine And.intro rfl (Fit2.of (Zj hU rfl rfl ?_) (by omega))
    simp only [push_cast,seval,↓reduceIte,Za,c5,c6,hN0,hN]
   replace hz2:=Zt c5 hz2
   refine Zc Zd [none,none,none,none,some false,some false,some false,some false,some false] ?_
   simp only [push_cast,seval,↓reduceIte,Za,c5,hN0,hN]
   repeat (with_reducible refine And.intro (by first | (intro h0;simp only [h0,and_self];done) | (intro h0;simp only [h0,Bool.not_false,Bool.not_true,Bool.true_and,Bool.and_true,true_and,and_true,and_self,imp_self,implies_true,bne_iff_ne,ne_eq,beq_iff_eq];done) | (intros;simp_all;done) | exact True.intro) ?_)
   have hz2:=Option.some.inj hz2;subst hz2
   refine And.intro rfl (Fit2.of (Zj hU rfl rfl ?_) (by omega))
   simp only [push_cast,seval,↓reduceIte,Za,c5,hN0,hN]
  refine Z4 ?_
  try simp only [Zk,Ze]
  have h:=Option.some.inj h;subst h
  refine Zs (.inr rfl) hU [.val (.bool z2)] (by omega) ?_
  simp only [push_cast,seval,↓reduceIte,Za,Try.results130,hN0,hN]
 replace h:=Zt c24 h
 refine Zy ?_
 try simp only [Zk,Ze]
 refine Zl [1,2] [true] ?_
 simp only [push_cast,seval,↓reduceIte]
 refine Zm ?_
 refine Zm ?_
 obtain ⟨y8,hy8,h⟩:=bC h
 refine Zc Zd [none,none,none,none,none,none,none,none] ?_
 simp only [push_cast,seval,↓reduceIte,Za,hN0,hN]
 repeat (with_reducible refine And.intro (by first | (intro h0;simp only [h0,and_self];done) | (intro h0;simp only [h0,Bool.not_false,Bool.not_true,Bool.true_and,Bool.and_true,true_and,and_true,and_self,imp_self,implies_true,bne_iff_ne,ne_eq,beq_iff_eq];done) | (intros;simp_all;done) | exact True.intro) ?_)
 refine (Zie hy8).then ?_
 simp only [push_cast,seval,↓reduceIte,Za,hN0,hN]
 repeat (with_reducible refine And.intro (by first | (intro h0;simp only [h0,and_self];done) | (intro h0;simp only [h0,Bool.not_false,Bool.not_true,Bool.true_and,Bool.and_true,true_and,and_true,and_self,imp_self,implies_true,bne_iff_ne,ne_eq,beq_iff_eq];done) | (intros;simp_all;done) | exact True.intro) ?_)
 refine Zl [1,2,55] [true] ?_
 simp only [push_cast,seval,↓reduceIte]
 refine Zv (t:=(cond (cond (!y8) true (decide (0 < (a0.Words.length:Int)))) true (decide (1048576≤(a0.Kids.length:Int))))) rfl (fun c23 => ?_) (fun c23 => ?_)
 ·replace h:=Zu c23 h
  refine Zr [4] (Zc Zd [] ?_)
  simp only [push_cast,seval,↓reduceIte,Za,hN0,hN]
  refine Z4 ?_
  try simp only [Zk,Ze]
  have h:=Option.some.inj h;subst h
  refine Zs (.inr rfl) hU [.val (.bool false)] (by omega) ?_
  simp only [push_cast,seval,↓reduceIte,Za,Try.results130,hN0,hN]
 replace h:=Zt c23 h
 refine Zy ?_
 try simp only [Zk,Ze]
 refine Zl [1,2] [true] ?_
 simp only [push_cast,seval,↓reduceIte]
 refine Zm ?_
 refine Zr [1,2,57] (Zc Zd [] ?_)
 simp only [push_cast,seval,↓reduceIte,Za,hN0,hN]
 refine Ym ?_
 refine Zr [1,2,57,58] (Zc Zd [] ?_)
 simp only [push_cast,seval,↓reduceIte,Za,hN0,hN]
 refine Zv (t:=(a0.Kind == 8)) rfl (fun c22 => ?_) (fun c22 => ?_)
 ·replace h:=Zu c22 h
  refine Zm ?_
  obtain ⟨y10,hy10,h⟩:=bC h
  refine Zc Zd [] ?_
  simp only [push_cast,seval,↓reduceIte,Za,hN0,hN]
  refine (Kl hy10).then ?_
  simp only [push_cast,seval,↓reduceIte,Za,hN0,hN]
  refine Zl [4] [false] ?_
  simp only [push_cast,seval,↓reduceIte]
  refine Z4 ?_
  try simp only [Zk,Ze]
  have h:=Option.some.inj h;subst h
  refine Zs (.inr rfl) hU [.val (.bool y10)] (by omega) ?_
  simp only [push_cast,seval,↓reduceIte,Za,Try.results130,hN0,hN]
 replace h:=Zt c22 h
 refine Zr [1,2,65] (Zc Zd [] ?_)
 simp only [push_cast,seval,↓reduceIte,Za,hN0,hN]
 refine Zv (t:=(a0.Kind == 9)) rfl (fun c21 => ?_) (fun c21 => ?_)
 ·replace h:=Zu c21 h
  obtain ⟨z13,hz13,h⟩:=bC h
  refine Y6 (E':=⟨83,[],[(4,.val (.bool z13))]⟩) (O':=(Zx O n [none])) (n0:=(n+1)) ?_ ?_
  ·obtain ⟨y16,hy16,hz13⟩:=bC hz13
   rcases Bool.eq_false_or_eq_true y16 with c18 | c18
   ·replace hz13:=Zu c18 hz13
    obtain ⟨y17,hy17,hz13⟩:=bC hz13
    refine Zc Zd [some true,some true,some true,some true,some true] ?_
    simp only [push_cast,seval,↓reduceIte,Za,c18,hN0,hN]
    refine (Zf7 hy16).then ?_
    simp only [push_cast,seval,↓reduceIte,Za,c18,hN0,hN]
    refine (Kl hy17).then ?_
    simp only [push_cast,seval,↓reduceIte,Za,c18,hN0,hN]
    have hz13:=Option.some.inj hz13;subst hz13
    refine And.intro rfl (Fit2.of (Zj hU rfl rfl ?_) (by omega))
    simp only [push_cast,seval,↓reduceIte,Za,c18,hN0,hN]
   replace hz13:=Zt c18 hz13
   refine Zc Zd [some false,some false,some false,some false,some false] ?_
   simp only [push_cast,seval,↓reduceIte,Za,c18,hN0,hN]
   refine (Zf7 hy16).then ?_
   simp only [push_cast,seval,↓reduceIte,Za,c18,hN0,hN]
   have hz13:=Option.some.inj hz13;subst hz13
   refine And.intro rfl (Fit2.of (Zj hU rfl rfl ?_) (by omega))
   simp only [push_cast,seval,↓reduceIte,Za,c18,hN0,hN]
  refine Z4 ?_
  try simp only [Zk,Ze]
  have h:=Option.some.inj h;subst h
  refine Zs (.inr rfl) hU [.val (.bool z13)] (by omega) ?_
  simp only [push_cast,seval,↓reduceIte,Za,Try.results130,hN0,hN]
 replace h:=Zt c21 h
 refine Zy ?_
 try simp only [Zk,Ze]
 refine Zl [2] [true] ?_
 simp only [push_cast,seval,↓reduceIte]
 refine Zm ?_
 obtain ⟨y20,hy20,h⟩:=bC h
 refine Zc Zd [] ?_
 simp only [push_cast,seval,↓reduceIte,Za,hN0,hN]
 refine (Gu hy20).then ?_
 simp only [push_cast,seval,↓reduceIte,Za,hN0,hN]
 refine Zl [4] [false] ?_
 simp only [push_cast,seval,↓reduceIte]
 refine Z4 ?_
 try simp only [Zk,Ze]
 have h:=Option.some.inj h;subst h
 refine Zs (.inr rfl) hU [.val (.bool y20)] (by omega) ?_
 simp only [push_cast,seval,↓reduceIte,Za,Try.results130,hN0,hN]
theorem Zmj {Xo:(S_api_Tree→Option Bool)} {Xi:(S_api_Tree→Int→Option Bool)} {Y1:((List S_api_Tree)→Int→Option Bool)} {Xd:((List S_api_Tree)→Int→Option Bool)} (Zai:∀ {a0:S_api_Tree} {r:Bool} {O:Objs} {n:Nat},Xo a0=some r→GTo Try.prog 123 [.agg (Zf a0)] O n (.val (.bool r)) O n) (Zaj:∀ {a0:S_api_Tree} {a1:Int} {r:Bool} {O:Objs} {n:Nat},Xi a0 a1=some r→GTo Try.prog 130 [.agg (Zf a0),.val (.int .i64 a1)] O n (.val (.bool r)) O n) (Kl:∀ {a0:(List S_api_Tree)} {a1:Int} {r:Bool} {O:Objs} {n:Nat},Y1 a0 a1=some r→GTo Try.prog 140 [.sl a0.length (fl Zb a0),.val (.int .i64 a1)] O n (.val (.bool r)) O n) (Gu:∀ {a0:(List S_api_Tree)} {a1:Int} {r:Bool} {O:Objs} {n:Nat},Xd a0 a1=some r→GTo Try.prog 142 [.sl a0.length (fl Zb a0),.val (.int .i64 a1)] O n (.val (.bool r)) O n) {a0:(List S_api_Tree)} {a1:Int} {r:Bool} {O:Objs} {n:Nat} (h:Zac Xo Xi Y1 Xd a0 a1=some r):GTo Try.prog 140 [.sl a0.length (fl Zb a0),.val (.int .i64 a1)] O n (.val (.bool r)) O n:=by
 unfold Zac at h
 refine Y8 Zd Try.call140 Try.func140 rfl (Nat.le_of_ble_eq_true rfl) (Nat.le_refl _) fun hU => ?_
 have hN0:O n=none:=hU.fresh _ (Nat.le_refl _)
 have hN:∀ k,O (n+k)=none:=fun k=>hU.fresh _ (Nat.le_add_right _ _)
 show W _ _ _ _ ⟨18,[],[(0,.sl a0.length (fl Zb a0)),(1,.val (.int .i64 a1))]⟩ (Zx O n []) _
 refine Zr [0,1] (Zc Zd [] ?_)
 simp only [push_cast,seval,↓reduceIte,Za,hN0,hN]
 refine Zm ?_
 refine Zr [1,7,8,9] (Zc Zd [] ?_)
 simp only [push_cast,seval,↓reduceIte,Za,hN0,hN]
 refine Zl [1,7,8,9] [] ?_
 simp only [push_cast,seval,↓reduceIte]
 obtain ⟨z7,hz7,h⟩:=bC h
 refine U4 (J:=(Xw (fun z7=>JR n (⟨18,[],[(4,.val (.bool false))]⟩:Env) (Zx O n []) n) (fun z7=>JX 0 n (⟨18,[],[]⟩:Env) (Zx O n []) n))) (z:=z7) ?_ fun hw => ?_
 ·refine Xg hz7 (fun s0_=>⟨18,[],[(1,.val (.int .i64 a1)),(7,.sl a0.length (fl Zb a0)),(8,.val (.int .i64 (a0.length:Int))),(9,.val (.int .i64 s0_))]⟩) (fun s0_=>(Zx O n [])) (Xw (fun z7=>JR n (⟨18,[],[(4,.val (.bool false))]⟩:Env) (Zx O n []) n) (fun z7=>JX 0 n (⟨18,[],[]⟩:Env) (Zx O n []) n)) ?_
  intro s0_ x0_ hs0_
  unfold Vu at hs0_
  try dsimp only
  refine Zr [1,7,8,9,10] (Zc Zd [] ?_)
  simp only [push_cast,seval,↓reduceIte,Za,hN0,hN]
  refine Zm ?_
  refine Zv (t:=(decide (s0_ < (a0.length:Int)))) rfl (fun c6 => ?_) (fun c6 => ?_)
  ·replace hs0_:=Zu c6 hs0_
   refine Zy ?_
   try simp only [Zk,Ze]
   refine Zl [1,7,8,9] [] ?_
   simp only [push_cast,seval,↓reduceIte]
   refine Zm ?_
   refine Ym ?_
   refine Zm ?_
   obtain ⟨x2,hx2,ax2,bx2,cx2,hs0_⟩:=bE (f:=Zb) Vm (fun _=>rfl) (by decide) hs0_
   refine Zc Zd [] ?_
   simp only [push_cast,Nat.reduceAdd,Nat.reduceSub,Nat.reduceMul,Nat.reduceLeDiff,Nat.reduceLT,Nat.reduceEqDiff,↓reduceIte,reduceCtorEq,Int.reduceBEq,Int.reduceBNe,Nat.reduceBEq,Int.reduceLE,Int.reduceLT,Int.reduceEq,Int.reduceNe,Int.reduceNeg,Nat.reduceDiv,Nat.reduceMod,Nat.reducePow,Za,ax2,bx2,cx2,hN0,hN]
   refine Zl [1,6,7,8,9] [true] ?_
   simp only [push_cast,seval,↓reduceIte]
   refine Zm ?_
   obtain ⟨y4,hy4,hs0_⟩:=bC hs0_
   refine Zc Zd [] ?_
   simp only [push_cast,seval,↓reduceIte,Za,hN0,hN]
   refine (Zaj hy4).then ?_
   simp only [push_cast,seval,↓reduceIte,Za,hN0,hN]
   refine Zl [1,7,8,9,16] [false] ?_
   simp only [push_cast,seval,↓reduceIte]
   refine Zv (t:=(!y4)) rfl (fun c5 => ?_) (fun c5 => ?_)
   ·replace hs0_:=Zu c5 hs0_
    refine Zr [4] (Zc Zd [] ?_)
    simp only [push_cast,seval,↓reduceIte,Za,hN0,hN]
    refine Z4 ?_
    try simp only [Zk,Ze]
    have hs0_:=Option.some.inj hs0_;subst hs0_
    refine And.intro (fun h=>by cases h) (And.intro rfl (Fit2.of (Zj hU rfl rfl ?_) (by omega)))
    simp only [push_cast,seval,↓reduceIte,Za,hN0,hN]
   replace hs0_:=Zt c5 hs0_
   refine Zy ?_
   try simp only [Zk,Ze]
   refine Zl [1,7,8,9] [false] ?_
   simp only [push_cast,seval,↓reduceIte]
   refine Zc Zd [] ?_
   simp only [push_cast,seval,↓reduceIte,Za,hN0,hN]
   have hs0_:=Option.some.inj hs0_;subst hs0_
   refine And.intro rfl (Fit2.of (Zj hU rfl rfl ?_) (by omega))
   simp only [push_cast,seval,↓reduceIte,Za,hN0,hN]
  replace hs0_:=Zt c6 hs0_
  refine Xp ?_
  try simp only [Zk,Ze,↓reduceIte,Nat.reduceEqDiff]
  have hs0_:=Option.some.inj hs0_;subst hs0_
  refine And.intro (fun h=>by cases h) (And.intro rfl (Fit2.of (Zj hU rfl rfl ?_) (by omega)))
  simp only [push_cast,seval,↓reduceIte,Za,hN0,hN]
 rcases z7 with z7 | z7
 ·dsimp only [Xw] at hw h
  refine Jc hw ?_
  try simp only [Zk,Ze,↓reduceIte,Nat.reduceEqDiff]
  have h:=Option.some.inj h;subst h
  refine Zs (.inr rfl) hU [.val (.bool false)] (by omega) ?_
  simp only [push_cast,seval,↓reduceIte,Za,Try.results140,hN0,hN]
 dsimp only [Xw] at hw h
 refine Yx hw ?_
 try simp only [Zk,Ze,↓reduceIte,Nat.reduceEqDiff]
 refine Zl [] [] ?_
 simp only [push_cast,seval,↓reduceIte]
 refine Zr [4] (Zc Zd [] ?_)
 simp only [push_cast,seval,↓reduceIte,Za,hN0,hN]
 refine Z4 ?_
 try simp only [Zk,Ze]
 have h:=Option.some.inj h;subst h
 refine Zs (.inr rfl) hU [.val (.bool true)] (by omega) ?_
 simp only [push_cast,seval,↓reduceIte,Za,Try.results140,hN0,hN]
theorem Zmi {Xo:(S_api_Tree→Option Bool)} {Xi:(S_api_Tree→Int→Option Bool)} {Y1:((List S_api_Tree)→Int→Option Bool)} {Xd:((List S_api_Tree)→Int→Option Bool)} (Zai:∀ {a0:S_api_Tree} {r:Bool} {O:Objs} {n:Nat},Xo a0=some r→GTo Try.prog 123 [.agg (Zf a0)] O n (.val (.bool r)) O n) (Zaj:∀ {a0:S_api_Tree} {a1:Int} {r:Bool} {O:Objs} {n:Nat},Xi a0 a1=some r→GTo Try.prog 130 [.agg (Zf a0),.val (.int .i64 a1)] O n (.val (.bool r)) O n) (Kl:∀ {a0:(List S_api_Tree)} {a1:Int} {r:Bool} {O:Objs} {n:Nat},Y1 a0 a1=some r→GTo Try.prog 140 [.sl a0.length (fl Zb a0),.val (.int .i64 a1)] O n (.val (.bool r)) O n) (Gu:∀ {a0:(List S_api_Tree)} {a1:Int} {r:Bool} {O:Objs} {n:Nat},Xd a0 a1=some r→GTo Try.prog 142 [.sl a0.length (fl Zb a0),.val (.int .i64 a1)] O n (.val (.bool r)) O n) {a0:(List S_api_Tree)} {a1:Int} {r:Bool} {O:Objs} {n:Nat} (h:Zab Xo Xi Y1 Xd a0 a1=some r):GTo Try.prog 142 [.sl a0.length (fl Zb a0),.val (.int .i64 a1)] O n (.val (.bool r)) O n:=by
 unfold Zab at h
 refine Y8 Zd Try.call142 Try.func142 rfl (Nat.le_of_ble_eq_true rfl) (Nat.le_refl _) fun hU => ?_
 have hN0:O n=none:=hU.fresh _ (Nat.le_refl _)
 have hN:∀ k,O (n+k)=none:=fun k=>hU.fresh _ (Nat.le_add_right _ _)
 show W _ _ _ _ ⟨31,[],[(0,.sl a0.length (fl Zb a0)),(1,.val (.int .i64 a1))]⟩ (Zx O n []) _
 refine Zr [0,1] (Zc Zd [] ?_)
 simp only [push_cast,seval,↓reduceIte,Za,hN0,hN]
 refine Zm ?_
 refine Zr [1,7,8,9] (Zc Zd [] ?_)
 simp only [push_cast,seval,↓reduceIte,Za,hN0,hN]
 refine Zl [1,7,8,9] [] ?_
 simp only [push_cast,seval,↓reduceIte]
 obtain ⟨z17,hz17,h⟩:=bC h
 refine U4 (J:=(Xw (fun z17=>JR n (⟨31,[],[(4,.val (.bool false))]⟩:Env) (Zx O n []) n) (fun z17=>JX 0 n (⟨31,[],[]⟩:Env) (Zx O n []) n))) (z:=z17) ?_ fun hw => ?_
 ·refine Xg hz17 (fun s0_=>⟨31,[],[(1,.val (.int .i64 a1)),(7,.sl a0.length (fl Zb a0)),(8,.val (.int .i64 (a0.length:Int))),(9,.val (.int .i64 s0_))]⟩) (fun s0_=>(Zx O n [])) (Xw (fun z17=>JR n (⟨31,[],[(4,.val (.bool false))]⟩:Env) (Zx O n []) n) (fun z17=>JX 0 n (⟨31,[],[]⟩:Env) (Zx O n []) n)) ?_
  intro s0_ x0_ hs0_
  unfold Vt at hs0_
  try dsimp only
  refine Zr [1,7,8,9,10] (Zc Zd [] ?_)
  simp only [push_cast,seval,↓reduceIte,Za,hN0,hN]
  refine Zm ?_
  refine Zv (t:=(decide (s0_ < (a0.length:Int)))) rfl (fun c16 => ?_) (fun c16 => ?_)
  ·replace hs0_:=Zu c16 hs0_
   refine Zy ?_
   try simp only [Zk,Ze]
   refine Zl [1,7,8,9] [] ?_
   simp only [push_cast,seval,↓reduceIte]
   refine Zm ?_
   refine Ym ?_
   refine Zm ?_
   obtain ⟨x2,hx2,ax2,bx2,cx2,hs0_⟩:=bE (f:=Zb) Vm (fun _=>rfl) (by decide) hs0_
   refine Zc Zd [] ?_
   simp only [push_cast,Nat.reduceAdd,Nat.reduceSub,Nat.reduceMul,Nat.reduceLeDiff,Nat.reduceLT,Nat.reduceEqDiff,↓reduceIte,reduceCtorEq,Int.reduceBEq,Int.reduceBNe,Nat.reduceBEq,Int.reduceLE,Int.reduceLT,Int.reduceEq,Int.reduceNe,Int.reduceNeg,Nat.reduceDiv,Nat.reduceMod,Nat.reducePow,Za,ax2,bx2,cx2,hN0,hN]
   refine Zl [1,6,7,8,9] [true] ?_
   simp only [push_cast,seval,↓reduceIte]
   obtain ⟨z6,hz6,hs0_⟩:=bC hs0_
   refine Y6 (E':=⟨31,[],[(1,.val (.int .i64 a1)),(7,.sl a0.length (fl Zb a0)),(8,.val (.int .i64 (a0.length:Int))),(9,.val (.int .i64 s0_)),(29,.val (.bool z6))]⟩) (O':=(Zx O n [none])) (n0:=(n+1)) ?_ ?_
   ·rcases Bool.eq_false_or_eq_true (x2.Kind != 10) with c13 | c13
    ·replace hz6:=Zu c13 hz6
     refine Zc Zd [some false,some false,some false,some false,some false,some false,some false,some false,some false,some false] ?_
     simp only [push_cast,seval,↓reduceIte,Za,c13,hN0,hN]
     have hz6:=Option.some.inj hz6;subst hz6
     refine And.intro rfl (Fit2.of (Zj hU rfl rfl ?_) (by omega))
     simp only [push_cast,seval,↓reduceIte,Za,c13,hN0,hN]
    replace hz6:=Zt c13 hz6
    obtain ⟨y10,hy10,hz6⟩:=bC hz6
    rcases Bool.eq_false_or_eq_true y10 with c14 | c14
    ·replace hz6:=Zu c14 hz6
     try rw [c14] at c13
     obtain ⟨x11,hx11,ax11,bx11,cx11,hz6⟩:=bE (f:=(eI .u64)) Zg2 (fun _=>rfl) (by decide) hz6
     obtain ⟨y12,hy12,hz6⟩:=bC hz6
     refine Zc Zd [some true,some true,some true,some true,some true,some true,some true,some true,some true,some true] ?_
     simp only [push_cast,Nat.reduceAdd,Nat.reduceSub,Nat.reduceMul,Nat.reduceLeDiff,Nat.reduceLT,Nat.reduceEqDiff,↓reduceIte,reduceCtorEq,Int.reduceBEq,Int.reduceBNe,Nat.reduceBEq,Int.reduceLE,Int.reduceLT,Int.reduceEq,Int.reduceNe,Int.reduceNeg,Nat.reduceDiv,Nat.reduceMod,Nat.reducePow,Za,c13,c14,ax11,bx11,cx11,hN0,hN]
     refine (Zai hy10).then ?_
     simp only [push_cast,Nat.reduceAdd,Nat.reduceSub,Nat.reduceMul,Nat.reduceLeDiff,Nat.reduceLT,Nat.reduceEqDiff,↓reduceIte,reduceCtorEq,Int.reduceBEq,Int.reduceBNe,Nat.reduceBEq,Int.reduceLE,Int.reduceLT,Int.reduceEq,Int.reduceNe,Int.reduceNeg,Nat.reduceDiv,Nat.reduceMod,Nat.reducePow,Za,c13,c14,ax11,bx11,cx11,hN0,hN]
     refine (Zuv hy12).then ?_
     simp only [push_cast,Nat.reduceAdd,Nat.reduceSub,Nat.reduceMul,Nat.reduceLeDiff,Nat.reduceLT,Nat.reduceEqDiff,↓reduceIte,reduceCtorEq,Int.reduceBEq,Int.reduceBNe,Nat.reduceBEq,Int.reduceLE,Int.reduceLT,Int.reduceEq,Int.reduceNe,Int.reduceNeg,Nat.reduceDiv,Nat.reduceMod,Nat.reducePow,Za,c13,c14,ax11,bx11,cx11,hN0,hN]
     have hz6:=Option.some.inj hz6;subst hz6
     refine And.intro rfl (Fit2.of (Zj hU rfl rfl ?_) (by omega))
     simp only [push_cast,Nat.reduceAdd,Nat.reduceSub,Nat.reduceMul,Nat.reduceLeDiff,Nat.reduceLT,Nat.reduceEqDiff,↓reduceIte,reduceCtorEq,Int.reduceBEq,Int.reduceBNe,Nat.reduceBEq,Int.reduceLE,Int.reduceLT,Int.reduceEq,Int.reduceNe,Int.reduceNeg,Nat.reduceDiv,Nat.reduceMod,Nat.reducePow,Za,c13,c14,ax11,bx11,cx11,hN0,hN]
    replace hz6:=Zt c14 hz6
    try rw [c14] at c13
    refine Zc Zd [some true,some true,some true,some false,some false,some false,some false,some false,some false,some false] ?_
    simp only [push_cast,seval,↓reduceIte,Za,c13,c14,hN0,hN]
    refine (Zai hy10).then ?_
    simp only [push_cast,seval,↓reduceIte,Za,c13,c14,hN0,hN]
    have hz6:=Option.some.inj hz6;subst hz6
    refine And.intro rfl (Fit2.of (Zj hU rfl rfl ?_) (by omega))
    simp only [push_cast,seval,↓reduceIte,Za,c13,c14,hN0,hN]
   refine Zv (t:=z6) rfl (fun c15 => ?_) (fun c15 => ?_)
   ·replace hs0_:=Zu c15 hs0_
    refine Zr [4] (Zc Zd [] ?_)
    simp only [push_cast,seval,↓reduceIte,Za,hN0,hN]
    refine Z4 ?_
    try simp only [Zk,Ze]
    have hs0_:=Option.some.inj hs0_;subst hs0_
    refine And.intro (fun h=>by cases h) (And.intro rfl (Fit2.of (Zj hU rfl rfl ?_) (by omega)))
    simp only [push_cast,seval,↓reduceIte,Za,hN0,hN]
   replace hs0_:=Zt c15 hs0_
   refine Zy ?_
   try simp only [Zk,Ze]
   refine Zl [1,7,8,9] [false] ?_
   simp only [push_cast,seval,↓reduceIte]
   refine Zc Zd [] ?_
   simp only [push_cast,seval,↓reduceIte,Za,hN0,hN]
   have hs0_:=Option.some.inj hs0_;subst hs0_
   refine And.intro rfl (Fit2.of (Zj hU rfl rfl ?_) (by omega))
   simp only [push_cast,seval,↓reduceIte,Za,hN0,hN]
  replace hs0_:=Zt c16 hs0_
  refine Xp ?_
  try simp only [Zk,Ze,↓reduceIte,Nat.reduceEqDiff]
  have hs0_:=Option.some.inj hs0_;subst hs0_
  refine And.intro (fun h=>by cases h) (And.intro rfl (Fit2.of (Zj hU rfl rfl ?_) (by omega)))
  simp only [push_cast,seval,↓reduceIte,Za,hN0,hN]
 rcases z17 with z17 | z17
 ·dsimp only [Xw] at hw h
  refine Jc hw ?_
  try simp only [Zk,Ze,↓reduceIte,Nat.reduceEqDiff]
  have h:=Option.some.inj h;subst h
  refine Zs (.inr rfl) hU [.val (.bool false)] (by omega) ?_
  simp only [push_cast,seval,↓reduceIte,Za,Try.results142,hN0,hN]
 dsimp only [Xw] at hw h
 refine Yx hw ?_
 try simp only [Zk,Ze,↓reduceIte,Nat.reduceEqDiff]
 refine Zl [] [] ?_
 simp only [push_cast,seval,↓reduceIte]
 refine Zr [4] (Zc Zd [] ?_)
 simp only [push_cast,seval,↓reduceIte,Za,hN0,hN]
 refine Z4 ?_
 try simp only [Zk,Ze]
 have h:=Option.some.inj h;subst h
 refine Zs (.inr rfl) hU [.val (.bool true)] (by omega) ?_
 simp only [push_cast,seval,↓reduceIte,Za,Try.results142,hN0,hN]
theorem Znk:∀ k,(∀ {a0:S_api_Tree} {r:Bool} {O:Objs} {n:Nat},(Z5 k).1 a0=some r→GTo Try.prog 123 [.agg (Zf a0)] O n (.val (.bool r)) O n)∧(∀ {a0:S_api_Tree} {a1:Int} {r:Bool} {O:Objs} {n:Nat},(Z5 k).2.1 a0 a1=some r→GTo Try.prog 130 [.agg (Zf a0),.val (.int .i64 a1)] O n (.val (.bool r)) O n)∧(∀ {a0:(List S_api_Tree)} {a1:Int} {r:Bool} {O:Objs} {n:Nat},(Z5 k).2.2.1 a0 a1=some r→GTo Try.prog 140 [.sl a0.length (fl Zb a0),.val (.int .i64 a1)] O n (.val (.bool r)) O n)∧(∀ {a0:(List S_api_Tree)} {a1:Int} {r:Bool} {O:Objs} {n:Nat},(Z5 k).2.2.2 a0 a1=some r→GTo Try.prog 142 [.sl a0.length (fl Zb a0),.val (.int .i64 a1)] O n (.val (.bool r)) O n):=fun k=>by
 induction k with
 | zero=>exact ⟨@fun a0 r O n h=>(nomatch (show (none:Option _)=some _ from h)),@fun a0 a1 r O n h=>(nomatch (show (none:Option _)=some _ from h)),@fun a0 a1 r O n h=>(nomatch (show (none:Option _)=some _ from h)),@fun a0 a1 r O n h=>(nomatch (show (none:Option _)=some _ from h))⟩
 | succ k ih=>exact ⟨@fun a0 r O n h=>Zqs (ih.1) (ih.2.1) (ih.2.2.1) (ih.2.2.2)  h,@fun a0 a1 r O n h=>Zqt (ih.1) (ih.2.1) (ih.2.2.1) (ih.2.2.2)  h,@fun a0 a1 r O n h=>Zmj (ih.1) (ih.2.1) (ih.2.2.1) (ih.2.2.2)  h,@fun a0 a1 r O n h=>Zmi (ih.1) (ih.2.1) (ih.2.2.1) (ih.2.2.2)  h⟩
theorem Zkq {a0:S_api_Tree} {r:Bool} {O:Objs} {n:Nat} (h:Zfm a0=some r):GTo Try.prog 123 [.agg (Zf a0)] O n (.val (.bool r)) O n:=by
 obtain ⟨k,hk⟩:=Uh h
 exact (Znk k).1  hk
theorem Zg9 {a0:S_api_Tree} {r:Bool} {O:Objs} {n:Nat} (h:Zb8 a0=some r):GTo Try.prog 98 [.agg (Zf a0)] O n (.val (.bool r)) O n:=by
 unfold Zb8 at h
 refine Y8 Zd Try.call98 Try.func98 rfl (Nat.le_of_ble_eq_true rfl) (Nat.le_refl _) fun hU => ?_
 have hN0:O n=none:=hU.fresh _ (Nat.le_refl _)
 have hN:∀ k,O (n+k)=none:=fun k=>hU.fresh _ (Nat.le_add_right _ _)
 show W _ _ _ _ ⟨10,[],[(0,.agg (Zf a0))]⟩ (Zx O n []) _
 refine Zr [1] (Zc Zd [] ?_)
 simp only [push_cast,seval,↓reduceIte,Za,hN0,hN]
 obtain ⟨z2,hz2,h⟩:=bC h
 refine Y6 (E':=⟨10,[],[(2,.val (.bool z2))]⟩) (O':=(Zx O n [none])) (n0:=(n+1)) ?_ ?_
 ·rcases Bool.eq_false_or_eq_true (a0.Kind != 10) with c5 | c5
  ·replace hz2:=Zu c5 hz2
   obtain ⟨y4,hy4,hz2⟩:=bC hz2
   refine Zc Zd [some true,some true] ?_
   simp only [push_cast,seval,↓reduceIte,Za,c5,hN0,hN]
   refine (Zkq hy4).then ?_
   simp only [push_cast,seval,↓reduceIte,Za,c5,hN0,hN]
   have hz2:=Option.some.inj hz2;subst hz2
   refine And.intro rfl (Fit2.of (Zj hU rfl rfl ?_) (by omega))
   simp only [push_cast,seval,↓reduceIte,Za,c5,hN0,hN]
  replace hz2:=Zt c5 hz2
  refine Zc Zd [some false,some false] ?_
  simp only [push_cast,seval,↓reduceIte,Za,c5,hN0,hN]
  have hz2:=Option.some.inj hz2;subst hz2
  refine And.intro rfl (Fit2.of (Zj hU rfl rfl ?_) (by omega))
  simp only [push_cast,seval,↓reduceIte,Za,c5,hN0,hN]
 refine Z4 ?_
 try simp only [Zk,Ze]
 have h:=Option.some.inj h;subst h
 refine Zs (.inr rfl) hU [.val (.bool z2)] (by omega) ?_
 simp only [push_cast,seval,↓reduceIte,Za,Try.results98,hN0,hN]
theorem Zf5 {a0:(List Z3)} {r:Bool} {O:Objs} {n:Nat} (h:Um a0=some r):GTo Try.prog 99 [.sl a0.length (fl Zo a0)] O n (.val (.bool r)) O n:=by
 unfold Um at h
 refine Y8 Zd Try.call99 Try.func99 rfl (Nat.le_of_ble_eq_true rfl) (Nat.le_refl _) fun hU => ?_
 have hN0:O n=none:=hU.fresh _ (Nat.le_refl _)
 have hN:∀ k,O (n+k)=none:=fun k=>hU.fresh _ (Nat.le_add_right _ _)
 show W _ _ _ _ ⟨48,[],[(0,.sl a0.length (fl Zo a0))]⟩ (Zx O n []) _
 refine Zr [0] (Zc Zd [] ?_)
 simp only [push_cast,seval,↓reduceIte,Za,hN0,hN]
 refine Zr [0,3] (Zc Zd [] ?_)
 simp only [push_cast,seval,↓reduceIte,Za,hN0,hN]
 refine Zm ?_
 refine Zr [3,7,8,9] (Zc Zd [] ?_)
 simp only [push_cast,seval,↓reduceIte,Za,hN0,hN]
 refine Zl [3,7,8,9] [] ?_
 simp only [push_cast,seval,↓reduceIte]
 obtain ⟨z7,hz7,h⟩:=bC h
 refine U4 (J:=(Xw (fun z7=>JR n (⟨48,[],[(2,.val (.bool false))]⟩:Env) (Zx O n []) n) (fun z7=>JX 0 n (⟨48,[],[]⟩:Env) (Zx O n []) n))) (z:=z7) ?_ fun hw => ?_
 ·refine Xg hz7 (fun s0_=>⟨48,[],[(3,.val (.int .i64 s0_.1)),(7,.sl a0.length (fl Zo a0)),(8,.val (.int .i64 (a0.length:Int))),(9,.val (.int .i64 s0_.2))]⟩) (fun s0_=>(Zx O n [])) (Xw (fun z7=>JR n (⟨48,[],[(2,.val (.bool false))]⟩:Env) (Zx O n []) n) (fun z7=>JX 0 n (⟨48,[],[]⟩:Env) (Zx O n []) n)) ?_
  intro s0_ x0_ hs0_
  unfold Kz at hs0_
  try dsimp only
  refine Zr [3,7,8,9,10] (Zc Zd [] ?_)
  simp only [push_cast,seval,↓reduceIte,Za,hN0,hN]
  refine Zm ?_
  refine Zv (t:=(decide (s0_.2 < (a0.length:Int)))) rfl (fun c6 => ?_) (fun c6 => ?_)
  ·replace hs0_:=Zu c6 hs0_
   refine Zy ?_
   try simp only [Zk,Ze]
   refine Zl [3,7,8,9] [] ?_
   simp only [push_cast,seval,↓reduceIte]
   refine Zm ?_
   refine Ym ?_
   refine Zm ?_
   obtain ⟨x2,hx2,ax2,bx2,cx2,hs0_⟩:=bE (f:=Zo) Ztl (fun _=>rfl) (by decide) hs0_
   refine Zc Zd [] ?_
   simp only [push_cast,Nat.reduceAdd,Nat.reduceSub,Nat.reduceMul,Nat.reduceLeDiff,Nat.reduceLT,Nat.reduceEqDiff,↓reduceIte,reduceCtorEq,Int.reduceBEq,Int.reduceBNe,Nat.reduceBEq,Int.reduceLE,Int.reduceLT,Int.reduceEq,Int.reduceNe,Int.reduceNeg,Nat.reduceDiv,Nat.reduceMod,Nat.reducePow,Za,ax2,bx2,cx2,hN0,hN]
   refine Zl [3,5,7,8,9] [true] ?_
   simp only [push_cast,seval,↓reduceIte]
   refine Zm ?_
   obtain ⟨y4,hy4,hs0_⟩:=bC hs0_
   refine Zc Zd [] ?_
   simp only [push_cast,seval,↓reduceIte,Za,hN0,hN]
   refine (Zif hy4).then ?_
   simp only [push_cast,seval,↓reduceIte,Za,hN0,hN]
   refine Zl [3,5,6,7,8,9] [true] ?_
   simp only [push_cast,seval,↓reduceIte]
   refine Zm ?_
   refine Zr [5,7,8,9,44] (Zc Zd [none,none,none,none,none,none,none,none,none,none,none,none,none,none,none,none] ?_)
   simp only [push_cast,seval,↓reduceIte,Za,hN0,hN]
   repeat (with_reducible refine And.intro (by first | (intro h0;simp only [h0,and_self];done) | (intro h0;simp only [h0,Bool.not_false,Bool.not_true,Bool.true_and,Bool.and_true,true_and,and_true,and_self,imp_self,implies_true,bne_iff_ne,ne_eq,beq_iff_eq];done) | (intros;simp_all;done) | exact True.intro) ?_)
   refine Zv (t:=(cond (cond (cond (cond (decide (x2.At≤s0_.1)) true (decide (65534 < x2.At))) true (x2.Mask == 0)) true ((IntKind.u64.wrap (Zc7 .u64 x2.Old (IntKind.u64.wrap (Ze2 .u64 (if IntKind.signed .u64=true then -1 else IntKind.max .u64) y4)))) != 0)) true ((IntKind.u64.wrap (Zc7 .u64 x2.New (IntKind.u64.wrap (Ze2 .u64 (if IntKind.signed .u64=true then -1 else IntKind.max .u64) y4)))) != 0))) rfl (fun c5 => ?_) (fun c5 => ?_)
   ·replace hs0_:=Zu c5 hs0_
    refine Zr [2] (Zc Zd [] ?_)
    simp only [push_cast,seval,↓reduceIte,Za,hN0,hN]
    refine Z4 ?_
    try simp only [Zk,Ze]
    have hs0_:=Option.some.inj hs0_;subst hs0_
    refine And.intro (fun h=>by cases h) (And.intro rfl (Fit2.of (Zj hU rfl rfl ?_) (by omega)))
    simp only [push_cast,seval,↓reduceIte,Za,hN0,hN]
   replace hs0_:=Zt c5 hs0_
   refine Zy ?_
   try simp only [Zk,Ze]
   refine Zl [5,7,8,9] [true] ?_
   simp only [push_cast,seval,↓reduceIte]
   refine Zc Zd [] ?_
   simp only [push_cast,seval,↓reduceIte,Za,hN0,hN]
   refine Zl [3,7,8,9] [false] ?_
   simp only [push_cast,seval,↓reduceIte]
   refine Zc Zd [] ?_
   simp only [push_cast,seval,↓reduceIte,Za,hN0,hN]
   have hs0_:=Option.some.inj hs0_;subst hs0_
   refine And.intro rfl (Fit2.of (Zj hU rfl rfl ?_) (by omega))
   simp only [push_cast,seval,↓reduceIte,Za,hN0,hN]
  replace hs0_:=Zt c6 hs0_
  refine Xp ?_
  try simp only [Zk,Ze,↓reduceIte,Nat.reduceEqDiff]
  have hs0_:=Option.some.inj hs0_;subst hs0_
  refine And.intro (fun h=>by cases h) (And.intro rfl (Fit2.of (Zj hU rfl rfl ?_) (by omega)))
  simp only [push_cast,seval,↓reduceIte,Za,hN0,hN]
 rcases z7 with z7 | z7
 ·dsimp only [Xw] at hw h
  refine Jc hw ?_
  try simp only [Zk,Ze,↓reduceIte,Nat.reduceEqDiff]
  have h:=Option.some.inj h;subst h
  refine Zs (.inr rfl) hU [.val (.bool false)] (by omega) ?_
  simp only [push_cast,seval,↓reduceIte,Za,Try.results99,hN0,hN]
 dsimp only [Xw] at hw h
 refine Yx hw ?_
 try simp only [Zk,Ze,↓reduceIte,Nat.reduceEqDiff]
 refine Zl [] [] ?_
 simp only [push_cast,seval,↓reduceIte]
 refine Zr [2] (Zc Zd [] ?_)
 simp only [push_cast,seval,↓reduceIte,Za,hN0,hN]
 refine Z4 ?_
 try simp only [Zk,Ze]
 have h:=Option.some.inj h;subst h
 refine Zs (.inr rfl) hU [.val (.bool true)] (by omega) ?_
 simp only [push_cast,seval,↓reduceIte,Za,Try.results99,hN0,hN]
theorem Zhs {a0:Int} {a1:S_api_Edit} {r:Bool} {O:Objs} {n:Nat} (h:Zag a0 a1=some r):GTo Try.prog 132 [.val (.int .i64 a0),.agg (Zh a1)] O n (.val (.bool r)) O n:=by
 unfold Zag at h
 refine Y8 Zd Try.call132 Try.func132 rfl (Nat.le_of_ble_eq_true rfl) (Nat.le_refl _) fun hU => ?_
 have hN0:O n=none:=hU.fresh _ (Nat.le_refl _)
 have hN:∀ k,O (n+k)=none:=fun k=>hU.fresh _ (Nat.le_add_right _ _)
 show W _ _ _ _ ⟨33,[],[(0,.val (.int .i64 a0)),(1,.agg (Zh a1))]⟩ (Zx O n []) _
 refine Zr [0,3] (Zc Zd [] ?_)
 simp only [push_cast,seval,↓reduceIte,Za,hN0,hN]
 refine Zm ?_
 refine Zr [3,5] (Zc Zd [] ?_)
 simp only [push_cast,seval,↓reduceIte,Za,hN0,hN]
 refine Ym ?_
 refine Zr [3,5,6] (Zc Zd [] ?_)
 simp only [push_cast,seval,↓reduceIte,Za,hN0,hN]
 refine Zv (t:=(a0 == 8)) rfl (fun c2 => ?_) (fun c2 => ?_)
 ·replace h:=Zu c2 h
  refine Zr [4] (Zc Zd [] ?_)
  simp only [push_cast,seval,↓reduceIte,Za,hN0,hN]
  refine Z4 ?_
  try simp only [Zk,Ze]
  have h:=Option.some.inj h;subst h
  refine Zs (.inr rfl) hU [.val (.bool (a1.Kind != 0))] (by omega) ?_
  simp only [push_cast,seval,↓reduceIte,Za,Try.results132,hN0,hN]
 replace h:=Zt c2 h
 refine Zr [3,11] (Zc Zd [] ?_)
 simp only [push_cast,seval,↓reduceIte,Za,hN0,hN]
 refine Zv (t:=(a0 == 9)) rfl (fun c1 => ?_) (fun c1 => ?_)
 ·replace h:=Zu c1 h
  refine Zr [4] (Zc Zd [none,none,none,none,none,none,none,none,none,none,none,none,none,none,none] ?_)
  simp only [push_cast,seval,↓reduceIte,Za,hN0,hN]
  repeat (with_reducible refine And.intro (by first | (intro h0;simp only [h0,and_self];done) | (intro h0;simp only [h0,Bool.not_false,Bool.not_true,Bool.true_and,Bool.and_true,true_and,and_true,and_self,imp_self,implies_true,bne_iff_ne,ne_eq,beq_iff_eq];done) | (intros;simp_all;done) | exact True.intro) ?_)
  refine Z4 ?_
  try simp only [Zk,Ze]
  have h:=Option.some.inj h;subst h
  refine Zs (.inr rfl) hU [.val (.bool (cond (a1.Kind == 2) true (cond (cond (a1.Kind == 1) (a1.Old.Kind == 1) false) (a1.New.Kind == 1) false)))] (by omega) ?_
  simp only [push_cast,seval,↓reduceIte,Za,Try.results132,hN0,hN]
 replace h:=Zt c1 h
 refine Zy ?_
 try simp only [Zk,Ze]
 refine Zl [] [false] ?_
 simp only [push_cast,seval,↓reduceIte]
 refine Zr [4] (Zc Zd [] ?_)
 simp only [push_cast,seval,↓reduceIte,Za,hN0,hN]
 refine Z4 ?_
 try simp only [Zk,Ze]
 have h:=Option.some.inj h;subst h
 refine Zs (.inr rfl) hU [.val (.bool false)] (by omega) ?_
 simp only [push_cast,seval,↓reduceIte,Za,Try.results132,hN0,hN]
theorem Ziq {a0:S_api_Op} {r:Int} {O:Objs} {n:Nat} (h:Ge a0=some r):GTo Try.prog 133 [.agg (Z7 a0)] O n (.val (.int .i64 r)) O n:=by
 unfold Ge at h
 refine Y8 Zd Try.call133 Try.func133 rfl (Nat.le_of_ble_eq_true rfl) (Nat.le_refl _) fun hU => ?_
 have hN0:O n=none:=hU.fresh _ (Nat.le_refl _)
 have hN:∀ k,O (n+k)=none:=fun k=>hU.fresh _ (Nat.le_add_right _ _)
 show W _ _ _ _ ⟨19,[],[(0,.agg (Z7 a0))]⟩ (Zx O n []) _
 refine Zr [1] (Zc Zd [] ?_)
 simp only [push_cast,seval,↓reduceIte,Za,hN0,hN]
 refine Zm ?_
 refine Zr [1,4] (Zc Zd [] ?_)
 simp only [push_cast,seval,↓reduceIte,Za,hN0,hN]
 refine Ym ?_
 refine Zr [1,4,5] (Zc Zd [] ?_)
 simp only [push_cast,seval,↓reduceIte,Za,hN0,hN]
 refine Zv (t:=(a0.Kind == 0)) rfl (fun c5 => ?_) (fun c5 => ?_)
 ·replace h:=Zu c5 h
  refine Zr [2] (Zc Zd [] ?_)
  simp only [push_cast,seval,↓reduceIte,Za,hN0,hN]
  refine Z4 ?_
  try simp only [Zk,Ze]
  have h:=Option.some.inj h;subst h
  refine Zs (.inr rfl) hU [.val (.int .i64 (if 1048576 < (if a0.N < 0 then 0 else a0.N) then 1048576 else (if a0.N < 0 then 0 else a0.N)))] (by omega) ?_
  simp only [push_cast,seval,↓reduceIte,Za,Try.results133,hN0,hN]
 replace h:=Zt c5 h
 obtain ⟨z1,hz1,h⟩:=bC h
 refine Y6 (E':=⟨19,[],[(1,.ref n 0),(4,.val (.int .i64 a0.Kind)),(11,.val (.bool z1))]⟩) (O':=(Zx O n [some ⟨false,69,14,1,(Z7 a0)⟩])) (n0:=(n+1)) ?_ ?_
 ·refine Zr [1,4,11] (Zc Zd [] ?_)
  simp only [push_cast,seval,↓reduceIte,Za,hN0,hN]
  refine Zv (t:=(a0.Kind == 1)) rfl (fun c2 => ?_) (fun c2 => ?_)
  ·replace hz1:=Zu c2 hz1
   refine Zy ?_
   try simp only [Zk,Ze]
   have hz1:=Option.some.inj hz1;subst hz1
   refine And.intro rfl (Fit2.of (Zj hU rfl rfl ?_) (by omega))
   simp only [push_cast,seval,↓reduceIte,Za,hN0,hN]
  replace hz1:=Zt c2 hz1
  refine Zc Zd [] ?_
  simp only [push_cast,seval,↓reduceIte,Za,hN0,hN]
  have hz1:=Option.some.inj hz1;subst hz1
  refine And.intro rfl (Fit2.of (Zj hU rfl rfl ?_) (by omega))
  simp only [push_cast,seval,↓reduceIte,Za,hN0,hN]
 refine Zv (t:=z1) rfl (fun c4 => ?_) (fun c4 => ?_)
 ·replace h:=Zu c4 h
  refine Zr [2] (Zc Zd [] ?_)
  simp only [push_cast,seval,↓reduceIte,Za,hN0,hN]
  refine Z4 ?_
  try simp only [Zk,Ze]
  have h:=Option.some.inj h;subst h
  refine Zs (.inr rfl) hU [.val (.int .i64 (a0.L.length:Int))] (by omega) ?_
  simp only [push_cast,seval,↓reduceIte,Za,Try.results133,hN0,hN]
 replace h:=Zt c4 h
 refine Zr [17] (Zc Zd [] ?_)
 simp only [push_cast,seval,↓reduceIte,Za,hN0,hN]
 refine Zv (t:=(a0.Kind == 3)) rfl (fun c3 => ?_) (fun c3 => ?_)
 ·replace h:=Zu c3 h
  refine Zr [2] (Zc Zd [] ?_)
  simp only [push_cast,seval,↓reduceIte,Za,hN0,hN]
  refine Z4 ?_
  try simp only [Zk,Ze]
  have h:=Option.some.inj h;subst h
  refine Zs (.inr rfl) hU [.val (.int .i64 1)] (by omega) ?_
  simp only [push_cast,seval,↓reduceIte,Za,Try.results133,hN0,hN]
 replace h:=Zt c3 h
 refine Zy ?_
 try simp only [Zk,Ze]
 refine Zl [] [false] ?_
 simp only [push_cast,seval,↓reduceIte]
 refine Zr [2] (Zc Zd [] ?_)
 simp only [push_cast,seval,↓reduceIte,Za,hN0,hN]
 refine Z4 ?_
 try simp only [Zk,Ze]
 have h:=Option.some.inj h;subst h
 refine Zs (.inr rfl) hU [.val (.int .i64 0)] (by omega) ?_
 simp only [push_cast,seval,↓reduceIte,Za,Try.results133,hN0,hN]
theorem Zop {a0:S_api_Edit} {r:(Int×Int)} {O:Objs} {n:Nat} (h:Zbf a0=some r):GTo Try.prog 125 [.agg (Zh a0)] O n (.tup [.val (.int .i64 r.1),.val (.int .i64 r.2)]) O n:=by
 unfold Zbf at h
 refine Y8 Zd Try.call125 Try.func125 rfl (Nat.le_of_ble_eq_true rfl) (Nat.le_refl _) fun hU => ?_
 have hN0:O n=none:=hU.fresh _ (Nat.le_refl _)
 have hN:∀ k,O (n+k)=none:=fun k=>hU.fresh _ (Nat.le_add_right _ _)
 show W _ _ _ _ ⟨34,[],[(0,.agg (Zh a0))]⟩ (Zx O n []) _
 refine Zr [1] (Zc Zd [] ?_)
 simp only [push_cast,seval,↓reduceIte,Za,hN0,hN]
 refine Zr [1,4,5] (Zc Zd [] ?_)
 simp only [push_cast,seval,↓reduceIte,Za,hN0,hN]
 refine Zm ?_
 refine Zr [4,5,9,10,11] (Zc Zd [] ?_)
 simp only [push_cast,seval,↓reduceIte,Za,hN0,hN]
 refine Zl [4,5,9,10,11] [false] ?_
 simp only [push_cast,seval,↓reduceIte]
 obtain ⟨z10,hz10,h⟩:=bC h
 refine Yx (E':=⟨34,[],[(4,.val (.int .i64 z10.1)),(5,.val (.int .i64 z10.2))]⟩) (O':=(Zx O n [none])) (n0:=(n+1)) ?_ ?_
 ·refine Xg hz10 (fun s0_=>⟨34,[],[(4,.val (.int .i64 s0_.1)),(5,.val (.int .i64 s0_.2.1)),(9,.sl a0.Ops.length (fl Zg a0.Ops)),(10,.val (.int .i64 (a0.Ops.length:Int))),(11,.val (.int .i64 s0_.2.2))]⟩) (fun s0_=>(Zx O n [none])) (fun z10=>JX 0 n (⟨34,[],[(4,.val (.int .i64 z10.1)),(5,.val (.int .i64 z10.2))]⟩:Env) (Zx O n [none]) (n+1)) ?_
  intro s0_ x0_ hs0_
  unfold Ul at hs0_
  try dsimp only
  refine Zr [4,5,9,10,11,12] (Zc Zd [] ?_)
  simp only [push_cast,seval,↓reduceIte,Za,hN0,hN]
  refine Zm ?_
  refine Zv (t:=(decide (s0_.2.2 < (a0.Ops.length:Int)))) rfl (fun c9 => ?_) (fun c9 => ?_)
  ·replace hs0_:=Zu c9 hs0_
   refine Zy ?_
   try simp only [Zk,Ze]
   refine Zl [4,5,9,10,11] [false] ?_
   simp only [push_cast,seval,↓reduceIte]
   obtain ⟨z1,hz1,hs0_⟩:=bC hs0_
   refine Y6 (E':=⟨34,[],[(4,.val (.int .i64 z1.1)),(5,.val (.int .i64 z1.2)),(9,.sl a0.Ops.length (fl Zg a0.Ops)),(10,.val (.int .i64 (a0.Ops.length:Int))),(11,.val (.int .i64 s0_.2.2))]⟩) (O':=(Zx O n [none,none])) (n0:=(n+2)) ?_ ?_
   ·refine Ym ?_
    refine Zm ?_
    obtain ⟨x3,hx3,ax3,bx3,cx3,hz1⟩:=bE (f:=Zg) Zda (fun _=>rfl) (by decide) hz1
    refine Zc Zd [] ?_
    simp only [push_cast,Nat.reduceAdd,Nat.reduceSub,Nat.reduceMul,Nat.reduceLeDiff,Nat.reduceLT,Nat.reduceEqDiff,↓reduceIte,reduceCtorEq,Int.reduceBEq,Int.reduceBNe,Nat.reduceBEq,Int.reduceLE,Int.reduceLT,Int.reduceEq,Int.reduceNe,Int.reduceNeg,Nat.reduceDiv,Nat.reduceMod,Nat.reducePow,Za,ax3,bx3,cx3,hN0,hN]
    refine Zl [4,5,7,9,10,11] [false,true] ?_
    simp only [push_cast,seval,↓reduceIte]
    obtain ⟨z4,hz4,hz1⟩:=bC hz1
    refine Y6 (E':=⟨34,[],[(4,.val (.int .i64 z4)),(5,.val (.int .i64 s0_.2.1)),(7,.ref (n+1) 0),(9,.sl a0.Ops.length (fl Zg a0.Ops)),(10,.val (.int .i64 (a0.Ops.length:Int))),(11,.val (.int .i64 s0_.2.2))]⟩) (O':=(Zx O n [none,some ⟨false,69,14,1,(Z7 x3)⟩])) (n0:=(n+2)) ?_ ?_
    ·refine Zr [4,5,7,9,10,11,17] (Zc Zd [] ?_)
     simp only [push_cast,seval,↓reduceIte,Za,hN0,hN]
     refine Zv (t:=(x3.Kind != 2)) rfl (fun c6 => ?_) (fun c6 => ?_)
     ·replace hz4:=Zu c6 hz4
      obtain ⟨y5,hy5,hz4⟩:=bC hz4
      refine Zc Zd [] ?_
      simp only [push_cast,seval,↓reduceIte,Za,hN0,hN]
      refine (Ziq hy5).then ?_
      simp only [push_cast,seval,↓reduceIte,Za,hN0,hN]
      have hz4:=Option.some.inj hz4;subst hz4
      refine And.intro rfl (Fit2.of (Zj hU rfl rfl ?_) (by omega))
      simp only [push_cast,seval,↓reduceIte,Za,hN0,hN]
     replace hz4:=Zt c6 hz4
     refine Zy ?_
     try simp only [Zk,Ze]
     have hz4:=Option.some.inj hz4;subst hz4
     refine And.intro rfl (Fit2.of (Zj hU rfl rfl ?_) (by omega))
     simp only [push_cast,seval,↓reduceIte,Za,hN0,hN]
    refine Zr [4,5,7,9,10,11,25] (Zc Zd [] ?_)
    simp only [push_cast,seval,↓reduceIte,Za,hN0,hN]
    refine Zv (t:=(x3.Kind != 1)) rfl (fun c8 => ?_) (fun c8 => ?_)
    ·replace hz1:=Zu c8 hz1
     obtain ⟨y7,hy7,hz1⟩:=bC hz1
     refine Zc Zd [] ?_
     simp only [push_cast,seval,↓reduceIte,Za,hN0,hN]
     refine (Ziq hy7).then ?_
     simp only [push_cast,seval,↓reduceIte,Za,hN0,hN]
     have hz1:=Option.some.inj hz1;subst hz1
     refine And.intro rfl (Fit2.of (Zj hU rfl rfl ?_) (by omega))
     simp only [push_cast,seval,↓reduceIte,Za,hN0,hN]
    replace hz1:=Zt c8 hz1
    refine Zy ?_
    try simp only [Zk,Ze]
    have hz1:=Option.some.inj hz1;subst hz1
    refine And.intro rfl (Fit2.of (Zj hU rfl rfl ?_) (by omega))
    simp only [push_cast,seval,↓reduceIte,Za,hN0,hN]
   refine Zc Zd [] ?_
   simp only [push_cast,seval,↓reduceIte,Za,hN0,hN]
   have hs0_:=Option.some.inj hs0_;subst hs0_
   refine And.intro rfl (Fit2.of (Zj hU rfl rfl ?_) (by omega))
   simp only [push_cast,seval,↓reduceIte,Za,hN0,hN]
  replace hs0_:=Zt c9 hs0_
  refine Xp ?_
  try simp only [Zk,Ze,↓reduceIte,Nat.reduceEqDiff]
  have hs0_:=Option.some.inj hs0_;subst hs0_
  refine And.intro (fun h=>by cases h) (And.intro rfl (Fit2.of (Zj hU rfl rfl ?_) (by omega)))
  simp only [push_cast,seval,↓reduceIte,Za,hN0,hN]
 try simp only [Zk,Ze,↓reduceIte,Nat.reduceEqDiff]
 refine Zl [4,5] [false] ?_
 simp only [push_cast,seval,↓reduceIte]
 refine Zr [2,3] (Zc Zd [] ?_)
 simp only [push_cast,seval,↓reduceIte,Za,hN0,hN]
 refine Z4 ?_
 try simp only [Zk,Ze]
 have h:=Option.some.inj h;subst h
 refine Zs (.inr rfl) hU [.val (.int .i64 z10.1),.val (.int .i64 z10.2)] (by omega) ?_
 simp only [push_cast,seval,↓reduceIte,Za,Try.results125,hN0,hN]
theorem Zqo {Yt:(S_api_Edit→Option Bool)} {Yp:(S_api_Edit→Int→Option Bool)} {Yb:((List S_api_KidEdit)→Int→Option Bool)} {Ye:(S_api_Edit→Int→Option Bool)} {Yf:(Int→S_api_Op→Int→Option Bool)} {Z9:(Bool→Bool→Bool→S_api_Op→Option Bool)} (Q9:∀ {a0:S_api_Edit} {r:Bool} {O:Objs} {n:Nat},Yt a0=some r→GTo Try.prog 24 [.agg (Zh a0)] O n (.val (.bool r)) O n) (J5:∀ {a0:S_api_Edit} {a1:Int} {r:Bool} {O:Objs} {n:Nat},Yp a0 a1=some r→GTo Try.prog 59 [.agg (Zh a0),.val (.int .i64 a1)] O n (.val (.bool r)) O n) (Jy:∀ {a0:(List S_api_KidEdit)} {a1:Int} {r:Bool} {O:Objs} {n:Nat},Yb a0 a1=some r→GTo Try.prog 100 [.sl a0.length (fl Zn a0),.val (.int .i64 a1)] O n (.val (.bool r)) O n) (Kk:∀ {a0:S_api_Edit} {a1:Int} {r:Bool} {O:Objs} {n:Nat},Ye a0 a1=some r→GTo Try.prog 101 [.agg (Zh a0),.val (.int .i64 a1)] O n (.val (.bool r)) O n) (K8:∀ {a0:Int} {a1:S_api_Op} {a2:Int} {r:Bool} {O:Objs} {n:Nat},Yf a0 a1 a2=some r→GTo Try.prog 124 [.val (.int .i64 a0),.agg (Z7 a1),.val (.int .i64 a2)] O n (.val (.bool r)) O n) (Xa:∀ {a0:Bool} {a1:Bool} {a2:Bool} {a3:S_api_Op} {r:Bool} {O:Objs} {n:Nat},Z9 a0 a1 a2 a3=some r→GTo Try.prog 131 [.val (.bool a0),.val (.bool a1),.val (.bool a2),.ip (Z7 a3) 0] O n (.val (.bool r)) O n) {a0:S_api_Edit} {r:Bool} {O:Objs} {n:Nat} (h:Zde Yt Yp Yb Ye Yf Z9 a0=some r):GTo Try.prog 24 [.agg (Zh a0)] O n (.val (.bool r)) O n:=by
 unfold Zde at h
 refine Y8 Zd Try.call24 Try.func24 rfl (Nat.le_of_ble_eq_true rfl) (Nat.le_refl _) fun hU => ?_
 have hN0:O n=none:=hU.fresh _ (Nat.le_refl _)
 have hN:∀ k,O (n+k)=none:=fun k=>hU.fresh _ (Nat.le_add_right _ _)
 show W _ _ _ _ ⟨5,[],[(0,.agg (Zh a0))]⟩ (Zx O n []) _
 refine Zr [1] (Zc Zd [] ?_)
 simp only [push_cast,seval,↓reduceIte,Za,hN0,hN]
 refine Zm ?_
 obtain ⟨y2,hy2,h⟩:=bC h
 refine Zc Zd [] ?_
 simp only [push_cast,seval,↓reduceIte,Za,hN0,hN]
 refine (J5 hy2).then ?_
 simp only [push_cast,seval,↓reduceIte,Za,hN0,hN]
 refine Zl [2] [false] ?_
 simp only [push_cast,seval,↓reduceIte]
 refine Z4 ?_
 try simp only [Zk,Ze]
 have h:=Option.some.inj h;subst h
 refine Zs (.inr rfl) hU [.val (.bool y2)] (by omega) ?_
 simp only [push_cast,seval,↓reduceIte,Za,Try.results24,hN0,hN]
theorem Zqp {Yt:(S_api_Edit→Option Bool)} {Yp:(S_api_Edit→Int→Option Bool)} {Yb:((List S_api_KidEdit)→Int→Option Bool)} {Ye:(S_api_Edit→Int→Option Bool)} {Yf:(Int→S_api_Op→Int→Option Bool)} {Z9:(Bool→Bool→Bool→S_api_Op→Option Bool)} (Q9:∀ {a0:S_api_Edit} {r:Bool} {O:Objs} {n:Nat},Yt a0=some r→GTo Try.prog 24 [.agg (Zh a0)] O n (.val (.bool r)) O n) (J5:∀ {a0:S_api_Edit} {a1:Int} {r:Bool} {O:Objs} {n:Nat},Yp a0 a1=some r→GTo Try.prog 59 [.agg (Zh a0),.val (.int .i64 a1)] O n (.val (.bool r)) O n) (Jy:∀ {a0:(List S_api_KidEdit)} {a1:Int} {r:Bool} {O:Objs} {n:Nat},Yb a0 a1=some r→GTo Try.prog 100 [.sl a0.length (fl Zn a0),.val (.int .i64 a1)] O n (.val (.bool r)) O n) (Kk:∀ {a0:S_api_Edit} {a1:Int} {r:Bool} {O:Objs} {n:Nat},Ye a0 a1=some r→GTo Try.prog 101 [.agg (Zh a0),.val (.int .i64 a1)] O n (.val (.bool r)) O n) (K8:∀ {a0:Int} {a1:S_api_Op} {a2:Int} {r:Bool} {O:Objs} {n:Nat},Yf a0 a1 a2=some r→GTo Try.prog 124 [.val (.int .i64 a0),.agg (Z7 a1),.val (.int .i64 a2)] O n (.val (.bool r)) O n) (Xa:∀ {a0:Bool} {a1:Bool} {a2:Bool} {a3:S_api_Op} {r:Bool} {O:Objs} {n:Nat},Z9 a0 a1 a2 a3=some r→GTo Try.prog 131 [.val (.bool a0),.val (.bool a1),.val (.bool a2),.ip (Z7 a3) 0] O n (.val (.bool r)) O n) {a0:S_api_Edit} {a1:Int} {r:Bool} {O:Objs} {n:Nat} (h:Zdf Yt Yp Yb Ye Yf Z9 a0 a1=some r):GTo Try.prog 59 [.agg (Zh a0),.val (.int .i64 a1)] O n (.val (.bool r)) O n:=by
 unfold Zdf at h
 refine Y8 Zd Try.call59 Try.func59 rfl (Nat.le_of_ble_eq_true rfl) (Nat.le_refl _) fun hU => ?_
 have hN0:O n=none:=hU.fresh _ (Nat.le_refl _)
 have hN:∀ k,O (n+k)=none:=fun k=>hU.fresh _ (Nat.le_add_right _ _)
 show W _ _ _ _ ⟨55,[],[(0,.agg (Zh a0)),(1,.val (.int .i64 a1))]⟩ (Zx O n []) _
 refine Zr [1,2] (Zc Zd [] ?_)
 simp only [push_cast,seval,↓reduceIte,Za,hN0,hN]
 refine Zm ?_
 refine Zr [1,2,7] (Zc Zd [] ?_)
 simp only [push_cast,seval,↓reduceIte,Za,hN0,hN]
 refine Zv (t:=(a1 == 0)) rfl (fun c39 => ?_) (fun c39 => ?_)
 ·replace h:=Zu c39 h
  refine Zr [4] (Zc Zd [] ?_)
  simp only [push_cast,seval,↓reduceIte,Za,hN0,hN]
  refine Z4 ?_
  try simp only [Zk,Ze]
  have h:=Option.some.inj h;subst h
  refine Zs (.inr rfl) hU [.val (.bool false)] (by omega) ?_
  simp only [push_cast,seval,↓reduceIte,Za,Try.results59,hN0,hN]
 replace h:=Zt c39 h
 refine Zy ?_
 try simp only [Zk,Ze]
 refine Zl [1,2] [true] ?_
 simp only [push_cast,seval,↓reduceIte]
 refine Zhg ⟨55,[],[(1,.val (.int .i64 a1)),(2,.ip (Zh a0) 0)]⟩ (Zx O n [none]) (Zj hU rfl rfl ?_) ?_
 ·simp only [push_cast,seval,↓reduceIte,Za,hN0,hN]
 refine Zr [1,2,5] (Zc Zd [] ?_)
 simp only [push_cast,seval,↓reduceIte,Za,hN0,hN]
 refine Zm ?_
 refine Zr [1,2,5,10] (Zc Zd [] ?_)
 simp only [push_cast,seval,↓reduceIte,Za,hN0,hN]
 refine Ym ?_
 refine Zr [1,2,5,10,11] (Zc Zd [] ?_)
 simp only [push_cast,seval,↓reduceIte,Za,hN0,hN]
 refine Zv (t:=(a0.Kind == 0)) rfl (fun c38 => ?_) (fun c38 => ?_)
 ·replace h:=Zu c38 h
  refine Zm ?_
  obtain ⟨y2,hy2,h⟩:=bC h
  refine Zc Zd [] ?_
  simp only [push_cast,seval,↓reduceIte,Za,hN0,hN]
  refine GCalls.argsW ?_ ((Q8 hy2).then ?_)
  ·simp only [push_cast,seval,↓reduceIte,Za,hN0,hN]
  simp only [push_cast,seval,↓reduceIte,Za,hN0,hN]
  refine Zl [4] [false] ?_
  simp only [push_cast,seval,↓reduceIte]
  refine Z4 ?_
  try simp only [Zk,Ze]
  have h:=Option.some.inj h;subst h
  refine Zs (.inr rfl) hU [.val (.bool y2)] (by omega) ?_
  simp only [push_cast,seval,↓reduceIte,Za,Try.results59,hN0,hN]
 replace h:=Zt c38 h
 refine Zr [1,2,5,10,15] (Zc Zd [] ?_)
 simp only [push_cast,seval,↓reduceIte,Za,hN0,hN]
 refine Zv (t:=(a0.Kind == 1)) rfl (fun c37 => ?_) (fun c37 => ?_)
 ·replace h:=Zu c37 h
  obtain ⟨z6,hz6,h⟩:=bC h
  refine Y6 (E':=⟨55,[],[(4,.val (.bool z6))]⟩) (O':=(Zx O n [none])) (n0:=(n+1)) ?_ ?_
  ·obtain ⟨y10,hy10,hz6⟩:=bC hz6
   rcases Bool.eq_false_or_eq_true y10 with c13 | c13
   ·replace hz6:=Zu c13 hz6
    obtain ⟨y11,hy11,hz6⟩:=bC hz6
    rcases Bool.eq_false_or_eq_true y11 with c14 | c14
    ·replace hz6:=Zu c14 hz6
     try rw [c14] at c13
     obtain ⟨y12,hy12,hz6⟩:=bC hz6
     refine Zc Zd [some true,some true,some true,some true,some true,some true] ?_
     simp only [push_cast,seval,↓reduceIte,Za,c13,c14,hN0,hN]
     refine GCalls.argsW ?_ ((Q8 hy10).then ?_)
     ·simp only [push_cast,seval,↓reduceIte,Za,c13,c14,hN0,hN]
     simp only [push_cast,seval,↓reduceIte,Za,c13,c14,hN0,hN]
     refine (Zg9 hy11).then ?_
     simp only [push_cast,seval,↓reduceIte,Za,c13,c14,hN0,hN]
     refine (Zg9 hy12).then ?_
     simp only [push_cast,seval,↓reduceIte,Za,c13,c14,hN0,hN]
     have hz6:=Option.some.inj hz6;subst hz6
     refine And.intro rfl (Fit2.of (Zj hU rfl rfl ?_) (by omega))
     simp only [push_cast,seval,↓reduceIte,Za,c13,c14,hN0,hN]
    replace hz6:=Zt c14 hz6
    try rw [c14] at c13
    refine Zc Zd [some true,some true,some true,some false,some false,some false] ?_
    simp only [push_cast,seval,↓reduceIte,Za,c13,c14,hN0,hN]
    refine GCalls.argsW ?_ ((Q8 hy10).then ?_)
    ·simp only [push_cast,seval,↓reduceIte,Za,c13,c14,hN0,hN]
    simp only [push_cast,seval,↓reduceIte,Za,c13,c14,hN0,hN]
    refine (Zg9 hy11).then ?_
    simp only [push_cast,seval,↓reduceIte,Za,c13,c14,hN0,hN]
    have hz6:=Option.some.inj hz6;subst hz6
    refine And.intro rfl (Fit2.of (Zj hU rfl rfl ?_) (by omega))
    simp only [push_cast,seval,↓reduceIte,Za,c13,c14,hN0,hN]
   replace hz6:=Zt c13 hz6
   refine Zc Zd [some false,some false,some false,some false,some false,some false] ?_
   simp only [push_cast,seval,↓reduceIte,Za,c13,hN0,hN]
   refine GCalls.argsW ?_ ((Q8 hy10).then ?_)
   ·simp only [push_cast,seval,↓reduceIte,Za,c13,hN0,hN]
   simp only [push_cast,seval,↓reduceIte,Za,c13,hN0,hN]
   have hz6:=Option.some.inj hz6;subst hz6
   refine And.intro rfl (Fit2.of (Zj hU rfl rfl ?_) (by omega))
   simp only [push_cast,seval,↓reduceIte,Za,c13,hN0,hN]
  refine Z4 ?_
  try simp only [Zk,Ze]
  have h:=Option.some.inj h;subst h
  refine Zs (.inr rfl) hU [.val (.bool z6)] (by omega) ?_
  simp only [push_cast,seval,↓reduceIte,Za,Try.results59,hN0,hN]
 replace h:=Zt c37 h
 refine Zr [1,2,5,10,29] (Zc Zd [] ?_)
 simp only [push_cast,seval,↓reduceIte,Za,hN0,hN]
 refine Zv (t:=(a0.Kind == 2)) rfl (fun c36 => ?_) (fun c36 => ?_)
 ·replace h:=Zu c36 h
  obtain ⟨z18,hz18,h⟩:=bC h
  refine Y6 (E':=⟨55,[],[(4,.val (.bool z18))]⟩) (O':=(Zx O n [none])) (n0:=(n+1)) ?_ ?_
  ·obtain ⟨y22,hy22,hz18⟩:=bC hz18
   rcases Bool.eq_false_or_eq_true y22 with c25 | c25
   ·replace hz18:=Zu c25 hz18
    obtain ⟨y23,hy23,hz18⟩:=bC hz18
    rcases Bool.eq_false_or_eq_true y23 with c26 | c26
    ·replace hz18:=Zu c26 hz18
     try rw [c26] at c25
     obtain ⟨y24,hy24,hz18⟩:=bC hz18
     refine Zc Zd [some true,some true,some true,some true,some true,some true,some true,some true] ?_
     simp only [push_cast,seval,↓reduceIte,Za,c25,c26,hN0,hN]
     refine GCalls.argsW ?_ ((Q8 hy22).then ?_)
     ·simp only [push_cast,seval,↓reduceIte,Za,c25,c26,hN0,hN]
     simp only [push_cast,seval,↓reduceIte,Za,c25,c26,hN0,hN]
     refine (Zf5 hy23).then ?_
     simp only [push_cast,seval,↓reduceIte,Za,c25,c26,hN0,hN]
     refine (Jy hy24).then ?_
     simp only [push_cast,seval,↓reduceIte,Za,c25,c26,hN0,hN]
     have hz18:=Option.some.inj hz18;subst hz18
     refine And.intro rfl (Fit2.of (Zj hU rfl rfl ?_) (by omega))
     simp only [push_cast,seval,↓reduceIte,Za,c25,c26,hN0,hN]
    replace hz18:=Zt c26 hz18
    try rw [c26] at c25
    refine Zc Zd [some true,some true,some true,some false,some false,some false,some false,some false] ?_
    simp only [push_cast,seval,↓reduceIte,Za,c25,c26,hN0,hN]
    refine GCalls.argsW ?_ ((Q8 hy22).then ?_)
    ·simp only [push_cast,seval,↓reduceIte,Za,c25,c26,hN0,hN]
    simp only [push_cast,seval,↓reduceIte,Za,c25,c26,hN0,hN]
    refine (Zf5 hy23).then ?_
    simp only [push_cast,seval,↓reduceIte,Za,c25,c26,hN0,hN]
    have hz18:=Option.some.inj hz18;subst hz18
    refine And.intro rfl (Fit2.of (Zj hU rfl rfl ?_) (by omega))
    simp only [push_cast,seval,↓reduceIte,Za,c25,c26,hN0,hN]
   replace hz18:=Zt c25 hz18
   refine Zc Zd [some false,some false,some false,some false,some false,some false,some false,some false] ?_
   simp only [push_cast,seval,↓reduceIte,Za,c25,hN0,hN]
   refine GCalls.argsW ?_ ((Q8 hy22).then ?_)
   ·simp only [push_cast,seval,↓reduceIte,Za,c25,hN0,hN]
   simp only [push_cast,seval,↓reduceIte,Za,c25,hN0,hN]
   have hz18:=Option.some.inj hz18;subst hz18
   refine And.intro rfl (Fit2.of (Zj hU rfl rfl ?_) (by omega))
   simp only [push_cast,seval,↓reduceIte,Za,c25,hN0,hN]
  refine Z4 ?_
  try simp only [Zk,Ze]
  have h:=Option.some.inj h;subst h
  refine Zs (.inr rfl) hU [.val (.bool z18)] (by omega) ?_
  simp only [push_cast,seval,↓reduceIte,Za,Try.results59,hN0,hN]
 replace h:=Zt c36 h
 refine Zr [1,2,5,45] (Zc Zd [] ?_)
 simp only [push_cast,seval,↓reduceIte,Za,hN0,hN]
 refine Zv (t:=(a0.Kind == 3)) rfl (fun c35 => ?_) (fun c35 => ?_)
 ·replace h:=Zu c35 h
  obtain ⟨z29,hz29,h⟩:=bC h
  refine Y6 (E':=⟨55,[],[(4,.val (.bool z29))]⟩) (O':=(Zx O n [none])) (n0:=(n+1)) ?_ ?_
  ·obtain ⟨y32,hy32,hz29⟩:=bC hz29
   rcases Bool.eq_false_or_eq_true y32 with c34 | c34
   ·replace hz29:=Zu c34 hz29
    obtain ⟨y33,hy33,hz29⟩:=bC hz29
    refine Zc Zd [some true,some true,some true,some true] ?_
    simp only [push_cast,seval,↓reduceIte,Za,c34,hN0,hN]
    refine GCalls.argsW ?_ ((Q8 hy32).then ?_)
    ·simp only [push_cast,seval,↓reduceIte,Za,c34,hN0,hN]
    simp only [push_cast,seval,↓reduceIte,Za,c34,hN0,hN]
    refine (Kk hy33).then ?_
    simp only [push_cast,seval,↓reduceIte,Za,c34,hN0,hN]
    have hz29:=Option.some.inj hz29;subst hz29
    refine And.intro rfl (Fit2.of (Zj hU rfl rfl ?_) (by omega))
    simp only [push_cast,seval,↓reduceIte,Za,c34,hN0,hN]
   replace hz29:=Zt c34 hz29
   refine Zc Zd [some false,some false,some false,some false] ?_
   simp only [push_cast,seval,↓reduceIte,Za,c34,hN0,hN]
   refine GCalls.argsW ?_ ((Q8 hy32).then ?_)
   ·simp only [push_cast,seval,↓reduceIte,Za,c34,hN0,hN]
   simp only [push_cast,seval,↓reduceIte,Za,c34,hN0,hN]
   have hz29:=Option.some.inj hz29;subst hz29
   refine And.intro rfl (Fit2.of (Zj hU rfl rfl ?_) (by omega))
   simp only [push_cast,seval,↓reduceIte,Za,c34,hN0,hN]
  refine Z4 ?_
  try simp only [Zk,Ze]
  have h:=Option.some.inj h;subst h
  refine Zs (.inr rfl) hU [.val (.bool z29)] (by omega) ?_
  simp only [push_cast,seval,↓reduceIte,Za,Try.results59,hN0,hN]
 replace h:=Zt c35 h
 refine Zy ?_
 try simp only [Zk,Ze]
 refine Zl [] [false] ?_
 simp only [push_cast,seval,↓reduceIte]
 refine Zr [4] (Zc Zd [] ?_)
 simp only [push_cast,seval,↓reduceIte,Za,hN0,hN]
 refine Z4 ?_
 try simp only [Zk,Ze]
 have h:=Option.some.inj h;subst h
 refine Zs (.inr rfl) hU [.val (.bool false)] (by omega) ?_
 simp only [push_cast,seval,↓reduceIte,Za,Try.results59,hN0,hN]
theorem Zk9 {Yt:(S_api_Edit→Option Bool)} {Yp:(S_api_Edit→Int→Option Bool)} {Yb:((List S_api_KidEdit)→Int→Option Bool)} {Ye:(S_api_Edit→Int→Option Bool)} {Yf:(Int→S_api_Op→Int→Option Bool)} {Z9:(Bool→Bool→Bool→S_api_Op→Option Bool)} (Q9:∀ {a0:S_api_Edit} {r:Bool} {O:Objs} {n:Nat},Yt a0=some r→GTo Try.prog 24 [.agg (Zh a0)] O n (.val (.bool r)) O n) (J5:∀ {a0:S_api_Edit} {a1:Int} {r:Bool} {O:Objs} {n:Nat},Yp a0 a1=some r→GTo Try.prog 59 [.agg (Zh a0),.val (.int .i64 a1)] O n (.val (.bool r)) O n) (Jy:∀ {a0:(List S_api_KidEdit)} {a1:Int} {r:Bool} {O:Objs} {n:Nat},Yb a0 a1=some r→GTo Try.prog 100 [.sl a0.length (fl Zn a0),.val (.int .i64 a1)] O n (.val (.bool r)) O n) (Kk:∀ {a0:S_api_Edit} {a1:Int} {r:Bool} {O:Objs} {n:Nat},Ye a0 a1=some r→GTo Try.prog 101 [.agg (Zh a0),.val (.int .i64 a1)] O n (.val (.bool r)) O n) (K8:∀ {a0:Int} {a1:S_api_Op} {a2:Int} {r:Bool} {O:Objs} {n:Nat},Yf a0 a1 a2=some r→GTo Try.prog 124 [.val (.int .i64 a0),.agg (Z7 a1),.val (.int .i64 a2)] O n (.val (.bool r)) O n) (Xa:∀ {a0:Bool} {a1:Bool} {a2:Bool} {a3:S_api_Op} {r:Bool} {O:Objs} {n:Nat},Z9 a0 a1 a2 a3=some r→GTo Try.prog 131 [.val (.bool a0),.val (.bool a1),.val (.bool a2),.ip (Z7 a3) 0] O n (.val (.bool r)) O n) {a0:(List S_api_KidEdit)} {a1:Int} {r:Bool} {O:Objs} {n:Nat} (h:U5 Yt Yp Yb Ye Yf Z9 a0 a1=some r):GTo Try.prog 100 [.sl a0.length (fl Zn a0),.val (.int .i64 a1)] O n (.val (.bool r)) O n:=by
 unfold U5 at h
 refine Y8 Zd Try.call100 Try.func100 rfl (Nat.le_of_ble_eq_true rfl) (Nat.le_refl _) fun hU => ?_
 have hN0:O n=none:=hU.fresh _ (Nat.le_refl _)
 have hN:∀ k,O (n+k)=none:=fun k=>hU.fresh _ (Nat.le_add_right _ _)
 show W _ _ _ _ ⟨39,[],[(0,.sl a0.length (fl Zn a0)),(1,.val (.int .i64 a1))]⟩ (Zx O n []) _
 refine Zr [0,1] (Zc Zd [] ?_)
 simp only [push_cast,seval,↓reduceIte,Za,hN0,hN]
 refine Zr [0,1,5] (Zc Zd [] ?_)
 simp only [push_cast,seval,↓reduceIte,Za,hN0,hN]
 refine Zm ?_
 refine Zr [1,5,8,9,10] (Zc Zd [] ?_)
 simp only [push_cast,seval,↓reduceIte,Za,hN0,hN]
 refine Zl [1,5,8,9,10] [] ?_
 simp only [push_cast,seval,↓reduceIte]
 obtain ⟨z12,hz12,h⟩:=bC h
 refine U4 (J:=(Xw (fun z12=>JR n (⟨39,[],[(4,.val (.bool false))]⟩:Env) (Zx O n []) n) (fun z12=>JX 0 n (⟨39,[],[]⟩:Env) (Zx O n []) n))) (z:=z12) ?_ fun hw => ?_
 ·refine Xg hz12 (fun s0_=>⟨39,[],[(1,.val (.int .i64 a1)),(5,.val (.int .i64 s0_.1)),(8,.sl a0.length (fl Zn a0)),(9,.val (.int .i64 (a0.length:Int))),(10,.val (.int .i64 s0_.2))]⟩) (fun s0_=>(Zx O n [])) (Xw (fun z12=>JR n (⟨39,[],[(4,.val (.bool false))]⟩:Env) (Zx O n []) n) (fun z12=>JX 0 n (⟨39,[],[]⟩:Env) (Zx O n []) n)) ?_
  intro s0_ x0_ hs0_
  unfold Vg at hs0_
  try dsimp only
  refine Zr [1,5,8,9,10,11] (Zc Zd [] ?_)
  simp only [push_cast,seval,↓reduceIte,Za,hN0,hN]
  refine Zm ?_
  refine Zv (t:=(decide (s0_.2 < (a0.length:Int)))) rfl (fun c11 => ?_) (fun c11 => ?_)
  ·replace hs0_:=Zu c11 hs0_
   refine Zy ?_
   try simp only [Zk,Ze]
   refine Zl [1,5,8,9,10] [] ?_
   simp only [push_cast,seval,↓reduceIte]
   refine Zm ?_
   refine Ym ?_
   refine Zm ?_
   obtain ⟨x2,hx2,ax2,bx2,cx2,hs0_⟩:=bE (f:=Zn) Zmv (fun _=>rfl) (by decide) hs0_
   refine Zc Zd [] ?_
   simp only [push_cast,Nat.reduceAdd,Nat.reduceSub,Nat.reduceMul,Nat.reduceLeDiff,Nat.reduceLT,Nat.reduceEqDiff,↓reduceIte,reduceCtorEq,Int.reduceBEq,Int.reduceBNe,Nat.reduceBEq,Int.reduceLE,Int.reduceLT,Int.reduceEq,Int.reduceNe,Int.reduceNeg,Nat.reduceDiv,Nat.reduceMod,Nat.reducePow,Za,ax2,bx2,cx2,hN0,hN]
   refine Zl [1,5,7,8,9,10] [true] ?_
   simp only [push_cast,seval,↓reduceIte]
   refine Zm ?_
   obtain ⟨z4,hz4,hs0_⟩:=bC hs0_
   refine Y6 (E':=⟨39,[],[(1,.val (.int .i64 a1)),(7,.ref n 0),(8,.sl a0.length (fl Zn a0)),(9,.val (.int .i64 (a0.length:Int))),(10,.val (.int .i64 s0_.2)),(35,.val (.bool z4))]⟩) (O':=(Zx O n [some ⟨false,71,12,1,(Zad x2)⟩])) (n0:=(n+1)) ?_ ?_
   ·rcases Bool.eq_false_or_eq_true (decide (x2.At≤s0_.1)) with c7 | c7
    ·replace hz4:=Zu c7 hz4
     refine Zc Zd [none,none,none,none,none,none,none,some false,some false,some false,some false,some false] ?_
     simp only [push_cast,seval,↓reduceIte,Za,c7,hN0,hN]
     repeat (with_reducible refine And.intro (by first | (intro h0;simp only [h0,and_self];done) | (intro h0;simp only [h0,Bool.not_false,Bool.not_true,Bool.true_and,Bool.and_true,true_and,and_true,and_self,imp_self,implies_true,bne_iff_ne,ne_eq,beq_iff_eq];done) | (intros;simp_all;done) | exact True.intro) ?_)
     have hz4:=Option.some.inj hz4;subst hz4
     refine And.intro rfl (Fit2.of (Zj hU rfl rfl ?_) (by omega))
     simp only [push_cast,seval,↓reduceIte,Za,c7,hN0,hN]
    replace hz4:=Zt c7 hz4
    rcases Bool.eq_false_or_eq_true (decide (65534 < x2.At)) with c8 | c8
    ·replace hz4:=Zu c8 hz4
     try rw [c8] at c7
     refine Zc Zd [none,none,none,none,none,none,none,some false,some false,some false,some false,some false] ?_
     simp only [push_cast,seval,↓reduceIte,Za,c7,c8,hN0,hN]
     repeat (with_reducible refine And.intro (by first | (intro h0;simp only [h0,and_self];done) | (intro h0;simp only [h0,Bool.not_false,Bool.not_true,Bool.true_and,Bool.and_true,true_and,and_true,and_self,imp_self,implies_true,bne_iff_ne,ne_eq,beq_iff_eq];done) | (intros;simp_all;done) | exact True.intro) ?_)
     have hz4:=Option.some.inj hz4;subst hz4
     refine And.intro rfl (Fit2.of (Zj hU rfl rfl ?_) (by omega))
     simp only [push_cast,seval,↓reduceIte,Za,c7,c8,hN0,hN]
    replace hz4:=Zt c8 hz4
    try rw [c8] at c7
    rcases Bool.eq_false_or_eq_true (x2.E.Kind == 0) with c9 | c9
    ·replace hz4:=Zu c9 hz4
     try rw [c9] at c7
     try rw [c9] at c8
     refine Zc Zd [none,none,none,none,none,none,none,some false,some false,some false,some false,some false] ?_
     simp only [push_cast,seval,↓reduceIte,Za,c7,c8,c9,hN0,hN]
     repeat (with_reducible refine And.intro (by first | (intro h0;simp only [h0,and_self];done) | (intro h0;simp only [h0,Bool.not_false,Bool.not_true,Bool.true_and,Bool.and_true,true_and,and_true,and_self,imp_self,implies_true,bne_iff_ne,ne_eq,beq_iff_eq];done) | (intros;simp_all;done) | exact True.intro) ?_)
     have hz4:=Option.some.inj hz4;subst hz4
     refine And.intro rfl (Fit2.of (Zj hU rfl rfl ?_) (by omega))
     simp only [push_cast,seval,↓reduceIte,Za,c7,c8,c9,hN0,hN]
    replace hz4:=Zt c9 hz4
    try rw [c9] at c7
    try rw [c9] at c8
    obtain ⟨y6,hy6,hz4⟩:=bC hz4
    refine Zc Zd [none,none,none,none,none,none,none,some true,some true,some true,some true,some true] ?_
    simp only [push_cast,seval,↓reduceIte,Za,c7,c8,c9,hN0,hN]
    repeat (with_reducible refine And.intro (by first | (intro h0;simp only [h0,and_self];done) | (intro h0;simp only [h0,Bool.not_false,Bool.not_true,Bool.true_and,Bool.and_true,true_and,and_true,and_self,imp_self,implies_true,bne_iff_ne,ne_eq,beq_iff_eq];done) | (intros;simp_all;done) | exact True.intro) ?_)
    refine (J5 hy6).then ?_
    simp only [push_cast,seval,↓reduceIte,Za,c7,c8,c9,hN0,hN]
    repeat (with_reducible refine And.intro (by first | (intro h0;simp only [h0,and_self];done) | (intro h0;simp only [h0,Bool.not_false,Bool.not_true,Bool.true_and,Bool.and_true,true_and,and_true,and_self,imp_self,implies_true,bne_iff_ne,ne_eq,beq_iff_eq];done) | (intros;simp_all;done) | exact True.intro) ?_)
    have hz4:=Option.some.inj hz4;subst hz4
    refine And.intro rfl (Fit2.of (Zj hU rfl rfl ?_) (by omega))
    simp only [push_cast,seval,↓reduceIte,Za,c7,c8,c9,hN0,hN]
   refine Zv (t:=z4) rfl (fun c10 => ?_) (fun c10 => ?_)
   ·replace hs0_:=Zu c10 hs0_
    refine Zr [4] (Zc Zd [] ?_)
    simp only [push_cast,seval,↓reduceIte,Za,hN0,hN]
    refine Z4 ?_
    try simp only [Zk,Ze]
    have hs0_:=Option.some.inj hs0_;subst hs0_
    refine And.intro (fun h=>by cases h) (And.intro rfl (Fit2.of (Zj hU rfl rfl ?_) (by omega)))
    simp only [push_cast,seval,↓reduceIte,Za,hN0,hN]
   replace hs0_:=Zt c10 hs0_
   refine Zy ?_
   try simp only [Zk,Ze]
   refine Zl [1,7,8,9,10] [true] ?_
   simp only [push_cast,seval,↓reduceIte]
   refine Zc Zd [] ?_
   simp only [push_cast,seval,↓reduceIte,Za,hN0,hN]
   refine Zl [1,5,8,9,10] [false] ?_
   simp only [push_cast,seval,↓reduceIte]
   refine Zc Zd [] ?_
   simp only [push_cast,seval,↓reduceIte,Za,hN0,hN]
   have hs0_:=Option.some.inj hs0_;subst hs0_
   refine And.intro rfl (Fit2.of (Zj hU rfl rfl ?_) (by omega))
   simp only [push_cast,seval,↓reduceIte,Za,hN0,hN]
  replace hs0_:=Zt c11 hs0_
  refine Xp ?_
  try simp only [Zk,Ze,↓reduceIte,Nat.reduceEqDiff]
  have hs0_:=Option.some.inj hs0_;subst hs0_
  refine And.intro (fun h=>by cases h) (And.intro rfl (Fit2.of (Zj hU rfl rfl ?_) (by omega)))
  simp only [push_cast,seval,↓reduceIte,Za,hN0,hN]
 rcases z12 with z12 | z12
 ·dsimp only [Xw] at hw h
  refine Jc hw ?_
  try simp only [Zk,Ze,↓reduceIte,Nat.reduceEqDiff]
  have h:=Option.some.inj h;subst h
  refine Zs (.inr rfl) hU [.val (.bool false)] (by omega) ?_
  simp only [push_cast,seval,↓reduceIte,Za,Try.results100,hN0,hN]
 dsimp only [Xw] at hw h
 refine Yx hw ?_
 try simp only [Zk,Ze,↓reduceIte,Nat.reduceEqDiff]
 refine Zl [] [] ?_
 simp only [push_cast,seval,↓reduceIte]
 refine Zr [4] (Zc Zd [] ?_)
 simp only [push_cast,seval,↓reduceIte,Za,hN0,hN]
 refine Z4 ?_
 try simp only [Zk,Ze]
 have h:=Option.some.inj h;subst h
 refine Zs (.inr rfl) hU [.val (.bool true)] (by omega) ?_
 simp only [push_cast,seval,↓reduceIte,Za,Try.results100,hN0,hN]
theorem Zmh {Yt:(S_api_Edit→Option Bool)} {Yp:(S_api_Edit→Int→Option Bool)} {Yb:((List S_api_KidEdit)→Int→Option Bool)} {Ye:(S_api_Edit→Int→Option Bool)} {Yf:(Int→S_api_Op→Int→Option Bool)} {Z9:(Bool→Bool→Bool→S_api_Op→Option Bool)} (Q9:∀ {a0:S_api_Edit} {r:Bool} {O:Objs} {n:Nat},Yt a0=some r→GTo Try.prog 24 [.agg (Zh a0)] O n (.val (.bool r)) O n) (J5:∀ {a0:S_api_Edit} {a1:Int} {r:Bool} {O:Objs} {n:Nat},Yp a0 a1=some r→GTo Try.prog 59 [.agg (Zh a0),.val (.int .i64 a1)] O n (.val (.bool r)) O n) (Jy:∀ {a0:(List S_api_KidEdit)} {a1:Int} {r:Bool} {O:Objs} {n:Nat},Yb a0 a1=some r→GTo Try.prog 100 [.sl a0.length (fl Zn a0),.val (.int .i64 a1)] O n (.val (.bool r)) O n) (Kk:∀ {a0:S_api_Edit} {a1:Int} {r:Bool} {O:Objs} {n:Nat},Ye a0 a1=some r→GTo Try.prog 101 [.agg (Zh a0),.val (.int .i64 a1)] O n (.val (.bool r)) O n) (K8:∀ {a0:Int} {a1:S_api_Op} {a2:Int} {r:Bool} {O:Objs} {n:Nat},Yf a0 a1 a2=some r→GTo Try.prog 124 [.val (.int .i64 a0),.agg (Z7 a1),.val (.int .i64 a2)] O n (.val (.bool r)) O n) (Xa:∀ {a0:Bool} {a1:Bool} {a2:Bool} {a3:S_api_Op} {r:Bool} {O:Objs} {n:Nat},Z9 a0 a1 a2 a3=some r→GTo Try.prog 131 [.val (.bool a0),.val (.bool a1),.val (.bool a2),.ip (Z7 a3) 0] O n (.val (.bool r)) O n) {a0:S_api_Edit} {a1:Int} {r:Bool} {O:Objs} {n:Nat} (h:Zaa Yt Yp Yb Ye Yf Z9 a0 a1=some r):GTo Try.prog 101 [.agg (Zh a0),.val (.int .i64 a1)] O n (.val (.bool r)) O n:=by
 unfold Zaa at h
 refine Y8 Zd Try.call101 Try.func101 rfl (Nat.le_of_ble_eq_true rfl) (Nat.le_refl _) fun hU => ?_
 have hN0:O n=none:=hU.fresh _ (Nat.le_refl _)
 have hN:∀ k,O (n+k)=none:=fun k=>hU.fresh _ (Nat.le_add_right _ _)
 show W _ _ _ _ ⟨38,[],[(0,.agg (Zh a0)),(1,.val (.int .i64 a1))]⟩ (Zx O n []) _
 refine Zr [1,2] (Zc Zd [] ?_)
 simp only [push_cast,seval,↓reduceIte,Za,hN0,hN]
 refine Zm ?_
 refine Zm ?_
 obtain ⟨y2,hy2,h⟩:=bC h
 refine Zc Zd [] ?_
 simp only [push_cast,seval,↓reduceIte,Za,hN0,hN]
 refine (Zie hy2).then ?_
 simp only [push_cast,seval,↓reduceIte,Za,hN0,hN]
 refine Zl [1,2,12] [true] ?_
 simp only [push_cast,seval,↓reduceIte]
 refine Zv (t:=(!y2)) rfl (fun c12 => ?_) (fun c12 => ?_)
 ·replace h:=Zu c12 h
  refine Zr [4] (Zc Zd [] ?_)
  simp only [push_cast,seval,↓reduceIte,Za,hN0,hN]
  refine Z4 ?_
  try simp only [Zk,Ze]
  have h:=Option.some.inj h;subst h
  refine Zs (.inr rfl) hU [.val (.bool false)] (by omega) ?_
  simp only [push_cast,seval,↓reduceIte,Za,Try.results101,hN0,hN]
 replace h:=Zt c12 h
 refine Zy ?_
 try simp only [Zk,Ze]
 refine Zl [1,2] [true] ?_
 simp only [push_cast,seval,↓reduceIte]
 refine Zm ?_
 refine Zr [1,2,14,15,16] (Zc Zd [] ?_)
 simp only [push_cast,seval,↓reduceIte,Za,hN0,hN]
 refine Zl [1,2,14,15,16] [true] ?_
 simp only [push_cast,seval,↓reduceIte]
 obtain ⟨z9,hz9,h⟩:=bC h
 refine U4 (J:=(Xw (fun z9=>JR n (⟨38,[],[(4,.val (.bool false))]⟩:Env) (Zx O n [none]) (n+1)) (fun z9=>JX 0 n (⟨38,[],[(2,.ref n 0)]⟩:Env) (Zx O n [some ⟨false,30,11,1,(Zh a0)⟩]) (n+1)))) (z:=z9) ?_ fun hw => ?_
 ·refine Xg hz9 (fun s0_=>⟨38,[],[(1,.val (.int .i64 a1)),(2,.ref n 0),(14,.sl a0.Ops.length (fl Zg a0.Ops)),(15,.val (.int .i64 (a0.Ops.length:Int))),(16,.val (.int .i64 s0_))]⟩) (fun s0_=>(Zx O n [some ⟨false,30,11,1,(Zh a0)⟩])) (Xw (fun z9=>JR n (⟨38,[],[(4,.val (.bool false))]⟩:Env) (Zx O n [none]) (n+1)) (fun z9=>JX 0 n (⟨38,[],[(2,.ref n 0)]⟩:Env) (Zx O n [some ⟨false,30,11,1,(Zh a0)⟩]) (n+1))) ?_
  intro s0_ x0_ hs0_
  unfold Vs at hs0_
  try dsimp only
  refine Zr [1,2,14,15,16,17] (Zc Zd [] ?_)
  simp only [push_cast,seval,↓reduceIte,Za,hN0,hN]
  refine Zm ?_
  refine Zv (t:=(decide (s0_ < (a0.Ops.length:Int)))) rfl (fun c8 => ?_) (fun c8 => ?_)
  ·replace hs0_:=Zu c8 hs0_
   refine Zy ?_
   try simp only [Zk,Ze]
   refine Zl [1,2,14,15,16] [true] ?_
   simp only [push_cast,seval,↓reduceIte]
   refine Zm ?_
   refine Ym ?_
   refine Zm ?_
   obtain ⟨x4,hx4,ax4,bx4,cx4,hs0_⟩:=bE (f:=Zg) Zda (fun _=>rfl) (by decide) hs0_
   refine Zc Zd [] ?_
   simp only [push_cast,Nat.reduceAdd,Nat.reduceSub,Nat.reduceMul,Nat.reduceLeDiff,Nat.reduceLT,Nat.reduceEqDiff,↓reduceIte,reduceCtorEq,Int.reduceBEq,Int.reduceBNe,Nat.reduceBEq,Int.reduceLE,Int.reduceLT,Int.reduceEq,Int.reduceNe,Int.reduceNeg,Nat.reduceDiv,Nat.reduceMod,Nat.reducePow,Za,ax4,bx4,cx4,hN0,hN]
   refine Zl [1,2,6,14,15,16] [true,true] ?_
   simp only [push_cast,seval,↓reduceIte]
   refine Zm ?_
   obtain ⟨y6,hy6,hs0_⟩:=bC hs0_
   refine Zc Zd [] ?_
   simp only [push_cast,seval,↓reduceIte,Za,hN0,hN]
   refine (K8 hy6).then ?_
   simp only [push_cast,seval,↓reduceIte,Za,hN0,hN]
   refine Zl [1,2,14,15,16,25] [true,false] ?_
   simp only [push_cast,seval,↓reduceIte]
   refine Zv (t:=(!y6)) rfl (fun c7 => ?_) (fun c7 => ?_)
   ·replace hs0_:=Zu c7 hs0_
    refine Zr [4] (Zc Zd [] ?_)
    simp only [push_cast,seval,↓reduceIte,Za,hN0,hN]
    refine Z4 ?_
    try simp only [Zk,Ze]
    have hs0_:=Option.some.inj hs0_;subst hs0_
    refine And.intro (fun h=>by cases h) (And.intro rfl (Fit2.of (Zj hU rfl rfl ?_) (by omega)))
    simp only [push_cast,seval,↓reduceIte,Za,hN0,hN]
   replace hs0_:=Zt c7 hs0_
   refine Zy ?_
   try simp only [Zk,Ze]
   refine Zl [1,2,14,15,16] [true,false] ?_
   simp only [push_cast,seval,↓reduceIte]
   refine Zc Zd [] ?_
   simp only [push_cast,seval,↓reduceIte,Za,hN0,hN]
   have hs0_:=Option.some.inj hs0_;subst hs0_
   refine And.intro rfl (Fit2.of (Zj hU rfl rfl ?_) (by omega))
   simp only [push_cast,seval,↓reduceIte,Za,hN0,hN]
  replace hs0_:=Zt c8 hs0_
  refine Xp ?_
  try simp only [Zk,Ze,↓reduceIte,Nat.reduceEqDiff]
  have hs0_:=Option.some.inj hs0_;subst hs0_
  refine And.intro (fun h=>by cases h) (And.intro rfl (Fit2.of (Zj hU rfl rfl ?_) (by omega)))
  simp only [push_cast,seval,↓reduceIte,Za,hN0,hN]
 rcases z9 with z9 | z9
 ·dsimp only [Xw] at hw h
  refine Jc hw ?_
  try simp only [Zk,Ze,↓reduceIte,Nat.reduceEqDiff]
  have h:=Option.some.inj h;subst h
  refine Zs (.inr rfl) hU [.val (.bool false)] (by omega) ?_
  simp only [push_cast,seval,↓reduceIte,Za,Try.results101,hN0,hN]
 dsimp only [Xw] at hw h
 refine Yx hw ?_
 try simp only [Zk,Ze,↓reduceIte,Nat.reduceEqDiff]
 refine Zl [2] [true] ?_
 simp only [push_cast,seval,↓reduceIte]
 refine Zm ?_
 obtain ⟨y11,hy11,h⟩:=bC h
 refine Zc Zd [] ?_
 simp only [push_cast,seval,↓reduceIte,Za,hN0,hN]
 refine (Zop hy11).then ?_
 simp only [push_cast,seval,↓reduceIte,Za,hN0,hN]
 refine Zl [7,8] [false] ?_
 simp only [push_cast,seval,↓reduceIte]
 refine Zr [4] (Zc Zd [none,none] ?_)
 simp only [push_cast,seval,↓reduceIte,Za,hN0,hN]
 repeat (with_reducible refine And.intro (by first | (intro h0;simp only [h0,and_self];done) | (intro h0;simp only [h0,Bool.not_false,Bool.not_true,Bool.true_and,Bool.and_true,true_and,and_true,and_self,imp_self,implies_true,bne_iff_ne,ne_eq,beq_iff_eq];done) | (intros;simp_all;done) | exact True.intro) ?_)
 refine Z4 ?_
 try simp only [Zk,Ze]
 have h:=Option.some.inj h;subst h
 refine Zs (.inr rfl) hU [.val (.bool (cond (decide (y11.1 < 1048576)) (decide (y11.2 < 1048576)) false))] (by omega) ?_
 simp only [push_cast,seval,↓reduceIte,Za,Try.results101,hN0,hN]
theorem Znq {Yt:(S_api_Edit→Option Bool)} {Yp:(S_api_Edit→Int→Option Bool)} {Yb:((List S_api_KidEdit)→Int→Option Bool)} {Ye:(S_api_Edit→Int→Option Bool)} {Yf:(Int→S_api_Op→Int→Option Bool)} {Z9:(Bool→Bool→Bool→S_api_Op→Option Bool)} (Q9:∀ {a0:S_api_Edit} {r:Bool} {O:Objs} {n:Nat},Yt a0=some r→GTo Try.prog 24 [.agg (Zh a0)] O n (.val (.bool r)) O n) (J5:∀ {a0:S_api_Edit} {a1:Int} {r:Bool} {O:Objs} {n:Nat},Yp a0 a1=some r→GTo Try.prog 59 [.agg (Zh a0),.val (.int .i64 a1)] O n (.val (.bool r)) O n) (Jy:∀ {a0:(List S_api_KidEdit)} {a1:Int} {r:Bool} {O:Objs} {n:Nat},Yb a0 a1=some r→GTo Try.prog 100 [.sl a0.length (fl Zn a0),.val (.int .i64 a1)] O n (.val (.bool r)) O n) (Kk:∀ {a0:S_api_Edit} {a1:Int} {r:Bool} {O:Objs} {n:Nat},Ye a0 a1=some r→GTo Try.prog 101 [.agg (Zh a0),.val (.int .i64 a1)] O n (.val (.bool r)) O n) (K8:∀ {a0:Int} {a1:S_api_Op} {a2:Int} {r:Bool} {O:Objs} {n:Nat},Yf a0 a1 a2=some r→GTo Try.prog 124 [.val (.int .i64 a0),.agg (Z7 a1),.val (.int .i64 a2)] O n (.val (.bool r)) O n) (Xa:∀ {a0:Bool} {a1:Bool} {a2:Bool} {a3:S_api_Op} {r:Bool} {O:Objs} {n:Nat},Z9 a0 a1 a2 a3=some r→GTo Try.prog 131 [.val (.bool a0),.val (.bool a1),.val (.bool a2),.ip (Z7 a3) 0] O n (.val (.bool r)) O n) {a0:Int} {a1:S_api_Op} {a2:Int} {r:Bool} {O:Objs} {n:Nat} (h:Za7 Yt Yp Yb Ye Yf Z9 a0 a1 a2=some r):GTo Try.prog 124 [.val (.int .i64 a0),.agg (Z7 a1),.val (.int .i64 a2)] O n (.val (.bool r)) O n:=by
 unfold Za7 at h
 refine Y8 Zd Try.call124 Try.func124 rfl (Nat.le_of_ble_eq_true rfl) (Nat.le_refl _) fun hU => ?_
 have hN0:O n=none:=hU.fresh _ (Nat.le_refl _)
 have hN:∀ k,O (n+k)=none:=fun k=>hU.fresh _ (Nat.le_add_right _ _)
 show W _ _ _ _ ⟨60,[],[(0,.val (.int .i64 a0)),(1,.agg (Z7 a1)),(2,.val (.int .i64 a2))]⟩ (Zx O n []) _
 refine Zr [0,2,4] (Zc Zd [] ?_)
 simp only [push_cast,seval,↓reduceIte,Za,hN0,hN]
 refine Zhg ⟨60,[],[(0,.val (.int .i64 a0)),(2,.val (.int .i64 a2)),(4,.ip (Z7 a1) 0)]⟩ (Zx O n [none]) (Zj hU rfl rfl ?_) ?_
 ·simp only [push_cast,seval,↓reduceIte,Za,hN0,hN]
 refine Zr [0,2,4,7] (Zc Zd [] ?_)
 simp only [push_cast,seval,↓reduceIte,Za,hN0,hN]
 refine Zm ?_
 refine Zr [0,2,4,7,10] (Zc Zd [] ?_)
 simp only [push_cast,seval,↓reduceIte,Za,hN0,hN]
 refine Ym ?_
 refine Zm ?_
 refine Ym ?_
 obtain ⟨z1,hz1,h⟩:=bC h
 refine Z8d (J:=(Xw (fun z1=>JN n (⟨60,[],[(0,.val (.int .i64 a0)),(4,.ip (Z7 a1) 0),(7,.fn 131 0 [.ip (Z7 a1) 0])]⟩:Env) (Zx O n [none]) (n+1)) (Xw (fun z1=>JR n (⟨60,[],[(6,.val (.bool z1))]⟩:Env) (Zx O n [none]) (n+1)) (Xw (fun z1=>JX 4 n (⟨60,[],[(0,.val (.int .i64 a0)),(2,.val (.int .i64 a2)),(4,.ip (Z7 a1) 0),(7,.fn 131 0 [.ip (Z7 a1) 0])]⟩:Env) (Zx O n [none]) (n+1)) (fun z1=>JX 0 n (⟨60,[],[]⟩:Env) (Zx O n [none]) (n+1)))))) (z:=z1) ?_ fun hw => ?_
 ·refine Ym ?_
  refine Ym ?_
  refine Zm ?_
  refine Ym ?_
  refine Zm ?_
  refine Zm ?_
  refine Zr [0,2,4,7,10,11] (Zc Zd [] ?_)
  simp only [push_cast,seval,↓reduceIte,Za,hN0,hN]
  refine Zv (t:=(a1.Kind == 0)) rfl (fun c7 => ?_) (fun c7 => ?_)
  ·replace hz1:=Zu c7 hz1
   refine Xp ?_
   try simp only [Zk,Ze,↓reduceIte,Nat.reduceEqDiff]
   refine Zl [4,7] [false] ?_
   simp only [push_cast,seval,↓reduceIte]
   refine Zm ?_
   refine Zm ?_
   obtain ⟨y3,hy3,hz1⟩:=bC hz1
   refine Zc Zd [none,none,none,none,none,none] ?_
   simp only [push_cast,seval,↓reduceIte,Za,hN0,hN]
   repeat (with_reducible refine And.intro (by first | (intro h0;simp only [h0,and_self];done) | (intro h0;simp only [h0,Bool.not_false,Bool.not_true,Bool.true_and,Bool.and_true,true_and,and_true,and_self,imp_self,implies_true,bne_iff_ne,ne_eq,beq_iff_eq];done) | (intros;simp_all;done) | exact True.intro) ?_)
   refine GCalls.argsW ?_ ((Xa hy3).then ?_)
   ·simp only [push_cast,seval,↓reduceIte,Za,hN0,hN]
   simp only [push_cast,seval,↓reduceIte,Za,hN0,hN]
   repeat (with_reducible refine And.intro (by first | (intro h0;simp only [h0,and_self];done) | (intro h0;simp only [h0,Bool.not_false,Bool.not_true,Bool.true_and,Bool.and_true,true_and,and_true,and_self,imp_self,implies_true,bne_iff_ne,ne_eq,beq_iff_eq];done) | (intros;simp_all;done) | exact True.intro) ?_)
   refine Zl [6] [false] ?_
   simp only [push_cast,seval,↓reduceIte]
   refine Z4 ?_
   try simp only [Zk,Ze]
   have hz1:=Option.some.inj hz1;subst hz1
   refine And.intro rfl (Fit2.of (Zj hU rfl rfl ?_) (by omega))
   simp only [push_cast,seval,↓reduceIte,Za,hN0,hN]
  replace hz1:=Zt c7 hz1
  refine Zy ?_
  try simp only [Zk,Ze]
  refine Zl [0,2,4,7,10] [false] ?_
  simp only [push_cast,seval,↓reduceIte]
  refine Zm ?_
  refine Zr [0,2,4,7,10,13] (Zc Zd [] ?_)
  simp only [push_cast,seval,↓reduceIte,Za,hN0,hN]
  refine Zv (t:=(a1.Kind == 1)) rfl (fun c6 => ?_) (fun c6 => ?_)
  ·replace hz1:=Zu c6 hz1
   refine Xp ?_
   try simp only [Zk,Ze,↓reduceIte,Nat.reduceEqDiff]
   have hz1:=Option.some.inj hz1;subst hz1
   refine And.intro rfl (Fit2.of (Zj hU rfl rfl ?_) (by omega))
   simp only [push_cast,seval,↓reduceIte,Za,hN0,hN]
  replace hz1:=Zt c6 hz1
  refine Zy ?_
  try simp only [Zk,Ze]
  refine Zl [0,2,4,7,10] [false] ?_
  simp only [push_cast,seval,↓reduceIte]
  refine Zm ?_
  refine Zr [0,2,4,7,10,15] (Zc Zd [] ?_)
  simp only [push_cast,seval,↓reduceIte,Za,hN0,hN]
  refine Zv (t:=(a1.Kind == 2)) rfl (fun c5 => ?_) (fun c5 => ?_)
  ·replace hz1:=Zu c5 hz1
   refine Xp ?_
   try simp only [Zk,Ze,↓reduceIte,Nat.reduceEqDiff]
   have hz1:=Option.some.inj hz1;subst hz1
   refine And.intro rfl (Fit2.of (Zj hU rfl rfl ?_) (by omega))
   simp only [push_cast,seval,↓reduceIte,Za,hN0,hN]
  replace hz1:=Zt c5 hz1
  refine Zy ?_
  try simp only [Zk,Ze]
  refine Zl [0,2,4,7,10] [false] ?_
  simp only [push_cast,seval,↓reduceIte]
  refine Zr [0,2,4,7,17] (Zc Zd [] ?_)
  simp only [push_cast,seval,↓reduceIte,Za,hN0,hN]
  refine Zv (t:=(a1.Kind == 3)) rfl (fun c4 => ?_) (fun c4 => ?_)
  ·replace hz1:=Zu c4 hz1
   refine Xp ?_
   try simp only [Zk,Ze,↓reduceIte,Nat.reduceEqDiff]
   have hz1:=Option.some.inj hz1;subst hz1
   refine And.intro rfl (Fit2.of (Zj hU rfl rfl ?_) (by omega))
   simp only [push_cast,seval,↓reduceIte,Za,hN0,hN]
  replace hz1:=Zt c4 hz1
  refine Zy ?_
  try simp only [Zk,Ze]
  refine Zl [] [false] ?_
  simp only [push_cast,seval,↓reduceIte]
  refine Xp ?_
  try simp only [Zk,Ze,↓reduceIte,Nat.reduceEqDiff]
  have hz1:=Option.some.inj hz1;subst hz1
  refine And.intro rfl (Fit2.of (Zj hU rfl rfl ?_) (by omega))
  simp only [push_cast,seval,↓reduceIte,Za,hN0,hN]
 rcases z1 with z1 | z1
 ·dsimp only [Xw] at hw h
  refine Y6 hw ?_
  refine Zm ?_
  obtain ⟨z10,hz10,h⟩:=bC h
  refine Y6 (E':=⟨60,[],[(6,.val (.bool z10))]⟩) (O':=(Zx O n [none])) (n0:=(n+1)) ?_ ?_
  ·obtain ⟨y13,hy13,hz10⟩:=bC hz10
   rcases Bool.eq_false_or_eq_true y13 with c15 | c15
   ·replace hz10:=Zu c15 hz10
    rcases Bool.eq_false_or_eq_true (decide (0 < (a1.L.length:Int))) with c16 | c16
    ·replace hz10:=Zu c16 hz10
     try rw [c16] at c15
     obtain ⟨y14,hy14,hz10⟩:=bC hz10
     refine Zc Zd [none,none,none,none,some true,some true,some true,some true,some true] ?_
     simp only [push_cast,seval,↓reduceIte,Za,c15,c16,hN0,hN]
     repeat (with_reducible refine And.intro (by first | (intro h0;simp only [h0,and_self];done) | (intro h0;simp only [h0,Bool.not_false,Bool.not_true,Bool.true_and,Bool.and_true,true_and,and_true,and_self,imp_self,implies_true,bne_iff_ne,ne_eq,beq_iff_eq];done) | (intros;simp_all;done) | exact True.intro) ?_)
     refine GCalls.argsW ?_ ((Xa hy13).then ?_)
     ·simp only [push_cast,seval,↓reduceIte,Za,c15,c16,hN0,hN]
     simp only [push_cast,seval,↓reduceIte,Za,c15,c16,hN0,hN]
     repeat (with_reducible refine And.intro (by first | (intro h0;simp only [h0,and_self];done) | (intro h0;simp only [h0,Bool.not_false,Bool.not_true,Bool.true_and,Bool.and_true,true_and,and_true,and_self,imp_self,implies_true,bne_iff_ne,ne_eq,beq_iff_eq];done) | (intros;simp_all;done) | exact True.intro) ?_)
     refine GCalls.argsW ?_ ((Zkq hy14).then ?_)
     ·simp only [push_cast,seval,↓reduceIte,Za,c15,c16,hN0,hN]
     simp only [push_cast,seval,↓reduceIte,Za,c15,c16,hN0,hN]
     repeat (with_reducible refine And.intro (by first | (intro h0;simp only [h0,and_self];done) | (intro h0;simp only [h0,Bool.not_false,Bool.not_true,Bool.true_and,Bool.and_true,true_and,and_true,and_self,imp_self,implies_true,bne_iff_ne,ne_eq,beq_iff_eq];done) | (intros;simp_all;done) | exact True.intro) ?_)
     have hz10:=Option.some.inj hz10;subst hz10
     refine And.intro rfl (Fit2.of (Zj hU rfl rfl ?_) (by omega))
     simp only [push_cast,seval,↓reduceIte,Za,c15,c16,hN0,hN]
    replace hz10:=Zt c16 hz10
    try rw [c16] at c15
    refine Zc Zd [none,none,none,none,some false,some false,some false,some false,some false] ?_
    simp only [push_cast,seval,↓reduceIte,Za,c15,c16,hN0,hN]
    repeat (with_reducible refine And.intro (by first | (intro h0;simp only [h0,and_self];done) | (intro h0;simp only [h0,Bool.not_false,Bool.not_true,Bool.true_and,Bool.and_true,true_and,and_true,and_self,imp_self,implies_true,bne_iff_ne,ne_eq,beq_iff_eq];done) | (intros;simp_all;done) | exact True.intro) ?_)
    refine GCalls.argsW ?_ ((Xa hy13).then ?_)
    ·simp only [push_cast,seval,↓reduceIte,Za,c15,c16,hN0,hN]
    simp only [push_cast,seval,↓reduceIte,Za,c15,c16,hN0,hN]
    repeat (with_reducible refine And.intro (by first | (intro h0;simp only [h0,and_self];done) | (intro h0;simp only [h0,Bool.not_false,Bool.not_true,Bool.true_and,Bool.and_true,true_and,and_true,and_self,imp_self,implies_true,bne_iff_ne,ne_eq,beq_iff_eq];done) | (intros;simp_all;done) | exact True.intro) ?_)
    have hz10:=Option.some.inj hz10;subst hz10
    refine And.intro rfl (Fit2.of (Zj hU rfl rfl ?_) (by omega))
    simp only [push_cast,seval,↓reduceIte,Za,c15,c16,hN0,hN]
   replace hz10:=Zt c15 hz10
   refine Zc Zd [none,none,none,none,some false,some false,some false,some false,some false] ?_
   simp only [push_cast,seval,↓reduceIte,Za,c15,hN0,hN]
   repeat (with_reducible refine And.intro (by first | (intro h0;simp only [h0,and_self];done) | (intro h0;simp only [h0,Bool.not_false,Bool.not_true,Bool.true_and,Bool.and_true,true_and,and_true,and_self,imp_self,implies_true,bne_iff_ne,ne_eq,beq_iff_eq];done) | (intros;simp_all;done) | exact True.intro) ?_)
   refine GCalls.argsW ?_ ((Xa hy13).then ?_)
   ·simp only [push_cast,seval,↓reduceIte,Za,c15,hN0,hN]
   simp only [push_cast,seval,↓reduceIte,Za,c15,hN0,hN]
   repeat (with_reducible refine And.intro (by first | (intro h0;simp only [h0,and_self];done) | (intro h0;simp only [h0,Bool.not_false,Bool.not_true,Bool.true_and,Bool.and_true,true_and,and_true,and_self,imp_self,implies_true,bne_iff_ne,ne_eq,beq_iff_eq];done) | (intros;simp_all;done) | exact True.intro) ?_)
   have hz10:=Option.some.inj hz10;subst hz10
   refine And.intro rfl (Fit2.of (Zj hU rfl rfl ?_) (by omega))
   simp only [push_cast,seval,↓reduceIte,Za,c15,hN0,hN]
  refine Z4 ?_
  try simp only [Zk,Ze]
  have h:=Option.some.inj h;subst h
  refine Zs (.inr rfl) hU [.val (.bool z10)] (by omega) ?_
  simp only [push_cast,seval,↓reduceIte,Za,Try.results124,hN0,hN]
 rcases z1 with z1 | z1
 ·dsimp only [Xw] at hw h
  refine Z7e hw ?_
  try simp only [Zk,Ze]
  have h:=Option.some.inj h;subst h
  refine Zs (.inr rfl) hU [.val (.bool z1)] (by omega) ?_
  simp only [push_cast,seval,↓reduceIte,Za,Try.results124,hN0,hN]
 rcases z1 with z1 | z1
 ·dsimp only [Xw] at hw h
  refine Z2l hw ?_
  try simp only [Zk,Ze,↓reduceIte,Nat.reduceEqDiff]
  refine Zl [0,2,4,7] [false] ?_
  simp only [push_cast,seval,↓reduceIte]
  refine Zm ?_
  obtain ⟨z20,hz20,h⟩:=bC h
  refine Y6 (E':=⟨60,[],[(6,.val (.bool z20))]⟩) (O':=(Zx O n [none])) (n0:=(n+1)) ?_ ?_
  ·obtain ⟨y24,hy24,hz20⟩:=bC hz20
   rcases Bool.eq_false_or_eq_true y24 with c27 | c27
   ·replace hz20:=Zu c27 hz20
    obtain ⟨y25,hy25,hz20⟩:=bC hz20
    rcases Bool.eq_false_or_eq_true y25 with c28 | c28
    ·replace hz20:=Zu c28 hz20
     try rw [c28] at c27
     obtain ⟨y26,hy26,hz20⟩:=bC hz20
     refine Zc Zd [some true,some true,some true,some true,some true,some true,some true,some true] ?_
     simp only [push_cast,seval,↓reduceIte,Za,c27,c28,hN0,hN]
     refine GCalls.argsW ?_ ((Xa hy24).then ?_)
     ·simp only [push_cast,seval,↓reduceIte,Za,c27,c28,hN0,hN]
     simp only [push_cast,seval,↓reduceIte,Za,c27,c28,hN0,hN]
     refine (Zhs hy25).then ?_
     simp only [push_cast,seval,↓reduceIte,Za,c27,c28,hN0,hN]
     refine (J5 hy26).then ?_
     simp only [push_cast,seval,↓reduceIte,Za,c27,c28,hN0,hN]
     have hz20:=Option.some.inj hz20;subst hz20
     refine And.intro rfl (Fit2.of (Zj hU rfl rfl ?_) (by omega))
     simp only [push_cast,seval,↓reduceIte,Za,c27,c28,hN0,hN]
    replace hz20:=Zt c28 hz20
    try rw [c28] at c27
    refine Zc Zd [some true,some true,some true,some true,some false,some false,some false,some false] ?_
    simp only [push_cast,seval,↓reduceIte,Za,c27,c28,hN0,hN]
    refine GCalls.argsW ?_ ((Xa hy24).then ?_)
    ·simp only [push_cast,seval,↓reduceIte,Za,c27,c28,hN0,hN]
    simp only [push_cast,seval,↓reduceIte,Za,c27,c28,hN0,hN]
    refine (Zhs hy25).then ?_
    simp only [push_cast,seval,↓reduceIte,Za,c27,c28,hN0,hN]
    have hz20:=Option.some.inj hz20;subst hz20
    refine And.intro rfl (Fit2.of (Zj hU rfl rfl ?_) (by omega))
    simp only [push_cast,seval,↓reduceIte,Za,c27,c28,hN0,hN]
   replace hz20:=Zt c27 hz20
   refine Zc Zd [some false,some false,some false,some false,some false,some false,some false,some false] ?_
   simp only [push_cast,seval,↓reduceIte,Za,c27,hN0,hN]
   refine GCalls.argsW ?_ ((Xa hy24).then ?_)
   ·simp only [push_cast,seval,↓reduceIte,Za,c27,hN0,hN]
   simp only [push_cast,seval,↓reduceIte,Za,c27,hN0,hN]
   have hz20:=Option.some.inj hz20;subst hz20
   refine And.intro rfl (Fit2.of (Zj hU rfl rfl ?_) (by omega))
   simp only [push_cast,seval,↓reduceIte,Za,c27,hN0,hN]
  refine Z4 ?_
  try simp only [Zk,Ze]
  have h:=Option.some.inj h;subst h
  refine Zs (.inr rfl) hU [.val (.bool z20)] (by omega) ?_
  simp only [push_cast,seval,↓reduceIte,Za,Try.results124,hN0,hN]
 dsimp only [Xw] at hw h
 refine Z2l hw ?_
 try simp only [Zk,Ze,↓reduceIte,Nat.reduceEqDiff]
 refine Zl [] [false] ?_
 simp only [push_cast,seval,↓reduceIte]
 refine Zr [6] (Zc Zd [] ?_)
 simp only [push_cast,seval,↓reduceIte,Za,hN0,hN]
 refine Z4 ?_
 try simp only [Zk,Ze]
 have h:=Option.some.inj h;subst h
 refine Zs (.inr rfl) hU [.val (.bool false)] (by omega) ?_
 simp only [push_cast,seval,↓reduceIte,Za,Try.results124,hN0,hN]
theorem Zla {Yt:(S_api_Edit→Option Bool)} {Yp:(S_api_Edit→Int→Option Bool)} {Yb:((List S_api_KidEdit)→Int→Option Bool)} {Ye:(S_api_Edit→Int→Option Bool)} {Yf:(Int→S_api_Op→Int→Option Bool)} {Z9:(Bool→Bool→Bool→S_api_Op→Option Bool)} (Q9:∀ {a0:S_api_Edit} {r:Bool} {O:Objs} {n:Nat},Yt a0=some r→GTo Try.prog 24 [.agg (Zh a0)] O n (.val (.bool r)) O n) (J5:∀ {a0:S_api_Edit} {a1:Int} {r:Bool} {O:Objs} {n:Nat},Yp a0 a1=some r→GTo Try.prog 59 [.agg (Zh a0),.val (.int .i64 a1)] O n (.val (.bool r)) O n) (Jy:∀ {a0:(List S_api_KidEdit)} {a1:Int} {r:Bool} {O:Objs} {n:Nat},Yb a0 a1=some r→GTo Try.prog 100 [.sl a0.length (fl Zn a0),.val (.int .i64 a1)] O n (.val (.bool r)) O n) (Kk:∀ {a0:S_api_Edit} {a1:Int} {r:Bool} {O:Objs} {n:Nat},Ye a0 a1=some r→GTo Try.prog 101 [.agg (Zh a0),.val (.int .i64 a1)] O n (.val (.bool r)) O n) (K8:∀ {a0:Int} {a1:S_api_Op} {a2:Int} {r:Bool} {O:Objs} {n:Nat},Yf a0 a1 a2=some r→GTo Try.prog 124 [.val (.int .i64 a0),.agg (Z7 a1),.val (.int .i64 a2)] O n (.val (.bool r)) O n) (Xa:∀ {a0:Bool} {a1:Bool} {a2:Bool} {a3:S_api_Op} {r:Bool} {O:Objs} {n:Nat},Z9 a0 a1 a2 a3=some r→GTo Try.prog 131 [.val (.bool a0),.val (.bool a1),.val (.bool a2),.ip (Z7 a3) 0] O n (.val (.bool r)) O n) {a0:Bool} {a1:Bool} {a2:Bool} {a3:S_api_Op} {r:Bool} {O:Objs} {n:Nat} (h:U6 Yt Yp Yb Ye Yf Z9 a0 a1 a2 a3=some r):GTo Try.prog 131 [.val (.bool a0),.val (.bool a1),.val (.bool a2),.ip (Z7 a3) 0] O n (.val (.bool r)) O n:=by
 unfold U6 at h
 refine Y8 Zd Try.call131 Try.func131 rfl (Nat.le_of_ble_eq_true rfl) (Nat.le_refl _) fun hU => ?_
 have hN0:O n=none:=hU.fresh _ (Nat.le_refl _)
 have hN:∀ k,O (n+k)=none:=fun k=>hU.fresh _ (Nat.le_add_right _ _)
 show W _ _ _ _ ⟨41,[],[(0,.val (.bool a0)),(1,.val (.bool a1)),(2,.val (.bool a2)),(3,.ip (Z7 a3) 0)]⟩ (Zx O n []) _
 refine Zr [0,1,2,3] (Zc Zd [] ?_)
 simp only [push_cast,seval,↓reduceIte,Za,hN0,hN]
 obtain ⟨z5,hz5,h⟩:=bC h
 refine Y6 (E':=⟨41,[],[(7,.val (.bool z5))]⟩) (O':=(Zx O n [])) (n0:=n) ?_ ?_
 ·rcases Bool.eq_false_or_eq_true a0 with c14 | c14
  ·replace hz5:=Zu c14 hz5
   rcases Bool.eq_false_or_eq_true (a3.N != 0) with c15 | c15
   ·replace hz5:=Zu c15 hz5
    try rw [c15] at c14
    refine Zc Zd [none,none,none,none,none,none,none,none,none,none,none,some false,some false,some false,some false,some false,some false,some false,some false,some false,some false,some false,some false,some false,some false] ?_
    simp only [push_cast,seval,↓reduceIte,Za,c14,c15,hN0,hN]
    repeat (with_reducible refine And.intro (by first | (intro h0;simp only [h0,and_self];done) | (intro h0;simp only [h0,Bool.not_false,Bool.not_true,Bool.true_and,Bool.and_true,true_and,and_true,and_self,imp_self,implies_true,bne_iff_ne,ne_eq,beq_iff_eq];done) | (intros;simp_all;done) | exact True.intro) ?_)
    have hz5:=Option.some.inj hz5;subst hz5
    refine And.intro rfl (Fit2.of (Zj hU rfl rfl ?_) (by omega))
    simp only [push_cast,seval,↓reduceIte,Za,c14,c15,hN0,hN]
   replace hz5:=Zt c15 hz5
   try rw [c15] at c14
   rcases Bool.eq_false_or_eq_true a1 with c16 | c16
   ·replace hz5:=Zu c16 hz5
    try rw [c16] at c14
    try rw [c16] at c15
    rcases Bool.eq_false_or_eq_true (decide (0 < (a3.L.length:Int))) with c17 | c17
    ·replace hz5:=Zu c17 hz5
     try rw [c17] at c14
     try rw [c17] at c15
     try rw [c17] at c16
     refine Zc Zd [none,none,none,none,none,none,none,none,none,none,none,some false,some false,some false,some false,some false,some false,some false,some false,some false,some false,some false,some false,some false,some false] ?_
     simp only [push_cast,seval,↓reduceIte,Za,c14,c15,c16,c17,hN0,hN]
     repeat (with_reducible refine And.intro (by first | (intro h0;simp only [h0,and_self];done) | (intro h0;simp only [h0,Bool.not_false,Bool.not_true,Bool.true_and,Bool.and_true,true_and,and_true,and_self,imp_self,implies_true,bne_iff_ne,ne_eq,beq_iff_eq];done) | (intros;simp_all;done) | exact True.intro) ?_)
     have hz5:=Option.some.inj hz5;subst hz5
     refine And.intro rfl (Fit2.of (Zj hU rfl rfl ?_) (by omega))
     simp only [push_cast,seval,↓reduceIte,Za,c14,c15,c16,c17,hN0,hN]
    replace hz5:=Zt c17 hz5
    try rw [c17] at c14
    try rw [c17] at c15
    try rw [c17] at c16
    rcases Bool.eq_false_or_eq_true a2 with c18 | c18
    ·replace hz5:=Zu c18 hz5
     try rw [c18] at c14
     try rw [c18] at c15
     try rw [c18] at c16
     try rw [c18] at c17
     rcases Bool.eq_false_or_eq_true (a3.E.Kind != 0) with c19 | c19
     ·replace hz5:=Zu c19 hz5
      try rw [c19] at c14
      try rw [c19] at c15
      try rw [c19] at c16
      try rw [c19] at c17
      try rw [c19] at c18
      refine Zc Zd [none,none,none,none,none,none,none,none,none,none,none,some true,some true,some true,some true,some true,some true,some true,some false,some false,some false,some false,some true,some true,some true] ?_
      simp only [push_cast,seval,↓reduceIte,Za,c14,c15,c16,c17,c18,c19,hN0,hN]
      repeat (with_reducible refine And.intro (by first | (intro h0;simp only [h0,and_self];done) | (intro h0;simp only [h0,Bool.not_false,Bool.not_true,Bool.true_and,Bool.and_true,true_and,and_true,and_self,imp_self,implies_true,bne_iff_ne,ne_eq,beq_iff_eq];done) | (intros;simp_all;done) | exact True.intro) ?_)
      have hz5:=Option.some.inj hz5;subst hz5
      refine And.intro rfl (Fit2.of (Zj hU rfl rfl ?_) (by omega))
      simp only [push_cast,seval,↓reduceIte,Za,c14,c15,c16,c17,c18,c19,hN0,hN]
     replace hz5:=Zt c19 hz5
     try rw [c19] at c14
     try rw [c19] at c15
     try rw [c19] at c16
     try rw [c19] at c17
     try rw [c19] at c18
     obtain ⟨y10,hy10,hz5⟩:=bC hz5
     refine Zc Zd [none,none,none,none,none,none,none,none,none,none,none,some true,some true,some true,some true,some true,some true,some true,some true,some true,some true,some true,some true,some true,some true] ?_
     simp only [push_cast,seval,↓reduceIte,Za,c14,c15,c16,c17,c18,c19,hN0,hN]
     repeat (with_reducible refine And.intro (by first | (intro h0;simp only [h0,and_self];done) | (intro h0;simp only [h0,Bool.not_false,Bool.not_true,Bool.true_and,Bool.and_true,true_and,and_true,and_self,imp_self,implies_true,bne_iff_ne,ne_eq,beq_iff_eq];done) | (intros;simp_all;done) | exact True.intro) ?_)
     refine (Q9 hy10).then ?_
     simp only [push_cast,seval,↓reduceIte,Za,c14,c15,c16,c17,c18,c19,hN0,hN]
     repeat (with_reducible refine And.intro (by first | (intro h0;simp only [h0,and_self];done) | (intro h0;simp only [h0,Bool.not_false,Bool.not_true,Bool.true_and,Bool.and_true,true_and,and_true,and_self,imp_self,implies_true,bne_iff_ne,ne_eq,beq_iff_eq];done) | (intros;simp_all;done) | exact True.intro) ?_)
     have hz5:=Option.some.inj hz5;subst hz5
     refine And.intro rfl (Fit2.of (Zj hU rfl rfl ?_) (by omega))
     simp only [push_cast,seval,↓reduceIte,Za,c14,c15,c16,c17,c18,c19,hN0,hN]
    replace hz5:=Zt c18 hz5
    try rw [c18] at c14
    try rw [c18] at c15
    try rw [c18] at c16
    try rw [c18] at c17
    refine Zc Zd [none,none,none,none,none,none,none,none,none,none,none,some true,some true,some false,some false,some false,some false,some false,some false,some false,some false,some false,some false,some true,some true] ?_
    simp only [push_cast,seval,↓reduceIte,Za,c14,c15,c16,c17,c18,hN0,hN]
    repeat (with_reducible refine And.intro (by first | (intro h0;simp only [h0,and_self];done) | (intro h0;simp only [h0,Bool.not_false,Bool.not_true,Bool.true_and,Bool.and_true,true_and,and_true,and_self,imp_self,implies_true,bne_iff_ne,ne_eq,beq_iff_eq];done) | (intros;simp_all;done) | exact True.intro) ?_)
    have hz5:=Option.some.inj hz5;subst hz5
    refine And.intro rfl (Fit2.of (Zj hU rfl rfl ?_) (by omega))
    simp only [push_cast,seval,↓reduceIte,Za,c14,c15,c16,c17,c18,hN0,hN]
   replace hz5:=Zt c16 hz5
   try rw [c16] at c14
   try rw [c16] at c15
   rcases Bool.eq_false_or_eq_true a2 with c20 | c20
   ·replace hz5:=Zu c20 hz5
    try rw [c20] at c14
    try rw [c20] at c15
    try rw [c20] at c16
    rcases Bool.eq_false_or_eq_true (a3.E.Kind != 0) with c21 | c21
    ·replace hz5:=Zu c21 hz5
     try rw [c21] at c14
     try rw [c21] at c15
     try rw [c21] at c16
     try rw [c21] at c20
     refine Zc Zd [none,none,none,none,none,none,none,none,none,none,none,some true,some true,some true,some true,some true,some true,some true,some false,some false,some false,some false,some true,some true,some true] ?_
     simp only [push_cast,seval,↓reduceIte,Za,c14,c15,c16,c20,c21,hN0,hN]
     repeat (with_reducible refine And.intro (by first | (intro h0;simp only [h0,and_self];done) | (intro h0;simp only [h0,Bool.not_false,Bool.not_true,Bool.true_and,Bool.and_true,true_and,and_true,and_self,imp_self,implies_true,bne_iff_ne,ne_eq,beq_iff_eq];done) | (intros;simp_all;done) | exact True.intro) ?_)
     have hz5:=Option.some.inj hz5;subst hz5
     refine And.intro rfl (Fit2.of (Zj hU rfl rfl ?_) (by omega))
     simp only [push_cast,seval,↓reduceIte,Za,c14,c15,c16,c20,c21,hN0,hN]
    replace hz5:=Zt c21 hz5
    try rw [c21] at c14
    try rw [c21] at c15
    try rw [c21] at c16
    try rw [c21] at c20
    obtain ⟨y11,hy11,hz5⟩:=bC hz5
    refine Zc Zd [none,none,none,none,none,none,none,none,none,none,none,some true,some true,some true,some true,some true,some true,some true,some true,some true,some true,some true,some true,some true,some true] ?_
    simp only [push_cast,seval,↓reduceIte,Za,c14,c15,c16,c20,c21,hN0,hN]
    repeat (with_reducible refine And.intro (by first | (intro h0;simp only [h0,and_self];done) | (intro h0;simp only [h0,Bool.not_false,Bool.not_true,Bool.true_and,Bool.and_true,true_and,and_true,and_self,imp_self,implies_true,bne_iff_ne,ne_eq,beq_iff_eq];done) | (intros;simp_all;done) | exact True.intro) ?_)
    refine (Q9 hy11).then ?_
    simp only [push_cast,seval,↓reduceIte,Za,c14,c15,c16,c20,c21,hN0,hN]
    repeat (with_reducible refine And.intro (by first | (intro h0;simp only [h0,and_self];done) | (intro h0;simp only [h0,Bool.not_false,Bool.not_true,Bool.true_and,Bool.and_true,true_and,and_true,and_self,imp_self,implies_true,bne_iff_ne,ne_eq,beq_iff_eq];done) | (intros;simp_all;done) | exact True.intro) ?_)
    have hz5:=Option.some.inj hz5;subst hz5
    refine And.intro rfl (Fit2.of (Zj hU rfl rfl ?_) (by omega))
    simp only [push_cast,seval,↓reduceIte,Za,c14,c15,c16,c20,c21,hN0,hN]
   replace hz5:=Zt c20 hz5
   try rw [c20] at c14
   try rw [c20] at c15
   try rw [c20] at c16
   refine Zc Zd [none,none,none,none,none,none,none,none,none,none,none,some true,some true,some false,some false,some false,some false,some false,some false,some false,some false,some false,some false,some true,some true] ?_
   simp only [push_cast,seval,↓reduceIte,Za,c14,c15,c16,c20,hN0,hN]
   repeat (with_reducible refine And.intro (by first | (intro h0;simp only [h0,and_self];done) | (intro h0;simp only [h0,Bool.not_false,Bool.not_true,Bool.true_and,Bool.and_true,true_and,and_true,and_self,imp_self,implies_true,bne_iff_ne,ne_eq,beq_iff_eq];done) | (intros;simp_all;done) | exact True.intro) ?_)
   have hz5:=Option.some.inj hz5;subst hz5
   refine And.intro rfl (Fit2.of (Zj hU rfl rfl ?_) (by omega))
   simp only [push_cast,seval,↓reduceIte,Za,c14,c15,c16,c20,hN0,hN]
  replace hz5:=Zt c14 hz5
  rcases Bool.eq_false_or_eq_true a1 with c22 | c22
  ·replace hz5:=Zu c22 hz5
   try rw [c22] at c14
   rcases Bool.eq_false_or_eq_true (decide (0 < (a3.L.length:Int))) with c23 | c23
   ·replace hz5:=Zu c23 hz5
    try rw [c23] at c14
    try rw [c23] at c22
    refine Zc Zd [none,none,none,none,none,none,none,none,none,none,none,some false,some false,some false,some false,some false,some false,some false,some false,some false,some false,some false,some false,some false,some false] ?_
    simp only [push_cast,seval,↓reduceIte,Za,c14,c22,c23,hN0,hN]
    repeat (with_reducible refine And.intro (by first | (intro h0;simp only [h0,and_self];done) | (intro h0;simp only [h0,Bool.not_false,Bool.not_true,Bool.true_and,Bool.and_true,true_and,and_true,and_self,imp_self,implies_true,bne_iff_ne,ne_eq,beq_iff_eq];done) | (intros;simp_all;done) | exact True.intro) ?_)
    have hz5:=Option.some.inj hz5;subst hz5
    refine And.intro rfl (Fit2.of (Zj hU rfl rfl ?_) (by omega))
    simp only [push_cast,seval,↓reduceIte,Za,c14,c22,c23,hN0,hN]
   replace hz5:=Zt c23 hz5
   try rw [c23] at c14
   try rw [c23] at c22
   rcases Bool.eq_false_or_eq_true a2 with c24 | c24
   ·replace hz5:=Zu c24 hz5
    try rw [c24] at c14
    try rw [c24] at c22
    try rw [c24] at c23
    rcases Bool.eq_false_or_eq_true (a3.E.Kind != 0) with c25 | c25
    ·replace hz5:=Zu c25 hz5
     try rw [c25] at c14
     try rw [c25] at c22
     try rw [c25] at c23
     try rw [c25] at c24
     refine Zc Zd [none,none,none,none,none,none,none,none,none,none,none,some true,some true,some true,some true,some true,some true,some true,some false,some false,some false,some false,some true,some true,some true] ?_
     simp only [push_cast,seval,↓reduceIte,Za,c14,c22,c23,c24,c25,hN0,hN]
     repeat (with_reducible refine And.intro (by first | (intro h0;simp only [h0,and_self];done) | (intro h0;simp only [h0,Bool.not_false,Bool.not_true,Bool.true_and,Bool.and_true,true_and,and_true,and_self,imp_self,implies_true,bne_iff_ne,ne_eq,beq_iff_eq];done) | (intros;simp_all;done) | exact True.intro) ?_)
     have hz5:=Option.some.inj hz5;subst hz5
     refine And.intro rfl (Fit2.of (Zj hU rfl rfl ?_) (by omega))
     simp only [push_cast,seval,↓reduceIte,Za,c14,c22,c23,c24,c25,hN0,hN]
    replace hz5:=Zt c25 hz5
    try rw [c25] at c14
    try rw [c25] at c22
    try rw [c25] at c23
    try rw [c25] at c24
    obtain ⟨y12,hy12,hz5⟩:=bC hz5
    refine Zc Zd [none,none,none,none,none,none,none,none,none,none,none,some true,some true,some true,some true,some true,some true,some true,some true,some true,some true,some true,some true,some true,some true] ?_
    simp only [push_cast,seval,↓reduceIte,Za,c14,c22,c23,c24,c25,hN0,hN]
    repeat (with_reducible refine And.intro (by first | (intro h0;simp only [h0,and_self];done) | (intro h0;simp only [h0,Bool.not_false,Bool.not_true,Bool.true_and,Bool.and_true,true_and,and_true,and_self,imp_self,implies_true,bne_iff_ne,ne_eq,beq_iff_eq];done) | (intros;simp_all;done) | exact True.intro) ?_)
    refine (Q9 hy12).then ?_
    simp only [push_cast,seval,↓reduceIte,Za,c14,c22,c23,c24,c25,hN0,hN]
    repeat (with_reducible refine And.intro (by first | (intro h0;simp only [h0,and_self];done) | (intro h0;simp only [h0,Bool.not_false,Bool.not_true,Bool.true_and,Bool.and_true,true_and,and_true,and_self,imp_self,implies_true,bne_iff_ne,ne_eq,beq_iff_eq];done) | (intros;simp_all;done) | exact True.intro) ?_)
    have hz5:=Option.some.inj hz5;subst hz5
    refine And.intro rfl (Fit2.of (Zj hU rfl rfl ?_) (by omega))
    simp only [push_cast,seval,↓reduceIte,Za,c14,c22,c23,c24,c25,hN0,hN]
   replace hz5:=Zt c24 hz5
   try rw [c24] at c14
   try rw [c24] at c22
   try rw [c24] at c23
   refine Zc Zd [none,none,none,none,none,none,none,none,none,none,none,some true,some true,some false,some false,some false,some false,some false,some false,some false,some false,some false,some false,some true,some true] ?_
   simp only [push_cast,seval,↓reduceIte,Za,c14,c22,c23,c24,hN0,hN]
   repeat (with_reducible refine And.intro (by first | (intro h0;simp only [h0,and_self];done) | (intro h0;simp only [h0,Bool.not_false,Bool.not_true,Bool.true_and,Bool.and_true,true_and,and_true,and_self,imp_self,implies_true,bne_iff_ne,ne_eq,beq_iff_eq];done) | (intros;simp_all;done) | exact True.intro) ?_)
   have hz5:=Option.some.inj hz5;subst hz5
   refine And.intro rfl (Fit2.of (Zj hU rfl rfl ?_) (by omega))
   simp only [push_cast,seval,↓reduceIte,Za,c14,c22,c23,c24,hN0,hN]
  replace hz5:=Zt c22 hz5
  try rw [c22] at c14
  rcases Bool.eq_false_or_eq_true a2 with c26 | c26
  ·replace hz5:=Zu c26 hz5
   try rw [c26] at c14
   try rw [c26] at c22
   rcases Bool.eq_false_or_eq_true (a3.E.Kind != 0) with c27 | c27
   ·replace hz5:=Zu c27 hz5
    try rw [c27] at c14
    try rw [c27] at c22
    try rw [c27] at c26
    refine Zc Zd [none,none,none,none,none,none,none,none,none,none,none,some true,some true,some true,some true,some true,some true,some true,some false,some false,some false,some false,some true,some true,some true] ?_
    simp only [push_cast,seval,↓reduceIte,Za,c14,c22,c26,c27,hN0,hN]
    repeat (with_reducible refine And.intro (by first | (intro h0;simp only [h0,and_self];done) | (intro h0;simp only [h0,Bool.not_false,Bool.not_true,Bool.true_and,Bool.and_true,true_and,and_true,and_self,imp_self,implies_true,bne_iff_ne,ne_eq,beq_iff_eq];done) | (intros;simp_all;done) | exact True.intro) ?_)
    have hz5:=Option.some.inj hz5;subst hz5
    refine And.intro rfl (Fit2.of (Zj hU rfl rfl ?_) (by omega))
    simp only [push_cast,seval,↓reduceIte,Za,c14,c22,c26,c27,hN0,hN]
   replace hz5:=Zt c27 hz5
   try rw [c27] at c14
   try rw [c27] at c22
   try rw [c27] at c26
   obtain ⟨y13,hy13,hz5⟩:=bC hz5
   refine Zc Zd [none,none,none,none,none,none,none,none,none,none,none,some true,some true,some true,some true,some true,some true,some true,some true,some true,some true,some true,some true,some true,some true] ?_
   simp only [push_cast,seval,↓reduceIte,Za,c14,c22,c26,c27,hN0,hN]
   repeat (with_reducible refine And.intro (by first | (intro h0;simp only [h0,and_self];done) | (intro h0;simp only [h0,Bool.not_false,Bool.not_true,Bool.true_and,Bool.and_true,true_and,and_true,and_self,imp_self,implies_true,bne_iff_ne,ne_eq,beq_iff_eq];done) | (intros;simp_all;done) | exact True.intro) ?_)
   refine (Q9 hy13).then ?_
   simp only [push_cast,seval,↓reduceIte,Za,c14,c22,c26,c27,hN0,hN]
   repeat (with_reducible refine And.intro (by first | (intro h0;simp only [h0,and_self];done) | (intro h0;simp only [h0,Bool.not_false,Bool.not_true,Bool.true_and,Bool.and_true,true_and,and_true,and_self,imp_self,implies_true,bne_iff_ne,ne_eq,beq_iff_eq];done) | (intros;simp_all;done) | exact True.intro) ?_)
   have hz5:=Option.some.inj hz5;subst hz5
   refine And.intro rfl (Fit2.of (Zj hU rfl rfl ?_) (by omega))
   simp only [push_cast,seval,↓reduceIte,Za,c14,c22,c26,c27,hN0,hN]
  replace hz5:=Zt c26 hz5
  try rw [c26] at c14
  try rw [c26] at c22
  refine Zc Zd [none,none,none,none,none,none,none,none,none,none,none,some true,some true,some false,some false,some false,some false,some false,some false,some false,some false,some false,some false,some true,some true] ?_
  simp only [push_cast,seval,↓reduceIte,Za,c14,c22,c26,hN0,hN]
  repeat (with_reducible refine And.intro (by first | (intro h0;simp only [h0,and_self];done) | (intro h0;simp only [h0,Bool.not_false,Bool.not_true,Bool.true_and,Bool.and_true,true_and,and_true,and_self,imp_self,implies_true,bne_iff_ne,ne_eq,beq_iff_eq];done) | (intros;simp_all;done) | exact True.intro) ?_)
  have hz5:=Option.some.inj hz5;subst hz5
  refine And.intro rfl (Fit2.of (Zj hU rfl rfl ?_) (by omega))
  simp only [push_cast,seval,↓reduceIte,Za,c14,c22,c26,hN0,hN]
 refine Z4 ?_
 try simp only [Zk,Ze]
 have h:=Option.some.inj h;subst h
 refine Zs (.inr rfl) hU [.val (.bool z5)] (by omega) ?_
 simp only [push_cast,seval,↓reduceIte,Za,Try.results131,hN0,hN]
theorem Znj:∀ k,(∀ {a0:S_api_Edit} {r:Bool} {O:Objs} {n:Nat},(Zp k).1 a0=some r→GTo Try.prog 24 [.agg (Zh a0)] O n (.val (.bool r)) O n)∧(∀ {a0:S_api_Edit} {a1:Int} {r:Bool} {O:Objs} {n:Nat},(Zp k).2.1 a0 a1=some r→GTo Try.prog 59 [.agg (Zh a0),.val (.int .i64 a1)] O n (.val (.bool r)) O n)∧(∀ {a0:(List S_api_KidEdit)} {a1:Int} {r:Bool} {O:Objs} {n:Nat},(Zp k).2.2.1 a0 a1=some r→GTo Try.prog 100 [.sl a0.length (fl Zn a0),.val (.int .i64 a1)] O n (.val (.bool r)) O n)∧(∀ {a0:S_api_Edit} {a1:Int} {r:Bool} {O:Objs} {n:Nat},(Zp k).2.2.2.1 a0 a1=some r→GTo Try.prog 101 [.agg (Zh a0),.val (.int .i64 a1)] O n (.val (.bool r)) O n)∧(∀ {a0:Int} {a1:S_api_Op} {a2:Int} {r:Bool} {O:Objs} {n:Nat},(Zp k).2.2.2.2.1 a0 a1 a2=some r→GTo Try.prog 124 [.val (.int .i64 a0),.agg (Z7 a1),.val (.int .i64 a2)] O n (.val (.bool r)) O n)∧(∀ {a0:Bool} {a1:Bool} {a2:Bool} {a3:S_api_Op} {r:Bool} {O:Objs} {n:Nat},(Zp k).2.2.2.2.2 a0 a1 a2 a3=some r→GTo Try.prog 131 [.val (.bool a0),.val (.bool a1),.val (.bool a2),.ip (Z7 a3) 0] O n (.val (.bool r)) O n):=fun k=>by
 induction k with
 | zero=>exact ⟨@fun a0 r O n h=>(nomatch (show (none:Option _)=some _ from h)),@fun a0 a1 r O n h=>(nomatch (show (none:Option _)=some _ from h)),@fun a0 a1 r O n h=>(nomatch (show (none:Option _)=some _ from h)),@fun a0 a1 r O n h=>(nomatch (show (none:Option _)=some _ from h)),@fun a0 a1 a2 r O n h=>(nomatch (show (none:Option _)=some _ from h)),@fun a0 a1 a2 a3 r O n h=>(nomatch (show (none:Option _)=some _ from h))⟩
 | succ k ih=>exact ⟨@fun a0 r O n h=>Zqo (ih.1) (ih.2.1) (ih.2.2.1) (ih.2.2.2.1) (ih.2.2.2.2.1) (ih.2.2.2.2.2)  h,@fun a0 a1 r O n h=>Zqp (ih.1) (ih.2.1) (ih.2.2.1) (ih.2.2.2.1) (ih.2.2.2.2.1) (ih.2.2.2.2.2)  h,@fun a0 a1 r O n h=>Zk9 (ih.1) (ih.2.1) (ih.2.2.1) (ih.2.2.2.1) (ih.2.2.2.2.1) (ih.2.2.2.2.2)  h,@fun a0 a1 r O n h=>Zmh (ih.1) (ih.2.1) (ih.2.2.1) (ih.2.2.2.1) (ih.2.2.2.2.1) (ih.2.2.2.2.2)  h,@fun a0 a1 a2 r O n h=>Znq (ih.1) (ih.2.1) (ih.2.2.1) (ih.2.2.2.1) (ih.2.2.2.2.1) (ih.2.2.2.2.2)  h,@fun a0 a1 a2 a3 r O n h=>Zla (ih.1) (ih.2.1) (ih.2.2.1) (ih.2.2.2.1) (ih.2.2.2.2.1) (ih.2.2.2.2.2)  h⟩
theorem Zeq {a0:S_api_Edit} {r:Bool} {O:Objs} {n:Nat} (h:Zh9 a0=some r):GTo Try.prog 24 [.agg (Zh a0)] O n (.val (.bool r)) O n:=by
 obtain ⟨k,hk⟩:=Uh h
 exact (Znj k).1  hk
theorem Zk7 {a0:(List Int)} {a1:(List Int)} {r:Bool} {O:Objs} {n:Nat} (h:Uj a0 a1=some r):GTo Try.prog 60 [.sl a0.length (fl (eI .u64) a0),.sl a1.length (fl (eI .u64) a1)] O n (.val (.bool r)) O n:=by
 unfold Uj at h
 refine Y8 Zd Try.call60 Try.func60 rfl (Nat.le_of_ble_eq_true rfl) (Nat.le_refl _) fun hU => ?_
 have hN0:O n=none:=hU.fresh _ (Nat.le_refl _)
 have hN:∀ k,O (n+k)=none:=fun k=>hU.fresh _ (Nat.le_add_right _ _)
 show W _ _ _ _ ⟨26,[],[(0,.sl a0.length (fl (eI .u64) a0)),(1,.sl a1.length (fl (eI .u64) a1))]⟩ (Zx O n []) _
 refine Zr [0,1] (Zc Zd [] ?_)
 simp only [push_cast,seval,↓reduceIte,Za,hN0,hN]
 refine Zm ?_
 refine Zr [0,1,10] (Zc Zd [] ?_)
 simp only [push_cast,seval,↓reduceIte,Za,hN0,hN]
 refine Zv (t:=((a0.length:Int) != (a1.length:Int))) rfl (fun c8 => ?_) (fun c8 => ?_)
 ·replace h:=Zu c8 h
  refine Zr [4] (Zc Zd [] ?_)
  simp only [push_cast,seval,↓reduceIte,Za,hN0,hN]
  refine Z4 ?_
  try simp only [Zk,Ze]
  have h:=Option.some.inj h;subst h
  refine Zs (.inr rfl) hU [.val (.bool false)] (by omega) ?_
  simp only [push_cast,seval,↓reduceIte,Za,Try.results60,hN0,hN]
 replace h:=Zt c8 h
 refine Zy ?_
 try simp only [Zk,Ze]
 refine Zl [0,1] [] ?_
 simp only [push_cast,seval,↓reduceIte]
 refine Zm ?_
 refine Zr [0,1,5] (Zc Zd [] ?_)
 simp only [push_cast,seval,↓reduceIte,Za,hN0,hN]
 refine Zl [0,1,5] [] ?_
 simp only [push_cast,seval,↓reduceIte]
 obtain ⟨z7,hz7,h⟩:=bC h
 refine U4 (J:=(Xw (fun z7=>JR n (⟨26,[],[(4,.val (.bool false))]⟩:Env) (Zx O n []) n) (fun z7=>JX 0 n (⟨26,[],[]⟩:Env) (Zx O n []) n))) (z:=z7) ?_ fun hw => ?_
 ·refine Xg hz7 (fun s0_=>⟨26,[],[(0,.sl a0.length (fl (eI .u64) a0)),(1,.sl a1.length (fl (eI .u64) a1)),(5,.val (.int .i64 s0_))]⟩) (fun s0_=>(Zx O n [])) (Xw (fun z7=>JR n (⟨26,[],[(4,.val (.bool false))]⟩:Env) (Zx O n []) n) (fun z7=>JX 0 n (⟨26,[],[]⟩:Env) (Zx O n []) n)) ?_
  intro s0_ x0_ hs0_
  unfold Ky at hs0_
  try dsimp only
  refine Zm ?_
  refine Zr [0,1,5,14] (Zc Zd [] ?_)
  simp only [push_cast,seval,↓reduceIte,Za,hN0,hN]
  refine Zv (t:=(decide (s0_ < (a0.length:Int)))) rfl (fun c6 => ?_) (fun c6 => ?_)
  ·replace hs0_:=Zu c6 hs0_
   refine Zy ?_
   try simp only [Zk,Ze]
   refine Zl [0,1,5] [] ?_
   simp only [push_cast,seval,↓reduceIte]
   refine Zm ?_
   refine Ym ?_
   obtain ⟨x3,hx3,ax3,bx3,cx3,hs0_⟩:=bE (f:=(eI .u64)) Zg2 (fun _=>rfl) (by decide) hs0_
   obtain ⟨x4,hx4,ax4,bx4,cx4,hs0_⟩:=bE (f:=(eI .u64)) Zg2 (fun _=>rfl) (by decide) hs0_
   refine Zr [0,1,5,25] (Kq Zd (by kernel_rfl) [] (by kernel_rfl) ?_)
   simp only [push_cast,Nat.reduceAdd,Nat.reduceSub,Nat.reduceMul,Nat.reduceLeDiff,Nat.reduceLT,Nat.reduceEqDiff,↓reduceIte,reduceCtorEq,Int.reduceBEq,Int.reduceBNe,Nat.reduceBEq,Int.reduceLE,Int.reduceLT,Int.reduceEq,Int.reduceNe,Int.reduceNeg,Nat.reduceDiv,Nat.reduceMod,Nat.reducePow,Za,ax3,bx3,cx3,ax4,bx4,cx4,hN0,hN]
   refine Zv (t:=(x3 != x4)) rfl (fun c5 => ?_) (fun c5 => ?_)
   ·replace hs0_:=Zu c5 hs0_
    refine Zr [4] (Zc Zd [] ?_)
    simp only [push_cast,seval,↓reduceIte,Za,hN0,hN]
    refine Z4 ?_
    try simp only [Zk,Ze]
    have hs0_:=Option.some.inj hs0_;subst hs0_
    refine And.intro (fun h=>by cases h) (And.intro rfl (Fit2.of (Zj hU rfl rfl ?_) (by omega)))
    simp only [push_cast,seval,↓reduceIte,Za,hN0,hN]
   replace hs0_:=Zt c5 hs0_
   refine Zy ?_
   try simp only [Zk,Ze]
   refine Zl [0,1,5] [] ?_
   simp only [push_cast,seval,↓reduceIte]
   refine Zc Zd [] ?_
   simp only [push_cast,seval,↓reduceIte,Za,hN0,hN]
   have hs0_:=Option.some.inj hs0_;subst hs0_
   refine And.intro rfl (Fit2.of (Zj hU rfl rfl ?_) (by omega))
   simp only [push_cast,seval,↓reduceIte,Za,hN0,hN]
  replace hs0_:=Zt c6 hs0_
  refine Xp ?_
  try simp only [Zk,Ze,↓reduceIte,Nat.reduceEqDiff]
  have hs0_:=Option.some.inj hs0_;subst hs0_
  refine And.intro (fun h=>by cases h) (And.intro rfl (Fit2.of (Zj hU rfl rfl ?_) (by omega)))
  simp only [push_cast,seval,↓reduceIte,Za,hN0,hN]
 rcases z7 with z7 | z7
 ·dsimp only [Xw] at hw h
  refine Jc hw ?_
  try simp only [Zk,Ze,↓reduceIte,Nat.reduceEqDiff]
  have h:=Option.some.inj h;subst h
  refine Zs (.inr rfl) hU [.val (.bool false)] (by omega) ?_
  simp only [push_cast,seval,↓reduceIte,Za,Try.results60,hN0,hN]
 dsimp only [Xw] at hw h
 refine Yx hw ?_
 try simp only [Zk,Ze,↓reduceIte,Nat.reduceEqDiff]
 refine Zl [] [] ?_
 simp only [push_cast,seval,↓reduceIte]
 refine Zr [4] (Zc Zd [] ?_)
 simp only [push_cast,seval,↓reduceIte,Za,hN0,hN]
 refine Z4 ?_
 try simp only [Zk,Ze]
 have h:=Option.some.inj h;subst h
 refine Zs (.inr rfl) hU [.val (.bool true)] (by omega) ?_
 simp only [push_cast,seval,↓reduceIte,Za,Try.results60,hN0,hN]
theorem Zki {Va:(S_api_Tree→S_api_Tree→Option Bool)} (Zje:∀ {a0:S_api_Tree} {a1:S_api_Tree} {r:Bool} {O:Objs} {n:Nat},Va a0 a1=some r→GTo Try.prog 25 [.agg (Zf a0),.agg (Zf a1)] O n (.val (.bool r)) O n) {a0:S_api_Tree} {a1:S_api_Tree} {r:Bool} {O:Objs} {n:Nat} (h:Uc Va a0 a1=some r):GTo Try.prog 25 [.agg (Zf a0),.agg (Zf a1)] O n (.val (.bool r)) O n:=by
 unfold Uc at h
 refine Y8 Zd Try.call25 Try.func25 rfl (Nat.le_of_ble_eq_true rfl) (Nat.le_refl _) fun hU => ?_
 have hN0:O n=none:=hU.fresh _ (Nat.le_refl _)
 have hN:∀ k,O (n+k)=none:=fun k=>hU.fresh _ (Nat.le_add_right _ _)
 show W _ _ _ _ ⟨47,[],[(0,.agg (Zf a0)),(1,.agg (Zf a1))]⟩ (Zx O n []) _
 refine Zr [2,3] (Zc Zd [] ?_)
 simp only [push_cast,seval,↓reduceIte,Za,hN0,hN]
 refine Zm ?_
 obtain ⟨z2,hz2,h⟩:=bC h
 refine Y6 (E':=⟨47,[],[(2,.ref n 0),(3,.ref (n+1) 0),(27,.val (.bool z2))]⟩) (O':=(Zx O n [some ⟨false,25,3,1,(Zf a0)⟩,some ⟨false,25,3,1,(Zf a1)⟩])) (n0:=(n+2)) ?_ ?_
 ·rcases Bool.eq_false_or_eq_true (a0.Kind != a1.Kind) with c5 | c5
  ·replace hz2:=Zu c5 hz2
   refine Zc Zd [some false,some false,some false,some false,some false,some false,some false,some false,some false,some false,some false,some false,some false] ?_
   simp only [push_cast,seval,↓reduceIte,Za,c5,hN0,hN]
   have hz2:=Option.some.inj hz2;subst hz2
   refine And.intro rfl (Fit2.of (Zj hU rfl rfl ?_) (by omega))
   simp only [push_cast,seval,↓reduceIte,Za,c5,hN0,hN]
  replace hz2:=Zt c5 hz2
  obtain ⟨y4,hy4,hz2⟩:=bC hz2
  refine Zc Zd [some true,some true,some true,some true,some true,some true,none,none,none,none,none,none,none] ?_
  simp only [push_cast,seval,↓reduceIte,Za,c5,hN0,hN]
  repeat (with_reducible refine And.intro (by first | (intro h0;simp only [h0,and_self];done) | (intro h0;simp only [h0,Bool.not_false,Bool.not_true,Bool.true_and,Bool.and_true,true_and,and_true,and_self,imp_self,implies_true,bne_iff_ne,ne_eq,beq_iff_eq];done) | (intros;simp_all;done) | exact True.intro) ?_)
  refine (Zk7 hy4).then ?_
  simp only [push_cast,seval,↓reduceIte,Za,c5,hN0,hN]
  repeat (with_reducible refine And.intro (by first | (intro h0;simp only [h0,and_self];done) | (intro h0;simp only [h0,Bool.not_false,Bool.not_true,Bool.true_and,Bool.and_true,true_and,and_true,and_self,imp_self,implies_true,bne_iff_ne,ne_eq,beq_iff_eq];done) | (intros;simp_all;done) | exact True.intro) ?_)
  have hz2:=Option.some.inj hz2;subst hz2
  refine And.intro rfl (Fit2.of (Zj hU rfl rfl ?_) (by omega))
  simp only [push_cast,seval,↓reduceIte,Za,c5,hN0,hN]
 refine Zv (t:=z2) rfl (fun c15 => ?_) (fun c15 => ?_)
 ·replace h:=Zu c15 h
  refine Zr [4] (Zc Zd [] ?_)
  simp only [push_cast,seval,↓reduceIte,Za,hN0,hN]
  refine Z4 ?_
  try simp only [Zk,Ze]
  have h:=Option.some.inj h;subst h
  refine Zs (.inr rfl) hU [.val (.bool false)] (by omega) ?_
  simp only [push_cast,seval,↓reduceIte,Za,Try.results25,hN0,hN]
 replace h:=Zt c15 h
 refine Zy ?_
 try simp only [Zk,Ze]
 refine Zl [2,3] [true,true] ?_
 simp only [push_cast,seval,↓reduceIte]
 refine Zm ?_
 refine Zr [2,3,5] (Zc Zd [] ?_)
 simp only [push_cast,seval,↓reduceIte,Za,hN0,hN]
 refine Zl [2,3,5] [true,true] ?_
 simp only [push_cast,seval,↓reduceIte]
 obtain ⟨z14,hz14,h⟩:=bC h
 refine U4 (J:=(Xw (fun z14=>JR n (⟨47,[],[(4,.val (.bool false))]⟩:Env) (Zx O n [none,none]) (n+2)) (fun z14=>JX 0 n (⟨47,[],[]⟩:Env) (Zx O n [none,none]) (n+2)))) (z:=z14) ?_ fun hw => ?_
 ·refine Xg hz14 (fun s0_=>⟨47,[],[(2,.ref n 0),(3,.ref (n+1) 0),(5,.val (.int .i64 s0_))]⟩) (fun s0_=>(Zx O n [some ⟨false,25,3,1,(Zf a0)⟩,some ⟨false,25,3,1,(Zf a1)⟩])) (Xw (fun z14=>JR n (⟨47,[],[(4,.val (.bool false))]⟩:Env) (Zx O n [none,none]) (n+2)) (fun z14=>JX 0 n (⟨47,[],[]⟩:Env) (Zx O n [none,none]) (n+2))) ?_
  intro s0_ x0_ hs0_
  unfold Kv at hs0_
  try dsimp only
  refine Zm ?_
  refine Zr [2,3,5,32] (Zc Zd [] ?_)
  simp only [push_cast,seval,↓reduceIte,Za,hN0,hN]
  refine Zv (t:=(decide (s0_ < (a0.Kids.length:Int)))) rfl (fun c13 => ?_) (fun c13 => ?_)
  ·replace hs0_:=Zu c13 hs0_
   refine Zy ?_
   try simp only [Zk,Ze]
   refine Zl [2,3,5] [true,true] ?_
   simp only [push_cast,seval,↓reduceIte]
   refine Zm ?_
   refine Ym ?_
   refine Zm ?_
   obtain ⟨x9,hx9,ax9,bx9,cx9,hs0_⟩:=bE (f:=Zb) Vm (fun _=>rfl) (by decide) hs0_
   obtain ⟨x10,hx10,ax10,bx10,cx10,hs0_⟩:=bE (f:=Zb) Vm (fun _=>rfl) (by decide) hs0_
   obtain ⟨y11,hy11,hs0_⟩:=bC hs0_
   refine Kq Zd (by kernel_rfl) [] (by kernel_rfl) ?_
   simp only [push_cast,Nat.reduceAdd,Nat.reduceSub,Nat.reduceMul,Nat.reduceLeDiff,Nat.reduceLT,Nat.reduceEqDiff,↓reduceIte,reduceCtorEq,Int.reduceBEq,Int.reduceBNe,Nat.reduceBEq,Int.reduceLE,Int.reduceLT,Int.reduceEq,Int.reduceNe,Int.reduceNeg,Nat.reduceDiv,Nat.reduceMod,Nat.reducePow,Za,ax9,bx9,cx9,ax10,bx10,cx10,hN0,hN]
   refine PCall.of (Zje hy11) ?_
   simp only [push_cast,Nat.reduceAdd,Nat.reduceSub,Nat.reduceMul,Nat.reduceLeDiff,Nat.reduceLT,Nat.reduceEqDiff,↓reduceIte,reduceCtorEq,Int.reduceBEq,Int.reduceBNe,Nat.reduceBEq,Int.reduceLE,Int.reduceLT,Int.reduceEq,Int.reduceNe,Int.reduceNeg,Nat.reduceDiv,Nat.reduceMod,Nat.reducePow,Za,ax9,bx9,cx9,ax10,bx10,cx10,hN0,hN]
   refine Zl [2,3,5,46] [true,true] ?_
   simp only [push_cast,seval,↓reduceIte]
   refine Zv (t:=(!y11)) rfl (fun c12 => ?_) (fun c12 => ?_)
   ·replace hs0_:=Zu c12 hs0_
    refine Zr [4] (Zc Zd [] ?_)
    simp only [push_cast,seval,↓reduceIte,Za,hN0,hN]
    refine Z4 ?_
    try simp only [Zk,Ze]
    have hs0_:=Option.some.inj hs0_;subst hs0_
    refine And.intro (fun h=>by cases h) (And.intro rfl (Fit2.of (Zj hU rfl rfl ?_) (by omega)))
    simp only [push_cast,seval,↓reduceIte,Za,hN0,hN]
   replace hs0_:=Zt c12 hs0_
   refine Zy ?_
   try simp only [Zk,Ze]
   refine Zl [2,3,5] [true,true] ?_
   simp only [push_cast,seval,↓reduceIte]
   refine Zc Zd [] ?_
   simp only [push_cast,seval,↓reduceIte,Za,hN0,hN]
   have hs0_:=Option.some.inj hs0_;subst hs0_
   refine And.intro rfl (Fit2.of (Zj hU rfl rfl ?_) (by omega))
   simp only [push_cast,seval,↓reduceIte,Za,hN0,hN]
  replace hs0_:=Zt c13 hs0_
  refine Xp ?_
  try simp only [Zk,Ze,↓reduceIte,Nat.reduceEqDiff]
  have hs0_:=Option.some.inj hs0_;subst hs0_
  refine And.intro (fun h=>by cases h) (And.intro rfl (Fit2.of (Zj hU rfl rfl ?_) (by omega)))
  simp only [push_cast,seval,↓reduceIte,Za,hN0,hN]
 rcases z14 with z14 | z14
 ·dsimp only [Xw] at hw h
  refine Jc hw ?_
  try simp only [Zk,Ze,↓reduceIte,Nat.reduceEqDiff]
  have h:=Option.some.inj h;subst h
  refine Zs (.inr rfl) hU [.val (.bool false)] (by omega) ?_
  simp only [push_cast,seval,↓reduceIte,Za,Try.results25,hN0,hN]
 dsimp only [Xw] at hw h
 refine Yx hw ?_
 try simp only [Zk,Ze,↓reduceIte,Nat.reduceEqDiff]
 refine Zl [] [false,false] ?_
 simp only [push_cast,seval,↓reduceIte]
 refine Zr [4] (Zc Zd [] ?_)
 simp only [push_cast,seval,↓reduceIte,Za,hN0,hN]
 refine Z4 ?_
 try simp only [Zk,Ze]
 have h:=Option.some.inj h;subst h
 refine Zs (.inr rfl) hU [.val (.bool true)] (by omega) ?_
 simp only [push_cast,seval,↓reduceIte,Za,Try.results25,hN0,hN]
theorem Zix:∀ k,(∀ {a0:S_api_Tree} {a1:S_api_Tree} {r:Bool} {O:Objs} {n:Nat},(Jb k) a0 a1=some r→GTo Try.prog 25 [.agg (Zf a0),.agg (Zf a1)] O n (.val (.bool r)) O n):=fun k=>by
 induction k with
 | zero=>exact @fun a0 a1 r O n h=>(nomatch (show (none:Option _)=some _ from h))
 | succ k ih=>exact @fun a0 a1 r O n h=>Zki (ih)  h
theorem Zf3 {a0:S_api_Tree} {a1:S_api_Tree} {r:Bool} {O:Objs} {n:Nat} (h:Zds a0 a1=some r):GTo Try.prog 25 [.agg (Zf a0),.agg (Zf a1)] O n (.val (.bool r)) O n:=by
 obtain ⟨k,hk⟩:=Uh h
 exact (Zix k)  hk
theorem Zg8 {a0:S_api_Edit} {a1:S_api_Tree} {r:Bool} {O:Objs} {n:Nat} (h:K5 a0 a1=some r):GTo Try.prog 4 [.agg (Zh a0),.agg (Zf a1)] O n (.val (.bool r)) O n:=by
 unfold K5 at h
 refine Y8 Zd Try.call4 Try.func4 rfl (Nat.le_of_ble_eq_true rfl) (Nat.le_refl _) fun hU => ?_
 have hN0:O n=none:=hU.fresh _ (Nat.le_refl _)
 have hN:∀ k,O (n+k)=none:=fun k=>hU.fresh _ (Nat.le_add_right _ _)
 show W _ _ _ _ ⟨58,[],[(0,.agg (Zh a0)),(1,.agg (Zf a1))]⟩ (Zx O n []) _
 refine Zr [2,3] (Zc Zd [] ?_)
 simp only [push_cast,seval,↓reduceIte,Za,hN0,hN]
 refine Zm ?_
 obtain ⟨z4,hz4,h⟩:=bC h
 refine Y6 (E':=⟨58,[],[(2,.ref n 0),(3,.ref (n+1) 0),(27,.val (.bool z4))]⟩) (O':=(Zx O n [some ⟨false,30,11,1,(Zh a0)⟩,some ⟨false,25,3,1,(Zf a1)⟩])) (n0:=(n+2)) ?_ ?_
 ·obtain ⟨y8,hy8,hz4⟩:=bC hz4
  rcases Bool.eq_false_or_eq_true y8 with c11 | c11
  ·replace hz4:=Zu c11 hz4
   obtain ⟨y9,hy9,hz4⟩:=bC hz4
   rcases Bool.eq_false_or_eq_true y9 with c12 | c12
   ·replace hz4:=Zu c12 hz4
    try rw [c12] at c11
    obtain ⟨y10,hy10,hz4⟩:=bC hz4
    refine Zc Zd [some true,some true,some true,some true,some true,some true,none,none,none] ?_
    simp only [push_cast,seval,↓reduceIte,Za,c11,c12,hN0,hN]
    repeat (with_reducible refine And.intro (by first | (intro h0;simp only [h0,and_self];done) | (intro h0;simp only [h0,Bool.not_false,Bool.not_true,Bool.true_and,Bool.and_true,true_and,and_true,and_self,imp_self,implies_true,bne_iff_ne,ne_eq,beq_iff_eq];done) | (intros;simp_all;done) | exact True.intro) ?_)
    refine (Zc2 hy8).then ?_
    simp only [push_cast,seval,↓reduceIte,Za,c11,c12,hN0,hN]
    repeat (with_reducible refine And.intro (by first | (intro h0;simp only [h0,and_self];done) | (intro h0;simp only [h0,Bool.not_false,Bool.not_true,Bool.true_and,Bool.and_true,true_and,and_true,and_self,imp_self,implies_true,bne_iff_ne,ne_eq,beq_iff_eq];done) | (intros;simp_all;done) | exact True.intro) ?_)
    refine (Zgz hy9).then ?_
    simp only [push_cast,seval,↓reduceIte,Za,c11,c12,hN0,hN]
    repeat (with_reducible refine And.intro (by first | (intro h0;simp only [h0,and_self];done) | (intro h0;simp only [h0,Bool.not_false,Bool.not_true,Bool.true_and,Bool.and_true,true_and,and_true,and_self,imp_self,implies_true,bne_iff_ne,ne_eq,beq_iff_eq];done) | (intros;simp_all;done) | exact True.intro) ?_)
    refine (Vj hy10).then ?_
    simp only [push_cast,seval,↓reduceIte,Za,c11,c12,hN0,hN]
    repeat (with_reducible refine And.intro (by first | (intro h0;simp only [h0,and_self];done) | (intro h0;simp only [h0,Bool.not_false,Bool.not_true,Bool.true_and,Bool.and_true,true_and,and_true,and_self,imp_self,implies_true,bne_iff_ne,ne_eq,beq_iff_eq];done) | (intros;simp_all;done) | exact True.intro) ?_)
    have hz4:=Option.some.inj hz4;subst hz4
    refine And.intro rfl (Fit2.of (Zj hU rfl rfl ?_) (by omega))
    simp only [push_cast,seval,↓reduceIte,Za,c11,c12,hN0,hN]
   replace hz4:=Zt c12 hz4
   try rw [c12] at c11
   refine Zc Zd [some true,some true,some true,some false,some false,some false,some false,some false,some false] ?_
   simp only [push_cast,seval,↓reduceIte,Za,c11,c12,hN0,hN]
   refine (Zc2 hy8).then ?_
   simp only [push_cast,seval,↓reduceIte,Za,c11,c12,hN0,hN]
   refine (Zgz hy9).then ?_
   simp only [push_cast,seval,↓reduceIte,Za,c11,c12,hN0,hN]
   have hz4:=Option.some.inj hz4;subst hz4
   refine And.intro rfl (Fit2.of (Zj hU rfl rfl ?_) (by omega))
   simp only [push_cast,seval,↓reduceIte,Za,c11,c12,hN0,hN]
  replace hz4:=Zt c11 hz4
  refine Zc Zd [some false,some false,some false,some false,some false,some false,some false,some false,some false] ?_
  simp only [push_cast,seval,↓reduceIte,Za,c11,hN0,hN]
  refine (Zc2 hy8).then ?_
  simp only [push_cast,seval,↓reduceIte,Za,c11,hN0,hN]
  have hz4:=Option.some.inj hz4;subst hz4
  refine And.intro rfl (Fit2.of (Zj hU rfl rfl ?_) (by omega))
  simp only [push_cast,seval,↓reduceIte,Za,c11,hN0,hN]
 refine Zv (t:=z4) rfl (fun c34 => ?_) (fun c34 => ?_)
 ·replace h:=Zu c34 h
  refine Zm ?_
  obtain ⟨y14,hy14,h⟩:=bC h
  refine Zc Zd [] ?_
  simp only [push_cast,seval,↓reduceIte,Za,hN0,hN]
  refine (Zfi hy14).then ?_
  simp only [push_cast,seval,↓reduceIte,Za,hN0,hN]
  refine Zl [4] [false,false] ?_
  simp only [push_cast,seval,↓reduceIte]
  refine Z4 ?_
  try simp only [Zk,Ze]
  have h:=Option.some.inj h;subst h
  refine Zs (.inr rfl) hU [.val (.bool y14)] (by omega) ?_
  simp only [push_cast,seval,↓reduceIte,Za,Try.results4,hN0,hN]
 replace h:=Zt c34 h
 refine Zy ?_
 try simp only [Zk,Ze]
 refine Zl [2,3] [true,true] ?_
 simp only [push_cast,seval,↓reduceIte]
 refine Zm ?_
 obtain ⟨y16,hy16,h⟩:=bC h
 refine Zc Zd [] ?_
 simp only [push_cast,seval,↓reduceIte,Za,hN0,hN]
 refine (Zqj hy16).then ?_
 simp only [push_cast,seval,↓reduceIte,Za,hN0,hN]
 refine Zl [2,3,5] [true,true,true] ?_
 simp only [push_cast,seval,↓reduceIte]
 refine Zm ?_
 obtain ⟨y18,hy18,h⟩:=bC h
 refine Zc Zd [] ?_
 simp only [push_cast,seval,↓reduceIte,Za,hN0,hN]
 refine (Zkp hy18).then ?_
 simp only [push_cast,seval,↓reduceIte,Za,hN0,hN]
 refine Zl [3,5,6,7] [false,true,true,true] ?_
 simp only [push_cast,seval,↓reduceIte]
 refine Zm ?_
 obtain ⟨y20,hy20,h⟩:=bC h
 refine Zc Zd [] ?_
 simp only [push_cast,seval,↓reduceIte,Za,hN0,hN]
 refine (Zkp hy20).then ?_
 simp only [push_cast,seval,↓reduceIte,Za,hN0,hN]
 refine Zl [5,6,7,8,9] [false,false,true,true,true] ?_
 simp only [push_cast,seval,↓reduceIte]
 obtain ⟨z24,hz24,h⟩:=bC h
 refine Y6 (E':=⟨58,[],[(4,.val (.bool z24))]⟩) (O':=(Zx O n [none,none,none,none,none])) (n0:=(n+5)) ?_ ?_
 ·obtain ⟨y28,hy28,hz24⟩:=bC hz24
  rcases Bool.eq_false_or_eq_true y28 with c31 | c31
  ·replace hz24:=Zu c31 hz24
   rcases Bool.eq_false_or_eq_true (y18.2 == y20.2) with c32 | c32
   ·replace hz24:=Zu c32 hz24
    try rw [c32] at c31
    obtain ⟨y29,hy29,hz24⟩:=bC hz24
    rcases Bool.eq_false_or_eq_true y29 with c33 | c33
    ·replace hz24:=Zu c33 hz24
     try rw [c33] at c31
     try rw [c33] at c32
     obtain ⟨y30,hy30,hz24⟩:=bC hz24
     refine Zc Zd [none,none,none,some true,some true,some true,some true] ?_
     simp only [push_cast,seval,↓reduceIte,Za,c31,c32,c33,hN0,hN]
     repeat (with_reducible refine And.intro (by first | (intro h0;simp only [h0,and_self];done) | (intro h0;simp only [h0,Bool.not_false,Bool.not_true,Bool.true_and,Bool.and_true,true_and,and_true,and_self,imp_self,implies_true,bne_iff_ne,ne_eq,beq_iff_eq];done) | (intros;simp_all;done) | exact True.intro) ?_)
     refine (Zeq hy28).then ?_
     simp only [push_cast,seval,↓reduceIte,Za,c31,c32,c33,hN0,hN]
     repeat (with_reducible refine And.intro (by first | (intro h0;simp only [h0,and_self];done) | (intro h0;simp only [h0,Bool.not_false,Bool.not_true,Bool.true_and,Bool.and_true,true_and,and_true,and_self,imp_self,implies_true,bne_iff_ne,ne_eq,beq_iff_eq];done) | (intros;simp_all;done) | exact True.intro) ?_)
     refine (Zf3 hy29).then ?_
     simp only [push_cast,seval,↓reduceIte,Za,c31,c32,c33,hN0,hN]
     repeat (with_reducible refine And.intro (by first | (intro h0;simp only [h0,and_self];done) | (intro h0;simp only [h0,Bool.not_false,Bool.not_true,Bool.true_and,Bool.and_true,true_and,and_true,and_self,imp_self,implies_true,bne_iff_ne,ne_eq,beq_iff_eq];done) | (intros;simp_all;done) | exact True.intro) ?_)
     refine (Zfi hy30).then ?_
     simp only [push_cast,seval,↓reduceIte,Za,c31,c32,c33,hN0,hN]
     repeat (with_reducible refine And.intro (by first | (intro h0;simp only [h0,and_self];done) | (intro h0;simp only [h0,Bool.not_false,Bool.not_true,Bool.true_and,Bool.and_true,true_and,and_true,and_self,imp_self,implies_true,bne_iff_ne,ne_eq,beq_iff_eq];done) | (intros;simp_all;done) | exact True.intro) ?_)
     have hz24:=Option.some.inj hz24;subst hz24
     refine And.intro rfl (Fit2.of (Zj hU rfl rfl ?_) (by omega))
     simp only [push_cast,seval,↓reduceIte,Za,c31,c32,c33,hN0,hN]
    replace hz24:=Zt c33 hz24
    try rw [c33] at c31
    try rw [c33] at c32
    refine Zc Zd [none,none,none,some true,some true,some true,some false] ?_
    simp only [push_cast,seval,↓reduceIte,Za,c31,c32,c33,hN0,hN]
    repeat (with_reducible refine And.intro (by first | (intro h0;simp only [h0,and_self];done) | (intro h0;simp only [h0,Bool.not_false,Bool.not_true,Bool.true_and,Bool.and_true,true_and,and_true,and_self,imp_self,implies_true,bne_iff_ne,ne_eq,beq_iff_eq];done) | (intros;simp_all;done) | exact True.intro) ?_)
    refine (Zeq hy28).then ?_
    simp only [push_cast,seval,↓reduceIte,Za,c31,c32,c33,hN0,hN]
    repeat (with_reducible refine And.intro (by first | (intro h0;simp only [h0,and_self];done) | (intro h0;simp only [h0,Bool.not_false,Bool.not_true,Bool.true_and,Bool.and_true,true_and,and_true,and_self,imp_self,implies_true,bne_iff_ne,ne_eq,beq_iff_eq];done) | (intros;simp_all;done) | exact True.intro) ?_)
    refine (Zf3 hy29).then ?_
    simp only [push_cast,seval,↓reduceIte,Za,c31,c32,c33,hN0,hN]
    repeat (with_reducible refine And.intro (by first | (intro h0;simp only [h0,and_self];done) | (intro h0;simp only [h0,Bool.not_false,Bool.not_true,Bool.true_and,Bool.and_true,true_and,and_true,and_self,imp_self,implies_true,bne_iff_ne,ne_eq,beq_iff_eq];done) | (intros;simp_all;done) | exact True.intro) ?_)
    have hz24:=Option.some.inj hz24;subst hz24
    refine And.intro rfl (Fit2.of (Zj hU rfl rfl ?_) (by omega))
    simp only [push_cast,seval,↓reduceIte,Za,c31,c32,c33,hN0,hN]
   replace hz24:=Zt c32 hz24
   try rw [c32] at c31
   refine Zc Zd [none,none,none,some false,some false,some false,some false] ?_
   simp only [push_cast,seval,↓reduceIte,Za,c31,c32,hN0,hN]
   repeat (with_reducible refine And.intro (by first | (intro h0;simp only [h0,and_self];done) | (intro h0;simp only [h0,Bool.not_false,Bool.not_true,Bool.true_and,Bool.and_true,true_and,and_true,and_self,imp_self,implies_true,bne_iff_ne,ne_eq,beq_iff_eq];done) | (intros;simp_all;done) | exact True.intro) ?_)
   refine (Zeq hy28).then ?_
   simp only [push_cast,seval,↓reduceIte,Za,c31,c32,hN0,hN]
   repeat (with_reducible refine And.intro (by first | (intro h0;simp only [h0,and_self];done) | (intro h0;simp only [h0,Bool.not_false,Bool.not_true,Bool.true_and,Bool.and_true,true_and,and_true,and_self,imp_self,implies_true,bne_iff_ne,ne_eq,beq_iff_eq];done) | (intros;simp_all;done) | exact True.intro) ?_)
   have hz24:=Option.some.inj hz24;subst hz24
   refine And.intro rfl (Fit2.of (Zj hU rfl rfl ?_) (by omega))
   simp only [push_cast,seval,↓reduceIte,Za,c31,c32,hN0,hN]
  replace hz24:=Zt c31 hz24
  refine Zc Zd [none,none,none,some false,some false,some false,some false] ?_
  simp only [push_cast,seval,↓reduceIte,Za,c31,hN0,hN]
  repeat (with_reducible refine And.intro (by first | (intro h0;simp only [h0,and_self];done) | (intro h0;simp only [h0,Bool.not_false,Bool.not_true,Bool.true_and,Bool.and_true,true_and,and_true,and_self,imp_self,implies_true,bne_iff_ne,ne_eq,beq_iff_eq];done) | (intros;simp_all;done) | exact True.intro) ?_)
  refine (Zeq hy28).then ?_
  simp only [push_cast,seval,↓reduceIte,Za,c31,hN0,hN]
  repeat (with_reducible refine And.intro (by first | (intro h0;simp only [h0,and_self];done) | (intro h0;simp only [h0,Bool.not_false,Bool.not_true,Bool.true_and,Bool.and_true,true_and,and_true,and_self,imp_self,implies_true,bne_iff_ne,ne_eq,beq_iff_eq];done) | (intros;simp_all;done) | exact True.intro) ?_)
  have hz24:=Option.some.inj hz24;subst hz24
  refine And.intro rfl (Fit2.of (Zj hU rfl rfl ?_) (by omega))
  simp only [push_cast,seval,↓reduceIte,Za,c31,hN0,hN]
 refine Z4 ?_
 try simp only [Zk,Ze]
 have h:=Option.some.inj h;subst h
 refine Zs (.inr rfl) hU [.val (.bool z24)] (by omega) ?_
 simp only [push_cast,seval,↓reduceIte,Za,Try.results4,hN0,hN]
end Go.Proofs.Ytbcgiaijjaocdaa
