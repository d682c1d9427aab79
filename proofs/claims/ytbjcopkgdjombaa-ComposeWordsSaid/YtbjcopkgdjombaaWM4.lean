/- Part WM4 of this seat's mirrors: functions of the seat's program, and the plain functions that they are; each theorem bears its own conditions. -/
import Derived.Test.YtbjcopkgdjombaaWD
import Derived.Test.YtbjcopkgdjombaaWM1
namespace Go.Proofs.Ytbjcopkgdjombaa
open Go.RowKit
set_option linter.unusedVariables false
set_option linter.unusedSimpArgs false
set_option maxRecDepth 100000
set_option maxHeartbeats 4000000
attribute [local push_cast] Try.results119 Try.results49 Try.results53 Try.results77 Try.results85 Try.results86 Try.results87 Try.results88 vI vB nV sL oR J8 Zk Xk Y1 Zp Zl Ztx Ztw Zuu Zut Xh Yw Zpw Zkr Zkq onW Qf Zds Zco Zpx Zpy Znw Zn0 Znv Znz Zrc Zq9 Zny Zrb Zra Znx Zq7 Zlk evS wok Jh Op.operands Call.operands gop onK onP atK List.all_cons List.all_nil Bool.and_true Bool.true_and Bool.and_self Value.oneCell' List.take_zero List.take_succ_cons List.take_nil List.drop_zero List.drop_succ_cons List.drop_nil List.append_nil Nat.add_zero Nat.zero_add Uj Yt ev Jv Zda Zto Ztn Ztt Ztr Zts Ztp Ztq Ztm Zpt Zr9 Zwn Zi6 Zep Zij Zdy Zm8 Zg3 Ziu Ziz Zkl Zki Zix Zkk Zkj Ziw Zkg Ziv Ziy Zh0 Zkh Zku Zkt Zcp Zjx Zcq Zkp Zi2 Zt2 bLo bHi bMx Zeq Zko Zx5 Zi1 Zka Zgu Zam Zst Zx8 Zjv Zyc Zeo Z1i Zp5 Zp9 Zp4 Zp8 Zue Zub Zt9 Znb Zp6 Zud Zuc Zp7 Zua Zi4 gone Zqt Zle Zld pop TK.isAgg Zuo Zus Zun Zur Zqn Zyl Zyi Zuq Zyk Zyj Zup Zyh G.under G.unders List.getD_cons_zero List.getD_cons_succ List.set_cons_zero List.set_cons_succ List.map_cons List.map_nil List.toList_toArray Array.toList_append Option.toArray_none Option.toArray_some Array.toList_map Option.map_some Option.map_none Option.bind_some Option.bind_none List.getElem?_cons_zero List.getElem?_cons_succ List.getElem?_nil List.nil_append List.cons_append List.replicate_succ List.replicate_zero List.length_cons List.length_nil and_true true_and and_false false_and Bool.true_eq_false Bool.false_eq_true forall_const false_implies implies_true IntKind.bits if_true if_false ite_true ite_false eq_self true_implies false_or or_false or_true true_or not_true_eq_false not_false_eq_true decide_true decide_false decide_eq_true_eq decide_eq_false_iff_not beq_iff_eq bne_iff_ne ne_eq Bool.not_eq_true Bool.not_eq_false beq_eq_false_iff_ne bne_eq_false_iff_eq beq_self_eq_true bne_self_eq_false Option.some.injEq exists_eq_left' exists_eq_left ge_iff_le gt_iff_lt decide_not Bool.not_true Bool.not_false imp_self Zya cond_true cond_false Z6b Z6a Bool.not_not Bool.and_false Bool.false_and Bool.or_true Bool.true_or Bool.or_false Bool.false_or Vi U6 Vj Kg Y5 Yr Option.join_some Nat.add_assoc Int.toNat_natCast eI eB eS eL Y6 Zjw Zi3 Zt1 Ztz Zt0 Z1r Z26 Zj0 Zjj Zu3 Zu1 Zu2 Zw4 Zlv Zwj Zmm Ztg Zjt Zx3 List.length_append G.agg.injEq G.row.injEq G.ref.injEq G.val.injEq G.sl.injEq G.tup.injEq Value.int.injEq Value.bool.injEq Value.string.injEq List.cons.injEq exists_and_left exists_const List.flatten_cons List.flatten_nil Int.le_refl Nat.le_refl Qg Yo Yv Bool.not_eq_true' Bool.not_eq_false' Zv5 Zmp Zzu Zzy Zzt Zzx Z4o Z4k List.size_toArray Zot Zqv G.ren G.rens Zsh Zg8 Zu5 Ztj Ztk Zq8 Zzz Zd8 G.fn.injEq Zr5 Zr6 Zv4 Z4l Zr4 Zzw Z4n Z4m Zzv Zye Z2s Option.join_none Yg V6 undef Zkc Arr.len Arr.put_eq Zjz Znk Zla Zji Zu0 Zuy Zuz onB Z1q Zss Zq3 Zo4 Zo5 Zo6 Zo7 Zo8 Zo9 Znd Znn Znl Zlc Zjk Znm Zqs Zqr Zqq Zqp Z25 Z5i Zw3 Zuv K7 Zwz Zok Zno Zlb Zym Zq5 Zi0 Zj9 Zfl Zmk Zpa Zpb Zpc Zpd Zmq Zmr Zms Zmt Zmu Zmv Zmw Zfw prT Zdd Z6q Zzk Zzi Zzl Z6r Zzm Zht Zzn Z6s Zzo Z6t Zzp Z6u Zzq Z6v Zzr Z3o Zva Z3p Zvb Z3q Zvc Z3r Zvd Z3s Zve Z3t Zvf Z3u Zvg Z3v Zvh Z3w Zvi Z3x Zvj Z3y Zvk Z3z Zo2 Z30 Zdq Z31 Zvl Uk Zvm Z32 Zie Z33 Zif Z34 Zo3 Z35 Zvn Z36 Zvo Zjp Zvp Z37 Zvq Zdw Zvr Z38 Zvs Ze2 Zvt Z39 Zvu Zdp Zvv Zxj Zj4 Z4a Zvw Z4b Zvx Z4c Zvy Z0y Zvz Z4d Zv0 Z4e Zv1 Zyt Zrd Zyu Zre Zyv Zrf Zyw Zrg Zyx Zrh Zyy Zri Zyz Zrj Zy0 Zrk Zy1 Zrl Zy2 Zrm Zy3 Zrn Zy4 Zro Zy5 Zrp Zy6 Zrq Zy7 Zrr Zy8 Zrs Zy9 Zrt Zza Zru Zzb Zrv Zzc Zrw Zzd Zrx Zze Zry Zzf Zrz Zzg Zr0 Zzh Zr1 Za Xf Zlp Zlo Zkz Zk8 Zlq Zjs Zjm Zjl Zlm Zee Zed Zd0 Zd7 Zef Zdr Zdm Zdl Zec Zn6 Zn5 Zm9 Zni Zn7 Zln Zlh Zlg Zn1 Zf Zc7 Zg Zi Jm Jy X4 Zbk Zbh Zap Za1 Zbp Zac G7 G3 Zbb Zcb Zb9 Zb1 Zb5 Zcd Zbf Za6 Za4 Zb7 Zgo Zgn Zf1 Zga Zgp Zff Zfd Zfc Zgl Ym Zbl Zbi Zaq Za2 Zbq Zad G8 G4 Zbc Yk Zaf Zae Gv Gy Zag Gh Gg Gf Zaa Yl Zbj Zbg Zao Za0 Zbo Zab G5 G0 Zba Z4 Zca Zb8 Zb0 Zb4 Zcc Zbe Za5 Za3 Zb6
def Zcv (Xu:(Zc→Option Zc)):Prop:=∀ {a0:Zc} {r:Zc} {O:Objs} {n:Nat},Xu a0=some r→GTo Try.prog 49 [.agg (Zk a0)] O n (.agg (Zk r)) O n
def Zav (Xl:(Zh→Option Zh)):Prop:=∀ {a0:Zh} {r:Zh} {O:Objs} {n:Nat},Xl a0=some r→GTo Try.prog 77 [.agg (Y1 a0)] O n (.agg (Y1 r)) O n
theorem Zmf {Xu:(Zc→Option Zc)} {Xl:(Zh→Option Zh)} (Gd:Zcv Xu) (Zay:Zav Xl) {a0:Zc} {r:Zc} {O:Objs} {n:Nat} (h:Ze5 Xu Xl a0=some r):GTo Try.prog 49 [.agg (Zk a0)] O n (.agg (Zk r)) O n:=by
 unfold Ze5 at h
 refine zFn Try.call49 Try.func49 fun hU hN0 hN => ?_
 show W _ _ _ _ ⟨76,[],[(0,.agg (Zk a0))]⟩ (Zy O n []) _
 refine zQ [1,2] ?_
 refine Zn ?_
 refine zRd [1,2,3] [true,true,true] ?_
 refine Zn ?_
 refine zQd [1,2,3,20,21,22] [1,2,3,20,21,22] [true,true,true] ?_
 refine Q2 (E':=(⟨76,[],[(1,.ref n 0),(2,.ref (n+1) 0),(3,.ref (n+2) 0),(20,(sL Zf a0.Words)),(21,(vI (a0.Words.length:Int))),(22,(vI 0))]⟩:Env)) (O':=(Zy O n [some ⟨false,30,11,1,(Zk a0)⟩,some ⟨false,30,11,1,[(vI 0),(vI 0),nV,nV,(vI 0),nV,nV,nV,nV,(vI 0),nV]⟩,some ⟨false,30,11,1,[(vI a0.Kind),(vI a0.New.Kind),(sL (eI .u64) a0.New.Words),(sL Za a0.New.Kids),(vI a0.Old.Kind),(sL (eI .u64) a0.Old.Words),(sL Za a0.Old.Kids),.row (n+3) ([]:List Zj).length,nV,(vI a0.List_),nV]⟩,some (oR 42 4 Zf ([]:List Zj)),none])) (n':=(n+5)) ?_ ?_
 ·refine Fit2.trans (E':=(⟨76,[],[(1,.ref n 0),(2,.ref (n+1) 0),(3,.ref (n+2) 0),(20,(sL Zf a0.Words)),(21,(vI (a0.Words.length:Int))),(22,(vI 0))]⟩:Env)) (O':=(Zy O n [some ⟨false,30,11,1,(Zk a0)⟩,some ⟨false,30,11,1,[(vI 0),(vI 0),nV,nV,(vI 0),nV,nV,nV,nV,(vI 0),nV]⟩,some ⟨false,30,11,1,[(vI a0.Kind),(vI a0.New.Kind),(sL (eI .u64) a0.New.Words),(sL Za a0.New.Kids),(vI a0.Old.Kind),(sL (eI .u64) a0.Old.Words),(sL Za a0.Old.Kids),nV,nV,(vI a0.List_),nV]⟩])) (n':=(n+3)) (Fit2.of (Z6 hU rfl rfl ?_) (by omega)) ?_
  ·exact Ue
  refine Fit2.trans (Vb (p:=(n+2)) (k:=7) (q:=⟨false,30,11,1,[(vI a0.Kind),(vI a0.New.Kind),(sL (eI .u64) a0.New.Words),(sL Za a0.New.Kids),(vI a0.Old.Kind),(sL (eI .u64) a0.Old.Words),(sL Za a0.Old.Kids),nV,nV,(vI a0.List_),nV]⟩) 42 4 (by simp only [Vi,U6,List.getElem?_cons_zero,List.getElem?_cons_succ,Option.join_some,List.length_nil,Yg]) rfl (by omega)) ?_
  simp only [Y5,Yr,Vj,Kg,List.set_cons_zero,List.set_cons_succ,List.cons_append,List.nil_append,List.length_cons,List.length_nil,Nat.zero_add,Nat.reduceAdd,Nat.reduceLT,Nat.add_assoc]
  refine Y2 (k:=4) (k':=5) hU [0,1,2,3] [0,1,2,3,0] rfl rfl rfl rfl ⟨rfl,rfl⟩ ?_
  exact Ue
 obtain ⟨z5,hz5,h⟩:=bC h
 refine Xe (E':=⟨76,[],[(1,.ref n 0),(2,.ref (n+1) 0),(3,.ref (n+2) 0)]⟩) (O':=(Zy O n [some ⟨false,30,11,1,(Zk a0)⟩,some ⟨false,30,11,1,[(vI 0),(vI 0),nV,nV,(vI 0),nV,nV,nV,nV,(vI 0),nV]⟩,some ⟨false,30,11,1,[(vI a0.Kind),(vI a0.New.Kind),(sL (eI .u64) a0.New.Words),(sL Za a0.New.Kids),(vI a0.Old.Kind),(sL (eI .u64) a0.Old.Words),(sL Za a0.Old.Kids),.row (n+3) z5.length,nV,(vI a0.List_),nV]⟩,some (oR 42 4 Zf z5),none])) (n0:=(n+5)) ?_ ?_
 ·refine Xv hz5 (fun s0_=>⟨76,[],[(1,.ref n 0),(2,.ref (n+1) 0),(3,.ref (n+2) 0),(20,(sL Zf a0.Words)),(21,(vI (a0.Words.length:Int))),(22,(vI s0_.1))]⟩) (fun s0_=>(Zy O n [some ⟨false,30,11,1,(Zk a0)⟩,some ⟨false,30,11,1,[(vI 0),(vI 0),nV,nV,(vI 0),nV,nV,nV,nV,(vI 0),nV]⟩,some ⟨false,30,11,1,[(vI a0.Kind),(vI a0.New.Kind),(sL (eI .u64) a0.New.Words),(sL Za a0.New.Kids),(vI a0.Old.Kind),(sL (eI .u64) a0.Old.Words),(sL Za a0.Old.Kids),.row (n+3) s0_.2.length,nV,(vI a0.List_),nV]⟩,some (oR 42 4 Zf s0_.2),none])) (fun z5=>JX 0 n (⟨76,[],[(1,.ref n 0),(2,.ref (n+1) 0),(3,.ref (n+2) 0)]⟩:Env) (Zy O n [some ⟨false,30,11,1,(Zk a0)⟩,some ⟨false,30,11,1,[(vI 0),(vI 0),nV,nV,(vI 0),nV,nV,nV,nV,(vI 0),nV]⟩,some ⟨false,30,11,1,[(vI a0.Kind),(vI a0.New.Kind),(sL (eI .u64) a0.New.Words),(sL Za a0.New.Kids),(vI a0.Old.Kind),(sL (eI .u64) a0.Old.Words),(sL Za a0.Old.Kids),.row (n+3) z5.length,nV,(vI a0.List_),nV]⟩,some (oR 42 4 Zf z5),none]) (n+5)) ?_
  intro s0_ x0_ hs0_
  unfold Zfr at hs0_
  try dsimp only
  refine zQ [1,2,3,20,21,22,23] ?_
  refine Zn ?_
  refine Zt (t:=(decide (s0_.1 < (a0.Words.length:Int)))) rfl (fun c4 => ?_) (fun c4 => ?_)
  ·replace hs0_:=Zw c4 hs0_
   refine Ud [1,2,3,20,21,22] [true,true,true,true,false] ?_
   refine Zn ?_
   refine Yx ?_
   refine Zn ?_
   obtain ⟨x2,hx2,ax2,bx2,cx2,hs0_⟩:=bE (f:=Zf) Zdw (fun _=>rfl) (by decide) hs0_
   refine Zdx [] ax2 bx2 cx2 ?_
   refine zD [1,2,3,5,20,21,22] [true,true,true,true,false,true] ?_
   obtain ⟨l3,pl3,ql3,el3,hs0_⟩:=bA (k:=1) rfl hs0_
   refine Zg2 [] pl3 ql3 el3 ?_
   refine Zah ⟨76,[],[(1,.ref n 0),(2,.ref (n+1) 0),(3,.ref (n+2) 0),(20,(sL Zf a0.Words)),(21,(vI (a0.Words.length:Int))),(22,(vI s0_.1))]⟩ (Zy O n [some ⟨false,30,11,1,(Zk a0)⟩,some ⟨false,30,11,1,[(vI 0),(vI 0),nV,nV,(vI 0),nV,nV,nV,nV,(vI 0),nV]⟩,some ⟨false,30,11,1,[(vI a0.Kind),(vI a0.New.Kind),(sL (eI .u64) a0.New.Words),(sL Za a0.New.Kids),(vI a0.Old.Kind),(sL (eI .u64) a0.Old.Words),(sL Za a0.Old.Kids),.row (n+3) l3.length,nV,(vI a0.List_),nV]⟩,some (oR 42 4 Zf l3),none,none,none]) (Z6 hU rfl rfl ?_) ?_
   ·exact Zxu pl3 ql3 el3
   refine zR ?_
   exact zEn hs0_
  replace hs0_:=Zv c4 hs0_
  exact zEx hs0_
 try simp only [Xh,Yw,↓reduceIte,Nat.reduceEqDiff]
 refine zDs [1,2,3] [true,true,true,true,false] ?_
 refine zQd [1,2,3,42,43,44] [1,2,3,42,43,44] [true,true,true,true,false] ?_
 refine Q2 (E':=(⟨76,[],[(1,.ref n 0),(2,.ref (n+1) 0),(3,.ref (n+2) 0),(42,(sL Zi a0.Kids)),(43,(vI (a0.Kids.length:Int))),(44,(vI 0))]⟩:Env)) (O':=(Zy O n [some ⟨false,30,11,1,(Zk a0)⟩,some ⟨false,30,11,1,[(vI 0),(vI 0),nV,nV,(vI 0),nV,nV,nV,nV,(vI 0),nV]⟩,some ⟨false,30,11,1,[(vI a0.Kind),(vI a0.New.Kind),(sL (eI .u64) a0.New.Words),(sL Za a0.New.Kids),(vI a0.Old.Kind),(sL (eI .u64) a0.Old.Words),(sL Za a0.Old.Kids),.row (n+3) z5.length,.row (n+5) ([]:List Zd).length,(vI a0.List_),nV]⟩,some (oR 42 4 Zf z5),none,some (oR 55 12 Zi ([]:List Zd)),none])) (n':=(n+7)) ?_ ?_
 ·refine Fit2.trans (E':=(⟨76,[],[(1,.ref n 0),(2,.ref (n+1) 0),(3,.ref (n+2) 0),(42,(sL Zi a0.Kids)),(43,(vI (a0.Kids.length:Int))),(44,(vI 0))]⟩:Env)) (O':=(Zy O n [some ⟨false,30,11,1,(Zk a0)⟩,some ⟨false,30,11,1,[(vI 0),(vI 0),nV,nV,(vI 0),nV,nV,nV,nV,(vI 0),nV]⟩,some ⟨false,30,11,1,[(vI a0.Kind),(vI a0.New.Kind),(sL (eI .u64) a0.New.Words),(sL Za a0.New.Kids),(vI a0.Old.Kind),(sL (eI .u64) a0.Old.Words),(sL Za a0.Old.Kids),.row (n+3) z5.length,nV,(vI a0.List_),nV]⟩,some (oR 42 4 Zf z5),none])) (n':=(n+5)) (Fit2.of (Z6 hU rfl rfl ?_) (by omega)) ?_
  ·exact Ue
  refine Fit2.trans (Vb (p:=(n+2)) (k:=8) (q:=⟨false,30,11,1,[(vI a0.Kind),(vI a0.New.Kind),(sL (eI .u64) a0.New.Words),(sL Za a0.New.Kids),(vI a0.Old.Kind),(sL (eI .u64) a0.Old.Words),(sL Za a0.Old.Kids),.row (n+3) z5.length,nV,(vI a0.List_),nV]⟩) 55 12 (by simp only [Vi,U6,List.getElem?_cons_zero,List.getElem?_cons_succ,Option.join_some,List.length_nil,Yg]) rfl (by omega)) ?_
  simp only [Y5,Yr,Vj,Kg,List.set_cons_zero,List.set_cons_succ,List.cons_append,List.nil_append,List.length_cons,List.length_nil,Nat.zero_add,Nat.reduceAdd,Nat.reduceLT,Nat.add_assoc]
  refine Y2 (k:=6) (k':=7) hU [0,1,2,3,6,5] [0,1,2,3,0,5,0] rfl rfl rfl rfl ⟨rfl,rfl⟩ ?_
  exact Ue
 obtain ⟨z11,hz11,h⟩:=bC h
 refine Xe (E':=⟨76,[],[(1,.ref n 0),(2,.ref (n+1) 0),(3,.ref (n+2) 0)]⟩) (O':=(Zy O n [some ⟨false,30,11,1,(Zk a0)⟩,some ⟨false,30,11,1,[(vI 0),(vI 0),nV,nV,(vI 0),nV,nV,nV,nV,(vI 0),nV]⟩,some ⟨false,30,11,1,[(vI a0.Kind),(vI a0.New.Kind),(sL (eI .u64) a0.New.Words),(sL Za a0.New.Kids),(vI a0.Old.Kind),(sL (eI .u64) a0.Old.Words),(sL Za a0.Old.Kids),.row (n+3) z5.length,.row (n+5) z11.length,(vI a0.List_),nV]⟩,some (oR 42 4 Zf z5),none,some (oR 55 12 Zi z11),none])) (n0:=(n+7)) ?_ ?_
 ·refine Xv hz11 (fun s1_=>⟨76,[],[(1,.ref n 0),(2,.ref (n+1) 0),(3,.ref (n+2) 0),(42,(sL Zi a0.Kids)),(43,(vI (a0.Kids.length:Int))),(44,(vI s1_.1))]⟩) (fun s1_=>(Zy O n [some ⟨false,30,11,1,(Zk a0)⟩,some ⟨false,30,11,1,[(vI 0),(vI 0),nV,nV,(vI 0),nV,nV,nV,nV,(vI 0),nV]⟩,some ⟨false,30,11,1,[(vI a0.Kind),(vI a0.New.Kind),(sL (eI .u64) a0.New.Words),(sL Za a0.New.Kids),(vI a0.Old.Kind),(sL (eI .u64) a0.Old.Words),(sL Za a0.Old.Kids),.row (n+3) z5.length,.row (n+5) s1_.2.length,(vI a0.List_),nV]⟩,some (oR 42 4 Zf z5),none,some (oR 55 12 Zi s1_.2),none])) (fun z11=>JX 2 n (⟨76,[],[(1,.ref n 0),(2,.ref (n+1) 0),(3,.ref (n+2) 0)]⟩:Env) (Zy O n [some ⟨false,30,11,1,(Zk a0)⟩,some ⟨false,30,11,1,[(vI 0),(vI 0),nV,nV,(vI 0),nV,nV,nV,nV,(vI 0),nV]⟩,some ⟨false,30,11,1,[(vI a0.Kind),(vI a0.New.Kind),(sL (eI .u64) a0.New.Words),(sL Za a0.New.Kids),(vI a0.Old.Kind),(sL (eI .u64) a0.Old.Words),(sL Za a0.Old.Kids),.row (n+3) z5.length,.row (n+5) z11.length,(vI a0.List_),nV]⟩,some (oR 42 4 Zf z5),none,some (oR 55 12 Zi z11),none]) (n+7)) ?_
  intro s1_ x1_ hs1_
  unfold Zfs at hs1_
  try dsimp only
  refine zQ [1,2,3,42,43,44,45] ?_
  refine Zn ?_
  refine Zt (t:=(decide (s1_.1 < (a0.Kids.length:Int)))) rfl (fun c10 => ?_) (fun c10 => ?_)
  ·replace hs1_:=Zw c10 hs1_
   refine Ud [1,2,3,42,43,44] [true,true,true,true,false,true,false] ?_
   refine Zn ?_
   refine Yx ?_
   refine Zn ?_
   obtain ⟨x7,hx7,ax7,bx7,cx7,hs1_⟩:=bE (f:=Zi) Zdp (fun _=>rfl) (by decide) hs1_
   refine Zdx [] ax7 bx7 cx7 ?_
   refine zD [1,2,3,7,42,43,44] [true,true,true,true,false,true,false,true] ?_
   obtain ⟨y8,hy8,hs1_⟩:=bC hs1_
   obtain ⟨l9,pl9,ql9,el9,hs1_⟩:=bA (k:=1) rfl hs1_
   refine Qu Z5 (by kernel_rfl) [.low,.low,.plain,.plain,.plain,.plain,.plain,.plain,.pass,.bar,.plain,.bar] (fun i=>i < (n+8)) [0,1,2,3,4,5,6,7,8,9,10,11] [.low,.low,.plain,.plain,.plain,.plain,.plain,.plain,.pass,.bar,.plain,.bar] [] (by kernel_rfl) rfl ?_
   refine zX3 pl9 ql9 el9 ?_
   refine zO ?_
   first | refine PCallA.of (fun _ _=>Gd hy8) ?_ | refine PCall.of (Gd hy8) ?_
   refine zX3 pl9 ql9 el9 ?_
   refine zO ?_
   refine Zah ⟨76,[],[(1,.ref n 0),(2,.ref (n+1) 0),(3,.ref (n+2) 0),(42,(sL Zi a0.Kids)),(43,(vI (a0.Kids.length:Int))),(44,(vI s1_.1))]⟩ (Zy O n [some ⟨false,30,11,1,(Zk a0)⟩,some ⟨false,30,11,1,[(vI 0),(vI 0),nV,nV,(vI 0),nV,nV,nV,nV,(vI 0),nV]⟩,some ⟨false,30,11,1,[(vI a0.Kind),(vI a0.New.Kind),(sL (eI .u64) a0.New.Words),(sL Za a0.New.Kids),(vI a0.Old.Kind),(sL (eI .u64) a0.Old.Words),(sL Za a0.Old.Kids),.row (n+3) z5.length,.row (n+5) l9.length,(vI a0.List_),nV]⟩,some (oR 42 4 Zf z5),none,some (oR 55 12 Zi l9),none,none,none]) (Z6 hU rfl rfl ?_) ?_
   ·exact Zxu pl9 ql9 el9
   refine zR ?_
   exact zEn hs1_
  replace hs1_:=Zv c10 hs1_
  exact zEx hs1_
 try simp only [Xh,Yw,↓reduceIte,Nat.reduceEqDiff]
 refine zDs [1,2,3] [true,true,true,true,false,true,false] ?_
 refine zQd [2,3,61,62,63] [2,3,61,62,63] [false,true,true,true,false,true,false] ?_
 refine Q2 (E':=(⟨76,[],[(2,.ref (n+1) 0),(3,.ref (n+2) 0),(61,(sL Zg a0.Ops)),(62,(vI (a0.Ops.length:Int))),(63,(vI 0))]⟩:Env)) (O':=(Zy O n [none,some ⟨false,30,11,1,[(vI 0),(vI 0),nV,nV,(vI 0),nV,nV,nV,nV,(vI 0),nV]⟩,some ⟨false,30,11,1,[(vI a0.Kind),(vI a0.New.Kind),(sL (eI .u64) a0.New.Words),(sL Za a0.New.Kids),(vI a0.Old.Kind),(sL (eI .u64) a0.Old.Words),(sL Za a0.Old.Kids),.row (n+3) z5.length,.row (n+5) z11.length,(vI a0.List_),.row (n+7) ([]:List Zh).length]⟩,some (oR 42 4 Zf z5),none,some (oR 55 12 Zi z11),none,some (oR 53 14 Zg ([]:List Zh)),none])) (n':=(n+9)) ?_ ?_
 ·refine Fit2.trans (E':=(⟨76,[],[(2,.ref (n+1) 0),(3,.ref (n+2) 0),(61,(sL Zg a0.Ops)),(62,(vI (a0.Ops.length:Int))),(63,(vI 0))]⟩:Env)) (O':=(Zy O n [none,some ⟨false,30,11,1,[(vI 0),(vI 0),nV,nV,(vI 0),nV,nV,nV,nV,(vI 0),nV]⟩,some ⟨false,30,11,1,[(vI a0.Kind),(vI a0.New.Kind),(sL (eI .u64) a0.New.Words),(sL Za a0.New.Kids),(vI a0.Old.Kind),(sL (eI .u64) a0.Old.Words),(sL Za a0.Old.Kids),.row (n+3) z5.length,.row (n+5) z11.length,(vI a0.List_),nV]⟩,some (oR 42 4 Zf z5),none,some (oR 55 12 Zi z11),none])) (n':=(n+7)) (Fit2.of (Z6 hU rfl rfl ?_) (by omega)) ?_
  ·exact Ue
  refine Fit2.trans (Vb (p:=(n+2)) (k:=10) (q:=⟨false,30,11,1,[(vI a0.Kind),(vI a0.New.Kind),(sL (eI .u64) a0.New.Words),(sL Za a0.New.Kids),(vI a0.Old.Kind),(sL (eI .u64) a0.Old.Words),(sL Za a0.Old.Kids),.row (n+3) z5.length,.row (n+5) z11.length,(vI a0.List_),nV]⟩) 53 14 (by simp only [Vi,U6,List.getElem?_cons_zero,List.getElem?_cons_succ,Option.join_some,List.length_nil,Yg]) rfl (by omega)) ?_
  simp only [Y5,Yr,Vj,Kg,List.set_cons_zero,List.set_cons_succ,List.cons_append,List.nil_append,List.length_cons,List.length_nil,Nat.zero_add,Nat.reduceAdd,Nat.reduceLT,Nat.add_assoc]
  refine Y2 (k:=8) (k':=9) hU [8,1,2,3,8,5,8,7] [0,1,2,3,0,5,0,7,0] rfl rfl rfl rfl ⟨rfl,rfl⟩ ?_
  exact Ue
 obtain ⟨z17,hz17,h⟩:=bC h
 refine Xe (E':=⟨76,[],[(2,.ref (n+1) 0),(3,.ref (n+2) 0)]⟩) (O':=(Zy O n [none,some ⟨false,30,11,1,[(vI 0),(vI 0),nV,nV,(vI 0),nV,nV,nV,nV,(vI 0),nV]⟩,some ⟨false,30,11,1,[(vI a0.Kind),(vI a0.New.Kind),(sL (eI .u64) a0.New.Words),(sL Za a0.New.Kids),(vI a0.Old.Kind),(sL (eI .u64) a0.Old.Words),(sL Za a0.Old.Kids),.row (n+3) z5.length,.row (n+5) z11.length,(vI a0.List_),.row (n+7) z17.length]⟩,some (oR 42 4 Zf z5),none,some (oR 55 12 Zi z11),none,some (oR 53 14 Zg z17),none])) (n0:=(n+9)) ?_ ?_
 ·refine Xv hz17 (fun s2_=>⟨76,[],[(2,.ref (n+1) 0),(3,.ref (n+2) 0),(61,(sL Zg a0.Ops)),(62,(vI (a0.Ops.length:Int))),(63,(vI s2_.1))]⟩) (fun s2_=>(Zy O n [none,some ⟨false,30,11,1,[(vI 0),(vI 0),nV,nV,(vI 0),nV,nV,nV,nV,(vI 0),nV]⟩,some ⟨false,30,11,1,[(vI a0.Kind),(vI a0.New.Kind),(sL (eI .u64) a0.New.Words),(sL Za a0.New.Kids),(vI a0.Old.Kind),(sL (eI .u64) a0.Old.Words),(sL Za a0.Old.Kids),.row (n+3) z5.length,.row (n+5) z11.length,(vI a0.List_),.row (n+7) s2_.2.length]⟩,some (oR 42 4 Zf z5),none,some (oR 55 12 Zi z11),none,some (oR 53 14 Zg s2_.2),none])) (fun z17=>JX 4 n (⟨76,[],[(2,.ref (n+1) 0),(3,.ref (n+2) 0)]⟩:Env) (Zy O n [none,some ⟨false,30,11,1,[(vI 0),(vI 0),nV,nV,(vI 0),nV,nV,nV,nV,(vI 0),nV]⟩,some ⟨false,30,11,1,[(vI a0.Kind),(vI a0.New.Kind),(sL (eI .u64) a0.New.Words),(sL Za a0.New.Kids),(vI a0.Old.Kind),(sL (eI .u64) a0.Old.Words),(sL Za a0.Old.Kids),.row (n+3) z5.length,.row (n+5) z11.length,(vI a0.List_),.row (n+7) z17.length]⟩,some (oR 42 4 Zf z5),none,some (oR 55 12 Zi z11),none,some (oR 53 14 Zg z17),none]) (n+9)) ?_
  intro s2_ x2_ hs2_
  unfold Zft at hs2_
  try dsimp only
  refine zQ [2,3,61,62,63,64] ?_
  refine Zn ?_
  refine Zt (t:=(decide (s2_.1 < (a0.Ops.length:Int)))) rfl (fun c16 => ?_) (fun c16 => ?_)
  ·replace hs2_:=Zw c16 hs2_
   refine Ud [2,3,61,62,63] [false,true,true,true,false,true,false,true,false] ?_
   refine Zn ?_
   refine Yx ?_
   refine Zn ?_
   obtain ⟨x13,hx13,ax13,bx13,cx13,hs2_⟩:=bE (f:=Zg) Ze2 (fun _=>rfl) (by decide) hs2_
   refine Zdx [] ax13 bx13 cx13 ?_
   refine zD [2,3,9,61,62,63] [false,true,true,true,false,true,false,true,false,true] ?_
   obtain ⟨y14,hy14,hs2_⟩:=bC hs2_
   obtain ⟨l15,pl15,ql15,el15,hs2_⟩:=bA (k:=1) rfl hs2_
   refine Qu Z5 (by kernel_rfl) [.low,.low,.plain,.plain,.pass,.bar,.plain,.bar] (fun i=>i < (n+10)) [0,1,2,3,4,5,6,7] [.low,.low,.plain,.plain,.pass,.bar,.plain,.bar] [] (by kernel_rfl) rfl ?_
   refine zX3 pl15 ql15 el15 ?_
   refine zO ?_
   first | refine PCallA.of (fun _ _=>Zay hy14) ?_ | refine PCall.of (Zay hy14) ?_
   refine zX3 pl15 ql15 el15 ?_
   refine zO ?_
   refine Zah ⟨76,[],[(2,.ref (n+1) 0),(3,.ref (n+2) 0),(61,(sL Zg a0.Ops)),(62,(vI (a0.Ops.length:Int))),(63,(vI s2_.1))]⟩ (Zy O n [none,some ⟨false,30,11,1,[(vI 0),(vI 0),nV,nV,(vI 0),nV,nV,nV,nV,(vI 0),nV]⟩,some ⟨false,30,11,1,[(vI a0.Kind),(vI a0.New.Kind),(sL (eI .u64) a0.New.Words),(sL Za a0.New.Kids),(vI a0.Old.Kind),(sL (eI .u64) a0.Old.Words),(sL Za a0.Old.Kids),.row (n+3) z5.length,.row (n+5) z11.length,(vI a0.List_),.row (n+7) l15.length]⟩,some (oR 42 4 Zf z5),none,some (oR 55 12 Zi z11),none,some (oR 53 14 Zg l15),none,none,none]) (Z6 hU rfl rfl ?_) ?_
   ·exact Zxu pl15 ql15 el15
   refine zR ?_
   exact zEn hs2_
  replace hs2_:=Zv c16 hs2_
  exact zEx hs2_
 try simp only [Xh,Yw,↓reduceIte,Nat.reduceEqDiff]
 refine zDs [2,3] [false,true,true,true,false,true,false,true,false] ?_
 refine zRd [2] [false,true,false,true,false,true,false,true,false] ?_
 exact Xg [.agg [(vI a0.Kind),(vI a0.New.Kind),(sL (eI .u64) a0.New.Words),(sL Za a0.New.Kids),(vI a0.Old.Kind),(sL (eI .u64) a0.Old.Words),(sL Za a0.Old.Kids),.row (n+3) z5.length,.row (n+5) z11.length,(vI a0.List_),.row (n+7) z17.length]]
theorem Zj8 {Xu:(Zc→Option Zc)} {Xl:(Zh→Option Zh)} (Gd:Zcv Xu) (Zay:Zav Xl) {a0:Zh} {r:Zh} {O:Objs} {n:Nat} (h:Zc4 Xu Xl a0=some r):GTo Try.prog 77 [.agg (Y1 a0)] O n (.agg (Y1 r)) O n:=by
 unfold Zc4 at h
 refine zFn Try.call77 Try.func77 fun hU hN0 hN => ?_
 show W _ _ _ _ ⟨18,[],[(0,.agg (Y1 a0))]⟩ (Zy O n []) _
 refine zQ [1,2] ?_
 obtain ⟨z1,hz1,h⟩:=bC h
 refine Xj (E':=⟨18,[],[(1,.ref n 0),(2,.ref (n+1) 0)]⟩) (O':=(Zy O n [some ⟨false,53,14,1,[(vI z1.1),(vI a0.N),(sL Za a0.L),(vI z1.2.1),(vI z1.2.2.1),(sL (eI .u64) z1.2.2.2.1),(sL Za z1.2.2.2.2.1),(vI z1.2.2.2.2.2.1),(sL (eI .u64) z1.2.2.2.2.2.2.1),(sL Za z1.2.2.2.2.2.2.2.1),(sL Zf z1.2.2.2.2.2.2.2.2.1),(sL Zi z1.2.2.2.2.2.2.2.2.2.1),(vI z1.2.2.2.2.2.2.2.2.2.2.1),(sL Zg z1.2.2.2.2.2.2.2.2.2.2.2)]⟩,some ⟨false,53,14,1,[(vI 0),(vI 0),nV,(vI 0),(vI 0),nV,nV,(vI 0),nV,nV,nV,nV,(vI 0),nV]⟩])) (n0:=(n+2)) ?_ ?_
 ·refine zQ [1,2,4] ?_
  refine Yx ?_
  refine zQ [1,2,4,5] ?_
  refine Zt (t:=(a0.Kind == 1)) rfl (fun c5 => ?_) (fun c5 => ?_)
  ·replace hz1:=Zw c5 hz1
   refine zR ?_
   exact zEn hz1
  replace hz1:=Zv c5 hz1
  refine zQ [1,2,4,8] ?_
  refine Zt (t:=(a0.Kind == 2)) rfl (fun c4 => ?_) (fun c4 => ?_)
  ·replace hz1:=Zw c4 hz1
   refine zR ?_
   exact zEn hz1
  replace hz1:=Zv c4 hz1
  refine zQ [1,2,11] ?_
  refine Zt (t:=(a0.Kind == 3)) rfl (fun c3 => ?_) (fun c3 => ?_)
  ·replace hz1:=Zw c3 hz1
   obtain ⟨y2,hy2,hz1⟩:=bC hz1
   refine zC (Gd hy2) ?_
   exact zEn hz1
  replace hz1:=Zv c3 hz1
  refine zK ?_
  exact zEn hz1
 refine Zn ?_
 refine zRd [2] [false,true] ?_
 exact Xg [.agg [(vI z1.1),(vI a0.N),(sL Za a0.L),(vI z1.2.1),(vI z1.2.2.1),(sL (eI .u64) z1.2.2.2.1),(sL Za z1.2.2.2.2.1),(vI z1.2.2.2.2.2.1),(sL (eI .u64) z1.2.2.2.2.2.2.1),(sL Za z1.2.2.2.2.2.2.2.1),(sL Zf z1.2.2.2.2.2.2.2.2.1),(sL Zi z1.2.2.2.2.2.2.2.2.2.1),(vI z1.2.2.2.2.2.2.2.2.2.2.1),(sL Zg z1.2.2.2.2.2.2.2.2.2.2.2)]]
theorem Zj5:∀ k,(Zcv ((Ko k).1))∧(Zav ((Ko k).2)):=fun k=>by
 induction k with
 | zero=>exact ⟨@fun a0 r O n h=>(nomatch (show (none:Option _)=some _ from h)),@fun a0 r O n h=>(nomatch (show (none:Option _)=some _ from h))⟩
 | succ k ih=>exact ⟨@fun a0 r O n h=>Zmf (ih.1) (ih.2)  h,@fun a0 r O n h=>Zj8 (ih.1) (ih.2)  h⟩
theorem Zng {a0:Zc} {r:Zc} {O:Objs} {n:Nat} (h:Zik a0=some r):GTo Try.prog 49 [.agg (Zk a0)] O n (.agg (Zk r)) O n:=by
 obtain ⟨k,hk⟩:=Zdf h
 exact (Zj5 k).1  hk
theorem Gm {a0 r:List Zj} {O:Objs} {n:Nat} (h:Qk a0=some r):GTo Try.prog 53 [(sL Zf a0)] O n (.row n r.length) (Zy O n [some (oR 42 4 Zf r)]) (n+1):=by
 have h1:=Ztb h
 have h2:=Ztc h
 have h3:=Zov h
 rw [List.nil_append] at h3
 subst h3
 simp only [List.length_nil,Nat.zero_add] at h1 h2
 clear h
 refine zFn Try.call53 Try.func53 fun hU hN0 hN => ?_
 show W _ _ _ _ ⟨8,[],[(0,(sL Zf r))]⟩ (Zy O n []) _
 refine zQ [0] ?_
 refine Zxx 0 r.length (fl Zf r) rfl (Nat.le_of_ble_eq_true rfl) (Yi Xc _) fun A c hA => ?_
 refine zQ [0,4] ?_
 cases A with
 | none =>
  obtain rfl:r=[]:=List.eq_nil_of_length_eq_zero (hA rfl)
  refine Zt (t:=true) rfl (fun _ => ?_) (fun hc=>by cases hc)
  refine zQ [2] ?_
  refine zW ?_
  refine Zpp (k:=1) (L3:=[some ⟨true,42,4,0,[]⟩]) (E2:=⟨8,[],[(2,.row n 0),(2,nV)]⟩) (n3:=(n+1)) (.inr rfl) hU rfl [.row n 0] ?_ ?_
  ·have ha:=Zfm (ba:=n) (E:=⟨8,[],[(2,.val (.slice none 0 0))]⟩) (O:=(Zy O n [])) (n:=n) 2 42 4 rfl (by omega)
   simp only [Yr] at ha
   exact ha
  simp only [push_cast,seval,↓reduceIte,Ze,Try.results53,hN0,hN]
 | some A =>
  refine Zt (t:=false) rfl (fun hc=>by cases hc) (fun _ => ?_)
  refine zK ?_
  refine And.intro rfl (And.intro (Nat.le_of_ble_eq_true rfl) ?_)
  refine Zn ?_
  refine Yz Z5 [] ?_
  simp only [push_cast,seval,↓reduceIte,Ze,h1,h2,hN0,hN]
  refine zW ?_
  refine Zpo (.inr rfl) hU rfl [.row n r.length] (by omega) ?_
  simp only [push_cast,seval,↓reduceIte,Ze,Try.results53,hN0,hN]
theorem Ky {a0:Zu} {r:Zu} {O:Objs} {n:Nat} {i0 j0_0 j0_1 j0_2:Nat} (hi0:i0 < n) (Vl:j0_0 < n) (Zes:j0_1 < n) (Zgv:j0_2 < n) (Jb:i0≠j0_0) (Vs:i0≠j0_1) (Gb:i0≠j0_2) (Vr:j0_0≠j0_1) (U9:j0_0≠j0_2) (Ga:j0_1≠j0_2) (ho0:O i0=some ⟨false,98,4,1,[.row j0_2 a0.out.length,(vI a0.kept),.row j0_0 a0.gone.length,.row j0_1 a0.come.length]⟩) (Vt:O j0_0=some (oR 25 3 Za a0.gone)) (Zfz:O j0_1=some (oR 25 3 Za a0.come)) (Zh1:O j0_2=some (oR 53 14 Zg a0.out)) (h:Xo a0=some r):GTo Try.prog 88 [.ref i0 0] O n (.tup []) (Zy ((((O.upd j0_0 none).upd j0_1 none).upd j0_2 none).upd i0 (some ⟨false,98,4,1,[.row (n+2) r.out.length,(vI r.kept),.row n r.gone.length,.row (n+1) r.come.length]⟩)) n [some (oR 25 3 Za r.gone),some (oR 25 3 Za r.come),some (oR 53 14 Zg r.out)]) (n+3):=by
 unfold Xo at h
 refine Zii Z5 Try.call88 Try.func88 rfl (Nat.le_of_ble_eq_true rfl) (by omega) fun hU => ?_
 have e0:=Jt (ba:=n) (E:=⟨73,[],Zda 0 [.ref i0 0]⟩) (O:=(Zy O n [])) (n:=n) (i:=i0) (j:=j0_0) (k:=2) (len:=a0.gone.length) (q:=⟨false,98,4,1,[.row j0_2 a0.out.length,.val (.int .i64 a0.kept),.row j0_0 a0.gone.length,.row j0_1 a0.come.length]⟩) (qj:=⟨true,25,3,a0.gone.length,fl Za a0.gone⟩) (by rw [Yo _ hi0];first | exact ho0 | exact Yg _ _ _) rfl (by rw [Yo _ Vl];exact Vt) Jb (by omega)
 simp only [Yv _ _ Vl,Yv _ _ hi0,Y5,Yr,Qg,Ux Jb,List.set_cons_zero,List.set_cons_succ,List.cons_append,List.nil_append,List.length_cons,List.length_nil,Nat.zero_add,Nat.reduceAdd,Nat.add_assoc] at e0
 refine Q2 e0 ?_
 have e1:=Jt (ba:=n) (E:=⟨73,[],Zda 0 [.ref i0 0]⟩) (O:=(Zy ((O.upd j0_0 none).upd i0 (some ⟨false,98,4,1,[.row j0_2 a0.out.length,.val (.int .i64 a0.kept),.row n a0.gone.length,.row j0_1 a0.come.length]⟩)) n [some ⟨true,25,3,a0.gone.length,fl Za a0.gone⟩])) (n:=(n+1)) (i:=i0) (j:=j0_1) (k:=3) (len:=a0.come.length) (q:=⟨false,98,4,1,[.row j0_2 a0.out.length,.val (.int .i64 a0.kept),.row n a0.gone.length,.row j0_1 a0.come.length]⟩) (qj:=⟨true,25,3,a0.come.length,fl Za a0.come⟩) (by rw [Yo _ hi0];first | exact ho0 | exact Yg _ _ _) rfl (by rw [Yo _ Zes,Y3 _ _ (Ne.symm Vs),Y3 _ _ (Ne.symm Vr)];exact Zfz) Vs (by omega)
 simp only [Yv _ _ Zes,Yv _ _ hi0,Y5,Yr,Qg,Ux Vs,List.set_cons_zero,List.set_cons_succ,List.cons_append,List.nil_append,List.length_cons,List.length_nil,Nat.zero_add,Nat.reduceAdd,Nat.add_assoc] at e1
 refine Q2 e1 ?_
 have e2:=Jt (ba:=n) (E:=⟨73,[],Zda 0 [.ref i0 0]⟩) (O:=(Zy (((O.upd j0_0 none).upd j0_1 none).upd i0 (some ⟨false,98,4,1,[.row j0_2 a0.out.length,.val (.int .i64 a0.kept),.row n a0.gone.length,.row (n+1) a0.come.length]⟩)) n [some ⟨true,25,3,a0.gone.length,fl Za a0.gone⟩,some ⟨true,25,3,a0.come.length,fl Za a0.come⟩])) (n:=(n+2)) (i:=i0) (j:=j0_2) (k:=0) (len:=a0.out.length) (q:=⟨false,98,4,1,[.row j0_2 a0.out.length,.val (.int .i64 a0.kept),.row n a0.gone.length,.row (n+1) a0.come.length]⟩) (qj:=⟨true,53,14,a0.out.length,fl Zg a0.out⟩) (by rw [Yo _ hi0];first | exact ho0 | exact Yg _ _ _) rfl (by rw [Yo _ Zgv,Y3 _ _ (Ne.symm Gb),Y3 _ _ (Ne.symm Ga),Y3 _ _ (Ne.symm U9)];exact Zh1) Gb (by omega)
 simp only [Yv _ _ Zgv,Yv _ _ hi0,Y5,Yr,Qg,Ux Gb,List.set_cons_zero,List.set_cons_succ,List.cons_append,List.nil_append,List.length_cons,List.length_nil,Nat.zero_add,Nat.reduceAdd,Nat.add_assoc] at e2
 refine Q2 e2 ?_
 have hU:=(Und.drop (Und.drop (Und.drop hU j0_0) j0_1) j0_2)
 have hk0:∀ k,i0 < n+k:=fun k=>by omega
 have hN0:∀ o,Objs.upd (((O.upd j0_0 none).upd j0_1 none).upd j0_2 none) i0 o n=none:=fun o=>Qd hU hi0 _ (Nat.le_refl _)
 have hN:∀ o k,Objs.upd (((O.upd j0_0 none).upd j0_1 none).upd j0_2 none) i0 o (n+k)=none:=fun o k=>Qd hU hi0 _ (Nat.le_add_right _ _)
 show W _ _ _ _ ⟨73,[],[(0,.ref i0 0)]⟩ (Zy ((((O.upd j0_0 none).upd j0_1 none).upd j0_2 none).upd i0 (some ⟨false,98,4,1,[.row (n+2) a0.out.length,(vI a0.kept),.row n a0.gone.length,.row (n+1) a0.come.length]⟩)) n [some (oR 25 3 Za a0.gone),some (oR 25 3 Za a0.come),some (oR 53 14 Zg a0.out)]) _
 obtain ⟨z1,hz1,h⟩:=bC h
 refine Xj (E':=⟨73,[],[(0,.ref i0 0)]⟩) (O':=(Zy ((((O.upd j0_0 none).upd j0_1 none).upd j0_2 none).upd i0 (some ⟨false,98,4,1,[.row (n+2) z1.length,(vI a0.kept),.row n a0.gone.length,.row (n+1) a0.come.length]⟩)) n [some (oR 25 3 Za a0.gone),some (oR 25 3 Za a0.come),some (oR 53 14 Zg z1),none])) (n0:=(n+4)) ?_ ?_
 ·refine Uz [0,6] hi0 hk0 ?_
  refine Zt (t:=(decide (0 < a0.kept))) rfl (fun c5 => ?_) (fun c5 => ?_)
  ·replace hz1:=Zw c5 hz1
   obtain ⟨l2,pl2,ql2,el2,hz1⟩:=bA (k:=1) rfl hz1
   obtain ⟨x3,hx3,ax3,bx3,cx3,hz1⟩:=bE (f:=Zg) Ze2 (fun _=>rfl) (by decide) hz1
   have gu4:Q4 (fl Zg a0.out++[.val (.int .i64 0),.val (.int .i64 0),.val (.slice none 0 0),.val (.int .i64 0),.val (.int .i64 0),.val (.slice none 0 0),.val (.slice none 0 0),.val (.int .i64 0),.val (.slice none 0 0),.val (.slice none 0 0),.val (.slice none 0 0),.val (.slice none 0 0),.val (.int .i64 0),.val (.slice none 0 0)]) [.val (.int .i64 0),.val (.int .i64 a0.kept),.val (.slice none 0 0),.val (.int .i64 0),.val (.int .i64 0),.val (.slice none 0 0),.val (.slice none 0 0),.val (.int .i64 0),.val (.slice none 0 0),.val (.slice none 0 0),.val (.slice none 0 0),.val (.slice none 0 0),.val (.int .i64 0),.val (.slice none 0 0)] (List.length a0.out * 14)=some (fl Zg a0.out++[.val (.int .i64 0),.val (.int .i64 a0.kept),.val (.slice none 0 0),.val (.int .i64 0),.val (.int .i64 0),.val (.slice none 0 0),.val (.slice none 0 0),.val (.int .i64 0),.val (.slice none 0 0),.val (.slice none 0 0),.val (.slice none 0 0),.val (.slice none 0 0),.val (.int .i64 0),.val (.slice none 0 0)]):=U0 (f:=Zg) (sz:=14) (fun _=>rfl) rfl rfl
   refine Qu Z5 (by kernel_rfl) [.plain,.low,.low,.low,.plain,.low,.low,.low,.plain,.low,.pass,.bar,.shp,.fill true,.shp,.shp,.fill false] (fun i=>i < (n+3)) [0,1,2,3,4,5,6,7,8,9,10,11,12,13,14,15,16] [.plain,.low,.low,.low,.plain,.low,.low,.low,.plain,.low,.pass,.bar,.shp,.fill true,.shp,.shp,.fill false] [] (by kernel_rfl) rfl ?_
   refine zF9 pl2 ql2 el2 ax3 bx3 cx3 gu4 hi0 hk0 ?_
   refine zO ?_
   have hz1:=Option.some.inj hz1;subst hz1
   refine And.intro rfl (Fit2.of (Yb hU rfl rfl ?_) (by omega))
   exact Zv6 pl2 ql2 el2 ax3 bx3 cx3 gu4 hi0 hk0
  replace hz1:=Zv c5 hz1
  refine zK ?_
  have hz1:=Option.some.inj hz1;subst hz1
  refine And.intro rfl (Fit2.of (Yb hU rfl rfl ?_) (by omega))
  exact Qo hi0 hk0
 obtain ⟨z6,hz6,h⟩:=bC h
 refine Xj (E':=⟨73,[],[(0,.ref i0 0)]⟩) (O':=(Zy ((((O.upd j0_0 none).upd j0_1 none).upd j0_2 none).upd i0 (some ⟨false,98,4,1,[.row (n+2) z6.1.length,(vI a0.kept),(sL Za z6.2),.row (n+1) a0.come.length]⟩)) n [none,some (oR 25 3 Za a0.come),some (oR 53 14 Zg z6.1),none,none])) (n0:=(n+5)) ?_ ?_
 ·refine Uz [0,27] hi0 hk0 ?_
  refine Zt (t:=(decide (0 < (a0.gone.length:Int)))) rfl (fun c12 => ?_) (fun c12 => ?_)
  ·replace hz6:=Zw c12 hz6
   refine Zah ⟨73,[],[(0,.ref i0 0)]⟩ (Zy ((((O.upd j0_0 none).upd j0_1 none).upd j0_2 none).upd i0 (some ⟨false,98,4,1,[.row (n+2) z1.length,(vI a0.kept),(sL Za a0.gone),.row (n+1) a0.come.length]⟩)) n [none,some (oR 25 3 Za a0.come),some (oR 53 14 Zg z1),none]) (Yb hU rfl rfl ?_) ?_
   ·exact Qo hi0 hk0
   obtain ⟨l9,pl9,ql9,el9,hz6⟩:=bA (k:=1) rfl hz6
   obtain ⟨x10,hx10,ax10,bx10,cx10,hz6⟩:=bE (f:=Zg) Ze2 (fun _=>rfl) (by decide) hz6
   have gu11:Q4 (fl Zg z1++[.val (.int .i64 0),.val (.int .i64 0),.val (.slice none 0 0),.val (.int .i64 0),.val (.int .i64 0),.val (.slice none 0 0),.val (.slice none 0 0),.val (.int .i64 0),.val (.slice none 0 0),.val (.slice none 0 0),.val (.slice none 0 0),.val (.slice none 0 0),.val (.int .i64 0),.val (.slice none 0 0)]) [.val (.int .i64 1),.val (.int .i64 0),.sl a0.gone.length (fl Za a0.gone),.val (.int .i64 0),.val (.int .i64 0),.val (.slice none 0 0),.val (.slice none 0 0),.val (.int .i64 0),.val (.slice none 0 0),.val (.slice none 0 0),.val (.slice none 0 0),.val (.slice none 0 0),.val (.int .i64 0),.val (.slice none 0 0)] (List.length z1 * 14)=some (fl Zg z1++[.val (.int .i64 1),.val (.int .i64 0),.sl a0.gone.length (fl Za a0.gone),.val (.int .i64 0),.val (.int .i64 0),.val (.slice none 0 0),.val (.slice none 0 0),.val (.int .i64 0),.val (.slice none 0 0),.val (.slice none 0 0),.val (.slice none 0 0),.val (.slice none 0 0),.val (.int .i64 0),.val (.slice none 0 0)]):=U0 (f:=Zg) (sz:=14) (fun _=>rfl) rfl rfl
   refine Qu Z5 (by kernel_rfl) [.plain,.low,.low,.low,.plain,.low,.low,.low,.plain,.low,.pass,.bar,.shp,.fill true,.shp,.shp,.fill false] (fun i=>i < (n+4)) [0,1,2,3,4,5,6,7,8,9,10,11,12,13,14,15,16] [.plain,.low,.low,.low,.plain,.low,.low,.low,.plain,.low,.pass,.bar,.shp,.fill true,.shp,.shp,.fill false] [] (by kernel_rfl) rfl ?_
   refine zF9 pl9 ql9 el9 ax10 bx10 cx10 gu11 hi0 hk0 ?_
   refine zO ?_
   have hz6:=Option.some.inj hz6;subst hz6
   refine And.intro rfl (Fit2.of (Yb hU rfl rfl ?_) (by omega))
   exact Zv6 pl9 ql9 el9 ax10 bx10 cx10 gu11 hi0 hk0
  replace hz6:=Zv c12 hz6
  refine zK ?_
  have hz6:=Option.some.inj hz6;subst hz6
  refine And.intro rfl (Fit2.of (Yb hU rfl rfl ?_) (by omega))
  exact Qo hi0 hk0
 obtain ⟨z13,hz13,h⟩:=bC h
 refine Xj (E':=⟨73,[],[(0,.ref i0 0)]⟩) (O':=(Zy ((((O.upd j0_0 none).upd j0_1 none).upd j0_2 none).upd i0 (some ⟨false,98,4,1,[.row (n+2) z13.1.length,(vI a0.kept),(sL Za z6.2),(sL Za z13.2)]⟩)) n [none,none,some (oR 53 14 Zg z13.1),none,none,none])) (n0:=(n+6)) ?_ ?_
 ·refine Uz [0,48] hi0 hk0 ?_
  refine Zt (t:=(decide (0 < (a0.come.length:Int)))) rfl (fun c19 => ?_) (fun c19 => ?_)
  ·replace hz13:=Zw c19 hz13
   refine Zah ⟨73,[],[(0,.ref i0 0)]⟩ (Zy ((((O.upd j0_0 none).upd j0_1 none).upd j0_2 none).upd i0 (some ⟨false,98,4,1,[.row (n+2) z6.1.length,(vI a0.kept),(sL Za z6.2),(sL Za a0.come)]⟩)) n [none,none,some (oR 53 14 Zg z6.1),none,none]) (Yb hU rfl rfl ?_) ?_
   ·exact Qo hi0 hk0
   obtain ⟨l16,pl16,ql16,el16,hz13⟩:=bA (k:=1) rfl hz13
   obtain ⟨x17,hx17,ax17,bx17,cx17,hz13⟩:=bE (f:=Zg) Ze2 (fun _=>rfl) (by decide) hz13
   have gu18:Q4 (fl Zg z6.1++[.val (.int .i64 0),.val (.int .i64 0),.val (.slice none 0 0),.val (.int .i64 0),.val (.int .i64 0),.val (.slice none 0 0),.val (.slice none 0 0),.val (.int .i64 0),.val (.slice none 0 0),.val (.slice none 0 0),.val (.slice none 0 0),.val (.slice none 0 0),.val (.int .i64 0),.val (.slice none 0 0)]) [.val (.int .i64 2),.val (.int .i64 0),.sl a0.come.length (fl Za a0.come),.val (.int .i64 0),.val (.int .i64 0),.val (.slice none 0 0),.val (.slice none 0 0),.val (.int .i64 0),.val (.slice none 0 0),.val (.slice none 0 0),.val (.slice none 0 0),.val (.slice none 0 0),.val (.int .i64 0),.val (.slice none 0 0)] (List.length z6.1 * 14)=some (fl Zg z6.1++[.val (.int .i64 2),.val (.int .i64 0),.sl a0.come.length (fl Za a0.come),.val (.int .i64 0),.val (.int .i64 0),.val (.slice none 0 0),.val (.slice none 0 0),.val (.int .i64 0),.val (.slice none 0 0),.val (.slice none 0 0),.val (.slice none 0 0),.val (.slice none 0 0),.val (.int .i64 0),.val (.slice none 0 0)]):=U0 (f:=Zg) (sz:=14) (fun _=>rfl) rfl rfl
   refine Qu Z5 (by kernel_rfl) [.plain,.low,.low,.low,.plain,.low,.low,.low,.plain,.low,.pass,.bar,.shp,.fill true,.shp,.shp,.fill false] (fun i=>i < (n+5)) [0,1,2,3,4,5,6,7,8,9,10,11,12,13,14,15,16] [.plain,.low,.low,.low,.plain,.low,.low,.low,.plain,.low,.pass,.bar,.shp,.fill true,.shp,.shp,.fill false] [] (by kernel_rfl) rfl ?_
   refine zF9 pl16 ql16 el16 ax17 bx17 cx17 gu18 hi0 hk0 ?_
   refine zO ?_
   have hz13:=Option.some.inj hz13;subst hz13
   refine And.intro rfl (Fit2.of (Yb hU rfl rfl ?_) (by omega))
   exact Zv6 pl16 ql16 el16 ax17 bx17 cx17 gu18 hi0 hk0
  replace hz13:=Zv c19 hz13
  refine zK ?_
  have hz13:=Option.some.inj hz13;subst hz13
  refine And.intro rfl (Fit2.of (Yb hU rfl rfl ?_) (by omega))
  exact Qo hi0 hk0
 refine V0 [] hi0 hk0 ?_
 have h:=Option.some.inj h;subst h
 refine Qz (k:=3) (i:=i0) (q1:=⟨false,98,4,1,[.row (n+2) z13.1.length,(vI 0),.row n ([]:List Zb).length,.row (n+1) ([]:List Zb).length]⟩) (L3:=[some (oR 25 3 Za ([]:List Zb)),some (oR 25 3 Za ([]:List Zb)),some (oR 53 14 Zg z13.1),none]) (E2:=(⟨73,[],[]⟩:Env)) (n3:=(n+4)) (.inl rfl) hU rfl [] ?_ ?_
 ·refine Fit2.trans (E':=(⟨73,[],[]⟩:Env)) (O':=(Zy ((((O.upd j0_0 none).upd j0_1 none).upd j0_2 none).upd i0 (some ⟨false,98,4,1,[.row (n+2) z13.1.length,(vI 0),nV,nV]⟩)) n [none,none,some (oR 53 14 Zg z13.1),none,none,none])) (n':=(n+6)) (Fit2.of (Yb hU rfl rfl ?_) (by omega)) ?_
  ·exact Qo hi0 hk0
  refine Fit2.trans (Vb (p:=i0) (k:=2) (q:=⟨false,98,4,1,[.row (n+2) z13.1.length,(vI 0),nV,nV]⟩) 25 3 (by simp only [Vi,U6,List.getElem?_cons_zero,List.getElem?_cons_succ,Option.join_some,List.length_nil,Yg,Yo,hi0,hk0,hN0,hN]) rfl (by omega)) ?_
  simp only [Y5,Yr,Vj,Kg,List.set_cons_zero,List.set_cons_succ,List.cons_append,List.nil_append,List.length_cons,List.length_nil,Nat.zero_add,Nat.reduceAdd,Nat.reduceLT,Nat.add_assoc,Yv,Qg,hi0,hk0,hN0,hN]
  refine Fit2.trans (Vb (p:=i0) (k:=3) (q:=⟨false,98,4,1,[.row (n+2) z13.1.length,(vI 0),.row (n+6) ([]:List Zb).length,nV]⟩) 25 3 (by simp only [Vi,U6,List.getElem?_cons_zero,List.getElem?_cons_succ,Option.join_some,List.length_nil,Yg,Yo,hi0,hk0,hN0,hN]) rfl (by omega)) ?_
  simp only [Y5,Yr,Vj,Kg,List.set_cons_zero,List.set_cons_succ,List.cons_append,List.nil_append,List.length_cons,List.length_nil,Nat.zero_add,Nat.reduceAdd,Nat.reduceLT,Nat.add_assoc,Yv,Qg,hi0,hk0,hN0,hN]
  refine X2 (k:=8) (k':=4) hU [3,3,2,3,3,3,0,1] [6,7,2,0] rfl rfl rfl rfl ⟨rfl,rfl⟩ ?_
  exact Qo hi0 hk0
 simp only [push_cast,seval,↓reduceIte,Ze,Try.results88,hi0,hk0,hN0,hN]
theorem Zdv {a0:Zu} {a1:Int} {r:Zu} {O:Objs} {n:Nat} {i0 j0_0 j0_1 j0_2:Nat} (hi0:i0 < n) (Vl:j0_0 < n) (Zes:j0_1 < n) (Zgv:j0_2 < n) (Jb:i0≠j0_0) (Vs:i0≠j0_1) (Gb:i0≠j0_2) (Vr:j0_0≠j0_1) (U9:j0_0≠j0_2) (Ga:j0_1≠j0_2) (ho0:O i0=some ⟨false,98,4,1,[.row j0_2 a0.out.length,(vI a0.kept),.row j0_0 a0.gone.length,.row j0_1 a0.come.length]⟩) (Vt:O j0_0=some (oR 25 3 Za a0.gone)) (Zfz:O j0_1=some (oR 25 3 Za a0.come)) (Zh1:O j0_2=some (oR 53 14 Zg a0.out)) (h:Jq a0 a1=some r):GTo Try.prog 85 [.ref i0 0,(vI a1)] O n (.tup []) (Zy ((((O.upd j0_0 none).upd j0_1 none).upd j0_2 none).upd i0 (some ⟨false,98,4,1,[.row (n+2) r.out.length,(vI r.kept),.row n r.gone.length,.row (n+1) r.come.length]⟩)) n [some (oR 25 3 Za r.gone),some (oR 25 3 Za r.come),some (oR 53 14 Zg r.out)]) (n+3):=by
 unfold Jq at h
 refine Zii Z5 Try.call85 Try.func85 rfl (Nat.le_of_ble_eq_true rfl) (by omega) fun hU => ?_
 have e0:=Jt (ba:=n) (E:=⟨19,[],Zda 0 [.ref i0 0,.val (.int .i64 a1)]⟩) (O:=(Zy O n [])) (n:=n) (i:=i0) (j:=j0_0) (k:=2) (len:=a0.gone.length) (q:=⟨false,98,4,1,[.row j0_2 a0.out.length,.val (.int .i64 a0.kept),.row j0_0 a0.gone.length,.row j0_1 a0.come.length]⟩) (qj:=⟨true,25,3,a0.gone.length,fl Za a0.gone⟩) (by rw [Yo _ hi0];first | exact ho0 | exact Yg _ _ _) rfl (by rw [Yo _ Vl];exact Vt) Jb (by omega)
 simp only [Yv _ _ Vl,Yv _ _ hi0,Y5,Yr,Qg,Ux Jb,List.set_cons_zero,List.set_cons_succ,List.cons_append,List.nil_append,List.length_cons,List.length_nil,Nat.zero_add,Nat.reduceAdd,Nat.add_assoc] at e0
 refine Q2 e0 ?_
 have e1:=Jt (ba:=n) (E:=⟨19,[],Zda 0 [.ref i0 0,.val (.int .i64 a1)]⟩) (O:=(Zy ((O.upd j0_0 none).upd i0 (some ⟨false,98,4,1,[.row j0_2 a0.out.length,.val (.int .i64 a0.kept),.row n a0.gone.length,.row j0_1 a0.come.length]⟩)) n [some ⟨true,25,3,a0.gone.length,fl Za a0.gone⟩])) (n:=(n+1)) (i:=i0) (j:=j0_1) (k:=3) (len:=a0.come.length) (q:=⟨false,98,4,1,[.row j0_2 a0.out.length,.val (.int .i64 a0.kept),.row n a0.gone.length,.row j0_1 a0.come.length]⟩) (qj:=⟨true,25,3,a0.come.length,fl Za a0.come⟩) (by rw [Yo _ hi0];first | exact ho0 | exact Yg _ _ _) rfl (by rw [Yo _ Zes,Y3 _ _ (Ne.symm Vs),Y3 _ _ (Ne.symm Vr)];exact Zfz) Vs (by omega)
 simp only [Yv _ _ Zes,Yv _ _ hi0,Y5,Yr,Qg,Ux Vs,List.set_cons_zero,List.set_cons_succ,List.cons_append,List.nil_append,List.length_cons,List.length_nil,Nat.zero_add,Nat.reduceAdd,Nat.add_assoc] at e1
 refine Q2 e1 ?_
 have e2:=Jt (ba:=n) (E:=⟨19,[],Zda 0 [.ref i0 0,.val (.int .i64 a1)]⟩) (O:=(Zy (((O.upd j0_0 none).upd j0_1 none).upd i0 (some ⟨false,98,4,1,[.row j0_2 a0.out.length,.val (.int .i64 a0.kept),.row n a0.gone.length,.row (n+1) a0.come.length]⟩)) n [some ⟨true,25,3,a0.gone.length,fl Za a0.gone⟩,some ⟨true,25,3,a0.come.length,fl Za a0.come⟩])) (n:=(n+2)) (i:=i0) (j:=j0_2) (k:=0) (len:=a0.out.length) (q:=⟨false,98,4,1,[.row j0_2 a0.out.length,.val (.int .i64 a0.kept),.row n a0.gone.length,.row (n+1) a0.come.length]⟩) (qj:=⟨true,53,14,a0.out.length,fl Zg a0.out⟩) (by rw [Yo _ hi0];first | exact ho0 | exact Yg _ _ _) rfl (by rw [Yo _ Zgv,Y3 _ _ (Ne.symm Gb),Y3 _ _ (Ne.symm Ga),Y3 _ _ (Ne.symm U9)];exact Zh1) Gb (by omega)
 simp only [Yv _ _ Zgv,Yv _ _ hi0,Y5,Yr,Qg,Ux Gb,List.set_cons_zero,List.set_cons_succ,List.cons_append,List.nil_append,List.length_cons,List.length_nil,Nat.zero_add,Nat.reduceAdd,Nat.add_assoc] at e2
 refine Q2 e2 ?_
 have hU:=(Und.drop (Und.drop (Und.drop hU j0_0) j0_1) j0_2)
 have hk0:∀ k,i0 < n+k:=fun k=>by omega
 have hN0:∀ o,Objs.upd (((O.upd j0_0 none).upd j0_1 none).upd j0_2 none) i0 o n=none:=fun o=>Qd hU hi0 _ (Nat.le_refl _)
 have hN:∀ o k,Objs.upd (((O.upd j0_0 none).upd j0_1 none).upd j0_2 none) i0 o (n+k)=none:=fun o k=>Qd hU hi0 _ (Nat.le_add_right _ _)
 show W _ _ _ _ ⟨19,[],[(0,.ref i0 0),(1,(vI a1))]⟩ (Zy ((((O.upd j0_0 none).upd j0_1 none).upd j0_2 none).upd i0 (some ⟨false,98,4,1,[.row (n+2) a0.out.length,(vI a0.kept),.row n a0.gone.length,.row (n+1) a0.come.length]⟩)) n [some (oR 25 3 Za a0.gone),some (oR 25 3 Za a0.come),some (oR 53 14 Zg a0.out)]) _
 obtain ⟨z1,hz1,h⟩:=bC h
 refine Xj (E':=⟨19,[],[(0,.ref i0 0),(1,(vI a1))]⟩) (O':=(Zy ((((O.upd j0_0 none).upd j0_1 none).upd j0_2 none).upd i0 (some ⟨false,98,4,1,[.row (n+6) z1.1.length,(vI z1.2.2.2),.row (n+7) z1.2.1.length,.row (n+8) z1.2.2.1.length]⟩)) n [none,none,none,none,none,none,some (oR 53 14 Zg z1.1),some (oR 25 3 Za z1.2.1),some (oR 25 3 Za z1.2.2.1)])) (n0:=(n+9)) ?_ ?_
 ·refine Uz [0,1,8] hi0 hk0 ?_
  refine Zt (t:=(a0.kept == 0)) rfl (fun c3 => ?_) (fun c3 => ?_)
  ·replace hz1:=Zw c3 hz1
   obtain ⟨y2,hy2,hz1⟩:=bC hz1
   refine V0 [] hi0 hk0 ?_
   refine (Ky (i0:=i0) (j0_0:=n) (j0_1:=(n+1)) (j0_2:=(n+2)) (by omega) (by omega) (by omega) (by omega) (by omega) (by omega) (by omega) (by omega) (by omega) (by omega) (by simp only [push_cast,seval,↓reduceIte,Ze,Y6,hi0,hk0,hN0,hN] <;> rfl) (by simp only [push_cast,seval,↓reduceIte,Ze,Y6,hi0,hk0,hN0,hN] <;> rfl) (by simp only [push_cast,seval,↓reduceIte,Ze,Y6,hi0,hk0,hN0,hN] <;> rfl) (by simp only [push_cast,seval,↓reduceIte,Ze,Y6,hi0,hk0,hN0,hN] <;> rfl) hy2).then ?_
   refine zX2 hi0 hk0 ?_
   have hz1:=Option.some.inj hz1;subst hz1
   refine And.intro rfl ?_
   refine Fit2.trans (E':=(⟨19,[],[(0,.ref i0 0),(1,(vI a1))]⟩:Env)) (O':=(Zy ((((O.upd j0_0 none).upd j0_1 none).upd j0_2 none).upd i0 (some ⟨false,98,4,1,[.row (n+5) y2.out.length,(vI y2.kept),.row (n+3) y2.gone.length,.row (n+4) y2.come.length]⟩)) n [none,none,none,some (oR 25 3 Za y2.gone),some (oR 25 3 Za y2.come),some (oR 53 14 Zg y2.out)])) (n':=(n+6)) (Fit2.of (Yb hU rfl rfl ?_) (by omega)) ?_
   ·exact Qo hi0 hk0
   refine X2 (k:=6) (k':=9) hU [5,5,5,7,8,6] [0,0,0,0,0,0,5,3,4] rfl rfl rfl rfl ⟨rfl,rfl⟩ ?_
   exact Qo hi0 hk0
  replace hz1:=Zv c3 hz1
  refine zK ?_
  have hz1:=Option.some.inj hz1;subst hz1
  refine And.intro rfl ?_
  refine Fit2.trans (E':=(⟨19,[],[(0,.ref i0 0),(1,(vI a1))]⟩:Env)) (O':=(Zy ((((O.upd j0_0 none).upd j0_1 none).upd j0_2 none).upd i0 (some ⟨false,98,4,1,[.row (n+2) a0.out.length,(vI a0.kept),.row n a0.gone.length,.row (n+1) a0.come.length]⟩)) n [some (oR 25 3 Za a0.gone),some (oR 25 3 Za a0.come),some (oR 53 14 Zg a0.out)])) (n':=(n+3)) (Fit2.of (Yb hU rfl rfl ?_) (by omega)) ?_
  ·exact Qo hi0 hk0
  refine X2 (k:=3) (k':=9) hU [7,8,6] [0,0,0,0,0,0,2,0,1] rfl rfl rfl rfl ⟨rfl,rfl⟩ ?_
  exact Qo hi0 hk0
 refine V0 [] hi0 hk0 ?_
 have h:=Option.some.inj h;subst h
 refine Qz (k:=3) (i:=i0) (q1:=⟨false,98,4,1,[.row (n+2) z1.1.length,(vI (IntKind.i64.wrap (z1.2.2.2+a1))),.row n z1.2.1.length,.row (n+1) z1.2.2.1.length]⟩) (L3:=[some (oR 25 3 Za z1.2.1),some (oR 25 3 Za z1.2.2.1),some (oR 53 14 Zg z1.1),none]) (E2:=(⟨19,[],[]⟩:Env)) (n3:=(n+4)) (.inl rfl) hU rfl [] ?_ ?_
 ·refine Fit2.trans (E':=(⟨19,[],[]⟩:Env)) (O':=(Zy ((((O.upd j0_0 none).upd j0_1 none).upd j0_2 none).upd i0 (some ⟨false,98,4,1,[.row (n+6) z1.1.length,(vI (IntKind.i64.wrap (z1.2.2.2+a1))),.row (n+7) z1.2.1.length,.row (n+8) z1.2.2.1.length]⟩)) n [none,none,none,none,none,none,some (oR 53 14 Zg z1.1),some (oR 25 3 Za z1.2.1),some (oR 25 3 Za z1.2.2.1)])) (n':=(n+9)) (Fit2.of (Yb hU rfl rfl ?_) (by omega)) ?_
  ·exact Qo hi0 hk0
  refine X2 (k:=9) (k':=4) hU [3,3,3,3,3,3,2,0,1] [7,8,6,0] rfl rfl rfl rfl ⟨rfl,rfl⟩ ?_
  exact Qo hi0 hk0
 simp only [push_cast,seval,↓reduceIte,Ze,Try.results85,hi0,hk0,hN0,hN]
theorem Zgq {a0:Zu} {a2:(List Zb)} {r:Zu} {O:Objs} {n:Nat} {i0 j0_0 j0_1 j0_2:Nat} (hi0:i0 < n) (Vl:j0_0 < n) (Zes:j0_1 < n) (Zgv:j0_2 < n) (Jb:i0≠j0_0) (Vs:i0≠j0_1) (Gb:i0≠j0_2) (Vr:j0_0≠j0_1) (U9:j0_0≠j0_2) (Ga:j0_1≠j0_2) (ho0:O i0=some ⟨false,98,4,1,[.row j0_2 a0.out.length,(vI a0.kept),.row j0_0 a0.gone.length,.row j0_1 a0.come.length]⟩) (Vt:O j0_0=some (oR 25 3 Za a0.gone)) (Zfz:O j0_1=some (oR 25 3 Za a0.come)) (Zh1:O j0_2=some (oR 53 14 Zg a0.out)) (h:Jc a0 a2=some r):GTo Try.prog 86 [.ref i0 0,.ref i0 2,(sL Za a2)] O n (.tup []) (Zy ((((O.upd j0_0 none).upd j0_1 none).upd j0_2 none).upd i0 (some ⟨false,98,4,1,[.row (n+2) r.out.length,(vI r.kept),.row n r.gone.length,.row (n+1) r.come.length]⟩)) n [some (oR 25 3 Za r.gone),some (oR 25 3 Za r.come),some (oR 53 14 Zg r.out)]) (n+3):=by
 unfold Jc at h
 refine Zii Z5 Try.call86 Try.func86 rfl (Nat.le_of_ble_eq_true rfl) (by omega) fun hU => ?_
 have e0:=Jt (ba:=n) (E:=⟨32,[],Zda 0 [.ref i0 0,.ref i0 2,.sl a2.length (fl Za a2)]⟩) (O:=(Zy O n [])) (n:=n) (i:=i0) (j:=j0_0) (k:=2) (len:=a0.gone.length) (q:=⟨false,98,4,1,[.row j0_2 a0.out.length,.val (.int .i64 a0.kept),.row j0_0 a0.gone.length,.row j0_1 a0.come.length]⟩) (qj:=⟨true,25,3,a0.gone.length,fl Za a0.gone⟩) (by rw [Yo _ hi0];first | exact ho0 | exact Yg _ _ _) rfl (by rw [Yo _ Vl];exact Vt) Jb (by omega)
 simp only [Yv _ _ Vl,Yv _ _ hi0,Y5,Yr,Qg,Ux Jb,List.set_cons_zero,List.set_cons_succ,List.cons_append,List.nil_append,List.length_cons,List.length_nil,Nat.zero_add,Nat.reduceAdd,Nat.add_assoc] at e0
 refine Q2 e0 ?_
 have e1:=Jt (ba:=n) (E:=⟨32,[],Zda 0 [.ref i0 0,.ref i0 2,.sl a2.length (fl Za a2)]⟩) (O:=(Zy ((O.upd j0_0 none).upd i0 (some ⟨false,98,4,1,[.row j0_2 a0.out.length,.val (.int .i64 a0.kept),.row n a0.gone.length,.row j0_1 a0.come.length]⟩)) n [some ⟨true,25,3,a0.gone.length,fl Za a0.gone⟩])) (n:=(n+1)) (i:=i0) (j:=j0_1) (k:=3) (len:=a0.come.length) (q:=⟨false,98,4,1,[.row j0_2 a0.out.length,.val (.int .i64 a0.kept),.row n a0.gone.length,.row j0_1 a0.come.length]⟩) (qj:=⟨true,25,3,a0.come.length,fl Za a0.come⟩) (by rw [Yo _ hi0];first | exact ho0 | exact Yg _ _ _) rfl (by rw [Yo _ Zes,Y3 _ _ (Ne.symm Vs),Y3 _ _ (Ne.symm Vr)];exact Zfz) Vs (by omega)
 simp only [Yv _ _ Zes,Yv _ _ hi0,Y5,Yr,Qg,Ux Vs,List.set_cons_zero,List.set_cons_succ,List.cons_append,List.nil_append,List.length_cons,List.length_nil,Nat.zero_add,Nat.reduceAdd,Nat.add_assoc] at e1
 refine Q2 e1 ?_
 have e2:=Jt (ba:=n) (E:=⟨32,[],Zda 0 [.ref i0 0,.ref i0 2,.sl a2.length (fl Za a2)]⟩) (O:=(Zy (((O.upd j0_0 none).upd j0_1 none).upd i0 (some ⟨false,98,4,1,[.row j0_2 a0.out.length,.val (.int .i64 a0.kept),.row n a0.gone.length,.row (n+1) a0.come.length]⟩)) n [some ⟨true,25,3,a0.gone.length,fl Za a0.gone⟩,some ⟨true,25,3,a0.come.length,fl Za a0.come⟩])) (n:=(n+2)) (i:=i0) (j:=j0_2) (k:=0) (len:=a0.out.length) (q:=⟨false,98,4,1,[.row j0_2 a0.out.length,.val (.int .i64 a0.kept),.row n a0.gone.length,.row (n+1) a0.come.length]⟩) (qj:=⟨true,53,14,a0.out.length,fl Zg a0.out⟩) (by rw [Yo _ hi0];first | exact ho0 | exact Yg _ _ _) rfl (by rw [Yo _ Zgv,Y3 _ _ (Ne.symm Gb),Y3 _ _ (Ne.symm Ga),Y3 _ _ (Ne.symm U9)];exact Zh1) Gb (by omega)
 simp only [Yv _ _ Zgv,Yv _ _ hi0,Y5,Yr,Qg,Ux Gb,List.set_cons_zero,List.set_cons_succ,List.cons_append,List.nil_append,List.length_cons,List.length_nil,Nat.zero_add,Nat.reduceAdd,Nat.add_assoc] at e2
 refine Q2 e2 ?_
 have hU:=(Und.drop (Und.drop (Und.drop hU j0_0) j0_1) j0_2)
 have hk0:∀ k,i0 < n+k:=fun k=>by omega
 have hN0:∀ o,Objs.upd (((O.upd j0_0 none).upd j0_1 none).upd j0_2 none) i0 o n=none:=fun o=>Qd hU hi0 _ (Nat.le_refl _)
 have hN:∀ o k,Objs.upd (((O.upd j0_0 none).upd j0_1 none).upd j0_2 none) i0 o (n+k)=none:=fun o k=>Qd hU hi0 _ (Nat.le_add_right _ _)
 show W _ _ _ _ ⟨32,[],[(0,.ref i0 0),(1,.ref i0 2),(2,(sL Za a2))]⟩ (Zy ((((O.upd j0_0 none).upd j0_1 none).upd j0_2 none).upd i0 (some ⟨false,98,4,1,[.row (n+2) a0.out.length,(vI a0.kept),.row n a0.gone.length,.row (n+1) a0.come.length]⟩)) n [some (oR 25 3 Za a0.gone),some (oR 25 3 Za a0.come),some (oR 53 14 Zg a0.out)]) _
 obtain ⟨z1,hz1,h⟩:=bC h
 refine Xj (E':=⟨32,[],[(1,.ref i0 2),(2,(sL Za a2))]⟩) (O':=(Zy ((((O.upd j0_0 none).upd j0_1 none).upd j0_2 none).upd i0 (some ⟨false,98,4,1,[.row (n+6) z1.1.length,(vI z1.2.2.2),.row (n+7) z1.2.1.length,.row (n+8) z1.2.2.1.length]⟩)) n [none,none,none,none,none,none,some (oR 53 14 Zg z1.1),some (oR 25 3 Za z1.2.1),some (oR 25 3 Za z1.2.2.1)])) (n0:=(n+9)) ?_ ?_
 ·refine Uz [0,1,2,12] hi0 hk0 ?_
  refine Zt (t:=(decide (0 < a0.kept))) rfl (fun c3 => ?_) (fun c3 => ?_)
  ·replace hz1:=Zw c3 hz1
   obtain ⟨y2,hy2,hz1⟩:=bC hz1
   refine V0 [] hi0 hk0 ?_
   refine (Ky (i0:=i0) (j0_0:=n) (j0_1:=(n+1)) (j0_2:=(n+2)) (by omega) (by omega) (by omega) (by omega) (by omega) (by omega) (by omega) (by omega) (by omega) (by omega) (by simp only [push_cast,seval,↓reduceIte,Ze,Y6,hi0,hk0,hN0,hN] <;> rfl) (by simp only [push_cast,seval,↓reduceIte,Ze,Y6,hi0,hk0,hN0,hN] <;> rfl) (by simp only [push_cast,seval,↓reduceIte,Ze,Y6,hi0,hk0,hN0,hN] <;> rfl) (by simp only [push_cast,seval,↓reduceIte,Ze,Y6,hi0,hk0,hN0,hN] <;> rfl) hy2).then ?_
   refine zX2 hi0 hk0 ?_
   have hz1:=Option.some.inj hz1;subst hz1
   refine And.intro rfl ?_
   refine Fit2.trans (E':=(⟨32,[],[(1,.ref i0 2),(2,(sL Za a2))]⟩:Env)) (O':=(Zy ((((O.upd j0_0 none).upd j0_1 none).upd j0_2 none).upd i0 (some ⟨false,98,4,1,[.row (n+5) y2.out.length,(vI y2.kept),.row (n+3) y2.gone.length,.row (n+4) y2.come.length]⟩)) n [none,none,none,some (oR 25 3 Za y2.gone),some (oR 25 3 Za y2.come),some (oR 53 14 Zg y2.out)])) (n':=(n+6)) (Fit2.of (Yb hU rfl rfl ?_) (by omega)) ?_
   ·exact Qo hi0 hk0
   refine X2 (k:=6) (k':=9) hU [5,5,5,7,8,6] [0,0,0,0,0,0,5,3,4] rfl rfl rfl rfl ⟨rfl,rfl⟩ ?_
   exact Qo hi0 hk0
  replace hz1:=Zv c3 hz1
  refine zK ?_
  have hz1:=Option.some.inj hz1;subst hz1
  refine And.intro rfl ?_
  refine Fit2.trans (E':=(⟨32,[],[(1,.ref i0 2),(2,(sL Za a2))]⟩:Env)) (O':=(Zy ((((O.upd j0_0 none).upd j0_1 none).upd j0_2 none).upd i0 (some ⟨false,98,4,1,[.row (n+2) a0.out.length,(vI a0.kept),.row n a0.gone.length,.row (n+1) a0.come.length]⟩)) n [some (oR 25 3 Za a0.gone),some (oR 25 3 Za a0.come),some (oR 53 14 Zg a0.out)])) (n':=(n+3)) (Fit2.of (Yb hU rfl rfl ?_) (by omega)) ?_
  ·exact Qo hi0 hk0
  refine X2 (k:=3) (k':=9) hU [7,8,6] [0,0,0,0,0,0,2,0,1] rfl rfl rfl rfl ⟨rfl,rfl⟩ ?_
  exact Qo hi0 hk0
 refine Uz [1,15,16,17] hi0 hk0 ?_
 refine zD [1,15,16,17] [false,false,false,false,false,false,true,true,true] ?_
 obtain ⟨z11,hz11,h⟩:=bC h
 refine Xe (E':=⟨32,[],[]⟩) (O':=(Zy ((((O.upd j0_0 none).upd j0_1 none).upd j0_2 none).upd i0 (some ⟨false,98,4,1,[.row (n+6) z1.1.length,(vI z1.2.2.2),.row (n+7) z11.length,.row (n+8) z1.2.2.1.length]⟩)) n [none,none,none,none,none,none,some (oR 53 14 Zg z1.1),some (oR 25 3 Za z11),some (oR 25 3 Za z1.2.2.1)])) (n0:=(n+9)) ?_ ?_
 ·refine Xv hz11 (fun s0_=>⟨32,[],[(1,.ref i0 2),(15,(sL Za a2)),(16,(vI (a2.length:Int))),(17,(vI s0_.1))]⟩) (fun s0_=>(Zy ((((O.upd j0_0 none).upd j0_1 none).upd j0_2 none).upd i0 (some ⟨false,98,4,1,[.row (n+6) z1.1.length,(vI z1.2.2.2),.row (n+7) s0_.2.length,.row (n+8) z1.2.2.1.length]⟩)) n [none,none,none,none,none,none,some (oR 53 14 Zg z1.1),some (oR 25 3 Za s0_.2),some (oR 25 3 Za z1.2.2.1)])) (fun z11=>JX 0 n (⟨32,[],[]⟩:Env) (Zy ((((O.upd j0_0 none).upd j0_1 none).upd j0_2 none).upd i0 (some ⟨false,98,4,1,[.row (n+6) z1.1.length,(vI z1.2.2.2),.row (n+7) z11.length,.row (n+8) z1.2.2.1.length]⟩)) n [none,none,none,none,none,none,some (oR 53 14 Zg z1.1),some (oR 25 3 Za z11),some (oR 25 3 Za z1.2.2.1)]) (n+9)) ?_
  intro s0_ x0_ hs0_
  unfold Qm at hs0_
  try dsimp only
  refine Uz [1,15,16,17,18] hi0 hk0 ?_
  refine Zn ?_
  refine Zt (t:=(decide (s0_.1 < (a2.length:Int)))) rfl (fun c10 => ?_) (fun c10 => ?_)
  ·replace hs0_:=Zw c10 hs0_
   refine Ud [1,15,16,17] [false,false,false,false,false,false,true,true,true] ?_
   refine Zn ?_
   refine Yx ?_
   refine Zn ?_
   obtain ⟨x5,hx5,ax5,bx5,cx5,hs0_⟩:=bE (f:=Za) Uk (fun _=>rfl) (by decide) hs0_
   refine Z07 [] ax5 bx5 cx5 hi0 hk0 ?_
   refine zD [1,7,15,16,17] [false,false,false,false,false,false,true,true,true,true] ?_
   obtain ⟨y6,hy6,hs0_⟩:=bC hs0_
   obtain ⟨l7,pl7,ql7,el7,hs0_⟩:=bA (k:=1) rfl hs0_
   obtain ⟨x8,hx8,ax8,bx8,cx8,hs0_⟩:=bE (f:=Za) Uk (fun _=>rfl) (by decide) hs0_
   have gu9:Q4 (fl Za s0_.2++[.val (.int .i64 0),.val (.slice none 0 0),.val (.slice none 0 0)]) [.val (.int .i64 y6.Kind),.sl y6.Words.length (fl (eI .u64) y6.Words),.sl y6.Kids.length (fl Za y6.Kids)] (List.length s0_.2 * 3)=some (fl Za s0_.2++[.val (.int .i64 y6.Kind),.sl y6.Words.length (fl (eI .u64) y6.Words),.sl y6.Kids.length (fl Za y6.Kids)]):=U0 (f:=Za) (sz:=3) (fun _=>rfl) rfl rfl
   refine Qu Z5 (by kernel_rfl) [.plain,.low,.low,.low,.low,.low,.pass,.bar,.shp,.fill true,.shp,.fill false] (fun i=>i < (n+10)) [0,1,2,3,4,5,6,7,8,9,10,11] [.plain,.low,.low,.low,.low,.low,.pass,.bar,.shp,.fill true,.shp,.fill false] [] (by kernel_rfl) rfl ?_
   refine zF9 pl7 ql7 el7 ax8 bx8 cx8 gu9 hi0 hk0 ?_
   refine zO ?_
   first | refine PCallA.of (fun _ _=>Ge hy6) ?_ | refine PCall.of (Ge hy6) ?_
   refine zF9 pl7 ql7 el7 ax8 bx8 cx8 gu9 hi0 hk0 ?_
   refine zO ?_
   refine Zah ⟨32,[],[(1,.ref i0 2),(15,(sL Za a2)),(16,(vI (a2.length:Int))),(17,(vI s0_.1))]⟩ (Zy ((((O.upd j0_0 none).upd j0_1 none).upd j0_2 none).upd i0 (some ⟨false,98,4,1,[.row (n+6) z1.1.length,(vI z1.2.2.2),.row (n+7) (s0_.2++[y6]).length,.row (n+8) z1.2.2.1.length]⟩)) n [none,none,none,none,none,none,some (oR 53 14 Zg z1.1),some (oR 25 3 Za (s0_.2++[y6])),some (oR 25 3 Za z1.2.2.1),none,none]) (Yb hU rfl rfl ?_) ?_
   ·exact Zv6 pl7 ql7 el7 ax8 bx8 cx8 gu9 hi0 hk0
   refine V0 [] hi0 hk0 ?_
   have hs0_:=Option.some.inj hs0_;subst hs0_
   refine And.intro rfl (Fit2.of (Yb hU rfl rfl ?_) (by omega))
   exact Qo hi0 hk0
  replace hs0_:=Zv c10 hs0_
  refine zXt ?_
  have hs0_:=Option.some.inj hs0_;subst hs0_
  refine And.intro (fun h=>by cases h) (And.intro rfl (Fit2.of (Yb hU rfl rfl ?_) (by omega)))
  exact Qo hi0 hk0
 try simp only [Xh,Yw,↓reduceIte,Nat.reduceEqDiff]
 have h:=Option.some.inj h;subst h
 refine Qz (k:=3) (i:=i0) (q1:=⟨false,98,4,1,[.row (n+2) z1.1.length,(vI z1.2.2.2),.row n z11.length,.row (n+1) z1.2.2.1.length]⟩) (L3:=[some (oR 25 3 Za z11),some (oR 25 3 Za z1.2.2.1),some (oR 53 14 Zg z1.1),none]) (E2:=(⟨32,[],[]⟩:Env)) (n3:=(n+4)) (.inl rfl) hU rfl [] ?_ ?_
 ·refine Fit2.trans (E':=(⟨32,[],[]⟩:Env)) (O':=(Zy ((((O.upd j0_0 none).upd j0_1 none).upd j0_2 none).upd i0 (some ⟨false,98,4,1,[.row (n+6) z1.1.length,(vI z1.2.2.2),.row (n+7) z11.length,.row (n+8) z1.2.2.1.length]⟩)) n [none,none,none,none,none,none,some (oR 53 14 Zg z1.1),some (oR 25 3 Za z11),some (oR 25 3 Za z1.2.2.1)])) (n':=(n+9)) (Fit2.of (Yb hU rfl rfl ?_) (by omega)) ?_
  ·exact Qo hi0 hk0
  refine X2 (k:=9) (k':=4) hU [3,3,3,3,3,3,2,0,1] [7,8,6,0] rfl rfl rfl rfl ⟨rfl,rfl⟩ ?_
  exact Qo hi0 hk0
 simp only [push_cast,seval,↓reduceIte,Ze,Try.results86,hi0,hk0,hN0,hN]
theorem Zgr {a0:Zu} {a2:(List Zb)} {r:Zu} {O:Objs} {n:Nat} {i0 j0_0 j0_1 j0_2:Nat} (hi0:i0 < n) (Vl:j0_0 < n) (Zes:j0_1 < n) (Zgv:j0_2 < n) (Jb:i0≠j0_0) (Vs:i0≠j0_1) (Gb:i0≠j0_2) (Vr:j0_0≠j0_1) (U9:j0_0≠j0_2) (Ga:j0_1≠j0_2) (ho0:O i0=some ⟨false,98,4,1,[.row j0_2 a0.out.length,(vI a0.kept),.row j0_0 a0.gone.length,.row j0_1 a0.come.length]⟩) (Vt:O j0_0=some (oR 25 3 Za a0.gone)) (Zfz:O j0_1=some (oR 25 3 Za a0.come)) (Zh1:O j0_2=some (oR 53 14 Zg a0.out)) (h:Jd a0 a2=some r):GTo Try.prog 86 [.ref i0 0,.ref i0 3,(sL Za a2)] O n (.tup []) (Zy ((((O.upd j0_0 none).upd j0_1 none).upd j0_2 none).upd i0 (some ⟨false,98,4,1,[.row (n+2) r.out.length,(vI r.kept),.row n r.gone.length,.row (n+1) r.come.length]⟩)) n [some (oR 25 3 Za r.gone),some (oR 25 3 Za r.come),some (oR 53 14 Zg r.out)]) (n+3):=by
 unfold Jd at h
 refine Zii Z5 Try.call86 Try.func86 rfl (Nat.le_of_ble_eq_true rfl) (by omega) fun hU => ?_
 have e0:=Jt (ba:=n) (E:=⟨32,[],Zda 0 [.ref i0 0,.ref i0 3,.sl a2.length (fl Za a2)]⟩) (O:=(Zy O n [])) (n:=n) (i:=i0) (j:=j0_0) (k:=2) (len:=a0.gone.length) (q:=⟨false,98,4,1,[.row j0_2 a0.out.length,.val (.int .i64 a0.kept),.row j0_0 a0.gone.length,.row j0_1 a0.come.length]⟩) (qj:=⟨true,25,3,a0.gone.length,fl Za a0.gone⟩) (by rw [Yo _ hi0];first | exact ho0 | exact Yg _ _ _) rfl (by rw [Yo _ Vl];exact Vt) Jb (by omega)
 simp only [Yv _ _ Vl,Yv _ _ hi0,Y5,Yr,Qg,Ux Jb,List.set_cons_zero,List.set_cons_succ,List.cons_append,List.nil_append,List.length_cons,List.length_nil,Nat.zero_add,Nat.reduceAdd,Nat.add_assoc] at e0
 refine Q2 e0 ?_
 have e1:=Jt (ba:=n) (E:=⟨32,[],Zda 0 [.ref i0 0,.ref i0 3,.sl a2.length (fl Za a2)]⟩) (O:=(Zy ((O.upd j0_0 none).upd i0 (some ⟨false,98,4,1,[.row j0_2 a0.out.length,.val (.int .i64 a0.kept),.row n a0.gone.length,.row j0_1 a0.come.length]⟩)) n [some ⟨true,25,3,a0.gone.length,fl Za a0.gone⟩])) (n:=(n+1)) (i:=i0) (j:=j0_1) (k:=3) (len:=a0.come.length) (q:=⟨false,98,4,1,[.row j0_2 a0.out.length,.val (.int .i64 a0.kept),.row n a0.gone.length,.row j0_1 a0.come.length]⟩) (qj:=⟨true,25,3,a0.come.length,fl Za a0.come⟩) (by rw [Yo _ hi0];first | exact ho0 | exact Yg _ _ _) rfl (by rw [Yo _ Zes,Y3 _ _ (Ne.symm Vs),Y3 _ _ (Ne.symm Vr)];exact Zfz) Vs (by omega)
 simp only [Yv _ _ Zes,Yv _ _ hi0,Y5,Yr,Qg,Ux Vs,List.set_cons_zero,List.set_cons_succ,List.cons_append,List.nil_append,List.length_cons,List.length_nil,Nat.zero_add,Nat.reduceAdd,Nat.add_assoc] at e1
 refine Q2 e1 ?_
 have e2:=Jt (ba:=n) (E:=⟨32,[],Zda 0 [.ref i0 0,.ref i0 3,.sl a2.length (fl Za a2)]⟩) (O:=(Zy (((O.upd j0_0 none).upd j0_1 none).upd i0 (some ⟨false,98,4,1,[.row j0_2 a0.out.length,.val (.int .i64 a0.kept),.row n a0.gone.length,.row (n+1) a0.come.length]⟩)) n [some ⟨true,25,3,a0.gone.length,fl Za a0.gone⟩,some ⟨true,25,3,a0.come.length,fl Za a0.come⟩])) (n:=(n+2)) (i:=i0) (j:=j0_2) (k:=0) (len:=a0.out.length) (q:=⟨false,98,4,1,[.row j0_2 a0.out.length,.val (.int .i64 a0.kept),.row n a0.gone.length,.row (n+1) a0.come.length]⟩) (qj:=⟨true,53,14,a0.out.length,fl Zg a0.out⟩) (by rw [Yo _ hi0];first | exact ho0 | exact Yg _ _ _) rfl (by rw [Yo _ Zgv,Y3 _ _ (Ne.symm Gb),Y3 _ _ (Ne.symm Ga),Y3 _ _ (Ne.symm U9)];exact Zh1) Gb (by omega)
 simp only [Yv _ _ Zgv,Yv _ _ hi0,Y5,Yr,Qg,Ux Gb,List.set_cons_zero,List.set_cons_succ,List.cons_append,List.nil_append,List.length_cons,List.length_nil,Nat.zero_add,Nat.reduceAdd,Nat.add_assoc] at e2
 refine Q2 e2 ?_
 have hU:=(Und.drop (Und.drop (Und.drop hU j0_0) j0_1) j0_2)
 have hk0:∀ k,i0 < n+k:=fun k=>by omega
 have hN0:∀ o,Objs.upd (((O.upd j0_0 none).upd j0_1 none).upd j0_2 none) i0 o n=none:=fun o=>Qd hU hi0 _ (Nat.le_refl _)
 have hN:∀ o k,Objs.upd (((O.upd j0_0 none).upd j0_1 none).upd j0_2 none) i0 o (n+k)=none:=fun o k=>Qd hU hi0 _ (Nat.le_add_right _ _)
 show W _ _ _ _ ⟨32,[],[(0,.ref i0 0),(1,.ref i0 3),(2,(sL Za a2))]⟩ (Zy ((((O.upd j0_0 none).upd j0_1 none).upd j0_2 none).upd i0 (some ⟨false,98,4,1,[.row (n+2) a0.out.length,(vI a0.kept),.row n a0.gone.length,.row (n+1) a0.come.length]⟩)) n [some (oR 25 3 Za a0.gone),some (oR 25 3 Za a0.come),some (oR 53 14 Zg a0.out)]) _
 obtain ⟨z1,hz1,h⟩:=bC h
 refine Xj (E':=⟨32,[],[(1,.ref i0 3),(2,(sL Za a2))]⟩) (O':=(Zy ((((O.upd j0_0 none).upd j0_1 none).upd j0_2 none).upd i0 (some ⟨false,98,4,1,[.row (n+6) z1.1.length,(vI z1.2.2.2),.row (n+7) z1.2.1.length,.row (n+8) z1.2.2.1.length]⟩)) n [none,none,none,none,none,none,some (oR 53 14 Zg z1.1),some (oR 25 3 Za z1.2.1),some (oR 25 3 Za z1.2.2.1)])) (n0:=(n+9)) ?_ ?_
 ·refine Uz [0,1,2,12] hi0 hk0 ?_
  refine Zt (t:=(decide (0 < a0.kept))) rfl (fun c3 => ?_) (fun c3 => ?_)
  ·replace hz1:=Zw c3 hz1
   obtain ⟨y2,hy2,hz1⟩:=bC hz1
   refine V0 [] hi0 hk0 ?_
   refine (Ky (i0:=i0) (j0_0:=n) (j0_1:=(n+1)) (j0_2:=(n+2)) (by omega) (by omega) (by omega) (by omega) (by omega) (by omega) (by omega) (by omega) (by omega) (by omega) (by simp only [push_cast,seval,↓reduceIte,Ze,Y6,hi0,hk0,hN0,hN] <;> rfl) (by simp only [push_cast,seval,↓reduceIte,Ze,Y6,hi0,hk0,hN0,hN] <;> rfl) (by simp only [push_cast,seval,↓reduceIte,Ze,Y6,hi0,hk0,hN0,hN] <;> rfl) (by simp only [push_cast,seval,↓reduceIte,Ze,Y6,hi0,hk0,hN0,hN] <;> rfl) hy2).then ?_
   refine zX2 hi0 hk0 ?_
   have hz1:=Option.some.inj hz1;subst hz1
   refine And.intro rfl ?_
   refine Fit2.trans (E':=(⟨32,[],[(1,.ref i0 3),(2,(sL Za a2))]⟩:Env)) (O':=(Zy ((((O.upd j0_0 none).upd j0_1 none).upd j0_2 none).upd i0 (some ⟨false,98,4,1,[.row (n+5) y2.out.length,(vI y2.kept),.row (n+3) y2.gone.length,.row (n+4) y2.come.length]⟩)) n [none,none,none,some (oR 25 3 Za y2.gone),some (oR 25 3 Za y2.come),some (oR 53 14 Zg y2.out)])) (n':=(n+6)) (Fit2.of (Yb hU rfl rfl ?_) (by omega)) ?_
   ·exact Qo hi0 hk0
   refine X2 (k:=6) (k':=9) hU [5,5,5,7,8,6] [0,0,0,0,0,0,5,3,4] rfl rfl rfl rfl ⟨rfl,rfl⟩ ?_
   exact Qo hi0 hk0
  replace hz1:=Zv c3 hz1
  refine zK ?_
  have hz1:=Option.some.inj hz1;subst hz1
  refine And.intro rfl ?_
  refine Fit2.trans (E':=(⟨32,[],[(1,.ref i0 3),(2,(sL Za a2))]⟩:Env)) (O':=(Zy ((((O.upd j0_0 none).upd j0_1 none).upd j0_2 none).upd i0 (some ⟨false,98,4,1,[.row (n+2) a0.out.length,(vI a0.kept),.row n a0.gone.length,.row (n+1) a0.come.length]⟩)) n [some (oR 25 3 Za a0.gone),some (oR 25 3 Za a0.come),some (oR 53 14 Zg a0.out)])) (n':=(n+3)) (Fit2.of (Yb hU rfl rfl ?_) (by omega)) ?_
  ·exact Qo hi0 hk0
  refine X2 (k:=3) (k':=9) hU [7,8,6] [0,0,0,0,0,0,2,0,1] rfl rfl rfl rfl ⟨rfl,rfl⟩ ?_
  exact Qo hi0 hk0
 refine Uz [1,15,16,17] hi0 hk0 ?_
 refine zD [1,15,16,17] [false,false,false,false,false,false,true,true,true] ?_
 obtain ⟨z11,hz11,h⟩:=bC h
 refine Xe (E':=⟨32,[],[]⟩) (O':=(Zy ((((O.upd j0_0 none).upd j0_1 none).upd j0_2 none).upd i0 (some ⟨false,98,4,1,[.row (n+6) z1.1.length,(vI z1.2.2.2),.row (n+7) z1.2.1.length,.row (n+8) z11.length]⟩)) n [none,none,none,none,none,none,some (oR 53 14 Zg z1.1),some (oR 25 3 Za z1.2.1),some (oR 25 3 Za z11)])) (n0:=(n+9)) ?_ ?_
 ·refine Xv hz11 (fun s0_=>⟨32,[],[(1,.ref i0 3),(15,(sL Za a2)),(16,(vI (a2.length:Int))),(17,(vI s0_.1))]⟩) (fun s0_=>(Zy ((((O.upd j0_0 none).upd j0_1 none).upd j0_2 none).upd i0 (some ⟨false,98,4,1,[.row (n+6) z1.1.length,(vI z1.2.2.2),.row (n+7) z1.2.1.length,.row (n+8) s0_.2.length]⟩)) n [none,none,none,none,none,none,some (oR 53 14 Zg z1.1),some (oR 25 3 Za z1.2.1),some (oR 25 3 Za s0_.2)])) (fun z11=>JX 0 n (⟨32,[],[]⟩:Env) (Zy ((((O.upd j0_0 none).upd j0_1 none).upd j0_2 none).upd i0 (some ⟨false,98,4,1,[.row (n+6) z1.1.length,(vI z1.2.2.2),.row (n+7) z1.2.1.length,.row (n+8) z11.length]⟩)) n [none,none,none,none,none,none,some (oR 53 14 Zg z1.1),some (oR 25 3 Za z1.2.1),some (oR 25 3 Za z11)]) (n+9)) ?_
  intro s0_ x0_ hs0_
  unfold Qn at hs0_
  try dsimp only
  refine Uz [1,15,16,17,18] hi0 hk0 ?_
  refine Zn ?_
  refine Zt (t:=(decide (s0_.1 < (a2.length:Int)))) rfl (fun c10 => ?_) (fun c10 => ?_)
  ·replace hs0_:=Zw c10 hs0_
   refine Ud [1,15,16,17] [false,false,false,false,false,false,true,true,true] ?_
   refine Zn ?_
   refine Yx ?_
   refine Zn ?_
   obtain ⟨x5,hx5,ax5,bx5,cx5,hs0_⟩:=bE (f:=Za) Uk (fun _=>rfl) (by decide) hs0_
   refine Z07 [] ax5 bx5 cx5 hi0 hk0 ?_
   refine zD [1,7,15,16,17] [false,false,false,false,false,false,true,true,true,true] ?_
   obtain ⟨y6,hy6,hs0_⟩:=bC hs0_
   obtain ⟨l7,pl7,ql7,el7,hs0_⟩:=bA (k:=1) rfl hs0_
   obtain ⟨x8,hx8,ax8,bx8,cx8,hs0_⟩:=bE (f:=Za) Uk (fun _=>rfl) (by decide) hs0_
   have gu9:Q4 (fl Za s0_.2++[.val (.int .i64 0),.val (.slice none 0 0),.val (.slice none 0 0)]) [.val (.int .i64 y6.Kind),.sl y6.Words.length (fl (eI .u64) y6.Words),.sl y6.Kids.length (fl Za y6.Kids)] (List.length s0_.2 * 3)=some (fl Za s0_.2++[.val (.int .i64 y6.Kind),.sl y6.Words.length (fl (eI .u64) y6.Words),.sl y6.Kids.length (fl Za y6.Kids)]):=U0 (f:=Za) (sz:=3) (fun _=>rfl) rfl rfl
   refine Qu Z5 (by kernel_rfl) [.plain,.low,.low,.low,.low,.low,.pass,.bar,.shp,.fill true,.shp,.fill false] (fun i=>i < (n+10)) [0,1,2,3,4,5,6,7,8,9,10,11] [.plain,.low,.low,.low,.low,.low,.pass,.bar,.shp,.fill true,.shp,.fill false] [] (by kernel_rfl) rfl ?_
   refine zF9 pl7 ql7 el7 ax8 bx8 cx8 gu9 hi0 hk0 ?_
   refine zO ?_
   first | refine PCallA.of (fun _ _=>Ge hy6) ?_ | refine PCall.of (Ge hy6) ?_
   refine zF9 pl7 ql7 el7 ax8 bx8 cx8 gu9 hi0 hk0 ?_
   refine zO ?_
   refine Zah ⟨32,[],[(1,.ref i0 3),(15,(sL Za a2)),(16,(vI (a2.length:Int))),(17,(vI s0_.1))]⟩ (Zy ((((O.upd j0_0 none).upd j0_1 none).upd j0_2 none).upd i0 (some ⟨false,98,4,1,[.row (n+6) z1.1.length,(vI z1.2.2.2),.row (n+7) z1.2.1.length,.row (n+8) (s0_.2++[y6]).length]⟩)) n [none,none,none,none,none,none,some (oR 53 14 Zg z1.1),some (oR 25 3 Za z1.2.1),some (oR 25 3 Za (s0_.2++[y6])),none,none]) (Yb hU rfl rfl ?_) ?_
   ·exact Zv6 pl7 ql7 el7 ax8 bx8 cx8 gu9 hi0 hk0
   refine V0 [] hi0 hk0 ?_
   have hs0_:=Option.some.inj hs0_;subst hs0_
   refine And.intro rfl (Fit2.of (Yb hU rfl rfl ?_) (by omega))
   exact Qo hi0 hk0
  replace hs0_:=Zv c10 hs0_
  refine zXt ?_
  have hs0_:=Option.some.inj hs0_;subst hs0_
  refine And.intro (fun h=>by cases h) (And.intro rfl (Fit2.of (Yb hU rfl rfl ?_) (by omega)))
  exact Qo hi0 hk0
 try simp only [Xh,Yw,↓reduceIte,Nat.reduceEqDiff]
 have h:=Option.some.inj h;subst h
 refine Qz (k:=3) (i:=i0) (q1:=⟨false,98,4,1,[.row (n+2) z1.1.length,(vI z1.2.2.2),.row n z1.2.1.length,.row (n+1) z11.length]⟩) (L3:=[some (oR 25 3 Za z1.2.1),some (oR 25 3 Za z11),some (oR 53 14 Zg z1.1),none]) (E2:=(⟨32,[],[]⟩:Env)) (n3:=(n+4)) (.inl rfl) hU rfl [] ?_ ?_
 ·refine Fit2.trans (E':=(⟨32,[],[]⟩:Env)) (O':=(Zy ((((O.upd j0_0 none).upd j0_1 none).upd j0_2 none).upd i0 (some ⟨false,98,4,1,[.row (n+6) z1.1.length,(vI z1.2.2.2),.row (n+7) z1.2.1.length,.row (n+8) z11.length]⟩)) n [none,none,none,none,none,none,some (oR 53 14 Zg z1.1),some (oR 25 3 Za z1.2.1),some (oR 25 3 Za z11)])) (n':=(n+9)) (Fit2.of (Yb hU rfl rfl ?_) (by omega)) ?_
  ·exact Qo hi0 hk0
  refine X2 (k:=9) (k':=4) hU [3,3,3,3,3,3,2,0,1] [7,8,6,0] rfl rfl rfl rfl ⟨rfl,rfl⟩ ?_
  exact Qo hi0 hk0
 simp only [push_cast,seval,↓reduceIte,Ze,Try.results86,hi0,hk0,hN0,hN]
theorem Zqh {a0:Int} {a1:Zc} {r:Bool} {O:Objs} {n:Nat} (h:Zch a0 a1=some r):GTo Try.prog 119 [(vI a0),.agg (Zk a1)] O n ((vB r)) O n:=by
 unfold Zch at h
 refine zFn Try.call119 Try.func119 fun hU hN0 hN => ?_
 show W _ _ _ _ ⟨27,[],[(0,(vI a0)),(1,.agg (Zk a1))]⟩ (Zy O n []) _
 refine zQ [0,3] ?_
 refine zQD [4] [none,none,none,none,none,none,none,none,none,none,none,none,none,none,none,none,none] ?_
 exact Xg [(vB (cond (a1.Kind == 0) true (cond (cond (a0 == 9) (a1.Kind == 2) false) ((IntKind.i64.wrap ((a1.Words.length:Int)+(a1.Kids.length:Int))) == 0) false)))]
theorem Zg4 {a0:Zu} {a1:Int} {a2:Zc} {r:Zu} {O:Objs} {n:Nat} {i0 j0_0 j0_1 j0_2:Nat} (hi0:i0 < n) (Vl:j0_0 < n) (Zes:j0_1 < n) (Zgv:j0_2 < n) (Jb:i0≠j0_0) (Vs:i0≠j0_1) (Gb:i0≠j0_2) (Vr:j0_0≠j0_1) (U9:j0_0≠j0_2) (Ga:j0_1≠j0_2) (ho0:O i0=some ⟨false,98,4,1,[.row j0_2 a0.out.length,(vI a0.kept),.row j0_0 a0.gone.length,.row j0_1 a0.come.length]⟩) (Vt:O j0_0=some (oR 25 3 Za a0.gone)) (Zfz:O j0_1=some (oR 25 3 Za a0.come)) (Zh1:O j0_2=some (oR 53 14 Zg a0.out)) (h:Jp a0 a1 a2=some r):GTo Try.prog 87 [.ref i0 0,(vI a1),.agg (Zk a2)] O n (.tup []) (Zy ((((O.upd j0_0 none).upd j0_1 none).upd j0_2 none).upd i0 (some ⟨false,98,4,1,[.row (n+2) r.out.length,(vI r.kept),.row n r.gone.length,.row (n+1) r.come.length]⟩)) n [some (oR 25 3 Za r.gone),some (oR 25 3 Za r.come),some (oR 53 14 Zg r.out)]) (n+3):=by
 unfold Jp at h
 refine Zii Z5 Try.call87 Try.func87 rfl (Nat.le_of_ble_eq_true rfl) (by omega) fun hU => ?_
 have e0:=Jt (ba:=n) (E:=⟨25,[],Zda 0 [.ref i0 0,.val (.int .i64 a1),.agg [.val (.int .i64 a2.Kind),.val (.int .i64 a2.Old.Kind),.sl a2.Old.Words.length (fl (eI .u64) a2.Old.Words),.sl a2.Old.Kids.length (fl Za a2.Old.Kids),.val (.int .i64 a2.New.Kind),.sl a2.New.Words.length (fl (eI .u64) a2.New.Words),.sl a2.New.Kids.length (fl Za a2.New.Kids),.sl a2.Words.length (fl Zf a2.Words),.sl a2.Kids.length (fl Zi a2.Kids),.val (.int .i64 a2.List_),.sl a2.Ops.length (fl Zg a2.Ops)]]⟩) (O:=(Zy O n [])) (n:=n) (i:=i0) (j:=j0_0) (k:=2) (len:=a0.gone.length) (q:=⟨false,98,4,1,[.row j0_2 a0.out.length,.val (.int .i64 a0.kept),.row j0_0 a0.gone.length,.row j0_1 a0.come.length]⟩) (qj:=⟨true,25,3,a0.gone.length,fl Za a0.gone⟩) (by rw [Yo _ hi0];first | exact ho0 | exact Yg _ _ _) rfl (by rw [Yo _ Vl];exact Vt) Jb (by omega)
 simp only [Yv _ _ Vl,Yv _ _ hi0,Y5,Yr,Qg,Ux Jb,List.set_cons_zero,List.set_cons_succ,List.cons_append,List.nil_append,List.length_cons,List.length_nil,Nat.zero_add,Nat.reduceAdd,Nat.add_assoc] at e0
 refine Q2 e0 ?_
 have e1:=Jt (ba:=n) (E:=⟨25,[],Zda 0 [.ref i0 0,.val (.int .i64 a1),.agg [.val (.int .i64 a2.Kind),.val (.int .i64 a2.Old.Kind),.sl a2.Old.Words.length (fl (eI .u64) a2.Old.Words),.sl a2.Old.Kids.length (fl Za a2.Old.Kids),.val (.int .i64 a2.New.Kind),.sl a2.New.Words.length (fl (eI .u64) a2.New.Words),.sl a2.New.Kids.length (fl Za a2.New.Kids),.sl a2.Words.length (fl Zf a2.Words),.sl a2.Kids.length (fl Zi a2.Kids),.val (.int .i64 a2.List_),.sl a2.Ops.length (fl Zg a2.Ops)]]⟩) (O:=(Zy ((O.upd j0_0 none).upd i0 (some ⟨false,98,4,1,[.row j0_2 a0.out.length,.val (.int .i64 a0.kept),.row n a0.gone.length,.row j0_1 a0.come.length]⟩)) n [some ⟨true,25,3,a0.gone.length,fl Za a0.gone⟩])) (n:=(n+1)) (i:=i0) (j:=j0_1) (k:=3) (len:=a0.come.length) (q:=⟨false,98,4,1,[.row j0_2 a0.out.length,.val (.int .i64 a0.kept),.row n a0.gone.length,.row j0_1 a0.come.length]⟩) (qj:=⟨true,25,3,a0.come.length,fl Za a0.come⟩) (by rw [Yo _ hi0];first | exact ho0 | exact Yg _ _ _) rfl (by rw [Yo _ Zes,Y3 _ _ (Ne.symm Vs),Y3 _ _ (Ne.symm Vr)];exact Zfz) Vs (by omega)
 simp only [Yv _ _ Zes,Yv _ _ hi0,Y5,Yr,Qg,Ux Vs,List.set_cons_zero,List.set_cons_succ,List.cons_append,List.nil_append,List.length_cons,List.length_nil,Nat.zero_add,Nat.reduceAdd,Nat.add_assoc] at e1
 refine Q2 e1 ?_
 have e2:=Jt (ba:=n) (E:=⟨25,[],Zda 0 [.ref i0 0,.val (.int .i64 a1),.agg [.val (.int .i64 a2.Kind),.val (.int .i64 a2.Old.Kind),.sl a2.Old.Words.length (fl (eI .u64) a2.Old.Words),.sl a2.Old.Kids.length (fl Za a2.Old.Kids),.val (.int .i64 a2.New.Kind),.sl a2.New.Words.length (fl (eI .u64) a2.New.Words),.sl a2.New.Kids.length (fl Za a2.New.Kids),.sl a2.Words.length (fl Zf a2.Words),.sl a2.Kids.length (fl Zi a2.Kids),.val (.int .i64 a2.List_),.sl a2.Ops.length (fl Zg a2.Ops)]]⟩) (O:=(Zy (((O.upd j0_0 none).upd j0_1 none).upd i0 (some ⟨false,98,4,1,[.row j0_2 a0.out.length,.val (.int .i64 a0.kept),.row n a0.gone.length,.row (n+1) a0.come.length]⟩)) n [some ⟨true,25,3,a0.gone.length,fl Za a0.gone⟩,some ⟨true,25,3,a0.come.length,fl Za a0.come⟩])) (n:=(n+2)) (i:=i0) (j:=j0_2) (k:=0) (len:=a0.out.length) (q:=⟨false,98,4,1,[.row j0_2 a0.out.length,.val (.int .i64 a0.kept),.row n a0.gone.length,.row (n+1) a0.come.length]⟩) (qj:=⟨true,53,14,a0.out.length,fl Zg a0.out⟩) (by rw [Yo _ hi0];first | exact ho0 | exact Yg _ _ _) rfl (by rw [Yo _ Zgv,Y3 _ _ (Ne.symm Gb),Y3 _ _ (Ne.symm Ga),Y3 _ _ (Ne.symm U9)];exact Zh1) Gb (by omega)
 simp only [Yv _ _ Zgv,Yv _ _ hi0,Y5,Yr,Qg,Ux Gb,List.set_cons_zero,List.set_cons_succ,List.cons_append,List.nil_append,List.length_cons,List.length_nil,Nat.zero_add,Nat.reduceAdd,Nat.add_assoc] at e2
 refine Q2 e2 ?_
 have hU:=(Und.drop (Und.drop (Und.drop hU j0_0) j0_1) j0_2)
 have hk0:∀ k,i0 < n+k:=fun k=>by omega
 have hN0:∀ o,Objs.upd (((O.upd j0_0 none).upd j0_1 none).upd j0_2 none) i0 o n=none:=fun o=>Qd hU hi0 _ (Nat.le_refl _)
 have hN:∀ o k,Objs.upd (((O.upd j0_0 none).upd j0_1 none).upd j0_2 none) i0 o (n+k)=none:=fun o k=>Qd hU hi0 _ (Nat.le_add_right _ _)
 show W _ _ _ _ ⟨25,[],[(0,.ref i0 0),(1,(vI a1)),(2,.agg (Zk a2))]⟩ (Zy ((((O.upd j0_0 none).upd j0_1 none).upd j0_2 none).upd i0 (some ⟨false,98,4,1,[.row (n+2) a0.out.length,(vI a0.kept),.row n a0.gone.length,.row (n+1) a0.come.length]⟩)) n [some (oR 25 3 Za a0.gone),some (oR 25 3 Za a0.come),some (oR 53 14 Zg a0.out)]) _
 refine Uz [0,1,5] hi0 hk0 ?_
 refine Zn ?_
 refine Zn ?_
 obtain ⟨y2,hy2,h⟩:=bC h
 refine V0 [] hi0 hk0 ?_
 refine (Zqh hy2).then ?_
 refine zX2 hi0 hk0 ?_
 refine zD [0,5,8] [true,true,true,true] ?_
 refine Zt (t:=y2) rfl (fun c10 => ?_) (fun c10 => ?_)
 ·replace h:=Zw c10 h
  refine Zn ?_
  obtain ⟨y4,hy4,h⟩:=bC h
  refine V0 [] hi0 hk0 ?_
  refine (Zdv (i0:=i0) (j0_0:=n) (j0_1:=(n+1)) (j0_2:=(n+2)) (by omega) (by omega) (by omega) (by omega) (by omega) (by omega) (by omega) (by omega) (by omega) (by omega) (by simp only [push_cast,seval,↓reduceIte,Ze,Y6,hi0,hk0,hN0,hN] <;> rfl) (by simp only [push_cast,seval,↓reduceIte,Ze,Y6,hi0,hk0,hN0,hN] <;> rfl) (by simp only [push_cast,seval,↓reduceIte,Ze,Y6,hi0,hk0,hN0,hN] <;> rfl) (by simp only [push_cast,seval,↓reduceIte,Ze,Y6,hi0,hk0,hN0,hN] <;> rfl) hy4).then ?_
  refine zX2 hi0 hk0 ?_
  refine zD [] [false,false,false,false,true,true,true] ?_
  refine zW ?_
  have h:=Option.some.inj h;subst h
  refine Qz (k:=3) (i:=i0) (q1:=⟨false,98,4,1,[.row (n+2) y4.out.length,(vI y4.kept),.row n y4.gone.length,.row (n+1) y4.come.length]⟩) (L3:=[some (oR 25 3 Za y4.gone),some (oR 25 3 Za y4.come),some (oR 53 14 Zg y4.out),none]) (E2:=(⟨25,[],[]⟩:Env)) (n3:=(n+4)) (.inr rfl) hU rfl [] ?_ ?_
  ·refine Fit2.trans (E':=(⟨25,[],[]⟩:Env)) (O':=(Zy ((((O.upd j0_0 none).upd j0_1 none).upd j0_2 none).upd i0 (some ⟨false,98,4,1,[.row (n+6) y4.out.length,(vI y4.kept),.row (n+4) y4.gone.length,.row (n+5) y4.come.length]⟩)) n [none,none,none,none,some (oR 25 3 Za y4.gone),some (oR 25 3 Za y4.come),some (oR 53 14 Zg y4.out)])) (n':=(n+7)) (Fit2.of (Yb hU rfl rfl ?_) (by omega)) ?_
   ·exact Qo hi0 hk0
   refine X2 (k:=7) (k':=4) hU [3,3,3,3,0,1,2] [4,5,6,0] rfl rfl rfl rfl ⟨rfl,rfl⟩ ?_
   exact Qo hi0 hk0
  simp only [push_cast,seval,↓reduceIte,Ze,Try.results87,hi0,hk0,hN0,hN]
 replace h:=Zv c10 h
 refine Ud [0,5] [true,true,true,true] ?_
 refine Zn ?_
 obtain ⟨y6,hy6,h⟩:=bC h
 refine V0 [] hi0 hk0 ?_
 refine (Ky (i0:=i0) (j0_0:=n) (j0_1:=(n+1)) (j0_2:=(n+2)) (by omega) (by omega) (by omega) (by omega) (by omega) (by omega) (by omega) (by omega) (by omega) (by omega) (by simp only [push_cast,seval,↓reduceIte,Ze,Y6,hi0,hk0,hN0,hN] <;> rfl) (by simp only [push_cast,seval,↓reduceIte,Ze,Y6,hi0,hk0,hN0,hN] <;> rfl) (by simp only [push_cast,seval,↓reduceIte,Ze,Y6,hi0,hk0,hN0,hN] <;> rfl) (by simp only [push_cast,seval,↓reduceIte,Ze,Y6,hi0,hk0,hN0,hN] <;> rfl) hy6).then ?_
 refine zX2 hi0 hk0 ?_
 refine zD [0,5] [false,false,false,true,true,true,true] ?_
 obtain ⟨l7,pl7,ql7,el7,h⟩:=bA (k:=1) rfl h
 obtain ⟨x8,hx8,ax8,bx8,cx8,h⟩:=bE (f:=Zg) Ze2 (fun _=>rfl) (by decide) h
 have gu9:Q4 (fl Zg y6.out++[.val (.int .i64 0),.val (.int .i64 0),.val (.slice none 0 0),.val (.int .i64 0),.val (.int .i64 0),.val (.slice none 0 0),.val (.slice none 0 0),.val (.int .i64 0),.val (.slice none 0 0),.val (.slice none 0 0),.val (.slice none 0 0),.val (.slice none 0 0),.val (.int .i64 0),.val (.slice none 0 0)]) [.val (.int .i64 3),.val (.int .i64 0),.val (.slice none 0 0),.val (.int .i64 a2.Kind),.val (.int .i64 a2.Old.Kind),.sl a2.Old.Words.length (fl (eI .u64) a2.Old.Words),.sl a2.Old.Kids.length (fl Za a2.Old.Kids),.val (.int .i64 a2.New.Kind),.sl a2.New.Words.length (fl (eI .u64) a2.New.Words),.sl a2.New.Kids.length (fl Za a2.New.Kids),.sl a2.Words.length (fl Zf a2.Words),.sl a2.Kids.length (fl Zi a2.Kids),.val (.int .i64 a2.List_),.sl a2.Ops.length (fl Zg a2.Ops)] (List.length y6.out * 14)=some (fl Zg y6.out++[.val (.int .i64 3),.val (.int .i64 0),.val (.slice none 0 0),.val (.int .i64 a2.Kind),.val (.int .i64 a2.Old.Kind),.sl a2.Old.Words.length (fl (eI .u64) a2.Old.Words),.sl a2.Old.Kids.length (fl Za a2.Old.Kids),.val (.int .i64 a2.New.Kind),.sl a2.New.Words.length (fl (eI .u64) a2.New.Words),.sl a2.New.Kids.length (fl Za a2.New.Kids),.sl a2.Words.length (fl Zf a2.Words),.sl a2.Kids.length (fl Zi a2.Kids),.val (.int .i64 a2.List_),.sl a2.Ops.length (fl Zg a2.Ops)]):=U0 (f:=Zg) (sz:=14) (fun _=>rfl) rfl rfl
 refine Qu Z5 (by kernel_rfl) [.plain,.low,.low,.low,.low,.plain,.low,.pass,.bar,.shp,.fill true,.shp,.shp,.fill false] (fun i=>i < (n+7)) [0,1,2,3,4,5,6,7,8,9,10,11,12,13] [.plain,.low,.low,.low,.low,.plain,.low,.pass,.bar,.shp,.fill true,.shp,.shp,.fill false] [] (by kernel_rfl) rfl ?_
 refine zF9 pl7 ql7 el7 ax8 bx8 cx8 gu9 hi0 hk0 ?_
 refine zO ?_
 have h:=Option.some.inj h;subst h
 refine Qz (k:=3) (i:=i0) (q1:=⟨false,98,4,1,[.row (n+2) (y6.out++[(⟨3,0,([]:(List Zb)),a2⟩:Zh)]).length,(vI y6.kept),.row n y6.gone.length,.row (n+1) y6.come.length]⟩) (L3:=[some (oR 25 3 Za y6.gone),some (oR 25 3 Za y6.come),some (oR 53 14 Zg (y6.out++[(⟨3,0,([]:(List Zb)),a2⟩:Zh)])),none]) (E2:=(⟨25,[],[]⟩:Env)) (n3:=(n+4)) (.inl rfl) hU rfl [] ?_ ?_
 ·refine Fit2.trans (E':=(⟨25,[],[]⟩:Env)) (O':=(Zy ((((O.upd j0_0 none).upd j0_1 none).upd j0_2 none).upd i0 (some ⟨false,98,4,1,[.row (n+6) (y6.out++[(⟨3,0,([]:(List Zb)),a2⟩:Zh)]).length,(vI y6.kept),.row (n+4) y6.gone.length,.row (n+5) y6.come.length]⟩)) n [none,none,none,none,some (oR 25 3 Za y6.gone),some (oR 25 3 Za y6.come),some (oR 53 14 Zg (y6.out++[(⟨3,0,([]:(List Zb)),a2⟩:Zh)])),none])) (n':=(n+8)) (Fit2.of (Yb hU rfl rfl ?_) (by omega)) ?_
  ·exact Zv6 pl7 ql7 el7 ax8 bx8 cx8 gu9 hi0 hk0
  refine X2 (k:=8) (k':=4) hU [3,3,3,3,0,1,2,3] [4,5,6,0] rfl rfl rfl rfl ⟨rfl,rfl⟩ ?_
  exact Qo hi0 hk0
 simp only [push_cast,seval,↓reduceIte,Ze,Try.results87,hi0,hk0,hN0,hN]
attribute [local push_cast] Try.results118 Try.results129 Try.results130 Try.results134 Try.results18 Try.results24 Try.results28 Try.results54 Try.results78 Try.results79 Try.results81 Try.results83
def Zd3 (X0:(Zc→Option Zc)):Prop:=∀ {a0:Zc} {r:Zc} {O:Objs} {n:Nat},X0 a0=some r→GTo Try.prog 28 [.agg (Zk a0)] O n (.agg (Zk r)) O n
def Ze9 (Kv:(Int→(List Zh)→Option (List Zh))):Prop:=∀ {a0:Int} {a1:(List Zh)} {r:(List Zh)} {O:Objs} {n:Nat},Kv a0 a1=some r→GTo Try.prog 54 [(vI a0),(sL Zg a1)] O n ((sL Zg r)) O n
theorem Zor {X0:(Zc→Option Zc)} {Kv:(Int→(List Zh)→Option (List Zh))} (Zbw:Zd3 X0) (Zil:Ze9 Kv) {a0:Zc} {r:Zc} {O:Objs} {n:Nat} (h:Zce X0 Kv a0=some r):GTo Try.prog 28 [.agg (Zk a0)] O n (.agg (Zk r)) O n:=by
 unfold Zce at h
 refine zFn Try.call28 Try.func28 fun hU hN0 hN => ?_
 show W _ _ _ _ ⟨54,[],[(0,.agg (Zk a0))]⟩ (Zy O n []) _
 refine zQ [1,2] ?_
 refine Zn ?_
 refine zQ [1,2,7] ?_
 refine Yx ?_
 refine zQ [1,2,7,8] ?_
 refine Zt (t:=(a0.Kind == 1)) rfl (fun c17 => ?_) (fun c17 => ?_)
 ·replace h:=Zw c17 h
  refine Zn ?_
  obtain ⟨y3,hy3,h⟩:=bC h
  obtain ⟨y4,hy4,h⟩:=bC h
  refine Zfi Z5 (by kernel_rfl) [false,false,false,false,false,false,false,true] [] (by kernel_rfl) ?_
  refine zS ?_
  refine PCall.of (Ge hy3) ?_
  refine zS ?_
  refine PCall.of (Ge hy4) ?_
  refine zS ?_
  refine zD [2] [false,true] ?_
  exact Xg [.agg [(vI 1),(vI y3.Kind),(sL (eI .u64) y3.Words),(sL Za y3.Kids),(vI y4.Kind),(sL (eI .u64) y4.Words),(sL Za y4.Kids),nV,nV,(vI 0),nV]]
 replace h:=Zv c17 h
 refine zQ [1,2,7,17] ?_
 refine Zt (t:=(a0.Kind == 2)) rfl (fun c16 => ?_) (fun c16 => ?_)
 ·replace h:=Zw c16 h
  refine Zn ?_
  obtain ⟨y6,hy6,h⟩:=bC h
  refine zR ?_
  refine (Gm  hy6).then ?_
  refine zS ?_
  refine zDs [1,2,3] [true,true,true,true] ?_
  refine zQd [2,3,24,25,26] [2,3,24,25,26] [false,true,true,true] ?_
  refine Q2 (E':=(⟨54,[],[(2,.ref (n+1) 0),(3,.ref (n+3) 0),(24,(sL Zi a0.Kids)),(25,(vI (a0.Kids.length:Int))),(26,(vI 0))]⟩:Env)) (O':=(Zy O n [none,some ⟨false,30,11,1,[(vI 0),(vI 0),nV,nV,(vI 0),nV,nV,nV,nV,(vI 0),nV]⟩,some (oR 42 4 Zf y6),some ⟨false,30,11,1,[(vI 2),(vI 0),nV,nV,(vI 0),nV,nV,.row (n+2) y6.length,.row (n+4) ([]:List Zd).length,(vI 0),nV]⟩,some (oR 55 12 Zi ([]:List Zd)),none])) (n':=(n+6)) ?_ ?_
  ·refine Fit2.trans (E':=(⟨54,[],[(2,.ref (n+1) 0),(3,.ref (n+3) 0),(24,(sL Zi a0.Kids)),(25,(vI (a0.Kids.length:Int))),(26,(vI 0))]⟩:Env)) (O':=(Zy O n [none,some ⟨false,30,11,1,[(vI 0),(vI 0),nV,nV,(vI 0),nV,nV,nV,nV,(vI 0),nV]⟩,some (oR 42 4 Zf y6),some ⟨false,30,11,1,[(vI 2),(vI 0),nV,nV,(vI 0),nV,nV,.row (n+2) y6.length,nV,(vI 0),nV]⟩])) (n':=(n+4)) (Fit2.of (Z6 hU rfl rfl ?_) (by omega)) ?_
   ·exact Ue
   refine Fit2.trans (Vb (p:=(n+3)) (k:=8) (q:=⟨false,30,11,1,[(vI 2),(vI 0),nV,nV,(vI 0),nV,nV,.row (n+2) y6.length,nV,(vI 0),nV]⟩) 55 12 (by simp only [Vi,U6,List.getElem?_cons_zero,List.getElem?_cons_succ,Option.join_some,List.length_nil,Yg]) rfl (by omega)) ?_
   simp only [Y5,Yr,Vj,Kg,List.set_cons_zero,List.set_cons_succ,List.cons_append,List.nil_append,List.length_cons,List.length_nil,Nat.zero_add,Nat.reduceAdd,Nat.reduceLT,Nat.add_assoc]
   refine Y2 (k:=5) (k':=6) hU [5,1,2,3,4] [0,1,2,3,4,0] rfl rfl rfl rfl ⟨rfl,rfl⟩ ?_
   exact Ue
  obtain ⟨z12,hz12,h⟩:=bC h
  refine Xe (E':=⟨54,[],[(2,.ref (n+1) 0),(3,.ref (n+3) 0)]⟩) (O':=(Zy O n [none,some ⟨false,30,11,1,[(vI 0),(vI 0),nV,nV,(vI 0),nV,nV,nV,nV,(vI 0),nV]⟩,some (oR 42 4 Zf y6),some ⟨false,30,11,1,[(vI 2),(vI 0),nV,nV,(vI 0),nV,nV,.row (n+2) y6.length,.row (n+4) z12.length,(vI 0),nV]⟩,some (oR 55 12 Zi z12),none])) (n0:=(n+6)) ?_ ?_
  ·refine Xv hz12 (fun s0_=>⟨54,[],[(2,.ref (n+1) 0),(3,.ref (n+3) 0),(24,(sL Zi a0.Kids)),(25,(vI (a0.Kids.length:Int))),(26,(vI s0_.1))]⟩) (fun s0_=>(Zy O n [none,some ⟨false,30,11,1,[(vI 0),(vI 0),nV,nV,(vI 0),nV,nV,nV,nV,(vI 0),nV]⟩,some (oR 42 4 Zf y6),some ⟨false,30,11,1,[(vI 2),(vI 0),nV,nV,(vI 0),nV,nV,.row (n+2) y6.length,.row (n+4) s0_.2.length,(vI 0),nV]⟩,some (oR 55 12 Zi s0_.2),none])) (fun z12=>JX 1 n (⟨54,[],[(2,.ref (n+1) 0),(3,.ref (n+3) 0)]⟩:Env) (Zy O n [none,some ⟨false,30,11,1,[(vI 0),(vI 0),nV,nV,(vI 0),nV,nV,nV,nV,(vI 0),nV]⟩,some (oR 42 4 Zf y6),some ⟨false,30,11,1,[(vI 2),(vI 0),nV,nV,(vI 0),nV,nV,.row (n+2) y6.length,.row (n+4) z12.length,(vI 0),nV]⟩,some (oR 55 12 Zi z12),none]) (n+6)) ?_
   intro s0_ x0_ hs0_
   unfold Uo at hs0_
   try dsimp only
   refine zQ [2,3,24,25,26,27] ?_
   refine Zn ?_
   refine Zt (t:=(decide (s0_.1 < (a0.Kids.length:Int)))) rfl (fun c11 => ?_) (fun c11 => ?_)
   ·replace hs0_:=Zw c11 hs0_
    refine Ud [2,3,24,25,26] [false,true,true,true,true,false] ?_
    refine Zn ?_
    refine Yx ?_
    refine Zn ?_
    obtain ⟨x8,hx8,ax8,bx8,cx8,hs0_⟩:=bE (f:=Zi) Zdp (fun _=>rfl) (by decide) hs0_
    refine Zdx [] ax8 bx8 cx8 ?_
    refine zD [2,3,5,24,25,26] [false,true,true,true,true,false,true] ?_
    obtain ⟨y9,hy9,hs0_⟩:=bC hs0_
    obtain ⟨l10,pl10,ql10,el10,hs0_⟩:=bA (k:=1) rfl hs0_
    refine Qu Z5 (by kernel_rfl) [.low,.low,.plain,.plain,.plain,.plain,.plain,.plain,.pass,.bar,.plain,.bar] (fun i=>i < (n+7)) [0,1,2,3,4,5,6,7,8,9,10,11] [.low,.low,.plain,.plain,.plain,.plain,.plain,.plain,.pass,.bar,.plain,.bar] [] (by kernel_rfl) rfl ?_
    refine zX3 pl10 ql10 el10 ?_
    refine zO ?_
    first | refine PCallA.of (fun _ _=>Zbw hy9) ?_ | refine PCall.of (Zbw hy9) ?_
    refine zX3 pl10 ql10 el10 ?_
    refine zO ?_
    refine Zah ⟨54,[],[(2,.ref (n+1) 0),(3,.ref (n+3) 0),(24,(sL Zi a0.Kids)),(25,(vI (a0.Kids.length:Int))),(26,(vI s0_.1))]⟩ (Zy O n [none,some ⟨false,30,11,1,[(vI 0),(vI 0),nV,nV,(vI 0),nV,nV,nV,nV,(vI 0),nV]⟩,some (oR 42 4 Zf y6),some ⟨false,30,11,1,[(vI 2),(vI 0),nV,nV,(vI 0),nV,nV,.row (n+2) y6.length,.row (n+4) l10.length,(vI 0),nV]⟩,some (oR 55 12 Zi l10),none,none,none]) (Z6 hU rfl rfl ?_) ?_
    ·exact Zxu pl10 ql10 el10
    refine zR ?_
    exact zEn hs0_
   replace hs0_:=Zv c11 hs0_
   exact zEx hs0_
  try simp only [Xh,Yw,↓reduceIte,Nat.reduceEqDiff]
  refine zDs [2,3] [false,true,true,true,true,false] ?_
  refine zRd [2] [false,true,true,false,true,false] ?_
  exact Xg [.agg [(vI 2),(vI 0),nV,nV,(vI 0),nV,nV,.row (n+2) y6.length,.row (n+4) z12.length,(vI 0),nV]]
 replace h:=Zv c16 h
 refine zQ [1,2,43] ?_
 refine Zt (t:=(a0.Kind == 3)) rfl (fun c15 => ?_) (fun c15 => ?_)
 ·replace h:=Zw c15 h
  refine Zn ?_
  obtain ⟨y14,hy14,h⟩:=bC h
  refine Zfi Z5 (by kernel_rfl) [false,false,false,false,false,false,false,false,true] [] (by kernel_rfl) ?_
  refine zS ?_
  refine PCall.of (Zil hy14) ?_
  refine zS ?_
  refine zD [2] [false,true] ?_
  exact Xg [.agg [(vI 3),(vI 0),nV,nV,(vI 0),nV,nV,nV,nV,(vI a0.List_),(sL Zg y14)]]
 replace h:=Zv c15 h
 refine Ud [2] [false,true] ?_
 refine Zn ?_
 refine zRd [2] [false,true] ?_
 exact Xg [.agg [(vI 0),(vI 0),nV,nV,(vI 0),nV,nV,nV,nV,(vI 0),nV]]
theorem Zql {X0:(Zc→Option Zc)} {Kv:(Int→(List Zh)→Option (List Zh))} (Zbw:Zd3 X0) (Zil:Ze9 Kv) {a0:Int} {a1:(List Zh)} {r:(List Zh)} {O:Objs} {n:Nat} (h:Zbr X0 Kv a0 a1=some r):GTo Try.prog 54 [(vI a0),(sL Zg a1)] O n ((sL Zg r)) O n:=by
 unfold Zbr at h
 refine zFn Try.call54 Try.func54 fun hU hN0 hN => ?_
 show W _ _ _ _ ⟨44,[],[(0,(vI a0)),(1,(sL Zg a1))]⟩ (Zy O n []) _
 refine zQ [0,1] ?_
 refine zQ [0,1,5] ?_
 refine Zn ?_
 refine zQd [0,5,8,9,10] [0,5,8,9,10] [true] ?_
 refine Q2 (E':=(⟨44,[],[(0,(vI a0)),(5,.ref n 0),(8,(sL Zg a1)),(9,(vI (a1.length:Int))),(10,(vI 0))]⟩:Env)) (O':=(Zy O n [some ⟨false,98,4,1,[.row (n+1) ([]:List Zh).length,(vI 0),.row (n+2) ([]:List Zb).length,.row (n+3) ([]:List Zb).length]⟩,some (oR 53 14 Zg ([]:List Zh)),some (oR 25 3 Za ([]:List Zb)),some (oR 25 3 Za ([]:List Zb)),none])) (n':=(n+5)) ?_ ?_
 ·refine Fit2.trans (E':=(⟨44,[],[(0,(vI a0)),(5,.ref n 0),(8,(sL Zg a1)),(9,(vI (a1.length:Int))),(10,(vI 0))]⟩:Env)) (O':=(Zy O n [some ⟨false,98,4,1,[nV,(vI 0),nV,nV]⟩])) (n':=(n+1)) (Fit2.of (Z6 hU rfl rfl ?_) (by omega)) ?_
  ·exact Ue
  refine Fit2.trans (Vb (p:=n) (k:=0) (q:=⟨false,98,4,1,[nV,(vI 0),nV,nV]⟩) 53 14 (by simp only [Vi,U6,List.getElem?_cons_zero,List.getElem?_cons_succ,Option.join_some,List.length_nil,Yg]) rfl (by omega)) ?_
  simp only [Y5,Yr,Vj,Kg,List.set_cons_zero,List.set_cons_succ,List.cons_append,List.nil_append,List.length_cons,List.length_nil,Nat.zero_add,Nat.reduceAdd,Nat.reduceLT,Nat.add_assoc]
  refine Fit2.trans (Vb (p:=n) (k:=2) (q:=⟨false,98,4,1,[.row (n+1) ([]:List Zh).length,(vI 0),nV,nV]⟩) 25 3 (by simp only [Vi,U6,List.getElem?_cons_zero,List.getElem?_cons_succ,Option.join_some,List.length_nil,Yg]) rfl (by omega)) ?_
  simp only [Y5,Yr,Vj,Kg,List.set_cons_zero,List.set_cons_succ,List.cons_append,List.nil_append,List.length_cons,List.length_nil,Nat.zero_add,Nat.reduceAdd,Nat.reduceLT,Nat.add_assoc]
  refine Fit2.trans (Vb (p:=n) (k:=3) (q:=⟨false,98,4,1,[.row (n+1) ([]:List Zh).length,(vI 0),.row (n+2) ([]:List Zb).length,nV]⟩) 25 3 (by simp only [Vi,U6,List.getElem?_cons_zero,List.getElem?_cons_succ,Option.join_some,List.length_nil,Yg]) rfl (by omega)) ?_
  simp only [Y5,Yr,Vj,Kg,List.set_cons_zero,List.set_cons_succ,List.cons_append,List.nil_append,List.length_cons,List.length_nil,Nat.zero_add,Nat.reduceAdd,Nat.reduceLT,Nat.add_assoc]
  refine Y2 (k:=4) (k':=5) hU [0,1,2,3] [0,1,2,3,0] rfl rfl rfl rfl ⟨rfl,rfl⟩ ?_
  exact Ue
 obtain ⟨z14,hz14,h⟩:=bC h
 refine Xe (E':=⟨44,[],[(5,.ref n 0)]⟩) (O':=(Zy O n [some ⟨false,98,4,1,[.row (n+1) z14.2.1.length,(vI z14.1),.row (n+2) z14.2.2.1.length,.row (n+3) z14.2.2.2.length]⟩,some (oR 53 14 Zg z14.2.1),some (oR 25 3 Za z14.2.2.1),some (oR 25 3 Za z14.2.2.2),none])) (n0:=(n+5)) ?_ ?_
 ·refine Xv hz14 (fun s0_=>⟨44,[],[(0,(vI a0)),(5,.ref n 0),(8,(sL Zg a1)),(9,(vI (a1.length:Int))),(10,(vI s0_.1))]⟩) (fun s0_=>(Zy O n [some ⟨false,98,4,1,[.row (n+1) s0_.2.2.1.length,(vI s0_.2.1),.row (n+2) s0_.2.2.2.1.length,.row (n+3) s0_.2.2.2.2.length]⟩,some (oR 53 14 Zg s0_.2.2.1),some (oR 25 3 Za s0_.2.2.2.1),some (oR 25 3 Za s0_.2.2.2.2),none])) (fun z14=>JX 0 n (⟨44,[],[(5,.ref n 0)]⟩:Env) (Zy O n [some ⟨false,98,4,1,[.row (n+1) z14.2.1.length,(vI z14.1),.row (n+2) z14.2.2.1.length,.row (n+3) z14.2.2.2.length]⟩,some (oR 53 14 Zg z14.2.1),some (oR 25 3 Za z14.2.2.1),some (oR 25 3 Za z14.2.2.2),none]) (n+5)) ?_
  intro s0_ x0_ hs0_
  unfold Vc at hs0_
  try dsimp only
  refine zQ [0,5,8,9,10,11] ?_
  refine Zn ?_
  refine Zt (t:=(decide (s0_.1 < (a1.length:Int)))) rfl (fun c13 => ?_) (fun c13 => ?_)
  ·replace hs0_:=Zw c13 hs0_
   refine Ud [0,5,8,9,10] [true,true,true,true,false] ?_
   obtain ⟨z1,hz1,hs0_⟩:=bC hs0_
   refine Xj (E':=⟨44,[],[(0,(vI a0)),(5,.ref n 0),(8,(sL Zg a1)),(9,(vI (a1.length:Int))),(10,(vI s0_.1))]⟩) (O':=(Zy O n [some ⟨false,98,4,1,[.row (n+9) z1.2.1.length,(vI z1.1),.row (n+10) z1.2.2.1.length,.row (n+11) z1.2.2.2.length]⟩,none,none,none,none,none,none,none,none,some (oR 53 14 Zg z1.2.1),some (oR 25 3 Za z1.2.2.1),some (oR 25 3 Za z1.2.2.2),none])) (n0:=(n+13)) ?_ ?_
   ·refine Yx ?_
    refine Zn ?_
    obtain ⟨x3,hx3,ax3,bx3,cx3,hz1⟩:=bE (f:=Zg) Ze2 (fun _=>rfl) (by decide) hz1
    refine Zdx [] ax3 bx3 cx3 ?_
    refine zD [0,5,7,8,9,10] [true,true,true,true,false,true] ?_
    refine zQ [0,5,7,8,9,10,15] ?_
    refine Yx ?_
    refine zQ [0,5,7,8,9,10,15,16] ?_
    refine Zt (t:=(x3.Kind == 0)) rfl (fun c12 => ?_) (fun c12 => ?_)
    ·replace hz1:=Zw c12 hz1
     obtain ⟨y4,hy4,hz1⟩:=bC hz1
     refine zR ?_
     refine (Zdv (i0:=n) (j0_0:=(n+2)) (j0_1:=(n+3)) (j0_2:=(n+1)) (by omega) (by omega) (by omega) (by omega) (by omega) (by omega) (by omega) (by omega) (by omega) (by omega) (by simp only [push_cast,seval,↓reduceIte,Ze,Y6,hN0,hN] <;> rfl) (by simp only [push_cast,seval,↓reduceIte,Ze,Y6,hN0,hN] <;> rfl) (by simp only [push_cast,seval,↓reduceIte,Ze,Y6,hN0,hN] <;> rfl) (by simp only [push_cast,seval,↓reduceIte,Ze,Y6,hN0,hN] <;> rfl) hy4).then ?_
     refine zS ?_
     have hz1:=Option.some.inj hz1;subst hz1
     refine And.intro rfl ?_
     refine Fit2.trans (E':=(⟨44,[],[(0,(vI a0)),(5,.ref n 0),(8,(sL Zg a1)),(9,(vI (a1.length:Int))),(10,(vI s0_.1))]⟩:Env)) (O':=(Zy O n [some ⟨false,98,4,1,[.row (n+8) y4.out.length,(vI y4.kept),.row (n+6) y4.gone.length,.row (n+7) y4.come.length]⟩,none,none,none,none,none,some (oR 25 3 Za y4.gone),some (oR 25 3 Za y4.come),some (oR 53 14 Zg y4.out)])) (n':=(n+9)) (Fit2.of (Z6 hU rfl rfl ?_) (by omega)) ?_
     ·exact Ue
     refine Y2 (k:=9) (k':=13) hU [0,12,12,12,12,12,10,11,9] [0,0,0,0,0,0,0,0,0,8,6,7,0] rfl rfl rfl rfl ⟨rfl,rfl⟩ ?_
     exact Ue
    replace hz1:=Zv c12 hz1
    refine zQ [0,5,7,8,9,10,15,21] ?_
    refine Zt (t:=(x3.Kind == 1)) rfl (fun c11 => ?_) (fun c11 => ?_)
    ·replace hz1:=Zw c11 hz1
     obtain ⟨y5,hy5,hz1⟩:=bC hz1
     refine zR ?_
     refine (Zgq (i0:=n) (j0_0:=(n+2)) (j0_1:=(n+3)) (j0_2:=(n+1)) (by omega) (by omega) (by omega) (by omega) (by omega) (by omega) (by omega) (by omega) (by omega) (by omega) (by simp only [push_cast,seval,↓reduceIte,Ze,Y6,hN0,hN] <;> rfl) (by simp only [push_cast,seval,↓reduceIte,Ze,Y6,hN0,hN] <;> rfl) (by simp only [push_cast,seval,↓reduceIte,Ze,Y6,hN0,hN] <;> rfl) (by simp only [push_cast,seval,↓reduceIte,Ze,Y6,hN0,hN] <;> rfl) hy5).then ?_
     refine zS ?_
     have hz1:=Option.some.inj hz1;subst hz1
     refine And.intro rfl ?_
     refine Fit2.trans (E':=(⟨44,[],[(0,(vI a0)),(5,.ref n 0),(8,(sL Zg a1)),(9,(vI (a1.length:Int))),(10,(vI s0_.1))]⟩:Env)) (O':=(Zy O n [some ⟨false,98,4,1,[.row (n+8) y5.out.length,(vI y5.kept),.row (n+6) y5.gone.length,.row (n+7) y5.come.length]⟩,none,none,none,none,none,some (oR 25 3 Za y5.gone),some (oR 25 3 Za y5.come),some (oR 53 14 Zg y5.out)])) (n':=(n+9)) (Fit2.of (Z6 hU rfl rfl ?_) (by omega)) ?_
     ·exact Ue
     refine Y2 (k:=9) (k':=13) hU [0,12,12,12,12,12,10,11,9] [0,0,0,0,0,0,0,0,0,8,6,7,0] rfl rfl rfl rfl ⟨rfl,rfl⟩ ?_
     exact Ue
    replace hz1:=Zv c11 hz1
    refine zQ [0,5,7,8,9,10,15,27] ?_
    refine Zt (t:=(x3.Kind == 2)) rfl (fun c10 => ?_) (fun c10 => ?_)
    ·replace hz1:=Zw c10 hz1
     obtain ⟨y6,hy6,hz1⟩:=bC hz1
     refine zR ?_
     refine (Zgr (i0:=n) (j0_0:=(n+2)) (j0_1:=(n+3)) (j0_2:=(n+1)) (by omega) (by omega) (by omega) (by omega) (by omega) (by omega) (by omega) (by omega) (by omega) (by omega) (by simp only [push_cast,seval,↓reduceIte,Ze,Y6,hN0,hN] <;> rfl) (by simp only [push_cast,seval,↓reduceIte,Ze,Y6,hN0,hN] <;> rfl) (by simp only [push_cast,seval,↓reduceIte,Ze,Y6,hN0,hN] <;> rfl) (by simp only [push_cast,seval,↓reduceIte,Ze,Y6,hN0,hN] <;> rfl) hy6).then ?_
     refine zS ?_
     have hz1:=Option.some.inj hz1;subst hz1
     refine And.intro rfl ?_
     refine Fit2.trans (E':=(⟨44,[],[(0,(vI a0)),(5,.ref n 0),(8,(sL Zg a1)),(9,(vI (a1.length:Int))),(10,(vI s0_.1))]⟩:Env)) (O':=(Zy O n [some ⟨false,98,4,1,[.row (n+8) y6.out.length,(vI y6.kept),.row (n+6) y6.gone.length,.row (n+7) y6.come.length]⟩,none,none,none,none,none,some (oR 25 3 Za y6.gone),some (oR 25 3 Za y6.come),some (oR 53 14 Zg y6.out)])) (n':=(n+9)) (Fit2.of (Z6 hU rfl rfl ?_) (by omega)) ?_
     ·exact Ue
     refine Y2 (k:=9) (k':=13) hU [0,12,12,12,12,12,10,11,9] [0,0,0,0,0,0,0,0,0,8,6,7,0] rfl rfl rfl rfl ⟨rfl,rfl⟩ ?_
     exact Ue
    replace hz1:=Zv c10 hz1
    refine zQ [0,5,7,8,9,10,33] ?_
    refine Zt (t:=(x3.Kind == 3)) rfl (fun c9 => ?_) (fun c9 => ?_)
    ·replace hz1:=Zw c9 hz1
     obtain ⟨y7,hy7,hz1⟩:=bC hz1
     obtain ⟨y8,hy8,hz1⟩:=bC hz1
     refine zC (Zbw hy7) ?_
     refine (Zg4 (i0:=n) (j0_0:=(n+2)) (j0_1:=(n+3)) (j0_2:=(n+1)) (by omega) (by omega) (by omega) (by omega) (by omega) (by omega) (by omega) (by omega) (by omega) (by omega) (by simp only [push_cast,seval,↓reduceIte,Ze,Y6,hN0,hN] <;> rfl) (by simp only [push_cast,seval,↓reduceIte,Ze,Y6,hN0,hN] <;> rfl) (by simp only [push_cast,seval,↓reduceIte,Ze,Y6,hN0,hN] <;> rfl) (by simp only [push_cast,seval,↓reduceIte,Ze,Y6,hN0,hN] <;> rfl) hy8).then ?_
     refine zS ?_
     have hz1:=Option.some.inj hz1;subst hz1
     refine And.intro rfl ?_
     refine Fit2.trans (E':=(⟨44,[],[(0,(vI a0)),(5,.ref n 0),(8,(sL Zg a1)),(9,(vI (a1.length:Int))),(10,(vI s0_.1))]⟩:Env)) (O':=(Zy O n [some ⟨false,98,4,1,[.row (n+8) y8.out.length,(vI y8.kept),.row (n+6) y8.gone.length,.row (n+7) y8.come.length]⟩,none,none,none,none,none,some (oR 25 3 Za y8.gone),some (oR 25 3 Za y8.come),some (oR 53 14 Zg y8.out)])) (n':=(n+9)) (Fit2.of (Z6 hU rfl rfl ?_) (by omega)) ?_
     ·exact Ue
     refine Y2 (k:=9) (k':=13) hU [0,12,12,12,12,12,10,11,9] [0,0,0,0,0,0,0,0,0,8,6,7,0] rfl rfl rfl rfl ⟨rfl,rfl⟩ ?_
     exact Ue
    replace hz1:=Zv c9 hz1
    refine zK ?_
    have hz1:=Option.some.inj hz1;subst hz1
    refine And.intro rfl ?_
    refine Fit2.trans (E':=(⟨44,[],[(0,(vI a0)),(5,.ref n 0),(8,(sL Zg a1)),(9,(vI (a1.length:Int))),(10,(vI s0_.1))]⟩:Env)) (O':=(Zy O n [some ⟨false,98,4,1,[.row (n+1) s0_.2.2.1.length,(vI s0_.2.1),.row (n+2) s0_.2.2.2.1.length,.row (n+3) s0_.2.2.2.2.length]⟩,some (oR 53 14 Zg s0_.2.2.1),some (oR 25 3 Za s0_.2.2.2.1),some (oR 25 3 Za s0_.2.2.2.2),none,none])) (n':=(n+6)) (Fit2.of (Z6 hU rfl rfl ?_) (by omega)) ?_
    ·exact Ue
    refine Y2 (k:=6) (k':=13) hU [0,9,10,11,12,12] [0,0,0,0,0,0,0,0,0,1,2,3,0] rfl rfl rfl rfl ⟨rfl,rfl⟩ ?_
    exact Ue
   refine zR ?_
   have hs0_:=Option.some.inj hs0_;subst hs0_
   refine And.intro rfl ?_
   refine Fit2.trans (E':=(⟨44,[],[(0,(vI a0)),(5,.ref n 0),(8,(sL Zg a1)),(9,(vI (a1.length:Int))),(10,(vI (IntKind.i64.wrap (s0_.1+1))))]⟩:Env)) (O':=(Zy O n [some ⟨false,98,4,1,[.row (n+9) z1.2.1.length,(vI z1.1),.row (n+10) z1.2.2.1.length,.row (n+11) z1.2.2.2.length]⟩,none,none,none,none,none,none,none,none,some (oR 53 14 Zg z1.2.1),some (oR 25 3 Za z1.2.2.1),some (oR 25 3 Za z1.2.2.2),none])) (n':=(n+13)) (Fit2.of (Z6 hU rfl rfl ?_) (by omega)) ?_
   ·exact Ue
   refine Y2 (k:=13) (k':=5) hU [0,4,4,4,4,4,4,4,4,1,2,3,4] [0,9,10,11,0] rfl rfl rfl rfl ⟨rfl,rfl⟩ ?_
   exact Ue
  replace hs0_:=Zv c13 hs0_
  exact zEx hs0_
 try simp only [Xh,Yw,↓reduceIte,Nat.reduceEqDiff]
 refine zDs [5] [true,true,true,true,false] ?_
 obtain ⟨y16,hy16,h⟩:=bC h
 refine zR ?_
 refine (Ky (i0:=n) (j0_0:=(n+2)) (j0_1:=(n+3)) (j0_2:=(n+1)) (by omega) (by omega) (by omega) (by omega) (by omega) (by omega) (by omega) (by omega) (by omega) (by omega) (by simp only [push_cast,seval,↓reduceIte,Ze,Y6,hN0,hN] <;> rfl) (by simp only [push_cast,seval,↓reduceIte,Ze,Y6,hN0,hN] <;> rfl) (by simp only [push_cast,seval,↓reduceIte,Ze,Y6,hN0,hN] <;> rfl) (by simp only [push_cast,seval,↓reduceIte,Ze,Y6,hN0,hN] <;> rfl) hy16).then ?_
 refine zS ?_
 refine zD [5] [true,false,false,false,false,true,true,true] ?_
 refine zQ [4] ?_
 exact Xg [.row (n+7) y16.out.length]
theorem Zl4:∀ k,(Zd3 ((Xw k).1))∧(Ze9 ((Xw k).2)):=fun k=>by
 induction k with
 | zero=>exact ⟨@fun a0 r O n h=>(nomatch (show (none:Option _)=some _ from h)),@fun a0 a1 r O n h=>(nomatch (show (none:Option _)=some _ from h))⟩
 | succ k ih=>exact ⟨@fun a0 r O n h=>Zor (ih.1) (ih.2)  h,@fun a0 a1 r O n h=>Zql (ih.1) (ih.2)  h⟩
theorem Zjd {a0:Zc} {r:Zc} {O:Objs} {n:Nat} (h:Zei a0=some r):GTo Try.prog 28 [.agg (Zk a0)] O n (.agg (Zk r)) O n:=by
 obtain ⟨k,hk⟩:=Zdf h
 exact (Zl4 k).1  hk
theorem Zdj {a0:Zc} {r:Zc} {O:Objs} {n:Nat} (h:Zeh a0=some r):GTo Try.prog 24 [.agg (Zk a0)] O n (.agg (Zk r)) O n:=by
 unfold Zeh at h
 refine zFn Try.call24 Try.func24 fun hU hN0 hN => ?_
 show W _ _ _ _ ⟨6,[],[(0,.agg (Zk a0))]⟩ (Zy O n []) _
 refine zQ [1,2] ?_
 refine Zn ?_
 obtain ⟨y3,hy3,h⟩:=bC h
 obtain ⟨y4,hy4,h⟩:=bC h
 refine zC (Zng hy3) ?_
 refine zTs (Zjd hy4) ?_
 refine zD [2] [false,true] ?_
 exact Xg [.agg (Zk y4)]
theorem K5 {a0:Zj} {r:Int} {O:Objs} {n:Nat} (h:Qw a0=some r):GTo Try.prog 79 [.agg (Zl a0)] O n ((vI r)) O n:=by
 unfold Qw at h
 refine zFn Try.call79 Try.func79 fun hU hN0 hN => ?_
 show W _ _ _ _ ⟨5,[],[(0,.agg (Zl a0))]⟩ (Zy O n []) _
 refine zQ [1] ?_
 refine zQ [2] ?_
 exact Xg [(vI a0.At)]
theorem Zfb {a0:Zj} {a1:Zj} {r:(Zj×Bool)} {O:Objs} {n:Nat} (h:Us a0 a1=some r):GTo Try.prog 18 [.agg (Zl a0),.agg (Zl a1)] O n (.tup [.agg (Zl r.1),(vB r.2)]) O n:=by
 unfold Us at h
 refine zFn Try.call18 Try.func18 fun hU hN0 hN => ?_
 show W _ _ _ _ ⟨42,[],[(0,.agg (Zl a0)),(1,.agg (Zl a1))]⟩ (Zy O n []) _
 refine zQ [2,3,4] ?_
 refine Zn ?_
 refine Zn ?_
 obtain ⟨y2,hy2,h⟩:=bC h
 refine Ql Z5 (by kernel_rfl) [] (by kernel_rfl) ?_
 refine zS ?_
 refine PCall.of (Zh7 hy2) ?_
 refine zS ?_
 refine zD [2,3,4,18] [true,true,true] ?_
 refine Zt (t:=((IntKind.u64.wrap (Zdt .u64 (IntKind.u64.wrap (Zkd .u64 a0.New a1.Old)) y2)) != 0)) rfl (fun c7 => ?_) (fun c7 => ?_)
 ·replace h:=Zw c7 h
  refine Zn ?_
  refine zRd [4,5] [false,false,true] ?_
  exact Xg [.agg [(vI 0),.val (.int .u8 0),.val (.int .u64 0),.val (.int .u64 0)],(vB false)]
 replace h:=Zv c7 h
 refine Ud [2,3,4] [true,true,true] ?_
 refine Zn ?_
 obtain ⟨y5,hy5,h⟩:=bC h
 obtain ⟨y6,hy6,h⟩:=bC h
 refine Zfi Z5 (by kernel_rfl) [false,false,false,false,false,false,false,false,false,false,false,false,false,false,false,false,false,false,false,false,false,false,true,false] [] (by kernel_rfl) ?_
 refine zS ?_
 refine PCall.of (Zje hy5) ?_
 refine zS ?_
 refine PCall.of (Zje hy6) ?_
 refine zS ?_
 refine zD [4,5] [false,false,true] ?_
 exact Xg [.agg [(vI a0.At),.val (.int .u8 (IntKind.u8.wrap (Zk1 .u8 a0.Mask a1.Mask))),.val (.int .u64 y5),.val (.int .u64 y6)],(vB true)]
theorem Zax {a0:(List Zj)} {a1:(List Zj)} {r:((List Zj)×Bool)} {O:Objs} {n:Nat} (h:Qv a0 a1=some r):GTo Try.prog 78 [(sL Zf a0),(sL Zf a1),.fn 79 0 [],.fn 18 0 []] O n (.tup [(sL Zf r.1),(vB r.2)]) O n:=by
 unfold Qv at h
 refine zFn Try.call78 Try.func78 fun hU hN0 hN => ?_
 show W _ _ _ _ ⟨87,[],[(0,(sL Zf a0)),(1,(sL Zf a1)),(2,.fn 79 0 []),(3,.fn 18 0 [])]⟩ (Zy O n []) _
 refine zQ [0,1,2,3] ?_
 refine zQ [0,1,2,3,10] ?_
 refine Zn ?_
 refine zD [0,1,2,3,10] [] ?_
 refine Q2 (E':=(⟨87,[],[(0,(sL Zf a0)),(1,(sL Zf a1)),(2,.fn 79 0 []),(3,.fn 18 0 []),(10,.row n ([]:List Zj).length)]⟩:Env)) (O':=(Zy O n [some (oR 42 4 Zf ([]:List Zj)),none])) (n':=(n+2)) ?_ ?_
 ·refine Fit2.trans (E':=(⟨87,[],[(0,(sL Zf a0)),(1,(sL Zf a1)),(2,.fn 79 0 []),(3,.fn 18 0 []),(10,nV)]⟩:Env)) (O':=(Zy O n [])) (n':=n) (Fit2.of (Z6 hU rfl rfl ?_) (by omega)) ?_
  ·exact Ue
  refine Fit2.trans (Zfm 10 42 4 rfl (by omega)) ?_
  simp only [Y5,Yr,Vj,Kg,List.set_cons_zero,List.set_cons_succ,List.cons_append,List.nil_append,List.length_cons,List.length_nil,Nat.zero_add,Nat.reduceAdd,Nat.reduceLT,Nat.add_assoc]
  refine Fit2.trans (E':=(⟨87,[],[(0,(sL Zf a0)),(1,(sL Zf a1)),(2,.fn 79 0 []),(3,.fn 18 0 []),(10,.row n ([]:List Zj).length)]⟩:Env)) (O':=(Zy O n [some (oR 42 4 Zf ([]:List Zj))])) (n':=(n+1)) (Fit2.of (Z6 hU rfl rfl ?_) (by omega)) ?_
  ·exact Ue
  refine Y2 (k:=1) (k':=2) hU [0] [0,0] rfl rfl rfl rfl ⟨rfl,rfl⟩ ?_
  exact Ue
 obtain ⟨z36,hz36,h⟩:=bC h
 refine Zcn (J:=(Jg (fun z36=>JR n (⟨87,[],[(8,nV),(9,(vB false))]⟩:Env) (Zy O n []) n) (fun z36=>JX 0 n (⟨87,[],[(0,(sL Zf z36.1)),(1,(sL Zf z36.2.1)),(10,.row n z36.2.2.length)]⟩:Env) (Zy O n [some (oR 42 4 Zf z36.2.2),none]) (n+2)))) (z:=z36) ?_ fun hw => ?_
 ·refine Xv hz36 (fun s0_=>⟨87,[],[(0,(sL Zf s0_.1)),(1,(sL Zf s0_.2.1)),(2,.fn 79 0 []),(3,.fn 18 0 []),(10,.row n s0_.2.2.length)]⟩) (fun s0_=>(Zy O n [some (oR 42 4 Zf s0_.2.2),none])) (Jg (fun z36=>JR n (⟨87,[],[(8,nV),(9,(vB false))]⟩:Env) (Zy O n []) n) (fun z36=>JX 0 n (⟨87,[],[(0,(sL Zf z36.1)),(1,(sL Zf z36.2.1)),(10,.row n z36.2.2.length)]⟩:Env) (Zy O n [some (oR 42 4 Zf z36.2.2),none]) (n+2))) ?_
  intro s0_ x0_ hs0_
  unfold Kj at hs0_
  try dsimp only
  refine Zn ?_
  refine zQD [0,1,2,3,10,20] [none,none,none] ?_
  refine Zt (t:=(cond (decide (0 < (s0_.1.length:Int))) (decide (0 < (s0_.2.1.length:Int))) false)) rfl (fun c35 => ?_) (fun c35 => ?_)
  ·replace hs0_:=Zw c35 hs0_
   refine Ud [0,1,2,3,10] [true,false] ?_
   refine Yx ?_
   refine Yx ?_
   refine Zn ?_
   obtain ⟨x5,hx5,ax5,bx5,cx5,hs0_⟩:=bE (f:=Zf) Zdw (fun _=>rfl) (by decide) hs0_
   obtain ⟨y6,hy6,hs0_⟩:=bC hs0_
   obtain ⟨x7,hx7,ax7,bx7,cx7,hs0_⟩:=bE (f:=Zf) Zdw (fun _=>rfl) (by decide) hs0_
   obtain ⟨y8,hy8,hs0_⟩:=bC hs0_
   refine Ql Z5 (by kernel_rfl) [] (by kernel_rfl) ?_
   refine zF6 ax5 bx5 cx5 ax7 bx7 cx7 ?_
   refine PCall.of (K5 hy6) ?_
   refine zF6 ax5 bx5 cx5 ax7 bx7 cx7 ?_
   refine PCall.of (K5 hy8) ?_
   refine zF6 ax5 bx5 cx5 ax7 bx7 cx7 ?_
   refine zD [0,1,2,3,10,42] [true,false] ?_
   refine Zt (t:=(decide (y6 < y8))) rfl (fun c34 => ?_) (fun c34 => ?_)
   ·replace hs0_:=Zw c34 hs0_
    obtain ⟨x9,hx9,ax9,bx9,cx9,hs0_⟩:=bE (f:=Zf) Zdw (fun _=>rfl) (by decide) hs0_
    obtain ⟨l10,al10,bl10,cl10,gl10,hs0_⟩:=bS (lo:=(some (.i64,1))) (hi:=none) (f:=Zf) rfl rfl Zie Zdw (fun _=>rfl) hs0_
    obtain ⟨l11,pl11,ql11,el11,hs0_⟩:=bA (k:=1) rfl hs0_
    refine Qu Z5 (by kernel_rfl) [.plain,.plain,.plain,.plain,.pass,.pass,.plain,.low,.plain,.plain] (fun i=>i < (n+2)∧¬ i=n) [0,1,2,3,6,7,4,5,8,9] [.plain,.plain,.plain,.plain,.plain,.low,.pass,.pass,.plain,.plain] [] (by kernel_rfl) rfl ?_
    refine Z5v ax9 bx9 cx9 al10 bl10 cl10 gl10 pl11 ql11 el11 ?_
    refine zO ?_
    have hs0_:=Option.some.inj hs0_;subst hs0_
    refine And.intro rfl (Fit2.of (Z6 hU rfl rfl ?_) (by omega))
    exact Z06 ax9 bx9 cx9 al10 bl10 cl10 gl10 pl11 ql11 el11
   replace hs0_:=Zv c34 hs0_
   refine Zn ?_
   obtain ⟨x16,hx16,ax16,bx16,cx16,hs0_⟩:=bE (f:=Zf) Zdw (fun _=>rfl) (by decide) hs0_
   obtain ⟨y17,hy17,hs0_⟩:=bC hs0_
   obtain ⟨x18,hx18,ax18,bx18,cx18,hs0_⟩:=bE (f:=Zf) Zdw (fun _=>rfl) (by decide) hs0_
   obtain ⟨y19,hy19,hs0_⟩:=bC hs0_
   refine Ql Z5 (by kernel_rfl) [] (by kernel_rfl) ?_
   refine zF6 ax16 bx16 cx16 ax18 bx18 cx18 ?_
   refine PCall.of (K5 hy17) ?_
   refine zF6 ax16 bx16 cx16 ax18 bx18 cx18 ?_
   refine PCall.of (K5 hy19) ?_
   refine zF6 ax16 bx16 cx16 ax18 bx18 cx18 ?_
   refine zD [0,1,2,3,10,62] [true,false] ?_
   refine Zt (t:=(decide (y17 < y19))) rfl (fun c33 => ?_) (fun c33 => ?_)
   ·replace hs0_:=Zw c33 hs0_
    obtain ⟨x20,hx20,ax20,bx20,cx20,hs0_⟩:=bE (f:=Zf) Zdw (fun _=>rfl) (by decide) hs0_
    obtain ⟨l21,al21,bl21,cl21,gl21,hs0_⟩:=bS (lo:=(some (.i64,1))) (hi:=none) (f:=Zf) rfl rfl Zie Zdw (fun _=>rfl) hs0_
    obtain ⟨l22,pl22,ql22,el22,hs0_⟩:=bA (k:=1) rfl hs0_
    refine Qu Z5 (by kernel_rfl) [.plain,.plain,.plain,.plain,.pass,.pass,.plain,.low,.plain,.plain] (fun i=>i < (n+2)∧¬ i=n) [0,1,2,3,6,7,4,5,8,9] [.plain,.plain,.plain,.plain,.plain,.low,.pass,.pass,.plain,.plain] [] (by kernel_rfl) rfl ?_
    refine Z5v ax20 bx20 cx20 al21 bl21 cl21 gl21 pl22 ql22 el22 ?_
    refine zO ?_
    have hs0_:=Option.some.inj hs0_;subst hs0_
    refine And.intro rfl (Fit2.of (Z6 hU rfl rfl ?_) (by omega))
    exact Z06 ax20 bx20 cx20 al21 bl21 cl21 gl21 pl22 ql22 el22
   replace hs0_:=Zv c33 hs0_
   refine Zn ?_
   obtain ⟨x26,hx26,ax26,bx26,cx26,hs0_⟩:=bE (f:=Zf) Zdw (fun _=>rfl) (by decide) hs0_
   obtain ⟨x27,hx27,ax27,bx27,cx27,hs0_⟩:=bE (f:=Zf) Zdw (fun _=>rfl) (by decide) hs0_
   obtain ⟨y28,hy28,hs0_⟩:=bC hs0_
   refine Qu Z5 (by kernel_rfl) [.plain,.plain,.low,.low,.plain,.low,.low,.low,.plain,.plain,.plain,.pass,.bar,.plain] (fun i=>i < (n+2)) [0,1,2,3,4,5,6,7,8,9,10,11,12,13] [.plain,.plain,.low,.low,.plain,.low,.low,.low,.plain,.plain,.plain,.pass,.bar,.plain] [] (by kernel_rfl) rfl ?_
   refine zF6 ax26 bx26 cx26 ax27 bx27 cx27 ?_
   refine zO ?_
   first | refine PCallA.of (fun _ _=>Zfb hy28) ?_ | refine PCall.of (Zfb hy28) ?_
   refine zF6 ax26 bx26 cx26 ax27 bx27 cx27 ?_
   refine zO ?_
   refine zDs [0,1,2,3,10,11,12] [true,false,true] ?_
   refine zQ [0,1,2,3,10,11,33] ?_
   refine Zt (t:=(!y28.2)) rfl (fun c32 => ?_) (fun c32 => ?_)
   ·replace hs0_:=Zw c32 hs0_
    refine zQ [8,9] ?_
    refine zW ?_
    exact zEy hs0_
   replace hs0_:=Zv c32 hs0_
   refine Ud [0,1,2,3,10,11] [true,false,true] ?_
   obtain ⟨l29,al29,bl29,cl29,gl29,hs0_⟩:=bS (lo:=(some (.i64,1))) (hi:=none) (f:=Zf) rfl rfl Zie Zdw (fun _=>rfl) hs0_
   obtain ⟨l30,al30,bl30,cl30,gl30,hs0_⟩:=bS (lo:=(some (.i64,1))) (hi:=none) (f:=Zf) rfl rfl Zie Zdw (fun _=>rfl) hs0_
   obtain ⟨l31,pl31,ql31,el31,hs0_⟩:=bA (k:=1) rfl hs0_
   refine Qu Z5 (by kernel_rfl) [.plain,.plain,.pass,.pass,.plain,.low,.plain,.low,.plain,.plain,.plain] (fun i=>i < (n+3)∧¬ i=n) [0,1,4,5,6,7,2,3,8,9,10] [.plain,.plain,.plain,.low,.plain,.low,.pass,.pass,.plain,.plain,.plain] [] (by kernel_rfl) rfl ?_
   simp only [push_cast,seval,↓reduceIte,Ze,al29,bl29,cl29,gl29,al30,bl30,cl30,gl30,pl31,ql31,el31,hN0,hN]
   refine zO ?_
   have hs0_:=Option.some.inj hs0_;subst hs0_
   refine And.intro rfl (Fit2.of (Z6 hU rfl rfl ?_) (by omega))
   simp only [push_cast,seval,↓reduceIte,Ze,al29,bl29,cl29,gl29,al30,bl30,cl30,gl30,pl31,ql31,el31,hN0,hN]
  replace hs0_:=Zv c35 hs0_
  exact zEx hs0_
 rcases z36 with z36 | z36
 ·dsimp only [Jg] at hw h
  refine Ve hw ?_
  try simp only [Xh,Yw,↓reduceIte,Nat.reduceEqDiff]
  exact Zlr [nV,(vB false)]
 dsimp only [Jg] at hw h
 refine Xe hw ?_
 try simp only [Xh,Yw,↓reduceIte,Nat.reduceEqDiff]
 refine zDs [0,1,10] [true,false] ?_
 obtain ⟨l39,pl39,ql39,el39,h⟩:=bA (k:=z36.1.length) rfl h
 obtain ⟨l40,pl40,ql40,el40,h⟩:=bA (k:=z36.2.1.length) rfl h
 try simp only [el39,List.length_append,Nat.add_assoc] at pl40 ql40
 refine Yz Z5 [] ?_
 simp only [push_cast,seval,↓reduceIte,Ze,pl39,ql39,el39,pl40,ql40,el40,List.append_assoc,hN0,hN]
 refine Zah ⟨87,[],[(8,.row n l40.length),(9,(vB true))]⟩ (Zy O n [some (oR 42 4 Zf l40),none]) (Z6 hU rfl rfl ?_) ?_
 ·simp only [push_cast,seval,↓reduceIte,Ze,pl39,ql39,el39,pl40,ql40,el40,List.append_assoc,hN0,hN]
 exact Xg [.row n l40.length,(vB true)]
theorem K6 {a0:Zd} {r:Int} {O:Objs} {n:Nat} (h:Qx a0=some r):GTo Try.prog 81 [.agg (Xk a0)] O n ((vI r)) O n:=by
 unfold Qx at h
 refine zFn Try.call81 Try.func81 fun hU hN0 hN => ?_
 show W _ _ _ _ ⟨5,[],[(0,.agg (Xk a0))]⟩ (Zy O n []) _
 refine zQ [1] ?_
 refine zQ [2] ?_
 exact Xg [(vI a0.At)]
theorem Zsc {a0:Zh} {r:Int} {O:Objs} {n:Nat} (h:Zh4 a0=some r):GTo Try.prog 134 [.agg (Y1 a0)] O n ((vI r)) O n:=by
 unfold Zh4 at h
 refine zFn Try.call134 Try.func134 fun hU hN0 hN => ?_
 show W _ _ _ _ ⟨15,[],[(0,.agg (Y1 a0))]⟩ (Zy O n []) _
 refine zQ [1] ?_
 refine Zn ?_
 refine zQ [1,4] ?_
 refine Yx ?_
 refine zQ [1,4,5] ?_
 refine Zt (t:=(a0.Kind == 0)) rfl (fun c4 => ?_) (fun c4 => ?_)
 ·replace h:=Zw c4 h
  refine zQ [2] ?_
  exact Xg [(vI a0.N)]
 replace h:=Zv c4 h
 obtain ⟨z1,hz1,h⟩:=bC h
 refine Xj (E':=⟨15,[],[(1,.ref n 0),(9,(vB z1))]⟩) (O':=(Zy O n [some ⟨false,53,14,1,(Y1 a0)⟩])) (n0:=(n+1)) ?_ ?_
 ·refine zQ [1,4,9] ?_
  refine Zt (t:=(a0.Kind == 1)) rfl (fun c2 => ?_) (fun c2 => ?_)
  ·replace hz1:=Zw c2 hz1
   refine zK ?_
   exact zEn hz1
  replace hz1:=Zv c2 hz1
  refine zR ?_
  exact zEn hz1
 refine Zt (t:=z1) rfl (fun c3 => ?_) (fun c3 => ?_)
 ·replace h:=Zw c3 h
  refine zQ [2] ?_
  exact Xg [(vI (a0.L.length:Int))]
 replace h:=Zv c3 h
 refine Ud [] [false] ?_
 refine zQ [2] ?_
 exact Xg [(vI 1)]
theorem Zez {a0:Ys} {r:(Int×Int×Ys)} {O:Objs} {n:Nat} {i0:Nat} (hi0:i0 < n) (ho0:O i0=some ⟨false,140,2,1,[(sL Zg a0.left),(vI a0.gone)]⟩) (h:X5 a0=some r):GTo Try.prog 129 [.ref i0 0] O n (.tup [(vI r.1),(vI r.2.1)]) (Zy (O.upd i0 (some ⟨false,140,2,1,[(sL Zg r.2.2.left),(vI r.2.2.gone)]⟩)) n []) (n+0):=by
 unfold X5 at h
 refine Zii Z5 Try.call129 Try.func129 rfl (Nat.le_of_ble_eq_true rfl) (by omega) fun hU => ?_
 rw [show Zy O n []=Zy (O.upd i0 (some ⟨false,140,2,1,[(sL Zg a0.left),(vI a0.gone)]⟩)) n [] from by rw [Zxn (show O i0=_ from by exact ho0)]]
 have hk0:∀ k,i0 < n+k:=fun k=>by omega
 have hN0:∀ o,Objs.upd O i0 o n=none:=fun o=>Qd hU hi0 _ (Nat.le_refl _)
 have hN:∀ o k,Objs.upd O i0 o (n+k)=none:=fun o k=>Qd hU hi0 _ (Nat.le_add_right _ _)
 show W _ _ _ _ ⟨44,[],[(0,.ref i0 0)]⟩ (Zy (O.upd i0 (some ⟨false,140,2,1,[(sL Zg a0.left),(vI a0.gone)]⟩)) n []) _
 refine Uz [0] hi0 hk0 ?_
 refine Zn ?_
 refine zD [0] [] ?_
 obtain ⟨z12,hz12,h⟩:=bC h
 refine Zcn (J:=(Jg (fun z12=>JR n (⟨44,[],[(2,(vI z12.1)),(3,(vI z12.2.1))]⟩:Env) (Zy (O.upd i0 (some ⟨false,140,2,1,[(sL Zg z12.2.2.1),(vI z12.2.2.2)]⟩)) n []) n) (fun z12=>JX 0 n (⟨44,[],[]⟩:Env) (Zy (O.upd i0 (some ⟨false,140,2,1,[(sL Zg z12.1),(vI z12.2)]⟩)) n []) n))) (z:=z12) ?_ fun hw => ?_
 ·refine Xv hz12 (fun s0_=>⟨44,[],[(0,.ref i0 0)]⟩) (fun s0_=>(Zy (O.upd i0 (some ⟨false,140,2,1,[(sL Zg s0_.1),(vI s0_.2)]⟩)) n [])) (Jg (fun z12=>JR n (⟨44,[],[(2,(vI z12.1)),(3,(vI z12.2.1))]⟩:Env) (Zy (O.upd i0 (some ⟨false,140,2,1,[(sL Zg z12.2.2.1),(vI z12.2.2.2)]⟩)) n []) n) (fun z12=>JX 0 n (⟨44,[],[]⟩:Env) (Zy (O.upd i0 (some ⟨false,140,2,1,[(sL Zg z12.1),(vI z12.2)]⟩)) n []) n)) ?_
  intro s0_ x0_ hs0_
  unfold Zdh at hs0_
  try dsimp only
  refine Zn ?_
  refine Uz [0,10] hi0 hk0 ?_
  refine Zt (t:=(decide (0 < (s0_.1.length:Int)))) rfl (fun c11 => ?_) (fun c11 => ?_)
  ·replace hs0_:=Zw c11 hs0_
   refine Ud [0] [] ?_
   refine Yx ?_
   refine Zn ?_
   refine Zn ?_
   obtain ⟨x3,hx3,ax3,bx3,cx3,hs0_⟩:=bE (f:=Zg) Ze2 (fun _=>rfl) (by decide) hs0_
   obtain ⟨y4,hy4,hs0_⟩:=bC hs0_
   refine Ql Z5 (by kernel_rfl) [] (by kernel_rfl) ?_
   refine zF5 ax3 bx3 cx3 hi0 hk0 ?_
   refine PCall.of (Zsc hy4) ?_
   refine zF5 ax3 bx3 cx3 hi0 hk0 ?_
   refine zD [0,4] [] ?_
   refine Uz [0,4,24] hi0 hk0 ?_
   refine Zt (t:=(decide (0 < (IntKind.i64.wrap (y4 - s0_.2))))) rfl (fun c10 => ?_) (fun c10 => ?_)
   ·replace hs0_:=Zw c10 hs0_
    obtain ⟨x7,hx7,ax7,bx7,cx7,hs0_⟩:=bE (f:=Zg) Ze2 (fun _=>rfl) (by decide) hs0_
    have g8:=Zks (f:=Zg) (sz:=14) Zzi (fun _=>rfl) (by decide) (by decide) hx7
    refine Zmy [2,3] (Yz Z5 [] ?_)
    refine zF6 ax7 bx7 cx7 g8 hi0 hk0 ?_
    refine zW ?_
    have hs0_:=Option.some.inj hs0_;subst hs0_
    refine And.intro (fun h=>by cases h) (And.intro rfl (Fit2.of (Yb hU rfl rfl ?_) (by omega)))
    exact Qo hi0 hk0
   replace hs0_:=Zv c10 hs0_
   refine Ud [0] [] ?_
   obtain ⟨l9,al9,bl9,cl9,gl9,hs0_⟩:=bS (lo:=(some (.i64,1))) (hi:=none) (f:=Zg) rfl rfl Zo3 Ze2 (fun _=>rfl) hs0_
   refine Z4r [] al9 bl9 cl9 gl9 hi0 hk0 ?_
   have hs0_:=Option.some.inj hs0_;subst hs0_
   refine And.intro rfl (Fit2.of (Yb hU rfl rfl ?_) (by omega))
   exact Z8m al9 bl9 cl9 gl9 hi0 hk0
  replace hs0_:=Zv c11 hs0_
  refine zXt ?_
  have hs0_:=Option.some.inj hs0_;subst hs0_
  refine And.intro (fun h=>by cases h) (And.intro rfl (Fit2.of (Yb hU rfl rfl ?_) (by omega)))
  exact Qo hi0 hk0
 rcases z12 with z12 | z12
 ·dsimp only [Jg] at hw h
  refine Ve hw ?_
  try simp only [Xh,Yw,↓reduceIte,Nat.reduceEqDiff]
  have h:=Option.some.inj h;subst h
  refine Qz (k:=0) (i:=i0) (q1:=⟨false,140,2,1,[(sL Zg z12.2.2.1),(vI z12.2.2.2)]⟩) (L3:=[none]) (E2:=(⟨44,[],[(2,(vI z12.1)),(3,(vI z12.2.1))]⟩:Env)) (n3:=(n+1)) (.inr rfl) hU rfl [(vI z12.1),(vI z12.2.1)] ?_ ?_
  ·refine Fit2.trans (E':=(⟨44,[],[(2,(vI z12.1)),(3,(vI z12.2.1))]⟩:Env)) (O':=(Zy (O.upd i0 (some ⟨false,140,2,1,[(sL Zg z12.2.2.1),(vI z12.2.2.2)]⟩)) n [])) (n':=n) (Fit2.of (Yb hU rfl rfl ?_) (by omega)) ?_
   ·exact Qo hi0 hk0
   refine X2 (k:=0) (k':=1) hU [] [0] rfl rfl rfl rfl ⟨rfl,rfl⟩ ?_
   exact Qo hi0 hk0
  simp only [push_cast,seval,↓reduceIte,Ze,Try.results129,hi0,hk0,hN0,hN]
 dsimp only [Jg] at hw h
 refine Xe hw ?_
 try simp only [Xh,Yw,↓reduceIte,Nat.reduceEqDiff]
 refine zD [] [] ?_
 refine Uz [2,3] hi0 hk0 ?_
 refine zW ?_
 have h:=Option.some.inj h;subst h
 refine Qz (k:=0) (i:=i0) (q1:=⟨false,140,2,1,[(sL Zg z12.1),(vI z12.2)]⟩) (L3:=[none]) (E2:=(⟨44,[],[(2,(vI 0)),(3,(vI 0))]⟩:Env)) (n3:=(n+1)) (.inr rfl) hU rfl [(vI 0),(vI 0)] ?_ ?_
 ·refine Fit2.trans (E':=(⟨44,[],[(2,(vI 0)),(3,(vI 0))]⟩:Env)) (O':=(Zy (O.upd i0 (some ⟨false,140,2,1,[(sL Zg z12.1),(vI z12.2)]⟩)) n [])) (n':=n) (Fit2.of (Yb hU rfl rfl ?_) (by omega)) ?_
  ·exact Qo hi0 hk0
  refine X2 (k:=0) (k':=1) hU [] [0] rfl rfl rfl rfl ⟨rfl,rfl⟩ ?_
  exact Qo hi0 hk0
 simp only [push_cast,seval,↓reduceIte,Ze,Try.results129,hi0,hk0,hN0,hN]
theorem V9 {a0:Ys} {a1:Int} {r:(Zh×Ys)} {O:Objs} {n:Nat} {i0:Nat} (hi0:i0 < n) (ho0:O i0=some ⟨false,140,2,1,[(sL Zg a0.left),(vI a0.gone)]⟩) (h:J5 a0 a1=some r):GTo Try.prog 130 [.ref i0 0,(vI a1)] O n (.agg (Y1 r.1)) (Zy (O.upd i0 (some ⟨false,140,2,1,[(sL Zg r.2.left),(vI r.2.gone)]⟩)) n []) (n+0):=by
 unfold J5 at h
 refine Zii Z5 Try.call130 Try.func130 rfl (Nat.le_of_ble_eq_true rfl) (by omega) fun hU => ?_
 rw [show Zy O n []=Zy (O.upd i0 (some ⟨false,140,2,1,[(sL Zg a0.left),(vI a0.gone)]⟩)) n [] from by rw [Zxn (show O i0=_ from by exact ho0)]]
 have hk0:∀ k,i0 < n+k:=fun k=>by omega
 have hN0:∀ o,Objs.upd O i0 o n=none:=fun o=>Qd hU hi0 _ (Nat.le_refl _)
 have hN:∀ o k,Objs.upd O i0 o (n+k)=none:=fun o k=>Qd hU hi0 _ (Nat.le_add_right _ _)
 show W _ _ _ _ ⟨50,[],[(0,.ref i0 0),(1,(vI a1))]⟩ (Zy (O.upd i0 (some ⟨false,140,2,1,[(sL Zg a0.left),(vI a0.gone)]⟩)) n []) _
 refine Uz [0,1,4] hi0 hk0 ?_
 refine Zn ?_
 obtain ⟨x2,hx2,ax2,bx2,cx2,h⟩:=bE (f:=Zg) Ze2 (fun _=>rfl) (by decide) h
 refine Z07 [] ax2 bx2 cx2 hi0 hk0 ?_
 refine zD [0,1,4,5] [true,true] ?_
 obtain ⟨z3,hz3,h⟩:=bC h
 refine Xj (E':=⟨50,[],[(0,.ref i0 0),(1,(vI a1)),(4,.ref n 0),(5,.ref (n+1) 0)]⟩) (O':=(Zy (O.upd i0 (some ⟨false,140,2,1,[(sL Zg a0.left),(vI a0.gone)]⟩)) n [some ⟨false,53,14,1,[(vI 0),(vI 0),nV,(vI 0),(vI 0),nV,nV,(vI 0),nV,nV,nV,nV,(vI 0),nV]⟩,some ⟨false,53,14,1,[(vI x2.Kind),(vI z3.1),(sL Za z3.2),(vI x2.E.Kind),(vI x2.E.Old.Kind),(sL (eI .u64) x2.E.Old.Words),(sL Za x2.E.Old.Kids),(vI x2.E.New.Kind),(sL (eI .u64) x2.E.New.Words),(sL Za x2.E.New.Kids),(sL Zf x2.E.Words),(sL Zi x2.E.Kids),(vI x2.E.List_),(sL Zg x2.E.Ops)]⟩])) (n0:=(n+2)) ?_ ?_
 ·refine Uz [0,1,4,5,13] hi0 hk0 ?_
  refine Yx ?_
  refine Uz [0,1,4,5,13,14] hi0 hk0 ?_
  refine Zt (t:=(x2.Kind == 0)) rfl (fun c8 => ?_) (fun c8 => ?_)
  ·replace hz3:=Zw c8 hz3
   refine V0 [] hi0 hk0 ?_
   have hz3:=Option.some.inj hz3;subst hz3
   refine And.intro rfl (Fit2.of (Yb hU rfl rfl ?_) (by omega))
   exact Qo hi0 hk0
  replace hz3:=Zv c8 hz3
  obtain ⟨z4,hz4,hz3⟩:=bC hz3
  refine Xj (E':=⟨50,[],[(0,.ref i0 0),(1,(vI a1)),(4,.ref n 0),(5,.ref (n+1) 0),(18,(vB z4))]⟩) (O':=(Zy (O.upd i0 (some ⟨false,140,2,1,[(sL Zg a0.left),(vI a0.gone)]⟩)) n [some ⟨false,53,14,1,[(vI 0),(vI 0),nV,(vI 0),(vI 0),nV,nV,(vI 0),nV,nV,nV,nV,(vI 0),nV]⟩,some ⟨false,53,14,1,(Y1 x2)⟩])) (n0:=(n+2)) ?_ ?_
  ·refine Uz [0,1,4,5,13,18] hi0 hk0 ?_
   refine Zt (t:=(x2.Kind == 1)) rfl (fun c5 => ?_) (fun c5 => ?_)
   ·replace hz4:=Zw c5 hz4
    refine zK ?_
    have hz4:=Option.some.inj hz4;subst hz4
    refine And.intro rfl (Fit2.of (Yb hU rfl rfl ?_) (by omega))
    exact Qo hi0 hk0
   replace hz4:=Zv c5 hz4
   refine V0 [] hi0 hk0 ?_
   have hz4:=Option.some.inj hz4;subst hz4
   refine And.intro rfl (Fit2.of (Yb hU rfl rfl ?_) (by omega))
   exact Qo hi0 hk0
  refine Zt (t:=z4) rfl (fun c7 => ?_) (fun c7 => ?_)
  ·replace hz3:=Zw c7 hz3
   obtain ⟨l6,al6,bl6,cl6,gl6,hz3⟩:=bS3 (lo:=(some (.i64,a0.gone))) (hi:=(.i64,(IntKind.i64.wrap (a0.gone+a1)))) (f:=Za) rfl rfl Zdq Uk (fun _=>rfl) hz3
   refine Zfi Z5 (by kernel_rfl) [false,false,false,false,false,false,false,false,false,false,false,false,false,false,false,false,false,false,false,false,true] [] (by kernel_rfl) ?_
   refine zX6 al6 bl6 cl6 gl6 hi0 hk0 ?_
   have hz3:=Option.some.inj hz3;subst hz3
   refine And.intro rfl (Fit2.of (Yb hU rfl rfl ?_) (by omega))
   exact Z8m al6 bl6 cl6 gl6 hi0 hk0
  replace hz3:=Zv c7 hz3
  refine zK ?_
  have hz3:=Option.some.inj hz3;subst hz3
  refine And.intro rfl (Fit2.of (Yb hU rfl rfl ?_) (by omega))
  exact Qo hi0 hk0
 refine Zn ?_
 refine V0 [] hi0 hk0 ?_
 refine zDs [4,5] [true,true] ?_
 refine V0 [] hi0 hk0 ?_
 refine zD [4] [true,false] ?_
 refine zW ?_
 have h:=Option.some.inj h;subst h
 refine Qz (k:=0) (i:=i0) (q1:=⟨false,140,2,1,[(sL Zg a0.left),(vI (IntKind.i64.wrap (a0.gone+a1)))]⟩) (L3:=[some ⟨false,53,14,1,[(vI x2.Kind),(vI z3.1),(sL Za z3.2),(vI x2.E.Kind),(vI x2.E.Old.Kind),(sL (eI .u64) x2.E.Old.Words),(sL Za x2.E.Old.Kids),(vI x2.E.New.Kind),(sL (eI .u64) x2.E.New.Words),(sL Za x2.E.New.Kids),(sL Zf x2.E.Words),(sL Zi x2.E.Kids),(vI x2.E.List_),(sL Zg x2.E.Ops)]⟩,none]) (E2:=(⟨50,[],[(4,.ref n 0)]⟩:Env)) (n3:=(n+2)) (.inr rfl) hU rfl [.agg [(vI x2.Kind),(vI z3.1),(sL Za z3.2),(vI x2.E.Kind),(vI x2.E.Old.Kind),(sL (eI .u64) x2.E.Old.Words),(sL Za x2.E.Old.Kids),(vI x2.E.New.Kind),(sL (eI .u64) x2.E.New.Words),(sL Za x2.E.New.Kids),(sL Zf x2.E.Words),(sL Zi x2.E.Kids),(vI x2.E.List_),(sL Zg x2.E.Ops)]] ?_ ?_
 ·refine Fit2.trans (E':=(⟨50,[],[(4,.ref n 0)]⟩:Env)) (O':=(Zy (O.upd i0 (some ⟨false,140,2,1,[(sL Zg a0.left),(vI (IntKind.i64.wrap (a0.gone+a1)))]⟩)) n [some ⟨false,53,14,1,[(vI x2.Kind),(vI z3.1),(sL Za z3.2),(vI x2.E.Kind),(vI x2.E.Old.Kind),(sL (eI .u64) x2.E.Old.Words),(sL Za x2.E.Old.Kids),(vI x2.E.New.Kind),(sL (eI .u64) x2.E.New.Words),(sL Za x2.E.New.Kids),(sL Zf x2.E.Words),(sL Zi x2.E.Kids),(vI x2.E.List_),(sL Zg x2.E.Ops)]⟩,none])) (n':=(n+2)) (Fit2.of (Yb hU rfl rfl ?_) (by omega)) ?_
  ·exact Qo hi0 hk0
  refine X2 (k:=2) (k':=2) hU [0,1] [0,0] rfl rfl rfl rfl ⟨rfl,rfl⟩ ?_
  exact Qo hi0 hk0
 simp only [push_cast,seval,↓reduceIte,Ze,Try.results130,hi0,hk0,hN0,hN]
theorem Zon {a0:(List Zh)} {a1:(List Zh)} {a2:Int} {a3:Int} {r:((List Zz)×Bool)} {O:Objs} {n:Nat} (h:Zf2 a0 a1 a2 a3=some r):GTo Try.prog 118 [(sL Zg a0),(sL Zg a1),(vI a2),(vI a3)] O n (.tup [(sL Z4 r.1),(vB r.2)]) O n:=by
 unfold Zf2 at h
 refine zFn Try.call118 Try.func118 fun hU hN0 hN => ?_
 show W _ _ _ _ ⟨83,[],[(0,(sL Zg a0)),(1,(sL Zg a1)),(2,(vI a2)),(3,(vI a3))]⟩ (Zy O n []) _
 refine zQ [0,1,2,3] ?_
 refine zQ [0,1,2,3,10] ?_
 refine Zn ?_
 refine zRd [2,3,10,11,12] [true,true] ?_
 refine zD [2,3,10,11,12] [true,true] ?_
 refine Q2 (E':=(⟨83,[],[(2,(vI a2)),(3,(vI a3)),(10,.row (n+2) ([]:List Zz).length),(11,.ref n 0),(12,.ref (n+1) 0)]⟩:Env)) (O':=(Zy O n [some ⟨false,140,2,1,[(sL Zg a0),(vI 0)]⟩,some ⟨false,140,2,1,[(sL Zg a1),(vI 0)]⟩,some (oR 94 29 Z4 ([]:List Zz)),none])) (n':=(n+4)) ?_ ?_
 ·refine Fit2.trans (E':=(⟨83,[],[(2,(vI a2)),(3,(vI a3)),(10,nV),(11,.ref n 0),(12,.ref (n+1) 0)]⟩:Env)) (O':=(Zy O n [some ⟨false,140,2,1,[(sL Zg a0),(vI 0)]⟩,some ⟨false,140,2,1,[(sL Zg a1),(vI 0)]⟩])) (n':=(n+2)) (Fit2.of (Z6 hU rfl rfl ?_) (by omega)) ?_
  ·exact Ue
  refine Fit2.trans (Zfm 10 94 29 rfl (by omega)) ?_
  simp only [Y5,Yr,Vj,Kg,List.set_cons_zero,List.set_cons_succ,List.cons_append,List.nil_append,List.length_cons,List.length_nil,Nat.zero_add,Nat.reduceAdd,Nat.reduceLT,Nat.add_assoc]
  refine Fit2.trans (E':=(⟨83,[],[(2,(vI a2)),(3,(vI a3)),(10,.row (n+2) ([]:List Zz).length),(11,.ref n 0),(12,.ref (n+1) 0)]⟩:Env)) (O':=(Zy O n [some ⟨false,140,2,1,[(sL Zg a0),(vI 0)]⟩,some ⟨false,140,2,1,[(sL Zg a1),(vI 0)]⟩,some (oR 94 29 Z4 ([]:List Zz))])) (n':=(n+3)) (Fit2.of (Z6 hU rfl rfl ?_) (by omega)) ?_
  ·exact Ue
  refine Y2 (k:=3) (k':=4) hU [0,1,2] [0,1,2,0] rfl rfl rfl rfl ⟨rfl,rfl⟩ ?_
  exact Ue
 obtain ⟨z16,hz16,h⟩:=bC h
 refine Ve (E':=⟨83,[],[(8,(sL Z4 z16.1)),(9,(vB z16.2))]⟩) (O':=(Zy O n [none,none])) (n0:=(n+2)) ?_ ?_
 ·refine Xv hz16 (fun s0_=>⟨83,[],[(2,(vI a2)),(3,(vI a3)),(10,.row (n+2) s0_.2.2.2.2.length),(11,.ref n 0),(12,.ref (n+1) 0)]⟩) (fun s0_=>(Zy O n [some ⟨false,140,2,1,[(sL Zg s0_.1),(vI s0_.2.1)]⟩,some ⟨false,140,2,1,[(sL Zg s0_.2.2.1),(vI s0_.2.2.2.1)]⟩,some (oR 94 29 Z4 s0_.2.2.2.2),none])) (fun z16=>JR n (⟨83,[],[(8,(sL Z4 z16.1)),(9,(vB z16.2))]⟩:Env) (Zy O n [none,none]) (n+2)) ?_
  intro s0_ x0_ hs0_
  unfold K2 at hs0_
  try dsimp only
  refine Yx ?_
  refine Zn ?_
  obtain ⟨y2,hy2,hs0_⟩:=bC hs0_
  refine zR ?_
  refine (Zez (i0:=n) (by omega) (by simp only [push_cast,seval,↓reduceIte,Ze,Y6,hN0,hN] <;> rfl) hy2).then ?_
  refine zS ?_
  refine zDs [2,3,10,11,12,13,14] [true,true,true,false] ?_
  obtain ⟨y4,hy4,hs0_⟩:=bC hs0_
  refine zR ?_
  refine (Zez (i0:=(n+1)) (by omega) (by simp only [push_cast,seval,↓reduceIte,Ze,Y6,hN0,hN] <;> rfl) hy4).then ?_
  refine zS ?_
  refine zD [2,3,10,11,12,13,14,15,16] [true,true,true,false] ?_
  refine Yx ?_
  refine zQD [2,3,10,11,12,14,15,16,40] [none,none,none] ?_
  refine Zt (t:=(cond (decide (0 < y2.2.1)) (y2.1 == a2) false)) rfl (fun c15 => ?_) (fun c15 => ?_)
  ·replace hs0_:=Zw c15 hs0_
   obtain ⟨y5,hy5,hs0_⟩:=bC hs0_
   obtain ⟨l6,pl6,ql6,el6,hs0_⟩:=bA (k:=1) rfl hs0_
   refine Zg2 [] pl6 ql6 el6 ?_
   refine (V9 (i0:=n) (by omega) (by simp only [push_cast,seval,↓reduceIte,Ze,Y6,pl6,ql6,el6,hN0,hN] <;> rfl) hy5).then ?_
   refine zX3 pl6 ql6 el6 ?_
   exact Zhu hs0_ pl6 ql6 el6
  replace hs0_:=Zv c15 hs0_
  refine zQD [2,3,10,11,12,14,16,54] [none,none,none] ?_
  refine Zt (t:=(cond (decide (0 < y4.2.1)) (y4.1 == a3) false)) rfl (fun c14 => ?_) (fun c14 => ?_)
  ·replace hs0_:=Zw c14 hs0_
   obtain ⟨y7,hy7,hs0_⟩:=bC hs0_
   obtain ⟨l8,pl8,ql8,el8,hs0_⟩:=bA (k:=1) rfl hs0_
   refine Zg2 [] pl8 ql8 el8 ?_
   refine (V9 (i0:=(n+1)) (by omega) (by simp only [push_cast,seval,↓reduceIte,Ze,Y6,pl8,ql8,el8,hN0,hN] <;> rfl) hy7).then ?_
   refine zX3 pl8 ql8 el8 ?_
   exact Zhu hs0_ pl8 ql8 el8
  replace hs0_:=Zv c14 hs0_
  refine zQD [2,3,10,11,12,14,16,68] [none,none] ?_
  refine Zt (t:=(cond (y2.2.1 == 0) (y4.2.1 == 0) false)) rfl (fun c13 => ?_) (fun c13 => ?_)
  ·replace hs0_:=Zw c13 hs0_
   refine zQ [8,9] ?_
   refine zW ?_
   exact zEy hs0_
  replace hs0_:=Zv c13 hs0_
  refine zQD [2,3,10,11,12,14,16,76] [none,none] ?_
  refine Zt (t:=(cond (y2.2.1 == 0) true (y4.2.1 == 0))) rfl (fun c12 => ?_) (fun c12 => ?_)
  ·replace hs0_:=Zw c12 hs0_
   refine zQ [8,9] ?_
   refine zW ?_
   exact zEy hs0_
  replace hs0_:=Zv c12 hs0_
  refine zQ [2,3,10,11,12,14] ?_
  obtain ⟨y9,hy9,hs0_⟩:=bC hs0_
  obtain ⟨y10,hy10,hs0_⟩:=bC hs0_
  obtain ⟨l11,pl11,ql11,el11,hs0_⟩:=bA (k:=1) rfl hs0_
  refine Zg2 [] pl11 ql11 el11 ?_
  refine (V9 (i0:=n) (by omega) (by simp only [push_cast,seval,↓reduceIte,Ze,Y6,pl11,ql11,el11,hN0,hN] <;> rfl) hy9).then ?_
  refine zX3 pl11 ql11 el11 ?_
  refine (V9 (i0:=(n+1)) (by omega) (by simp only [push_cast,seval,↓reduceIte,Ze,Y6,pl11,ql11,el11,hN0,hN] <;> rfl) hy10).then ?_
  refine zX3 pl11 ql11 el11 ?_
  exact Zhu hs0_ pl11 ql11 el11
 try simp only [Xh,Yw,↓reduceIte,Nat.reduceEqDiff]
 exact Zlr [(sL Z4 z16.1),(vB z16.2)]
theorem Zom {a0:(List Zh)} {a1:(List Zh)} {r:((List Zz)×Bool)} {O:Objs} {n:Nat} (h:Zdg a0 a1=some r):GTo Try.prog 83 [(sL Zg a0),(sL Zg a1)] O n (.tup [(sL Z4 r.1),(vB r.2)]) O n:=by
 unfold Zdg at h
 refine zFn Try.call83 Try.func83 fun hU hN0 hN => ?_
 show W _ _ _ _ ⟨11,[],[(0,(sL Zg a0)),(1,(sL Zg a1))]⟩ (Zy O n []) _
 refine zQ [0,1] ?_
 refine Zn ?_
 obtain ⟨y2,hy2,h⟩:=bC h
 refine zCd (Zon hy2) [4,5] [] ?_
 exact Xg [(sL Z4 y2.1),(vB y2.2)]
end Go.Proofs.Ytbjcopkgdjombaa
