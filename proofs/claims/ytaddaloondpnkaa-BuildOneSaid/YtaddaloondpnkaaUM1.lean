/- Part UM1 of this seat's mirrors: functions of the seat's program, and the plain functions that they are; each theorem bears its own conditions. -/
import Derived.Test.YtaddaloondpnkaaUE
namespace Go.Proofs.Ytaddaloondpnkaa
open Go.RowKit
set_option linter.unusedVariables false
set_option linter.unusedSimpArgs false
set_option maxRecDepth 100000
set_option maxHeartbeats 4000000
attribute [local push_cast] Zf Z3 Zhy Zhx Ziw Ziv Zj Zh Zel Zai Zah onW Yp Gl Us Zkz Zh2 Zcx Zc1 Zcw Zc0 Zfm Zfi Zcz Zfl Zfk Zfj Zcy Zfg Zaw evS wok Xj Op.operands Call.operands gop onK onP atK List.all_cons List.all_nil Bool.and_true Bool.true_and Bool.and_self Value.oneCell' List.take_zero List.take_succ_cons List.take_nil List.drop_zero List.drop_succ_cons List.drop_nil List.append_nil Nat.add_zero Nat.zero_add Jr Z8 ev Xi Zg1 Zhr Zhq Zhw Zhu Zhv Zhs Zht Zhp Zmq Zov Zql Zdr Vw Zdv Ut Zci Zbl Ul Uq Zag Zac Uo Zaf Zae Zad Un Zaa Um Up Vp Zab Zg3 Zaj Jw Zc6 Jx Zek Zdq Zpr Gd bHi bMx Vy Zei Zrc Zdp Zgd G0 Q6 Zmf Zrh Zc5 Gu Zrj Vv Ztw Zeq Zeu Zep Zet Zii Zie Zic Zck Zer Zih Zig Zif Zes Zh8 Zib Zh7 Zia Zm2 Zmz Zmy Zh9 Zm0 Zm1 Zid Zem Zkr Ze8 Zau Zat pop TK.isAgg Zip Zit Zio Zis Ze2 Znc Zm8 Zir Znb Zna Zm9 Ziq Zm7 G.under G.unders List.getD_cons_zero List.getD_cons_succ List.set_cons_zero List.set_cons_succ List.map_cons List.map_nil List.toList_toArray Array.toList_append Option.toArray_none Option.toArray_some Array.toList_map Option.map_some Option.map_none Option.bind_some Option.bind_none List.getElem?_cons_zero List.getElem?_cons_succ List.getElem?_nil List.nil_append List.cons_append List.replicate_succ List.replicate_zero List.length_cons List.length_nil and_true true_and and_false false_and Bool.true_eq_false Bool.false_eq_true forall_const false_implies implies_true IntKind.bits if_true if_false ite_true ite_false eq_self true_implies false_or or_false or_true true_or not_true_eq_false not_false_eq_true decide_true decide_false decide_eq_true_eq decide_eq_false_iff_not beq_iff_eq bne_iff_ne ne_eq Bool.not_eq_true Bool.not_eq_false beq_eq_false_iff_ne bne_eq_false_iff_eq beq_self_eq_true bne_self_eq_false Option.some.injEq exists_eq_left' exists_eq_left ge_iff_le gt_iff_lt decide_not Bool.not_true Bool.not_false imp_self Zms cond_true cond_false Zx7 Zx6 Bool.not_not Bool.and_false Bool.false_and Bool.or_true Bool.true_or Bool.or_false Bool.false_or Vc Zc3 Gy Ui Jk X8 Option.join_some Nat.add_assoc Int.toNat_natCast eI eB eS eL Ke Za3 Uu Zh1 Zhz Zh0 Zt2 Zvr Zba U1 Zi2 Zi0 Zi1 Zqq Zkq Zon Zhg Zmb Vf Zkw List.length_append G.agg.injEq G.row.injEq G.ref.injEq G.val.injEq G.sl.injEq G.tup.injEq Value.int.injEq Value.bool.injEq Value.string.injEq List.cons.injEq exists_and_left exists_const List.flatten_cons List.flatten_nil Int.le_refl Nat.le_refl Gb Yy Jt Bool.not_eq_true' Bool.not_eq_false' Zkj Zby Zoe Zoi Zod Zoh Ztt Zto List.size_toArray Zmc Zlm G.ren G.rens Zpb Zbu Zi5 Zhn Zho Zfh Zoj Zdt G.fn.injEq Zdn Zf9 Zki Ztp Zf8 Zog Zts Ztr Ztq Zof Zm3 Zrp Option.join_none Zs Jn undef Zgh Arr.len Arr.put_eq Za9 Zco Zaq U0 Ziz Zix Ziy onB Zt1 Zme Ya Zcf Zd5 Zd6 Zd7 Zd8 Zd9 Zea Zcm Zcr Zcp Zas U2 Zcq Ze7 Ze6 Ze5 Ze4 Zt3 Zvq Zqp Zp1 Kc Zqm Zk9 Zcs Zar Zr4 Zln Zdo Zgc Gi Zdl Zeb Zec Zed Zee Zb1 Zb2 Zb3 Zb4 Zb5 Zb6 Zb7 Zb8 Zb9 Zca Zcb Zcc Zcd Zbi prT Zga Zyz Zn3 Zt7 Zn4 Zy0 Zn5 Zy1 Zn6 Zy2 Zn7 Zy3 Zn8 Zy4 Zn9 Zy5 Zoa Zsg Zjc Zsh Zjd Zsi Zje Zsj Zjf Zsk Zjg Zsl Zjh Zsm Zji Zsn Zjj Zso Zjk Zsp Zjl Zsq Zjm Zdx Zbw Zsr Zgm Zss Zjn Vo Zjo Zst Zgn Zsu Zjp Zsv Zjq Zsw Zjr Zsx Zjs Zsy Zjt Zsz Zju Zs0 Zjv Zs1 Zjw U8 Zjx Zs2 Zjy Zs3 Zjz Zs4 Zj0 Zs5 Zj1 Zs6 Zj2 Zs7 Zj3 Zs8 Zj4 Zs9 Zj5 Zta Zj6 Ztb Zj7 Ztc Zj8 Ztd Zj9 Zte Zka Ztf Zkb Ztg Zkc Zth Zkd Zti Zke Ztj Zkf Ztk Zkg Zni Zfn Znj Zfo Znk Zfp Znl Zfq Znm Zfr Znn Zfs Zno Zft Znp Zfu Znq Zfv Znr Zfw Zns Zfx Znt Zfy Znu Zfz Znv Zf0 Znw Zf1 Znx Zf2 Zny Zf3 Znz Zf4 Zn0 Zf5 Zn1 Zf6 Zn2 Zf7 Zo Gc Zaz Zal Zap Za2 Ga U6 U4 Jj K2 K1 Kx Kz K3 J8 J6 J5 K0 Xk X0 Xz Xw Xx X1 Xp Xo Xn Xy Zg Ys Qy Qx Qr Qu Q0 Qk Qj Qi Qv Za0 Zay Zak Zao Za1 U9 U5 U3 Zax Ur Jg
theorem Zvk {a0:Int} {a1:Int} {r:Yg} {O:Objs} {n:Nat}  (h:Zqf a0 a1=some r):GTo Try.prog 23 [.val (.int .i64 a0),.val (.int .i64 a1)] O n (.ref n 0) (Zu O n [some ⟨false,80,3,1,[.row (n+1) r.segments.length,.val (.int .i64 r.size),.val (.int .i64 r.left)]⟩,some ⟨true,22,1,r.segments.length,fl (eL (eI .u64)) r.segments⟩]) (n+2):=by
 unfold Zqf at h
 refine Yt Zd Try.call23 Try.func23 rfl (Nat.le_of_ble_eq_true rfl) (by omega) fun hU => ?_
 have hN0:O n=none:=hU.fresh _ (Nat.le_refl _)
 have hN:∀ k,O (n+k)=none:=fun k=>hU.fresh _ (Nat.le_add_right _ _)
 show W _ _ _ _ ⟨12,[],[(0,.val (.int .i64 a0)),(1,.val (.int .i64 a1))]⟩ (Zu O n []) _
 refine Zl [0,1] (Zb Zd [] ?_)
 simp only [push_cast,seval,↓reduceIte,Za,hN0,hN]
 refine Zl [4] (Zb Zd [] ?_)
 simp only [push_cast,seval,↓reduceIte,Za,hN0,hN]
 refine Zy ?_
 try simp only [Zj,Zh]
 have h:=Option.some.inj h;subst h
 refine Zom (k:=2) (L3:=[some ⟨false,80,3,1,[.row (n+1) ([]:List (List Int)).length,.val (.int .i64 (if a0 < 1 then 1 else a0)),.val (.int .i64 (if 131072 < (if a1 < 0 then 0 else a1) then 131072 else (if a1 < 0 then 0 else a1)))]⟩,some ⟨true,22,1,([]:List (List Int)).length,fl (eL (eI .u64)) ([]:List (List Int))⟩,none]) (E2:=(⟨12,[],[(4,.ref n 0)]⟩:Env)) (n3:=(n+3)) (.inr rfl) hU rfl [.ref n 0] ?_ ?_
 ·refine Fit2.trans (E':=(⟨12,[],[(4,.ref n 0)]⟩:Env)) (O':=(Zu O n [some ⟨false,80,3,1,[.val (.slice none 0 0),.val (.int .i64 (if a0 < 1 then 1 else a0)),.val (.int .i64 (if 131072 < (if a1 < 0 then 0 else a1) then 131072 else (if a1 < 0 then 0 else a1)))]⟩])) (n':=(n+1)) (Fit2.of (Zp hU rfl rfl ?_) (by omega)) ?_
  ·simp only [push_cast,seval,↓reduceIte,Za,hN0,hN]
  refine Fit2.trans (Zml (p:=n) (k:=0) (q:=⟨false,80,3,1,[.val (.slice none 0 0),.val (.int .i64 (if a0 < 1 then 1 else a0)),.val (.int .i64 (if 131072 < (if a1 < 0 then 0 else a1) then 131072 else (if a1 < 0 then 0 else a1)))]⟩) 22 1 (by simp only [Vc,Zc3,List.getElem?_cons_zero,List.getElem?_cons_succ,Option.join_some,List.length_nil,Zs]) rfl (by omega)) ?_
  simp only [Jk,X8,Gy,Ui,List.set_cons_zero,List.set_cons_succ,List.cons_append,List.nil_append,List.length_cons,List.length_nil,Nat.zero_add,Nat.reduceAdd,Nat.reduceLT,Nat.add_assoc]
  refine Zl6 (k:=2) (k':=3) hU [0,1] [0,1,0] rfl rfl rfl rfl ⟨rfl,rfl⟩ ?_
  simp only [push_cast,seval,↓reduceIte,Za,hN0,hN]
 simp only [push_cast,seval,↓reduceIte,Za,Try.results23,hN0,hN]
theorem Zm5 {a0:(Option Yg)} {r:Int} {O:Objs} {n:Nat} (h:Ud a0=some r):GTo Try.prog 142 [(gP Zo a0)] O n (.val (.int .i64 r)) O n:=by
 unfold Ud at h
 refine Yt Zd Try.call142 Try.func142 rfl (Nat.le_of_ble_eq_true rfl) (Nat.le_refl _) fun hU => ?_
 have hN0:O n=none:=hU.fresh _ (Nat.le_refl _)
 have hN:∀ k,O (n+k)=none:=fun k=>hU.fresh _ (Nat.le_add_right _ _)
 show W _ _ _ _ ⟨10,[],[(0,(gP Zo a0))]⟩ (Zu O n []) _
 refine Zl [0] (Zb Zd [] ?_)
 simp only [push_cast,seval,↓reduceIte,Za,hN0,hN]
 refine Zk ?_
 have g2:=Zwo (f:=Zo) (t:=28) Zgn a0
 refine Zl [0,4] (Zb Zd [] ?_)
 simp only [push_cast,seval,↓reduceIte,Za,g2,hN0,hN]
 refine Zq (t:=(Option.isNone a0)) rfl (fun c5 => ?_) (fun c5 => ?_)
 ·replace h:=Yd c5 h
  refine Zl [2] (Zb Zd [] ?_)
  simp only [push_cast,seval,↓reduceIte,Za,hN0,hN]
  refine Zy ?_
  try simp only [Zj,Zh]
  have h:=Option.some.inj h;subst h
  refine Zt (.inr rfl) hU [.val (.int .i64 0)] (by omega) ?_
  simp only [push_cast,seval,↓reduceIte,Za,Try.results142,hN0,hN]
 replace h:=Yc c5 h
 refine Z0 ?_
 try simp only [Zj,Zh]
 refine Zm [0] [] ?_
 simp only [push_cast,seval,↓reduceIte]
 obtain ⟨x4,hx4,h⟩:=bC h
 refine Zl [2] (Zb Zd [] ?_)
 simp only [push_cast,seval,↓reduceIte,Za,hx4,hN0,hN]
 refine Zy ?_
 try simp only [Zj,Zh]
 have h:=Option.some.inj h;subst h
 refine Zt (.inr rfl) hU [.val (.int .i64 (x4.segments.length:Int))] (by omega) ?_
 simp only [push_cast,seval,↓reduceIte,Za,Try.results142,hN0,hN]
theorem Zdk {a0 r:List Int} {O:Objs} {n:Nat} (h:Xa a0=some r):GTo Try.prog 64 [.sl a0.length (fl (eI .u64) a0)] O n (.row n r.length) (Zu O n [some ⟨true,58,1,r.length,fl (eI .u64) r⟩]) (n+1):=by
 have h1:=Zx4 h
 have h2:=Z1d h
 have h3:=Zuz h
 rw [List.nil_append] at h3
 subst h3
 simp only [List.length_nil,Nat.zero_add] at h1 h2
 clear h
 refine Yt Zd Try.call64 Try.func64 rfl (Nat.le_of_ble_eq_true rfl) (by omega) fun hU => ?_
 have hN0:O n=none:=hU.fresh _ (Nat.le_refl _)
 have hN:∀ k,O (n+k)=none:=fun k=>hU.fresh _ (Nat.le_add_right _ _)
 show W _ _ _ _ ⟨8,[],[(0,.sl r.length (fl (eI .u64) r))]⟩ (Zu O n []) _
 refine Zl [0] (Zb Zd [] ?_)
 simp only [push_cast,seval,↓reduceIte,Za,hN0,hN]
 refine Z5b 0 r.length (fl (eI .u64) r) rfl (Nat.le_of_ble_eq_true rfl) (Yr Kh _) fun A c hA => ?_
 refine Zl [0,4] (Zb Zd [] ?_)
 simp only [push_cast,seval,↓reduceIte,Za,hN0,hN]
 cases A with
 | none =>
  obtain rfl:r=[]:=List.eq_nil_of_length_eq_zero (hA rfl)
  refine Zq (t:=true) rfl (fun _ => ?_) (fun hc=>by cases hc)
  refine Zl [2] (Zb Zd [] ?_)
  simp only [push_cast,seval,↓reduceIte,Za,hN0,hN]
  refine Zy ?_
  try simp only [Zj,Zh]
  refine Zom (k:=1) (L3:=[some ⟨true,58,1,0,[]⟩]) (E2:=⟨8,[],[(2,.row n 0),(2,.val (.slice none 0 0))]⟩) (n3:=(n+1)) (.inr rfl) hU rfl [.row n 0] ?_ ?_
  ·have ha:=Zlt (ba:=n) (E:=⟨8,[],[(2,.val (.slice none 0 0))]⟩) (O:=(Zu O n [])) (n:=n) 2 58 1 rfl (by omega)
   simp only [X8] at ha
   exact ha
  simp only [push_cast,seval,↓reduceIte,Za,Try.results64,hN0,hN]
 | some A =>
  refine Zq (t:=false) rfl (fun hc=>by cases hc) (fun _ => ?_)
  refine Z0 ?_
  try simp only [Zj,Zh]
  refine And.intro rfl (And.intro (Nat.le_of_ble_eq_true rfl) ?_)
  refine Zk ?_
  refine Zb Zd [] ?_
  simp only [push_cast,seval,↓reduceIte,Za,h1,h2,hN0,hN]
  refine Zy ?_
  try simp only [Zj,Zh]
  refine Zwk (.inr rfl) hU rfl [.row n r.length] (by omega) ?_
  simp only [push_cast,seval,↓reduceIte,Za,Try.results64,hN0,hN]
theorem Zcn {a0 r:List Int} {O:Objs} {n:Nat} (h:Xa a0=some r):GTo Try.prog 64 [.sl a0.length (fl (eI .u64) a0)] O n (.sl r.length (fl (eI .u64) r)) O n:=by
 refine GTo.freeze (Zdk h) fun hU => ?_
 have hN0:O n=none:=hU.fresh _ (Nat.le_refl _)
 have hN:∀ k,O (n+k)=none:=fun k=>hU.fresh _ (Nat.le_add_right _ _)
 simp only [push_cast,seval,↓reduceIte,Za,hN0,hN]
theorem Yj {a0:(Option Yg)} {a1:Int} {r:Bool} {O:Objs} {n:Nat} (h:Qm a0 a1=some r):GTo Try.prog 124 [(gP Zo a0),.val (.int .i64 a1)] O n (.val (.bool r)) O n:=by
 unfold Qm at h
 refine Yt Zd Try.call124 Try.func124 rfl (Nat.le_of_ble_eq_true rfl) (Nat.le_refl _) fun hU => ?_
 have hN0:O n=none:=hU.fresh _ (Nat.le_refl _)
 have hN:∀ k,O (n+k)=none:=fun k=>hU.fresh _ (Nat.le_add_right _ _)
 show W _ _ _ _ ⟨13,[],[(0,(gP Zo a0)),(1,.val (.int .i64 a1))]⟩ (Zu O n []) _
 refine Zl [0,1] (Zb Zd [] ?_)
 simp only [push_cast,seval,↓reduceIte,Za,hN0,hN]
 obtain ⟨z2,hz2,h⟩:=bC h
 refine Q5 (E':=⟨13,[],[(4,.val (.bool z2))]⟩) (O':=(Zu O n [])) (n0:=n) ?_ ?_
 ·rcases Bool.eq_false_or_eq_true (decide (0≤a1)) with c5 | c5
  ·replace hz2:=Yd c5 hz2
   obtain ⟨y4,hy4,hz2⟩:=bC hz2
   refine Zb Zd (Z5w []) ?_
   simp only [push_cast,seval,↓reduceIte,Za,c5,hN0,hN]
   refine (Zm5 hy4).then ?_
   simp only [push_cast,seval,↓reduceIte,Za,c5,hN0,hN]
   have hz2:=Option.some.inj hz2;subst hz2
   refine And.intro rfl (Fit2.of (Zp hU rfl rfl ?_) (by omega))
   simp only [push_cast,seval,↓reduceIte,Za,c5,hN0,hN]
  replace hz2:=Yc c5 hz2
  refine Zb Zd (Z5u []) ?_
  simp only [push_cast,seval,↓reduceIte,Za,c5,hN0,hN]
  have hz2:=Option.some.inj hz2;subst hz2
  refine And.intro rfl (Fit2.of (Zp hU rfl rfl ?_) (by omega))
  simp only [push_cast,seval,↓reduceIte,Za,c5,hN0,hN]
 refine Zy ?_
 try simp only [Zj,Zh]
 have h:=Option.some.inj h;subst h
 refine Zt (.inr rfl) hU [.val (.bool z2)] (by omega) ?_
 simp only [push_cast,seval,↓reduceIte,Za,Try.results124,hN0,hN]
theorem Gs {a0:(Option Yg)} {a1:Int} {r:Int} {O:Objs} {n:Nat} (h:Jz a0 a1=some r):GTo Try.prog 147 [(gP Zo a0),.val (.int .i64 a1)] O n (.val (.int .i64 r)) O n:=by
 unfold Jz at h
 refine Yt Zd Try.call147 Try.func147 rfl (Nat.le_of_ble_eq_true rfl) (Nat.le_refl _) fun hU => ?_
 have hN0:O n=none:=hU.fresh _ (Nat.le_refl _)
 have hN:∀ k,O (n+k)=none:=fun k=>hU.fresh _ (Nat.le_add_right _ _)
 show W _ _ _ _ ⟨17,[],[(0,(gP Zo a0)),(1,.val (.int .i64 a1))]⟩ (Zu O n []) _
 refine Zl [0,1] (Zb Zd [] ?_)
 simp only [push_cast,seval,↓reduceIte,Za,hN0,hN]
 refine Zk ?_
 refine Zk ?_
 obtain ⟨y2,hy2,h⟩:=bC h
 refine Zb Zd [] ?_
 simp only [push_cast,seval,↓reduceIte,Za,hN0,hN]
 refine (Yj hy2).then ?_
 simp only [push_cast,seval,↓reduceIte,Za,hN0,hN]
 refine Zm [0,1,8] [] ?_
 simp only [push_cast,seval,↓reduceIte]
 refine Zq (t:=(!y2)) rfl (fun c7 => ?_) (fun c7 => ?_)
 ·replace h:=Yd c7 h
  refine Zl [4] (Zb Zd [] ?_)
  simp only [push_cast,seval,↓reduceIte,Za,hN0,hN]
  refine Zy ?_
  try simp only [Zj,Zh]
  have h:=Option.some.inj h;subst h
  refine Zt (.inr rfl) hU [.val (.int .i64 0)] (by omega) ?_
  simp only [push_cast,seval,↓reduceIte,Za,Try.results147,hN0,hN]
 replace h:=Yc c7 h
 refine Z0 ?_
 try simp only [Zj,Zh]
 refine Zm [0,1] [] ?_
 simp only [push_cast,seval,↓reduceIte]
 obtain ⟨x5,hx5,h⟩:=bC h
 obtain ⟨x6,hx6,ax6,bx6,cx6,h⟩:=bE (f:=(eL (eI .u64))) Zdx (fun _=>rfl) (by decide) h
 refine Zl [4] (Zb Zd [] ?_)
 simp only [push_cast,Nat.reduceAdd,Nat.reduceSub,Nat.reduceMul,Nat.reduceLeDiff,Nat.reduceLT,Nat.reduceEqDiff,↓reduceIte,reduceCtorEq,Int.reduceBEq,Int.reduceBNe,Nat.reduceBEq,Int.reduceLE,Int.reduceLT,Int.reduceEq,Int.reduceNe,Int.reduceNeg,Nat.reduceDiv,Nat.reduceMod,Nat.reducePow,Za,hx5,ax6,bx6,cx6,hN0,hN]
 refine Zy ?_
 try simp only [Zj,Zh]
 have h:=Option.some.inj h;subst h
 refine Zt (.inr rfl) hU [.val (.int .i64 (x6.length:Int))] (by omega) ?_
 simp only [push_cast,seval,↓reduceIte,Za,Try.results147,hN0,hN]
theorem Zey {a0:(Option Yg)} {a1:Int} {a2:Int} {a3:Int} {r:Bool} {O:Objs} {n:Nat} (h:Uc a0 a1 a2 a3=some r):GTo Try.prog 141 [(gP Zo a0),.val (.int .i64 a1),.val (.int .i64 a2),.val (.int .i64 a3)] O n (.val (.bool r)) O n:=by
 unfold Uc at h
 refine Yt Zd Try.call141 Try.func141 rfl (Nat.le_of_ble_eq_true rfl) (Nat.le_refl _) fun hU => ?_
 have hN0:O n=none:=hU.fresh _ (Nat.le_refl _)
 have hN:∀ k,O (n+k)=none:=fun k=>hU.fresh _ (Nat.le_add_right _ _)
 show W _ _ _ _ ⟨36,[],[(0,(gP Zo a0)),(1,.val (.int .i64 a1)),(2,.val (.int .i64 a2)),(3,.val (.int .i64 a3))]⟩ (Zu O n []) _
 refine Zl [0,1,2,3] (Zb Zd [] ?_)
 simp only [push_cast,seval,↓reduceIte,Za,hN0,hN]
 obtain ⟨z4,hz4,h⟩:=bC h
 refine Q5 (E':=⟨36,[],[(8,.val (.bool z4))]⟩) (O':=(Zu O n [])) (n0:=n) ?_ ?_
 ·obtain ⟨y8,hy8,hz4⟩:=bC hz4
  rcases Bool.eq_false_or_eq_true y8 with c11 | c11
  ·replace hz4:=Yd c11 hz4
   rcases Bool.eq_false_or_eq_true (decide (0≤a2)) with c12 | c12
   ·replace hz4:=Yd c12 hz4
    try rw [c12] at c11
    rcases Bool.eq_false_or_eq_true (decide (0≤a3)) with c13 | c13
    ·replace hz4:=Yd c13 hz4
     try rw [c13] at c11
     try rw [c13] at c12
     obtain ⟨y9,hy9,hz4⟩:=bC hz4
     rcases Bool.eq_false_or_eq_true (decide (a3≤y9)) with c14 | c14
     ·replace hz4:=Yd c14 hz4
      try rw [c14] at c11
      try rw [c14] at c12
      try rw [c14] at c13
      obtain ⟨y10,hy10,hz4⟩:=bC hz4
      refine Zb Zd (Zw9 (Z4s [])) ?_
      simp only [push_cast,seval,↓reduceIte,Za,c11,c12,c13,c14,hN0,hN]
      repeat (with_reducible refine And.intro (by first | (intro h0;simp only [h0,and_self];done) | (intro h0;simp only [h0,Bool.not_false,Bool.not_true,Bool.true_and,Bool.and_true,true_and,and_true,and_self,imp_self,implies_true,bne_iff_ne,ne_eq,beq_iff_eq];done) | (intros;simp_all;done) | exact True.intro) ?_)
      refine (Yj hy8).then ?_
      simp only [push_cast,seval,↓reduceIte,Za,c11,c12,c13,c14,hN0,hN]
      repeat (with_reducible refine And.intro (by first | (intro h0;simp only [h0,and_self];done) | (intro h0;simp only [h0,Bool.not_false,Bool.not_true,Bool.true_and,Bool.and_true,true_and,and_true,and_self,imp_self,implies_true,bne_iff_ne,ne_eq,beq_iff_eq];done) | (intros;simp_all;done) | exact True.intro) ?_)
      refine (Gs hy9).then ?_
      simp only [push_cast,seval,↓reduceIte,Za,c11,c12,c13,c14,hN0,hN]
      repeat (with_reducible refine And.intro (by first | (intro h0;simp only [h0,and_self];done) | (intro h0;simp only [h0,Bool.not_false,Bool.not_true,Bool.true_and,Bool.and_true,true_and,and_true,and_self,imp_self,implies_true,bne_iff_ne,ne_eq,beq_iff_eq];done) | (intros;simp_all;done) | exact True.intro) ?_)
      refine (Gs hy10).then ?_
      simp only [push_cast,seval,↓reduceIte,Za,c11,c12,c13,c14,hN0,hN]
      repeat (with_reducible refine And.intro (by first | (intro h0;simp only [h0,and_self];done) | (intro h0;simp only [h0,Bool.not_false,Bool.not_true,Bool.true_and,Bool.and_true,true_and,and_true,and_self,imp_self,implies_true,bne_iff_ne,ne_eq,beq_iff_eq];done) | (intros;simp_all;done) | exact True.intro) ?_)
      have hz4:=Option.some.inj hz4;subst hz4
      refine And.intro rfl (Fit2.of (Zp hU rfl rfl ?_) (by omega))
      simp only [push_cast,seval,↓reduceIte,Za,c11,c12,c13,c14,hN0,hN]
     replace hz4:=Yc c14 hz4
     try rw [c14] at c11
     try rw [c14] at c12
     try rw [c14] at c13
     refine Zb Zd (Zw9 (Z5x (Z3w []))) ?_
     simp only [push_cast,seval,↓reduceIte,Za,c11,c12,c13,c14,hN0,hN]
     repeat (with_reducible refine And.intro (by first | (intro h0;simp only [h0,and_self];done) | (intro h0;simp only [h0,Bool.not_false,Bool.not_true,Bool.true_and,Bool.and_true,true_and,and_true,and_self,imp_self,implies_true,bne_iff_ne,ne_eq,beq_iff_eq];done) | (intros;simp_all;done) | exact True.intro) ?_)
     refine (Yj hy8).then ?_
     simp only [push_cast,seval,↓reduceIte,Za,c11,c12,c13,c14,hN0,hN]
     repeat (with_reducible refine And.intro (by first | (intro h0;simp only [h0,and_self];done) | (intro h0;simp only [h0,Bool.not_false,Bool.not_true,Bool.true_and,Bool.and_true,true_and,and_true,and_self,imp_self,implies_true,bne_iff_ne,ne_eq,beq_iff_eq];done) | (intros;simp_all;done) | exact True.intro) ?_)
     refine (Gs hy9).then ?_
     simp only [push_cast,seval,↓reduceIte,Za,c11,c12,c13,c14,hN0,hN]
     repeat (with_reducible refine And.intro (by first | (intro h0;simp only [h0,and_self];done) | (intro h0;simp only [h0,Bool.not_false,Bool.not_true,Bool.true_and,Bool.and_true,true_and,and_true,and_self,imp_self,implies_true,bne_iff_ne,ne_eq,beq_iff_eq];done) | (intros;simp_all;done) | exact True.intro) ?_)
     have hz4:=Option.some.inj hz4;subst hz4
     refine And.intro rfl (Fit2.of (Zp hU rfl rfl ?_) (by omega))
     simp only [push_cast,seval,↓reduceIte,Za,c11,c12,c13,c14,hN0,hN]
    replace hz4:=Yc c13 hz4
    try rw [c13] at c11
    try rw [c13] at c12
    refine Zb Zd (Zw9 (Zzt [])) ?_
    simp only [push_cast,seval,↓reduceIte,Za,c11,c12,c13,hN0,hN]
    repeat (with_reducible refine And.intro (by first | (intro h0;simp only [h0,and_self];done) | (intro h0;simp only [h0,Bool.not_false,Bool.not_true,Bool.true_and,Bool.and_true,true_and,and_true,and_self,imp_self,implies_true,bne_iff_ne,ne_eq,beq_iff_eq];done) | (intros;simp_all;done) | exact True.intro) ?_)
    refine (Yj hy8).then ?_
    simp only [push_cast,seval,↓reduceIte,Za,c11,c12,c13,hN0,hN]
    repeat (with_reducible refine And.intro (by first | (intro h0;simp only [h0,and_self];done) | (intro h0;simp only [h0,Bool.not_false,Bool.not_true,Bool.true_and,Bool.and_true,true_and,and_true,and_self,imp_self,implies_true,bne_iff_ne,ne_eq,beq_iff_eq];done) | (intros;simp_all;done) | exact True.intro) ?_)
    have hz4:=Option.some.inj hz4;subst hz4
    refine And.intro rfl (Fit2.of (Zp hU rfl rfl ?_) (by omega))
    simp only [push_cast,seval,↓reduceIte,Za,c11,c12,c13,hN0,hN]
   replace hz4:=Yc c12 hz4
   try rw [c12] at c11
   refine Zb Zd (Zw9 (Zzt [])) ?_
   simp only [push_cast,seval,↓reduceIte,Za,c11,c12,hN0,hN]
   repeat (with_reducible refine And.intro (by first | (intro h0;simp only [h0,and_self];done) | (intro h0;simp only [h0,Bool.not_false,Bool.not_true,Bool.true_and,Bool.and_true,true_and,and_true,and_self,imp_self,implies_true,bne_iff_ne,ne_eq,beq_iff_eq];done) | (intros;simp_all;done) | exact True.intro) ?_)
   refine (Yj hy8).then ?_
   simp only [push_cast,seval,↓reduceIte,Za,c11,c12,hN0,hN]
   repeat (with_reducible refine And.intro (by first | (intro h0;simp only [h0,and_self];done) | (intro h0;simp only [h0,Bool.not_false,Bool.not_true,Bool.true_and,Bool.and_true,true_and,and_true,and_self,imp_self,implies_true,bne_iff_ne,ne_eq,beq_iff_eq];done) | (intros;simp_all;done) | exact True.intro) ?_)
   have hz4:=Option.some.inj hz4;subst hz4
   refine And.intro rfl (Fit2.of (Zp hU rfl rfl ?_) (by omega))
   simp only [push_cast,seval,↓reduceIte,Za,c11,c12,hN0,hN]
  replace hz4:=Yc c11 hz4
  refine Zb Zd (Zw9 (Zzt [])) ?_
  simp only [push_cast,seval,↓reduceIte,Za,c11,hN0,hN]
  repeat (with_reducible refine And.intro (by first | (intro h0;simp only [h0,and_self];done) | (intro h0;simp only [h0,Bool.not_false,Bool.not_true,Bool.true_and,Bool.and_true,true_and,and_true,and_self,imp_self,implies_true,bne_iff_ne,ne_eq,beq_iff_eq];done) | (intros;simp_all;done) | exact True.intro) ?_)
  refine (Yj hy8).then ?_
  simp only [push_cast,seval,↓reduceIte,Za,c11,hN0,hN]
  repeat (with_reducible refine And.intro (by first | (intro h0;simp only [h0,and_self];done) | (intro h0;simp only [h0,Bool.not_false,Bool.not_true,Bool.true_and,Bool.and_true,true_and,and_true,and_self,imp_self,implies_true,bne_iff_ne,ne_eq,beq_iff_eq];done) | (intros;simp_all;done) | exact True.intro) ?_)
  have hz4:=Option.some.inj hz4;subst hz4
  refine And.intro rfl (Fit2.of (Zp hU rfl rfl ?_) (by omega))
  simp only [push_cast,seval,↓reduceIte,Za,c11,hN0,hN]
 refine Zy ?_
 try simp only [Zj,Zh]
 have h:=Option.some.inj h;subst h
 refine Zt (.inr rfl) hU [.val (.bool z4)] (by omega) ?_
 simp only [push_cast,seval,↓reduceIte,Za,Try.results141,hN0,hN]
theorem Zm6 {a0:(List Int)} {a1:(List Int)} {r:Bool} {O:Objs} {n:Nat} (h:Kk a0 a1=some r):GTo Try.prog 32 [.sl a0.length (fl (eI .u64) a0),.sl a1.length (fl (eI .u64) a1)] O n (.val (.bool r)) O n:=by
 unfold Kk at h
 refine Yt Zd Try.call32 Try.func32 rfl (Nat.le_of_ble_eq_true rfl) (Nat.le_refl _) fun hU => ?_
 have hN0:O n=none:=hU.fresh _ (Nat.le_refl _)
 have hN:∀ k,O (n+k)=none:=fun k=>hU.fresh _ (Nat.le_add_right _ _)
 show W _ _ _ _ ⟨26,[],[(0,.sl a0.length (fl (eI .u64) a0)),(1,.sl a1.length (fl (eI .u64) a1))]⟩ (Zu O n []) _
 refine Zl [0,1] (Zb Zd [] ?_)
 simp only [push_cast,seval,↓reduceIte,Za,hN0,hN]
 refine Zk ?_
 refine Zl [0,1,10] (Zb Zd [] ?_)
 simp only [push_cast,seval,↓reduceIte,Za,hN0,hN]
 refine Zq (t:=((a0.length:Int) != (a1.length:Int))) rfl (fun c8 => ?_) (fun c8 => ?_)
 ·replace h:=Yd c8 h
  refine Zl [4] (Zb Zd [] ?_)
  simp only [push_cast,seval,↓reduceIte,Za,hN0,hN]
  refine Zy ?_
  try simp only [Zj,Zh]
  have h:=Option.some.inj h;subst h
  refine Zt (.inr rfl) hU [.val (.bool false)] (by omega) ?_
  simp only [push_cast,seval,↓reduceIte,Za,Try.results32,hN0,hN]
 replace h:=Yc c8 h
 refine Z0 ?_
 try simp only [Zj,Zh]
 refine Zm [0,1] [] ?_
 simp only [push_cast,seval,↓reduceIte]
 refine Zk ?_
 refine Zl [0,1,5] (Zb Zd [] ?_)
 simp only [push_cast,seval,↓reduceIte,Za,hN0,hN]
 refine Zm [0,1,5] [] ?_
 simp only [push_cast,seval,↓reduceIte]
 obtain ⟨z7,hz7,h⟩:=bC h
 refine Zq0 (J:=(Zgy (fun z7=>JR n (⟨26,[],[(4,.val (.bool false))]⟩:Env) (Zu O n []) n) (fun z7=>JX 0 n (⟨26,[],[]⟩:Env) (Zu O n []) n))) (z:=z7) ?_ fun hw => ?_
 ·refine Jc hz7 (fun s0_=>⟨26,[],[(0,.sl a0.length (fl (eI .u64) a0)),(1,.sl a1.length (fl (eI .u64) a1)),(5,.val (.int .i64 s0_))]⟩) (fun s0_=>(Zu O n [])) (Zgy (fun z7=>JR n (⟨26,[],[(4,.val (.bool false))]⟩:Env) (Zu O n []) n) (fun z7=>JX 0 n (⟨26,[],[]⟩:Env) (Zu O n []) n)) ?_
  intro s0_ x0_ hs0_
  unfold Kl at hs0_
  try dsimp only
  refine Zk ?_
  refine Zl [0,1,5,14] (Zb Zd [] ?_)
  simp only [push_cast,seval,↓reduceIte,Za,hN0,hN]
  refine Zq (t:=(decide (s0_ < (a0.length:Int)))) rfl (fun c6 => ?_) (fun c6 => ?_)
  ·replace hs0_:=Yd c6 hs0_
   refine Z0 ?_
   try simp only [Zj,Zh]
   refine Zm [0,1,5] [] ?_
   simp only [push_cast,seval,↓reduceIte]
   refine Zk ?_
   refine Yk ?_
   obtain ⟨x3,hx3,ax3,bx3,cx3,hs0_⟩:=bE (f:=(eI .u64)) U8 (fun _=>rfl) (by decide) hs0_
   obtain ⟨x4,hx4,ax4,bx4,cx4,hs0_⟩:=bE (f:=(eI .u64)) U8 (fun _=>rfl) (by decide) hs0_
   refine Zl [0,1,5,25] (Gz Zd (by kernel_rfl) [] (by kernel_rfl) ?_)
   simp only [push_cast,Nat.reduceAdd,Nat.reduceSub,Nat.reduceMul,Nat.reduceLeDiff,Nat.reduceLT,Nat.reduceEqDiff,↓reduceIte,reduceCtorEq,Int.reduceBEq,Int.reduceBNe,Nat.reduceBEq,Int.reduceLE,Int.reduceLT,Int.reduceEq,Int.reduceNe,Int.reduceNeg,Nat.reduceDiv,Nat.reduceMod,Nat.reducePow,Za,ax3,bx3,cx3,ax4,bx4,cx4,hN0,hN]
   refine Zq (t:=(x3 != x4)) rfl (fun c5 => ?_) (fun c5 => ?_)
   ·replace hs0_:=Yd c5 hs0_
    refine Zl [4] (Zb Zd [] ?_)
    simp only [push_cast,seval,↓reduceIte,Za,hN0,hN]
    refine Zy ?_
    try simp only [Zj,Zh]
    have hs0_:=Option.some.inj hs0_;subst hs0_
    refine And.intro (fun h=>by cases h) (And.intro rfl (Fit2.of (Zp hU rfl rfl ?_) (by omega)))
    simp only [push_cast,seval,↓reduceIte,Za,hN0,hN]
   replace hs0_:=Yc c5 hs0_
   refine Z0 ?_
   try simp only [Zj,Zh]
   refine Zm [0,1,5] [] ?_
   simp only [push_cast,seval,↓reduceIte]
   refine Zb Zd [] ?_
   simp only [push_cast,seval,↓reduceIte,Za,hN0,hN]
   have hs0_:=Option.some.inj hs0_;subst hs0_
   refine And.intro rfl (Fit2.of (Zp hU rfl rfl ?_) (by omega))
   simp only [push_cast,seval,↓reduceIte,Za,hN0,hN]
  replace hs0_:=Yc c6 hs0_
  refine Jf ?_
  try simp only [Zj,Zh,↓reduceIte,Nat.reduceEqDiff]
  have hs0_:=Option.some.inj hs0_;subst hs0_
  refine And.intro (fun h=>by cases h) (And.intro rfl (Fit2.of (Zp hU rfl rfl ?_) (by omega)))
  simp only [push_cast,seval,↓reduceIte,Za,hN0,hN]
 rcases z7 with z7 | z7
 ·dsimp only [Zgy] at hw h
  refine Zkv hw ?_
  try simp only [Zj,Zh,↓reduceIte,Nat.reduceEqDiff]
  have h:=Option.some.inj h;subst h
  refine Zt (.inr rfl) hU [.val (.bool false)] (by omega) ?_
  simp only [push_cast,seval,↓reduceIte,Za,Try.results32,hN0,hN]
 dsimp only [Zgy] at hw h
 refine X9 hw ?_
 try simp only [Zj,Zh,↓reduceIte,Nat.reduceEqDiff]
 refine Zm [] [] ?_
 simp only [push_cast,seval,↓reduceIte]
 refine Zl [4] (Zb Zd [] ?_)
 simp only [push_cast,seval,↓reduceIte,Za,hN0,hN]
 refine Zy ?_
 try simp only [Zj,Zh]
 have h:=Option.some.inj h;subst h
 refine Zt (.inr rfl) hU [.val (.bool true)] (by omega) ?_
 simp only [push_cast,seval,↓reduceIte,Za,Try.results32,hN0,hN]
theorem Zez {a0:(List (List Int))} {a1:(List (List Int))} {r:Bool} {O:Objs} {n:Nat} (h:Ue a0 a1=some r):GTo Try.prog 10 [.sl a0.length (fl (eL (eI .u64)) a0),.sl a1.length (fl (eL (eI .u64)) a1)] O n (.val (.bool r)) O n:=by
 unfold Ue at h
 refine Yt Zd Try.call10 Try.func10 rfl (Nat.le_of_ble_eq_true rfl) (Nat.le_refl _) fun hU => ?_
 have hN0:O n=none:=hU.fresh _ (Nat.le_refl _)
 have hN:∀ k,O (n+k)=none:=fun k=>hU.fresh _ (Nat.le_add_right _ _)
 show W _ _ _ _ ⟨27,[],[(0,.sl a0.length (fl (eL (eI .u64)) a0)),(1,.sl a1.length (fl (eL (eI .u64)) a1))]⟩ (Zu O n []) _
 refine Zl [0,1] (Zb Zd [] ?_)
 simp only [push_cast,seval,↓reduceIte,Za,hN0,hN]
 refine Zk ?_
 refine Zl [0,1,10] (Zb Zd [] ?_)
 simp only [push_cast,seval,↓reduceIte,Za,hN0,hN]
 refine Zq (t:=((a0.length:Int) != (a1.length:Int))) rfl (fun c10 => ?_) (fun c10 => ?_)
 ·replace h:=Yd c10 h
  refine Zl [4] (Zb Zd [] ?_)
  simp only [push_cast,seval,↓reduceIte,Za,hN0,hN]
  refine Zy ?_
  try simp only [Zj,Zh]
  have h:=Option.some.inj h;subst h
  refine Zt (.inr rfl) hU [.val (.bool false)] (by omega) ?_
  simp only [push_cast,seval,↓reduceIte,Za,Try.results10,hN0,hN]
 replace h:=Yc c10 h
 refine Z0 ?_
 try simp only [Zj,Zh]
 refine Zm [0,1] [] ?_
 simp only [push_cast,seval,↓reduceIte]
 refine Zk ?_
 refine Zl [0,1,5] (Zb Zd [] ?_)
 simp only [push_cast,seval,↓reduceIte,Za,hN0,hN]
 refine Zm [0,1,5] [] ?_
 simp only [push_cast,seval,↓reduceIte]
 obtain ⟨z9,hz9,h⟩:=bC h
 refine Zq0 (J:=(Zgy (fun z9=>JR n (⟨27,[],[(4,.val (.bool false))]⟩:Env) (Zu O n []) n) (fun z9=>JX 0 n (⟨27,[],[]⟩:Env) (Zu O n []) n))) (z:=z9) ?_ fun hw => ?_
 ·refine Jc hz9 (fun s0_=>⟨27,[],[(0,.sl a0.length (fl (eL (eI .u64)) a0)),(1,.sl a1.length (fl (eL (eI .u64)) a1)),(5,.val (.int .i64 s0_))]⟩) (fun s0_=>(Zu O n [])) (Zgy (fun z9=>JR n (⟨27,[],[(4,.val (.bool false))]⟩:Env) (Zu O n []) n) (fun z9=>JX 0 n (⟨27,[],[]⟩:Env) (Zu O n []) n)) ?_
  intro s0_ x0_ hs0_
  unfold Km at hs0_
  try dsimp only
  refine Zk ?_
  refine Zl [0,1,5,14] (Zb Zd [] ?_)
  simp only [push_cast,seval,↓reduceIte,Za,hN0,hN]
  refine Zq (t:=(decide (s0_ < (a0.length:Int)))) rfl (fun c8 => ?_) (fun c8 => ?_)
  ·replace hs0_:=Yd c8 hs0_
   refine Z0 ?_
   try simp only [Zj,Zh]
   refine Zm [0,1,5] [] ?_
   simp only [push_cast,seval,↓reduceIte]
   refine Zk ?_
   refine Yk ?_
   refine Zk ?_
   obtain ⟨x4,hx4,ax4,bx4,cx4,hs0_⟩:=bE (f:=(eL (eI .u64))) Zdx (fun _=>rfl) (by decide) hs0_
   obtain ⟨x5,hx5,ax5,bx5,cx5,hs0_⟩:=bE (f:=(eL (eI .u64))) Zdx (fun _=>rfl) (by decide) hs0_
   obtain ⟨y6,hy6,hs0_⟩:=bC hs0_
   refine Gz Zd (by kernel_rfl) [] (by kernel_rfl) ?_
   simp only [push_cast,Nat.reduceAdd,Nat.reduceSub,Nat.reduceMul,Nat.reduceLeDiff,Nat.reduceLT,Nat.reduceEqDiff,↓reduceIte,reduceCtorEq,Int.reduceBEq,Int.reduceBNe,Nat.reduceBEq,Int.reduceLE,Int.reduceLT,Int.reduceEq,Int.reduceNe,Int.reduceNeg,Nat.reduceDiv,Nat.reduceMod,Nat.reducePow,Za,ax4,bx4,cx4,ax5,bx5,cx5,hN0,hN]
   refine PCall.of (Zm6 hy6) ?_
   simp only [push_cast,Nat.reduceAdd,Nat.reduceSub,Nat.reduceMul,Nat.reduceLeDiff,Nat.reduceLT,Nat.reduceEqDiff,↓reduceIte,reduceCtorEq,Int.reduceBEq,Int.reduceBNe,Nat.reduceBEq,Int.reduceLE,Int.reduceLT,Int.reduceEq,Int.reduceNe,Int.reduceNeg,Nat.reduceDiv,Nat.reduceMod,Nat.reducePow,Za,ax4,bx4,cx4,ax5,bx5,cx5,hN0,hN]
   refine Zm [0,1,5,26] [] ?_
   simp only [push_cast,seval,↓reduceIte]
   refine Zq (t:=(!y6)) rfl (fun c7 => ?_) (fun c7 => ?_)
   ·replace hs0_:=Yd c7 hs0_
    refine Zl [4] (Zb Zd [] ?_)
    simp only [push_cast,seval,↓reduceIte,Za,hN0,hN]
    refine Zy ?_
    try simp only [Zj,Zh]
    have hs0_:=Option.some.inj hs0_;subst hs0_
    refine And.intro (fun h=>by cases h) (And.intro rfl (Fit2.of (Zp hU rfl rfl ?_) (by omega)))
    simp only [push_cast,seval,↓reduceIte,Za,hN0,hN]
   replace hs0_:=Yc c7 hs0_
   refine Z0 ?_
   try simp only [Zj,Zh]
   refine Zm [0,1,5] [] ?_
   simp only [push_cast,seval,↓reduceIte]
   refine Zb Zd [] ?_
   simp only [push_cast,seval,↓reduceIte,Za,hN0,hN]
   have hs0_:=Option.some.inj hs0_;subst hs0_
   refine And.intro rfl (Fit2.of (Zp hU rfl rfl ?_) (by omega))
   simp only [push_cast,seval,↓reduceIte,Za,hN0,hN]
  replace hs0_:=Yc c8 hs0_
  refine Jf ?_
  try simp only [Zj,Zh,↓reduceIte,Nat.reduceEqDiff]
  have hs0_:=Option.some.inj hs0_;subst hs0_
  refine And.intro (fun h=>by cases h) (And.intro rfl (Fit2.of (Zp hU rfl rfl ?_) (by omega)))
  simp only [push_cast,seval,↓reduceIte,Za,hN0,hN]
 rcases z9 with z9 | z9
 ·dsimp only [Zgy] at hw h
  refine Zkv hw ?_
  try simp only [Zj,Zh,↓reduceIte,Nat.reduceEqDiff]
  have h:=Option.some.inj h;subst h
  refine Zt (.inr rfl) hU [.val (.bool false)] (by omega) ?_
  simp only [push_cast,seval,↓reduceIte,Za,Try.results10,hN0,hN]
 dsimp only [Zgy] at hw h
 refine X9 hw ?_
 try simp only [Zj,Zh,↓reduceIte,Nat.reduceEqDiff]
 refine Zm [] [] ?_
 simp only [push_cast,seval,↓reduceIte]
 refine Zl [4] (Zb Zd [] ?_)
 simp only [push_cast,seval,↓reduceIte,Za,hN0,hN]
 refine Zy ?_
 try simp only [Zj,Zh]
 have h:=Option.some.inj h;subst h
 refine Zt (.inr rfl) hU [.val (.bool true)] (by omega) ?_
 simp only [push_cast,seval,↓reduceIte,Za,Try.results10,hN0,hN]
theorem Zin {Qc:(Zc→Int→Int→Option Int)} (Zha:∀ {a0:Zc} {a1:Int} {a2:Int} {r:Int} {O:Objs} {n:Nat},Qc a0 a1 a2=some r→GTo Try.prog 21 [.agg (Zf a0),.val (.int .i64 a1),.val (.int .i64 a2)] O n (.val (.int .i64 r)) O n) {a0:Zc} {a1:Int} {a2:Int} {r:Int} {O:Objs} {n:Nat} (h:Y3 Qc a0 a1 a2=some r):GTo Try.prog 21 [.agg (Zf a0),.val (.int .i64 a1),.val (.int .i64 a2)] O n (.val (.int .i64 r)) O n:=by
 unfold Y3 at h
 refine Yt Zd Try.call21 Try.func21 rfl (Nat.le_of_ble_eq_true rfl) (Nat.le_refl _) fun hU => ?_
 have hN0:O n=none:=hU.fresh _ (Nat.le_refl _)
 have hN:∀ k,O (n+k)=none:=fun k=>hU.fresh _ (Nat.le_add_right _ _)
 show W _ _ _ _ ⟨41,[],[(0,.agg (Zf a0)),(1,.val (.int .i64 a1)),(2,.val (.int .i64 a2))]⟩ (Zu O n []) _
 refine Zl [1,2,3] (Zb Zd [] ?_)
 simp only [push_cast,seval,↓reduceIte,Za,hN0,hN]
 refine Zl [1,2,3] (Zb Zd [] ?_)
 simp only [push_cast,seval,↓reduceIte,Za,hN0,hN]
 refine Zk ?_
 refine Zl [1,2,3,19] (Zb Zd [none,none] ?_)
 simp only [push_cast,seval,↓reduceIte,Za,hN0,hN]
 repeat (with_reducible refine And.intro (by first | (intro h0;simp only [h0,and_self];done) | (intro h0;simp only [h0,Bool.not_false,Bool.not_true,Bool.true_and,Bool.and_true,true_and,and_true,and_self,imp_self,implies_true,bne_iff_ne,ne_eq,beq_iff_eq];done) | (intros;simp_all;done) | exact True.intro) ?_)
 refine Zq (t:=(cond (a1 == 0) true (decide ((IntKind.i64.wrap ((IntKind.i64.wrap (a2 - 1)) - (a0.Words.length:Int))) < 0)))) rfl (fun c5 => ?_) (fun c5 => ?_)
 ·replace h:=Yd c5 h
  refine Zl [6] (Zb Zd [] ?_)
  simp only [push_cast,seval,↓reduceIte,Za,hN0,hN]
  refine Zy ?_
  try simp only [Zj,Zh]
  have h:=Option.some.inj h;subst h
  refine Zt (.inr rfl) hU [.val (.int .i64 (-1))] (by omega) ?_
  simp only [push_cast,seval,↓reduceIte,Za,Try.results21,hN0,hN]
 replace h:=Yc c5 h
 refine Z0 ?_
 try simp only [Zj,Zh]
 refine Zm [1,2,3] [true] ?_
 simp only [push_cast,seval,↓reduceIte]
 refine Zk ?_
 refine Zl [1,2,3,7] (Zb Zd [] ?_)
 simp only [push_cast,seval,↓reduceIte,Za,hN0,hN]
 refine Zm [1,2,3,7] [true] ?_
 simp only [push_cast,seval,↓reduceIte]
 obtain ⟨z4,hz4,h⟩:=bC h
 refine X9 (E':=⟨41,[],[(2,.val (.int .i64 z4))]⟩) (O':=(Zu O n [none])) (n0:=(n+1)) ?_ ?_
 ·refine Jc hz4 (fun s0_=>⟨41,[],[(1,.val (.int .i64 a1)),(2,.val (.int .i64 s0_.1)),(3,.ref n 0),(7,.val (.int .i64 s0_.2))]⟩) (fun s0_=>(Zu O n [some ⟨false,25,3,1,(Zf a0)⟩])) (fun z4=>JX 0 n (⟨41,[],[(2,.val (.int .i64 z4))]⟩:Env) (Zu O n [none]) (n+1)) ?_
  intro s0_ x0_ hs0_
  unfold Y0 at hs0_
  try dsimp only
  refine Zk ?_
  refine Zl [1,2,3,7,28] (Zb Zd [none,none] ?_)
  simp only [push_cast,seval,↓reduceIte,Za,hN0,hN]
  repeat (with_reducible refine And.intro (by first | (intro h0;simp only [h0,and_self];done) | (intro h0;simp only [h0,Bool.not_false,Bool.not_true,Bool.true_and,Bool.and_true,true_and,and_true,and_self,imp_self,implies_true,bne_iff_ne,ne_eq,beq_iff_eq];done) | (intros;simp_all;done) | exact True.intro) ?_)
  refine Zq (t:=(cond (decide (s0_.2 < (a0.Kids.length:Int))) (decide (0≤s0_.1)) false)) rfl (fun c3 => ?_) (fun c3 => ?_)
  ·replace hs0_:=Yd c3 hs0_
   refine Z0 ?_
   try simp only [Zj,Zh]
   refine Zm [1,2,3,7] [true] ?_
   simp only [push_cast,seval,↓reduceIte]
   refine Zk ?_
   refine Yk ?_
   obtain ⟨x1,hx1,ax1,bx1,cx1,hs0_⟩:=bE (f:=Zg) Vo (fun _=>rfl) (by decide) hs0_
   obtain ⟨y2,hy2,hs0_⟩:=bC hs0_
   refine Zb Zd [] ?_
   simp only [push_cast,Nat.reduceAdd,Nat.reduceSub,Nat.reduceMul,Nat.reduceLeDiff,Nat.reduceLT,Nat.reduceEqDiff,↓reduceIte,reduceCtorEq,Int.reduceBEq,Int.reduceBNe,Nat.reduceBEq,Int.reduceLE,Int.reduceLT,Int.reduceEq,Int.reduceNe,Int.reduceNeg,Nat.reduceDiv,Nat.reduceMod,Nat.reducePow,Za,ax1,bx1,cx1,hN0,hN]
   refine (Zha hy2).then ?_
   simp only [push_cast,Nat.reduceAdd,Nat.reduceSub,Nat.reduceMul,Nat.reduceLeDiff,Nat.reduceLT,Nat.reduceEqDiff,↓reduceIte,reduceCtorEq,Int.reduceBEq,Int.reduceBNe,Nat.reduceBEq,Int.reduceLE,Int.reduceLT,Int.reduceEq,Int.reduceNe,Int.reduceNeg,Nat.reduceDiv,Nat.reduceMod,Nat.reducePow,Za,ax1,bx1,cx1,hN0,hN]
   refine Zm [1,2,3,7] [true] ?_
   simp only [push_cast,seval,↓reduceIte]
   refine Zb Zd [] ?_
   simp only [push_cast,seval,↓reduceIte,Za,hN0,hN]
   have hs0_:=Option.some.inj hs0_;subst hs0_
   refine And.intro rfl (Fit2.of (Zp hU rfl rfl ?_) (by omega))
   simp only [push_cast,seval,↓reduceIte,Za,hN0,hN]
  replace hs0_:=Yc c3 hs0_
  refine Jf ?_
  try simp only [Zj,Zh,↓reduceIte,Nat.reduceEqDiff]
  have hs0_:=Option.some.inj hs0_;subst hs0_
  refine And.intro (fun h=>by cases h) (And.intro rfl (Fit2.of (Zp hU rfl rfl ?_) (by omega)))
  simp only [push_cast,seval,↓reduceIte,Za,hN0,hN]
 try simp only [Zj,Zh,↓reduceIte,Nat.reduceEqDiff]
 refine Zm [2] [false] ?_
 simp only [push_cast,seval,↓reduceIte]
 refine Zl [6] (Zb Zd [] ?_)
 simp only [push_cast,seval,↓reduceIte,Za,hN0,hN]
 refine Zy ?_
 try simp only [Zj,Zh]
 have h:=Option.some.inj h;subst h
 refine Zt (.inr rfl) hU [.val (.int .i64 z4)] (by omega) ?_
 simp only [push_cast,seval,↓reduceIte,Za,Try.results21,hN0,hN]
theorem Zgs:∀ k,(∀ {a0:Zc} {a1:Int} {a2:Int} {r:Int} {O:Objs} {n:Nat},(Yf k) a0 a1 a2=some r→GTo Try.prog 21 [.agg (Zf a0),.val (.int .i64 a1),.val (.int .i64 a2)] O n (.val (.int .i64 r)) O n):=fun k=>by
 induction k with
 | zero=>exact @fun a0 a1 a2 r O n h=>(nomatch (show (none:Option _)=some _ from h))
 | succ k ih=>exact @fun a0 a1 a2 r O n h=>Zin (ih)  h
theorem Zks {a0:Zc} {a1:Int} {a2:Int} {r:Int} {O:Objs} {n:Nat} (h:Uw a0 a1 a2=some r):GTo Try.prog 21 [.agg (Zf a0),.val (.int .i64 a1),.val (.int .i64 a2)] O n (.val (.int .i64 r)) O n:=by
 obtain ⟨k,hk⟩:=Zk8 h
 exact (Zgs k)  hk
theorem Zoz {a0:Zc} {r:Bool} {O:Objs} {n:Nat} (h:Gg a0=some r):GTo Try.prog 6 [.agg (Zf a0)] O n (.val (.bool r)) O n:=by
 unfold Gg at h
 refine Yt Zd Try.call6 Try.func6 rfl (Nat.le_of_ble_eq_true rfl) (Nat.le_refl _) fun hU => ?_
 have hN0:O n=none:=hU.fresh _ (Nat.le_refl _)
 have hN:∀ k,O (n+k)=none:=fun k=>hU.fresh _ (Nat.le_add_right _ _)
 show W _ _ _ _ ⟨6,[],[(0,.agg (Zf a0))]⟩ (Zu O n []) _
 refine Zl [1] (Zb Zd [] ?_)
 simp only [push_cast,seval,↓reduceIte,Za,hN0,hN]
 refine Zk ?_
 obtain ⟨y2,hy2,h⟩:=bC h
 refine Zb Zd [] ?_
 simp only [push_cast,seval,↓reduceIte,Za,hN0,hN]
 refine (Zks hy2).then ?_
 simp only [push_cast,seval,↓reduceIte,Za,hN0,hN]
 refine Zm [2] [false] ?_
 simp only [push_cast,seval,↓reduceIte]
 refine Zy ?_
 try simp only [Zj,Zh]
 have h:=Option.some.inj h;subst h
 refine Zt (.inr rfl) hU [.val (.bool (decide (0≤y2)))] (by omega) ?_
 simp only [push_cast,seval,↓reduceIte,Za,Try.results6,hN0,hN]
theorem Zvn {a0:Int} {r:Bool} {O:Objs} {n:Nat} (h:Zdg a0=some r):GTo Try.prog 84 [.val (.int .i64 a0)] O n (.val (.bool r)) O n:=by
 unfold Zdg at h
 refine Yt Zd Try.call84 Try.func84 rfl (Nat.le_of_ble_eq_true rfl) (Nat.le_refl _) fun hU => ?_
 have hN0:O n=none:=hU.fresh _ (Nat.le_refl _)
 have hN:∀ k,O (n+k)=none:=fun k=>hU.fresh _ (Nat.le_add_right _ _)
 show W _ _ _ _ ⟨9,[],[(0,.val (.int .i64 a0))]⟩ (Zu O n []) _
 refine Zl [0] (Zb Zd [] ?_)
 simp only [push_cast,seval,↓reduceIte,Za,hN0,hN]
 refine Zl [2] (Zb Zd [none,none] ?_)
 simp only [push_cast,seval,↓reduceIte,Za,hN0,hN]
 repeat (with_reducible refine And.intro (by first | (intro h0;simp only [h0,and_self];done) | (intro h0;simp only [h0,Bool.not_false,Bool.not_true,Bool.true_and,Bool.and_true,true_and,and_true,and_self,imp_self,implies_true,bne_iff_ne,ne_eq,beq_iff_eq];done) | (intros;simp_all;done) | exact True.intro) ?_)
 refine Zy ?_
 try simp only [Zj,Zh]
 have h:=Option.some.inj h;subst h
 refine Zt (.inr rfl) hU [.val (.bool (cond (decide (2≤a0)) (decide (a0≤9)) false))] (by omega) ?_
 simp only [push_cast,seval,↓reduceIte,Za,Try.results84,hN0,hN]
theorem Ze0 {a0:(List Zc)} {r:Bool} {O:Objs} {n:Nat} (h:Kp a0=some r):GTo Try.prog 85 [.sl a0.length (fl Zg a0)] O n (.val (.bool r)) O n:=by
 unfold Kp at h
 refine Yt Zd Try.call85 Try.func85 rfl (Nat.le_of_ble_eq_true rfl) (Nat.le_refl _) fun hU => ?_
 have hN0:O n=none:=hU.fresh _ (Nat.le_refl _)
 have hN:∀ k,O (n+k)=none:=fun k=>hU.fresh _ (Nat.le_add_right _ _)
 show W _ _ _ _ ⟨15,[],[(0,.sl a0.length (fl Zg a0))]⟩ (Zu O n []) _
 refine Zl [0] (Zb Zd [] ?_)
 simp only [push_cast,seval,↓reduceIte,Za,hN0,hN]
 refine Zk ?_
 refine Zl [5,6,7] (Zb Zd [] ?_)
 simp only [push_cast,seval,↓reduceIte,Za,hN0,hN]
 refine Zm [5,6,7] [] ?_
 simp only [push_cast,seval,↓reduceIte]
 obtain ⟨z5,hz5,h⟩:=bC h
 refine Zq0 (J:=(Zgy (fun z5=>JR n (⟨15,[],[(2,.val (.bool false))]⟩:Env) (Zu O n []) n) (fun z5=>JX 0 n (⟨15,[],[]⟩:Env) (Zu O n []) n))) (z:=z5) ?_ fun hw => ?_
 ·refine Jc hz5 (fun s0_=>⟨15,[],[(5,.sl a0.length (fl Zg a0)),(6,.val (.int .i64 (a0.length:Int))),(7,.val (.int .i64 s0_))]⟩) (fun s0_=>(Zu O n [])) (Zgy (fun z5=>JR n (⟨15,[],[(2,.val (.bool false))]⟩:Env) (Zu O n []) n) (fun z5=>JX 0 n (⟨15,[],[]⟩:Env) (Zu O n []) n)) ?_
  intro s0_ x0_ hs0_
  unfold Ja at hs0_
  try dsimp only
  refine Zl [5,6,7,8] (Zb Zd [] ?_)
  simp only [push_cast,seval,↓reduceIte,Za,hN0,hN]
  refine Zk ?_
  refine Zq (t:=(decide (s0_ < (a0.length:Int)))) rfl (fun c4 => ?_) (fun c4 => ?_)
  ·replace hs0_:=Yd c4 hs0_
   refine Z0 ?_
   try simp only [Zj,Zh]
   refine Zm [5,6,7] [] ?_
   simp only [push_cast,seval,↓reduceIte]
   refine Zk ?_
   refine Yk ?_
   refine Zk ?_
   obtain ⟨x2,hx2,ax2,bx2,cx2,hs0_⟩:=bE (f:=Zg) Vo (fun _=>rfl) (by decide) hs0_
   refine Zb Zd [] ?_
   simp only [push_cast,Nat.reduceAdd,Nat.reduceSub,Nat.reduceMul,Nat.reduceLeDiff,Nat.reduceLT,Nat.reduceEqDiff,↓reduceIte,reduceCtorEq,Int.reduceBEq,Int.reduceBNe,Nat.reduceBEq,Int.reduceLE,Int.reduceLT,Int.reduceEq,Int.reduceNe,Int.reduceNeg,Nat.reduceDiv,Nat.reduceMod,Nat.reducePow,Za,ax2,bx2,cx2,hN0,hN]
   refine Zm [4,5,6,7] [true] ?_
   simp only [push_cast,seval,↓reduceIte]
   refine Zl [5,6,7,13] (Zb Zd [] ?_)
   simp only [push_cast,seval,↓reduceIte,Za,hN0,hN]
   refine Zq (t:=(x2.Kind != 1)) rfl (fun c3 => ?_) (fun c3 => ?_)
   ·replace hs0_:=Yd c3 hs0_
    refine Zl [2] (Zb Zd [] ?_)
    simp only [push_cast,seval,↓reduceIte,Za,hN0,hN]
    refine Zy ?_
    try simp only [Zj,Zh]
    have hs0_:=Option.some.inj hs0_;subst hs0_
    refine And.intro (fun h=>by cases h) (And.intro rfl (Fit2.of (Zp hU rfl rfl ?_) (by omega)))
    simp only [push_cast,seval,↓reduceIte,Za,hN0,hN]
   replace hs0_:=Yc c3 hs0_
   refine Z0 ?_
   try simp only [Zj,Zh]
   refine Zm [5,6,7] [false] ?_
   simp only [push_cast,seval,↓reduceIte]
   refine Zb Zd [] ?_
   simp only [push_cast,seval,↓reduceIte,Za,hN0,hN]
   have hs0_:=Option.some.inj hs0_;subst hs0_
   refine And.intro rfl (Fit2.of (Zp hU rfl rfl ?_) (by omega))
   simp only [push_cast,seval,↓reduceIte,Za,hN0,hN]
  replace hs0_:=Yc c4 hs0_
  refine Jf ?_
  try simp only [Zj,Zh,↓reduceIte,Nat.reduceEqDiff]
  have hs0_:=Option.some.inj hs0_;subst hs0_
  refine And.intro (fun h=>by cases h) (And.intro rfl (Fit2.of (Zp hU rfl rfl ?_) (by omega)))
  simp only [push_cast,seval,↓reduceIte,Za,hN0,hN]
 rcases z5 with z5 | z5
 ·dsimp only [Zgy] at hw h
  refine Zkv hw ?_
  try simp only [Zj,Zh,↓reduceIte,Nat.reduceEqDiff]
  have h:=Option.some.inj h;subst h
  refine Zt (.inr rfl) hU [.val (.bool false)] (by omega) ?_
  simp only [push_cast,seval,↓reduceIte,Za,Try.results85,hN0,hN]
 dsimp only [Zgy] at hw h
 refine X9 hw ?_
 try simp only [Zj,Zh,↓reduceIte,Nat.reduceEqDiff]
 refine Zm [] [] ?_
 simp only [push_cast,seval,↓reduceIte]
 refine Zl [2] (Zb Zd [] ?_)
 simp only [push_cast,seval,↓reduceIte,Za,hN0,hN]
 refine Zy ?_
 try simp only [Zj,Zh]
 have h:=Option.some.inj h;subst h
 refine Zt (.inr rfl) hU [.val (.bool true)] (by omega) ?_
 simp only [push_cast,seval,↓reduceIte,Za,Try.results85,hN0,hN]
theorem Zgv {a0:Int} {r:(Int×Bool)} {O:Objs} {n:Nat} (h:Jp a0=some r):GTo Try.prog 127 [.val (.int .i64 a0)] O n (.tup [.val (.int .i64 r.1),.val (.bool r.2)]) O n:=by
 unfold Jp at h
 refine Yt Zd Try.call127 Try.func127 rfl (Nat.le_of_ble_eq_true rfl) (Nat.le_refl _) fun hU => ?_
 have hN0:O n=none:=hU.fresh _ (Nat.le_refl _)
 have hN:∀ k,O (n+k)=none:=fun k=>hU.fresh _ (Nat.le_add_right _ _)
 show W _ _ _ _ ⟨15,[],[(0,.val (.int .i64 a0))]⟩ (Zu O n []) _
 refine Zl [0] (Zb Zd [] ?_)
 simp only [push_cast,seval,↓reduceIte,Za,hN0,hN]
 refine Zk ?_
 obtain ⟨y6,hy6,ey6,h⟩:=bY (f:=(eI .i64)) (cs:=[.val (.int .i64 0),.val (.int .i64 1),.val (.int .i64 8),.val (.int .i64 16),.val (.int .i64 32),.val (.int .i64 64)]) rfl h
 have g7:=congrArg G.agg ey6
 obtain ⟨y8,hy8,ey8,h⟩:=bY (f:=(eI .i64)) (cs:=[.val (.int .i64 0),.val (.int .i64 0),.val (.int .i64 0),.val (.int .i64 0),.val (.int .i64 0),.val (.int .i64 0)]) rfl h
 have g9:=congrArg (GObj.mk false 185 6 1) ey8
 have g10:=Zri (f:=(eI .i64)) y8 y6 (fun _=>rfl)
 refine Zb Zd [] ?_
 simp only [push_cast,seval,↓reduceIte,Za,g7,g9,g10,hN0,hN]
 refine Zm [0,4] [true] ?_
 simp only [push_cast,seval,↓reduceIte]
 refine Zk ?_
 refine Zl [0,4,11] (Zb Zd [none,none] ?_)
 simp only [push_cast,seval,↓reduceIte,Za,hN0,hN]
 repeat (with_reducible refine And.intro (by first | (intro h0;simp only [h0,and_self];done) | (intro h0;simp only [h0,Bool.not_false,Bool.not_true,Bool.true_and,Bool.and_true,true_and,and_true,and_self,imp_self,implies_true,bne_iff_ne,ne_eq,beq_iff_eq];done) | (intros;simp_all;done) | exact True.intro) ?_)
 refine Zq (t:=(cond (decide (a0 < 0)) true (decide (6≤a0)))) rfl (fun c13 => ?_) (fun c13 => ?_)
 ·replace h:=Yd c13 h
  refine Zl [2,3] (Zb Zd [] ?_)
  simp only [push_cast,seval,↓reduceIte,Za,hN0,hN]
  refine Zy ?_
  try simp only [Zj,Zh]
  have h:=Option.some.inj h;subst h
  refine Zt (.inr rfl) hU [.val (.int .i64 0),.val (.bool false)] (by omega) ?_
  simp only [push_cast,seval,↓reduceIte,Za,Try.results127,hN0,hN]
 replace h:=Yc c13 h
 refine Z0 ?_
 try simp only [Zj,Zh]
 refine Zm [0,4] [true] ?_
 simp only [push_cast,seval,↓reduceIte]
 obtain ⟨x12,hx12,ax12,bx12,cx12,h⟩:=bEA (f:=(eI .i64)) (b:=6) rfl Zt7 (fun _=>rfl) (by decide) h
 refine Zl [2,3] (Zb Zd [] ?_)
 simp only [push_cast,Nat.reduceAdd,Nat.reduceSub,Nat.reduceMul,Nat.reduceLeDiff,Nat.reduceLT,Nat.reduceEqDiff,↓reduceIte,reduceCtorEq,Int.reduceBEq,Int.reduceBNe,Nat.reduceBEq,Int.reduceLE,Int.reduceLT,Int.reduceEq,Int.reduceNe,Int.reduceNeg,Nat.reduceDiv,Nat.reduceMod,Nat.reducePow,Za,ax12,bx12,cx12,hN0,hN]
 refine Zy ?_
 try simp only [Zj,Zh]
 have h:=Option.some.inj h;subst h
 refine Zt (.inr rfl) hU [.val (.int .i64 x12),.val (.bool true)] (by omega) ?_
 simp only [push_cast,seval,↓reduceIte,Za,Try.results127,hN0,hN]
theorem Zo2 {a0:Int} {a1:Int} {r:Bool} {O:Objs} {n:Nat} (h:Za6 a0 a1=some r):GTo Try.prog 122 [.val (.int .i64 a0),.val (.int .u64 a1)] O n (.val (.bool r)) O n:=by
 unfold Za6 at h
 refine Yt Zd Try.call122 Try.func122 rfl (Nat.le_of_ble_eq_true rfl) (Nat.le_refl _) fun hU => ?_
 have hN0:O n=none:=hU.fresh _ (Nat.le_refl _)
 have hN:∀ k,O (n+k)=none:=fun k=>hU.fresh _ (Nat.le_add_right _ _)
 show W _ _ _ _ ⟨19,[],[(0,.val (.int .i64 a0)),(1,.val (.int .u64 a1))]⟩ (Zu O n []) _
 refine Zl [0,1] (Zb Zd [] ?_)
 simp only [push_cast,seval,↓reduceIte,Za,hN0,hN]
 refine Zk ?_
 obtain ⟨y2,hy2,h⟩:=bC h
 refine Zb Zd [] ?_
 simp only [push_cast,seval,↓reduceIte,Za,hN0,hN]
 refine (Zgv hy2).then ?_
 simp only [push_cast,seval,↓reduceIte,Za,hN0,hN]
 refine Zm [1,5,6] [] ?_
 simp only [push_cast,seval,↓reduceIte]
 obtain ⟨z4,hz4,h⟩:=bC h
 refine Q5 (E':=⟨19,[],[(4,.val (.bool z4))]⟩) (O':=(Zu O n [])) (n0:=n) ?_ ?_
 ·rcases Bool.eq_false_or_eq_true y2.2 with c7 | c7
  ·replace hz4:=Yd c7 hz4
   obtain ⟨pu6,hz4⟩:=bG hz4
   refine Zb Zd (Z5w []) ?_
   simp only [push_cast,seval,↓reduceIte,Za,c7,pu6,hN0,hN]
   have hz4:=Option.some.inj hz4;subst hz4
   refine And.intro rfl (Fit2.of (Zp hU rfl rfl ?_) (by omega))
   simp only [push_cast,seval,↓reduceIte,Za,c7,pu6,hN0,hN]
  replace hz4:=Yc c7 hz4
  refine Zb Zd (Z5u []) ?_
  simp only [push_cast,seval,↓reduceIte,Za,c7,hN0,hN]
  have hz4:=Option.some.inj hz4;subst hz4
  refine And.intro rfl (Fit2.of (Zp hU rfl rfl ?_) (by omega))
  simp only [push_cast,seval,↓reduceIte,Za,c7,hN0,hN]
 refine Zy ?_
 try simp only [Zj,Zh]
 have h:=Option.some.inj h;subst h
 refine Zt (.inr rfl) hU [.val (.bool z4)] (by omega) ?_
 simp only [push_cast,seval,↓reduceIte,Za,Try.results122,hN0,hN]
theorem Zry {Yo:(Zc→Option Bool)} {Yn:(Zc→Int→Option Bool)} {Yh:((List Zc)→Int→Option Bool)} {Yi:((List Zc)→Int→Option Bool)} (V3:∀ {a0:Zc} {r:Bool} {O:Objs} {n:Nat},Yo a0=some r→GTo Try.prog 22 [.agg (Zf a0)] O n (.val (.bool r)) O n) (V4:∀ {a0:Zc} {a1:Int} {r:Bool} {O:Objs} {n:Nat},Yn a0 a1=some r→GTo Try.prog 46 [.agg (Zf a0),.val (.int .i64 a1)] O n (.val (.bool r)) O n) (Qt:∀ {a0:(List Zc)} {a1:Int} {r:Bool} {O:Objs} {n:Nat},Yh a0 a1=some r→GTo Try.prog 83 [.sl a0.length (fl Zg a0),.val (.int .i64 a1)] O n (.val (.bool r)) O n) (Vs:∀ {a0:(List Zc)} {a1:Int} {r:Bool} {O:Objs} {n:Nat},Yi a0 a1=some r→GTo Try.prog 86 [.sl a0.length (fl Zg a0),.val (.int .i64 a1)] O n (.val (.bool r)) O n) {a0:Zc} {r:Bool} {O:Objs} {n:Nat} (h:Zbf Yo Yn Yh Yi a0=some r):GTo Try.prog 22 [.agg (Zf a0)] O n (.val (.bool r)) O n:=by
 unfold Zbf at h
 refine Yt Zd Try.call22 Try.func22 rfl (Nat.le_of_ble_eq_true rfl) (Nat.le_refl _) fun hU => ?_
 have hN0:O n=none:=hU.fresh _ (Nat.le_refl _)
 have hN:∀ k,O (n+k)=none:=fun k=>hU.fresh _ (Nat.le_add_right _ _)
 show W _ _ _ _ ⟨18,[],[(0,.agg (Zf a0))]⟩ (Zu O n []) _
 refine Zl [1] (Zb Zd [] ?_)
 simp only [push_cast,seval,↓reduceIte,Za,hN0,hN]
 refine Zk ?_
 refine Zl [1,5] (Zb Zd [] ?_)
 simp only [push_cast,seval,↓reduceIte,Za,hN0,hN]
 refine Zq (t:=(a0.Kind == 10)) rfl (fun c3 => ?_) (fun c3 => ?_)
 ·replace h:=Yd c3 h
  refine Zl [2] (Zb Zd [none,none,none,none] ?_)
  simp only [push_cast,seval,↓reduceIte,Za,hN0,hN]
  repeat (with_reducible refine And.intro (by first | (intro h0;simp only [h0,and_self];done) | (intro h0;simp only [h0,Bool.not_false,Bool.not_true,Bool.true_and,Bool.and_true,true_and,and_true,and_self,imp_self,implies_true,bne_iff_ne,ne_eq,beq_iff_eq];done) | (intros;simp_all;done) | exact True.intro) ?_)
  refine Zy ?_
  try simp only [Zj,Zh]
  have h:=Option.some.inj h;subst h
  refine Zt (.inr rfl) hU [.val (.bool (cond ((a0.Words.length:Int) == 1) ((a0.Kids.length:Int) == 0) false))] (by omega) ?_
  simp only [push_cast,seval,↓reduceIte,Za,Try.results22,hN0,hN]
 replace h:=Yc c3 h
 refine Z0 ?_
 try simp only [Zj,Zh]
 refine Zm [1] [true] ?_
 simp only [push_cast,seval,↓reduceIte]
 refine Zk ?_
 obtain ⟨y2,hy2,h⟩:=bC h
 refine Zb Zd [] ?_
 simp only [push_cast,seval,↓reduceIte,Za,hN0,hN]
 refine (V4 hy2).then ?_
 simp only [push_cast,seval,↓reduceIte,Za,hN0,hN]
 refine Zm [2] [false] ?_
 simp only [push_cast,seval,↓reduceIte]
 refine Zy ?_
 try simp only [Zj,Zh]
 have h:=Option.some.inj h;subst h
 refine Zt (.inr rfl) hU [.val (.bool y2)] (by omega) ?_
 simp only [push_cast,seval,↓reduceIte,Za,Try.results22,hN0,hN]
theorem Zrz {Yo:(Zc→Option Bool)} {Yn:(Zc→Int→Option Bool)} {Yh:((List Zc)→Int→Option Bool)} {Yi:((List Zc)→Int→Option Bool)} (V3:∀ {a0:Zc} {r:Bool} {O:Objs} {n:Nat},Yo a0=some r→GTo Try.prog 22 [.agg (Zf a0)] O n (.val (.bool r)) O n) (V4:∀ {a0:Zc} {a1:Int} {r:Bool} {O:Objs} {n:Nat},Yn a0 a1=some r→GTo Try.prog 46 [.agg (Zf a0),.val (.int .i64 a1)] O n (.val (.bool r)) O n) (Qt:∀ {a0:(List Zc)} {a1:Int} {r:Bool} {O:Objs} {n:Nat},Yh a0 a1=some r→GTo Try.prog 83 [.sl a0.length (fl Zg a0),.val (.int .i64 a1)] O n (.val (.bool r)) O n) (Vs:∀ {a0:(List Zc)} {a1:Int} {r:Bool} {O:Objs} {n:Nat},Yi a0 a1=some r→GTo Try.prog 86 [.sl a0.length (fl Zg a0),.val (.int .i64 a1)] O n (.val (.bool r)) O n) {a0:Zc} {a1:Int} {r:Bool} {O:Objs} {n:Nat} (h:Zbg Yo Yn Yh Yi a0 a1=some r):GTo Try.prog 46 [.agg (Zf a0),.val (.int .i64 a1)] O n (.val (.bool r)) O n:=by
 unfold Zbg at h
 refine Yt Zd Try.call46 Try.func46 rfl (Nat.le_of_ble_eq_true rfl) (Nat.le_refl _) fun hU => ?_
 have hN0:O n=none:=hU.fresh _ (Nat.le_refl _)
 have hN:∀ k,O (n+k)=none:=fun k=>hU.fresh _ (Nat.le_add_right _ _)
 show W _ _ _ _ ⟨83,[],[(0,.agg (Zf a0)),(1,.val (.int .i64 a1))]⟩ (Zu O n []) _
 refine Zl [1,2] (Zb Zd [] ?_)
 simp only [push_cast,seval,↓reduceIte,Za,hN0,hN]
 refine Zk ?_
 refine Zl [1,2,7] (Zb Zd [] ?_)
 simp only [push_cast,seval,↓reduceIte,Za,hN0,hN]
 refine Zq (t:=(a0.Kind == 0)) rfl (fun c26 => ?_) (fun c26 => ?_)
 ·replace h:=Yd c26 h
  refine Zl [4] (Zb Zd [none,none,none,none] ?_)
  simp only [push_cast,seval,↓reduceIte,Za,hN0,hN]
  repeat (with_reducible refine And.intro (by first | (intro h0;simp only [h0,and_self];done) | (intro h0;simp only [h0,Bool.not_false,Bool.not_true,Bool.true_and,Bool.and_true,true_and,and_true,and_self,imp_self,implies_true,bne_iff_ne,ne_eq,beq_iff_eq];done) | (intros;simp_all;done) | exact True.intro) ?_)
  refine Zy ?_
  try simp only [Zj,Zh]
  have h:=Option.some.inj h;subst h
  refine Zt (.inr rfl) hU [.val (.bool (cond ((a0.Words.length:Int) == 0) ((a0.Kids.length:Int) == 0) false))] (by omega) ?_
  simp only [push_cast,seval,↓reduceIte,Za,Try.results46,hN0,hN]
 replace h:=Yc c26 h
 refine Z0 ?_
 try simp only [Zj,Zh]
 refine Zm [1,2] [true] ?_
 simp only [push_cast,seval,↓reduceIte]
 refine Zk ?_
 refine Zl [1,2,19] (Zb Zd [] ?_)
 simp only [push_cast,seval,↓reduceIte,Za,hN0,hN]
 refine Zq (t:=(a1 == 0)) rfl (fun c25 => ?_) (fun c25 => ?_)
 ·replace h:=Yd c25 h
  refine Zl [4] (Zb Zd [] ?_)
  simp only [push_cast,seval,↓reduceIte,Za,hN0,hN]
  refine Zy ?_
  try simp only [Zj,Zh]
  have h:=Option.some.inj h;subst h
  refine Zt (.inr rfl) hU [.val (.bool false)] (by omega) ?_
  simp only [push_cast,seval,↓reduceIte,Za,Try.results46,hN0,hN]
 replace h:=Yc c25 h
 refine Z0 ?_
 try simp only [Zj,Zh]
 refine Zm [1,2] [true] ?_
 simp only [push_cast,seval,↓reduceIte]
 refine Zk ?_
 refine Zl [1,2,22] (Zb Zd [] ?_)
 simp only [push_cast,seval,↓reduceIte,Za,hN0,hN]
 refine Zq (t:=(a0.Kind == 1)) rfl (fun c24 => ?_) (fun c24 => ?_)
 ·replace h:=Yd c24 h
  obtain ⟨z2,hz2,h⟩:=bC h
  refine Q5 (E':=⟨83,[],[(4,.val (.bool z2))]⟩) (O':=(Zu O n [none])) (n0:=(n+1)) ?_ ?_
  ·rcases Bool.eq_false_or_eq_true (decide ((a0.Words.length:Int) < 65536)) with c5 | c5
   ·replace hz2:=Yd c5 hz2
    rcases Bool.eq_false_or_eq_true (decide ((a0.Kids.length:Int) < 65536)) with c6 | c6
    ·replace hz2:=Yd c6 hz2
     try rw [c6] at c5
     obtain ⟨y4,hy4,hz2⟩:=bC hz2
     refine Zb Zd (Zw9 (Z5x [])) ?_
     simp only [push_cast,seval,↓reduceIte,Za,c5,c6,hN0,hN]
     repeat (with_reducible refine And.intro (by first | (intro h0;simp only [h0,and_self];done) | (intro h0;simp only [h0,Bool.not_false,Bool.not_true,Bool.true_and,Bool.and_true,true_and,and_true,and_self,imp_self,implies_true,bne_iff_ne,ne_eq,beq_iff_eq];done) | (intros;simp_all;done) | exact True.intro) ?_)
     refine (Qt hy4).then ?_
     simp only [push_cast,seval,↓reduceIte,Za,c5,c6,hN0,hN]
     repeat (with_reducible refine And.intro (by first | (intro h0;simp only [h0,and_self];done) | (intro h0;simp only [h0,Bool.not_false,Bool.not_true,Bool.true_and,Bool.and_true,true_and,and_true,and_self,imp_self,implies_true,bne_iff_ne,ne_eq,beq_iff_eq];done) | (intros;simp_all;done) | exact True.intro) ?_)
     have hz2:=Option.some.inj hz2;subst hz2
     refine And.intro rfl (Fit2.of (Zp hU rfl rfl ?_) (by omega))
     simp only [push_cast,seval,↓reduceIte,Za,c5,c6,hN0,hN]
    replace hz2:=Yc c6 hz2
    try rw [c6] at c5
    refine Zb Zd (Zw9 (Z14 [])) ?_
    simp only [push_cast,seval,↓reduceIte,Za,c5,c6,hN0,hN]
    repeat (with_reducible refine And.intro (by first | (intro h0;simp only [h0,and_self];done) | (intro h0;simp only [h0,Bool.not_false,Bool.not_true,Bool.true_and,Bool.and_true,true_and,and_true,and_self,imp_self,implies_true,bne_iff_ne,ne_eq,beq_iff_eq];done) | (intros;simp_all;done) | exact True.intro) ?_)
    have hz2:=Option.some.inj hz2;subst hz2
    refine And.intro rfl (Fit2.of (Zp hU rfl rfl ?_) (by omega))
    simp only [push_cast,seval,↓reduceIte,Za,c5,c6,hN0,hN]
   replace hz2:=Yc c5 hz2
   refine Zb Zd (Zw9 (Z14 [])) ?_
   simp only [push_cast,seval,↓reduceIte,Za,c5,hN0,hN]
   repeat (with_reducible refine And.intro (by first | (intro h0;simp only [h0,and_self];done) | (intro h0;simp only [h0,Bool.not_false,Bool.not_true,Bool.true_and,Bool.and_true,true_and,and_true,and_self,imp_self,implies_true,bne_iff_ne,ne_eq,beq_iff_eq];done) | (intros;simp_all;done) | exact True.intro) ?_)
   have hz2:=Option.some.inj hz2;subst hz2
   refine And.intro rfl (Fit2.of (Zp hU rfl rfl ?_) (by omega))
   simp only [push_cast,seval,↓reduceIte,Za,c5,hN0,hN]
  refine Zy ?_
  try simp only [Zj,Zh]
  have h:=Option.some.inj h;subst h
  refine Zt (.inr rfl) hU [.val (.bool z2)] (by omega) ?_
  simp only [push_cast,seval,↓reduceIte,Za,Try.results46,hN0,hN]
 replace h:=Yc c24 h
 refine Z0 ?_
 try simp only [Zj,Zh]
 refine Zm [1,2] [true] ?_
 simp only [push_cast,seval,↓reduceIte]
 refine Zk ?_
 refine Zk ?_
 obtain ⟨y8,hy8,h⟩:=bC h
 refine Zb Zd [none,none,none,none,none,none,none,none] ?_
 simp only [push_cast,seval,↓reduceIte,Za,hN0,hN]
 repeat (with_reducible refine And.intro (by first | (intro h0;simp only [h0,and_self];done) | (intro h0;simp only [h0,Bool.not_false,Bool.not_true,Bool.true_and,Bool.and_true,true_and,and_true,and_self,imp_self,implies_true,bne_iff_ne,ne_eq,beq_iff_eq];done) | (intros;simp_all;done) | exact True.intro) ?_)
 refine (Zvn hy8).then ?_
 simp only [push_cast,seval,↓reduceIte,Za,hN0,hN]
 repeat (with_reducible refine And.intro (by first | (intro h0;simp only [h0,and_self];done) | (intro h0;simp only [h0,Bool.not_false,Bool.not_true,Bool.true_and,Bool.and_true,true_and,and_true,and_self,imp_self,implies_true,bne_iff_ne,ne_eq,beq_iff_eq];done) | (intros;simp_all;done) | exact True.intro) ?_)
 refine Zm [1,2,55] [true] ?_
 simp only [push_cast,seval,↓reduceIte]
 refine Zq (t:=(cond (cond (!y8) true (decide (0 < (a0.Words.length:Int)))) true (decide (1048576≤(a0.Kids.length:Int))))) rfl (fun c23 => ?_) (fun c23 => ?_)
 ·replace h:=Yd c23 h
  refine Zl [4] (Zb Zd [] ?_)
  simp only [push_cast,seval,↓reduceIte,Za,hN0,hN]
  refine Zy ?_
  try simp only [Zj,Zh]
  have h:=Option.some.inj h;subst h
  refine Zt (.inr rfl) hU [.val (.bool false)] (by omega) ?_
  simp only [push_cast,seval,↓reduceIte,Za,Try.results46,hN0,hN]
 replace h:=Yc c23 h
 refine Z0 ?_
 try simp only [Zj,Zh]
 refine Zm [1,2] [true] ?_
 simp only [push_cast,seval,↓reduceIte]
 refine Zk ?_
 refine Zl [1,2,57] (Zb Zd [] ?_)
 simp only [push_cast,seval,↓reduceIte,Za,hN0,hN]
 refine Yk ?_
 refine Zl [1,2,57,58] (Zb Zd [] ?_)
 simp only [push_cast,seval,↓reduceIte,Za,hN0,hN]
 refine Zq (t:=(a0.Kind == 8)) rfl (fun c22 => ?_) (fun c22 => ?_)
 ·replace h:=Yd c22 h
  refine Zk ?_
  obtain ⟨y10,hy10,h⟩:=bC h
  refine Zb Zd [] ?_
  simp only [push_cast,seval,↓reduceIte,Za,hN0,hN]
  refine (Qt hy10).then ?_
  simp only [push_cast,seval,↓reduceIte,Za,hN0,hN]
  refine Zm [4] [false] ?_
  simp only [push_cast,seval,↓reduceIte]
  refine Zy ?_
  try simp only [Zj,Zh]
  have h:=Option.some.inj h;subst h
  refine Zt (.inr rfl) hU [.val (.bool y10)] (by omega) ?_
  simp only [push_cast,seval,↓reduceIte,Za,Try.results46,hN0,hN]
 replace h:=Yc c22 h
 refine Zl [1,2,65] (Zb Zd [] ?_)
 simp only [push_cast,seval,↓reduceIte,Za,hN0,hN]
 refine Zq (t:=(a0.Kind == 9)) rfl (fun c21 => ?_) (fun c21 => ?_)
 ·replace h:=Yd c21 h
  obtain ⟨z13,hz13,h⟩:=bC h
  refine Q5 (E':=⟨83,[],[(4,.val (.bool z13))]⟩) (O':=(Zu O n [none])) (n0:=(n+1)) ?_ ?_
  ·obtain ⟨y16,hy16,hz13⟩:=bC hz13
   rcases Bool.eq_false_or_eq_true y16 with c18 | c18
   ·replace hz13:=Yd c18 hz13
    obtain ⟨y17,hy17,hz13⟩:=bC hz13
    refine Zb Zd (Z5x []) ?_
    simp only [push_cast,seval,↓reduceIte,Za,c18,hN0,hN]
    refine (Ze0 hy16).then ?_
    simp only [push_cast,seval,↓reduceIte,Za,c18,hN0,hN]
    refine (Qt hy17).then ?_
    simp only [push_cast,seval,↓reduceIte,Za,c18,hN0,hN]
    have hz13:=Option.some.inj hz13;subst hz13
    refine And.intro rfl (Fit2.of (Zp hU rfl rfl ?_) (by omega))
    simp only [push_cast,seval,↓reduceIte,Za,c18,hN0,hN]
   replace hz13:=Yc c18 hz13
   refine Zb Zd (Z14 []) ?_
   simp only [push_cast,seval,↓reduceIte,Za,c18,hN0,hN]
   refine (Ze0 hy16).then ?_
   simp only [push_cast,seval,↓reduceIte,Za,c18,hN0,hN]
   have hz13:=Option.some.inj hz13;subst hz13
   refine And.intro rfl (Fit2.of (Zp hU rfl rfl ?_) (by omega))
   simp only [push_cast,seval,↓reduceIte,Za,c18,hN0,hN]
  refine Zy ?_
  try simp only [Zj,Zh]
  have h:=Option.some.inj h;subst h
  refine Zt (.inr rfl) hU [.val (.bool z13)] (by omega) ?_
  simp only [push_cast,seval,↓reduceIte,Za,Try.results46,hN0,hN]
 replace h:=Yc c21 h
 refine Z0 ?_
 try simp only [Zj,Zh]
 refine Zm [2] [true] ?_
 simp only [push_cast,seval,↓reduceIte]
 refine Zk ?_
 obtain ⟨y20,hy20,h⟩:=bC h
 refine Zb Zd [] ?_
 simp only [push_cast,seval,↓reduceIte,Za,hN0,hN]
 refine (Vs hy20).then ?_
 simp only [push_cast,seval,↓reduceIte,Za,hN0,hN]
 refine Zm [4] [false] ?_
 simp only [push_cast,seval,↓reduceIte]
 refine Zy ?_
 try simp only [Zj,Zh]
 have h:=Option.some.inj h;subst h
 refine Zt (.inr rfl) hU [.val (.bool y20)] (by omega) ?_
 simp only [push_cast,seval,↓reduceIte,Za,Try.results46,hN0,hN]
theorem Zo5 {Yo:(Zc→Option Bool)} {Yn:(Zc→Int→Option Bool)} {Yh:((List Zc)→Int→Option Bool)} {Yi:((List Zc)→Int→Option Bool)} (V3:∀ {a0:Zc} {r:Bool} {O:Objs} {n:Nat},Yo a0=some r→GTo Try.prog 22 [.agg (Zf a0)] O n (.val (.bool r)) O n) (V4:∀ {a0:Zc} {a1:Int} {r:Bool} {O:Objs} {n:Nat},Yn a0 a1=some r→GTo Try.prog 46 [.agg (Zf a0),.val (.int .i64 a1)] O n (.val (.bool r)) O n) (Qt:∀ {a0:(List Zc)} {a1:Int} {r:Bool} {O:Objs} {n:Nat},Yh a0 a1=some r→GTo Try.prog 83 [.sl a0.length (fl Zg a0),.val (.int .i64 a1)] O n (.val (.bool r)) O n) (Vs:∀ {a0:(List Zc)} {a1:Int} {r:Bool} {O:Objs} {n:Nat},Yi a0 a1=some r→GTo Try.prog 86 [.sl a0.length (fl Zg a0),.val (.int .i64 a1)] O n (.val (.bool r)) O n) {a0:(List Zc)} {a1:Int} {r:Bool} {O:Objs} {n:Nat} (h:Vu Yo Yn Yh Yi a0 a1=some r):GTo Try.prog 83 [.sl a0.length (fl Zg a0),.val (.int .i64 a1)] O n (.val (.bool r)) O n:=by
 unfold Vu at h
 refine Yt Zd Try.call83 Try.func83 rfl (Nat.le_of_ble_eq_true rfl) (Nat.le_refl _) fun hU => ?_
 have hN0:O n=none:=hU.fresh _ (Nat.le_refl _)
 have hN:∀ k,O (n+k)=none:=fun k=>hU.fresh _ (Nat.le_add_right _ _)
 show W _ _ _ _ ⟨18,[],[(0,.sl a0.length (fl Zg a0)),(1,.val (.int .i64 a1))]⟩ (Zu O n []) _
 refine Zl [0,1] (Zb Zd [] ?_)
 simp only [push_cast,seval,↓reduceIte,Za,hN0,hN]
 refine Zk ?_
 refine Zl [1,7,8,9] (Zb Zd [] ?_)
 simp only [push_cast,seval,↓reduceIte,Za,hN0,hN]
 refine Zm [1,7,8,9] [] ?_
 simp only [push_cast,seval,↓reduceIte]
 obtain ⟨z7,hz7,h⟩:=bC h
 refine Zq0 (J:=(Zgy (fun z7=>JR n (⟨18,[],[(4,.val (.bool false))]⟩:Env) (Zu O n []) n) (fun z7=>JX 0 n (⟨18,[],[]⟩:Env) (Zu O n []) n))) (z:=z7) ?_ fun hw => ?_
 ·refine Jc hz7 (fun s0_=>⟨18,[],[(1,.val (.int .i64 a1)),(7,.sl a0.length (fl Zg a0)),(8,.val (.int .i64 (a0.length:Int))),(9,.val (.int .i64 s0_))]⟩) (fun s0_=>(Zu O n [])) (Zgy (fun z7=>JR n (⟨18,[],[(4,.val (.bool false))]⟩:Env) (Zu O n []) n) (fun z7=>JX 0 n (⟨18,[],[]⟩:Env) (Zu O n []) n)) ?_
  intro s0_ x0_ hs0_
  unfold Jv at hs0_
  try dsimp only
  refine Zl [1,7,8,9,10] (Zb Zd [] ?_)
  simp only [push_cast,seval,↓reduceIte,Za,hN0,hN]
  refine Zk ?_
  refine Zq (t:=(decide (s0_ < (a0.length:Int)))) rfl (fun c6 => ?_) (fun c6 => ?_)
  ·replace hs0_:=Yd c6 hs0_
   refine Z0 ?_
   try simp only [Zj,Zh]
   refine Zm [1,7,8,9] [] ?_
   simp only [push_cast,seval,↓reduceIte]
   refine Zk ?_
   refine Yk ?_
   refine Zk ?_
   obtain ⟨x2,hx2,ax2,bx2,cx2,hs0_⟩:=bE (f:=Zg) Vo (fun _=>rfl) (by decide) hs0_
   refine Zb Zd [] ?_
   simp only [push_cast,Nat.reduceAdd,Nat.reduceSub,Nat.reduceMul,Nat.reduceLeDiff,Nat.reduceLT,Nat.reduceEqDiff,↓reduceIte,reduceCtorEq,Int.reduceBEq,Int.reduceBNe,Nat.reduceBEq,Int.reduceLE,Int.reduceLT,Int.reduceEq,Int.reduceNe,Int.reduceNeg,Nat.reduceDiv,Nat.reduceMod,Nat.reducePow,Za,ax2,bx2,cx2,hN0,hN]
   refine Zm [1,6,7,8,9] [true] ?_
   simp only [push_cast,seval,↓reduceIte]
   refine Zk ?_
   obtain ⟨y4,hy4,hs0_⟩:=bC hs0_
   refine Zb Zd [] ?_
   simp only [push_cast,seval,↓reduceIte,Za,hN0,hN]
   refine (V4 hy4).then ?_
   simp only [push_cast,seval,↓reduceIte,Za,hN0,hN]
   refine Zm [1,7,8,9,16] [false] ?_
   simp only [push_cast,seval,↓reduceIte]
   refine Zq (t:=(!y4)) rfl (fun c5 => ?_) (fun c5 => ?_)
   ·replace hs0_:=Yd c5 hs0_
    refine Zl [4] (Zb Zd [] ?_)
    simp only [push_cast,seval,↓reduceIte,Za,hN0,hN]
    refine Zy ?_
    try simp only [Zj,Zh]
    have hs0_:=Option.some.inj hs0_;subst hs0_
    refine And.intro (fun h=>by cases h) (And.intro rfl (Fit2.of (Zp hU rfl rfl ?_) (by omega)))
    simp only [push_cast,seval,↓reduceIte,Za,hN0,hN]
   replace hs0_:=Yc c5 hs0_
   refine Z0 ?_
   try simp only [Zj,Zh]
   refine Zm [1,7,8,9] [false] ?_
   simp only [push_cast,seval,↓reduceIte]
   refine Zb Zd [] ?_
   simp only [push_cast,seval,↓reduceIte,Za,hN0,hN]
   have hs0_:=Option.some.inj hs0_;subst hs0_
   refine And.intro rfl (Fit2.of (Zp hU rfl rfl ?_) (by omega))
   simp only [push_cast,seval,↓reduceIte,Za,hN0,hN]
  replace hs0_:=Yc c6 hs0_
  refine Jf ?_
  try simp only [Zj,Zh,↓reduceIte,Nat.reduceEqDiff]
  have hs0_:=Option.some.inj hs0_;subst hs0_
  refine And.intro (fun h=>by cases h) (And.intro rfl (Fit2.of (Zp hU rfl rfl ?_) (by omega)))
  simp only [push_cast,seval,↓reduceIte,Za,hN0,hN]
 rcases z7 with z7 | z7
 ·dsimp only [Zgy] at hw h
  refine Zkv hw ?_
  try simp only [Zj,Zh,↓reduceIte,Nat.reduceEqDiff]
  have h:=Option.some.inj h;subst h
  refine Zt (.inr rfl) hU [.val (.bool false)] (by omega) ?_
  simp only [push_cast,seval,↓reduceIte,Za,Try.results83,hN0,hN]
 dsimp only [Zgy] at hw h
 refine X9 hw ?_
 try simp only [Zj,Zh,↓reduceIte,Nat.reduceEqDiff]
 refine Zm [] [] ?_
 simp only [push_cast,seval,↓reduceIte]
 refine Zl [4] (Zb Zd [] ?_)
 simp only [push_cast,seval,↓reduceIte,Za,hN0,hN]
 refine Zy ?_
 try simp only [Zj,Zh]
 have h:=Option.some.inj h;subst h
 refine Zt (.inr rfl) hU [.val (.bool true)] (by omega) ?_
 simp only [push_cast,seval,↓reduceIte,Za,Try.results83,hN0,hN]
theorem Zo4 {Yo:(Zc→Option Bool)} {Yn:(Zc→Int→Option Bool)} {Yh:((List Zc)→Int→Option Bool)} {Yi:((List Zc)→Int→Option Bool)} (V3:∀ {a0:Zc} {r:Bool} {O:Objs} {n:Nat},Yo a0=some r→GTo Try.prog 22 [.agg (Zf a0)] O n (.val (.bool r)) O n) (V4:∀ {a0:Zc} {a1:Int} {r:Bool} {O:Objs} {n:Nat},Yn a0 a1=some r→GTo Try.prog 46 [.agg (Zf a0),.val (.int .i64 a1)] O n (.val (.bool r)) O n) (Qt:∀ {a0:(List Zc)} {a1:Int} {r:Bool} {O:Objs} {n:Nat},Yh a0 a1=some r→GTo Try.prog 83 [.sl a0.length (fl Zg a0),.val (.int .i64 a1)] O n (.val (.bool r)) O n) (Vs:∀ {a0:(List Zc)} {a1:Int} {r:Bool} {O:Objs} {n:Nat},Yi a0 a1=some r→GTo Try.prog 86 [.sl a0.length (fl Zg a0),.val (.int .i64 a1)] O n (.val (.bool r)) O n) {a0:(List Zc)} {a1:Int} {r:Bool} {O:Objs} {n:Nat} (h:Vt Yo Yn Yh Yi a0 a1=some r):GTo Try.prog 86 [.sl a0.length (fl Zg a0),.val (.int .i64 a1)] O n (.val (.bool r)) O n:=by
 unfold Vt at h
 refine Yt Zd Try.call86 Try.func86 rfl (Nat.le_of_ble_eq_true rfl) (Nat.le_refl _) fun hU => ?_
 have hN0:O n=none:=hU.fresh _ (Nat.le_refl _)
 have hN:∀ k,O (n+k)=none:=fun k=>hU.fresh _ (Nat.le_add_right _ _)
 show W _ _ _ _ ⟨31,[],[(0,.sl a0.length (fl Zg a0)),(1,.val (.int .i64 a1))]⟩ (Zu O n []) _
 refine Zl [0,1] (Zb Zd [] ?_)
 simp only [push_cast,seval,↓reduceIte,Za,hN0,hN]
 refine Zk ?_
 refine Zl [1,7,8,9] (Zb Zd [] ?_)
 simp only [push_cast,seval,↓reduceIte,Za,hN0,hN]
 refine Zm [1,7,8,9] [] ?_
 simp only [push_cast,seval,↓reduceIte]
 obtain ⟨z17,hz17,h⟩:=bC h
 refine Zq0 (J:=(Zgy (fun z17=>JR n (⟨31,[],[(4,.val (.bool false))]⟩:Env) (Zu O n []) n) (fun z17=>JX 0 n (⟨31,[],[]⟩:Env) (Zu O n []) n))) (z:=z17) ?_ fun hw => ?_
 ·refine Jc hz17 (fun s0_=>⟨31,[],[(1,.val (.int .i64 a1)),(7,.sl a0.length (fl Zg a0)),(8,.val (.int .i64 (a0.length:Int))),(9,.val (.int .i64 s0_))]⟩) (fun s0_=>(Zu O n [])) (Zgy (fun z17=>JR n (⟨31,[],[(4,.val (.bool false))]⟩:Env) (Zu O n []) n) (fun z17=>JX 0 n (⟨31,[],[]⟩:Env) (Zu O n []) n)) ?_
  intro s0_ x0_ hs0_
  unfold Ju at hs0_
  try dsimp only
  refine Zl [1,7,8,9,10] (Zb Zd [] ?_)
  simp only [push_cast,seval,↓reduceIte,Za,hN0,hN]
  refine Zk ?_
  refine Zq (t:=(decide (s0_ < (a0.length:Int)))) rfl (fun c16 => ?_) (fun c16 => ?_)
  ·replace hs0_:=Yd c16 hs0_
   refine Z0 ?_
   try simp only [Zj,Zh]
   refine Zm [1,7,8,9] [] ?_
   simp only [push_cast,seval,↓reduceIte]
   refine Zk ?_
   refine Yk ?_
   refine Zk ?_
   obtain ⟨x2,hx2,ax2,bx2,cx2,hs0_⟩:=bE (f:=Zg) Vo (fun _=>rfl) (by decide) hs0_
   refine Zb Zd [] ?_
   simp only [push_cast,Nat.reduceAdd,Nat.reduceSub,Nat.reduceMul,Nat.reduceLeDiff,Nat.reduceLT,Nat.reduceEqDiff,↓reduceIte,reduceCtorEq,Int.reduceBEq,Int.reduceBNe,Nat.reduceBEq,Int.reduceLE,Int.reduceLT,Int.reduceEq,Int.reduceNe,Int.reduceNeg,Nat.reduceDiv,Nat.reduceMod,Nat.reducePow,Za,ax2,bx2,cx2,hN0,hN]
   refine Zm [1,6,7,8,9] [true] ?_
   simp only [push_cast,seval,↓reduceIte]
   obtain ⟨z6,hz6,hs0_⟩:=bC hs0_
   refine Q5 (E':=⟨31,[],[(1,.val (.int .i64 a1)),(7,.sl a0.length (fl Zg a0)),(8,.val (.int .i64 (a0.length:Int))),(9,.val (.int .i64 s0_)),(29,.val (.bool z6))]⟩) (O':=(Zu O n [none])) (n0:=(n+1)) ?_ ?_
   ·rcases Bool.eq_false_or_eq_true (x2.Kind != 10) with c13 | c13
    ·replace hz6:=Yd c13 hz6
     refine Zb Zd (Z6v []) ?_
     simp only [push_cast,seval,↓reduceIte,Za,c13,hN0,hN]
     have hz6:=Option.some.inj hz6;subst hz6
     refine And.intro rfl (Fit2.of (Zp hU rfl rfl ?_) (by omega))
     simp only [push_cast,seval,↓reduceIte,Za,c13,hN0,hN]
    replace hz6:=Yc c13 hz6
    obtain ⟨y10,hy10,hz6⟩:=bC hz6
    rcases Bool.eq_false_or_eq_true y10 with c14 | c14
    ·replace hz6:=Yd c14 hz6
     try rw [c14] at c13
     obtain ⟨x11,hx11,ax11,bx11,cx11,hz6⟩:=bE (f:=(eI .u64)) U8 (fun _=>rfl) (by decide) hz6
     obtain ⟨y12,hy12,hz6⟩:=bC hz6
     refine Zb Zd (Z6x []) ?_
     simp only [push_cast,Nat.reduceAdd,Nat.reduceSub,Nat.reduceMul,Nat.reduceLeDiff,Nat.reduceLT,Nat.reduceEqDiff,↓reduceIte,reduceCtorEq,Int.reduceBEq,Int.reduceBNe,Nat.reduceBEq,Int.reduceLE,Int.reduceLT,Int.reduceEq,Int.reduceNe,Int.reduceNeg,Nat.reduceDiv,Nat.reduceMod,Nat.reducePow,Za,c13,c14,ax11,bx11,cx11,hN0,hN]
     refine (V3 hy10).then ?_
     simp only [push_cast,Nat.reduceAdd,Nat.reduceSub,Nat.reduceMul,Nat.reduceLeDiff,Nat.reduceLT,Nat.reduceEqDiff,↓reduceIte,reduceCtorEq,Int.reduceBEq,Int.reduceBNe,Nat.reduceBEq,Int.reduceLE,Int.reduceLT,Int.reduceEq,Int.reduceNe,Int.reduceNeg,Nat.reduceDiv,Nat.reduceMod,Nat.reducePow,Za,c13,c14,ax11,bx11,cx11,hN0,hN]
     refine (Zo2 hy12).then ?_
     simp only [push_cast,Nat.reduceAdd,Nat.reduceSub,Nat.reduceMul,Nat.reduceLeDiff,Nat.reduceLT,Nat.reduceEqDiff,↓reduceIte,reduceCtorEq,Int.reduceBEq,Int.reduceBNe,Nat.reduceBEq,Int.reduceLE,Int.reduceLT,Int.reduceEq,Int.reduceNe,Int.reduceNeg,Nat.reduceDiv,Nat.reduceMod,Nat.reducePow,Za,c13,c14,ax11,bx11,cx11,hN0,hN]
     have hz6:=Option.some.inj hz6;subst hz6
     refine And.intro rfl (Fit2.of (Zp hU rfl rfl ?_) (by omega))
     simp only [push_cast,Nat.reduceAdd,Nat.reduceSub,Nat.reduceMul,Nat.reduceLeDiff,Nat.reduceLT,Nat.reduceEqDiff,↓reduceIte,reduceCtorEq,Int.reduceBEq,Int.reduceBNe,Nat.reduceBEq,Int.reduceLE,Int.reduceLT,Int.reduceEq,Int.reduceNe,Int.reduceNeg,Nat.reduceDiv,Nat.reduceMod,Nat.reducePow,Za,c13,c14,ax11,bx11,cx11,hN0,hN]
    replace hz6:=Yc c14 hz6
    try rw [c14] at c13
    refine Zb Zd (Z15 (Z3w [])) ?_
    simp only [push_cast,seval,↓reduceIte,Za,c13,c14,hN0,hN]
    refine (V3 hy10).then ?_
    simp only [push_cast,seval,↓reduceIte,Za,c13,c14,hN0,hN]
    have hz6:=Option.some.inj hz6;subst hz6
    refine And.intro rfl (Fit2.of (Zp hU rfl rfl ?_) (by omega))
    simp only [push_cast,seval,↓reduceIte,Za,c13,c14,hN0,hN]
   refine Zq (t:=z6) rfl (fun c15 => ?_) (fun c15 => ?_)
   ·replace hs0_:=Yd c15 hs0_
    refine Zl [4] (Zb Zd [] ?_)
    simp only [push_cast,seval,↓reduceIte,Za,hN0,hN]
    refine Zy ?_
    try simp only [Zj,Zh]
    have hs0_:=Option.some.inj hs0_;subst hs0_
    refine And.intro (fun h=>by cases h) (And.intro rfl (Fit2.of (Zp hU rfl rfl ?_) (by omega)))
    simp only [push_cast,seval,↓reduceIte,Za,hN0,hN]
   replace hs0_:=Yc c15 hs0_
   refine Z0 ?_
   try simp only [Zj,Zh]
   refine Zm [1,7,8,9] [false] ?_
   simp only [push_cast,seval,↓reduceIte]
   refine Zb Zd [] ?_
   simp only [push_cast,seval,↓reduceIte,Za,hN0,hN]
   have hs0_:=Option.some.inj hs0_;subst hs0_
   refine And.intro rfl (Fit2.of (Zp hU rfl rfl ?_) (by omega))
   simp only [push_cast,seval,↓reduceIte,Za,hN0,hN]
  replace hs0_:=Yc c16 hs0_
  refine Jf ?_
  try simp only [Zj,Zh,↓reduceIte,Nat.reduceEqDiff]
  have hs0_:=Option.some.inj hs0_;subst hs0_
  refine And.intro (fun h=>by cases h) (And.intro rfl (Fit2.of (Zp hU rfl rfl ?_) (by omega)))
  simp only [push_cast,seval,↓reduceIte,Za,hN0,hN]
 rcases z17 with z17 | z17
 ·dsimp only [Zgy] at hw h
  refine Zkv hw ?_
  try simp only [Zj,Zh,↓reduceIte,Nat.reduceEqDiff]
  have h:=Option.some.inj h;subst h
  refine Zt (.inr rfl) hU [.val (.bool false)] (by omega) ?_
  simp only [push_cast,seval,↓reduceIte,Za,Try.results86,hN0,hN]
 dsimp only [Zgy] at hw h
 refine X9 hw ?_
 try simp only [Zj,Zh,↓reduceIte,Nat.reduceEqDiff]
 refine Zm [] [] ?_
 simp only [push_cast,seval,↓reduceIte]
 refine Zl [4] (Zb Zd [] ?_)
 simp only [push_cast,seval,↓reduceIte,Za,hN0,hN]
 refine Zy ?_
 try simp only [Zj,Zh]
 have h:=Option.some.inj h;subst h
 refine Zt (.inr rfl) hU [.val (.bool true)] (by omega) ?_
 simp only [push_cast,seval,↓reduceIte,Za,Try.results86,hN0,hN]
theorem Zpv:∀ k,(∀ {a0:Zc} {r:Bool} {O:Objs} {n:Nat},(Zn k).1 a0=some r→GTo Try.prog 22 [.agg (Zf a0)] O n (.val (.bool r)) O n)∧(∀ {a0:Zc} {a1:Int} {r:Bool} {O:Objs} {n:Nat},(Zn k).2.1 a0 a1=some r→GTo Try.prog 46 [.agg (Zf a0),.val (.int .i64 a1)] O n (.val (.bool r)) O n)∧(∀ {a0:(List Zc)} {a1:Int} {r:Bool} {O:Objs} {n:Nat},(Zn k).2.2.1 a0 a1=some r→GTo Try.prog 83 [.sl a0.length (fl Zg a0),.val (.int .i64 a1)] O n (.val (.bool r)) O n)∧(∀ {a0:(List Zc)} {a1:Int} {r:Bool} {O:Objs} {n:Nat},(Zn k).2.2.2 a0 a1=some r→GTo Try.prog 86 [.sl a0.length (fl Zg a0),.val (.int .i64 a1)] O n (.val (.bool r)) O n):=fun k=>by
 induction k with
 | zero=>exact ⟨@fun a0 r O n h=>(nomatch (show (none:Option _)=some _ from h)),@fun a0 a1 r O n h=>(nomatch (show (none:Option _)=some _ from h)),@fun a0 a1 r O n h=>(nomatch (show (none:Option _)=some _ from h)),@fun a0 a1 r O n h=>(nomatch (show (none:Option _)=some _ from h))⟩
 | succ k ih=>exact ⟨@fun a0 r O n h=>Zry (ih.1) (ih.2.1) (ih.2.2.1) (ih.2.2.2)  h,@fun a0 a1 r O n h=>Zrz (ih.1) (ih.2.1) (ih.2.2.1) (ih.2.2.2)  h,@fun a0 a1 r O n h=>Zo5 (ih.1) (ih.2.1) (ih.2.2.1) (ih.2.2.2)  h,@fun a0 a1 r O n h=>Zo4 (ih.1) (ih.2.1) (ih.2.2.1) (ih.2.2.2)  h⟩
theorem Zgu {a0:Zc} {r:Bool} {O:Objs} {n:Nat} (h:Zik a0=some r):GTo Try.prog 22 [.agg (Zf a0)] O n (.val (.bool r)) O n:=by
 obtain ⟨k,hk⟩:=Zk8 h
 exact (Zpv k).1  hk
theorem Zo1 {a0:(List Int)} {r:(List Int)} {O:Objs} {n:Nat} (h:Vk a0=some r):GTo Try.prog 53 [.sl a0.length (fl (eI .u64) a0)] O n (.sl r.length (fl (eI .u64) r)) O n:=by
 unfold Vk at h
 refine Yt Zd Try.call53 Try.func53 rfl (Nat.le_of_ble_eq_true rfl) (Nat.le_refl _) fun hU => ?_
 have hN0:O n=none:=hU.fresh _ (Nat.le_refl _)
 have hN:∀ k,O (n+k)=none:=fun k=>hU.fresh _ (Nat.le_add_right _ _)
 show W _ _ _ _ ⟨22,[],[(0,.sl a0.length (fl (eI .u64) a0))]⟩ (Zu O n []) _
 refine Zl [0] (Zb Zd [] ?_)
 simp only [push_cast,seval,↓reduceIte,Za,hN0,hN]
 refine Zl [0,3] (Zb Zd [] ?_)
 simp only [push_cast,seval,↓reduceIte,Za,hN0,hN]
 refine Zk ?_
 refine Zm [0,3] [] ?_
 simp only [push_cast,seval,↓reduceIte]
 obtain ⟨z7,hz7,h⟩:=bC h
 refine X9 (E':=⟨22,[],[(0,.sl a0.length (fl (eI .u64) a0)),(3,.val (.int .i64 z7))]⟩) (O':=(Zu O n [])) (n0:=n) ?_ ?_
 ·refine Jc hz7 (fun s0_=>⟨22,[],[(0,.sl a0.length (fl (eI .u64) a0)),(3,.val (.int .i64 s0_))]⟩) (fun s0_=>(Zu O n [])) (fun z7=>JX 0 n (⟨22,[],[(0,.sl a0.length (fl (eI .u64) a0)),(3,.val (.int .i64 z7))]⟩:Env) (Zu O n []) n) ?_
  intro s0_ x0_ hs0_
  unfold Jl at hs0_
  try dsimp only
  refine Zk ?_
  obtain ⟨z2,hz2,hs0_⟩:=bC hs0_
  refine Q5 (E':=⟨22,[],[(0,.sl a0.length (fl (eI .u64) a0)),(3,.val (.int .i64 s0_)),(15,.val (.bool z2))]⟩) (O':=(Zu O n [])) (n0:=n) ?_ ?_
  ·rcases Bool.eq_false_or_eq_true (decide (0 < s0_)) with c5 | c5
   ·replace hz2:=Yd c5 hz2
    obtain ⟨x4,hx4,ax4,bx4,cx4,hz2⟩:=bE (f:=(eI .u64)) U8 (fun _=>rfl) (by decide) hz2
    refine Zb Zd (Z6y []) ?_
    simp only [push_cast,Nat.reduceAdd,Nat.reduceSub,Nat.reduceMul,Nat.reduceLeDiff,Nat.reduceLT,Nat.reduceEqDiff,↓reduceIte,reduceCtorEq,Int.reduceBEq,Int.reduceBNe,Nat.reduceBEq,Int.reduceLE,Int.reduceLT,Int.reduceEq,Int.reduceNe,Int.reduceNeg,Nat.reduceDiv,Nat.reduceMod,Nat.reducePow,Za,c5,ax4,bx4,cx4,hN0,hN]
    have hz2:=Option.some.inj hz2;subst hz2
    refine And.intro rfl (Fit2.of (Zp hU rfl rfl ?_) (by omega))
    simp only [push_cast,Nat.reduceAdd,Nat.reduceSub,Nat.reduceMul,Nat.reduceLeDiff,Nat.reduceLT,Nat.reduceEqDiff,↓reduceIte,reduceCtorEq,Int.reduceBEq,Int.reduceBNe,Nat.reduceBEq,Int.reduceLE,Int.reduceLT,Int.reduceEq,Int.reduceNe,Int.reduceNeg,Nat.reduceDiv,Nat.reduceMod,Nat.reducePow,Za,c5,ax4,bx4,cx4,hN0,hN]
   replace hz2:=Yc c5 hz2
   refine Zb Zd (Z5v []) ?_
   simp only [push_cast,seval,↓reduceIte,Za,c5,hN0,hN]
   have hz2:=Option.some.inj hz2;subst hz2
   refine And.intro rfl (Fit2.of (Zp hU rfl rfl ?_) (by omega))
   simp only [push_cast,seval,↓reduceIte,Za,c5,hN0,hN]
  refine Zq (t:=z2) rfl (fun c6 => ?_) (fun c6 => ?_)
  ·replace hs0_:=Yd c6 hs0_
   refine Z0 ?_
   try simp only [Zj,Zh]
   refine Zm [0,3] [] ?_
   simp only [push_cast,seval,↓reduceIte]
   refine Yk ?_
   refine Zb Zd [] ?_
   simp only [push_cast,seval,↓reduceIte,Za,hN0,hN]
   have hs0_:=Option.some.inj hs0_;subst hs0_
   refine And.intro rfl (Fit2.of (Zp hU rfl rfl ?_) (by omega))
   simp only [push_cast,seval,↓reduceIte,Za,hN0,hN]
  replace hs0_:=Yc c6 hs0_
  refine Jf ?_
  try simp only [Zj,Zh,↓reduceIte,Nat.reduceEqDiff]
  have hs0_:=Option.some.inj hs0_;subst hs0_
  refine And.intro (fun h=>by cases h) (And.intro rfl (Fit2.of (Zp hU rfl rfl ?_) (by omega)))
  simp only [push_cast,seval,↓reduceIte,Za,hN0,hN]
 try simp only [Zj,Zh,↓reduceIte,Nat.reduceEqDiff]
 refine Zm [0,3] [] ?_
 simp only [push_cast,seval,↓reduceIte]
 obtain ⟨l9,al9,bl9,cl9,gl9,h⟩:=bS3 (lo:=none) (hi:=(.i64,z7)) (f:=(eI .u64)) rfl rfl Zbw U8 (fun _=>rfl) h
 refine Zl [2] (Zb Zd [] ?_)
 simp only [push_cast,seval,↓reduceIte,Za,al9,bl9,cl9,gl9,hN0,hN]
 refine Zy ?_
 try simp only [Zj,Zh]
 have h:=Option.some.inj h;subst h
 refine Zt (.inr rfl) hU [.sl l9.length (fl (eI .u64) l9)] (by omega) ?_
 simp only [push_cast,seval,↓reduceIte,Za,Try.results53,hN0,hN]
theorem Zpz {a0:(List Zc)} {r:(List Zc)} {O:Objs} {n:Nat} (h:V2 a0=some r):GTo Try.prog 54 [.sl a0.length (fl Zg a0)] O n (.sl r.length (fl Zg r)) O n:=by
 unfold V2 at h
 refine Yt Zd Try.call54 Try.func54 rfl (Nat.le_of_ble_eq_true rfl) (Nat.le_refl _) fun hU => ?_
 have hN0:O n=none:=hU.fresh _ (Nat.le_refl _)
 have hN:∀ k,O (n+k)=none:=fun k=>hU.fresh _ (Nat.le_add_right _ _)
 show W _ _ _ _ ⟨23,[],[(0,.sl a0.length (fl Zg a0))]⟩ (Zu O n []) _
 refine Zl [0] (Zb Zd [] ?_)
 simp only [push_cast,seval,↓reduceIte,Za,hN0,hN]
 refine Zl [0,3] (Zb Zd [] ?_)
 simp only [push_cast,seval,↓reduceIte,Za,hN0,hN]
 refine Zk ?_
 refine Zm [0,3] [] ?_
 simp only [push_cast,seval,↓reduceIte]
 obtain ⟨z10,hz10,h⟩:=bC h
 refine X9 (E':=⟨23,[],[(0,.sl a0.length (fl Zg a0)),(3,.val (.int .i64 z10))]⟩) (O':=(Zu O n [])) (n0:=n) ?_ ?_
 ·refine Jc hz10 (fun s0_=>⟨23,[],[(0,.sl a0.length (fl Zg a0)),(3,.val (.int .i64 s0_))]⟩) (fun s0_=>(Zu O n [])) (fun z10=>JX 0 n (⟨23,[],[(0,.sl a0.length (fl Zg a0)),(3,.val (.int .i64 z10))]⟩:Env) (Zu O n []) n) ?_
  intro s0_ x0_ hs0_
  unfold J4 at hs0_
  try dsimp only
  refine Zk ?_
  obtain ⟨z3,hz3,hs0_⟩:=bC hs0_
  refine Q5 (E':=⟨23,[],[(0,.sl a0.length (fl Zg a0)),(3,.val (.int .i64 s0_)),(16,.val (.bool z3))]⟩) (O':=(Zu O n [])) (n0:=n) ?_ ?_
  ·rcases Bool.eq_false_or_eq_true (decide (0 < s0_)) with c8 | c8
   ·replace hz3:=Yd c8 hz3
    obtain ⟨x6,hx6,ax6,bx6,cx6,hz3⟩:=bE (f:=Zg) Vo (fun _=>rfl) (by decide) hz3
    have g7:=Zyg (f:=Zg) (sz:=3) Zt7 (fun _=>rfl) (by decide) (by decide) hx6
    refine Zb Zd (Z3x []) ?_
    simp only [push_cast,Nat.reduceAdd,Nat.reduceSub,Nat.reduceMul,Nat.reduceLeDiff,Nat.reduceLT,Nat.reduceEqDiff,↓reduceIte,reduceCtorEq,Int.reduceBEq,Int.reduceBNe,Nat.reduceBEq,Int.reduceLE,Int.reduceLT,Int.reduceEq,Int.reduceNe,Int.reduceNeg,Nat.reduceDiv,Nat.reduceMod,Nat.reducePow,Za,c8,ax6,bx6,cx6,g7,hN0,hN]
    have hz3:=Option.some.inj hz3;subst hz3
    refine And.intro rfl (Fit2.of (Zp hU rfl rfl ?_) (by omega))
    simp only [push_cast,Nat.reduceAdd,Nat.reduceSub,Nat.reduceMul,Nat.reduceLeDiff,Nat.reduceLT,Nat.reduceEqDiff,↓reduceIte,reduceCtorEq,Int.reduceBEq,Int.reduceBNe,Nat.reduceBEq,Int.reduceLE,Int.reduceLT,Int.reduceEq,Int.reduceNe,Int.reduceNeg,Nat.reduceDiv,Nat.reduceMod,Nat.reducePow,Za,c8,ax6,bx6,cx6,g7,hN0,hN]
   replace hz3:=Yc c8 hz3
   refine Zb Zd (Z3w []) ?_
   simp only [push_cast,seval,↓reduceIte,Za,c8,hN0,hN]
   have hz3:=Option.some.inj hz3;subst hz3
   refine And.intro rfl (Fit2.of (Zp hU rfl rfl ?_) (by omega))
   simp only [push_cast,seval,↓reduceIte,Za,c8,hN0,hN]
  refine Zq (t:=z3) rfl (fun c9 => ?_) (fun c9 => ?_)
  ·replace hs0_:=Yd c9 hs0_
   refine Z0 ?_
   try simp only [Zj,Zh]
   refine Zm [0,3] [] ?_
   simp only [push_cast,seval,↓reduceIte]
   refine Yk ?_
   refine Zb Zd [] ?_
   simp only [push_cast,seval,↓reduceIte,Za,hN0,hN]
   have hs0_:=Option.some.inj hs0_;subst hs0_
   refine And.intro rfl (Fit2.of (Zp hU rfl rfl ?_) (by omega))
   simp only [push_cast,seval,↓reduceIte,Za,hN0,hN]
  replace hs0_:=Yc c9 hs0_
  refine Jf ?_
  try simp only [Zj,Zh,↓reduceIte,Nat.reduceEqDiff]
  have hs0_:=Option.some.inj hs0_;subst hs0_
  refine And.intro (fun h=>by cases h) (And.intro rfl (Fit2.of (Zp hU rfl rfl ?_) (by omega)))
  simp only [push_cast,seval,↓reduceIte,Za,hN0,hN]
 try simp only [Zj,Zh,↓reduceIte,Nat.reduceEqDiff]
 refine Zm [0,3] [] ?_
 simp only [push_cast,seval,↓reduceIte]
 obtain ⟨l12,al12,bl12,cl12,gl12,h⟩:=bS3 (lo:=none) (hi:=(.i64,z10)) (f:=Zg) rfl rfl Zgm Vo (fun _=>rfl) h
 refine Zl [2] (Zb Zd [] ?_)
 simp only [push_cast,seval,↓reduceIte,Za,al12,bl12,cl12,gl12,hN0,hN]
 refine Zy ?_
 try simp only [Zj,Zh]
 have h:=Option.some.inj h;subst h
 refine Zt (.inr rfl) hU [.sl l12.length (fl Zg l12)] (by omega) ?_
 simp only [push_cast,seval,↓reduceIte,Za,Try.results54,hN0,hN]
theorem Ztz {Zbb:(Zc→Option Zc)} (Zrx:∀ {a0:Zc} {r:Zc} {O:Objs} {n:Nat},Zbb a0=some r→GTo Try.prog 26 [.agg (Zf a0)] O n (.agg (Zf r)) O n) {a0:Zc} {r:Zc} {O:Objs} {n:Nat} (h:Zc8 Zbb a0=some r):GTo Try.prog 26 [.agg (Zf a0)] O n (.agg (Zf r)) O n:=by
 unfold Zc8 at h
 refine Yt Zd Try.call26 Try.func26 rfl (Nat.le_of_ble_eq_true rfl) (Nat.le_refl _) fun hU => ?_
 have hN0:O n=none:=hU.fresh _ (Nat.le_refl _)
 have hN:∀ k,O (n+k)=none:=fun k=>hU.fresh _ (Nat.le_add_right _ _)
 show W _ _ _ _ ⟨49,[],[(0,.agg (Zf a0))]⟩ (Zu O n []) _
 refine Zl [1,2] (Zb Zd [] ?_)
 simp only [push_cast,seval,↓reduceIte,Za,hN0,hN]
 refine Zk ?_
 refine Zl [1,2,10] (Zb Zd [] ?_)
 simp only [push_cast,seval,↓reduceIte,Za,hN0,hN]
 refine Zq (t:=(a0.Kind == 0)) rfl (fun c15 => ?_) (fun c15 => ?_)
 ·replace h:=Yd c15 h
  refine Zk ?_
  refine Zb Zd [] ?_
  simp only [push_cast,seval,↓reduceIte,Za,hN0,hN]
  refine Zm [2] [false,true] ?_
  simp only [push_cast,seval,↓reduceIte]
  refine Zy ?_
  try simp only [Zj,Zh]
  have h:=Option.some.inj h;subst h
  refine Zt (.inr rfl) hU [.agg [.val (.int .i64 0),.val (.slice none 0 0),.val (.slice none 0 0)]] (by omega) ?_
  simp only [push_cast,seval,↓reduceIte,Za,Try.results26,hN0,hN]
 replace h:=Yc c15 h
 refine Z0 ?_
 try simp only [Zj,Zh]
 refine Zm [1,2] [true,true] ?_
 simp only [push_cast,seval,↓reduceIte]
 refine Zl [1,2,3,4] (Gz Zd (by kernel_rfl) [] (by kernel_rfl) ?_)
 simp only [push_cast,seval,↓reduceIte,Za,hN0,hN]
 obtain ⟨z1,hz1,h⟩:=bC h
 refine Q5 (E':=⟨49,[],[(1,.ref n 0),(2,.ref (n+1) 0),(3,.sl z1.1.length (fl (eI .u64) z1.1)),(4,.sl z1.2.length (fl Zg z1.2))]⟩) (O':=(Zu O n [some ⟨false,25,3,1,(Zf a0)⟩,some ⟨false,25,3,1,[.val (.int .i64 0),.val (.slice none 0 0),.val (.slice none 0 0)]⟩])) (n0:=(n+2)) ?_ ?_
 ·refine Zl [1,2,3,4,18] (Zb Zd [] ?_)
  simp only [push_cast,seval,↓reduceIte,Za,hN0,hN]
  refine Zq (t:=(a0.Kind == 1)) rfl (fun c4 => ?_) (fun c4 => ?_)
  ·replace hz1:=Yd c4 hz1
   obtain ⟨y2,hy2,hz1⟩:=bC hz1
   obtain ⟨y3,hy3,hz1⟩:=bC hz1
   refine Zb Zd [] ?_
   simp only [push_cast,seval,↓reduceIte,Za,hN0,hN]
   refine (Zo1 hy2).then ?_
   simp only [push_cast,seval,↓reduceIte,Za,hN0,hN]
   refine (Zpz hy3).then ?_
   simp only [push_cast,seval,↓reduceIte,Za,hN0,hN]
   have hz1:=Option.some.inj hz1;subst hz1
   refine And.intro rfl (Fit2.of (Zp hU rfl rfl ?_) (by omega))
   simp only [push_cast,seval,↓reduceIte,Za,hN0,hN]
  replace hz1:=Yc c4 hz1
  refine Z0 ?_
  try simp only [Zj,Zh]
  have hz1:=Option.some.inj hz1;subst hz1
  refine And.intro rfl (Fit2.of (Zp hU rfl rfl ?_) (by omega))
  simp only [push_cast,seval,↓reduceIte,Za,hN0,hN]
 refine Zk ?_
 refine Zb Zd [] ?_
 simp only [push_cast,seval,↓reduceIte,Za,hN0,hN]
 refine Zm [2,4,5] [false,true,true] ?_
 simp only [push_cast,seval,↓reduceIte]
 obtain ⟨z5,hz5,h⟩:=bC h
 refine Q5 (E':=⟨49,[],[(2,.ref (n+1) 0),(4,.sl z1.2.length (fl Zg z1.2)),(5,.ref (n+2) 0)]⟩) (O':=(Zu O n [none,some ⟨false,25,3,1,[.val (.int .i64 0),.val (.slice none 0 0),.val (.slice none 0 0)]⟩,some ⟨false,25,3,1,[.val (.int .i64 a0.Kind),.sl z1.1.length (fl (eI .u64) z1.1),.row (n+4) z5.length]⟩,none,some ⟨true,25,3,z5.length,fl Zg z5⟩,none])) (n0:=(n+6)) ?_ ?_
 ·refine Zl [2,4,5,29] (Zb Zd [] ?_)
  simp only [push_cast,seval,↓reduceIte,Za,hN0,hN]
  refine Zq (t:=(decide (0 < (z1.2.length:Int)))) rfl (fun c7 => ?_) (fun c7 => ?_)
  ·replace hz5:=Yd c7 hz5
   obtain ⟨l6,al6,bl6,cl6,el6,hz5⟩:=bM2 (c:=56) rfl hz5
   have nl6:Int.toNat (z1.2.length:Int)=List.length l6:=by rw [el6,List.length_replicate]
   have fl6:∀ O O' n,Kt O O' n (List.replicate (List.length l6) [.val (.int .i64 0),.val (.slice none 0 0),.val (.slice none 0 0)]).flatten (fl Zg l6)=True:=fun O O' n=>by rw [← nl6,el6];exact eq_true (Zxw (by simp only [push_cast,seval,↓reduceIte,Za]) _)
   clear el6
   refine Zb Zd [] ?_
   simp only [push_cast,seval,↓reduceIte,Za,al6,bl6,cl6,fl6,nl6,hN0,hN]
   have hz5:=Option.some.inj hz5;subst hz5
   refine And.intro rfl ?_
   refine Fit2.trans (E':=(⟨49,[],[(2,.ref (n+1) 0),(4,.sl z1.2.length (fl Zg z1.2)),(5,.ref (n+2) 0)]⟩:Env)) (O':=(Zu O n [none,some ⟨false,25,3,1,[.val (.int .i64 0),.val (.slice none 0 0),.val (.slice none 0 0)]⟩,some ⟨false,25,3,1,[.val (.int .i64 a0.Kind),.sl z1.1.length (fl (eI .u64) z1.1),.row (n+3) l6.length]⟩,some ⟨true,25,3,l6.length,fl Zg l6⟩])) (n':=(n+4)) (Fit2.of (Zp hU rfl rfl ?_) (by omega)) ?_
   ·simp only [push_cast,seval,↓reduceIte,Za,al6,bl6,cl6,fl6,nl6,hN0,hN]
   refine Zl6 (k:=4) (k':=6) hU [5,1,2,4] [0,1,2,0,3,0] rfl rfl rfl rfl ⟨rfl,rfl⟩ ?_
   simp only [push_cast,seval,↓reduceIte,Za,hN0,hN]
  replace hz5:=Yc c7 hz5
  refine Z0 ?_
  try simp only [Zj,Zh]
  have hz5:=Option.some.inj hz5;subst hz5
  refine And.intro rfl ?_
  refine Fit2.trans (E':=(⟨49,[],[(2,.ref (n+1) 0),(4,.sl z1.2.length (fl Zg z1.2)),(5,.ref (n+2) 0)]⟩:Env)) (O':=(Zu O n [none,some ⟨false,25,3,1,[.val (.int .i64 0),.val (.slice none 0 0),.val (.slice none 0 0)]⟩,some ⟨false,25,3,1,[.val (.int .i64 a0.Kind),.sl z1.1.length (fl (eI .u64) z1.1),.val (.slice none 0 0)]⟩])) (n':=(n+3)) (Fit2.of (Zp hU rfl rfl ?_) (by omega)) ?_
  ·simp only [push_cast,seval,↓reduceIte,Za,hN0,hN]
  refine Fit2.trans (Zml (p:=(n+2)) (k:=2) (q:=⟨false,25,3,1,[.val (.int .i64 a0.Kind),.sl z1.1.length (fl (eI .u64) z1.1),.val (.slice none 0 0)]⟩) 25 3 (by simp only [Vc,Zc3,List.getElem?_cons_zero,List.getElem?_cons_succ,Option.join_some,List.length_nil,Zs]) rfl (by omega)) ?_
  simp only [Jk,X8,Gy,Ui,List.set_cons_zero,List.set_cons_succ,List.cons_append,List.nil_append,List.length_cons,List.length_nil,Nat.zero_add,Nat.reduceAdd,Nat.reduceLT,Nat.add_assoc]
  refine Zl6 (k:=4) (k':=6) hU [5,1,2,4] [0,1,2,0,3,0] rfl rfl rfl rfl ⟨rfl,rfl⟩ ?_
  simp only [push_cast,seval,↓reduceIte,Za,hN0,hN]
 refine Zk ?_
 refine Zl [2,5,34,35,36] (Zb Zd [] ?_)
 simp only [push_cast,seval,↓reduceIte,Za,hN0,hN]
 refine Zm [2,5,34,35,36] [false,true,true,false,true,false] ?_
 simp only [push_cast,seval,↓reduceIte]
 obtain ⟨z14,hz14,h⟩:=bC h
 refine X9 (E':=⟨49,[],[(2,.ref (n+1) 0),(5,.ref (n+2) 0)]⟩) (O':=(Zu O n [none,some ⟨false,25,3,1,[.val (.int .i64 0),.val (.slice none 0 0),.val (.slice none 0 0)]⟩,some ⟨false,25,3,1,[.val (.int .i64 a0.Kind),.sl z1.1.length (fl (eI .u64) z1.1),.row (n+4) z14.length]⟩,none,some ⟨true,25,3,z14.length,fl Zg z14⟩,none])) (n0:=(n+6)) ?_ ?_
 ·refine Jc hz14 (fun s0_=>⟨49,[],[(2,.ref (n+1) 0),(5,.ref (n+2) 0),(34,.sl z1.2.length (fl Zg z1.2)),(35,.val (.int .i64 (z1.2.length:Int))),(36,.val (.int .i64 s0_.1))]⟩) (fun s0_=>(Zu O n [none,some ⟨false,25,3,1,[.val (.int .i64 0),.val (.slice none 0 0),.val (.slice none 0 0)]⟩,some ⟨false,25,3,1,[.val (.int .i64 a0.Kind),.sl z1.1.length (fl (eI .u64) z1.1),.row (n+4) s0_.2.length]⟩,none,some ⟨true,25,3,s0_.2.length,fl Zg s0_.2⟩,none])) (fun z14=>JX 0 n (⟨49,[],[(2,.ref (n+1) 0),(5,.ref (n+2) 0)]⟩:Env) (Zu O n [none,some ⟨false,25,3,1,[.val (.int .i64 0),.val (.slice none 0 0),.val (.slice none 0 0)]⟩,some ⟨false,25,3,1,[.val (.int .i64 a0.Kind),.sl z1.1.length (fl (eI .u64) z1.1),.row (n+4) z14.length]⟩,none,some ⟨true,25,3,z14.length,fl Zg z14⟩,none]) (n+6)) ?_
  intro s0_ x0_ hs0_
  unfold Vd at hs0_
  try dsimp only
  refine Zl [2,5,34,35,36,37] (Zb Zd [] ?_)
  simp only [push_cast,seval,↓reduceIte,Za,hN0,hN]
  refine Zk ?_
  refine Zq (t:=(decide (s0_.1 < (z1.2.length:Int)))) rfl (fun c13 => ?_) (fun c13 => ?_)
  ·replace hs0_:=Yd c13 hs0_
   refine Z0 ?_
   try simp only [Zj,Zh]
   refine Zm [2,5,34,35,36] [false,true,true,false,true,false] ?_
   simp only [push_cast,seval,↓reduceIte]
   refine Zk ?_
   refine Yk ?_
   refine Zk ?_
   obtain ⟨x9,hx9,ax9,bx9,cx9,hs0_⟩:=bE (f:=Zg) Vo (fun _=>rfl) (by decide) hs0_
   refine Zb Zd [] ?_
   simp only [push_cast,Nat.reduceAdd,Nat.reduceSub,Nat.reduceMul,Nat.reduceLeDiff,Nat.reduceLT,Nat.reduceEqDiff,↓reduceIte,reduceCtorEq,Int.reduceBEq,Int.reduceBNe,Nat.reduceBEq,Int.reduceLE,Int.reduceLT,Int.reduceEq,Int.reduceNe,Int.reduceNeg,Nat.reduceDiv,Nat.reduceMod,Nat.reducePow,Za,ax9,bx9,cx9,hN0,hN]
   refine Zm [2,5,6,7,34,35,36] [false,true,true,false,true,false,true] ?_
   simp only [push_cast,seval,↓reduceIte]
   obtain ⟨y10,hy10,hs0_⟩:=bC hs0_
   obtain ⟨x11,hx11,ax11,bx11,cx11,hs0_⟩:=bE (f:=Zg) Vo (fun _=>rfl) (by decide) hs0_
   have gu12:Q8 (fl Zg s0_.2) [.val (.int .i64 y10.Kind),.sl y10.Words.length (fl (eI .u64) y10.Words),.sl y10.Kids.length (fl Zg y10.Kids)] (Int.toNat s0_.1 * 3)=some (fl Zg (Z9 s0_.2 s0_.1 y10)):=(congrArg (fun c=>Q8 (fl Zg s0_.2) c (Int.toNat s0_.1 * 3)) (show [.val (.int .i64 y10.Kind),.sl y10.Words.length (fl (eI .u64) y10.Words),.sl y10.Kids.length (fl Zg y10.Kids)]=Zg y10 from by simp only [Zg,Ys,eI,eB,eS,eL])).trans (Za5 (f:=Zg) (ti:=⟨.bool,3,0,[],false⟩) (x:=y10) (fun _=>rfl) (Vx hx11))
   refine Zls Zd (by kernel_rfl) [false,false,false,false,false,false,true] [] (by kernel_rfl) ?_
   simp only [push_cast,Nat.reduceAdd,Nat.reduceSub,Nat.reduceMul,Nat.reduceLeDiff,Nat.reduceLT,Nat.reduceEqDiff,↓reduceIte,reduceCtorEq,Int.reduceBEq,Int.reduceBNe,Nat.reduceBEq,Int.reduceLE,Int.reduceLT,Int.reduceEq,Int.reduceNe,Int.reduceNeg,Nat.reduceDiv,Nat.reduceMod,Nat.reducePow,Za,ax11,bx11,cx11,gu12,hN0,hN]
   refine PCall.of (Zrx hy10) ?_
   simp only [push_cast,Nat.reduceAdd,Nat.reduceSub,Nat.reduceMul,Nat.reduceLeDiff,Nat.reduceLT,Nat.reduceEqDiff,↓reduceIte,reduceCtorEq,Int.reduceBEq,Int.reduceBNe,Nat.reduceBEq,Int.reduceLE,Int.reduceLT,Int.reduceEq,Int.reduceNe,Int.reduceNeg,Nat.reduceDiv,Nat.reduceMod,Nat.reducePow,Za,ax11,bx11,cx11,gu12,hN0,hN]
   refine Zm [2,5,34,35,36] [false,true,true,false,true,false,false] ?_
   simp only [push_cast,seval,↓reduceIte]
   refine Zb Zd [] ?_
   simp only [push_cast,seval,↓reduceIte,Za,hN0,hN]
   have hs0_:=Option.some.inj hs0_;subst hs0_
   refine And.intro rfl (Fit2.of (Zp hU rfl rfl ?_) (by omega))
   simp only [push_cast,seval,↓reduceIte,Za,hN0,hN]
  replace hs0_:=Yc c13 hs0_
  refine Jf ?_
  try simp only [Zj,Zh,↓reduceIte,Nat.reduceEqDiff]
  have hs0_:=Option.some.inj hs0_;subst hs0_
  refine And.intro (fun h=>by cases h) (And.intro rfl (Fit2.of (Zp hU rfl rfl ?_) (by omega)))
  simp only [push_cast,seval,↓reduceIte,Za,hN0,hN]
 try simp only [Zj,Zh,↓reduceIte,Nat.reduceEqDiff]
 refine Zm [2,5] [false,true,true,false,true,false] ?_
 simp only [push_cast,seval,↓reduceIte]
 refine Zk ?_
 refine Zb Zd [] ?_
 simp only [push_cast,seval,↓reduceIte,Za,hN0,hN]
 refine Zm [2] [false,true,false,false,true,false] ?_
 simp only [push_cast,seval,↓reduceIte]
 refine Zy ?_
 try simp only [Zj,Zh]
 have h:=Option.some.inj h;subst h
 refine Zt (.inr rfl) hU [.agg [.val (.int .i64 a0.Kind),.sl z1.1.length (fl (eI .u64) z1.1),.row (n+4) z14.length]] (by omega) ?_
 simp only [push_cast,seval,↓reduceIte,Za,Try.results26,hN0,hN]
theorem Zqn:∀ k,(∀ {a0:Zc} {r:Zc} {O:Objs} {n:Nat},(Jo k) a0=some r→GTo Try.prog 26 [.agg (Zf a0)] O n (.agg (Zf r)) O n):=fun k=>by
 induction k with
 | zero=>exact @fun a0 r O n h=>(nomatch (show (none:Option _)=some _ from h))
 | succ k ih=>exact @fun a0 r O n h=>Ztz (ih)  h
theorem Zim {a0:Zc} {r:Zc} {O:Objs} {n:Nat} (h:Zgk a0=some r):GTo Try.prog 26 [.agg (Zf a0)] O n (.agg (Zf r)) O n:=by
 obtain ⟨k,hk⟩:=Zk8 h
 exact (Zqn k)  hk
end Go.Proofs.Ytaddaloondpnkaa
