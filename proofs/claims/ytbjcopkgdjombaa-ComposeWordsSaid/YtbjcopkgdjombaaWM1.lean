/- Part WM1 of this seat's mirrors: functions of the seat's program, and the plain functions that they are; each theorem bears its own conditions. -/
import Derived.Test.YtbjcopkgdjombaaWD
namespace Go.Proofs.Ytbjcopkgdjombaa
open Go.RowKit
set_option linter.unusedVariables false
set_option linter.unusedSimpArgs false
set_option maxRecDepth 100000
set_option maxHeartbeats 4000000
attribute [local push_cast] Try.results107 Try.results36 Try.results39 Try.results40 Try.results42 Try.results45 Try.results46 Try.results47 Try.results69 Try.results75 Try.results76 vI vB nV sL oR J8 Zk Xk Y1 Zp Zl Ztx Ztw Zuu Zut Xh Yw Zpw Zkr Zkq onW Qf Zds Zco Zpx Zpy Znw Zn0 Znv Znz Zrc Zq9 Zny Zrb Zra Znx Zq7 Zlk evS wok Jh Op.operands Call.operands gop onK onP atK List.all_cons List.all_nil Bool.and_true Bool.true_and Bool.and_self Value.oneCell' List.take_zero List.take_succ_cons List.take_nil List.drop_zero List.drop_succ_cons List.drop_nil List.append_nil Nat.add_zero Nat.zero_add Uj Yt ev Jv Zda Zto Ztn Ztt Ztr Zts Ztp Ztq Ztm Zpt Zr9 Zwn Zi6 Zep Zij Zdy Zm8 Zg3 Ziu Ziz Zkl Zki Zix Zkk Zkj Ziw Zkg Ziv Ziy Zh0 Zkh Zku Zkt Zcp Zjx Zcq Zkp Zi2 Zt2 bLo bHi bMx Zeq Zko Zx5 Zi1 Zka Zgu Zam Zst Zx8 Zjv Zyc Zeo Z1i Zp5 Zp9 Zp4 Zp8 Zue Zub Zt9 Znb Zp6 Zud Zuc Zp7 Zua Zi4 gone Zqt Zle Zld pop TK.isAgg Zuo Zus Zun Zur Zqn Zyl Zyi Zuq Zyk Zyj Zup Zyh G.under G.unders List.getD_cons_zero List.getD_cons_succ List.set_cons_zero List.set_cons_succ List.map_cons List.map_nil List.toList_toArray Array.toList_append Option.toArray_none Option.toArray_some Array.toList_map Option.map_some Option.map_none Option.bind_some Option.bind_none List.getElem?_cons_zero List.getElem?_cons_succ List.getElem?_nil List.nil_append List.cons_append List.replicate_succ List.replicate_zero List.length_cons List.length_nil and_true true_and and_false false_and Bool.true_eq_false Bool.false_eq_true forall_const false_implies implies_true IntKind.bits if_true if_false ite_true ite_false eq_self true_implies false_or or_false or_true true_or not_true_eq_false not_false_eq_true decide_true decide_false decide_eq_true_eq decide_eq_false_iff_not beq_iff_eq bne_iff_ne ne_eq Bool.not_eq_true Bool.not_eq_false beq_eq_false_iff_ne bne_eq_false_iff_eq beq_self_eq_true bne_self_eq_false Option.some.injEq exists_eq_left' exists_eq_left ge_iff_le gt_iff_lt decide_not Bool.not_true Bool.not_false imp_self Zya cond_true cond_false Z6b Z6a Bool.not_not Bool.and_false Bool.false_and Bool.or_true Bool.true_or Bool.or_false Bool.false_or Vi U6 Vj Kg Y5 Yr Option.join_some Nat.add_assoc Int.toNat_natCast eI eB eS eL Y6 Zjw Zi3 Zt1 Ztz Zt0 Z1r Z26 Zj0 Zjj Zu3 Zu1 Zu2 Zw4 Zlv Zwj Zmm Ztg Zjt Zx3 List.length_append G.agg.injEq G.row.injEq G.ref.injEq G.val.injEq G.sl.injEq G.tup.injEq Value.int.injEq Value.bool.injEq Value.string.injEq List.cons.injEq exists_and_left exists_const List.flatten_cons List.flatten_nil Int.le_refl Nat.le_refl Qg Yo Yv Bool.not_eq_true' Bool.not_eq_false' Zv5 Zmp Zzu Zzy Zzt Zzx Z4o Z4k List.size_toArray Zot Zqv G.ren G.rens Zsh Zg8 Zu5 Ztj Ztk Zq8 Zzz Zd8 G.fn.injEq Zr5 Zr6 Zv4 Z4l Zr4 Zzw Z4n Z4m Zzv Zye Z2s Option.join_none Yg V6 undef Zkc Arr.len Arr.put_eq Zjz Znk Zla Zji Zu0 Zuy Zuz onB Z1q Zss Zq3 Zo4 Zo5 Zo6 Zo7 Zo8 Zo9 Znd Znn Znl Zlc Zjk Znm Zqs Zqr Zqq Zqp Z25 Z5i Zw3 Zuv K7 Zwz Zok Zno Zlb Zym Zq5 Zi0 Zj9 Zfl Zmk Zpa Zpb Zpc Zpd Zmq Zmr Zms Zmt Zmu Zmv Zmw Zfw prT Zdd Z6q Zzk Zzi Zzl Z6r Zzm Zht Zzn Z6s Zzo Z6t Zzp Z6u Zzq Z6v Zzr Z3o Zva Z3p Zvb Z3q Zvc Z3r Zvd Z3s Zve Z3t Zvf Z3u Zvg Z3v Zvh Z3w Zvi Z3x Zvj Z3y Zvk Z3z Zo2 Z30 Zdq Z31 Zvl Uk Zvm Z32 Zie Z33 Zif Z34 Zo3 Z35 Zvn Z36 Zvo Zjp Zvp Z37 Zvq Zdw Zvr Z38 Zvs Ze2 Zvt Z39 Zvu Zdp Zvv Zxj Zj4 Z4a Zvw Z4b Zvx Z4c Zvy Z0y Zvz Z4d Zv0 Z4e Zv1 Zyt Zrd Zyu Zre Zyv Zrf Zyw Zrg Zyx Zrh Zyy Zri Zyz Zrj Zy0 Zrk Zy1 Zrl Zy2 Zrm Zy3 Zrn Zy4 Zro Zy5 Zrp Zy6 Zrq Zy7 Zrr Zy8 Zrs Zy9 Zrt Zza Zru Zzb Zrv Zzc Zrw Zzd Zrx Zze Zry Zzf Zrz Zzg Zr0 Zzh Zr1 Za Xf Zlp Zlo Zkz Zk8 Zlq Zjs Zjm Zjl Zlm Zee Zed Zd0 Zd7 Zef Zdr Zdm Zdl Zec Zn6 Zn5 Zm9 Zni Zn7 Zln Zlh Zlg Zn1 Zf Zc7 Zg Zi Jm Jy X4 Zbk Zbh Zap Za1 Zbp Zac G7 G3 Zbb Zcb Zb9 Zb1 Zb5 Zcd Zbf Za6 Za4 Zb7 Zgo Zgn Zf1 Zga Zgp Zff Zfd Zfc Zgl Ym Zbl Zbi Zaq Za2 Zbq Zad G8 G4 Zbc Yk Zaf Zae Gv Gy Zag Gh Gg Gf Zaa Yl Zbj Zbg Zao Za0 Zbo Zab G5 G0 Zba Z4 Zca Zb8 Zb0 Zb4 Zcc Zbe Za5 Za3 Zb6
theorem Kr {a0:Zb} {r:Bool} {O:Objs} {n:Nat} (h:Q6 a0=some r):GTo Try.prog 39 [.agg (Zp a0)] O n ((vB r)) O n:=by
 unfold Q6 at h
 refine zFn Try.call39 Try.func39 fun hU hN0 hN => ?_
 show W _ _ _ _ ⟨16,[],[(0,.agg (Zp a0))]⟩ (Zy O n []) _
 refine zQ [1] ?_
 refine zQD [2] [none,none,none,none,none,none,none,none] ?_
 exact Xg [(vB (cond (a0.Kind == 0) ((IntKind.i64.wrap ((a0.Words.length:Int)+(a0.Kids.length:Int))) == 0) false))]
theorem Zj6 {a0:Int} {r:Int} {O:Objs} {n:Nat} (h:Zcs a0=some r):GTo Try.prog 107 [(vI a0)] O n ((vI r)) O n:=by
 unfold Zcs at h
 refine zFn Try.call107 Try.func107 fun hU hN0 hN => ?_
 show W _ _ _ _ ⟨16,[],[(0,(vI a0))]⟩ (Zy O n []) _
 refine zQ [0] ?_
 refine Zn ?_
 refine zQ [3] ?_
 refine Yx ?_
 refine zQ [3,4] ?_
 refine Zt (t:=(a0 == 0)) rfl (fun c6 => ?_) (fun c6 => ?_)
 ·replace h:=Zw c6 h
  refine zQ [2] ?_
  exact Xg [(vI 0)]
 replace h:=Zv c6 h
 refine zQ [3,6] ?_
 refine Zt (t:=(a0 == 1)) rfl (fun c5 => ?_) (fun c5 => ?_)
 ·replace h:=Zw c5 h
  refine zQ [2] ?_
  exact Xg [(vI 1)]
 replace h:=Zv c5 h
 refine zQ [3,8] ?_
 refine Zt (t:=(a0 == 2)) rfl (fun c4 => ?_) (fun c4 => ?_)
 ·replace h:=Zw c4 h
  refine zQ [2] ?_
  exact Xg [(vI 8)]
 replace h:=Zv c4 h
 refine zQ [3,10] ?_
 refine Zt (t:=(a0 == 3)) rfl (fun c3 => ?_) (fun c3 => ?_)
 ·replace h:=Zw c3 h
  refine zQ [2] ?_
  exact Xg [(vI 16)]
 replace h:=Zv c3 h
 refine zQ [3,12] ?_
 refine Zt (t:=(a0 == 4)) rfl (fun c2 => ?_) (fun c2 => ?_)
 ·replace h:=Zw c2 h
  refine zQ [2] ?_
  exact Xg [(vI 32)]
 replace h:=Zv c2 h
 refine zQ [14] ?_
 refine Zt (t:=(a0 == 5)) rfl (fun c1 => ?_) (fun c1 => ?_)
 ·replace h:=Zw c1 h
  refine zQ [2] ?_
  exact Xg [(vI 64)]
 replace h:=Zv c1 h
 refine Ud [] [] ?_
 refine zQ [2] ?_
 exact Xg [(vI (-1))]
theorem Zf7 {a0:Int} {a1:Int} {r:Bool} {O:Objs} {n:Nat} (h:K3 a0 a1=some r):GTo Try.prog 69 [(vI a0),.val (.int .u64 a1)] O n ((vB r)) O n:=by
 unfold K3 at h
 refine zFn Try.call69 Try.func69 fun hU hN0 hN => ?_
 show W _ _ _ _ ⟨20,[],[(0,(vI a0)),(1,.val (.int .u64 a1))]⟩ (Zy O n []) _
 refine zQ [0,1] ?_
 refine Zn ?_
 obtain ⟨y2,hy2,h⟩:=bC h
 refine zCd (Zj6 hy2) [1,5] [] ?_
 refine Zn ?_
 refine zQ [1,5,10] ?_
 refine Zt (t:=(decide (y2 < 0))) rfl (fun c5 => ?_) (fun c5 => ?_)
 ·replace h:=Zw c5 h
  refine zQ [4] ?_
  exact Xg [(vB false)]
 replace h:=Zv c5 h
 refine Ud [1,5] [] ?_
 refine Zn ?_
 refine zQd [1,5,6] [1,5,6] [] ?_
 obtain ⟨z4,hz4,h⟩:=bC h
 refine Xe (E':=⟨20,[],[(1,.val (.int .u64 z4))]⟩) (O':=(Zy O n [])) (n0:=n) ?_ ?_
 ·refine Xv hz4 (fun s0_=>⟨20,[],[(1,.val (.int .u64 s0_.1)),(5,(vI y2)),(6,(vI s0_.2))]⟩) (fun s0_=>(Zy O n [])) (fun z4=>JX 0 n (⟨20,[],[(1,.val (.int .u64 z4))]⟩:Env) (Zy O n []) n) ?_
  intro s0_ x0_ hs0_
  unfold Qb at hs0_
  try dsimp only
  refine Zn ?_
  refine zQ [1,5,6,13] ?_
  refine Zt (t:=(decide (s0_.2 < y2))) rfl (fun c3 => ?_) (fun c3 => ?_)
  ·replace hs0_:=Zw c3 hs0_
   refine Ud [1,5,6] [] ?_
   refine Zn ?_
   refine Yx ?_
   refine zRd [1,5,6] [] ?_
   refine zR ?_
   exact zEn hs0_
  replace hs0_:=Zv c3 hs0_
  exact zEx hs0_
 try simp only [Xh,Yw,↓reduceIte,Nat.reduceEqDiff]
 refine zD [1] [] ?_
 refine zQ [4] ?_
 exact Xg [(vB (z4 == 0))]
def Zdu (Qt:(Zb→Int→Option Bool)):Prop:=∀ {a0:Zb} {a1:Int} {r:Bool} {O:Objs} {n:Nat},Qt a0 a1=some r→GTo Try.prog 36 [.agg (Zp a0),(vI a1)] O n ((vB r)) O n
theorem Zjf {Qt:(Zb→Int→Option Bool)} (Zis:Zdu Qt) {a0:Zb} {a1:Int} {r:Bool} {O:Objs} {n:Nat} (h:Vn Qt a0 a1=some r):GTo Try.prog 36 [.agg (Zp a0),(vI a1)] O n ((vB r)) O n:=by
 unfold Vn at h
 refine zFn Try.call36 Try.func36 fun hU hN0 hN => ?_
 show W _ _ _ _ ⟨132,[],[(0,.agg (Zp a0)),(1,(vI a1))]⟩ (Zy O n []) _
 refine zQ [1,2] ?_
 refine Zn ?_
 refine zQ [1,2,10] ?_
 refine Zt (t:=(a0.Kind == 0)) rfl (fun c32 => ?_) (fun c32 => ?_)
 ·replace h:=Zw c32 h
  refine zQD [4] [none,none,none,none] ?_
  exact Xg [(vB (cond ((a0.Words.length:Int) == 0) ((a0.Kids.length:Int) == 0) false))]
 replace h:=Zv c32 h
 refine Ud [1,2] [true] ?_
 refine Zn ?_
 refine zQ [1,2,23] ?_
 refine Zt (t:=(a0.Kind == 10)) rfl (fun c31 => ?_) (fun c31 => ?_)
 ·replace h:=Zw c31 h
  refine zQD [4] [none,none,none,none] ?_
  exact Xg [(vB (cond ((a0.Words.length:Int) == 1) ((a0.Kids.length:Int) == 0) false))]
 replace h:=Zv c31 h
 refine Ud [1,2] [true] ?_
 refine Zn ?_
 refine zQD [1,2,68] [none,none,none,none,none,none,none,none,none,none,none,none,none,none,none,none,none,none,none,none,none,none] ?_
 refine Zt (t:=(cond (cond (cond (cond (cond (decide (a0.Kind < 0)) true (decide (10 < a0.Kind))) true (a1 == 0)) true (decide (65536≤(a0.Words.length:Int)))) true (cond (a0.Kind == 1) (decide (65536≤(a0.Kids.length:Int))) false)) true (decide (1048576≤(a0.Kids.length:Int))))) rfl (fun c30 => ?_) (fun c30 => ?_)
 ·replace h:=Zw c30 h
  refine zQ [4] ?_
  exact Xg [(vB false)]
 replace h:=Zv c30 h
 refine Ud [1,2] [true] ?_
 refine Zn ?_
 refine zQD [1,2,77] [none,none,none,none] ?_
 refine Zt (t:=(cond (decide (1 < a0.Kind)) (decide (0 < (a0.Words.length:Int))) false)) rfl (fun c29 => ?_) (fun c29 => ?_)
 ·replace h:=Zw c29 h
  refine zQ [4] ?_
  exact Xg [(vB false)]
 replace h:=Zv c29 h
 refine Ud [1,2] [true] ?_
 refine Zn ?_
 refine zQd [1,2,5] [1,2,5] [true] ?_
 obtain ⟨z28,hz28,h⟩:=bC h
 refine Zcn (J:=(Jg (fun z28=>JR n (⟨132,[],[(4,(vB false))]⟩:Env) (Zy O n [none]) (n+1)) (fun z28=>JX 0 n (⟨132,[],[]⟩:Env) (Zy O n [none]) (n+1)))) (z:=z28) ?_ fun hw => ?_
 ·refine Xv hz28 (fun s0_=>⟨132,[],[(1,(vI a1)),(2,.ref n 0),(5,(vI s0_))]⟩) (fun s0_=>(Zy O n [some ⟨false,25,3,1,(Zp a0)⟩])) (Jg (fun z28=>JR n (⟨132,[],[(4,(vB false))]⟩:Env) (Zy O n [none]) (n+1)) (fun z28=>JX 0 n (⟨132,[],[]⟩:Env) (Zy O n [none]) (n+1))) ?_
  intro s0_ x0_ hs0_
  unfold Kh at hs0_
  try dsimp only
  refine Zn ?_
  refine zQ [1,2,5,82] ?_
  refine Zt (t:=(decide (s0_ < (a0.Kids.length:Int)))) rfl (fun c27 => ?_) (fun c27 => ?_)
  ·replace hs0_:=Zw c27 hs0_
   refine Ud [1,2,5] [true] ?_
   refine Zn ?_
   refine Yx ?_
   refine Zn ?_
   obtain ⟨x2,hx2,ax2,bx2,cx2,hs0_⟩:=bE (f:=Za) Uk (fun _=>rfl) (by decide) hs0_
   refine Zdx [] ax2 bx2 cx2 ?_
   refine zDs [1,2,5,6] [true,true] ?_
   refine Zn ?_
   obtain ⟨y4,hy4,hs0_⟩:=bC hs0_
   refine zCd (Zis hy4) [1,2,5,6,94] [true,true] ?_
   refine Zt (t:=(!y4)) rfl (fun c26 => ?_) (fun c26 => ?_)
   ·replace hs0_:=Zw c26 hs0_
    refine zQ [4] ?_
    refine zW ?_
    exact zEy hs0_
   replace hs0_:=Zv c26 hs0_
   refine Ud [1,2,5,6] [true,true] ?_
   refine zQD [1,2,5,6,7] [none,none,none] ?_
   obtain ⟨z9,hz9,hs0_⟩:=bC hs0_
   refine Xj (E':=⟨132,[],[(1,(vI a1)),(2,.ref n 0),(5,(vI s0_)),(131,(vB z9))]⟩) (O':=(Zy O n [some ⟨false,25,3,1,(Zp a0)⟩,none])) (n0:=(n+2)) ?_ ?_
   ·rcases Bool.eq_false_or_eq_true ((cond (decide (2≤a0.Kind)) (decide (a0.Kind≤7)) false) != (x2.Kind == 10)) with c18 | c18
    ·replace hz9:=Zw c18 hz9
     refine Ql Z5 (by kernel_rfl) [none,none,none,none,none,none,none,none,some false,some false,some false,some false,some false,some false,some false,some false,some false,some false,some false,some false] (by kernel_rfl) ?_
     refine zX1 c18 ?_
     refine zG ?_
     exact U5 hz9 c18
    replace hz9:=Zv c18 hz9
    rcases Bool.eq_false_or_eq_true (a0.Kind == 9) with c19 | c19
    ·replace hz9:=Zw c19 hz9
     try rw [c19] at c18
     try simp only [Bool.cond_true,Bool.cond_false,Bool.true_bne,Bool.false_bne,Bool.true_beq,Bool.false_beq,Bool.not_eq_true',Bool.not_eq_false'] at c18
     rcases Bool.eq_false_or_eq_true (x2.Kind != 1) with c20 | c20
     ·replace hz9:=Zw c20 hz9
      try rw [c20] at c18
      try rw [c20] at c19
      try simp only [Bool.cond_true,Bool.cond_false,Bool.true_bne,Bool.false_bne,Bool.true_beq,Bool.false_beq,Bool.not_eq_true',Bool.not_eq_false'] at c18
      refine Ql Z5 (by kernel_rfl) [none,none,none,none,none,none,none,none,some false,some false,some false,some false,some false,some false,some false,some false,some false,some false,some false,some false] (by kernel_rfl) ?_
      refine zX3 c18 c19 c20 ?_
      refine zG ?_
      exact Zhu hz9 c18 c19 c20
     replace hz9:=Zv c20 hz9
     try rw [c20] at c18
     try rw [c20] at c19
     try simp only [Bool.cond_true,Bool.cond_false,Bool.true_bne,Bool.false_bne,Bool.true_beq,Bool.false_beq,Bool.not_eq_true',Bool.not_eq_false'] at c18
     rcases Bool.eq_false_or_eq_true (decide (2≤a0.Kind)) with c21 | c21
     ·replace hz9:=Zw c21 hz9
      try rw [c21] at c18
      try rw [c21] at c19
      try rw [c21] at c20
      try simp only [Bool.cond_true,Bool.cond_false,Bool.true_bne,Bool.false_bne,Bool.true_beq,Bool.false_beq,Bool.not_eq_true',Bool.not_eq_false'] at c18
      rcases Bool.eq_false_or_eq_true (decide (a0.Kind≤7)) with c22 | c22
      ·replace hz9:=Zw c22 hz9
       try rw [c22] at c18
       try rw [c22] at c19
       try rw [c22] at c20
       try rw [c22] at c21
       try simp only [Bool.cond_true,Bool.cond_false,Bool.true_bne,Bool.false_bne,Bool.true_beq,Bool.false_beq,Bool.not_eq_true',Bool.not_eq_false'] at c18
       obtain ⟨x14,hx14,ax14,bx14,cx14,hz9⟩:=bE (f:=(eI .u64)) Zjp (fun _=>rfl) (by decide) hz9
       obtain ⟨y15,hy15,hz9⟩:=bC hz9
       refine Ql Z5 (by kernel_rfl) [none,none,none,none,none,none,none,none,some true,some true,some true,some true,some true,some true,some true,some true,some true,some true,some true,some true] (by kernel_rfl) ?_
       refine zF8 c18 c19 c20 c21 c22 ax14 bx14 cx14 ?_
       refine zG ?_
       refine PCall.of (Zf7 hy15) ?_
       refine zF8 c18 c19 c20 c21 c22 ax14 bx14 cx14 ?_
       refine zG ?_
       exact Z4q hz9 c18 c19 c20 c21 c22 ax14 bx14 cx14
      replace hz9:=Zv c22 hz9
      try rw [c22] at c18
      try rw [c22] at c19
      try rw [c22] at c20
      try rw [c22] at c21
      try simp only [Bool.cond_true,Bool.cond_false,Bool.true_bne,Bool.false_bne,Bool.true_beq,Bool.false_beq,Bool.not_eq_true',Bool.not_eq_false'] at c18
      refine Ql Z5 (by kernel_rfl) [none,none,none,none,none,none,none,none,some true,some true,some false,some false,some false,some false,some false,some false,some false,some false,some false,some true] (by kernel_rfl) ?_
      refine zX5 c18 c19 c20 c21 c22 ?_
      refine zG ?_
      exact Z8f hz9 c18 c19 c20 c21 c22
     replace hz9:=Zv c21 hz9
     try rw [c21] at c18
     try rw [c21] at c19
     try rw [c21] at c20
     try simp only [Bool.cond_true,Bool.cond_false,Bool.true_bne,Bool.false_bne,Bool.true_beq,Bool.false_beq,Bool.not_eq_true',Bool.not_eq_false'] at c18
     refine Ql Z5 (by kernel_rfl) [none,none,none,none,none,none,none,none,some true,some true,some false,some false,some false,some false,some false,some false,some false,some false,some false,some true] (by kernel_rfl) ?_
     refine zX4 c18 c19 c20 c21 ?_
     refine zG ?_
     exact Z05 hz9 c18 c19 c20 c21
    replace hz9:=Zv c19 hz9
    try rw [c19] at c18
    try simp only [Bool.cond_true,Bool.cond_false,Bool.true_bne,Bool.false_bne,Bool.true_beq,Bool.false_beq,Bool.not_eq_true',Bool.not_eq_false'] at c18
    rcases Bool.eq_false_or_eq_true (decide (2≤a0.Kind)) with c23 | c23
    ·replace hz9:=Zw c23 hz9
     try rw [c23] at c18
     try rw [c23] at c19
     try simp only [Bool.cond_true,Bool.cond_false,Bool.true_bne,Bool.false_bne,Bool.true_beq,Bool.false_beq,Bool.not_eq_true',Bool.not_eq_false'] at c18
     rcases Bool.eq_false_or_eq_true (decide (a0.Kind≤7)) with c24 | c24
     ·replace hz9:=Zw c24 hz9
      try rw [c24] at c18
      try rw [c24] at c19
      try rw [c24] at c23
      try simp only [Bool.cond_true,Bool.cond_false,Bool.true_bne,Bool.false_bne,Bool.true_beq,Bool.false_beq,Bool.not_eq_true',Bool.not_eq_false'] at c18
      obtain ⟨x16,hx16,ax16,bx16,cx16,hz9⟩:=bE (f:=(eI .u64)) Zjp (fun _=>rfl) (by decide) hz9
      obtain ⟨y17,hy17,hz9⟩:=bC hz9
      refine Ql Z5 (by kernel_rfl) [none,none,none,none,none,none,none,none,some true,some true,some true,some true,some true,some true,some true,some true,some true,some true,some true,some true] (by kernel_rfl) ?_
      refine zF7 c18 c19 c23 c24 ax16 bx16 cx16 ?_
      refine zG ?_
      refine PCall.of (Zf7 hy17) ?_
      refine zF7 c18 c19 c23 c24 ax16 bx16 cx16 ?_
      refine zG ?_
      exact Zxs hz9 c18 c19 c23 c24 ax16 bx16 cx16
     replace hz9:=Zv c24 hz9
     try rw [c24] at c18
     try rw [c24] at c19
     try rw [c24] at c23
     try simp only [Bool.cond_true,Bool.cond_false,Bool.true_bne,Bool.false_bne,Bool.true_beq,Bool.false_beq,Bool.not_eq_true',Bool.not_eq_false'] at c18
     refine Ql Z5 (by kernel_rfl) [none,none,none,none,none,none,none,none,some true,some true,some false,some false,some false,some false,some false,some false,some false,some false,some false,some true] (by kernel_rfl) ?_
     refine zX4 c18 c19 c23 c24 ?_
     refine zG ?_
     exact Z05 hz9 c18 c19 c23 c24
    replace hz9:=Zv c23 hz9
    try rw [c23] at c18
    try rw [c23] at c19
    try simp only [Bool.cond_true,Bool.cond_false,Bool.true_bne,Bool.false_bne,Bool.true_beq,Bool.false_beq,Bool.not_eq_true',Bool.not_eq_false'] at c18
    refine Ql Z5 (by kernel_rfl) [none,none,none,none,none,none,none,none,some true,some true,some false,some false,some false,some false,some false,some false,some false,some false,some false,some true] (by kernel_rfl) ?_
    refine zX3 c18 c19 c23 ?_
    refine zG ?_
    exact Zhu hz9 c18 c19 c23
   refine Zt (t:=z9) rfl (fun c25 => ?_) (fun c25 => ?_)
   ·replace hs0_:=Zw c25 hs0_
    refine zQ [4] ?_
    refine zW ?_
    exact zEy hs0_
   replace hs0_:=Zv c25 hs0_
   refine Ud [1,2,5] [true,false] ?_
   refine zR ?_
   exact zEn hs0_
  replace hs0_:=Zv c27 hs0_
  exact zEx hs0_
 rcases z28 with z28 | z28
 ·dsimp only [Jg] at hw h
  refine Ve hw ?_
  try simp only [Xh,Yw,↓reduceIte,Nat.reduceEqDiff]
  exact Zlr [(vB false)]
 dsimp only [Jg] at hw h
 refine Xe hw ?_
 try simp only [Xh,Yw,↓reduceIte,Nat.reduceEqDiff]
 refine zD [] [false] ?_
 refine zQ [4] ?_
 exact Xg [(vB true)]
theorem Zh2:∀ k,(Zdu (Q5 k)):=fun k=>by
 induction k with
 | zero=>exact @fun a0 a1 r O n h=>(nomatch (show (none:Option _)=some _ from h))
 | succ k ih=>exact @fun a0 a1 r O n h=>Zjf (ih)  h
theorem Un {a0:Zb} {a1:Int} {r:Bool} {O:Objs} {n:Nat} (h:Vv a0 a1=some r):GTo Try.prog 36 [.agg (Zp a0),(vI a1)] O n ((vB r)) O n:=by
 obtain ⟨k,hk⟩:=Zdf h
 exact (Zh2 k)  hk
theorem Xp {a0:Int} {r:(Arr Int 8)} {O:Objs} {n:Nat} (h:Xz a0=some r):GTo Try.prog 45 [.val (.int .u64 a0)] O n (.agg (fl (eI .u8) r.1)) O n:=by
 unfold Xz at h
 refine zFn Try.call45 Try.func45 fun hU hN0 hN => ?_
 show W _ _ _ _ ⟨18,[],[(0,.val (.int .u64 a0))]⟩ (Zy O n []) _
 obtain ⟨y3,hy3,ey3,h⟩:=bY (f:=(eI .u8)) (cs:=[.val (.int .u8 0),.val (.int .u8 0),.val (.int .u8 0),.val (.int .u8 0),.val (.int .u8 0),.val (.int .u8 0),.val (.int .u8 0),.val (.int .u8 0)]) rfl h
 have g4:=congrArg (GObj.mk false 65 8 1) ey3
 refine Z9q [0,2] g4 ?_
 refine Zn ?_
 obtain ⟨y9,hy9,ey9,h⟩:=bY (f:=(eI .u8)) (cs:=[.val (.int .u8 0),.val (.int .u8 0),.val (.int .u8 0),.val (.int .u8 0),.val (.int .u8 0),.val (.int .u8 0),.val (.int .u8 0),.val (.int .u8 0)]) rfl h
 have g10:=congrArg G.agg ey9
 have g11:=congrArg (GObj.mk false 65 8 1) ey9
 have g12:=Zan (f:=(eI .u8)) y9 y9 (fun _=>rfl)
 refine Zg2 [] g10 g11 g12 ?_
 refine zDs [0,2,3] [true,true] ?_
 refine zQd [0,2,3,4] [0,2,3,4] [true,true] ?_
 obtain ⟨z18,hz18,h⟩:=bC h
 refine Xe (E':=⟨18,[],[(2,.ref n 0),(3,.ref (n+1) 0)]⟩) (O':=(Zy O n [some ⟨false,65,8,1,fl (eI .u8) y3.1⟩,some ⟨false,65,8,1,fl (eI .u8) z18.1⟩])) (n0:=(n+2)) ?_ ?_
 ·refine Xv hz18 (fun s0_=>⟨18,[],[(0,.val (.int .u64 s0_.1)),(2,.ref n 0),(3,.ref (n+1) 0),(4,(vI s0_.2.1))]⟩) (fun s0_=>(Zy O n [some ⟨false,65,8,1,fl (eI .u8) y3.1⟩,some ⟨false,65,8,1,fl (eI .u8) s0_.2.2.1⟩])) (fun z18=>JX 0 n (⟨18,[],[(2,.ref n 0),(3,.ref (n+1) 0)]⟩:Env) (Zy O n [some ⟨false,65,8,1,fl (eI .u8) y3.1⟩,some ⟨false,65,8,1,fl (eI .u8) z18.1⟩]) (n+2)) ?_
  intro s0_ x0_ hs0_
  unfold Ki at hs0_
  try dsimp only
  refine Zn ?_
  refine zQ [0,2,3,4,7] ?_
  refine Zt (t:=(decide (s0_.2.1 < 8))) rfl (fun c17 => ?_) (fun c17 => ?_)
  ·replace hs0_:=Zw c17 hs0_
   refine Ud [0,2,3,4] [true,true] ?_
   refine Zn ?_
   refine Yx ?_
   refine Zn ?_
   obtain ⟨x15,hx15,ax15,bx15,cx15,hs0_⟩:=bEA (f:=(eI .u8)) (b:=8) rfl Zht (fun _=>rfl) (by decide) hs0_
   have gu16:Q4 (fl (eI .u8) s0_.2.2.1) [.val (.int .u8 (IntKind.u8.wrap (Int.tmod s0_.1 256)))] (Int.toNat s0_.2.1 * 1)=some (fl (eI .u8) (Zdo s0_.2.2.1 s0_.2.1 (IntKind.u8.wrap (Int.tmod s0_.1 256)))):=Zbt (f:=(eI .u8)) (ti:=⟨.bool,1,0,[],false⟩) (x:=(IntKind.u8.wrap (Int.tmod s0_.1 256))) (fun _=>rfl) (Uq hx15)
   refine Z54 [] ax15 bx15 cx15 gu16 ?_
   refine zD [0,2,3,4] [true,true] ?_
   refine zRd [0,2,3,4] [true,true] ?_
   refine zR ?_
   exact zEn hs0_
  replace hs0_:=Zv c17 hs0_
  exact zEx hs0_
 try simp only [Xh,Yw,↓reduceIte,Nat.reduceEqDiff]
 refine zDs [2,3] [true,true] ?_
 have g21:=Zsu (f:=(eI .u8)) z18 Zxj rfl (fun _=>rfl) rfl
 have g22:=Zan (f:=(eI .u8)) y3 z18 (fun _=>rfl)
 refine V0 [] g21 g22 ?_
 refine zD [2] [true,false] ?_
 refine zW ?_
 have h:=Option.some.inj h;subst h
 have gR0:=Zsu (f:=(eI .u8)) z18 Zxj rfl (fun _=>rfl) rfl
 refine Ztf (.inr rfl) hU [.agg (fl (eI .u8) z18.1)] (by omega) ?_
 simp only [push_cast,seval,↓reduceIte,Ze,Try.results45,hN0,hN,gR0]
theorem Zb2 {a0:Int} {a1:Int} {r:Bool} {O:Objs} {n:Nat} (h:Ji a0 a1=some r):GTo Try.prog 46 [.val (.int .u8 a0),(vI a1)] O n ((vB r)) O n:=by
 unfold Ji at h
 refine zFn Try.call46 Try.func46 fun hU hN0 hN => ?_
 show W _ _ _ _ ⟨16,[],[(0,.val (.int .u8 a0)),(1,(vI a1))]⟩ (Zy O n []) _
 refine zQ [0,1] ?_
 refine Zn ?_
 refine zQd [0,1,5] [0,1,5] [] ?_
 obtain ⟨z2,hz2,h⟩:=bC h
 refine Xe (E':=⟨16,[],[(0,.val (.int .u8 z2))]⟩) (O':=(Zy O n [])) (n0:=n) ?_ ?_
 ·refine Xv hz2 (fun s0_=>⟨16,[],[(0,.val (.int .u8 s0_.1)),(1,(vI a1)),(5,(vI s0_.2))]⟩) (fun s0_=>(Zy O n [])) (fun z2=>JX 0 n (⟨16,[],[(0,.val (.int .u8 z2))]⟩:Env) (Zy O n []) n) ?_
  intro s0_ x0_ hs0_
  unfold Ja at hs0_
  try dsimp only
  refine Zn ?_
  refine zQ [0,1,5,8] ?_
  refine Zt (t:=(decide (s0_.2 < a1))) rfl (fun c1 => ?_) (fun c1 => ?_)
  ·replace hs0_:=Zw c1 hs0_
   refine Ud [0,1,5] [] ?_
   refine Zn ?_
   refine Yx ?_
   refine zRd [0,1,5] [] ?_
   refine zR ?_
   exact zEn hs0_
  replace hs0_:=Zv c1 hs0_
  exact zEx hs0_
 try simp only [Xh,Yw,↓reduceIte,Nat.reduceEqDiff]
 refine zD [0] [] ?_
 refine zQ [4] ?_
 exact Xg [(vB ((Int.tmod z2 2) == 1))]
theorem Zd5 {a0:(List Int)} {a1:Int} {r:Int} {O:Objs} {n:Nat} (h:J9 a0 a1=some r):GTo Try.prog 47 [(sL (eI .u8) a0),(vI a1)] O n (.val (.int .u64 r)) O n:=by
 unfold J9 at h
 refine zFn Try.call47 Try.func47 fun hU hN0 hN => ?_
 show W _ _ _ _ ⟨22,[],[(0,(sL (eI .u8) a0)),(1,(vI a1))]⟩ (Zy O n []) _
 refine zQ [0,1] ?_
 refine zQ [0,1,5] ?_
 refine Zn ?_
 refine zQd [0,1,5,6] [0,1,5,6] [] ?_
 obtain ⟨z3,hz3,h⟩:=bC h
 refine Xe (E':=⟨22,[],[(5,.val (.int .u64 z3))]⟩) (O':=(Zy O n [])) (n0:=n) ?_ ?_
 ·refine Xv hz3 (fun s0_=>⟨22,[],[(0,(sL (eI .u8) a0)),(1,(vI a1)),(5,.val (.int .u64 s0_.1)),(6,(vI s0_.2))]⟩) (fun s0_=>(Zy O n [])) (fun z3=>JX 0 n (⟨22,[],[(5,.val (.int .u64 z3))]⟩:Env) (Zy O n []) n) ?_
  intro s0_ x0_ hs0_
  unfold Vu at hs0_
  try dsimp only
  refine Zn ?_
  refine zQ [0,1,5,6,8] ?_
  refine Zt (t:=(decide (0≤s0_.2))) rfl (fun c2 => ?_) (fun c2 => ?_)
  ·replace hs0_:=Zw c2 hs0_
   refine Ud [0,1,5,6] [] ?_
   refine Zn ?_
   refine Yx ?_
   obtain ⟨x1,hx1,ax1,bx1,cx1,hs0_⟩:=bE (f:=(eI .u8)) Zht (fun _=>rfl) (by decide) hs0_
   refine Zdx [] ax1 bx1 cx1 ?_
   refine zD [0,1,5,6] [] ?_
   refine zR ?_
   exact zEn hs0_
  replace hs0_:=Zv c2 hs0_
  exact zEx hs0_
 try simp only [Xh,Yw,↓reduceIte,Nat.reduceEqDiff]
 refine zD [5] [] ?_
 refine zQ [4] ?_
 exact Xg [.val (.int .u64 z3)]
theorem Zmb {a0:Int} {a1:Int} {a2:Int} {r:Int} {O:Objs} {n:Nat} (h:Ur a0 a1 a2=some r):GTo Try.prog 75 [.val (.int .u64 a0),.val (.int .u64 a1),.val (.int .u8 a2)] O n (.val (.int .u64 r)) O n:=by
 unfold Ur at h
 refine zFn Try.call75 Try.func75 fun hU hN0 hN => ?_
 show W _ _ _ _ ⟨28,[],[(0,.val (.int .u64 a0)),(1,.val (.int .u64 a1)),(2,.val (.int .u8 a2))]⟩ (Zy O n []) _
 refine zQ [0,1,2] ?_
 refine Zn ?_
 obtain ⟨y8,hy8,h⟩:=bC h
 obtain ⟨y9,hy9,h⟩:=bC h
 obtain ⟨y10,hy10,ey10,h⟩:=bY (f:=(eI .u8)) (cs:=[.val (.int .u8 0),.val (.int .u8 0),.val (.int .u8 0),.val (.int .u8 0),.val (.int .u8 0),.val (.int .u8 0),.val (.int .u8 0),.val (.int .u8 0)]) rfl h
 have g11:=congrArg (GObj.mk false 65 8 1) ey10
 have g12:=congrArg (GObj.mk false 65 8 1) ey10
 have g13:=Zan (f:=(eI .u8)) y10 y8 (fun _=>rfl)
 have g14:=Zan (f:=(eI .u8)) y10 y9 (fun _=>rfl)
 refine Z08 [] g11 g12 g13 g14 ?_
 refine (Xp hy8).then ?_
 refine zX4 g11 g12 g13 g14 ?_
 refine (Xp hy9).then ?_
 refine zX4 g11 g12 g13 g14 ?_
 refine zDs [2,7,8] [true,true] ?_
 refine zQd [2,7,8,9] [2,7,8,9] [true,true] ?_
 obtain ⟨z23,hz23,h⟩:=bC h
 refine Xe (E':=⟨28,[],[(7,.ref n 0)]⟩) (O':=(Zy O n [some ⟨false,65,8,1,fl (eI .u8) z23.1⟩,none])) (n0:=(n+2)) ?_ ?_
 ·refine Xv hz23 (fun s0_=>⟨28,[],[(2,.val (.int .u8 a2)),(7,.ref n 0),(8,.ref (n+1) 0),(9,(vI s0_.1))]⟩) (fun s0_=>(Zy O n [some ⟨false,65,8,1,fl (eI .u8) s0_.2.1⟩,some ⟨false,65,8,1,fl (eI .u8) y9.1⟩])) (fun z23=>JX 0 n (⟨28,[],[(7,.ref n 0)]⟩:Env) (Zy O n [some ⟨false,65,8,1,fl (eI .u8) z23.1⟩,none]) (n+2)) ?_
  intro s0_ x0_ hs0_
  unfold Vf at hs0_
  try dsimp only
  refine Zn ?_
  refine zQ [2,7,8,9,15] ?_
  refine Zt (t:=(decide (s0_.1 < 8))) rfl (fun c22 => ?_) (fun c22 => ?_)
  ·replace hs0_:=Zw c22 hs0_
   refine Ud [2,7,8,9] [true,true] ?_
   obtain ⟨z15,hz15,hs0_⟩:=bC hs0_
   refine Xj (E':=⟨28,[],[(2,.val (.int .u8 a2)),(7,.ref n 0),(8,.ref (n+1) 0),(9,(vI s0_.1))]⟩) (O':=(Zy O n [some ⟨false,65,8,1,fl (eI .u8) z15.1⟩,some ⟨false,65,8,1,fl (eI .u8) y9.1⟩])) (n0:=(n+2)) ?_ ?_
   ·refine Yx ?_
    refine Zn ?_
    obtain ⟨y17,hy17,hz15⟩:=bC hz15
    refine zCd (Zb2 hy17) [2,7,8,9,20] [true,true] ?_
    refine Zt (t:=y17) rfl (fun c21 => ?_) (fun c21 => ?_)
    ·replace hz15:=Zw c21 hz15
     obtain ⟨x18,hx18,ax18,bx18,cx18,hz15⟩:=bEA (f:=(eI .u8)) (b:=8) rfl Zht (fun _=>rfl) (by decide) hz15
     obtain ⟨x19,hx19,ax19,bx19,cx19,hz15⟩:=bEA (f:=(eI .u8)) (b:=8) rfl Zht (fun _=>rfl) (by decide) hz15
     have gu20:Q4 (fl (eI .u8) s0_.2.1) [.val (.int .u8 x18)] (Int.toNat s0_.1 * 1)=some (fl (eI .u8) (Zdo s0_.2.1 s0_.1 x18)):=Zbt (f:=(eI .u8)) (ti:=⟨.bool,1,0,[],false⟩) (x:=x18) (fun _=>rfl) (Uq hx19)
     refine Zxt [] ax18 bx18 cx18 ax19 bx19 cx19 gu20 ?_
     exact Zxs hz15 ax18 bx18 cx18 ax19 bx19 cx19 gu20
    replace hz15:=Zv c21 hz15
    refine zK ?_
    exact zEn hz15
   refine zR ?_
   exact zEn hs0_
  replace hs0_:=Zv c22 hs0_
  exact zEx hs0_
 try simp only [Xh,Yw,↓reduceIte,Nat.reduceEqDiff]
 refine zDs [7] [true,false] ?_
 have g27:=Zkw (j:=n) Zj4 Zht (by decide)
 have g28:=z23.2
 obtain ⟨y29,hy29,h⟩:=bC h
 refine V0 [] g27 g28 ?_
 refine GCalls.lend (Zd5 hy29) rfl ?_ ?_
 ·exact Qo g27 g28
 refine zX2 g27 g28 ?_
 refine zD [6] [false,false] ?_
 exact Xg [.val (.int .u64 y29)]
theorem Zaw {a0:Int} {a1:Int} {r:Bool} {O:Objs} {n:Nat} (h:J6 a0 a1=some r):GTo Try.prog 40 [.val (.int .u64 a0),.val (.int .u8 a1)] O n ((vB r)) O n:=by
 unfold J6 at h
 refine zFn Try.call40 Try.func40 fun hU hN0 hN => ?_
 show W _ _ _ _ ⟨9,[],[(0,.val (.int .u64 a0)),(1,.val (.int .u8 a1))]⟩ (Zy O n []) _
 refine zQ [0,1] ?_
 refine Zn ?_
 obtain ⟨y2,hy2,h⟩:=bC h
 refine zCd (Zmb hy2) [4] [] ?_
 exact Xg [(vB (y2 == 0))]
theorem Zf8 {a0:Zc} {r:Bool} {O:Objs} {n:Nat} (h:K4 a0=some r):GTo Try.prog 76 [.agg (Zk a0)] O n ((vB r)) O n:=by
 unfold K4 at h
 refine zFn Try.call76 Try.func76 fun hU hN0 hN => ?_
 show W _ _ _ _ ⟨35,[],[(0,.agg (Zk a0))]⟩ (Zy O n []) _
 refine zQ [1] ?_
 obtain ⟨z3,hz3,h⟩:=bC h
 refine Xj (E':=⟨35,[],[(2,(vB z3))]⟩) (O':=(Zy O n [none])) (n0:=(n+1)) ?_ ?_
 ·rcases Bool.eq_false_or_eq_true (a0.Kind == 0) with c8 | c8
  ·replace hz3:=Zw c8 hz3
   obtain ⟨y6,hy6,hz3⟩:=bC hz3
   rcases Bool.eq_false_or_eq_true y6 with c9 | c9
   ·replace hz3:=Zw c9 hz3
    try rw [c9] at c8
    obtain ⟨y7,hy7,hz3⟩:=bC hz3
    refine V0 [some true,some true,some true,some true,some true,some true,none,none,none,none,none,none,none,none,none,none,none,none,none,none,none] c8 c9 ?_
    refine zG ?_
    refine (Kr hy6).then ?_
    refine zX2 c8 c9 ?_
    refine zG ?_
    refine (Kr hy7).then ?_
    refine zX2 c8 c9 ?_
    refine zG ?_
    exact Ziq hz3 c8 c9
   replace hz3:=Zv c9 hz3
   try rw [c9] at c8
   refine V0 [some true,some true,some true,some false,some false,some false,some false,some false,some false,some false,some false,some false,some false,some false,some false,some false,some false,some false,some false,some false,some false] c8 c9 ?_
   refine (Kr hy6).then ?_
   refine zX2 c8 c9 ?_
   exact Ziq hz3 c8 c9
  replace hz3:=Zv c8 hz3
  refine Zc1 [some false,some false,some false,some false,some false,some false,some false,some false,some false,some false,some false,some false,some false,some false,some false,some false,some false,some false,some false,some false,some false] c8 ?_
  exact U5 hz3 c8
 exact Xg [(vB z3)]
theorem Zir {a0:Zc} {r:(Int×Int)} {O:Objs} {n:Nat} (h:Kx a0=some r):GTo Try.prog 42 [.agg (Zk a0)] O n (.tup [(vI r.1),(vI r.2)]) O n:=by
 unfold Kx at h
 refine zFn Try.call42 Try.func42 fun hU hN0 hN => ?_
 show W _ _ _ _ ⟨48,[],[(0,.agg (Zk a0))]⟩ (Zy O n []) _
 refine zQ [1] ?_
 refine zQ [1,4,5] ?_
 refine Zn ?_
 refine zQd [1,4,5,6] [1,4,5,6] [true] ?_
 obtain ⟨z14,hz14,h⟩:=bC h
 refine Xe (E':=⟨48,[],[(4,(vI z14.1)),(5,(vI z14.2))]⟩) (O':=(Zy O n [none])) (n0:=(n+1)) ?_ ?_
 ·refine Xv hz14 (fun s0_=>⟨48,[],[(1,.ref n 0),(4,(vI s0_.1)),(5,(vI s0_.2.1)),(6,(vI s0_.2.2))]⟩) (fun s0_=>(Zy O n [some ⟨false,30,11,1,(Zk a0)⟩])) (fun z14=>JX 0 n (⟨48,[],[(4,(vI z14.1)),(5,(vI z14.2))]⟩:Env) (Zy O n [none]) (n+1)) ?_
  intro s0_ x0_ hs0_
  unfold Jn at hs0_
  try dsimp only
  refine Zn ?_
  refine zQ [1,4,5,6,13] ?_
  refine Zt (t:=(decide (s0_.2.2 < (a0.Ops.length:Int)))) rfl (fun c13 => ?_) (fun c13 => ?_)
  ·replace hs0_:=Zw c13 hs0_
   refine Ud [1,4,5,6] [true] ?_
   obtain ⟨z1,hz1,hs0_⟩:=bC hs0_
   refine Xj (E':=⟨48,[],[(1,.ref n 0),(4,(vI z1.1)),(5,(vI z1.2)),(6,(vI s0_.2.2))]⟩) (O':=(Zy O n [some ⟨false,30,11,1,(Zk a0)⟩,none])) (n0:=(n+2)) ?_ ?_
   ·refine Yx ?_
    refine Zn ?_
    obtain ⟨x3,hx3,ax3,bx3,cx3,hz1⟩:=bE (f:=Zg) Ze2 (fun _=>rfl) (by decide) hz1
    refine Zdx [] ax3 bx3 cx3 ?_
    refine zD [1,4,5,6,7] [true,true] ?_
    refine zQ [1,4,5,6,7,8] ?_
    obtain ⟨z4,hz4,hz1⟩:=bC hz1
    refine Xj (E':=⟨48,[],[(1,.ref n 0),(4,(vI s0_.1)),(5,(vI s0_.2.1)),(6,(vI s0_.2.2)),(7,.ref (n+1) 0),(8,(vI z4))]⟩) (O':=(Zy O n [some ⟨false,30,11,1,(Zk a0)⟩,some ⟨false,53,14,1,(Y1 x3)⟩])) (n0:=(n+2)) ?_ ?_
    ·refine zQ [1,4,5,6,7,8,29] ?_
     refine Zt (t:=(x3.Kind == 3)) rfl (fun c5 => ?_) (fun c5 => ?_)
     ·replace hz4:=Zw c5 hz4
      refine zR ?_
      exact zEn hz4
     replace hz4:=Zv c5 hz4
     refine zK ?_
     exact zEn hz4
    obtain ⟨z6,hz6,hz1⟩:=bC hz1
    refine Xj (E':=⟨48,[],[(1,.ref n 0),(4,(vI z6)),(5,(vI s0_.2.1)),(6,(vI s0_.2.2)),(7,.ref (n+1) 0),(8,(vI z4))]⟩) (O':=(Zy O n [some ⟨false,30,11,1,(Zk a0)⟩,some ⟨false,53,14,1,(Y1 x3)⟩])) (n0:=(n+2)) ?_ ?_
    ·refine zQ [1,4,5,6,7,8,32] ?_
     refine Zt (t:=(x3.Kind != 2)) rfl (fun c7 => ?_) (fun c7 => ?_)
     ·replace hz6:=Zw c7 hz6
      refine zR ?_
      exact zEn hz6
     replace hz6:=Zv c7 hz6
     refine zK ?_
     exact zEn hz6
    obtain ⟨z8,hz8,hz1⟩:=bC hz1
    refine Xj (E':=⟨48,[],[(1,.ref n 0),(4,(vI z6)),(5,(vI z8)),(6,(vI s0_.2.2))]⟩) (O':=(Zy O n [some ⟨false,30,11,1,(Zk a0)⟩,none])) (n0:=(n+2)) ?_ ?_
    ·refine zQ [1,4,5,6,8,38] ?_
     refine Zt (t:=(x3.Kind != 1)) rfl (fun c9 => ?_) (fun c9 => ?_)
     ·replace hz8:=Zw c9 hz8
      refine zR ?_
      exact zEn hz8
     replace hz8:=Zv c9 hz8
     refine zK ?_
     exact zEn hz8
    obtain ⟨z10,hz10,hz1⟩:=bC hz1
    refine Xj (E':=⟨48,[],[(1,.ref n 0),(4,(vI z10)),(5,(vI z8)),(6,(vI s0_.2.2))]⟩) (O':=(Zy O n [some ⟨false,30,11,1,(Zk a0)⟩,none])) (n0:=(n+2)) ?_ ?_
    ·refine zQ [1,4,5,6,43] ?_
     refine Zt (t:=(decide (1048576 < z6))) rfl (fun c11 => ?_) (fun c11 => ?_)
     ·replace hz10:=Zw c11 hz10
      refine zR ?_
      exact zEn hz10
     replace hz10:=Zv c11 hz10
     refine zK ?_
     exact zEn hz10
    refine zQ [1,4,5,6,45] ?_
    refine Zt (t:=(decide (1048576 < z8))) rfl (fun c12 => ?_) (fun c12 => ?_)
    ·replace hz1:=Zw c12 hz1
     refine zR ?_
     exact zEn hz1
    replace hz1:=Zv c12 hz1
    refine zK ?_
    exact zEn hz1
   refine zR ?_
   exact zEn hs0_
  replace hs0_:=Zv c13 hs0_
  exact zEx hs0_
 try simp only [Xh,Yw,↓reduceIte,Nat.reduceEqDiff]
 refine zD [4,5] [false] ?_
 refine zQ [2,3] ?_
 exact Xg [(vI z14.1),(vI z14.2)]
attribute [local push_cast] Try.results104 Try.results108 Try.results109 Try.results110 Try.results111 Try.results112 Try.results113 Try.results114 Try.results115 Try.results116 Try.results17 Try.results41 Try.results43 Try.results44 Try.results70 Try.results73 Try.results74
def Gw (Xb:(Zc→Int→Option Bool)):Prop:=∀ {a0:Zc} {a1:Int} {r:Bool} {O:Objs} {n:Nat},Xb a0 a1=some r→GTo Try.prog 17 [.agg (Zk a0),(vI a1)] O n ((vB r)) O n
def Zcu (X6:(Int→Zh→Int→Option Bool)):Prop:=∀ {a0:Int} {a1:Zh} {a2:Int} {r:Bool} {O:Objs} {n:Nat},X6 a0 a1 a2=some r→GTo Try.prog 41 [(vI a0),.agg (Y1 a1),(vI a2)] O n ((vB r)) O n
theorem Zjg {Xb:(Zc→Int→Option Bool)} {X6:(Int→Zh→Int→Option Bool)} (Gx:Gw Xb) (Zf9:Zcu X6) {a0:Zc} {a1:Int} {r:Bool} {O:Objs} {n:Nat} (h:Vo Xb X6 a0 a1=some r):GTo Try.prog 17 [.agg (Zk a0),(vI a1)] O n ((vB r)) O n:=by
 unfold Vo at h
 refine zFn Try.call17 Try.func17 fun hU hN0 hN => ?_
 show W _ _ _ _ ⟨216,[],[(0,.agg (Zk a0)),(1,(vI a1))]⟩ (Zy O n []) _
 refine zQ [1,2] ?_
 refine Zn ?_
 refine zQD [1,2,24] [none,none,none,none,none,none] ?_
 refine Zt (t:=(cond (cond (a1 == 0) true (decide (a0.Kind < 0))) true (decide (3 < a0.Kind)))) rfl (fun c58 => ?_) (fun c58 => ?_)
 ·replace h:=Zw c58 h
  refine zQ [4] ?_
  exact Xg [(vB false)]
 replace h:=Zv c58 h
 refine Ud [1,2] [true] ?_
 refine Zn ?_
 obtain ⟨z3,hz3,h⟩:=bC h
 refine Xj (E':=⟨216,[],[(1,(vI a1)),(2,.ref n 0),(69,(vB z3))]⟩) (O':=(Zy O n [some ⟨false,30,11,1,(Zk a0)⟩])) (n0:=(n+1)) ?_ ?_
 ·rcases Bool.eq_false_or_eq_true (a0.Kind != 1) with c8 | c8
  ·replace hz3:=Zw c8 hz3
   obtain ⟨y6,hy6,hz3⟩:=bC hz3
   rcases Bool.eq_false_or_eq_true y6 with c9 | c9
   ·replace hz3:=Zw c9 hz3
    try rw [c9] at c8
    obtain ⟨y7,hy7,hz3⟩:=bC hz3
    refine V0 [some true,some true,some true,some true,some true,some true,some true,some true,some true,none,none,none,none,none,none,none,none,none,none,none,none,none,none,none,none,none,none,none,none,none,none,none,none,none,none,none] c8 c9 ?_
    refine zG ?_
    refine (Kr hy6).then ?_
    refine zX2 c8 c9 ?_
    refine zG ?_
    refine (Kr hy7).then ?_
    refine zX2 c8 c9 ?_
    refine zG ?_
    exact Ziq hz3 c8 c9
   replace hz3:=Zv c9 hz3
   try rw [c9] at c8
   refine V0 [some true,some true,some true,some true,some false,some false,some false,some true,some true,some false,some false,some false,some false,some false,some false,some false,some false,some false,some false,some false,some false,some false,some false,some false,some false,some false,some false,some false,some false,some false,some false,some false,some false,some false,some false,some false] c8 c9 ?_
   refine (Kr hy6).then ?_
   refine zX2 c8 c9 ?_
   exact Ziq hz3 c8 c9
  replace hz3:=Zv c8 hz3
  refine Zc1 [some false,some false,some false,some false,some false,some false,some false,some false,some false,some true,some true,some true,some true,none,none,none,none,none,none,none,none,some true,none,none,none,none,none,none,none,none,none,none,none,none,none,none] c8 ?_
  refine zG ?_
  exact U5 hz3 c8
 refine Zt (t:=z3) rfl (fun c57 => ?_) (fun c57 => ?_)
 ·replace h:=Zw c57 h
  refine zQ [4] ?_
  exact Xg [(vB false)]
 replace h:=Zv c57 h
 refine Ud [1,2] [true] ?_
 refine Zn ?_
 refine zQ [1,2,72] ?_
 refine Zt (t:=(a0.Kind == 1)) rfl (fun c56 => ?_) (fun c56 => ?_)
 ·replace h:=Zw c56 h
  obtain ⟨z12,hz12,h⟩:=bC h
  refine Xj (E':=⟨216,[],[(4,(vB z12))]⟩) (O':=(Zy O n [none])) (n0:=(n+1)) ?_ ?_
  ·obtain ⟨y15,hy15,hz12⟩:=bC hz12
   rcases Bool.eq_false_or_eq_true y15 with c17 | c17
   ·replace hz12:=Zw c17 hz12
    obtain ⟨y16,hy16,hz12⟩:=bC hz12
    refine Zc1 [some true,some true,some true,none,none,none,none,none,none,none,none] c17 ?_
    refine zG ?_
    refine (Un hy15).then ?_
    refine zX1 c17 ?_
    refine zG ?_
    refine (Un hy16).then ?_
    refine zX1 c17 ?_
    refine zG ?_
    exact U5 hz12 c17
   replace hz12:=Zv c17 hz12
   refine Zc1 [some false,some false,some false,some false,some false,some false,some false,some false,some false,some false,some false] c17 ?_
   refine (Un hy15).then ?_
   refine zX1 c17 ?_
   exact U5 hz12 c17
  exact Xg [(vB z12)]
 replace h:=Zv c56 h
 refine Ud [1,2] [true] ?_
 refine zQ [1,2,5] ?_
 refine Zn ?_
 refine zQd [1,2,5,6] [1,2,5,6] [true] ?_
 obtain ⟨z33,hz33,h⟩:=bC h
 refine Zcn (J:=(Jg (fun z33=>JR n (⟨216,[],[(4,(vB false))]⟩:Env) (Zy O n [none]) (n+1)) (fun z33=>JX 0 n (⟨216,[],[(1,(vI a1)),(2,.ref n 0)]⟩:Env) (Zy O n [some ⟨false,30,11,1,(Zk a0)⟩]) (n+1)))) (z:=z33) ?_ fun hw => ?_
 ·refine Xv hz33 (fun s0_=>⟨216,[],[(1,(vI a1)),(2,.ref n 0),(5,(vI s0_.1)),(6,(vI s0_.2))]⟩) (fun s0_=>(Zy O n [some ⟨false,30,11,1,(Zk a0)⟩])) (Jg (fun z33=>JR n (⟨216,[],[(4,(vB false))]⟩:Env) (Zy O n [none]) (n+1)) (fun z33=>JX 0 n (⟨216,[],[(1,(vI a1)),(2,.ref n 0)]⟩:Env) (Zy O n [some ⟨false,30,11,1,(Zk a0)⟩]) (n+1))) ?_
  intro s0_ x0_ hs0_
  unfold Q8 at hs0_
  try dsimp only
  refine Zn ?_
  refine zQ [1,2,5,6,97] ?_
  refine Zt (t:=(decide (s0_.2 < (a0.Words.length:Int)))) rfl (fun c32 => ?_) (fun c32 => ?_)
  ·replace hs0_:=Zw c32 hs0_
   refine Ud [1,2,5,6] [true] ?_
   refine Zn ?_
   refine Yx ?_
   refine Zn ?_
   obtain ⟨x19,hx19,ax19,bx19,cx19,hs0_⟩:=bE (f:=Zf) Zdw (fun _=>rfl) (by decide) hs0_
   refine Zdx [] ax19 bx19 cx19 ?_
   refine zDs [1,2,5,6,7] [true,true] ?_
   obtain ⟨z22,hz22,hs0_⟩:=bC hs0_
   refine Xj (E':=⟨216,[],[(1,(vI a1)),(2,.ref n 0),(6,(vI s0_.2)),(7,.ref (n+1) 0),(134,(vB z22))]⟩) (O':=(Zy O n [some ⟨false,30,11,1,(Zk a0)⟩,some ⟨false,42,4,1,(Zl x19)⟩])) (n0:=(n+2)) ?_ ?_
   ·rcases Bool.eq_false_or_eq_true (decide (x19.At≤s0_.1)) with c27 | c27
    ·replace hz22:=Zw c27 hz22
     refine Zc1 [none,none,none,none,none,none,some false,some false,some false,some false,some false,some false,some false,some false,some false,some false,some false,some false] c27 ?_
     refine zG ?_
     exact U5 hz22 c27
    replace hz22:=Zv c27 hz22
    rcases Bool.eq_false_or_eq_true (decide (65534 < x19.At)) with c28 | c28
    ·replace hz22:=Zw c28 hz22
     try rw [c28] at c27
     refine V0 [none,none,none,none,none,none,some false,some false,some false,some false,some false,some false,some false,some false,some false,some false,some false,some false] c27 c28 ?_
     refine zG ?_
     exact Ziq hz22 c27 c28
    replace hz22:=Zv c28 hz22
    try rw [c28] at c27
    rcases Bool.eq_false_or_eq_true (x19.Mask == 0) with c29 | c29
    ·replace hz22:=Zw c29 hz22
     try rw [c29] at c27
     try rw [c29] at c28
     refine Zg2 [none,none,none,none,none,none,some false,some false,some false,some false,some false,some false,some false,some false,some false,some false,some false,some false] c27 c28 c29 ?_
     refine zG ?_
     exact Zhu hz22 c27 c28 c29
    replace hz22:=Zv c29 hz22
    try rw [c29] at c27
    try rw [c29] at c28
    obtain ⟨y25,hy25,hz22⟩:=bC hz22
    rcases Bool.eq_false_or_eq_true y25 with c30 | c30
    ·replace hz22:=Zw c30 hz22
     try rw [c30] at c27
     try rw [c30] at c28
     try rw [c30] at c29
     obtain ⟨y26,hy26,hz22⟩:=bC hz22
     refine Z08 [none,none,none,none,none,none,some true,some true,some true,some true,some true,some true,some true,some true,some true,some true,some true,some true] c27 c28 c29 c30 ?_
     refine zG ?_
     refine (Zaw hy25).then ?_
     refine zX4 c27 c28 c29 c30 ?_
     refine zG ?_
     refine (Zaw hy26).then ?_
     refine zX4 c27 c28 c29 c30 ?_
     refine zG ?_
     exact Z05 hz22 c27 c28 c29 c30
    replace hz22:=Zv c30 hz22
    try rw [c30] at c27
    try rw [c30] at c28
    try rw [c30] at c29
    refine Z08 [none,none,none,none,none,none,some true,some true,some true,some true,some true,some true,some false,some false,some false,some false,some false,some false] c27 c28 c29 c30 ?_
    refine zG ?_
    refine (Zaw hy25).then ?_
    refine zX4 c27 c28 c29 c30 ?_
    refine zG ?_
    exact Z05 hz22 c27 c28 c29 c30
   refine Zt (t:=z22) rfl (fun c31 => ?_) (fun c31 => ?_)
   ·replace hs0_:=Zw c31 hs0_
    refine zQ [4] ?_
    refine zW ?_
    exact zEy hs0_
   replace hs0_:=Zv c31 hs0_
   refine Ud [1,2,6,7] [true,true] ?_
   refine zRd [1,2,5,6] [true,false] ?_
   refine zR ?_
   exact zEn hs0_
  replace hs0_:=Zv c32 hs0_
  exact zEx hs0_
 rcases z33 with z33 | z33
 ·dsimp only [Jg] at hw h
  refine Ve hw ?_
  try simp only [Xh,Yw,↓reduceIte,Nat.reduceEqDiff]
  exact Zlr [(vB false)]
 dsimp only [Jg] at hw h
 refine Xe hw ?_
 try simp only [Xh,Yw,↓reduceIte,Nat.reduceEqDiff]
 refine zD [1,2] [true] ?_
 refine zQ [1,2,5] ?_
 refine Zn ?_
 refine zQd [1,2,5,8] [1,2,5,8] [true] ?_
 obtain ⟨z45,hz45,h⟩:=bC h
 refine Zcn (J:=(Jg (fun z45=>JR n (⟨216,[],[(4,(vB false))]⟩:Env) (Zy O n [none]) (n+1)) (fun z45=>JX 2 n (⟨216,[],[(1,(vI a1)),(2,.ref n 0)]⟩:Env) (Zy O n [some ⟨false,30,11,1,(Zk a0)⟩]) (n+1)))) (z:=z45) ?_ fun hw => ?_
 ·refine Xv hz45 (fun s1_=>⟨216,[],[(1,(vI a1)),(2,.ref n 0),(5,(vI s1_.1)),(8,(vI s1_.2))]⟩) (fun s1_=>(Zy O n [some ⟨false,30,11,1,(Zk a0)⟩])) (Jg (fun z45=>JR n (⟨216,[],[(4,(vB false))]⟩:Env) (Zy O n [none]) (n+1)) (fun z45=>JX 2 n (⟨216,[],[(1,(vI a1)),(2,.ref n 0)]⟩:Env) (Zy O n [some ⟨false,30,11,1,(Zk a0)⟩]) (n+1))) ?_
  intro s1_ x1_ hs1_
  unfold Q9 at hs1_
  try dsimp only
  refine Zn ?_
  refine zQ [1,2,5,8,141] ?_
  refine Zt (t:=(decide (s1_.2 < (a0.Kids.length:Int)))) rfl (fun c44 => ?_) (fun c44 => ?_)
  ·replace hs1_:=Zw c44 hs1_
   refine Ud [1,2,5,8] [true] ?_
   refine Zn ?_
   refine Yx ?_
   refine Zn ?_
   obtain ⟨x35,hx35,ax35,bx35,cx35,hs1_⟩:=bE (f:=Zi) Zdp (fun _=>rfl) (by decide) hs1_
   refine Zdx [] ax35 bx35 cx35 ?_
   refine zDs [1,2,5,8,9] [true,true] ?_
   obtain ⟨z37,hz37,hs1_⟩:=bC hs1_
   refine Xj (E':=⟨216,[],[(1,(vI a1)),(2,.ref n 0),(8,(vI s1_.2)),(9,.ref (n+1) 0),(171,(vB z37))]⟩) (O':=(Zy O n [some ⟨false,30,11,1,(Zk a0)⟩,some ⟨false,55,12,1,(Xk x35)⟩])) (n0:=(n+2)) ?_ ?_
   ·rcases Bool.eq_false_or_eq_true (decide (x35.At≤s1_.1)) with c40 | c40
    ·replace hz37:=Zw c40 hz37
     refine Zc1 [none,none,none,none,none,none,none,some false,some false,some false,some false,some false,some false] c40 ?_
     refine zG ?_
     exact U5 hz37 c40
    replace hz37:=Zv c40 hz37
    rcases Bool.eq_false_or_eq_true (decide (65534 < x35.At)) with c41 | c41
    ·replace hz37:=Zw c41 hz37
     try rw [c41] at c40
     refine V0 [none,none,none,none,none,none,none,some false,some false,some false,some false,some false,some false] c40 c41 ?_
     refine zG ?_
     exact Ziq hz37 c40 c41
    replace hz37:=Zv c41 hz37
    try rw [c41] at c40
    rcases Bool.eq_false_or_eq_true (x35.E.Kind == 0) with c42 | c42
    ·replace hz37:=Zw c42 hz37
     try rw [c42] at c40
     try rw [c42] at c41
     refine Zg2 [none,none,none,none,none,none,none,some false,some false,some false,some false,some false,some false] c40 c41 c42 ?_
     refine zG ?_
     exact Zhu hz37 c40 c41 c42
    replace hz37:=Zv c42 hz37
    try rw [c42] at c40
    try rw [c42] at c41
    obtain ⟨y39,hy39,hz37⟩:=bC hz37
    refine Zg2 [none,none,none,none,none,none,none,some true,some true,some true,some true,some true,some true] c40 c41 c42 ?_
    refine zG ?_
    refine (Gx hy39).then ?_
    refine zX3 c40 c41 c42 ?_
    refine zG ?_
    exact Zhu hz37 c40 c41 c42
   refine Zt (t:=z37) rfl (fun c43 => ?_) (fun c43 => ?_)
   ·replace hs1_:=Zw c43 hs1_
    refine zQ [4] ?_
    refine zW ?_
    exact zEy hs1_
   replace hs1_:=Zv c43 hs1_
   refine Ud [1,2,8,9] [true,true] ?_
   refine zRd [1,2,5,8] [true,false] ?_
   refine zR ?_
   exact zEn hs1_
  replace hs1_:=Zv c44 hs1_
  exact zEx hs1_
 rcases z45 with z45 | z45
 ·dsimp only [Jg] at hw h
  refine Ve hw ?_
  try simp only [Xh,Yw,↓reduceIte,Nat.reduceEqDiff]
  exact Zlr [(vB false)]
 dsimp only [Jg] at hw h
 refine Xe hw ?_
 try simp only [Xh,Yw,↓reduceIte,Nat.reduceEqDiff]
 refine zDs [1,2] [true] ?_
 refine zQD [1,2,186] [none,none,none,none,none,none,none,none] ?_
 refine Zt (t:=(cond (a0.Kind == 3) (cond (decide (a0.List_ < 2)) true (decide (9 < a0.List_))) false)) rfl (fun c55 => ?_) (fun c55 => ?_)
 ·replace h:=Zw c55 h
  refine zQ [4] ?_
  exact Xg [(vB false)]
 replace h:=Zv c55 h
 refine Ud [1,2] [true] ?_
 refine Zn ?_
 refine zQd [1,2,10] [1,2,10] [true] ?_
 obtain ⟨z52,hz52,h⟩:=bC h
 refine Zcn (J:=(Jg (fun z52=>JR n (⟨216,[],[(4,(vB false))]⟩:Env) (Zy O n [none]) (n+1)) (fun z52=>JX 4 n (⟨216,[],[(2,.ref n 0)]⟩:Env) (Zy O n [some ⟨false,30,11,1,(Zk a0)⟩]) (n+1)))) (z:=z52) ?_ fun hw => ?_
 ·refine Xv hz52 (fun s2_=>⟨216,[],[(1,(vI a1)),(2,.ref n 0),(10,(vI s2_))]⟩) (fun s2_=>(Zy O n [some ⟨false,30,11,1,(Zk a0)⟩])) (Jg (fun z52=>JR n (⟨216,[],[(4,(vB false))]⟩:Env) (Zy O n [none]) (n+1)) (fun z52=>JX 4 n (⟨216,[],[(2,.ref n 0)]⟩:Env) (Zy O n [some ⟨false,30,11,1,(Zk a0)⟩]) (n+1))) ?_
  intro s2_ x2_ hs2_
  unfold Qj at hs2_
  try dsimp only
  refine Zn ?_
  refine zQ [1,2,10,191] ?_
  refine Zt (t:=(decide (s2_ < (a0.Ops.length:Int)))) rfl (fun c51 => ?_) (fun c51 => ?_)
  ·replace hs2_:=Zw c51 hs2_
   refine Ud [1,2,10] [true] ?_
   refine Zn ?_
   refine Yx ?_
   refine Zn ?_
   obtain ⟨x48,hx48,ax48,bx48,cx48,hs2_⟩:=bE (f:=Zg) Ze2 (fun _=>rfl) (by decide) hs2_
   obtain ⟨y49,hy49,hs2_⟩:=bC hs2_
   refine Ql Z5 (by kernel_rfl) [] (by kernel_rfl) ?_
   refine zF3 ax48 bx48 cx48 ?_
   refine PCall.of (Zf9 hy49) ?_
   refine zF3 ax48 bx48 cx48 ?_
   refine zD [1,2,10,204] [true] ?_
   refine Zt (t:=(!y49)) rfl (fun c50 => ?_) (fun c50 => ?_)
   ·replace hs2_:=Zw c50 hs2_
    refine zQ [4] ?_
    refine zW ?_
    exact zEy hs2_
   replace hs2_:=Zv c50 hs2_
   refine Ud [1,2,10] [true] ?_
   refine zR ?_
   exact zEn hs2_
  replace hs2_:=Zv c51 hs2_
  exact zEx hs2_
 rcases z52 with z52 | z52
 ·dsimp only [Jg] at hw h
  refine Ve hw ?_
  try simp only [Xh,Yw,↓reduceIte,Nat.reduceEqDiff]
  exact Zlr [(vB false)]
 dsimp only [Jg] at hw h
 refine Xe hw ?_
 try simp only [Xh,Yw,↓reduceIte,Nat.reduceEqDiff]
 refine zDs [2] [true] ?_
 obtain ⟨y54,hy54,h⟩:=bC h
 refine zCd (Zir hy54) [11,12] [false] ?_
 refine zQD [4] [none,none] ?_
 exact Xg [(vB (cond (decide (y54.1 < 1048576)) (decide (y54.2 < 1048576)) false))]
theorem Zmc {Xb:(Zc→Int→Option Bool)} {X6:(Int→Zh→Int→Option Bool)} (Gx:Gw Xb) (Zf9:Zcu X6) {a0:Int} {a1:Zh} {a2:Int} {r:Bool} {O:Objs} {n:Nat} (h:Gi Xb X6 a0 a1 a2=some r):GTo Try.prog 41 [(vI a0),.agg (Y1 a1),(vI a2)] O n ((vB r)) O n:=by
 unfold Gi at h
 refine zFn Try.call41 Try.func41 fun hU hN0 hN => ?_
 show W _ _ _ _ ⟨121,[],[(0,(vI a0)),(1,.agg (Y1 a1)),(2,(vI a2))]⟩ (Zy O n []) _
 refine zQ [0,2,4] ?_
 refine Zn ?_
 refine zQ [0,2,4,10] ?_
 refine Zt (t:=(a1.Kind == 0)) rfl (fun c30 => ?_) (fun c30 => ?_)
 ·replace h:=Zw c30 h
  obtain ⟨z2,hz2,h⟩:=bC h
  refine Xj (E':=⟨121,[],[(6,(vB z2))]⟩) (O':=(Zy O n [none])) (n0:=(n+1)) ?_ ?_
  ·rcases Bool.eq_false_or_eq_true (decide (1≤a1.N)) with c5 | c5
   ·replace hz2:=Zw c5 hz2
    rcases Bool.eq_false_or_eq_true (decide (a1.N≤1048576)) with c6 | c6
    ·replace hz2:=Zw c6 hz2
     try rw [c6] at c5
     rcases Bool.eq_false_or_eq_true ((a1.L.length:Int) == 0) with c7 | c7
     ·replace hz2:=Zw c7 hz2
      try rw [c7] at c5
      try rw [c7] at c6
      obtain ⟨y4,hy4,hz2⟩:=bC hz2
      refine Zg2 [none,none,none,none,none,none,none,some true,some true,some true] c5 c6 c7 ?_
      refine zG ?_
      refine (Zf8 hy4).then ?_
      refine zX3 c5 c6 c7 ?_
      refine zG ?_
      exact Zhu hz2 c5 c6 c7
     replace hz2:=Zv c7 hz2
     try rw [c7] at c5
     try rw [c7] at c6
     refine Zg2 [none,none,none,none,none,none,none,some false,some false,some false] c5 c6 c7 ?_
     refine zG ?_
     exact Zhu hz2 c5 c6 c7
    replace hz2:=Zv c6 hz2
    try rw [c6] at c5
    refine V0 [none,none,none,none,none,none,none,some false,some false,some false] c5 c6 ?_
    refine zG ?_
    exact Ziq hz2 c5 c6
   replace hz2:=Zv c5 hz2
   refine Zc1 [none,none,none,none,none,none,none,some false,some false,some false] c5 ?_
   refine zG ?_
   exact U5 hz2 c5
  exact Xg [(vB z2)]
 replace h:=Zv c30 h
 refine Ud [0,2,4] [true] ?_
 refine Zn ?_
 refine zQD [0,2,4,42] [none,none,none,none,none,none] ?_
 refine Zt (t:=(cond (cond (a1.N != 0) true (decide (a1.Kind < 0))) true (decide (3 < a1.Kind)))) rfl (fun c29 => ?_) (fun c29 => ?_)
 ·replace h:=Zw c29 h
  refine zQ [6] ?_
  exact Xg [(vB false)]
 replace h:=Zv c29 h
 refine Ud [0,2,4] [true] ?_
 refine Zn ?_
 refine zQ [0,2,4,45] ?_
 refine Zt (t:=(decide (a1.Kind < 3))) rfl (fun c28 => ?_) (fun c28 => ?_)
 ·replace h:=Zw c28 h
  refine Zn ?_
  refine zQd [0,4,7] [0,4,7] [true] ?_
  obtain ⟨z14,hz14,h⟩:=bC h
  refine Zcn (J:=(Jg (fun z14=>JR n (⟨121,[],[(6,(vB false))]⟩:Env) (Zy O n [none]) (n+1)) (fun z14=>JX 0 n (⟨121,[],[(4,.ref n 0)]⟩:Env) (Zy O n [some ⟨false,53,14,1,(Y1 a1)⟩]) (n+1)))) (z:=z14) ?_ fun hw => ?_
  ·refine Xv hz14 (fun s0_=>⟨121,[],[(0,(vI a0)),(4,.ref n 0),(7,(vI s0_))]⟩) (fun s0_=>(Zy O n [some ⟨false,53,14,1,(Y1 a1)⟩])) (Jg (fun z14=>JR n (⟨121,[],[(6,(vB false))]⟩:Env) (Zy O n [none]) (n+1)) (fun z14=>JX 0 n (⟨121,[],[(4,.ref n 0)]⟩:Env) (Zy O n [some ⟨false,53,14,1,(Y1 a1)⟩]) (n+1))) ?_
   intro s0_ x0_ hs0_
   unfold Vp at hs0_
   try dsimp only
   refine Zn ?_
   refine zQ [0,4,7,50] ?_
   refine Zt (t:=(decide (s0_ < (a1.L.length:Int)))) rfl (fun c13 => ?_) (fun c13 => ?_)
   ·replace hs0_:=Zw c13 hs0_
    refine Ud [0,4,7] [true] ?_
    refine Zn ?_
    refine Yx ?_
    refine Zn ?_
    obtain ⟨l10,al10,bl10,cl10,gl10,hs0_⟩:=bS (lo:=(some (.i64,s0_))) (hi:=(some (.i64,(IntKind.i64.wrap (s0_+1))))) (f:=Za) rfl rfl Zdq Uk (fun _=>rfl) hs0_
    obtain ⟨y11,hy11,hs0_⟩:=bC hs0_
    refine Z08 [] al10 bl10 cl10 gl10 ?_
    refine GCalls.argsW ?_ ((Un hy11).then ?_)
    ·exact Z9r al10 bl10 cl10 gl10
    refine zX4 al10 bl10 cl10 gl10 ?_
    refine zD [0,4,7,62] [true] ?_
    refine Zt (t:=(!y11)) rfl (fun c12 => ?_) (fun c12 => ?_)
    ·replace hs0_:=Zw c12 hs0_
     refine zQ [6] ?_
     refine zW ?_
     exact zEy hs0_
    replace hs0_:=Zv c12 hs0_
    refine Ud [0,4,7] [true] ?_
    refine zR ?_
    exact zEn hs0_
   replace hs0_:=Zv c13 hs0_
   exact zEx hs0_
  rcases z14 with z14 | z14
  ·dsimp only [Jg] at hw h
   refine Ve hw ?_
   try simp only [Xh,Yw,↓reduceIte,Nat.reduceEqDiff]
   exact Zlr [(vB false)]
  dsimp only [Jg] at hw h
  refine Xe hw ?_
  try simp only [Xh,Yw,↓reduceIte,Nat.reduceEqDiff]
  refine zD [4] [true] ?_
  obtain ⟨z16,hz16,h⟩:=bC h
  refine Xj (E':=⟨121,[],[(6,(vB z16))]⟩) (O':=(Zy O n [none])) (n0:=(n+1)) ?_ ?_
  ·rcases Bool.eq_false_or_eq_true (decide (0 < (a1.L.length:Int))) with c19 | c19
   ·replace hz16:=Zw c19 hz16
    obtain ⟨y18,hy18,hz16⟩:=bC hz16
    refine Zc1 [some true,some true,some true] c19 ?_
    refine (Zf8 hy18).then ?_
    refine zX1 c19 ?_
    exact U5 hz16 c19
   replace hz16:=Zv c19 hz16
   refine Zc1 [some false,some false,some false] c19 ?_
   exact U5 hz16 c19
  exact Xg [(vB z16)]
 replace h:=Zv c28 h
 refine Ud [0,2,4] [true] ?_
 refine Zn ?_
 obtain ⟨z21,hz21,h⟩:=bC h
 refine Xj (E':=⟨121,[],[(0,(vI a0)),(4,.ref n 0),(92,(vB z21))]⟩) (O':=(Zy O n [some ⟨false,53,14,1,(Y1 a1)⟩])) (n0:=(n+1)) ?_ ?_
 ·rcases Bool.eq_false_or_eq_true (decide (0 < (a1.L.length:Int))) with c24 | c24
  ·replace hz21:=Zw c24 hz21
   refine Zc1 [none,none,none,none,none,none,some false,some false,some false,some false,some false] c24 ?_
   refine zG ?_
   exact U5 hz21 c24
  replace hz21:=Zv c24 hz21
  rcases Bool.eq_false_or_eq_true (a1.E.Kind == 0) with c25 | c25
  ·replace hz21:=Zw c25 hz21
   try rw [c25] at c24
   refine V0 [none,none,none,none,none,none,some false,some false,some false,some false,some false] c24 c25 ?_
   refine zG ?_
   exact Ziq hz21 c24 c25
  replace hz21:=Zv c25 hz21
  try rw [c25] at c24
  rcases Bool.eq_false_or_eq_true (decide (a0≤7)) with c26 | c26
  ·replace hz21:=Zw c26 hz21
   try rw [c26] at c24
   try rw [c26] at c25
   refine Zg2 [none,none,none,none,none,none,some false,some false,some false,some false,some false] c24 c25 c26 ?_
   refine zG ?_
   exact Zhu hz21 c24 c25 c26
  replace hz21:=Zv c26 hz21
  try rw [c26] at c24
  try rw [c26] at c25
  obtain ⟨y23,hy23,hz21⟩:=bC hz21
  refine Zg2 [none,none,none,none,none,none,some true,some true,some true,some true,some true] c24 c25 c26 ?_
  refine zG ?_
  refine (Gx hy23).then ?_
  refine zX3 c24 c25 c26 ?_
  refine zG ?_
  exact Zhu hz21 c24 c25 c26
 refine Zt (t:=z21) rfl (fun c27 => ?_) (fun c27 => ?_)
 ·replace h:=Zw c27 h
  refine zQ [6] ?_
  exact Xg [(vB false)]
 replace h:=Zv c27 h
 refine Ud [0,4] [true] ?_
 refine zQD [6] [none,none,none,none,none,none,none,none,none,none,none,none,none,none,none,none,none,none,none,none,none,none] ?_
 exact Xg [(vB (cond (cond (a0 == 8) true (a1.E.Kind == 2)) true (cond (cond (a1.E.Kind == 1) (a1.E.Old.Kind == 1) false) (a1.E.New.Kind == 1) false)))]
theorem Zh3:∀ k,(Gw ((Yn k).1))∧(Zcu ((Yn k).2)):=fun k=>by
 induction k with
 | zero=>exact ⟨@fun a0 a1 r O n h=>(nomatch (show (none:Option _)=some _ from h)),@fun a0 a1 a2 r O n h=>(nomatch (show (none:Option _)=some _ from h))⟩
 | succ k ih=>exact ⟨@fun a0 a1 r O n h=>Zjg (ih.1) (ih.2)  h,@fun a0 a1 a2 r O n h=>Zmc (ih.1) (ih.2)  h⟩
theorem Zb3 {a0:Zc} {a1:Int} {r:Bool} {O:Objs} {n:Nat} (h:Gc a0 a1=some r):GTo Try.prog 17 [.agg (Zk a0),(vI a1)] O n ((vB r)) O n:=by
 obtain ⟨k,hk⟩:=Zdf h
 exact (Zh3 k).1  hk
theorem Ua {a0:(List Int)} {r:(List Int)} {O:Objs} {n:Nat} (h:Kq a0=some r):GTo Try.prog 73 [(sL (eI .u64) a0)] O n ((sL (eI .u64) r)) O n:=by
 unfold Kq at h
 refine zFn Try.call73 Try.func73 fun hU hN0 hN => ?_
 show W _ _ _ _ ⟨22,[],[(0,(sL (eI .u64) a0))]⟩ (Zy O n []) _
 refine zQ [0] ?_
 refine zQ [0,3] ?_
 refine Zn ?_
 refine zD [0,3] [] ?_
 obtain ⟨z7,hz7,h⟩:=bC h
 refine Xe (E':=⟨22,[],[(0,(sL (eI .u64) a0)),(3,(vI z7))]⟩) (O':=(Zy O n [])) (n0:=n) ?_ ?_
 ·refine Xv hz7 (fun s0_=>⟨22,[],[(0,(sL (eI .u64) a0)),(3,(vI s0_))]⟩) (fun s0_=>(Zy O n [])) (fun z7=>JX 0 n (⟨22,[],[(0,(sL (eI .u64) a0)),(3,(vI z7))]⟩:Env) (Zy O n []) n) ?_
  intro s0_ x0_ hs0_
  unfold Vg at hs0_
  try dsimp only
  refine Zn ?_
  obtain ⟨z2,hz2,hs0_⟩:=bC hs0_
  refine Xj (E':=⟨22,[],[(0,(sL (eI .u64) a0)),(3,(vI s0_)),(15,(vB z2))]⟩) (O':=(Zy O n [])) (n0:=n) ?_ ?_
  ·rcases Bool.eq_false_or_eq_true (decide (0 < s0_)) with c5 | c5
   ·replace hz2:=Zw c5 hz2
    obtain ⟨x4,hx4,ax4,bx4,cx4,hz2⟩:=bE (f:=(eI .u64)) Zjp (fun _=>rfl) (by decide) hz2
    refine Z54 [some true,some true,some true,some true,some true,some true] c5 ax4 bx4 cx4 ?_
    exact Z8d hz2 c5 ax4 bx4 cx4
   replace hz2:=Zv c5 hz2
   refine Zc1 [some false,some false,some false,some false,some false,some false] c5 ?_
   exact U5 hz2 c5
  refine Zt (t:=z2) rfl (fun c6 => ?_) (fun c6 => ?_)
  ·replace hs0_:=Zw c6 hs0_
   refine Ud [0,3] [] ?_
   refine Yx ?_
   refine zR ?_
   exact zEn hs0_
  replace hs0_:=Zv c6 hs0_
  exact zEx hs0_
 try simp only [Xh,Yw,↓reduceIte,Nat.reduceEqDiff]
 refine zD [0,3] [] ?_
 obtain ⟨l9,al9,bl9,cl9,gl9,h⟩:=bS3 (lo:=none) (hi:=(.i64,z7)) (f:=(eI .u64)) rfl rfl Zo2 Zjp (fun _=>rfl) h
 refine Z8h [2] al9 bl9 cl9 gl9 ?_
 exact Xg [(sL (eI .u64) l9)]
theorem Q7 {a0:(List Int)} {a1:(List Int)} {r:Bool} {O:Objs} {n:Nat} (h:Xt a0 a1=some r):GTo Try.prog 108 [(sL (eI .u64) a0),(sL (eI .u64) a1)] O n ((vB r)) O n:=by
 unfold Xt at h
 refine zFn Try.call108 Try.func108 fun hU hN0 hN => ?_
 show W _ _ _ _ ⟨26,[],[(0,(sL (eI .u64) a0)),(1,(sL (eI .u64) a1))]⟩ (Zy O n []) _
 refine zQ [0,1] ?_
 refine Zn ?_
 refine zQ [0,1,10] ?_
 refine Zt (t:=((a0.length:Int) != (a1.length:Int))) rfl (fun c8 => ?_) (fun c8 => ?_)
 ·replace h:=Zw c8 h
  refine zQ [4] ?_
  exact Xg [(vB false)]
 replace h:=Zv c8 h
 refine Ud [0,1] [] ?_
 refine Zn ?_
 refine zQd [0,1,12,13] [0,1,12,13] [] ?_
 obtain ⟨z7,hz7,h⟩:=bC h
 refine Zcn (J:=(Jg (fun z7=>JR n (⟨26,[],[(4,(vB false))]⟩:Env) (Zy O n []) n) (fun z7=>JX 0 n (⟨26,[],[]⟩:Env) (Zy O n []) n))) (z:=z7) ?_ fun hw => ?_
 ·refine Xv hz7 (fun s0_=>⟨26,[],[(0,(sL (eI .u64) a0)),(1,(sL (eI .u64) a1)),(12,(vI (a0.length:Int))),(13,(vI s0_))]⟩) (fun s0_=>(Zy O n [])) (Jg (fun z7=>JR n (⟨26,[],[(4,(vB false))]⟩:Env) (Zy O n []) n) (fun z7=>JX 0 n (⟨26,[],[]⟩:Env) (Zy O n []) n)) ?_
  intro s0_ x0_ hs0_
  unfold X1 at hs0_
  try dsimp only
  refine zQ [0,1,12,13,14] ?_
  refine Zn ?_
  refine Zt (t:=(decide (s0_ < (a0.length:Int)))) rfl (fun c6 => ?_) (fun c6 => ?_)
  ·replace hs0_:=Zw c6 hs0_
   refine Ud [0,1,12,13] [] ?_
   refine Zn ?_
   refine Yx ?_
   refine zQ [0,1,5,12,13] ?_
   obtain ⟨x3,hx3,ax3,bx3,cx3,hs0_⟩:=bE (f:=(eI .u64)) Zjp (fun _=>rfl) (by decide) hs0_
   obtain ⟨x4,hx4,ax4,bx4,cx4,hs0_⟩:=bE (f:=(eI .u64)) Zjp (fun _=>rfl) (by decide) hs0_
   refine Zmy [0,1,12,13,24] (Ql Z5 (by kernel_rfl) [] (by kernel_rfl) ?_)
   refine zF6 ax3 bx3 cx3 ax4 bx4 cx4 ?_
   refine Zt (t:=(x3 != x4)) rfl (fun c5 => ?_) (fun c5 => ?_)
   ·replace hs0_:=Zw c5 hs0_
    refine zQ [4] ?_
    refine zW ?_
    exact zEy hs0_
   replace hs0_:=Zv c5 hs0_
   refine Ud [0,1,12,13] [] ?_
   refine zR ?_
   exact zEn hs0_
  replace hs0_:=Zv c6 hs0_
  exact zEx hs0_
 rcases z7 with z7 | z7
 ·dsimp only [Jg] at hw h
  refine Ve hw ?_
  try simp only [Xh,Yw,↓reduceIte,Nat.reduceEqDiff]
  exact Zlr [(vB false)]
 dsimp only [Jg] at hw h
 refine Xe hw ?_
 try simp only [Xh,Yw,↓reduceIte,Nat.reduceEqDiff]
 refine zD [] [] ?_
 refine zQ [4] ?_
 exact Xg [(vB true)]
theorem Zd6 {a0:(List Zb)} {r:(List Zb)} {O:Objs} {n:Nat} (h:Vd a0=some r):GTo Try.prog 74 [(sL Za a0)] O n ((sL Za r)) O n:=by
 unfold Vd at h
 refine zFn Try.call74 Try.func74 fun hU hN0 hN => ?_
 show W _ _ _ _ ⟨23,[],[(0,(sL Za a0))]⟩ (Zy O n []) _
 refine zQ [0] ?_
 refine zQ [0,3] ?_
 refine Zn ?_
 refine zD [0,3] [] ?_
 obtain ⟨z10,hz10,h⟩:=bC h
 refine Xe (E':=⟨23,[],[(0,(sL Za a0)),(3,(vI z10))]⟩) (O':=(Zy O n [])) (n0:=n) ?_ ?_
 ·refine Xv hz10 (fun s0_=>⟨23,[],[(0,(sL Za a0)),(3,(vI s0_))]⟩) (fun s0_=>(Zy O n [])) (fun z10=>JX 0 n (⟨23,[],[(0,(sL Za a0)),(3,(vI z10))]⟩:Env) (Zy O n []) n) ?_
  intro s0_ x0_ hs0_
  unfold Vw at hs0_
  try dsimp only
  refine Zn ?_
  obtain ⟨z3,hz3,hs0_⟩:=bC hs0_
  refine Xj (E':=⟨23,[],[(0,(sL Za a0)),(3,(vI s0_)),(16,(vB z3))]⟩) (O':=(Zy O n [])) (n0:=n) ?_ ?_
  ·rcases Bool.eq_false_or_eq_true (decide (0 < s0_)) with c8 | c8
   ·replace hz3:=Zw c8 hz3
    obtain ⟨x6,hx6,ax6,bx6,cx6,hz3⟩:=bE (f:=Za) Uk (fun _=>rfl) (by decide) hz3
    have g7:=Zks (f:=Za) (sz:=3) Zzi (fun _=>rfl) (by decide) (by decide) hx6
    refine Z07 [some true,some true,some true,some true,some true,some true,some true] c8 ax6 bx6 cx6 g7 ?_
    exact Z8e hz3 c8 ax6 bx6 cx6 g7
   replace hz3:=Zv c8 hz3
   refine Zc1 [some false,some false,some false,some false,some false,some false,some false] c8 ?_
   exact U5 hz3 c8
  refine Zt (t:=z3) rfl (fun c9 => ?_) (fun c9 => ?_)
  ·replace hs0_:=Zw c9 hs0_
   refine Ud [0,3] [] ?_
   refine Yx ?_
   refine zR ?_
   exact zEn hs0_
  replace hs0_:=Zv c9 hs0_
  exact zEx hs0_
 try simp only [Xh,Yw,↓reduceIte,Nat.reduceEqDiff]
 refine zD [0,3] [] ?_
 obtain ⟨l12,al12,bl12,cl12,gl12,h⟩:=bS3 (lo:=none) (hi:=(.i64,z10)) (f:=Za) rfl rfl Zdq Uk (fun _=>rfl) h
 refine Z8h [2] al12 bl12 cl12 gl12 ?_
 exact Xg [(sL Za l12)]
def Zfa (Jf:(Zb→Zb→Option Bool)):Prop:=∀ {a0:Zb} {a1:Zb} {r:Bool} {O:Objs} {n:Nat},Jf a0 a1=some r→GTo Try.prog 70 [.agg (Zp a0),.agg (Zp a1)] O n ((vB r)) O n
def Y7 (Zr:((List Zb)→(List Zb)→Option Bool)):Prop:=∀ {a0:(List Zb)} {a1:(List Zb)} {r:Bool} {O:Objs} {n:Nat},Zr a0 a1=some r→GTo Try.prog 109 [(sL Za a0),(sL Za a1),.fn 70 0 []] O n ((vB r)) O n
theorem Zqm {Jf:(Zb→Zb→Option Bool)} {Zr:((List Zb)→(List Zb)→Option Bool)} (Zim:Zfa Jf) (Y8:Y7 Zr) {a0:Zb} {a1:Zb} {r:Bool} {O:Objs} {n:Nat} (h:Zc5 Jf Zr a0 a1=some r):GTo Try.prog 70 [.agg (Zp a0),.agg (Zp a1)] O n ((vB r)) O n:=by
 unfold Zc5 at h
 refine zFn Try.call70 Try.func70 fun hU hN0 hN => ?_
 show W _ _ _ _ ⟨44,[],[(0,.agg (Zp a0)),(1,.agg (Zp a1))]⟩ (Zy O n []) _
 refine zQ [2,3] ?_
 refine Zn ?_
 refine zQ [2,3,9] ?_
 refine Zt (t:=(a0.Kind != a1.Kind)) rfl (fun c31 => ?_) (fun c31 => ?_)
 ·replace h:=Zw c31 h
  refine zQ [4] ?_
  exact Xg [(vB false)]
 replace h:=Zv c31 h
 refine Ud [2,3] [true,true] ?_
 refine Zn ?_
 refine zQ [2,3,11] ?_
 refine Yx ?_
 refine zQ [2,3,11,12] ?_
 refine Zt (t:=(a0.Kind == 0)) rfl (fun c30 => ?_) (fun c30 => ?_)
 ·replace h:=Zw c30 h
  refine zQ [4] ?_
  exact Xg [(vB true)]
 replace h:=Zv c30 h
 refine zQ [2,3,14] ?_
 refine Zt (t:=(a0.Kind == 1)) rfl (fun c29 => ?_) (fun c29 => ?_)
 ·replace h:=Zw c29 h
  obtain ⟨z7,hz7,h⟩:=bC h
  refine Xj (E':=⟨44,[],[(4,(vB z7))]⟩) (O':=(Zy O n [none,none])) (n0:=(n+2)) ?_ ?_
  ·obtain ⟨y14,hy14,hz7⟩:=bC hz7
   obtain ⟨y15,hy15,hz7⟩:=bC hz7
   obtain ⟨y16,hy16,hz7⟩:=bC hz7
   rcases Bool.eq_false_or_eq_true y16 with c20 | c20
   ·replace hz7:=Zw c20 hz7
    obtain ⟨y17,hy17,hz7⟩:=bC hz7
    obtain ⟨y18,hy18,hz7⟩:=bC hz7
    obtain ⟨y19,hy19,hz7⟩:=bC hz7
    refine Ql Z5 (by kernel_rfl) [some true,some true,some true,some true,some true,some true,some true] (by kernel_rfl) ?_
    refine zX1 c20 ?_
    refine PCall.of (Ua hy14) ?_
    refine zX1 c20 ?_
    refine PCall.of (Ua hy15) ?_
    refine zX1 c20 ?_
    refine PCall.of (Q7 hy16) ?_
    refine zX1 c20 ?_
    refine PCall.of (Zd6 hy17) ?_
    refine zX1 c20 ?_
    refine PCall.of (Zd6 hy18) ?_
    refine zX1 c20 ?_
    refine PCall.of (Y8 hy19) ?_
    refine zX1 c20 ?_
    exact U5 hz7 c20
   replace hz7:=Zv c20 hz7
   refine Ql Z5 (by kernel_rfl) [some false,some false,some false,some false,some false,some false,some false] (by kernel_rfl) ?_
   refine zX1 c20 ?_
   refine PCall.of (Ua hy14) ?_
   refine zX1 c20 ?_
   refine PCall.of (Ua hy15) ?_
   refine zX1 c20 ?_
   refine PCall.of (Q7 hy16) ?_
   refine zX1 c20 ?_
   exact U5 hz7 c20
  exact Xg [(vB z7)]
 replace h:=Zv c29 h
 refine Ud [2,3] [true,true] ?_
 obtain ⟨z23,hz23,h⟩:=bC h
 refine Xj (E':=⟨44,[],[(4,(vB z23))]⟩) (O':=(Zy O n [none,none])) (n0:=(n+2)) ?_ ?_
 ·obtain ⟨y26,hy26,hz23⟩:=bC hz23
  rcases Bool.eq_false_or_eq_true y26 with c28 | c28
  ·replace hz23:=Zw c28 hz23
   obtain ⟨y27,hy27,hz23⟩:=bC hz23
   refine Zc1 [some true,some true,some true,some true,some true] c28 ?_
   refine (Q7 hy26).then ?_
   refine zX1 c28 ?_
   refine (Y8 hy27).then ?_
   refine zX1 c28 ?_
   exact U5 hz23 c28
  replace hz23:=Zv c28 hz23
  refine Zc1 [some false,some false,some false,some false,some false] c28 ?_
  refine (Q7 hy26).then ?_
  refine zX1 c28 ?_
  exact U5 hz23 c28
 exact Xg [(vB z23)]
theorem Kb {Jf:(Zb→Zb→Option Bool)} {Zr:((List Zb)→(List Zb)→Option Bool)} (Zim:Zfa Jf) (Y8:Y7 Zr) {a0:(List Zb)} {a1:(List Zb)} {r:Bool} {O:Objs} {n:Nat} (h:Yh Jf Zr a0 a1=some r):GTo Try.prog 109 [(sL Za a0),(sL Za a1),.fn 70 0 []] O n ((vB r)) O n:=by
 unfold Yh at h
 refine zFn Try.call109 Try.func109 fun hU hN0 hN => ?_
 show W _ _ _ _ ⟨32,[],[(0,(sL Za a0)),(1,(sL Za a1)),(2,.fn 70 0 [])]⟩ (Zy O n []) _
 refine zQ [0,1,2] ?_
 refine Zn ?_
 refine zQ [0,1,2,14] ?_
 refine Zt (t:=((a0.length:Int) != (a1.length:Int))) rfl (fun c10 => ?_) (fun c10 => ?_)
 ·replace h:=Zw c10 h
  refine zQ [6] ?_
  exact Xg [(vB false)]
 replace h:=Zv c10 h
 refine Ud [0,1,2] [] ?_
 refine Zn ?_
 refine zQd [1,2,15,16,17] [1,2,15,16,17] [] ?_
 obtain ⟨z9,hz9,h⟩:=bC h
 refine Zcn (J:=(Jg (fun z9=>JR n (⟨32,[],[(6,(vB false))]⟩:Env) (Zy O n []) n) (fun z9=>JX 0 n (⟨32,[],[]⟩:Env) (Zy O n []) n))) (z:=z9) ?_ fun hw => ?_
 ·refine Xv hz9 (fun s0_=>⟨32,[],[(1,(sL Za a1)),(2,.fn 70 0 []),(15,(sL Za a0)),(16,(vI (a0.length:Int))),(17,(vI s0_))]⟩) (fun s0_=>(Zy O n [])) (Jg (fun z9=>JR n (⟨32,[],[(6,(vB false))]⟩:Env) (Zy O n []) n) (fun z9=>JX 0 n (⟨32,[],[]⟩:Env) (Zy O n []) n)) ?_
  intro s0_ x0_ hs0_
  unfold Yc at hs0_
  try dsimp only
  refine zQ [1,2,15,16,17,18] ?_
  refine Zn ?_
  refine Zt (t:=(decide (s0_ < (a0.length:Int)))) rfl (fun c8 => ?_) (fun c8 => ?_)
  ·replace hs0_:=Zw c8 hs0_
   refine Ud [1,2,15,16,17] [] ?_
   refine Zn ?_
   refine Yx ?_
   refine Zn ?_
   obtain ⟨x2,hx2,ax2,bx2,cx2,hs0_⟩:=bE (f:=Za) Uk (fun _=>rfl) (by decide) hs0_
   refine Zdx [] ax2 bx2 cx2 ?_
   refine zDs [1,2,7,8,15,16,17] [true] ?_
   obtain ⟨x4,hx4,ax4,bx4,cx4,hs0_⟩:=bE (f:=Za) Uk (fun _=>rfl) (by decide) hs0_
   refine Zdx [] ax4 bx4 cx4 ?_
   refine zDs [1,2,8,9,15,16,17] [true,true] ?_
   obtain ⟨y6,hy6,hs0_⟩:=bC hs0_
   refine zCd (Zim hy6) [1,2,15,16,17,30] [false,false] ?_
   refine Zt (t:=(!y6)) rfl (fun c7 => ?_) (fun c7 => ?_)
   ·replace hs0_:=Zw c7 hs0_
    refine zQ [6] ?_
    refine zW ?_
    exact zEy hs0_
   replace hs0_:=Zv c7 hs0_
   refine Ud [1,2,15,16,17] [false,false] ?_
   refine zR ?_
   exact zEn hs0_
  replace hs0_:=Zv c8 hs0_
  exact zEx hs0_
 rcases z9 with z9 | z9
 ·dsimp only [Jg] at hw h
  refine Ve hw ?_
  try simp only [Xh,Yw,↓reduceIte,Nat.reduceEqDiff]
  exact Zlr [(vB false)]
 dsimp only [Jg] at hw h
 refine Xe hw ?_
 try simp only [Xh,Yw,↓reduceIte,Nat.reduceEqDiff]
 refine zD [] [] ?_
 refine zQ [6] ?_
 exact Xg [(vB true)]
theorem Zhh:∀ k,(Zfa ((Xn k).1))∧(Y7 ((Xn k).2)):=fun k=>by
 induction k with
 | zero=>exact ⟨@fun a0 a1 r O n h=>(nomatch (show (none:Option _)=some _ from h)),@fun a0 a1 r O n h=>(nomatch (show (none:Option _)=some _ from h))⟩
 | succ k ih=>exact ⟨@fun a0 a1 r O n h=>Zqm (ih.1) (ih.2)  h,@fun a0 a1 r O n h=>Kb (ih.1) (ih.2)  h⟩
theorem Zse {a0:Zb} {a1:Zb} {r:Bool} {O:Objs} {n:Nat} (h:Zl6 a0 a1=some r):GTo Try.prog 70 [.agg (Zp a0),.agg (Zp a1)] O n ((vB r)) O n:=by
 obtain ⟨k,hk⟩:=Zdf h
 exact (Zhh k).1  hk
theorem X3 {a0:(List Zb)} {a1:(List Zb)} {r:Bool} {O:Objs} {n:Nat} (h:Yu a0 a1=some r):GTo Try.prog 109 [(sL Za a0),(sL Za a1),.fn 70 0 []] O n ((vB r)) O n:=by
 obtain ⟨k,hk⟩:=Zdf h
 exact (Zhh k).2  hk
theorem U2 {a0 r:List Int} {O:Objs} {n:Nat} (h:Gk a0=some r):GTo Try.prog 110 [(sL (eI .u64) a0)] O n (.row n r.length) (Zy O n [some (oR 40 1 (eI .u64) r)]) (n+1):=by
 have h1:=Ztb h
 have h2:=Ztc h
 have h3:=Zov h
 rw [List.nil_append] at h3
 subst h3
 simp only [List.length_nil,Nat.zero_add] at h1 h2
 clear h
 refine zFn Try.call110 Try.func110 fun hU hN0 hN => ?_
 show W _ _ _ _ ⟨8,[],[(0,(sL (eI .u64) r))]⟩ (Zy O n []) _
 refine zQ [0] ?_
 refine Zxx 0 r.length (fl (eI .u64) r) rfl (Nat.le_of_ble_eq_true rfl) (Yi Js _) fun A c hA => ?_
 refine zQ [0,4] ?_
 cases A with
 | none =>
  obtain rfl:r=[]:=List.eq_nil_of_length_eq_zero (hA rfl)
  refine Zt (t:=true) rfl (fun _ => ?_) (fun hc=>by cases hc)
  refine zQ [2] ?_
  refine zW ?_
  refine Zpp (k:=1) (L3:=[some ⟨true,40,1,0,[]⟩]) (E2:=⟨8,[],[(2,.row n 0),(2,nV)]⟩) (n3:=(n+1)) (.inr rfl) hU rfl [.row n 0] ?_ ?_
  ·have ha:=Zfm (ba:=n) (E:=⟨8,[],[(2,.val (.slice none 0 0))]⟩) (O:=(Zy O n [])) (n:=n) 2 40 1 rfl (by omega)
   simp only [Yr] at ha
   exact ha
  simp only [push_cast,seval,↓reduceIte,Ze,Try.results110,hN0,hN]
 | some A =>
  refine Zt (t:=false) rfl (fun hc=>by cases hc) (fun _ => ?_)
  refine zK ?_
  refine And.intro rfl (And.intro (Nat.le_of_ble_eq_true rfl) ?_)
  refine Zn ?_
  refine Yz Z5 [] ?_
  simp only [push_cast,seval,↓reduceIte,Ze,h1,h2,hN0,hN]
  refine zW ?_
  refine Zpo (.inr rfl) hU rfl [.row n r.length] (by omega) ?_
  simp only [push_cast,seval,↓reduceIte,Ze,Try.results110,hN0,hN]
theorem Jw {a0 r:List Zb} {O:Objs} {n:Nat} (h:V8 a0=some r):GTo Try.prog 111 [(sL Za a0)] O n (.row n r.length) (Zy O n [some (oR 25 3 Za r)]) (n+1):=by
 have h1:=Ztb h
 have h2:=Ztc h
 have h3:=Zov h
 rw [List.nil_append] at h3
 subst h3
 simp only [List.length_nil,Nat.zero_add] at h1 h2
 clear h
 refine zFn Try.call111 Try.func111 fun hU hN0 hN => ?_
 show W _ _ _ _ ⟨8,[],[(0,(sL Za r))]⟩ (Zy O n []) _
 refine zQ [0] ?_
 refine Zxx 0 r.length (fl Za r) rfl (Nat.le_of_ble_eq_true rfl) (Yi Y9 _) fun A c hA => ?_
 refine zQ [0,4] ?_
 cases A with
 | none =>
  obtain rfl:r=[]:=List.eq_nil_of_length_eq_zero (hA rfl)
  refine Zt (t:=true) rfl (fun _ => ?_) (fun hc=>by cases hc)
  refine zQ [2] ?_
  refine zW ?_
  refine Zpp (k:=1) (L3:=[some ⟨true,25,3,0,[]⟩]) (E2:=⟨8,[],[(2,.row n 0),(2,nV)]⟩) (n3:=(n+1)) (.inr rfl) hU rfl [.row n 0] ?_ ?_
  ·have ha:=Zfm (ba:=n) (E:=⟨8,[],[(2,.val (.slice none 0 0))]⟩) (O:=(Zy O n [])) (n:=n) 2 25 3 rfl (by omega)
   simp only [Yr] at ha
   exact ha
  simp only [push_cast,seval,↓reduceIte,Ze,Try.results111,hN0,hN]
 | some A =>
  refine Zt (t:=false) rfl (fun hc=>by cases hc) (fun _ => ?_)
  refine zK ?_
  refine And.intro rfl (And.intro (Nat.le_of_ble_eq_true rfl) ?_)
  refine Zn ?_
  refine Yz Z5 [] ?_
  simp only [push_cast,seval,↓reduceIte,Ze,h1,h2,hN0,hN]
  refine zW ?_
  refine Zpo (.inr rfl) hU rfl [.row n r.length] (by omega) ?_
  simp only [push_cast,seval,↓reduceIte,Ze,Try.results111,hN0,hN]
theorem Zum {a0:Zb} {a1:Int} {r:Int} {O:Objs} {n:Nat} (h:Zi9 a0 a1=some r):GTo Try.prog 112 [.agg (Zp a0),(vI a1)] O n (.val (.int .u64 r)) O n:=by
 unfold Zi9 at h
 refine zFn Try.call112 Try.func112 fun hU hN0 hN => ?_
 show W _ _ _ _ ⟨19,[],[(0,.agg (Zp a0)),(1,(vI a1))]⟩ (Zy O n []) _
 refine zQ [1,2] ?_
 refine Zn ?_
 refine zQD [1,2,13] [none,none,none,none,none] ?_
 refine Zt (t:=(cond (decide (a1 < 0)) true (decide ((a0.Words.length:Int)≤a1)))) rfl (fun c3 => ?_) (fun c3 => ?_)
 ·replace h:=Zw c3 h
  refine zQ [4] ?_
  exact Xg [.val (.int .u64 0)]
 replace h:=Zv c3 h
 refine Ud [1,2] [true] ?_
 obtain ⟨x2,hx2,ax2,bx2,cx2,h⟩:=bE (f:=(eI .u64)) Zjp (fun _=>rfl) (by decide) h
 refine Zmy [4] (Yz Z5 [] ?_)
 refine zF3 ax2 bx2 cx2 ?_
 exact Xg [.val (.int .u64 x2)]
theorem Zd4 {a0:Int} {r:Bool} {O:Objs} {n:Nat} (h:Zcm a0=some r):GTo Try.prog 113 [(vI a0)] O n ((vB r)) O n:=by
 unfold Zcm at h
 refine zFn Try.call113 Try.func113 fun hU hN0 hN => ?_
 show W _ _ _ _ ⟨9,[],[(0,(vI a0))]⟩ (Zy O n []) _
 refine zQ [0] ?_
 refine zQD [2] [none,none] ?_
 exact Xg [(vB (cond (decide (a0 < 0)) true (decide (65534 < a0))))]
theorem Zh7 {a0:Int} {r:Int} {O:Objs} {n:Nat} (h:Zas a0=some r):GTo Try.prog 43 [.val (.int .u8 a0)] O n (.val (.int .u64 r)) O n:=by
 unfold Zas at h
 refine zFn Try.call43 Try.func43 fun hU hN0 hN => ?_
 show W _ _ _ _ ⟨20,[],[(0,.val (.int .u8 a0))]⟩ (Zy O n []) _
 refine zQ [0] ?_
 refine zQ [0,3] ?_
 refine Zn ?_
 refine zQd [0,3,5] [0,3,5] [] ?_
 obtain ⟨z7,hz7,h⟩:=bC h
 refine Xe (E':=⟨20,[],[(3,.val (.int .u64 z7))]⟩) (O':=(Zy O n [])) (n0:=n) ?_ ?_
 ·refine Xv hz7 (fun s0_=>⟨20,[],[(0,.val (.int .u8 a0)),(3,.val (.int .u64 s0_.1)),(5,(vI s0_.2))]⟩) (fun s0_=>(Zy O n [])) (fun z7=>JX 0 n (⟨20,[],[(3,.val (.int .u64 z7))]⟩:Env) (Zy O n []) n) ?_
  intro s0_ x0_ hs0_
  unfold Zat at hs0_
  try dsimp only
  refine zQ [0,3,5,6] ?_
  refine Zn ?_
  refine Zt (t:=(decide (s0_.2 < 8))) rfl (fun c6 => ?_) (fun c6 => ?_)
  ·replace hs0_:=Zw c6 hs0_
   refine Ud [0,3,5] [] ?_
   obtain ⟨z1,hz1,hs0_⟩:=bC hs0_
   refine Xj (E':=⟨20,[],[(0,.val (.int .u8 a0)),(3,.val (.int .u64 z1)),(5,(vI s0_.2))]⟩) (O':=(Zy O n [])) (n0:=n) ?_ ?_
   ·refine Yx ?_
    refine zQ [0,3,4,5] ?_
    obtain ⟨pu3,hz1⟩:=bG hz1
    refine Zmy [0,3,4,5,12] (Yz Z5 [] ?_)
    simp only [push_cast,seval,↓reduceIte,Ze,pu3,hN0,hN]
    refine Zt (t:=((IntKind.u8.wrap (Zdt .u8 (Int.fdiv a0 (2 ^ min (Int.toNat s0_.2) 8)) 1)) == 1)) rfl (fun c5 => ?_) (fun c5 => ?_)
    ·replace hz1:=Zw c5 hz1
     obtain ⟨pu4,hz1⟩:=bG hz1
     refine Yz Z5 [] ?_
     simp only [push_cast,seval,↓reduceIte,Ze,pu4,hN0,hN]
     have hz1:=Option.some.inj hz1;subst hz1
     refine And.intro rfl (Fit2.of (Z6 hU rfl rfl ?_) (by omega))
     simp only [push_cast,seval,↓reduceIte,Ze,pu4,hN0,hN]
    replace hz1:=Zv c5 hz1
    refine zK ?_
    exact zEn hz1
   refine zR ?_
   exact zEn hs0_
  replace hs0_:=Zv c6 hs0_
  exact zEx hs0_
 try simp only [Xh,Yw,↓reduceIte,Nat.reduceEqDiff]
 refine zD [3] [] ?_
 refine zQ [2] ?_
 exact Xg [.val (.int .u64 z7)]
theorem Zje {a0:Int} {a1:Int} {a2:Int} {r:Int} {O:Objs} {n:Nat} (h:Zct a0 a1 a2=some r):GTo Try.prog 44 [.val (.int .u64 a0),.val (.int .u64 a1),.val (.int .u8 a2)] O n (.val (.int .u64 r)) O n:=by
 unfold Zct at h
 refine zFn Try.call44 Try.func44 fun hU hN0 hN => ?_
 show W _ _ _ _ ⟨17,[],[(0,.val (.int .u64 a0)),(1,.val (.int .u64 a1)),(2,.val (.int .u8 a2))]⟩ (Zy O n []) _
 refine zQ [0,1,2] ?_
 refine Zn ?_
 obtain ⟨y2,hy2,h⟩:=bC h
 refine zCd (Zh7 hy2) [0,1,7] [] ?_
 refine zQ [6] ?_
 exact Xg [.val (.int .u64 (IntKind.u64.wrap (Zk1 .u64 (IntKind.u64.wrap (Zsx .u64 a0 y2)) (IntKind.u64.wrap (Zdt .u64 a1 y2)))))]
theorem Znf {a0:Zb} {a1:Int} {a2:Int} {r:Zb} {O:Objs} {n:Nat} {i0 j0_0 j0_1:Nat} (hi0:i0 < n) (Vl:j0_0 < n) (Zes:j0_1 < n) (Jb:i0≠j0_0) (Vs:i0≠j0_1) (Vr:j0_0≠j0_1) (ho0:O i0=some ⟨false,25,3,1,[(vI a0.Kind),.row j0_1 a0.Words.length,.row j0_0 a0.Kids.length]⟩) (Vt:O j0_0=some (oR 25 3 Za a0.Kids)) (Zfz:O j0_1=some (oR 40 1 (eI .u64) a0.Words)) (h:Ze7 a0 a1 a2=some r):GTo Try.prog 114 [.ref i0 0,(vI a1),.val (.int .u64 a2)] O n (.tup []) (Zy (((O.upd j0_0 none).upd j0_1 none).upd i0 (some ⟨false,25,3,1,[(vI r.Kind),.row (n+1) r.Words.length,.row n r.Kids.length]⟩)) n [some (oR 25 3 Za r.Kids),some (oR 40 1 (eI .u64) r.Words)]) (n+2):=by
 unfold Ze7 at h
 refine Zii Z5 Try.call114 Try.func114 rfl (Nat.le_of_ble_eq_true rfl) (by omega) fun hU => ?_
 have e0:=Jt (ba:=n) (E:=⟨40,[],Zda 0 [.ref i0 0,.val (.int .i64 a1),.val (.int .u64 a2)]⟩) (O:=(Zy O n [])) (n:=n) (i:=i0) (j:=j0_0) (k:=2) (len:=a0.Kids.length) (q:=⟨false,25,3,1,[.val (.int .i64 a0.Kind),.row j0_1 a0.Words.length,.row j0_0 a0.Kids.length]⟩) (qj:=⟨true,25,3,a0.Kids.length,fl Za a0.Kids⟩) (by rw [Yo _ hi0];first | exact ho0 | exact Yg _ _ _) rfl (by rw [Yo _ Vl];exact Vt) Jb (by omega)
 simp only [Yv _ _ Vl,Yv _ _ hi0,Y5,Yr,Qg,Ux Jb,List.set_cons_zero,List.set_cons_succ,List.cons_append,List.nil_append,List.length_cons,List.length_nil,Nat.zero_add,Nat.reduceAdd,Nat.add_assoc] at e0
 refine Q2 e0 ?_
 have e1:=Jt (ba:=n) (E:=⟨40,[],Zda 0 [.ref i0 0,.val (.int .i64 a1),.val (.int .u64 a2)]⟩) (O:=(Zy ((O.upd j0_0 none).upd i0 (some ⟨false,25,3,1,[.val (.int .i64 a0.Kind),.row j0_1 a0.Words.length,.row n a0.Kids.length]⟩)) n [some ⟨true,25,3,a0.Kids.length,fl Za a0.Kids⟩])) (n:=(n+1)) (i:=i0) (j:=j0_1) (k:=1) (len:=a0.Words.length) (q:=⟨false,25,3,1,[.val (.int .i64 a0.Kind),.row j0_1 a0.Words.length,.row n a0.Kids.length]⟩) (qj:=⟨true,40,1,a0.Words.length,fl (eI .u64) a0.Words⟩) (by rw [Yo _ hi0];first | exact ho0 | exact Yg _ _ _) rfl (by rw [Yo _ Zes,Y3 _ _ (Ne.symm Vs),Y3 _ _ (Ne.symm Vr)];exact Zfz) Vs (by omega)
 simp only [Yv _ _ Zes,Yv _ _ hi0,Y5,Yr,Qg,Ux Vs,List.set_cons_zero,List.set_cons_succ,List.cons_append,List.nil_append,List.length_cons,List.length_nil,Nat.zero_add,Nat.reduceAdd,Nat.add_assoc] at e1
 refine Q2 e1 ?_
 have hU:=(Und.drop (Und.drop hU j0_0) j0_1)
 have hk0:∀ k,i0 < n+k:=fun k=>by omega
 have hN0:∀ o,Objs.upd ((O.upd j0_0 none).upd j0_1 none) i0 o n=none:=fun o=>Qd hU hi0 _ (Nat.le_refl _)
 have hN:∀ o k,Objs.upd ((O.upd j0_0 none).upd j0_1 none) i0 o (n+k)=none:=fun o k=>Qd hU hi0 _ (Nat.le_add_right _ _)
 show W _ _ _ _ ⟨40,[],[(0,.ref i0 0),(1,(vI a1)),(2,.val (.int .u64 a2))]⟩ (Zy (((O.upd j0_0 none).upd j0_1 none).upd i0 (some ⟨false,25,3,1,[(vI a0.Kind),.row (n+1) a0.Words.length,.row n a0.Kids.length]⟩)) n [some (oR 25 3 Za a0.Kids),some (oR 40 1 (eI .u64) a0.Words)]) _
 refine Zn ?_
 refine zD [0,1,2] [true,true] ?_
 obtain ⟨z3,hz3,h⟩:=bC h
 refine Xe (E':=⟨40,[],[(0,.ref i0 0),(1,(vI a1)),(2,.val (.int .u64 a2))]⟩) (O':=(Zy (((O.upd j0_0 none).upd j0_1 none).upd i0 (some ⟨false,25,3,1,[(vI a0.Kind),.row (n+1) z3.length,.row n a0.Kids.length]⟩)) n [some (oR 25 3 Za a0.Kids),some (oR 40 1 (eI .u64) z3)])) (n0:=(n+2)) ?_ ?_
 ·refine Xv hz3 (fun s0_=>⟨40,[],[(0,.ref i0 0),(1,(vI a1)),(2,.val (.int .u64 a2))]⟩) (fun s0_=>(Zy (((O.upd j0_0 none).upd j0_1 none).upd i0 (some ⟨false,25,3,1,[(vI a0.Kind),.row (n+1) s0_.length,.row n a0.Kids.length]⟩)) n [some (oR 25 3 Za a0.Kids),some (oR 40 1 (eI .u64) s0_)])) (fun z3=>JX 0 n (⟨40,[],[(0,.ref i0 0),(1,(vI a1)),(2,.val (.int .u64 a2))]⟩:Env) (Zy (((O.upd j0_0 none).upd j0_1 none).upd i0 (some ⟨false,25,3,1,[(vI a0.Kind),.row (n+1) z3.length,.row n a0.Kids.length]⟩)) n [some (oR 25 3 Za a0.Kids),some (oR 40 1 (eI .u64) z3)]) (n+2)) ?_
  intro s0_ x0_ hs0_
  unfold Zf4 at hs0_
  try dsimp only
  refine Zn ?_
  refine Zmy [0,1,2,16] (Yz Z5 [none,none] ?_)
  refine zX2 hi0 hk0 ?_
  refine zG ?_
  refine Zt (t:=(cond (decide ((s0_.length:Int)≤a1)) (a2 != 0) false)) rfl (fun c2 => ?_) (fun c2 => ?_)
  ·replace hs0_:=Zw c2 hs0_
   refine Ud [0,1,2] [true,true] ?_
   refine Yx ?_
   obtain ⟨l1,pl1,ql1,el1,hs0_⟩:=bA (k:=1) rfl hs0_
   refine Z8k [] pl1 ql1 el1 hi0 hk0 ?_
   have hs0_:=Option.some.inj hs0_;subst hs0_
   refine And.intro rfl (Fit2.of (Yb hU rfl rfl ?_) (by omega))
   exact Z8l pl1 ql1 el1 hi0 hk0
  replace hs0_:=Zv c2 hs0_
  refine zXt ?_
  have hs0_:=Option.some.inj hs0_;subst hs0_
  refine And.intro (fun h=>by cases h) (And.intro rfl (Fit2.of (Yb hU rfl rfl ?_) (by omega)))
  exact Qo hi0 hk0
 try simp only [Xh,Yw,↓reduceIte,Nat.reduceEqDiff]
 refine zD [0,1,2] [true,true] ?_
 refine Uz [0,1,2,32] hi0 hk0 ?_
 refine Zt (t:=(decide (a1 < (z3.length:Int)))) rfl (fun c6 => ?_) (fun c6 => ?_)
 ·replace h:=Zw c6 h
  obtain ⟨x4,hx4,ax4,bx4,cx4,h⟩:=bE (f:=(eI .u64)) Zjp (fun _=>rfl) (by decide) h
  have gu5:Q4 (fl (eI .u64) z3) [.val (.int .u64 a2)] (Int.toNat a1 * 1)=some (fl (eI .u64) (Zdo z3 a1 a2)):=Zbt (f:=(eI .u64)) (ti:=⟨.bool,1,0,[],false⟩) (x:=a2) (fun _=>rfl) (Uq hx4)
  refine Z8i [] ax4 bx4 cx4 gu5 hi0 hk0 ?_
  have h:=Option.some.inj h;subst h
  refine Qz (k:=2) (i:=i0) (q1:=⟨false,25,3,1,[(vI a0.Kind),.row (n+1) (Zdo z3 a1 a2).length,.row n a0.Kids.length]⟩) (L3:=[some (oR 25 3 Za a0.Kids),some (oR 40 1 (eI .u64) (Zdo z3 a1 a2)),none]) (E2:=(⟨40,[],[]⟩:Env)) (n3:=(n+3)) (.inl rfl) hU rfl [] ?_ ?_
  ·refine Fit2.trans (E':=(⟨40,[],[]⟩:Env)) (O':=(Zy (((O.upd j0_0 none).upd j0_1 none).upd i0 (some ⟨false,25,3,1,[(vI a0.Kind),.row (n+1) (Zdo z3 a1 a2).length,.row n a0.Kids.length]⟩)) n [some (oR 25 3 Za a0.Kids),some (oR 40 1 (eI .u64) (Zdo z3 a1 a2))])) (n':=(n+2)) (Fit2.of (Yb hU rfl rfl ?_) (by omega)) ?_
   ·exact Z8g ax4 bx4 cx4 gu5 hi0 hk0
   refine X2 (k:=2) (k':=3) hU [0,1] [0,1,0] rfl rfl rfl rfl ⟨rfl,rfl⟩ ?_
   exact Qo hi0 hk0
  simp only [push_cast,seval,↓reduceIte,Ze,Try.results114,hi0,hk0,hN0,hN]
 replace h:=Zv c6 h
 refine zK ?_
 have h:=Option.some.inj h;subst h
 refine Qz (k:=2) (i:=i0) (q1:=⟨false,25,3,1,[(vI a0.Kind),.row (n+1) z3.length,.row n a0.Kids.length]⟩) (L3:=[some (oR 25 3 Za a0.Kids),some (oR 40 1 (eI .u64) z3),none]) (E2:=(⟨40,[],[]⟩:Env)) (n3:=(n+3)) (.inl rfl) hU rfl [] ?_ ?_
 ·refine Fit2.trans (E':=(⟨40,[],[]⟩:Env)) (O':=(Zy (((O.upd j0_0 none).upd j0_1 none).upd i0 (some ⟨false,25,3,1,[(vI a0.Kind),.row (n+1) z3.length,.row n a0.Kids.length]⟩)) n [some (oR 25 3 Za a0.Kids),some (oR 40 1 (eI .u64) z3)])) (n':=(n+2)) (Fit2.of (Yb hU rfl rfl ?_) (by omega)) ?_
  ·exact Qo hi0 hk0
  refine X2 (k:=2) (k':=3) hU [0,1] [0,1,0] rfl rfl rfl rfl ⟨rfl,rfl⟩ ?_
  exact Qo hi0 hk0
 simp only [push_cast,seval,↓reduceIte,Ze,Try.results114,hi0,hk0,hN0,hN]
theorem Zoe {a0:Zb} {a1:Int} {r:Zb} {O:Objs} {n:Nat} (h:Zk3 a0 a1=some r):GTo Try.prog 115 [.agg (Zp a0),(vI a1)] O n (.agg (Zp r)) O n:=by
 unfold Zk3 at h
 refine zFn Try.call115 Try.func115 fun hU hN0 hN => ?_
 show W _ _ _ _ ⟨20,[],[(0,.agg (Zp a0)),(1,(vI a1))]⟩ (Zy O n []) _
 refine zQ [1,2,4] ?_
 refine Zn ?_
 refine zQD [1,2,4,13] [none,none,none,none,none] ?_
 refine Zt (t:=(cond (decide (a1 < 0)) true (decide ((a0.Kids.length:Int)≤a1)))) rfl (fun c3 => ?_) (fun c3 => ?_)
 ·replace h:=Zw c3 h
  refine Zn ?_
  refine zRd [4] [false,true] ?_
  exact Xg [.agg [(vI 0),nV,nV]]
 replace h:=Zv c3 h
 refine Ud [1,2,4] [true,true] ?_
 refine Zn ?_
 obtain ⟨x2,hx2,ax2,bx2,cx2,h⟩:=bE (f:=Za) Uk (fun _=>rfl) (by decide) h
 refine Zdx [] ax2 bx2 cx2 ?_
 refine zD [4] [false,true] ?_
 exact Xg [.agg (Zp x2)]
theorem Zoo {a0:Zb} {a1:Int} {a2:Zb} {r:Zb} {O:Objs} {n:Nat} {i0 j0_0:Nat} (hi0:i0 < n) (Vl:j0_0 < n) (Jb:i0≠j0_0) (ho0:O i0=some ⟨false,25,3,1,[(vI a0.Kind),(sL (eI .u64) a0.Words),.row j0_0 a0.Kids.length]⟩) (Vt:O j0_0=some (oR 25 3 Za a0.Kids)) (h:Zf3 a0 a1 a2=some r):GTo Try.prog 116 [.ref i0 0,(vI a1),.agg (Zp a2)] O n (.tup []) (Zy ((O.upd j0_0 none).upd i0 (some ⟨false,25,3,1,[(vI r.Kind),(sL (eI .u64) r.Words),.row n r.Kids.length]⟩)) n [some (oR 25 3 Za r.Kids)]) (n+1):=by
 unfold Zf3 at h
 refine Zii Z5 Try.call116 Try.func116 rfl (Nat.le_of_ble_eq_true rfl) (by omega) fun hU => ?_
 have e0:=Jt (ba:=n) (E:=⟨43,[],Zda 0 [.ref i0 0,.val (.int .i64 a1),.agg [.val (.int .i64 a2.Kind),.sl a2.Words.length (fl (eI .u64) a2.Words),.sl a2.Kids.length (fl Za a2.Kids)]]⟩) (O:=(Zy O n [])) (n:=n) (i:=i0) (j:=j0_0) (k:=2) (len:=a0.Kids.length) (q:=⟨false,25,3,1,[.val (.int .i64 a0.Kind),.sl a0.Words.length (fl (eI .u64) a0.Words),.row j0_0 a0.Kids.length]⟩) (qj:=⟨true,25,3,a0.Kids.length,fl Za a0.Kids⟩) (by rw [Yo _ hi0];first | exact ho0 | exact Yg _ _ _) rfl (by rw [Yo _ Vl];exact Vt) Jb (by omega)
 simp only [Yv _ _ Vl,Yv _ _ hi0,Y5,Yr,Qg,Ux Jb,List.set_cons_zero,List.set_cons_succ,List.cons_append,List.nil_append,List.length_cons,List.length_nil,Nat.zero_add,Nat.reduceAdd,Nat.add_assoc] at e0
 refine Q2 e0 ?_
 have hU:=(Und.drop hU j0_0)
 have hk0:∀ k,i0 < n+k:=fun k=>by omega
 have hN0:∀ o,Objs.upd (O.upd j0_0 none) i0 o n=none:=fun o=>Qd hU hi0 _ (Nat.le_refl _)
 have hN:∀ o k,Objs.upd (O.upd j0_0 none) i0 o (n+k)=none:=fun o k=>Qd hU hi0 _ (Nat.le_add_right _ _)
 show W _ _ _ _ ⟨43,[],[(0,.ref i0 0),(1,(vI a1)),(2,.agg (Zp a2))]⟩ (Zy ((O.upd j0_0 none).upd i0 (some ⟨false,25,3,1,[(vI a0.Kind),(sL (eI .u64) a0.Words),.row n a0.Kids.length]⟩)) n [some (oR 25 3 Za a0.Kids)]) _
 refine Uz [0,1,5] hi0 hk0 ?_
 refine Zn ?_
 refine zD [0,1,5] [true,true] ?_
 obtain ⟨z5,hz5,h⟩:=bC h
 refine Xe (E':=⟨43,[],[(0,.ref i0 0),(1,(vI a1)),(5,.ref (n+1) 0)]⟩) (O':=(Zy ((O.upd j0_0 none).upd i0 (some ⟨false,25,3,1,[(vI a0.Kind),(sL (eI .u64) a0.Words),.row n z5.length]⟩)) n [some (oR 25 3 Za z5),some ⟨false,25,3,1,(Zp a2)⟩])) (n0:=(n+2)) ?_ ?_
 ·refine Xv hz5 (fun s0_=>⟨43,[],[(0,.ref i0 0),(1,(vI a1)),(5,.ref (n+1) 0)]⟩) (fun s0_=>(Zy ((O.upd j0_0 none).upd i0 (some ⟨false,25,3,1,[(vI a0.Kind),(sL (eI .u64) a0.Words),.row n s0_.length]⟩)) n [some (oR 25 3 Za s0_),some ⟨false,25,3,1,(Zp a2)⟩])) (fun z5=>JX 0 n (⟨43,[],[(0,.ref i0 0),(1,(vI a1)),(5,.ref (n+1) 0)]⟩:Env) (Zy ((O.upd j0_0 none).upd i0 (some ⟨false,25,3,1,[(vI a0.Kind),(sL (eI .u64) a0.Words),.row n z5.length]⟩)) n [some (oR 25 3 Za z5),some ⟨false,25,3,1,(Zp a2)⟩]) (n+2)) ?_
  intro s0_ x0_ hs0_
  unfold Zgy at hs0_
  try dsimp only
  refine Zn ?_
  refine Zmy [0,1,5,17] (Yz Z5 [none,none,none] ?_)
  refine zX2 hi0 hk0 ?_
  refine zG ?_
  refine Zt (t:=(cond (decide ((s0_.length:Int)≤a1)) (a2.Kind != 0) false)) rfl (fun c4 => ?_) (fun c4 => ?_)
  ·replace hs0_:=Zw c4 hs0_
   refine Ud [0,1,5] [true,true] ?_
   refine Yx ?_
   obtain ⟨l1,pl1,ql1,el1,hs0_⟩:=bA (k:=1) rfl hs0_
   obtain ⟨x2,hx2,ax2,bx2,cx2,hs0_⟩:=bE (f:=Za) Uk (fun _=>rfl) (by decide) hs0_
   have gu3:Q4 (fl Za s0_++[.val (.int .i64 0),.val (.slice none 0 0),.val (.slice none 0 0)]) [.val (.int .i64 0),.val (.slice none 0 0),.val (.slice none 0 0)] (List.length s0_ * 3)=some (fl Za s0_++[.val (.int .i64 0),.val (.slice none 0 0),.val (.slice none 0 0)]):=U0 (f:=Za) (sz:=3) (fun _=>rfl) rfl rfl
   refine Qu Z5 (by kernel_rfl) [.plain,.low,.low,.low,.plain,.low,.pass,.bar,.shp,.fill true,.shp,.shp,.fill false] (fun i=>i < (n+2)) [0,1,2,3,4,5,6,7,8,9,10,11,12] [.plain,.low,.low,.low,.plain,.low,.pass,.bar,.shp,.fill true,.shp,.shp,.fill false] [] (by kernel_rfl) rfl ?_
   refine zF9 pl1 ql1 el1 ax2 bx2 cx2 gu3 hi0 hk0 ?_
   refine zO ?_
   have hs0_:=Option.some.inj hs0_;subst hs0_
   refine And.intro rfl (Fit2.of (Yb hU rfl rfl ?_) (by omega))
   exact Zv6 pl1 ql1 el1 ax2 bx2 cx2 gu3 hi0 hk0
  replace hs0_:=Zv c4 hs0_
  refine zXt ?_
  have hs0_:=Option.some.inj hs0_;subst hs0_
  refine And.intro (fun h=>by cases h) (And.intro rfl (Fit2.of (Yb hU rfl rfl ?_) (by omega)))
  exact Qo hi0 hk0
 try simp only [Xh,Yw,↓reduceIte,Nat.reduceEqDiff]
 refine zD [0,1,5] [true,true] ?_
 refine Uz [0,1,5,35] hi0 hk0 ?_
 refine Zt (t:=(decide (a1 < (z5.length:Int)))) rfl (fun c8 => ?_) (fun c8 => ?_)
 ·replace h:=Zw c8 h
  obtain ⟨x6,hx6,ax6,bx6,cx6,h⟩:=bE (f:=Za) Uk (fun _=>rfl) (by decide) h
  have gu7:Q4 (fl Za z5) [.val (.int .i64 a2.Kind),.sl a2.Words.length (fl (eI .u64) a2.Words),.sl a2.Kids.length (fl Za a2.Kids)] (Int.toNat a1 * 3)=some (fl Za (Zdo z5 a1 a2)):=(congrArg (fun c=>Q4 (fl Za z5) c (Int.toNat a1 * 3)) (show [.val (.int .i64 a2.Kind),.sl a2.Words.length (fl (eI .u64) a2.Words),.sl a2.Kids.length (fl Za a2.Kids)]=Za a2 from by simp only [Za,Xf,eI,eB,eS,eL])).trans (Zbt (f:=Za) (ti:=⟨.bool,3,0,[],false⟩) (x:=a2) (fun _=>rfl) (Uq hx6))
  refine Zfi Z5 (by kernel_rfl) [false,false,false,false,false,false,false,true] [] (by kernel_rfl) ?_
  refine zF6 ax6 bx6 cx6 gu7 hi0 hk0 ?_
  have h:=Option.some.inj h;subst h
  refine Qz (k:=1) (i:=i0) (q1:=⟨false,25,3,1,[(vI a0.Kind),(sL (eI .u64) a0.Words),.row n (Zdo z5 a1 a2).length]⟩) (L3:=[some (oR 25 3 Za (Zdo z5 a1 a2)),none]) (E2:=(⟨43,[],[]⟩:Env)) (n3:=(n+2)) (.inl rfl) hU rfl [] ?_ ?_
  ·refine Fit2.trans (E':=(⟨43,[],[]⟩:Env)) (O':=(Zy ((O.upd j0_0 none).upd i0 (some ⟨false,25,3,1,[(vI a0.Kind),(sL (eI .u64) a0.Words),.row n (Zdo z5 a1 a2).length]⟩)) n [some (oR 25 3 Za (Zdo z5 a1 a2)),none])) (n':=(n+2)) (Fit2.of (Yb hU rfl rfl ?_) (by omega)) ?_
   ·exact Z8g ax6 bx6 cx6 gu7 hi0 hk0
   refine X2 (k:=2) (k':=2) hU [0,1] [0,0] rfl rfl rfl rfl ⟨rfl,rfl⟩ ?_
   exact Qo hi0 hk0
  simp only [push_cast,seval,↓reduceIte,Ze,Try.results116,hi0,hk0,hN0,hN]
 replace h:=Zv c8 h
 refine zK ?_
 have h:=Option.some.inj h;subst h
 refine Qz (k:=1) (i:=i0) (q1:=⟨false,25,3,1,[(vI a0.Kind),(sL (eI .u64) a0.Words),.row n z5.length]⟩) (L3:=[some (oR 25 3 Za z5),none]) (E2:=(⟨43,[],[]⟩:Env)) (n3:=(n+2)) (.inl rfl) hU rfl [] ?_ ?_
 ·refine Fit2.trans (E':=(⟨43,[],[]⟩:Env)) (O':=(Zy ((O.upd j0_0 none).upd i0 (some ⟨false,25,3,1,[(vI a0.Kind),(sL (eI .u64) a0.Words),.row n z5.length]⟩)) n [some (oR 25 3 Za z5),none])) (n':=(n+2)) (Fit2.of (Yb hU rfl rfl ?_) (by omega)) ?_
  ·exact Qo hi0 hk0
  refine X2 (k:=2) (k':=2) hU [0,1] [0,0] rfl rfl rfl rfl ⟨rfl,rfl⟩ ?_
  exact Qo hi0 hk0
 simp only [push_cast,seval,↓reduceIte,Ze,Try.results116,hi0,hk0,hN0,hN]
theorem Zul {a0:Int} {r:Bool} {O:Objs} {n:Nat} (h:Zi8 a0=some r):GTo Try.prog 104 [(vI a0)] O n ((vB r)) O n:=by
 unfold Zi8 at h
 refine zFn Try.call104 Try.func104 fun hU hN0 hN => ?_
 show W _ _ _ _ ⟨9,[],[(0,(vI a0))]⟩ (Zy O n []) _
 refine zQ [0] ?_
 refine zQD [2] [none,none] ?_
 exact Xg [(vB (cond (decide (2≤a0)) (decide (a0≤9)) false))]
attribute [local push_cast] Try.results117 Try.results128 Try.results16 Try.results37 Try.results38 Try.results71 Try.results72
def V2 (Yy:(Zc→Zb→Option (Zb×Bool))):Prop:=∀ {a0:Zc} {a1:Zb} {r:(Zb×Bool)} {O:Objs} {n:Nat},Yy a0 a1=some r→GTo Try.prog 37 [.agg (Zk a0),.agg (Zp a1)] O n (.tup [.agg (Zp r.1),(vB r.2)]) O n
def Jr (Yf:(Zc→Zb→Option (Zb×Bool))):Prop:=∀ {a0:Zc} {a1:Zb} {r:(Zb×Bool)} {O:Objs} {n:Nat},Yf a0 a1=some r→GTo Try.prog 71 [.agg (Zk a0),.agg (Zp a1)] O n (.tup [.agg (Zp r.1),(vB r.2)]) O n
def V3 (Xa:(Zc→Zb→Option (Zb×Bool))):Prop:=∀ {a0:Zc} {a1:Zb} {r:(Zb×Bool)} {O:Objs} {n:Nat},Xa a0 a1=some r→GTo Try.prog 72 [.agg (Zk a0),.agg (Zp a1)] O n (.tup [.agg (Zp r.1),(vB r.2)]) O n
def Qy (Z9:(Zm→Zh→Option (Bool×Zm))):Prop:=∀ {a0:Zm} {a1:Zh} {r:(Bool×Zm)} {O:Objs} {n:Nat} {i0 j0_0:Nat},i0 < n→j0_0 < n→i0≠j0_0→O i0=some ⟨false,131,2,1,[(sL Za a0.left),.row j0_0 a0.out.length]⟩→O j0_0=some (oR 25 3 Za a0.out)→Z9 a0 a1=some r→GTo Try.prog 117 [.ref i0 0,.agg (Y1 a1)] O n ((vB r.1)) (Zy ((O.upd j0_0 none).upd i0 (some ⟨false,131,2,1,[(sL Za r.2.left),.row n r.2.out.length]⟩)) n [some (oR 25 3 Za r.2.out)]) (n+1)
def Qc (Z7:(Zm→Zc→Option (Bool×Zm))):Prop:=∀ {a0:Zm} {a1:Zc} {r:(Bool×Zm)} {O:Objs} {n:Nat} {i0 j0_0:Nat},i0 < n→j0_0 < n→i0≠j0_0→O i0=some ⟨false,131,2,1,[(sL Za a0.left),.row j0_0 a0.out.length]⟩→O j0_0=some (oR 25 3 Za a0.out)→Z7 a0 a1=some r→GTo Try.prog 128 [.ref i0 0,.agg (Zk a1)] O n ((vB r.1)) (Zy ((O.upd j0_0 none).upd i0 (some ⟨false,131,2,1,[(sL Za r.2.left),.row n r.2.out.length]⟩)) n [some (oR 25 3 Za r.2.out)]) (n+1)
theorem Zqj {Yy:(Zc→Zb→Option (Zb×Bool))} {Yf:(Zc→Zb→Option (Zb×Bool))} {Xa:(Zc→Zb→Option (Zb×Bool))} {Z9:(Zm→Zh→Option (Bool×Zm))} {Z7:(Zm→Zc→Option (Bool×Zm))} (Ka:V2 Yy) (Kz:Jr Yf) (Gl:V3 Xa) (J0:Qy Z9) (Q0:Qc Z7) {a0:Zc} {a1:Zb} {r:(Zb×Bool)} {O:Objs} {n:Nat} (h:Zhx Yy Yf Xa Z9 Z7 a0 a1=some r):GTo Try.prog 37 [.agg (Zk a0),.agg (Zp a1)] O n (.tup [.agg (Zp r.1),(vB r.2)]) O n:=by
 unfold Zhx at h
 refine zFn Try.call37 Try.func37 fun hU hN0 hN => ?_
 show W _ _ _ _ ⟨34,[],[(0,.agg (Zk a0)),(1,.agg (Zp a1))]⟩ (Zy O n []) _
 refine zQ [2,3,4] ?_
 refine Zn ?_
 refine zQ [2,3,4,7] ?_
 refine Yx ?_
 refine zQ [2,3,4,7,8] ?_
 refine Zt (t:=(a0.Kind == 0)) rfl (fun c10 => ?_) (fun c10 => ?_)
 ·replace h:=Zw c10 h
  refine Zn ?_
  refine zRd [4,5] [false,false,true] ?_
  exact Xg [.agg (Zp a1),(vB true)]
 replace h:=Zv c10 h
 refine zQ [2,3,4,7,11] ?_
 refine Zt (t:=(a0.Kind == 1)) rfl (fun c9 => ?_) (fun c9 => ?_)
 ·replace h:=Zw c9 h
  refine Zn ?_
  obtain ⟨y2,hy2,h⟩:=bC h
  refine Zfi Z5 (by kernel_rfl) [false,false,false,false,false,false,true,false] [] (by kernel_rfl) ?_
  refine zS ?_
  refine PCall.of (Zse hy2) ?_
  refine zS ?_
  refine zD [4,5] [false,false,true] ?_
  exact Xg [.agg (Zp a0.New),(vB y2)]
 replace h:=Zv c9 h
 refine zQ [2,3,4,7,19] ?_
 refine Zt (t:=(a0.Kind == 2)) rfl (fun c8 => ?_) (fun c8 => ?_)
 ·replace h:=Zw c8 h
  refine Zn ?_
  obtain ⟨y4,hy4,h⟩:=bC h
  refine zCd (Kz hy4) [4,5] [false,false,true] ?_
  exact Xg [.agg (Zp y4.1),(vB y4.2)]
 replace h:=Zv c8 h
 refine zQ [2,3,4,26] ?_
 refine Zt (t:=(a0.Kind == 3)) rfl (fun c7 => ?_) (fun c7 => ?_)
 ·replace h:=Zw c7 h
  refine Zn ?_
  obtain ⟨y6,hy6,h⟩:=bC h
  refine zCd (Gl hy6) [4,5] [false,false,true] ?_
  exact Xg [.agg (Zp y6.1),(vB y6.2)]
 replace h:=Zv c7 h
 refine Ud [4] [false,false,true] ?_
 refine Zn ?_
 refine zRd [4,5] [false,false,true] ?_
 exact Xg [.agg [(vI 0),nV,nV],(vB false)]
theorem Zj7 {Yy:(Zc→Zb→Option (Zb×Bool))} {Yf:(Zc→Zb→Option (Zb×Bool))} {Xa:(Zc→Zb→Option (Zb×Bool))} {Z9:(Zm→Zh→Option (Bool×Zm))} {Z7:(Zm→Zc→Option (Bool×Zm))} (Ka:V2 Yy) (Kz:Jr Yf) (Gl:V3 Xa) (J0:Qy Z9) (Q0:Qc Z7) {a0:Zc} {a1:Zb} {r:(Zb×Bool)} {O:Objs} {n:Nat} (h:Zc3 Yy Yf Xa Z9 Z7 a0 a1=some r):GTo Try.prog 71 [.agg (Zk a0),.agg (Zp a1)] O n (.tup [.agg (Zp r.1),(vB r.2)]) O n:=by
 unfold Zc3 at h
 refine zFn Try.call71 Try.func71 fun hU hN0 hN => ?_
 show W _ _ _ _ ⟨92,[],[(0,.agg (Zk a0)),(1,.agg (Zp a1))]⟩ (Zy O n []) _
 refine zQ [2,3,4] ?_
 refine Zn ?_
 refine zQ [2,3,4,16] ?_
 refine Zt (t:=(a1.Kind != 1)) rfl (fun c138 => ?_) (fun c138 => ?_)
 ·replace h:=Zw c138 h
  refine Zn ?_
  refine zRd [4,5] [false,false,true] ?_
  exact Xg [.agg [(vI 0),nV,nV],(vB false)]
 replace h:=Zv c138 h
 refine Ud [2,3,4] [true,true,true] ?_
 obtain ⟨y25,hy25,h⟩:=bC h
 obtain ⟨y61,hy61,h⟩:=bC h
 refine Xj (E':=⟨92,[],[(2,.ref n 0),(3,.ref (n+1) 0),(4,.ref (n+2) 0),(6,.ref (n+5) 0)]⟩) (O':=(Zy O n [some ⟨false,30,11,1,(Zk a0)⟩,some ⟨false,25,3,1,(Zp a1)⟩,some ⟨false,25,3,1,[(vI 0),nV,nV]⟩,some (oR 40 1 (eI .u64) y25),some (oR 25 3 Za y61),some ⟨false,25,3,1,[(vI 1),.row (n+3) y25.length,.row (n+4) y61.length]⟩])) (n0:=(n+6)) ?_ ?_
 ·refine Zz0 Z5 (by kernel_rfl) [.low,.low,.pass,.low,.low,.pass,.plain,.pass,.pass] (fun i=>i < (n+3)) [0,1,3,4] [2,5,6,7] [8] (.alt 2 (.alt 5 (.seq [6,7]) (.one 7 (.seq [5,6]))) (.one 7 (.seq [2,5,6]))) [.low,.low,.low,.low] [] (by kernel_rfl) rfl ?_
  refine zS ?_
  repeat (with_reducible refine And.intro (by omega) ?_)
  try simp only [push_cast,seval,↓reduceIte,Ze,hN0,hN]
  refine And.intro ?_ ?_
  ·try simp only [push_cast,seval,↓reduceIte,Ze,hN0,hN]
   repeat (with_reducible refine And.intro (by first | exact Z0 rfl | exact Zs) ?_)
   refine (U2 hy25).then ?_
   try simp only [push_cast,seval,↓reduceIte,Ze,hN0,hN]
   repeat (with_reducible refine And.intro (by first | exact Z0 rfl | exact Zs) ?_)
   try simp only [push_cast,seval,↓reduceIte,Ze,hN0,hN]
   refine And.intro ?_ ?_
   ·try simp only [push_cast,seval,↓reduceIte,Ze,hN0,hN]
    repeat (with_reducible refine And.intro (by first | exact Z0 rfl | exact Zs) ?_)
    refine (Jw hy61).then ?_
    try simp only [push_cast,seval,↓reduceIte,Ze,hN0,hN]
    repeat (with_reducible refine And.intro (by first | exact Z0 rfl | exact Zs) ?_)
    try simp only [push_cast,seval,↓reduceIte,Ze,hN0,hN]
    repeat (with_reducible refine And.intro (by first | exact Z0 rfl | exact Zs) ?_)
    exact zEf
   try simp only [push_cast,seval,↓reduceIte,Ze,hN0,hN]
   repeat (with_reducible refine And.intro (by first | exact Z0 rfl | exact Zs) ?_)
   try simp only [push_cast,seval,↓reduceIte,Ze,hN0,hN]
   repeat (with_reducible refine And.intro (by first | exact Z0 rfl | exact Zs) ?_)
   refine (Jw hy61).then ?_
   try simp only [push_cast,seval,↓reduceIte,Ze,hN0,hN]
   repeat (with_reducible refine And.intro (by first | exact Z0 rfl | exact Zs) ?_)
   refine And.intro rfl ?_
   refine Fit2.trans (E':=(⟨92,[],[(2,.ref n 0),(3,.ref (n+1) 0),(4,.ref (n+2) 0),(6,.ref (n+4) 0)]⟩:Env)) (O':=(Zy O n [some ⟨false,30,11,1,(Zk a0)⟩,some ⟨false,25,3,1,(Zp a1)⟩,some ⟨false,25,3,1,[(vI 0),nV,nV]⟩,some (oR 40 1 (eI .u64) y25),some ⟨false,25,3,1,[(vI 1),.row (n+3) y25.length,.row (n+5) y61.length]⟩,some (oR 25 3 Za y61)])) (n':=(n+6)) (Fit2.of (Z6 hU rfl rfl ?_) (by omega)) ?_
   ·exact Ue
   refine Y2 (k:=6) (k':=6) hU [0,1,2,3,5,4] [0,1,2,3,5,4] rfl rfl rfl rfl ⟨rfl,rfl⟩ ?_
   exact Ue
  try simp only [push_cast,seval,↓reduceIte,Ze,hN0,hN]
  repeat (with_reducible refine And.intro (by first | exact Z0 rfl | exact Zs) ?_)
  try simp only [push_cast,seval,↓reduceIte,Ze,hN0,hN]
  repeat (with_reducible refine And.intro (by first | exact Z0 rfl | exact Zs) ?_)
  refine (U2 hy25).then ?_
  try simp only [push_cast,seval,↓reduceIte,Ze,hN0,hN]
  repeat (with_reducible refine And.intro (by first | exact Z0 rfl | exact Zs) ?_)
  refine (Jw hy61).then ?_
  try simp only [push_cast,seval,↓reduceIte,Ze,hN0,hN]
  repeat (with_reducible refine And.intro (by first | exact Z0 rfl | exact Zs) ?_)
  refine And.intro rfl ?_
  refine Fit2.trans (E':=(⟨92,[],[(2,.ref n 0),(3,.ref (n+1) 0),(4,.ref (n+2) 0),(6,.ref (n+3) 0)]⟩:Env)) (O':=(Zy O n [some ⟨false,30,11,1,(Zk a0)⟩,some ⟨false,25,3,1,(Zp a1)⟩,some ⟨false,25,3,1,[(vI 0),nV,nV]⟩,some ⟨false,25,3,1,[(vI 1),.row (n+4) y25.length,.row (n+5) y61.length]⟩,some (oR 40 1 (eI .u64) y25),some (oR 25 3 Za y61)])) (n':=(n+6)) (Fit2.of (Z6 hU rfl rfl ?_) (by omega)) ?_
  ·exact Ue
  refine Y2 (k:=6) (k':=6) hU [0,1,2,5,3,4] [0,1,2,4,5,3] rfl rfl rfl rfl ⟨rfl,rfl⟩ ?_
  exact Ue
 refine Zn ?_
 refine zQd [2,3,4,6,26,27,28] [2,3,4,6,26,27,28] [true,true,true,true,true,true] ?_
 refine Q2 (E':=(⟨92,[],[(2,.ref n 0),(3,.ref (n+1) 0),(4,.ref (n+2) 0),(6,.ref (n+5) 0),(26,(sL Zf a0.Words)),(27,(vI (a0.Words.length:Int))),(28,(vI 0))]⟩:Env)) (O':=(Zy O n [some ⟨false,30,11,1,(Zk a0)⟩,some ⟨false,25,3,1,(Zp a1)⟩,some ⟨false,25,3,1,[(vI 0),nV,nV]⟩,none,none,some ⟨false,25,3,1,[(vI 1),.row (n+6) y25.length,.row (n+7) y61.length]⟩,some (oR 40 1 (eI .u64) y25),some (oR 25 3 Za y61),none])) (n':=(n+9)) ?_ ?_
 ·refine Fit2.trans (E':=(⟨92,[],[(2,.ref n 0),(3,.ref (n+1) 0),(4,.ref (n+2) 0),(6,.ref (n+5) 0),(26,(sL Zf a0.Words)),(27,(vI (a0.Words.length:Int))),(28,(vI 0))]⟩:Env)) (O':=(Zy O n [some ⟨false,30,11,1,(Zk a0)⟩,some ⟨false,25,3,1,(Zp a1)⟩,some ⟨false,25,3,1,[(vI 0),nV,nV]⟩,some (oR 40 1 (eI .u64) y25),some (oR 25 3 Za y61),some ⟨false,25,3,1,[(vI 1),.row (n+3) y25.length,.row (n+4) y61.length]⟩])) (n':=(n+6)) (Fit2.of (Z6 hU rfl rfl ?_) (by omega)) ?_
  ·exact Ue
  refine Y2 (k:=6) (k':=9) hU [0,1,2,6,7,5] [0,1,2,0,0,5,3,4,0] rfl rfl rfl rfl ⟨rfl,rfl⟩ ?_
  exact Ue
 obtain ⟨z125,hz125,h⟩:=bC h
 refine Zcn (J:=(Jg (fun z125=>JR n (⟨92,[],[(4,.ref (n+2) 0),(5,(vB false))]⟩:Env) (Zy O n [none,none,some ⟨false,25,3,1,[(vI 0),nV,nV]⟩,none,none,none]) (n+6)) (fun z125=>JX 0 n (⟨92,[],[(2,.ref n 0),(3,.ref (n+1) 0),(4,.ref (n+2) 0),(6,.ref (n+5) 0)]⟩:Env) (Zy O n [some ⟨false,30,11,1,(Zk a0)⟩,some ⟨false,25,3,1,(Zp a1)⟩,some ⟨false,25,3,1,[(vI 0),nV,nV]⟩,none,none,some ⟨false,25,3,1,[(vI z125.1),.row (n+6) z125.2.1.length,.row (n+7) z125.2.2.length]⟩,some (oR 40 1 (eI .u64) z125.2.1),some (oR 25 3 Za z125.2.2),none]) (n+9)))) (z:=z125) ?_ fun hw => ?_
 ·refine Xv hz125 (fun s0_=>⟨92,[],[(2,.ref n 0),(3,.ref (n+1) 0),(4,.ref (n+2) 0),(6,.ref (n+5) 0),(26,(sL Zf a0.Words)),(27,(vI (a0.Words.length:Int))),(28,(vI s0_.1))]⟩) (fun s0_=>(Zy O n [some ⟨false,30,11,1,(Zk a0)⟩,some ⟨false,25,3,1,(Zp a1)⟩,some ⟨false,25,3,1,[(vI 0),nV,nV]⟩,none,none,some ⟨false,25,3,1,[(vI s0_.2.1),.row (n+6) s0_.2.2.1.length,.row (n+7) s0_.2.2.2.length]⟩,some (oR 40 1 (eI .u64) s0_.2.2.1),some (oR 25 3 Za s0_.2.2.2),none])) (Jg (fun z125=>JR n (⟨92,[],[(4,.ref (n+2) 0),(5,(vB false))]⟩:Env) (Zy O n [none,none,some ⟨false,25,3,1,[(vI 0),nV,nV]⟩,none,none,none]) (n+6)) (fun z125=>JX 0 n (⟨92,[],[(2,.ref n 0),(3,.ref (n+1) 0),(4,.ref (n+2) 0),(6,.ref (n+5) 0)]⟩:Env) (Zy O n [some ⟨false,30,11,1,(Zk a0)⟩,some ⟨false,25,3,1,(Zp a1)⟩,some ⟨false,25,3,1,[(vI 0),nV,nV]⟩,none,none,some ⟨false,25,3,1,[(vI z125.1),.row (n+6) z125.2.1.length,.row (n+7) z125.2.2.length]⟩,some (oR 40 1 (eI .u64) z125.2.1),some (oR 25 3 Za z125.2.2),none]) (n+9))) ?_
  intro s0_ x0_ hs0_
  unfold Zek at hs0_
  try dsimp only
  refine zQ [2,3,4,6,26,27,28,29] ?_
  refine Zn ?_
  refine Zt (t:=(decide (s0_.1 < (a0.Words.length:Int)))) rfl (fun c124 => ?_) (fun c124 => ?_)
  ·replace hs0_:=Zw c124 hs0_
   refine Ud [2,3,4,6,26,27,28] [true,true,true,false,false,true,true,true,false] ?_
   refine Zn ?_
   refine Yx ?_
   refine Zn ?_
   obtain ⟨x110,hx110,ax110,bx110,cx110,hs0_⟩:=bE (f:=Zf) Zdw (fun _=>rfl) (by decide) hs0_
   refine Zdx [] ax110 bx110 cx110 ?_
   refine zDs [2,3,4,6,8,26,27,28] [true,true,true,false,false,true,true,true,false,true] ?_
   obtain ⟨y112,hy112,hs0_⟩:=bC hs0_
   refine zCd (Zum hy112) [2,3,4,6,8,9,26,27,28] [true,true,true,false,false,true,true,true,false,true] ?_
   refine Zn ?_
   obtain ⟨z115,hz115,hs0_⟩:=bC hs0_
   refine Xj (E':=⟨92,[],[(2,.ref n 0),(3,.ref (n+1) 0),(4,.ref (n+2) 0),(6,.ref (n+5) 0),(8,.ref (n+9) 0),(9,.val (.int .u64 y112)),(26,(sL Zf a0.Words)),(27,(vI (a0.Words.length:Int))),(28,(vI s0_.1)),(49,(vB z115))]⟩) (O':=(Zy O n [some ⟨false,30,11,1,(Zk a0)⟩,some ⟨false,25,3,1,(Zp a1)⟩,some ⟨false,25,3,1,[(vI 0),nV,nV]⟩,none,none,some ⟨false,25,3,1,[(vI s0_.2.1),.row (n+6) s0_.2.2.1.length,.row (n+7) s0_.2.2.2.length]⟩,some (oR 40 1 (eI .u64) s0_.2.2.1),some (oR 25 3 Za s0_.2.2.2),none,some ⟨false,42,4,1,(Zl x110)⟩])) (n0:=(n+10)) ?_ ?_
   ·obtain ⟨y118,hy118,hz115⟩:=bC hz115
    rcases Bool.eq_false_or_eq_true y118 with c120 | c120
    ·replace hz115:=Zw c120 hz115
     refine Ql Z5 (by kernel_rfl) [some false,some false,some false,some false,some false,some false,some false,some false,some false] (by kernel_rfl) ?_
     refine zX1 c120 ?_
     refine PCall.of (Zd4 hy118) ?_
     refine zX1 c120 ?_
     exact U5 hz115 c120
    replace hz115:=Zv c120 hz115
    obtain ⟨y119,hy119,hz115⟩:=bC hz115
    refine Ql Z5 (by kernel_rfl) [some true,some true,some true,some true,some true,some true,some true,some true,some true] (by kernel_rfl) ?_
    refine zX1 c120 ?_
    refine PCall.of (Zd4 hy118) ?_
    refine zX1 c120 ?_
    refine PCall.of (Zh7 hy119) ?_
    refine zX1 c120 ?_
    exact U5 hz115 c120
   refine Zt (t:=z115) rfl (fun c123 => ?_) (fun c123 => ?_)
   ·replace hs0_:=Zw c123 hs0_
    refine Zn ?_
    refine zRd [4,5] [false,false,true,false,false,false,false,false,false,false] ?_
    refine zW ?_
    exact zEy hs0_
   replace hs0_:=Zv c123 hs0_
   refine Ud [2,3,4,6,8,9,26,27,28] [true,true,true,false,false,true,true,true,false,true] ?_
   obtain ⟨y121,hy121,hs0_⟩:=bC hs0_
   obtain ⟨y122,hy122,hs0_⟩:=bC hs0_
   refine Zfi Z5 (by kernel_rfl) [false,false,false,false,false,false,false,false,true] [] (by kernel_rfl) ?_
   refine zS ?_
   refine PCall.of (Zje hy121) ?_
   refine zS ?_
   refine (Znf (i0:=(n+5)) (j0_0:=(n+7)) (j0_1:=(n+6)) (by omega) (by omega) (by omega) (by omega) (by omega) (by omega) (by simp only [push_cast,seval,↓reduceIte,Ze,Y6,hN0,hN] <;> rfl) (by simp only [push_cast,seval,↓reduceIte,Ze,Y6,hN0,hN] <;> rfl) (by simp only [push_cast,seval,↓reduceIte,Ze,Y6,hN0,hN] <;> rfl) hy122).then ?_
   refine zS ?_
   refine zD [2,3,4,6,26,27,28] [true,true,true,false,false,true,false,false,false,false,true,true] ?_
   refine zR ?_
   have hs0_:=Option.some.inj hs0_;subst hs0_
   refine And.intro rfl ?_
   refine Fit2.trans (E':=(⟨92,[],[(2,.ref n 0),(3,.ref (n+1) 0),(4,.ref (n+2) 0),(6,.ref (n+5) 0),(26,(sL Zf a0.Words)),(27,(vI (a0.Words.length:Int))),(28,(vI (IntKind.i64.wrap (s0_.1+1))))]⟩:Env)) (O':=(Zy O n [some ⟨false,30,11,1,(Zk a0)⟩,some ⟨false,25,3,1,(Zp a1)⟩,some ⟨false,25,3,1,[(vI 0),nV,nV]⟩,none,none,some ⟨false,25,3,1,[(vI y122.Kind),.row (n+11) y122.Words.length,.row (n+10) y122.Kids.length]⟩,none,none,none,none,some (oR 25 3 Za y122.Kids),some (oR 40 1 (eI .u64) y122.Words)])) (n':=(n+12)) (Fit2.of (Z6 hU rfl rfl ?_) (by omega)) ?_
   ·exact Ue
   refine Y2 (k:=12) (k':=9) hU [0,1,2,8,8,5,8,8,8,8,7,6] [0,1,2,0,0,5,11,10,0] rfl rfl rfl rfl ⟨rfl,rfl⟩ ?_
   exact Ue
  replace hs0_:=Zv c124 hs0_
  exact zEx hs0_
 rcases z125 with z125 | z125
 ·dsimp only [Jg] at hw h
  refine Ve hw ?_
  try simp only [Xh,Yw,↓reduceIte,Nat.reduceEqDiff]
  exact Zlr [.agg [(vI 0),nV,nV],(vB false)]
 dsimp only [Jg] at hw h
 refine Xe hw ?_
 try simp only [Xh,Yw,↓reduceIte,Nat.reduceEqDiff]
 refine zDs [2,3,4,6] [true,true,true,false,false,true,true,true,false] ?_
 refine zQd [3,4,6,62,63,64] [3,4,6,62,63,64] [false,true,true,false,false,true,true,true,false] ?_
 refine Q2 (E':=(⟨92,[],[(3,.ref (n+1) 0),(4,.ref (n+2) 0),(6,.ref (n+5) 0),(62,(sL Zi a0.Kids)),(63,(vI (a0.Kids.length:Int))),(64,(vI 0))]⟩:Env)) (O':=(Zy O n [none,some ⟨false,25,3,1,(Zp a1)⟩,some ⟨false,25,3,1,[(vI 0),nV,nV]⟩,none,none,some ⟨false,25,3,1,[(vI z125.1),(sL (eI .u64) z125.2.1),.row (n+9) z125.2.2.length]⟩,none,none,none,some (oR 25 3 Za z125.2.2),none])) (n':=(n+11)) ?_ ?_
 ·refine Fit2.trans (E':=(⟨92,[],[(3,.ref (n+1) 0),(4,.ref (n+2) 0),(6,.ref (n+5) 0),(62,(sL Zi a0.Kids)),(63,(vI (a0.Kids.length:Int))),(64,(vI 0))]⟩:Env)) (O':=(Zy O n [none,some ⟨false,25,3,1,(Zp a1)⟩,some ⟨false,25,3,1,[(vI 0),nV,nV]⟩,none,none,some ⟨false,25,3,1,[(vI z125.1),(sL (eI .u64) z125.2.1),.row (n+7) z125.2.2.length]⟩,none,some (oR 25 3 Za z125.2.2),none])) (n':=(n+9)) (Fit2.of (Z6 hU rfl rfl ?_) (by omega)) ?_
  ·exact Ue
  refine Y2 (k:=9) (k':=11) hU [10,1,2,10,10,5,10,9,10] [0,1,2,0,0,5,0,0,0,7,0] rfl rfl rfl rfl ⟨rfl,rfl⟩ ?_
  exact Ue
 obtain ⟨z137,hz137,h⟩:=bC h
 refine Zcn (J:=(Jg (fun z137=>JR n (⟨92,[],[(4,.ref (n+2) 0),(5,(vB false))]⟩:Env) (Zy O n [none,none,some ⟨false,25,3,1,[(vI 0),nV,nV]⟩,none,none,none,none,none,none]) (n+9)) (fun z137=>JX 2 n (⟨92,[],[(4,.ref (n+2) 0),(6,.ref (n+5) 0)]⟩:Env) (Zy O n [none,none,some ⟨false,25,3,1,[(vI 0),nV,nV]⟩,none,none,some ⟨false,25,3,1,[(vI z137.1),(sL (eI .u64) z137.2.1),.row (n+9) z137.2.2.length]⟩,none,none,none,some (oR 25 3 Za z137.2.2),none]) (n+11)))) (z:=z137) ?_ fun hw => ?_
 ·refine Xv hz137 (fun s1_=>⟨92,[],[(3,.ref (n+1) 0),(4,.ref (n+2) 0),(6,.ref (n+5) 0),(62,(sL Zi a0.Kids)),(63,(vI (a0.Kids.length:Int))),(64,(vI s1_.1))]⟩) (fun s1_=>(Zy O n [none,some ⟨false,25,3,1,(Zp a1)⟩,some ⟨false,25,3,1,[(vI 0),nV,nV]⟩,none,none,some ⟨false,25,3,1,[(vI s1_.2.1),(sL (eI .u64) s1_.2.2.1),.row (n+9) s1_.2.2.2.length]⟩,none,none,none,some (oR 25 3 Za s1_.2.2.2),none])) (Jg (fun z137=>JR n (⟨92,[],[(4,.ref (n+2) 0),(5,(vB false))]⟩:Env) (Zy O n [none,none,some ⟨false,25,3,1,[(vI 0),nV,nV]⟩,none,none,none,none,none,none]) (n+9)) (fun z137=>JX 2 n (⟨92,[],[(4,.ref (n+2) 0),(6,.ref (n+5) 0)]⟩:Env) (Zy O n [none,none,some ⟨false,25,3,1,[(vI 0),nV,nV]⟩,none,none,some ⟨false,25,3,1,[(vI z137.1),(sL (eI .u64) z137.2.1),.row (n+9) z137.2.2.length]⟩,none,none,none,some (oR 25 3 Za z137.2.2),none]) (n+11))) ?_
  intro s1_ x1_ hs1_
  unfold Zel at hs1_
  try dsimp only
  refine zQ [3,4,6,62,63,64,65] ?_
  refine Zn ?_
  refine Zt (t:=(decide (s1_.1 < (a0.Kids.length:Int)))) rfl (fun c136 => ?_) (fun c136 => ?_)
  ·replace hs1_:=Zw c136 hs1_
   refine Ud [3,4,6,62,63,64] [false,true,true,false,false,true,false,false,false,true,false] ?_
   refine Zn ?_
   refine Yx ?_
   refine Zn ?_
   obtain ⟨x127,hx127,ax127,bx127,cx127,hs1_⟩:=bE (f:=Zi) Zdp (fun _=>rfl) (by decide) hs1_
   refine Zdx [] ax127 bx127 cx127 ?_
   refine zDs [3,4,6,11,62,63,64] [false,true,true,false,false,true,false,false,false,true,false,true] ?_
   obtain ⟨y130,hy130,hs1_⟩:=bC hs1_
   obtain ⟨y131,hy131,hs1_⟩:=bC hs1_
   refine Qu Z5 (by kernel_rfl) [.low,.low,.low,.low,.low,.low,.low,.plain,.plain,.plain,.pass,.bar,.plain] (fun i=>i < (n+12)) [0,1,2,3,4,5,6,7,8,9,10,11,12] [.low,.low,.low,.low,.low,.low,.low,.plain,.plain,.plain,.pass,.bar,.plain] [] (by kernel_rfl) rfl ?_
   refine zS ?_
   refine zO ?_
   first | refine PCallA.of (fun _ _=>Zoe hy130) ?_ | refine PCall.of (Zoe hy130) ?_
   refine zS ?_
   refine zO ?_
   first | refine PCallA.of (fun _ _=>Ka hy131) ?_ | refine PCall.of (Ka hy131) ?_
   refine zS ?_
   refine zO ?_
   refine zDs [3,4,6,11,12,13,62,63,64] [false,true,true,false,false,true,false,false,false,true,false,true,true] ?_
   refine Zn ?_
   obtain ⟨y133,hy133,hs1_⟩:=bC hs1_
   refine zRo [none,none] ?_
   refine zG ?_
   refine zTs (Zd4 hy133) ?_
   refine zG ?_
   refine zD [3,4,6,11,12,62,63,64,84] [false,true,true,false,false,true,false,false,false,true,false,true,true] ?_
   refine Zt (t:=(cond y133 true (!y131.2))) rfl (fun c135 => ?_) (fun c135 => ?_)
   ·replace hs1_:=Zw c135 hs1_
    refine Zn ?_
    refine zRd [4,5] [false,false,true,false,false,false,false,false,false,false,false,false,false] ?_
    refine zW ?_
    exact zEy hs1_
   replace hs1_:=Zv c135 hs1_
   refine Ud [3,4,6,11,12,62,63,64] [false,true,true,false,false,true,false,false,false,true,false,true,true] ?_
   obtain ⟨y134,hy134,hs1_⟩:=bC hs1_
   refine zR ?_
   refine (Zoo (i0:=(n+5)) (j0_0:=(n+9)) (by omega) (by omega) (by omega) (by simp only [push_cast,seval,↓reduceIte,Ze,Y6,hN0,hN] <;> rfl) (by simp only [push_cast,seval,↓reduceIte,Ze,Y6,hN0,hN] <;> rfl) hy134).then ?_
   refine zS ?_
   refine zD [3,4,6,62,63,64] [false,true,true,false,false,true,false,false,false,false,false,false,false,true] ?_
   refine zR ?_
   have hs1_:=Option.some.inj hs1_;subst hs1_
   refine And.intro rfl ?_
   refine Fit2.trans (E':=(⟨92,[],[(3,.ref (n+1) 0),(4,.ref (n+2) 0),(6,.ref (n+5) 0),(62,(sL Zi a0.Kids)),(63,(vI (a0.Kids.length:Int))),(64,(vI (IntKind.i64.wrap (s1_.1+1))))]⟩:Env)) (O':=(Zy O n [none,some ⟨false,25,3,1,(Zp a1)⟩,some ⟨false,25,3,1,[(vI 0),nV,nV]⟩,none,none,some ⟨false,25,3,1,[(vI y134.Kind),(sL (eI .u64) y134.Words),.row (n+13) y134.Kids.length]⟩,none,none,none,none,none,none,none,some (oR 25 3 Za y134.Kids)])) (n':=(n+14)) (Fit2.of (Z6 hU rfl rfl ?_) (by omega)) ?_
   ·exact Ue
   refine Y2 (k:=14) (k':=11) hU [10,1,2,10,10,5,10,10,10,10,10,10,10,9] [0,1,2,0,0,5,0,0,0,13,0] rfl rfl rfl rfl ⟨rfl,rfl⟩ ?_
   exact Ue
  replace hs1_:=Zv c136 hs1_
  exact zEx hs1_
 rcases z137 with z137 | z137
 ·dsimp only [Jg] at hw h
  refine Ve hw ?_
  try simp only [Xh,Yw,↓reduceIte,Nat.reduceEqDiff]
  exact Zlr [.agg [(vI 0),nV,nV],(vB false)]
 dsimp only [Jg] at hw h
 refine Xe hw ?_
 try simp only [Xh,Yw,↓reduceIte,Nat.reduceEqDiff]
 refine zDs [4,6] [false,false,true,false,false,true,false,false,false,true,false] ?_
 refine zRd [4,5] [false,false,true,false,false,false,false,false,false,true,false] ?_
 exact Xg [.agg [(vI z137.1),(sL (eI .u64) z137.2.1),.row (n+9) z137.2.2.length],(vB true)]
theorem Zqk {Yy:(Zc→Zb→Option (Zb×Bool))} {Yf:(Zc→Zb→Option (Zb×Bool))} {Xa:(Zc→Zb→Option (Zb×Bool))} {Z9:(Zm→Zh→Option (Bool×Zm))} {Z7:(Zm→Zc→Option (Bool×Zm))} (Ka:V2 Yy) (Kz:Jr Yf) (Gl:V3 Xa) (J0:Qy Z9) (Q0:Qc Z7) {a0:Zc} {a1:Zb} {r:(Zb×Bool)} {O:Objs} {n:Nat} (h:Zhy Yy Yf Xa Z9 Z7 a0 a1=some r):GTo Try.prog 72 [.agg (Zk a0),.agg (Zp a1)] O n (.tup [.agg (Zp r.1),(vB r.2)]) O n:=by
 unfold Zhy at h
 refine zFn Try.call72 Try.func72 fun hU hN0 hN => ?_
 show W _ _ _ _ ⟨45,[],[(0,.agg (Zk a0)),(1,.agg (Zp a1))]⟩ (Zy O n []) _
 refine zQ [2,3,4] ?_
 refine Zn ?_
 obtain ⟨z2,hz2,h⟩:=bC h
 refine Xj (E':=⟨45,[],[(2,.ref n 0),(3,.ref (n+1) 0),(4,.ref (n+2) 0),(19,(vB z2))]⟩) (O':=(Zy O n [some ⟨false,30,11,1,(Zk a0)⟩,some ⟨false,25,3,1,(Zp a1)⟩,some ⟨false,25,3,1,[(vI 0),nV,nV]⟩])) (n0:=(n+3)) ?_ ?_
 ·rcases Bool.eq_false_or_eq_true (a1.Kind != a0.List_) with c5 | c5
  ·replace hz2:=Zw c5 hz2
   refine Zc1 [some false,some false,some false,some false] c5 ?_
   exact U5 hz2 c5
  replace hz2:=Zv c5 hz2
  obtain ⟨y4,hy4,hz2⟩:=bC hz2
  refine Zc1 [some true,some true,some true,some true] c5 ?_
  refine (Zul hy4).then ?_
  refine zX1 c5 ?_
  exact U5 hz2 c5
 refine Zt (t:=z2) rfl (fun c13 => ?_) (fun c13 => ?_)
 ·replace h:=Zw c13 h
  refine Zn ?_
  refine zRd [4,5] [false,false,true] ?_
  exact Xg [.agg [(vI 0),nV,nV],(vB false)]
 replace h:=Zv c13 h
 refine Ud [2,3,4] [true,true,true] ?_
 refine Zn ?_
 refine zRd [2,3,4,6] [true,true,true,true] ?_
 refine Zn ?_
 refine zQd [3,4,6,25,26,27] [3,4,6,25,26,27] [false,true,true,true] ?_
 refine Q2 (E':=(⟨45,[],[(3,.ref (n+1) 0),(4,.ref (n+2) 0),(6,.ref (n+3) 0),(25,(sL Zg a0.Ops)),(26,(vI (a0.Ops.length:Int))),(27,(vI 0))]⟩:Env)) (O':=(Zy O n [none,some ⟨false,25,3,1,(Zp a1)⟩,some ⟨false,25,3,1,[(vI 0),nV,nV]⟩,some ⟨false,131,2,1,[(sL Za a1.Kids),.row (n+4) ([]:List Zb).length]⟩,some (oR 25 3 Za ([]:List Zb)),none])) (n':=(n+6)) ?_ ?_
 ·refine Fit2.trans (E':=(⟨45,[],[(3,.ref (n+1) 0),(4,.ref (n+2) 0),(6,.ref (n+3) 0),(25,(sL Zg a0.Ops)),(26,(vI (a0.Ops.length:Int))),(27,(vI 0))]⟩:Env)) (O':=(Zy O n [none,some ⟨false,25,3,1,(Zp a1)⟩,some ⟨false,25,3,1,[(vI 0),nV,nV]⟩,some ⟨false,131,2,1,[(sL Za a1.Kids),nV]⟩])) (n':=(n+4)) (Fit2.of (Z6 hU rfl rfl ?_) (by omega)) ?_
  ·exact Ue
  refine Fit2.trans (Vb (p:=(n+3)) (k:=1) (q:=⟨false,131,2,1,[(sL Za a1.Kids),nV]⟩) 25 3 (by simp only [Vi,U6,List.getElem?_cons_zero,List.getElem?_cons_succ,Option.join_some,List.length_nil,Yg]) rfl (by omega)) ?_
  simp only [Y5,Yr,Vj,Kg,List.set_cons_zero,List.set_cons_succ,List.cons_append,List.nil_append,List.length_cons,List.length_nil,Nat.zero_add,Nat.reduceAdd,Nat.reduceLT,Nat.add_assoc]
  refine Y2 (k:=5) (k':=6) hU [5,1,2,3,4] [0,1,2,3,4,0] rfl rfl rfl rfl ⟨rfl,rfl⟩ ?_
  exact Ue
 obtain ⟨z12,hz12,h⟩:=bC h
 refine Zcn (J:=(Jg (fun z12=>JR n (⟨45,[],[(4,.ref (n+2) 0),(5,(vB false))]⟩:Env) (Zy O n [none,none,some ⟨false,25,3,1,[(vI 0),nV,nV]⟩,none]) (n+4)) (fun z12=>JX 0 n (⟨45,[],[(3,.ref (n+1) 0),(4,.ref (n+2) 0),(6,.ref (n+3) 0)]⟩:Env) (Zy O n [none,some ⟨false,25,3,1,(Zp a1)⟩,some ⟨false,25,3,1,[(vI 0),nV,nV]⟩,some ⟨false,131,2,1,[(sL Za z12.1),.row (n+4) z12.2.length]⟩,some (oR 25 3 Za z12.2),none]) (n+6)))) (z:=z12) ?_ fun hw => ?_
 ·refine Xv hz12 (fun s0_=>⟨45,[],[(3,.ref (n+1) 0),(4,.ref (n+2) 0),(6,.ref (n+3) 0),(25,(sL Zg a0.Ops)),(26,(vI (a0.Ops.length:Int))),(27,(vI s0_.1))]⟩) (fun s0_=>(Zy O n [none,some ⟨false,25,3,1,(Zp a1)⟩,some ⟨false,25,3,1,[(vI 0),nV,nV]⟩,some ⟨false,131,2,1,[(sL Za s0_.2.1),.row (n+4) s0_.2.2.length]⟩,some (oR 25 3 Za s0_.2.2),none])) (Jg (fun z12=>JR n (⟨45,[],[(4,.ref (n+2) 0),(5,(vB false))]⟩:Env) (Zy O n [none,none,some ⟨false,25,3,1,[(vI 0),nV,nV]⟩,none]) (n+4)) (fun z12=>JX 0 n (⟨45,[],[(3,.ref (n+1) 0),(4,.ref (n+2) 0),(6,.ref (n+3) 0)]⟩:Env) (Zy O n [none,some ⟨false,25,3,1,(Zp a1)⟩,some ⟨false,25,3,1,[(vI 0),nV,nV]⟩,some ⟨false,131,2,1,[(sL Za z12.1),.row (n+4) z12.2.length]⟩,some (oR 25 3 Za z12.2),none]) (n+6))) ?_
  intro s0_ x0_ hs0_
  unfold Zih at hs0_
  try dsimp only
  refine zQ [3,4,6,25,26,27,28] ?_
  refine Zn ?_
  refine Zt (t:=(decide (s0_.1 < (a0.Ops.length:Int)))) rfl (fun c11 => ?_) (fun c11 => ?_)
  ·replace hs0_:=Zw c11 hs0_
   refine Ud [3,4,6,25,26,27] [false,true,true,true,true,false] ?_
   refine Zn ?_
   refine Yx ?_
   refine Zn ?_
   obtain ⟨x7,hx7,ax7,bx7,cx7,hs0_⟩:=bE (f:=Zg) Ze2 (fun _=>rfl) (by decide) hs0_
   refine Zdx [] ax7 bx7 cx7 ?_
   refine zDs [3,4,6,8,25,26,27] [false,true,true,true,true,false,true] ?_
   obtain ⟨y9,hy9,hs0_⟩:=bC hs0_
   refine zR ?_
   refine (J0 (i0:=(n+3)) (j0_0:=(n+4)) (by omega) (by omega) (by omega) (by simp only [push_cast,seval,↓reduceIte,Ze,Y6,hN0,hN] <;> rfl) (by simp only [push_cast,seval,↓reduceIte,Ze,Y6,hN0,hN] <;> rfl) hy9).then ?_
   refine zS ?_
   refine zD [3,4,6,25,26,27,33] [false,true,true,true,false,false,false,true] ?_
   refine Zt (t:=(!y9.1)) rfl (fun c10 => ?_) (fun c10 => ?_)
   ·replace hs0_:=Zw c10 hs0_
    refine Zn ?_
    refine zRd [4,5] [false,false,true,false,false,false,false,false] ?_
    refine zW ?_
    exact zEy hs0_
   replace hs0_:=Zv c10 hs0_
   refine Ud [3,4,6,25,26,27] [false,true,true,true,false,false,false,true] ?_
   refine zR ?_
   have hs0_:=Option.some.inj hs0_;subst hs0_
   refine And.intro rfl ?_
   refine Fit2.trans (E':=(⟨45,[],[(3,.ref (n+1) 0),(4,.ref (n+2) 0),(6,.ref (n+3) 0),(25,(sL Zg a0.Ops)),(26,(vI (a0.Ops.length:Int))),(27,(vI (IntKind.i64.wrap (s0_.1+1))))]⟩:Env)) (O':=(Zy O n [none,some ⟨false,25,3,1,(Zp a1)⟩,some ⟨false,25,3,1,[(vI 0),nV,nV]⟩,some ⟨false,131,2,1,[(sL Za y9.2.left),.row (n+7) y9.2.out.length]⟩,none,none,none,some (oR 25 3 Za y9.2.out)])) (n':=(n+8)) (Fit2.of (Z6 hU rfl rfl ?_) (by omega)) ?_
   ·exact Ue
   refine Y2 (k:=8) (k':=6) hU [5,1,2,3,5,5,5,4] [0,1,2,3,7,0] rfl rfl rfl rfl ⟨rfl,rfl⟩ ?_
   exact Ue
  replace hs0_:=Zv c11 hs0_
  exact zEx hs0_
 rcases z12 with z12 | z12
 ·dsimp only [Jg] at hw h
  refine Ve hw ?_
  try simp only [Xh,Yw,↓reduceIte,Nat.reduceEqDiff]
  exact Zlr [.agg [(vI 0),nV,nV],(vB false)]
 dsimp only [Jg] at hw h
 refine Xe hw ?_
 try simp only [Xh,Yw,↓reduceIte,Nat.reduceEqDiff]
 refine zDs [3,4,6] [false,true,true,true,true,false] ?_
 refine Qu Z5 (by kernel_rfl) [.plain,.plain,.plain,.plain,.plain,.low,.low,.low,.low,.pass,.plain] (fun i=>i≠n+2) [0,1,2,3,4,5,6,7,8,9,10] [.plain,.plain,.plain,.plain,.plain,.low,.low,.low,.low,.pass,.plain] [] (by kernel_rfl) rfl ?_
 refine zS ?_
 refine zO ?_
 refine zD [4,5] [false,false,true,false,true,false] ?_
 exact Xg [.agg [(vI a1.Kind),nV,.row (n+4) z12.2.length],(vB ((z12.1.length:Int) == 0))]
theorem Zit {Yy:(Zc→Zb→Option (Zb×Bool))} {Yf:(Zc→Zb→Option (Zb×Bool))} {Xa:(Zc→Zb→Option (Zb×Bool))} {Z9:(Zm→Zh→Option (Bool×Zm))} {Z7:(Zm→Zc→Option (Bool×Zm))} (Ka:V2 Yy) (Kz:Jr Yf) (Gl:V3 Xa) (J0:Qy Z9) (Q0:Qc Z7) {a0:Zm} {a1:Zh} {r:(Bool×Zm)} {O:Objs} {n:Nat} {i0 j0_0:Nat} (hi0:i0 < n) (Vl:j0_0 < n) (Jb:i0≠j0_0) (ho0:O i0=some ⟨false,131,2,1,[(sL Za a0.left),.row j0_0 a0.out.length]⟩) (Vt:O j0_0=some (oR 25 3 Za a0.out)) (h:Zbz Yy Yf Xa Z9 Z7 a0 a1=some r):GTo Try.prog 117 [.ref i0 0,.agg (Y1 a1)] O n ((vB r.1)) (Zy ((O.upd j0_0 none).upd i0 (some ⟨false,131,2,1,[(sL Za r.2.left),.row n r.2.out.length]⟩)) n [some (oR 25 3 Za r.2.out)]) (n+1):=by
 unfold Zbz at h
 refine Zii Z5 Try.call117 Try.func117 rfl (Nat.le_of_ble_eq_true rfl) (by omega) fun hU => ?_
 have e0:=Jt (ba:=n) (E:=⟨99,[],Zda 0 [.ref i0 0,.agg [.val (.int .i64 a1.Kind),.val (.int .i64 a1.N),.sl a1.L.length (fl Za a1.L),.val (.int .i64 a1.E.Kind),.val (.int .i64 a1.E.Old.Kind),.sl a1.E.Old.Words.length (fl (eI .u64) a1.E.Old.Words),.sl a1.E.Old.Kids.length (fl Za a1.E.Old.Kids),.val (.int .i64 a1.E.New.Kind),.sl a1.E.New.Words.length (fl (eI .u64) a1.E.New.Words),.sl a1.E.New.Kids.length (fl Za a1.E.New.Kids),.sl a1.E.Words.length (fl Zf a1.E.Words),.sl a1.E.Kids.length (fl Zi a1.E.Kids),.val (.int .i64 a1.E.List_),.sl a1.E.Ops.length (fl Zg a1.E.Ops)]]⟩) (O:=(Zy O n [])) (n:=n) (i:=i0) (j:=j0_0) (k:=1) (len:=a0.out.length) (q:=⟨false,131,2,1,[.sl a0.left.length (fl Za a0.left),.row j0_0 a0.out.length]⟩) (qj:=⟨true,25,3,a0.out.length,fl Za a0.out⟩) (by rw [Yo _ hi0];first | exact ho0 | exact Yg _ _ _) rfl (by rw [Yo _ Vl];exact Vt) Jb (by omega)
 simp only [Yv _ _ Vl,Yv _ _ hi0,Y5,Yr,Qg,Ux Jb,List.set_cons_zero,List.set_cons_succ,List.cons_append,List.nil_append,List.length_cons,List.length_nil,Nat.zero_add,Nat.reduceAdd,Nat.add_assoc] at e0
 refine Q2 e0 ?_
 have hU:=(Und.drop hU j0_0)
 have hk0:∀ k,i0 < n+k:=fun k=>by omega
 have hN0:∀ o,Objs.upd (O.upd j0_0 none) i0 o n=none:=fun o=>Qd hU hi0 _ (Nat.le_refl _)
 have hN:∀ o k,Objs.upd (O.upd j0_0 none) i0 o (n+k)=none:=fun o k=>Qd hU hi0 _ (Nat.le_add_right _ _)
 show W _ _ _ _ ⟨99,[],[(0,.ref i0 0),(1,.agg (Y1 a1))]⟩ (Zy ((O.upd j0_0 none).upd i0 (some ⟨false,131,2,1,[(sL Za a0.left),.row n a0.out.length]⟩)) n [some (oR 25 3 Za a0.out)]) _
 refine Uz [0,3] hi0 hk0 ?_
 refine Zn ?_
 refine Uz [0,3,7] hi0 hk0 ?_
 refine Yx ?_
 refine Uz [0,3,7,8] hi0 hk0 ?_
 refine Zt (t:=(a1.Kind == 0)) rfl (fun c28 => ?_) (fun c28 => ?_)
 ·replace h:=Zw c28 h
  refine Zn ?_
  obtain ⟨z1,hz1,h⟩:=bC h
  refine Xj (E':=⟨99,[],[(0,.ref i0 0),(3,.ref (n+1) 0),(22,(vB z1))]⟩) (O':=(Zy ((O.upd j0_0 none).upd i0 (some ⟨false,131,2,1,[(sL Za a0.left),.row n a0.out.length]⟩)) n [some (oR 25 3 Za a0.out),some ⟨false,53,14,1,(Y1 a1)⟩])) (n0:=(n+2)) ?_ ?_
  ·rcases Bool.eq_false_or_eq_true (decide (a1.N < 0)) with c2 | c2
   ·replace hz1:=Zw c2 hz1
    refine Ql Z5 (by kernel_rfl) [some false,some false,some false,some false,some false,some false,some false,some false] (by kernel_rfl) ?_
    refine zX3 c2 hi0 hk0 ?_
    have hz1:=Option.some.inj hz1;subst hz1
    refine And.intro rfl (Fit2.of (Yb hU rfl rfl ?_) (by omega))
    exact Zxu c2 hi0 hk0
   replace hz1:=Zv c2 hz1
   refine Ql Z5 (by kernel_rfl) [some true,some true,some true,some true,some true,some true,some true,some true] (by kernel_rfl) ?_
   refine zX3 c2 hi0 hk0 ?_
   have hz1:=Option.some.inj hz1;subst hz1
   refine And.intro rfl (Fit2.of (Yb hU rfl rfl ?_) (by omega))
   exact Zxu c2 hi0 hk0
  refine Zt (t:=z1) rfl (fun c9 => ?_) (fun c9 => ?_)
  ·replace h:=Zw c9 h
   refine Uz [4] hi0 hk0 ?_
   refine zW ?_
   have h:=Option.some.inj h;subst h
   refine Qz (k:=1) (i:=i0) (q1:=⟨false,131,2,1,[(sL Za a0.left),.row n a0.out.length]⟩) (L3:=[some (oR 25 3 Za a0.out),none]) (E2:=(⟨99,[],[(4,(vB false))]⟩:Env)) (n3:=(n+2)) (.inr rfl) hU rfl [(vB false)] ?_ ?_
   ·refine Fit2.trans (E':=(⟨99,[],[(4,(vB false))]⟩:Env)) (O':=(Zy ((O.upd j0_0 none).upd i0 (some ⟨false,131,2,1,[(sL Za a0.left),.row n a0.out.length]⟩)) n [some (oR 25 3 Za a0.out),none])) (n':=(n+2)) (Fit2.of (Yb hU rfl rfl ?_) (by omega)) ?_
    ·exact Qo hi0 hk0
    refine X2 (k:=2) (k':=2) hU [0,1] [0,0] rfl rfl rfl rfl ⟨rfl,rfl⟩ ?_
    exact Qo hi0 hk0
   simp only [push_cast,seval,↓reduceIte,Ze,Try.results117,hi0,hk0,hN0,hN]
  replace h:=Zv c9 h
  refine Ud [0,3] [true,true] ?_
  refine Zn ?_
  obtain ⟨l5,al5,bl5,cl5,gl5,h⟩:=bS (lo:=none) (hi:=(some (.i64,a1.N))) (f:=Za) rfl rfl Zdq Uk (fun _=>rfl) h
  obtain ⟨l6,pl6,ql6,el6,h⟩:=bA (k:=l5.length) rfl h
  refine Qu Z5 (by kernel_rfl) [.plain,.plain,.plain,.plain,.plain,.plain,.plain,.plain,.plain,.plain,.plain,.plain,.pass,.plain,.plain,.bar] (fun i=>i≠n+0) [0,1,2,3,4,5,6,7,8,9,10,11,12,13,14,15] [.plain,.plain,.plain,.plain,.plain,.plain,.plain,.plain,.plain,.plain,.plain,.plain,.pass,.plain,.plain,.bar] [] (by kernel_rfl) rfl ?_
  simp only [push_cast,seval,↓reduceIte,Ze,al5,bl5,cl5,gl5,pl6,ql6,el6,hi0,hk0,hN0,hN]
  refine zO ?_
  refine Zah ⟨99,[],[(0,.ref i0 0),(3,.ref (n+1) 0)]⟩ (Zy ((O.upd j0_0 none).upd i0 (some ⟨false,131,2,1,[(sL Za a0.left),.row n l6.length]⟩)) n [some (oR 25 3 Za l6),some ⟨false,53,14,1,(Y1 a1)⟩]) (Yb hU rfl rfl ?_) ?_
  ·simp only [push_cast,seval,↓reduceIte,Ze,al5,bl5,cl5,gl5,pl6,ql6,el6,hi0,hk0,hN0,hN]
  refine Zn ?_
  obtain ⟨l8,al8,bl8,cl8,gl8,h⟩:=bS (lo:=(some (.i64,a1.N))) (hi:=none) (f:=Za) rfl rfl Zdq Uk (fun _=>rfl) h
  refine Zfi Z5 (by kernel_rfl) [false,false,false,false,false,false,false,false,false,false,true] [] (by kernel_rfl) ?_
  refine zX6 al8 bl8 cl8 gl8 hi0 hk0 ?_
  refine zD [] [true,false] ?_
  refine Uz [4] hi0 hk0 ?_
  refine zW ?_
  have h:=Option.some.inj h;subst h
  refine Qz (k:=1) (i:=i0) (q1:=⟨false,131,2,1,[(sL Za l8),.row n l6.length]⟩) (L3:=[some (oR 25 3 Za l6),none]) (E2:=(⟨99,[],[(4,(vB true))]⟩:Env)) (n3:=(n+2)) (.inr rfl) hU rfl [(vB true)] ?_ ?_
  ·refine Fit2.trans (E':=(⟨99,[],[(4,(vB true))]⟩:Env)) (O':=(Zy ((O.upd j0_0 none).upd i0 (some ⟨false,131,2,1,[(sL Za l8),.row n l6.length]⟩)) n [some (oR 25 3 Za l6),none])) (n':=(n+2)) (Fit2.of (Yb hU rfl rfl ?_) (by omega)) ?_
   ·exact Qo hi0 hk0
   refine X2 (k:=2) (k':=2) hU [0,1] [0,0] rfl rfl rfl rfl ⟨rfl,rfl⟩ ?_
   exact Qo hi0 hk0
  simp only [push_cast,seval,↓reduceIte,Ze,Try.results117,hi0,hk0,hN0,hN]
 replace h:=Zv c28 h
 refine Uz [0,3,7,48] hi0 hk0 ?_
 refine Zt (t:=(a1.Kind == 1)) rfl (fun c27 => ?_) (fun c27 => ?_)
 ·replace h:=Zw c27 h
  refine Uz [0,3,5] hi0 hk0 ?_
  refine Zn ?_
  obtain ⟨z12,hz12,h⟩:=bC h
  refine Xj (E':=⟨99,[],[(0,.ref i0 0),(5,(vI (a1.L.length:Int))),(71,(vB z12))]⟩) (O':=(Zy ((O.upd j0_0 none).upd i0 (some ⟨false,131,2,1,[(sL Za a0.left),.row n a0.out.length]⟩)) n [some (oR 25 3 Za a0.out),none])) (n0:=(n+2)) ?_ ?_
  ·rcases Bool.eq_false_or_eq_true (decide ((a0.left.length:Int) < (a1.L.length:Int))) with c17 | c17
   ·replace hz12:=Zw c17 hz12
    refine Ql Z5 (by kernel_rfl) [some false,some false,some false,some false,some false,some false,some false,some false,some false,some false] (by kernel_rfl) ?_
    refine zX3 c17 hi0 hk0 ?_
    have hz12:=Option.some.inj hz12;subst hz12
    refine And.intro rfl (Fit2.of (Yb hU rfl rfl ?_) (by omega))
    exact Zxu c17 hi0 hk0
   replace hz12:=Zv c17 hz12
   obtain ⟨l15,al15,bl15,cl15,gl15,hz12⟩:=bS (lo:=none) (hi:=(some (.i64,(a1.L.length:Int)))) (f:=Za) rfl rfl Zdq Uk (fun _=>rfl) hz12
   obtain ⟨y16,hy16,hz12⟩:=bC hz12
   refine Ql Z5 (by kernel_rfl) [some true,some true,some true,some true,some true,some true,some true,some true,some true,some true] (by kernel_rfl) ?_
   simp only [push_cast,seval,↓reduceIte,Ze,c17,al15,bl15,cl15,gl15,hi0,hk0,hN0,hN]
   refine PCall.of (X3 hy16) ?_
   simp only [push_cast,seval,↓reduceIte,Ze,c17,al15,bl15,cl15,gl15,hi0,hk0,hN0,hN]
   have hz12:=Option.some.inj hz12;subst hz12
   refine And.intro rfl (Fit2.of (Yb hU rfl rfl ?_) (by omega))
   simp only [push_cast,seval,↓reduceIte,Ze,c17,al15,bl15,cl15,gl15,hi0,hk0,hN0,hN]
  refine Zt (t:=z12) rfl (fun c20 => ?_) (fun c20 => ?_)
  ·replace h:=Zw c20 h
   refine Uz [4] hi0 hk0 ?_
   refine zW ?_
   have h:=Option.some.inj h;subst h
   refine Qz (k:=1) (i:=i0) (q1:=⟨false,131,2,1,[(sL Za a0.left),.row n a0.out.length]⟩) (L3:=[some (oR 25 3 Za a0.out),none]) (E2:=(⟨99,[],[(4,(vB false))]⟩:Env)) (n3:=(n+2)) (.inr rfl) hU rfl [(vB false)] ?_ ?_
   ·refine Fit2.trans (E':=(⟨99,[],[(4,(vB false))]⟩:Env)) (O':=(Zy ((O.upd j0_0 none).upd i0 (some ⟨false,131,2,1,[(sL Za a0.left),.row n a0.out.length]⟩)) n [some (oR 25 3 Za a0.out),none])) (n':=(n+2)) (Fit2.of (Yb hU rfl rfl ?_) (by omega)) ?_
    ·exact Qo hi0 hk0
    refine X2 (k:=2) (k':=2) hU [0,1] [0,0] rfl rfl rfl rfl ⟨rfl,rfl⟩ ?_
    exact Qo hi0 hk0
   simp only [push_cast,seval,↓reduceIte,Ze,Try.results117,hi0,hk0,hN0,hN]
  replace h:=Zv c20 h
  refine Ud [0,5] [true,false] ?_
  refine Zn ?_
  obtain ⟨l19,al19,bl19,cl19,gl19,h⟩:=bS (lo:=(some (.i64,(a1.L.length:Int)))) (hi:=none) (f:=Za) rfl rfl Zdq Uk (fun _=>rfl) h
  refine Z4r [] al19 bl19 cl19 gl19 hi0 hk0 ?_
  refine zD [] [true,false] ?_
  refine Uz [4] hi0 hk0 ?_
  refine zW ?_
  have h:=Option.some.inj h;subst h
  refine Qz (k:=1) (i:=i0) (q1:=⟨false,131,2,1,[(sL Za l19),.row n a0.out.length]⟩) (L3:=[some (oR 25 3 Za a0.out),none]) (E2:=(⟨99,[],[(4,(vB true))]⟩:Env)) (n3:=(n+2)) (.inr rfl) hU rfl [(vB true)] ?_ ?_
  ·refine Fit2.trans (E':=(⟨99,[],[(4,(vB true))]⟩:Env)) (O':=(Zy ((O.upd j0_0 none).upd i0 (some ⟨false,131,2,1,[(sL Za l19),.row n a0.out.length]⟩)) n [some (oR 25 3 Za a0.out),none])) (n':=(n+2)) (Fit2.of (Yb hU rfl rfl ?_) (by omega)) ?_
   ·exact Qo hi0 hk0
   refine X2 (k:=2) (k':=2) hU [0,1] [0,0] rfl rfl rfl rfl ⟨rfl,rfl⟩ ?_
   exact Qo hi0 hk0
  simp only [push_cast,seval,↓reduceIte,Ze,Try.results117,hi0,hk0,hN0,hN]
 replace h:=Zv c27 h
 refine Uz [0,3,7,81] hi0 hk0 ?_
 refine Zt (t:=(a1.Kind == 2)) rfl (fun c26 => ?_) (fun c26 => ?_)
 ·replace h:=Zw c26 h
  refine Zn ?_
  obtain ⟨l22,pl22,ql22,el22,h⟩:=bA (k:=a1.L.length) rfl h
  refine Qu Z5 (by kernel_rfl) [.plain,.plain,.plain,.plain,.plain,.plain,.plain,.pass,.plain,.plain,.bar] (fun i=>i≠n+0) [0,1,2,3,4,5,6,7,8,9,10] [.plain,.plain,.plain,.plain,.plain,.plain,.plain,.pass,.plain,.plain,.bar] [] (by kernel_rfl) rfl ?_
  refine zX5 pl22 ql22 el22 hi0 hk0 ?_
  refine zO ?_
  refine Zah ⟨99,[],[]⟩ (Zy ((O.upd j0_0 none).upd i0 (some ⟨false,131,2,1,[(sL Za a0.left),.row n l22.length]⟩)) n [some (oR 25 3 Za l22),none]) (Yb hU rfl rfl ?_) ?_
  ·exact Z8l pl22 ql22 el22 hi0 hk0
  refine Uz [4] hi0 hk0 ?_
  refine zW ?_
  have h:=Option.some.inj h;subst h
  refine Qz (k:=1) (i:=i0) (q1:=⟨false,131,2,1,[(sL Za a0.left),.row n l22.length]⟩) (L3:=[some (oR 25 3 Za l22),none]) (E2:=(⟨99,[],[(4,(vB true))]⟩:Env)) (n3:=(n+2)) (.inr rfl) hU rfl [(vB true)] ?_ ?_
  ·refine Fit2.trans (E':=(⟨99,[],[(4,(vB true))]⟩:Env)) (O':=(Zy ((O.upd j0_0 none).upd i0 (some ⟨false,131,2,1,[(sL Za a0.left),.row n l22.length]⟩)) n [some (oR 25 3 Za l22),none])) (n':=(n+2)) (Fit2.of (Yb hU rfl rfl ?_) (by omega)) ?_
   ·exact Qo hi0 hk0
   refine X2 (k:=2) (k':=2) hU [0,1] [0,0] rfl rfl rfl rfl ⟨rfl,rfl⟩ ?_
   exact Qo hi0 hk0
  simp only [push_cast,seval,↓reduceIte,Ze,Try.results117,hi0,hk0,hN0,hN]
 replace h:=Zv c26 h
 refine Uz [0,3,93] hi0 hk0 ?_
 refine Zt (t:=(a1.Kind == 3)) rfl (fun c25 => ?_) (fun c25 => ?_)
 ·replace h:=Zw c25 h
  refine Zn ?_
  obtain ⟨y24,hy24,h⟩:=bC h
  refine V0 [] hi0 hk0 ?_
  refine (Q0 (i0:=i0) (j0_0:=n) (by omega) (by omega) (by omega) (by simp only [push_cast,seval,↓reduceIte,Ze,Y6,hi0,hk0,hN0,hN] <;> rfl) (by simp only [push_cast,seval,↓reduceIte,Ze,Y6,hi0,hk0,hN0,hN] <;> rfl) hy24).then ?_
  refine zX2 hi0 hk0 ?_
  refine zD [4] [false,false,true] ?_
  refine zW ?_
  have h:=Option.some.inj h;subst h
  refine Qz (k:=1) (i:=i0) (q1:=⟨false,131,2,1,[(sL Za y24.2.left),.row n y24.2.out.length]⟩) (L3:=[some (oR 25 3 Za y24.2.out),none]) (E2:=(⟨99,[],[(4,(vB y24.1))]⟩:Env)) (n3:=(n+2)) (.inr rfl) hU rfl [(vB y24.1)] ?_ ?_
  ·refine Fit2.trans (E':=(⟨99,[],[(4,(vB y24.1))]⟩:Env)) (O':=(Zy ((O.upd j0_0 none).upd i0 (some ⟨false,131,2,1,[(sL Za y24.2.left),.row (n+2) y24.2.out.length]⟩)) n [none,none,some (oR 25 3 Za y24.2.out)])) (n':=(n+3)) (Fit2.of (Yb hU rfl rfl ?_) (by omega)) ?_
   ·exact Qo hi0 hk0
   refine X2 (k:=3) (k':=2) hU [1,1,0] [2,0] rfl rfl rfl rfl ⟨rfl,rfl⟩ ?_
   exact Qo hi0 hk0
  simp only [push_cast,seval,↓reduceIte,Ze,Try.results117,hi0,hk0,hN0,hN]
 replace h:=Zv c25 h
 refine Ud [] [true,false] ?_
 refine Uz [4] hi0 hk0 ?_
 refine zW ?_
 have h:=Option.some.inj h;subst h
 refine Qz (k:=1) (i:=i0) (q1:=⟨false,131,2,1,[(sL Za a0.left),.row n a0.out.length]⟩) (L3:=[some (oR 25 3 Za a0.out),none]) (E2:=(⟨99,[],[(4,(vB false))]⟩:Env)) (n3:=(n+2)) (.inr rfl) hU rfl [(vB false)] ?_ ?_
 ·refine Fit2.trans (E':=(⟨99,[],[(4,(vB false))]⟩:Env)) (O':=(Zy ((O.upd j0_0 none).upd i0 (some ⟨false,131,2,1,[(sL Za a0.left),.row n a0.out.length]⟩)) n [some (oR 25 3 Za a0.out),none])) (n':=(n+2)) (Fit2.of (Yb hU rfl rfl ?_) (by omega)) ?_
  ·exact Qo hi0 hk0
  refine X2 (k:=2) (k':=2) hU [0,1] [0,0] rfl rfl rfl rfl ⟨rfl,rfl⟩ ?_
  exact Qo hi0 hk0
 simp only [push_cast,seval,↓reduceIte,Ze,Try.results117,hi0,hk0,hN0,hN]
theorem Zg5 {Yy:(Zc→Zb→Option (Zb×Bool))} {Yf:(Zc→Zb→Option (Zb×Bool))} {Xa:(Zc→Zb→Option (Zb×Bool))} {Z9:(Zm→Zh→Option (Bool×Zm))} {Z7:(Zm→Zc→Option (Bool×Zm))} (Ka:V2 Yy) (Kz:Jr Yf) (Gl:V3 Xa) (J0:Qy Z9) (Q0:Qc Z7) {a0:Zm} {a1:Zc} {r:(Bool×Zm)} {O:Objs} {n:Nat} {i0 j0_0:Nat} (hi0:i0 < n) (Vl:j0_0 < n) (Jb:i0≠j0_0) (ho0:O i0=some ⟨false,131,2,1,[(sL Za a0.left),.row j0_0 a0.out.length]⟩) (Vt:O j0_0=some (oR 25 3 Za a0.out)) (h:U7 Yy Yf Xa Z9 Z7 a0 a1=some r):GTo Try.prog 128 [.ref i0 0,.agg (Zk a1)] O n ((vB r.1)) (Zy ((O.upd j0_0 none).upd i0 (some ⟨false,131,2,1,[(sL Za r.2.left),.row n r.2.out.length]⟩)) n [some (oR 25 3 Za r.2.out)]) (n+1):=by
 unfold U7 at h
 refine Zii Z5 Try.call128 Try.func128 rfl (Nat.le_of_ble_eq_true rfl) (by omega) fun hU => ?_
 have e0:=Jt (ba:=n) (E:=⟨44,[],Zda 0 [.ref i0 0,.agg [.val (.int .i64 a1.Kind),.val (.int .i64 a1.Old.Kind),.sl a1.Old.Words.length (fl (eI .u64) a1.Old.Words),.sl a1.Old.Kids.length (fl Za a1.Old.Kids),.val (.int .i64 a1.New.Kind),.sl a1.New.Words.length (fl (eI .u64) a1.New.Words),.sl a1.New.Kids.length (fl Za a1.New.Kids),.sl a1.Words.length (fl Zf a1.Words),.sl a1.Kids.length (fl Zi a1.Kids),.val (.int .i64 a1.List_),.sl a1.Ops.length (fl Zg a1.Ops)]]⟩) (O:=(Zy O n [])) (n:=n) (i:=i0) (j:=j0_0) (k:=1) (len:=a0.out.length) (q:=⟨false,131,2,1,[.sl a0.left.length (fl Za a0.left),.row j0_0 a0.out.length]⟩) (qj:=⟨true,25,3,a0.out.length,fl Za a0.out⟩) (by rw [Yo _ hi0];first | exact ho0 | exact Yg _ _ _) rfl (by rw [Yo _ Vl];exact Vt) Jb (by omega)
 simp only [Yv _ _ Vl,Yv _ _ hi0,Y5,Yr,Qg,Ux Jb,List.set_cons_zero,List.set_cons_succ,List.cons_append,List.nil_append,List.length_cons,List.length_nil,Nat.zero_add,Nat.reduceAdd,Nat.add_assoc] at e0
 refine Q2 e0 ?_
 have hU:=(Und.drop hU j0_0)
 have hk0:∀ k,i0 < n+k:=fun k=>by omega
 have hN0:∀ o,Objs.upd (O.upd j0_0 none) i0 o n=none:=fun o=>Qd hU hi0 _ (Nat.le_refl _)
 have hN:∀ o k,Objs.upd (O.upd j0_0 none) i0 o (n+k)=none:=fun o k=>Qd hU hi0 _ (Nat.le_add_right _ _)
 show W _ _ _ _ ⟨44,[],[(0,.ref i0 0),(1,.agg (Zk a1))]⟩ (Zy ((O.upd j0_0 none).upd i0 (some ⟨false,131,2,1,[(sL Za a0.left),.row n a0.out.length]⟩)) n [some (oR 25 3 Za a0.out)]) _
 refine Uz [0,3] hi0 hk0 ?_
 refine Zn ?_
 refine Uz [0,3,12] hi0 hk0 ?_
 refine Zt (t:=((a0.left.length:Int) == 0)) rfl (fun c13 => ?_) (fun c13 => ?_)
 ·replace h:=Zw c13 h
  refine Uz [4] hi0 hk0 ?_
  refine zW ?_
  have h:=Option.some.inj h;subst h
  refine Qz (k:=1) (i:=i0) (q1:=⟨false,131,2,1,[(sL Za a0.left),.row n a0.out.length]⟩) (L3:=[some (oR 25 3 Za a0.out),none]) (E2:=(⟨44,[],[(4,(vB false))]⟩:Env)) (n3:=(n+2)) (.inr rfl) hU rfl [(vB false)] ?_ ?_
  ·refine Fit2.trans (E':=(⟨44,[],[(4,(vB false))]⟩:Env)) (O':=(Zy ((O.upd j0_0 none).upd i0 (some ⟨false,131,2,1,[(sL Za a0.left),.row n a0.out.length]⟩)) n [some (oR 25 3 Za a0.out),none])) (n':=(n+2)) (Fit2.of (Yb hU rfl rfl ?_) (by omega)) ?_
   ·exact Qo hi0 hk0
   refine X2 (k:=2) (k':=2) hU [0,1] [0,0] rfl rfl rfl rfl ⟨rfl,rfl⟩ ?_
   exact Qo hi0 hk0
  simp only [push_cast,seval,↓reduceIte,Ze,Try.results128,hi0,hk0,hN0,hN]
 replace h:=Zv c13 h
 refine Ud [0,3] [true,true] ?_
 refine Zn ?_
 obtain ⟨x3,hx3,ax3,bx3,cx3,h⟩:=bE (f:=Za) Uk (fun _=>rfl) (by decide) h
 obtain ⟨y4,hy4,h⟩:=bC h
 refine Qu Z5 (by kernel_rfl) [.low,.plain,.low,.low,.low,.low,.low,.low,.plain,.plain,.plain,.pass,.bar,.plain] (fun i=>i < (n+2)) [0,1,2,3,4,5,6,7,8,9,10,11,12,13] [.low,.plain,.low,.low,.low,.low,.low,.low,.plain,.plain,.plain,.pass,.bar,.plain] [] (by kernel_rfl) rfl ?_
 refine zF5 ax3 bx3 cx3 hi0 hk0 ?_
 refine zO ?_
 first | refine PCallA.of (fun _ _=>Ka hy4) ?_ | refine PCall.of (Ka hy4) ?_
 refine zF5 ax3 bx3 cx3 hi0 hk0 ?_
 refine zO ?_
 refine zDs [0,5,6] [true,false,true] ?_
 obtain ⟨l8,pl8,ql8,el8,h⟩:=bA (k:=1) rfl h
 obtain ⟨x9,hx9,ax9,bx9,cx9,h⟩:=bE (f:=Za) Uk (fun _=>rfl) (by decide) h
 have gu10:Q4 (fl Za a0.out++[.val (.int .i64 0),.val (.slice none 0 0),.val (.slice none 0 0)]) [.val (.int .i64 y4.1.Kind),.sl y4.1.Words.length (fl (eI .u64) y4.1.Words),.sl y4.1.Kids.length (fl Za y4.1.Kids)] (List.length a0.out * 3)=some (fl Za a0.out++[.val (.int .i64 y4.1.Kind),.sl y4.1.Words.length (fl (eI .u64) y4.1.Words),.sl y4.1.Kids.length (fl Za y4.1.Kids)]):=U0 (f:=Za) (sz:=3) (fun _=>rfl) rfl rfl
 refine Qu Z5 (by kernel_rfl) [.plain,.low,.low,.low,.low,.low,.pass,.bar,.shp,.fill true,.shp,.shp,.fill false] (fun i=>i < (n+3)) [0,1,2,3,4,5,6,7,8,9,10,11,12] [.plain,.low,.low,.low,.low,.low,.pass,.bar,.shp,.fill true,.shp,.shp,.fill false] [] (by kernel_rfl) rfl ?_
 refine zF9 pl8 ql8 el8 ax9 bx9 cx9 gu10 hi0 hk0 ?_
 refine zO ?_
 refine Zah ⟨44,[],[(0,.ref i0 0),(6,(vB y4.2))]⟩ (Zy ((O.upd j0_0 none).upd i0 (some ⟨false,131,2,1,[(sL Za a0.left),.row n (a0.out++[y4.1]).length]⟩)) n [some (oR 25 3 Za (a0.out++[y4.1])),none,none,none]) (Yb hU rfl rfl ?_) ?_
 ·exact Zv6 pl8 ql8 el8 ax9 bx9 cx9 gu10 hi0 hk0
 refine Zn ?_
 obtain ⟨l12,al12,bl12,cl12,gl12,h⟩:=bS (lo:=(some (.i64,1))) (hi:=none) (f:=Za) rfl rfl Zdq Uk (fun _=>rfl) h
 refine Z4r [] al12 bl12 cl12 gl12 hi0 hk0 ?_
 refine zD [6] [true,false,false,false] ?_
 refine Uz [4] hi0 hk0 ?_
 refine zW ?_
 have h:=Option.some.inj h;subst h
 refine Qz (k:=1) (i:=i0) (q1:=⟨false,131,2,1,[(sL Za l12),.row n (a0.out++[y4.1]).length]⟩) (L3:=[some (oR 25 3 Za (a0.out++[y4.1])),none]) (E2:=(⟨44,[],[(4,(vB y4.2))]⟩:Env)) (n3:=(n+2)) (.inr rfl) hU rfl [(vB y4.2)] ?_ ?_
 ·refine Fit2.trans (E':=(⟨44,[],[(4,(vB y4.2))]⟩:Env)) (O':=(Zy ((O.upd j0_0 none).upd i0 (some ⟨false,131,2,1,[(sL Za l12),.row n (a0.out++[y4.1]).length]⟩)) n [some (oR 25 3 Za (a0.out++[y4.1])),none,none,none])) (n':=(n+4)) (Fit2.of (Yb hU rfl rfl ?_) (by omega)) ?_
  ·exact Qo hi0 hk0
  refine X2 (k:=4) (k':=2) hU [0,1,1,1] [0,0] rfl rfl rfl rfl ⟨rfl,rfl⟩ ?_
  exact Qo hi0 hk0
 simp only [push_cast,seval,↓reduceIte,Ze,Try.results128,hi0,hk0,hN0,hN]
theorem Znc:∀ k,(V2 ((Yd k).1))∧(Jr ((Yd k).2.1))∧(V3 ((Yd k).2.2.1))∧(Qy ((Yd k).2.2.2.1))∧(Qc ((Yd k).2.2.2.2)):=fun k=>by
 induction k with
 | zero=>exact ⟨@fun a0 a1 r O n h=>(nomatch (show (none:Option _)=some _ from h)),@fun a0 a1 r O n h=>(nomatch (show (none:Option _)=some _ from h)),@fun a0 a1 r O n h=>(nomatch (show (none:Option _)=some _ from h)),@fun a0 a1 r O n i0 j0_0 hi0 Vl Jb ho0 Vt h=>(nomatch (show (none:Option _)=some _ from h)),@fun a0 a1 r O n i0 j0_0 hi0 Vl Jb ho0 Vt h=>(nomatch (show (none:Option _)=some _ from h))⟩
 | succ k ih=>exact ⟨@fun a0 a1 r O n h=>Zqj (ih.1) (ih.2.1) (ih.2.2.1) (ih.2.2.2.1) (ih.2.2.2.2)  h,@fun a0 a1 r O n h=>Zj7 (ih.1) (ih.2.1) (ih.2.2.1) (ih.2.2.2.1) (ih.2.2.2.2)  h,@fun a0 a1 r O n h=>Zqk (ih.1) (ih.2.1) (ih.2.2.1) (ih.2.2.2.1) (ih.2.2.2.2)  h,@fun a0 a1 r O n i0 j0_0 hi0 Vl Jb ho0 Vt h=>Zit (ih.1) (ih.2.1) (ih.2.2.1) (ih.2.2.2.1) (ih.2.2.2.2) hi0 Vl Jb ho0 Vt h,@fun a0 a1 r O n i0 j0_0 hi0 Vl Jb ho0 Vt h=>Zg5 (ih.1) (ih.2.1) (ih.2.2.1) (ih.2.2.2.1) (ih.2.2.2.2) hi0 Vl Jb ho0 Vt h⟩
theorem Zsd {a0:Zc} {a1:Zb} {r:(Zb×Bool)} {O:Objs} {n:Nat} (h:Zl5 a0 a1=some r):GTo Try.prog 37 [.agg (Zk a0),.agg (Zp a1)] O n (.tup [.agg (Zp r.1),(vB r.2)]) O n:=by
 obtain ⟨k,hk⟩:=Zdf h
 exact (Znc k).1  hk
def Zjc (U3:(Zb→Option Zb)):Prop:=∀ {a0:Zb} {r:Zb} {O:Objs} {n:Nat},U3 a0=some r→GTo Try.prog 38 [.agg (Zp a0)] O n (.agg (Zp r)) O n
theorem Zsf {U3:(Zb→Option Zb)} (Zqi:Zjc U3) {a0:Zb} {r:Zb} {O:Objs} {n:Nat} (h:Zem U3 a0=some r):GTo Try.prog 38 [.agg (Zp a0)] O n (.agg (Zp r)) O n:=by
 unfold Zem at h
 refine zFn Try.call38 Try.func38 fun hU hN0 hN => ?_
 show W _ _ _ _ ⟨49,[],[(0,.agg (Zp a0))]⟩ (Zy O n []) _
 refine zQ [1,2] ?_
 refine Zn ?_
 refine zQ [1,2,10] ?_
 refine Zt (t:=(a0.Kind == 0)) rfl (fun c15 => ?_) (fun c15 => ?_)
 ·replace h:=Zw c15 h
  refine Zn ?_
  refine zRd [2] [false,true] ?_
  exact Xg [.agg [(vI 0),nV,nV]]
 replace h:=Zv c15 h
 refine Ud [1,2] [true,true] ?_
 refine Zmy [1,2,3,4] (Ql Z5 (by kernel_rfl) [] (by kernel_rfl) ?_)
 refine zS ?_
 obtain ⟨z1,hz1,h⟩:=bC h
 refine Xj (E':=⟨49,[],[(1,.ref n 0),(2,.ref (n+1) 0),(3,(sL (eI .u64) z1.1)),(4,(sL Za z1.2))]⟩) (O':=(Zy O n [some ⟨false,25,3,1,(Zp a0)⟩,some ⟨false,25,3,1,[(vI 0),nV,nV]⟩])) (n0:=(n+2)) ?_ ?_
 ·refine zQ [1,2,3,4,18] ?_
  refine Zt (t:=(a0.Kind == 1)) rfl (fun c4 => ?_) (fun c4 => ?_)
  ·replace hz1:=Zw c4 hz1
   obtain ⟨y2,hy2,hz1⟩:=bC hz1
   obtain ⟨y3,hy3,hz1⟩:=bC hz1
   refine zC (Ua hy2) ?_
   refine zTs (Zd6 hy3) ?_
   exact zEn hz1
  replace hz1:=Zv c4 hz1
  refine zK ?_
  exact zEn hz1
 refine Zn ?_
 refine zRd [2,4,5] [false,true,true] ?_
 obtain ⟨z5,hz5,h⟩:=bC h
 refine Xj (E':=⟨49,[],[(2,.ref (n+1) 0),(4,(sL Za z1.2)),(5,.ref (n+2) 0)]⟩) (O':=(Zy O n [none,some ⟨false,25,3,1,[(vI 0),nV,nV]⟩,some ⟨false,25,3,1,[(vI a0.Kind),(sL (eI .u64) z1.1),.row (n+4) z5.length]⟩,none,some (oR 25 3 Za z5),none])) (n0:=(n+6)) ?_ ?_
 ·refine zQ [2,4,5,29] ?_
  refine Zt (t:=(decide (0 < (z1.2.length:Int)))) rfl (fun c7 => ?_) (fun c7 => ?_)
  ·replace hz5:=Zw c7 hz5
   obtain ⟨l6,al6,bl6,cl6,el6,hz5⟩:=bM2 (c:=56) rfl hz5
   have nl6:Int.toNat (z1.2.length:Int)=List.length l6:=by rw [el6,List.length_replicate]
   have fl6:∀ O O' n,Uy O O' n (List.replicate (List.length l6) [.val (.int .i64 0),.val (.slice none 0 0),.val (.slice none 0 0)]).flatten (fl Za l6)=True:=fun O O' n=>by rw [← nl6,el6];exact eq_true (Zxr (by simp only [push_cast,seval,↓reduceIte,Ze]) _)
   clear el6
   refine Yz Z5 [] ?_
   simp only [push_cast,seval,↓reduceIte,Ze,al6,bl6,cl6,fl6,nl6,hN0,hN]
   have hz5:=Option.some.inj hz5;subst hz5
   refine And.intro rfl ?_
   refine Fit2.trans (E':=(⟨49,[],[(2,.ref (n+1) 0),(4,(sL Za z1.2)),(5,.ref (n+2) 0)]⟩:Env)) (O':=(Zy O n [none,some ⟨false,25,3,1,[(vI 0),nV,nV]⟩,some ⟨false,25,3,1,[(vI a0.Kind),(sL (eI .u64) z1.1),.row (n+3) l6.length]⟩,some (oR 25 3 Za l6)])) (n':=(n+4)) (Fit2.of (Z6 hU rfl rfl ?_) (by omega)) ?_
   ·simp only [push_cast,seval,↓reduceIte,Ze,al6,bl6,cl6,fl6,nl6,hN0,hN]
   refine Y2 (k:=4) (k':=6) hU [5,1,2,4] [0,1,2,0,3,0] rfl rfl rfl rfl ⟨rfl,rfl⟩ ?_
   exact Ue
  replace hz5:=Zv c7 hz5
  refine zK ?_
  have hz5:=Option.some.inj hz5;subst hz5
  refine And.intro rfl ?_
  refine Fit2.trans (E':=(⟨49,[],[(2,.ref (n+1) 0),(4,(sL Za z1.2)),(5,.ref (n+2) 0)]⟩:Env)) (O':=(Zy O n [none,some ⟨false,25,3,1,[(vI 0),nV,nV]⟩,some ⟨false,25,3,1,[(vI a0.Kind),(sL (eI .u64) z1.1),nV]⟩])) (n':=(n+3)) (Fit2.of (Z6 hU rfl rfl ?_) (by omega)) ?_
  ·exact Ue
  refine Fit2.trans (Vb (p:=(n+2)) (k:=2) (q:=⟨false,25,3,1,[(vI a0.Kind),(sL (eI .u64) z1.1),nV]⟩) 25 3 (by simp only [Vi,U6,List.getElem?_cons_zero,List.getElem?_cons_succ,Option.join_some,List.length_nil,Yg]) rfl (by omega)) ?_
  simp only [Y5,Yr,Vj,Kg,List.set_cons_zero,List.set_cons_succ,List.cons_append,List.nil_append,List.length_cons,List.length_nil,Nat.zero_add,Nat.reduceAdd,Nat.reduceLT,Nat.add_assoc]
  refine Y2 (k:=4) (k':=6) hU [5,1,2,4] [0,1,2,0,3,0] rfl rfl rfl rfl ⟨rfl,rfl⟩ ?_
  exact Ue
 refine Zn ?_
 refine zQd [2,5,34,35,36] [2,5,34,35,36] [false,true,true,false,true,false] ?_
 obtain ⟨z14,hz14,h⟩:=bC h
 refine Xe (E':=⟨49,[],[(2,.ref (n+1) 0),(5,.ref (n+2) 0)]⟩) (O':=(Zy O n [none,some ⟨false,25,3,1,[(vI 0),nV,nV]⟩,some ⟨false,25,3,1,[(vI a0.Kind),(sL (eI .u64) z1.1),.row (n+4) z14.length]⟩,none,some (oR 25 3 Za z14),none])) (n0:=(n+6)) ?_ ?_
 ·refine Xv hz14 (fun s0_=>⟨49,[],[(2,.ref (n+1) 0),(5,.ref (n+2) 0),(34,(sL Za z1.2)),(35,(vI (z1.2.length:Int))),(36,(vI s0_.1))]⟩) (fun s0_=>(Zy O n [none,some ⟨false,25,3,1,[(vI 0),nV,nV]⟩,some ⟨false,25,3,1,[(vI a0.Kind),(sL (eI .u64) z1.1),.row (n+4) s0_.2.length]⟩,none,some (oR 25 3 Za s0_.2),none])) (fun z14=>JX 0 n (⟨49,[],[(2,.ref (n+1) 0),(5,.ref (n+2) 0)]⟩:Env) (Zy O n [none,some ⟨false,25,3,1,[(vI 0),nV,nV]⟩,some ⟨false,25,3,1,[(vI a0.Kind),(sL (eI .u64) z1.1),.row (n+4) z14.length]⟩,none,some (oR 25 3 Za z14),none]) (n+6)) ?_
  intro s0_ x0_ hs0_
  unfold Up at hs0_
  try dsimp only
  refine zQ [2,5,34,35,36,37] ?_
  refine Zn ?_
  refine Zt (t:=(decide (s0_.1 < (z1.2.length:Int)))) rfl (fun c13 => ?_) (fun c13 => ?_)
  ·replace hs0_:=Zw c13 hs0_
   refine Ud [2,5,34,35,36] [false,true,true,false,true,false] ?_
   refine Zn ?_
   refine Yx ?_
   refine Zn ?_
   obtain ⟨x9,hx9,ax9,bx9,cx9,hs0_⟩:=bE (f:=Za) Uk (fun _=>rfl) (by decide) hs0_
   refine Zdx [] ax9 bx9 cx9 ?_
   refine zD [2,5,6,7,34,35,36] [false,true,true,false,true,false,true] ?_
   obtain ⟨y10,hy10,hs0_⟩:=bC hs0_
   obtain ⟨x11,hx11,ax11,bx11,cx11,hs0_⟩:=bE (f:=Za) Uk (fun _=>rfl) (by decide) hs0_
   have gu12:Q4 (fl Za s0_.2) [.val (.int .i64 y10.Kind),.sl y10.Words.length (fl (eI .u64) y10.Words),.sl y10.Kids.length (fl Za y10.Kids)] (Int.toNat s0_.1 * 3)=some (fl Za (Zdo s0_.2 s0_.1 y10)):=(congrArg (fun c=>Q4 (fl Za s0_.2) c (Int.toNat s0_.1 * 3)) (show [.val (.int .i64 y10.Kind),.sl y10.Words.length (fl (eI .u64) y10.Words),.sl y10.Kids.length (fl Za y10.Kids)]=Za y10 from by simp only [Za,Xf,eI,eB,eS,eL])).trans (Zbt (f:=Za) (ti:=⟨.bool,3,0,[],false⟩) (x:=y10) (fun _=>rfl) (Uq hx11))
   refine Zfi Z5 (by kernel_rfl) [false,false,false,false,false,false,true] [] (by kernel_rfl) ?_
   refine zF4 ax11 bx11 cx11 gu12 ?_
   refine PCall.of (Zqi hy10) ?_
   refine zF4 ax11 bx11 cx11 gu12 ?_
   refine zD [2,5,34,35,36] [false,true,true,false,true,false,false] ?_
   refine zR ?_
   exact zEn hs0_
  replace hs0_:=Zv c13 hs0_
  exact zEx hs0_
 try simp only [Xh,Yw,↓reduceIte,Nat.reduceEqDiff]
 refine zDs [2,5] [false,true,true,false,true,false] ?_
 refine zRd [2] [false,true,false,false,true,false] ?_
 exact Xg [.agg [(vI a0.Kind),(sL (eI .u64) z1.1),.row (n+4) z14.length]]
theorem Zol:∀ k,(Zjc (Vk k)):=fun k=>by
 induction k with
 | zero=>exact @fun a0 r O n h=>(nomatch (show (none:Option _)=some _ from h))
 | succ k ih=>exact @fun a0 r O n h=>Zsf (ih)  h
theorem Ge {a0:Zb} {r:Zb} {O:Objs} {n:Nat} (h:U1 a0=some r):GTo Try.prog 38 [.agg (Zp a0)] O n (.agg (Zp r)) O n:=by
 obtain ⟨k,hk⟩:=Zdf h
 exact (Zol k)  hk
theorem Uh {a0:Zc} {a1:Zb} {r:(Zb×Bool)} {O:Objs} {n:Nat} (h:Zbv a0 a1=some r):GTo Try.prog 16 [.agg (Zk a0),.agg (Zp a1)] O n (.tup [.agg (Zp r.1),(vB r.2)]) O n:=by
 unfold Zbv at h
 refine zFn Try.call16 Try.func16 fun hU hN0 hN => ?_
 show W _ _ _ _ ⟨19,[],[(0,.agg (Zk a0)),(1,.agg (Zp a1))]⟩ (Zy O n []) _
 refine zQ [2,3,4] ?_
 refine Zn ?_
 obtain ⟨y2,hy2,h⟩:=bC h
 refine zCd (Zsd hy2) [4,6,7] [false,false,true,true] ?_
 refine Zn ?_
 refine zQ [4,6,15] ?_
 refine Zt (t:=(!y2.2)) rfl (fun c5 => ?_) (fun c5 => ?_)
 ·replace h:=Zw c5 h
  refine Zn ?_
  refine zRd [4,5] [false,false,true,false] ?_
  exact Xg [.agg [(vI 0),nV,nV],(vB false)]
 replace h:=Zv c5 h
 refine Ud [4,6] [false,false,true,true] ?_
 refine Zn ?_
 obtain ⟨y4,hy4,h⟩:=bC h
 refine zCd (Ge hy4) [4,5] [false,false,true,false] ?_
 exact Xg [.agg (Zp y4),(vB true)]
end Go.Proofs.Ytbjcopkgdjombaa
