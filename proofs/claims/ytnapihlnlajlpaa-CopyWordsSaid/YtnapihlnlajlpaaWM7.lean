/- Part WM7 of this seat's mirrors: functions of the seat's program, and the plain functions that they are; each theorem bears its own conditions. -/
import Derived.Test.YtnapihlnlajlpaaWE
import Derived.Test.YtnapihlnlajlpaaWM6
namespace Go.Proofs.Ytnapihlnlajlpaa
open Go.RowKit
set_option linter.unusedVariables false
set_option linter.unusedSimpArgs false
set_option maxRecDepth 100000
set_option maxHeartbeats 4000000
attribute [local push_cast] Try.results12 Try.results15 Try.results34 Try.results4 Try.results69 Try.results98 Try.results99 vI vB nV sL oR Xa Zi Zv Yd Zf Zop Zoo Zo8 Zo7 Y9 Yp Zkh Zf0 Zfz onW X2 Zdo Zdd Zq5 Znd Zif Zij Zie Zii Zlh Zlc Zih Zlg Zlf Zle Zig Zla Zgq evS wok Q1 Op.operands Call.operands gop onK onP atK List.all_cons List.all_nil Bool.and_true Bool.true_and Bool.and_self Value.oneCell' List.take_zero List.take_succ_cons List.take_nil List.drop_zero List.drop_succ_cons List.drop_nil List.append_nil Nat.add_zero Nat.zero_add Gb Yi ev Q4 Zm1 Zoi Zoh Zon Zol Zom Zoj Zok Zog Zsf Zs9 Zv9 Ziv Zcz Ziu Zdj Zh3 Zf2 Zd8 Zed Zfw Zfs Zeb Zfv Zfu Zft Zea Zfq Zd9 Zec Zdb Zfr Zl7 Zf1 Zap Zhs Zaq Zjt Zit Zvd bLo bHi bMx Zc0 Zjs Zxg Zir Zkg Ze0 Uu Zsg Zxh Zhr Zez Zxj Zcy Zz7 Zko Zks Zkn Zkr Zoz Zov Zot Zh5 Zkp Zoy Zox Zow Zkq Zou Zkj Zrh Zk6 Zgl Zgk pop TK.isAgg Zo1 Zo5 Zo0 Zo4 Zkz Ztl Zth Zo3 Ztk Ztj Zti Zo2 Ztg G.under G.unders List.getD_cons_zero List.getD_cons_succ List.set_cons_zero List.set_cons_succ List.map_cons List.map_nil List.toList_toArray Array.toList_append Option.toArray_none Option.toArray_some Array.toList_map Option.map_some Option.map_none Option.bind_some Option.bind_none List.getElem?_cons_zero List.getElem?_cons_succ List.getElem?_nil List.nil_append List.cons_append List.replicate_succ List.replicate_zero List.length_cons List.length_nil and_true true_and and_false false_and Bool.true_eq_false Bool.false_eq_true forall_const false_implies implies_true IntKind.bits if_true if_false ite_true ite_false eq_self true_implies false_or or_false or_true true_or not_true_eq_false not_false_eq_true decide_true decide_false decide_eq_true_eq decide_eq_false_iff_not beq_iff_eq bne_iff_ne ne_eq Bool.not_eq_true Bool.not_eq_false beq_eq_false_iff_ne bne_eq_false_iff_eq beq_self_eq_true bne_self_eq_false Option.some.injEq exists_eq_left' exists_eq_left ge_iff_le gt_iff_lt decide_not Bool.not_true Bool.not_false imp_self Ztd cond_true cond_false Z5y Z5x Bool.not_not Bool.and_false Bool.false_and Bool.or_true Bool.true_or Bool.or_false Bool.false_or Zcs Zji Zdt Zct Jn Qs Option.join_some Nat.add_assoc Int.toNat_natCast eI eB eS eL Xm Zfy Zeg Zos Zoq Zor Z0t Z2l Zgh Zel Zpe Zpc Zpd Zwo Zm0 Zuv Zmw Zvc Zca Zre List.length_append G.agg.injEq G.row.injEq G.ref.injEq G.val.injEq G.sl.injEq G.tup.injEq Value.int.injEq Value.bool.injEq Value.string.injEq List.cons.injEq exists_and_left exists_const List.flatten_cons List.flatten_nil Int.le_refl Nat.le_refl Zb8 Xv Je Bool.not_eq_true' Bool.not_eq_false' Zqo Zhb Zuj Zun Zui Zum Zzt Zzo List.size_toArray Zrv Zra G.ren G.rens Ztn Zgm Zpj Zoe Zof Zlb Zuo Zge G.fn.injEq Zjd Zlz Zqn Zzp Zly Zul Zzs Zzr Zzq Zuk Zte Zx8 Option.join_none Y4 Zac undef Zkl Arr.len Arr.put_eq Zgg Zh7 Zgf Zek Zpb Zo9 Zpa onB Z0s Zse Qa Zdc Zj0 Zj1 Zj2 Zj3 Zj4 Zj5 Zh6 Zia Zh8 Zgj Zem Zh9 Zk4 Zk3 Zk2 Zk1 Z2k Z3s Zwn Zve Vv Zwi Zrn Zib Zgi Zxq Zrb Zio Zke Zdx Zi5 Zj6 Zj7 Zj8 Zj9 Zhv Zhw Zhx Zhy Zhz Zh0 Zh1 Zfm prT Ze2 Z6t Zt7 Z2x Zt8 Z6u Zt9 Z6v Zua Z6w Zub Z6x Zuc Z6y Zud Z6z Zue Zym Zpn Zyn Zpo Zyo Zpp Zyp Zpq Zyq Zpr Zyr Zps Zys Zpt Zyt Zpu Zyu Zpv Zyv Zpw Zyw Zpx Zco Zfk Zmy Zms Zyx Zpy Zb7 Zpz Zyy Zp0 Zyz Zp1 Zy0 Zp2 Zy1 Zmt Zy2 Zp3 Zy3 Zp4 Zy4 Zp5 Ke Zp6 Zy5 Zp7 Zy6 Zp8 Zy7 Zp9 Zy8 Zqa Zy9 Zqb Zza Zqc Zzb Zqd Zzc Zqe Zzd Zqf Zze Zqg Zzf Zqh Zzg Zqi Zzh Zqj Zzi Zqk Zzj Zql Zzk Zqm Zts Zlj Ztt Zlk Ztu Zll Ztv Zlm Ztw Zln Ztx Zlo Zty Zlp Ztz Zlq Zt0 Zlr Zt1 Zls Zt2 Zlt Zt3 Zlu Zt4 Zlv Zt5 Zlw Zt6 Zlx Zn Xd Zgw Zgu Zf4 Zgd Zgy Zes Zeq Zeo Zgs U7 U6 Uy U0 U8 Ue Ud Uc U5 Zgv Zgt Zf3 Zgc Zgx Zer Zep Zen Zgr Zef Gw Jf Zch Zcg Zcc Zce Zci Zbh Zbe Zbd Zcf K7 K8 Zo Ky Kx Kh Ko Kz J7 J6 J5 Ku Zee Za1 Yh Vp Vn Vc Vj Vr Kw Kt Kr Vl Yg Vo Vm Vb Vi Vq Kv Ks Kq Vk
def K6 (Yc:(Zd→Int→Za→Option Zd)):Prop:=∀ {a0:Zd} {a1:Int} {a2:Za} {r:Zd} {O:Objs} {n:Nat} {i0 j0_0:Nat},i0 < n→j0_0 < n→i0≠j0_0→O i0=some ⟨false,72,2,1,[.row j0_0 a0.words.length,(vI a0.next)]⟩→O j0_0=some (oR 49 1 (eI .u64) a0.words)→Yc a0 a1 a2=some r→GTo Try.prog 34 [.ref i0 0,(vI a1),.agg (Zf a2)] O n (.tup []) (Zu ((O.upd j0_0 none).upd i0 (some ⟨false,72,2,1,[.row n r.words.length,(vI r.next)]⟩)) n [some (oR 49 1 (eI .u64) r.words)]) (n+1)
def Jz (Z8:(Zd→Int→Zs→Za→Option Zd)):Prop:=∀ {a0:Zd} {a1:Int} {a2:Zs} {a3:Za} {r:Zd} {O:Objs} {n:Nat} {i0 j0_0:Nat},i0 < n→j0_0 < n→i0≠j0_0→O i0=some ⟨false,72,2,1,[.row j0_0 a0.words.length,(vI a0.next)]⟩→O j0_0=some (oR 49 1 (eI .u64) a0.words)→Z8 a0 a1 a2 a3=some r→GTo Try.prog 69 [.ref i0 0,(vI a1),.agg (Yd a2),.agg (Zf a3)] O n (.tup []) (Zu ((O.upd j0_0 none).upd i0 (some ⟨false,72,2,1,[.row n r.words.length,(vI r.next)]⟩)) n [some (oR 49 1 (eI .u64) r.words)]) (n+1)
def Jg (Zz:(Zd→Int→Za→Int→Option Zd)):Prop:=∀ {a0:Zd} {a1:Int} {a2:Za} {a3:Int} {r:Zd} {O:Objs} {n:Nat} {i0 j0_0:Nat},i0 < n→j0_0 < n→i0≠j0_0→O i0=some ⟨false,72,2,1,[.row j0_0 a0.words.length,(vI a0.next)]⟩→O j0_0=some (oR 49 1 (eI .u64) a0.words)→Zz a0 a1 a2 a3=some r→GTo Try.prog 98 [.ref i0 0,(vI a1),.agg (Zf a2),(vI a3)] O n (.tup []) (Zu ((O.upd j0_0 none).upd i0 (some ⟨false,72,2,1,[.row n r.words.length,(vI r.next)]⟩)) n [some (oR 49 1 (eI .u64) r.words)]) (n+1)
def J0 (Z9:(Zd→Int→Za→Option Zd)):Prop:=∀ {a0:Zd} {a1:Int} {a2:Za} {r:Zd} {O:Objs} {n:Nat} {i0 j0_0:Nat},i0 < n→j0_0 < n→i0≠j0_0→O i0=some ⟨false,72,2,1,[.row j0_0 a0.words.length,(vI a0.next)]⟩→O j0_0=some (oR 49 1 (eI .u64) a0.words)→Z9 a0 a1 a2=some r→GTo Try.prog 99 [.ref i0 0,(vI a1),.agg (Zf a2)] O n (.tup []) (Zu ((O.upd j0_0 none).upd i0 (some ⟨false,72,2,1,[.row n r.words.length,(vI r.next)]⟩)) n [some (oR 49 1 (eI .u64) r.words)]) (n+1)
theorem Znz {Yc:(Zd→Int→Za→Option Zd)} {Z8:(Zd→Int→Zs→Za→Option Zd)} {Zz:(Zd→Int→Za→Int→Option Zd)} {Z9:(Zd→Int→Za→Option Zd)} (Gs:K6 Yc) (Ua:Jz Z8) (Qi:Jg Zz) (Ub:J0 Z9) {a0:Zd} {a1:Int} {a2:Za} {r:Zd} {O:Objs} {n:Nat} {i0 j0_0:Nat} (hi0:i0 < n) (Gc:j0_0 < n) (Jj:i0≠j0_0) (ho0:O i0=some ⟨false,72,2,1,[.row j0_0 a0.words.length,(vI a0.next)]⟩) (Ug:O j0_0=some (oR 49 1 (eI .u64) a0.words)) (h:Qw Yc Z8 Zz Z9 a0 a1 a2=some r):GTo Try.prog 34 [.ref i0 0,(vI a1),.agg (Zf a2)] O n (.tup []) (Zu ((O.upd j0_0 none).upd i0 (some ⟨false,72,2,1,[.row n r.words.length,(vI r.next)]⟩)) n [some (oR 49 1 (eI .u64) r.words)]) (n+1):=by
 unfold Qw at h
 refine Zkf Zx Try.call34 Try.func34 rfl (Nat.le_of_ble_eq_true rfl) (by omega) fun hU => ?_
 have e0:=Zli (ba:=n) (E:=⟨61,[],Zm1 0 [.ref i0 0,.val (.int .i64 a1),.agg [(gP Zo a2.a),.val (.int .i64 a2.kind),.val (.int .i64 a2.segment),.val (.int .i64 a2.at_),.val (.int .i64 a2.words),.val (.int .i64 a2.ptrs),.val (.int .i64 a2.count),.val (.int .i64 a2.code),.val (.int .i64 a2.index)]]⟩) (O:=(Zu O n [])) (n:=n) (i:=i0) (j:=j0_0) (k:=0) (len:=a0.words.length) (q:=⟨false,72,2,1,[.row j0_0 a0.words.length,.val (.int .i64 a0.next)]⟩) (qj:=⟨true,49,1,a0.words.length,fl (eI .u64) a0.words⟩) (by rw [Xv _ hi0];first | exact ho0 | exact Y4 _ _ _) rfl (by rw [Xv _ Gc];exact Ug) Jj (by omega)
 simp only [Je _ _ Gc,Je _ _ hi0,Jn,Qs,Zb8,Zug Jj,List.set_cons_zero,List.set_cons_succ,List.cons_append,List.nil_append,List.length_cons,List.length_nil,Nat.zero_add,Nat.reduceAdd,Nat.add_assoc] at e0
 refine Gv e0 ?_
 have hU:=(Und.drop hU j0_0)
 have hk0:∀ k,i0 < n+k:=fun k=>by omega
 have hN0:∀ o,Objs.upd (O.upd j0_0 none) i0 o n=none:=fun o=>Qt hU hi0 _ (Nat.le_refl _)
 have hN:∀ o k,Objs.upd (O.upd j0_0 none) i0 o (n+k)=none:=fun o k=>Qt hU hi0 _ (Nat.le_add_right _ _)
 show W _ _ _ _ ⟨61,[],[(0,.ref i0 0),(1,(vI a1)),(2,.agg (Zf a2))]⟩ (Zu ((O.upd j0_0 none).upd i0 (some ⟨false,72,2,1,[.row n a0.words.length,(vI a0.next)]⟩)) n [some (oR 49 1 (eI .u64) a0.words)]) _
 refine Kf [0,1,5] hi0 hk0 ?_
 refine Zc ?_
 refine Zc ?_
 obtain ⟨y2,hy2,h⟩:=bC h
 refine Q0 [] hi0 hk0 ?_
 refine (Qe hy2).then ?_
 refine zX2 hi0 hk0 ?_
 refine zD [0,1,5,12] [true,true] ?_
 refine Zm (t:=(y2 == 0)) rfl (fun c16 => ?_) (fun c16 => ?_)
 ·replace h:=Zr c16 h
  refine zW ?_
  have h:=Option.some.inj h;subst h
  refine X1 (k:=1) (i:=i0) (q1:=⟨false,72,2,1,[.row n a0.words.length,(vI a0.next)]⟩) (L3:=[some (oR 49 1 (eI .u64) a0.words),none]) (E2:=(⟨61,[],[]⟩:Env)) (n3:=(n+2)) (.inr rfl) hU rfl [] ?_ ?_
  ·refine Fit2.trans (E':=(⟨61,[],[]⟩:Env)) (O':=(Zu ((O.upd j0_0 none).upd i0 (some ⟨false,72,2,1,[.row n a0.words.length,(vI a0.next)]⟩)) n [some (oR 49 1 (eI .u64) a0.words),none])) (n':=(n+2)) (Fit2.of (Yb hU rfl rfl ?_) (by omega)) ?_
   ·exact Xx hi0 hk0
   refine Y7 (k:=2) (k':=2) hU [0,1] [0,0] rfl rfl rfl rfl ⟨rfl,rfl⟩ ?_
   exact Xx hi0 hk0
  simp only [push_cast,seval,↓reduceIte,Zh,Try.results34,hi0,hk0,hN0,hN]
 replace h:=Zq c16 h
 refine Qo [0,1,5] [true,true] ?_
 refine Zc ?_
 obtain ⟨y4,hy4,h⟩:=bC h
 refine Q0 [] hi0 hk0 ?_
 refine (Zxl hy4).then ?_
 refine zX2 hi0 hk0 ?_
 refine zD [0,1,5,6] [true,true,true] ?_
 refine Kf [0,1,5,6,7] hi0 hk0 ?_
 refine Zc ?_
 obtain ⟨y6,hy6,h⟩:=bC h
 refine Q0 [] hi0 hk0 ?_
 refine (Zkx hy6).then ?_
 refine zX2 hi0 hk0 ?_
 refine zDs [0,1,5,6,7,8] [true,true,true] ?_
 refine Q0 [] hi0 hk0 ?_
 refine zD [0,1,5,6,7,8] [true,true,true] ?_
 obtain ⟨z7,hz7,h⟩:=bC h
 refine Qb (E':=⟨61,[],[(0,.ref i0 0),(1,(vI a1)),(5,.ref (n+1) 0),(6,.ref (n+2) 0),(7,(vI a0.next)),(8,(vI y6.1))]⟩) (O':=(Zu ((O.upd j0_0 none).upd i0 (some ⟨false,72,2,1,[.row n a0.words.length,(vI a0.next)]⟩)) n [some (oR 49 1 (eI .u64) a0.words),some ⟨false,40,9,1,(Zf a2)⟩,some ⟨false,78,8,1,[(vI y4.Kind),(vI z7),(vI y4.Data),(vI y4.Ptrs),(vI y4.Code),(vI y4.Count),(vI y4.Segment),(vB y4.Double)]⟩])) (n0:=(n+3)) ?_ ?_
 ·refine Zcp [0,1,5,6,7,8,35] (Z3 Zx [none,none] ?_)
  refine zX2 hi0 hk0 ?_
  refine zG ?_
  refine Zm (t:=(cond (y4.Kind == 1) (y6.1 == 0) false)) rfl (fun c8 => ?_) (fun c8 => ?_)
  ·replace hz7:=Zr c8 hz7
   refine Q0 [] hi0 hk0 ?_
   have hz7:=Option.some.inj hz7;subst hz7
   refine And.intro rfl (Fit2.of (Yb hU rfl rfl ?_) (by omega))
   exact Xx hi0 hk0
  replace hz7:=Zq c8 hz7
  refine zK ?_
  have hz7:=Option.some.inj hz7;subst hz7
  refine And.intro rfl (Fit2.of (Yb hU rfl rfl ?_) (by omega))
  exact Xx hi0 hk0
 refine Zc ?_
 obtain ⟨y12,hy12,h⟩:=bC h
 obtain ⟨x13,hx13,ax13,bx13,cx13,h⟩:=bE (f:=(eI .u64)) Ke (fun _=>rfl) (by decide) h
 have gu14:Va (fl (eI .u64) a0.words) [.val (.int .u64 y12.1)] (Int.toNat a1 * 1)=some (fl (eI .u64) (Xu a0.words a1 y12.1)):=Zcb (f:=(eI .u64)) (ti:=⟨.bool,1,0,[],false⟩) (x:=y12.1) (fun _=>rfl) (Zad hx13)
 refine Zbl Zx (by kernel_rfl) [false,false,false,false,false,false,false,false,false,false,false,true] [] (by kernel_rfl) ?_
 refine zF6 ax13 bx13 cx13 gu14 hi0 hk0 ?_
 refine PCall.of (Zq8 hy12) ?_
 refine zF6 ax13 bx13 cx13 gu14 hi0 hk0 ?_
 refine zDs [0,5,6,7,8] [true,true,true] ?_
 refine Q0 [] hi0 hk0 ?_
 refine zD [0,5,6,7] [true,true,true] ?_
 obtain ⟨y15,hy15,h⟩:=bC h
 refine Q0 [] hi0 hk0 ?_
 refine (Ua (i0:=i0) (j0_0:=n) (by omega) (by omega) (by omega) (by simp only [push_cast,seval,↓reduceIte,Zh,Xm,hi0,hk0,hN0,hN] <;> rfl) (by simp only [push_cast,seval,↓reduceIte,Zh,Xm,hi0,hk0,hN0,hN] <;> rfl) hy15).then ?_
 refine zX2 hi0 hk0 ?_
 have h:=Option.some.inj h;subst h
 refine X1 (k:=1) (i:=i0) (q1:=⟨false,72,2,1,[.row n y15.words.length,(vI y15.next)]⟩) (L3:=[some (oR 49 1 (eI .u64) y15.words),none]) (E2:=(⟨61,[],[]⟩:Env)) (n3:=(n+2)) (.inl rfl) hU rfl [] ?_ ?_
 ·refine Fit2.trans (E':=(⟨61,[],[]⟩:Env)) (O':=(Zu ((O.upd j0_0 none).upd i0 (some ⟨false,72,2,1,[.row (n+3) y15.words.length,(vI y15.next)]⟩)) n [none,none,none,some (oR 49 1 (eI .u64) y15.words)])) (n':=(n+4)) (Fit2.of (Yb hU rfl rfl ?_) (by omega)) ?_
  ·exact Xx hi0 hk0
  refine Y7 (k:=4) (k':=2) hU [1,1,1,0] [3,0] rfl rfl rfl rfl ⟨rfl,rfl⟩ ?_
  exact Xx hi0 hk0
 simp only [push_cast,seval,↓reduceIte,Zh,Try.results34,hi0,hk0,hN0,hN]
theorem Zmg {Yc:(Zd→Int→Za→Option Zd)} {Z8:(Zd→Int→Zs→Za→Option Zd)} {Zz:(Zd→Int→Za→Int→Option Zd)} {Z9:(Zd→Int→Za→Option Zd)} (Gs:K6 Yc) (Ua:Jz Z8) (Qi:Jg Zz) (Ub:J0 Z9) {a0:Zd} {a1:Int} {a2:Zs} {a3:Za} {r:Zd} {O:Objs} {n:Nat} {i0 j0_0:Nat} (hi0:i0 < n) (Gc:j0_0 < n) (Jj:i0≠j0_0) (ho0:O i0=some ⟨false,72,2,1,[.row j0_0 a0.words.length,(vI a0.next)]⟩) (Ug:O j0_0=some (oR 49 1 (eI .u64) a0.words)) (h:Xc Yc Z8 Zz Z9 a0 a1 a2 a3=some r):GTo Try.prog 69 [.ref i0 0,(vI a1),.agg (Yd a2),.agg (Zf a3)] O n (.tup []) (Zu ((O.upd j0_0 none).upd i0 (some ⟨false,72,2,1,[.row n r.words.length,(vI r.next)]⟩)) n [some (oR 49 1 (eI .u64) r.words)]) (n+1):=by
 unfold Xc at h
 refine Zkf Zx Try.call69 Try.func69 rfl (Nat.le_of_ble_eq_true rfl) (by omega) fun hU => ?_
 have e0:=Zli (ba:=n) (E:=⟨47,[],Zm1 0 [.ref i0 0,.val (.int .i64 a1),.agg [.val (.int .i64 a2.Kind),.val (.int .i64 a2.Off),.val (.int .i64 a2.Data),.val (.int .i64 a2.Ptrs),.val (.int .i64 a2.Code),.val (.int .i64 a2.Count),.val (.int .i64 a2.Segment),.val (.bool a2.Double)],.agg [(gP Zo a3.a),.val (.int .i64 a3.kind),.val (.int .i64 a3.segment),.val (.int .i64 a3.at_),.val (.int .i64 a3.words),.val (.int .i64 a3.ptrs),.val (.int .i64 a3.count),.val (.int .i64 a3.code),.val (.int .i64 a3.index)]]⟩) (O:=(Zu O n [])) (n:=n) (i:=i0) (j:=j0_0) (k:=0) (len:=a0.words.length) (q:=⟨false,72,2,1,[.row j0_0 a0.words.length,.val (.int .i64 a0.next)]⟩) (qj:=⟨true,49,1,a0.words.length,fl (eI .u64) a0.words⟩) (by rw [Xv _ hi0];first | exact ho0 | exact Y4 _ _ _) rfl (by rw [Xv _ Gc];exact Ug) Jj (by omega)
 simp only [Je _ _ Gc,Je _ _ hi0,Jn,Qs,Zb8,Zug Jj,List.set_cons_zero,List.set_cons_succ,List.cons_append,List.nil_append,List.length_cons,List.length_nil,Nat.zero_add,Nat.reduceAdd,Nat.add_assoc] at e0
 refine Gv e0 ?_
 have hU:=(Und.drop hU j0_0)
 have hk0:∀ k,i0 < n+k:=fun k=>by omega
 have hN0:∀ o,Objs.upd (O.upd j0_0 none) i0 o n=none:=fun o=>Qt hU hi0 _ (Nat.le_refl _)
 have hN:∀ o k,Objs.upd (O.upd j0_0 none) i0 o (n+k)=none:=fun o k=>Qt hU hi0 _ (Nat.le_add_right _ _)
 show W _ _ _ _ ⟨47,[],[(0,.ref i0 0),(1,(vI a1)),(2,.agg (Yd a2)),(3,.agg (Zf a3))]⟩ (Zu ((O.upd j0_0 none).upd i0 (some ⟨false,72,2,1,[.row n a0.words.length,(vI a0.next)]⟩)) n [some (oR 49 1 (eI .u64) a0.words)]) _
 refine Kf [0,1,6,7] hi0 hk0 ?_
 refine Zc ?_
 obtain ⟨y2,hy2,h⟩:=bC h
 refine Q0 [] hi0 hk0 ?_
 refine (Qe hy2).then ?_
 refine zX2 hi0 hk0 ?_
 refine zD [0,1,6,7,9] [true,true,true] ?_
 refine Yo ?_
 refine Kf [0,1,6,7,9,14] hi0 hk0 ?_
 refine Zm (t:=(y2 == 1)) rfl (fun c12 => ?_) (fun c12 => ?_)
 ·replace h:=Zr c12 h
  refine Zc ?_
  obtain ⟨y4,hy4,h⟩:=bC h
  refine Q0 [] hi0 hk0 ?_
  refine (Zi2 (i0:=i0) (j0_0:=n) (by omega) (by omega) (by omega) (by simp only [push_cast,seval,↓reduceIte,Zh,Xm,hi0,hk0,hN0,hN] <;> rfl) (by simp only [push_cast,seval,↓reduceIte,Zh,Xm,hi0,hk0,hN0,hN] <;> rfl) hy4).then ?_
  refine zX2 hi0 hk0 ?_
  refine zD [0,1,6,7] [false,true,true,true] ?_
  obtain ⟨y5,hy5,h⟩:=bC h
  refine Q0 [] hi0 hk0 ?_
  refine (Qi (i0:=i0) (j0_0:=(n+3)) (by omega) (by omega) (by omega) (by simp only [push_cast,seval,↓reduceIte,Zh,Xm,hi0,hk0,hN0,hN] <;> rfl) (by simp only [push_cast,seval,↓reduceIte,Zh,Xm,hi0,hk0,hN0,hN] <;> rfl) hy5).then ?_
  refine zX2 hi0 hk0 ?_
  have h:=Option.some.inj h;subst h
  refine X1 (k:=1) (i:=i0) (q1:=⟨false,72,2,1,[.row n y5.words.length,(vI y5.next)]⟩) (L3:=[some (oR 49 1 (eI .u64) y5.words),none]) (E2:=(⟨47,[],[]⟩:Env)) (n3:=(n+2)) (.inl rfl) hU rfl [] ?_ ?_
  ·refine Fit2.trans (E':=(⟨47,[],[]⟩:Env)) (O':=(Zu ((O.upd j0_0 none).upd i0 (some ⟨false,72,2,1,[.row (n+4) y5.words.length,(vI y5.next)]⟩)) n [none,none,none,none,some (oR 49 1 (eI .u64) y5.words)])) (n':=(n+5)) (Fit2.of (Yb hU rfl rfl ?_) (by omega)) ?_
   ·exact Xx hi0 hk0
   refine Y7 (k:=5) (k':=2) hU [1,1,1,1,0] [4,0] rfl rfl rfl rfl ⟨rfl,rfl⟩ ?_
   exact Xx hi0 hk0
  simp only [push_cast,seval,↓reduceIte,Zh,Try.results69,hi0,hk0,hN0,hN]
 replace h:=Zq c12 h
 refine Kf [0,1,6,7,9,31] hi0 hk0 ?_
 refine Zm (t:=(y2 == 8)) rfl (fun c11 => ?_) (fun c11 => ?_)
 ·replace h:=Zr c11 h
  obtain ⟨y6,hy6,h⟩:=bC h
  refine Q0 [] hi0 hk0 ?_
  refine (Qi (i0:=i0) (j0_0:=n) (by omega) (by omega) (by omega) (by simp only [push_cast,seval,↓reduceIte,Zh,Xm,hi0,hk0,hN0,hN] <;> rfl) (by simp only [push_cast,seval,↓reduceIte,Zh,Xm,hi0,hk0,hN0,hN] <;> rfl) hy6).then ?_
  refine zX2 hi0 hk0 ?_
  have h:=Option.some.inj h;subst h
  refine X1 (k:=1) (i:=i0) (q1:=⟨false,72,2,1,[.row n y6.words.length,(vI y6.next)]⟩) (L3:=[some (oR 49 1 (eI .u64) y6.words),none]) (E2:=(⟨47,[],[]⟩:Env)) (n3:=(n+2)) (.inl rfl) hU rfl [] ?_ ?_
  ·refine Fit2.trans (E':=(⟨47,[],[]⟩:Env)) (O':=(Zu ((O.upd j0_0 none).upd i0 (some ⟨false,72,2,1,[.row (n+3) y6.words.length,(vI y6.next)]⟩)) n [none,none,none,some (oR 49 1 (eI .u64) y6.words)])) (n':=(n+4)) (Fit2.of (Yb hU rfl rfl ?_) (by omega)) ?_
   ·exact Xx hi0 hk0
   refine Y7 (k:=4) (k':=2) hU [1,1,1,0] [3,0] rfl rfl rfl rfl ⟨rfl,rfl⟩ ?_
   exact Xx hi0 hk0
  simp only [push_cast,seval,↓reduceIte,Zh,Try.results69,hi0,hk0,hN0,hN]
 replace h:=Zq c11 h
 refine Kf [0,1,7,9,39] hi0 hk0 ?_
 refine Zm (t:=(y2 == 9)) rfl (fun c10 => ?_) (fun c10 => ?_)
 ·replace h:=Zr c10 h
  obtain ⟨y7,hy7,h⟩:=bC h
  refine Q0 [] hi0 hk0 ?_
  refine (Ub (i0:=i0) (j0_0:=n) (by omega) (by omega) (by omega) (by simp only [push_cast,seval,↓reduceIte,Zh,Xm,hi0,hk0,hN0,hN] <;> rfl) (by simp only [push_cast,seval,↓reduceIte,Zh,Xm,hi0,hk0,hN0,hN] <;> rfl) hy7).then ?_
  refine zX2 hi0 hk0 ?_
  have h:=Option.some.inj h;subst h
  refine X1 (k:=1) (i:=i0) (q1:=⟨false,72,2,1,[.row n y7.words.length,(vI y7.next)]⟩) (L3:=[some (oR 49 1 (eI .u64) y7.words),none]) (E2:=(⟨47,[],[]⟩:Env)) (n3:=(n+2)) (.inl rfl) hU rfl [] ?_ ?_
  ·refine Fit2.trans (E':=(⟨47,[],[]⟩:Env)) (O':=(Zu ((O.upd j0_0 none).upd i0 (some ⟨false,72,2,1,[.row (n+3) y7.words.length,(vI y7.next)]⟩)) n [none,none,none,some (oR 49 1 (eI .u64) y7.words)])) (n':=(n+4)) (Fit2.of (Yb hU rfl rfl ?_) (by omega)) ?_
   ·exact Xx hi0 hk0
   refine Y7 (k:=4) (k':=2) hU [1,1,1,0] [3,0] rfl rfl rfl rfl ⟨rfl,rfl⟩ ?_
   exact Xx hi0 hk0
  simp only [push_cast,seval,↓reduceIte,Zh,Try.results69,hi0,hk0,hN0,hN]
 replace h:=Zq c10 h
 refine Kf [0,1,7,45] hi0 hk0 ?_
 refine Zm (t:=(y2 == 2)) rfl (fun c9 => ?_) (fun c9 => ?_)
 ·replace h:=Zr c9 h
  refine zK ?_
  have h:=Option.some.inj h;subst h
  refine X1 (k:=1) (i:=i0) (q1:=⟨false,72,2,1,[.row n a0.words.length,(vI a0.next)]⟩) (L3:=[some (oR 49 1 (eI .u64) a0.words),none]) (E2:=(⟨47,[],[]⟩:Env)) (n3:=(n+2)) (.inl rfl) hU rfl [] ?_ ?_
  ·refine Fit2.trans (E':=(⟨47,[],[]⟩:Env)) (O':=(Zu ((O.upd j0_0 none).upd i0 (some ⟨false,72,2,1,[.row n a0.words.length,(vI a0.next)]⟩)) n [some (oR 49 1 (eI .u64) a0.words),none,none])) (n':=(n+3)) (Fit2.of (Yb hU rfl rfl ?_) (by omega)) ?_
   ·exact Xx hi0 hk0
   refine Y7 (k:=3) (k':=2) hU [0,1,1] [0,0] rfl rfl rfl rfl ⟨rfl,rfl⟩ ?_
   exact Xx hi0 hk0
  simp only [push_cast,seval,↓reduceIte,Zh,Try.results69,hi0,hk0,hN0,hN]
 replace h:=Zq c9 h
 obtain ⟨y8,hy8,h⟩:=bC h
 refine Q0 [] hi0 hk0 ?_
 refine (Zm5 (i0:=i0) (j0_0:=n) (by omega) (by omega) (by omega) (by simp only [push_cast,seval,↓reduceIte,Zh,Xm,hi0,hk0,hN0,hN] <;> rfl) (by simp only [push_cast,seval,↓reduceIte,Zh,Xm,hi0,hk0,hN0,hN] <;> rfl) hy8).then ?_
 refine zX2 hi0 hk0 ?_
 have h:=Option.some.inj h;subst h
 refine X1 (k:=1) (i:=i0) (q1:=⟨false,72,2,1,[.row n y8.words.length,(vI y8.next)]⟩) (L3:=[some (oR 49 1 (eI .u64) y8.words),none]) (E2:=(⟨47,[],[]⟩:Env)) (n3:=(n+2)) (.inl rfl) hU rfl [] ?_ ?_
 ·refine Fit2.trans (E':=(⟨47,[],[]⟩:Env)) (O':=(Zu ((O.upd j0_0 none).upd i0 (some ⟨false,72,2,1,[.row (n+3) y8.words.length,(vI y8.next)]⟩)) n [none,none,none,some (oR 49 1 (eI .u64) y8.words)])) (n':=(n+4)) (Fit2.of (Yb hU rfl rfl ?_) (by omega)) ?_
  ·exact Xx hi0 hk0
  refine Y7 (k:=4) (k':=2) hU [1,1,1,0] [3,0] rfl rfl rfl rfl ⟨rfl,rfl⟩ ?_
  exact Xx hi0 hk0
 simp only [push_cast,seval,↓reduceIte,Zh,Try.results69,hi0,hk0,hN0,hN]
theorem Zky {Yc:(Zd→Int→Za→Option Zd)} {Z8:(Zd→Int→Zs→Za→Option Zd)} {Zz:(Zd→Int→Za→Int→Option Zd)} {Z9:(Zd→Int→Za→Option Zd)} (Gs:K6 Yc) (Ua:Jz Z8) (Qi:Jg Zz) (Ub:J0 Z9) {a0:Zd} {a1:Int} {a2:Za} {a3:Int} {r:Zd} {O:Objs} {n:Nat} {i0 j0_0:Nat} (hi0:i0 < n) (Gc:j0_0 < n) (Jj:i0≠j0_0) (ho0:O i0=some ⟨false,72,2,1,[.row j0_0 a0.words.length,(vI a0.next)]⟩) (Ug:O j0_0=some (oR 49 1 (eI .u64) a0.words)) (h:Qm Yc Z8 Zz Z9 a0 a1 a2 a3=some r):GTo Try.prog 98 [.ref i0 0,(vI a1),.agg (Zf a2),(vI a3)] O n (.tup []) (Zu ((O.upd j0_0 none).upd i0 (some ⟨false,72,2,1,[.row n r.words.length,(vI r.next)]⟩)) n [some (oR 49 1 (eI .u64) r.words)]) (n+1):=by
 unfold Qm at h
 refine Zkf Zx Try.call98 Try.func98 rfl (Nat.le_of_ble_eq_true rfl) (by omega) fun hU => ?_
 have e0:=Zli (ba:=n) (E:=⟨28,[],Zm1 0 [.ref i0 0,.val (.int .i64 a1),.agg [(gP Zo a2.a),.val (.int .i64 a2.kind),.val (.int .i64 a2.segment),.val (.int .i64 a2.at_),.val (.int .i64 a2.words),.val (.int .i64 a2.ptrs),.val (.int .i64 a2.count),.val (.int .i64 a2.code),.val (.int .i64 a2.index)],.val (.int .i64 a3)]⟩) (O:=(Zu O n [])) (n:=n) (i:=i0) (j:=j0_0) (k:=0) (len:=a0.words.length) (q:=⟨false,72,2,1,[.row j0_0 a0.words.length,.val (.int .i64 a0.next)]⟩) (qj:=⟨true,49,1,a0.words.length,fl (eI .u64) a0.words⟩) (by rw [Xv _ hi0];first | exact ho0 | exact Y4 _ _ _) rfl (by rw [Xv _ Gc];exact Ug) Jj (by omega)
 simp only [Je _ _ Gc,Je _ _ hi0,Jn,Qs,Zb8,Zug Jj,List.set_cons_zero,List.set_cons_succ,List.cons_append,List.nil_append,List.length_cons,List.length_nil,Nat.zero_add,Nat.reduceAdd,Nat.add_assoc] at e0
 refine Gv e0 ?_
 have hU:=(Und.drop hU j0_0)
 have hk0:∀ k,i0 < n+k:=fun k=>by omega
 have hN0:∀ o,Objs.upd (O.upd j0_0 none) i0 o n=none:=fun o=>Qt hU hi0 _ (Nat.le_refl _)
 have hN:∀ o k,Objs.upd (O.upd j0_0 none) i0 o (n+k)=none:=fun o k=>Qt hU hi0 _ (Nat.le_add_right _ _)
 show W _ _ _ _ ⟨28,[],[(0,.ref i0 0),(1,(vI a1)),(2,.agg (Zf a2)),(3,(vI a3))]⟩ (Zu ((O.upd j0_0 none).upd i0 (some ⟨false,72,2,1,[.row n a0.words.length,(vI a0.next)]⟩)) n [some (oR 49 1 (eI .u64) a0.words)]) _
 refine Kf [0,1,3,6] hi0 hk0 ?_
 refine Kf [0,1,6,11,12] hi0 hk0 ?_
 refine zD [0,1,6,11,12] [true,true] ?_
 refine Gv (E':=(⟨28,[],[(0,.ref i0 0),(1,(vI a1)),(6,.ref (n+1) 0),(11,(vI a3)),(12,(vI 0))]⟩:Env)) (O':=(Zu ((O.upd j0_0 none).upd i0 (some ⟨false,72,2,1,[.row (n+2) a0.words.length,(vI a0.next)]⟩)) n [none,some ⟨false,40,9,1,(Zf a2)⟩,some (oR 49 1 (eI .u64) a0.words)])) (n':=(n+3)) ?_ ?_
 ·refine Fit2.trans (E':=(⟨28,[],[(0,.ref i0 0),(1,(vI a1)),(6,.ref (n+1) 0),(11,(vI a3)),(12,(vI 0))]⟩:Env)) (O':=(Zu ((O.upd j0_0 none).upd i0 (some ⟨false,72,2,1,[.row n a0.words.length,(vI a0.next)]⟩)) n [some (oR 49 1 (eI .u64) a0.words),some ⟨false,40,9,1,(Zf a2)⟩])) (n':=(n+2)) (Fit2.of (Yb hU rfl rfl ?_) (by omega)) ?_
  ·exact Xx hi0 hk0
  refine Y7 (k:=2) (k':=3) hU [2,1] [0,1,0] rfl rfl rfl rfl ⟨rfl,rfl⟩ ?_
  exact Xx hi0 hk0
 obtain ⟨z5,hz5,h⟩:=bC h
 refine Y1 (E':=⟨28,[],[]⟩) (O':=(Zu ((O.upd j0_0 none).upd i0 (some ⟨false,72,2,1,[.row (n+2) z5.1.length,(vI z5.2)]⟩)) n [none,none,some (oR 49 1 (eI .u64) z5.1)])) (n0:=(n+3)) ?_ ?_
 ·refine Xj hz5 (fun s0_=>⟨28,[],[(0,.ref i0 0),(1,(vI a1)),(6,.ref (n+1) 0),(11,(vI a3)),(12,(vI s0_.1))]⟩) (fun s0_=>(Zu ((O.upd j0_0 none).upd i0 (some ⟨false,72,2,1,[.row (n+2) s0_.2.1.length,(vI s0_.2.2)]⟩)) n [none,some ⟨false,40,9,1,(Zf a2)⟩,some (oR 49 1 (eI .u64) s0_.2.1)])) (fun z5=>JX 0 n (⟨28,[],[]⟩:Env) (Zu ((O.upd j0_0 none).upd i0 (some ⟨false,72,2,1,[.row (n+2) z5.1.length,(vI z5.2)]⟩)) n [none,none,some (oR 49 1 (eI .u64) z5.1)]) (n+3)) ?_
  intro s0_ x0_ hs0_
  unfold Qh at hs0_
  try dsimp only
  refine Kf [0,1,6,11,12,13] hi0 hk0 ?_
  refine Zc ?_
  refine Zm (t:=(decide (s0_.1 < a3))) rfl (fun c4 => ?_) (fun c4 => ?_)
  ·replace hs0_:=Zr c4 hs0_
   refine Qo [0,1,6,11,12] [false,true,true] ?_
   refine Zc ?_
   refine Yo ?_
   refine Kf [0,1,6,8,11,12] hi0 hk0 ?_
   refine Zc ?_
   obtain ⟨y2,hy2,hs0_⟩:=bC hs0_
   refine Q0 [] hi0 hk0 ?_
   refine (Ja hy2).then ?_
   refine zX2 hi0 hk0 ?_
   refine zD [0,1,6,8,9,11,12] [false,true,true,true] ?_
   obtain ⟨y3,hy3,hs0_⟩:=bC hs0_
   refine Q0 [] hi0 hk0 ?_
   refine (Gs (i0:=i0) (j0_0:=(n+2)) (by omega) (by omega) (by omega) (by simp only [push_cast,seval,↓reduceIte,Zh,Xm,hi0,hk0,hN0,hN] <;> rfl) (by simp only [push_cast,seval,↓reduceIte,Zh,Xm,hi0,hk0,hN0,hN] <;> rfl) hy3).then ?_
   refine zX2 hi0 hk0 ?_
   refine zD [0,1,6,11,12] [false,true,false,false,true] ?_
   refine Q0 [] hi0 hk0 ?_
   have hs0_:=Option.some.inj hs0_;subst hs0_
   refine And.intro rfl ?_
   refine Fit2.trans (E':=(⟨28,[],[(0,.ref i0 0),(1,(vI a1)),(6,.ref (n+1) 0),(11,(vI a3)),(12,(vI (IntKind.i64.wrap (s0_.1+1))))]⟩:Env)) (O':=(Zu ((O.upd j0_0 none).upd i0 (some ⟨false,72,2,1,[.row (n+4) y3.words.length,(vI y3.next)]⟩)) n [none,some ⟨false,40,9,1,(Zf a2)⟩,none,none,some (oR 49 1 (eI .u64) y3.words)])) (n':=(n+5)) (Fit2.of (Yb hU rfl rfl ?_) (by omega)) ?_
   ·exact Xx hi0 hk0
   refine Y7 (k:=5) (k':=3) hU [0,1,0,0,2] [0,1,4] rfl rfl rfl rfl ⟨rfl,rfl⟩ ?_
   exact Xx hi0 hk0
  replace hs0_:=Zq c4 hs0_
  refine zXt ?_
  have hs0_:=Option.some.inj hs0_;subst hs0_
  refine And.intro (fun h=>by cases h) (And.intro rfl (Fit2.of (Yb hU rfl rfl ?_) (by omega)))
  exact Xx hi0 hk0
 try simp only [Y9,Yp,↓reduceIte,Nat.reduceEqDiff]
 have h:=Option.some.inj h;subst h
 refine X1 (k:=1) (i:=i0) (q1:=⟨false,72,2,1,[.row n z5.1.length,(vI z5.2)]⟩) (L3:=[some (oR 49 1 (eI .u64) z5.1),none]) (E2:=(⟨28,[],[]⟩:Env)) (n3:=(n+2)) (.inl rfl) hU rfl [] ?_ ?_
 ·refine Fit2.trans (E':=(⟨28,[],[]⟩:Env)) (O':=(Zu ((O.upd j0_0 none).upd i0 (some ⟨false,72,2,1,[.row (n+2) z5.1.length,(vI z5.2)]⟩)) n [none,none,some (oR 49 1 (eI .u64) z5.1)])) (n':=(n+3)) (Fit2.of (Yb hU rfl rfl ?_) (by omega)) ?_
  ·exact Xx hi0 hk0
  refine Y7 (k:=3) (k':=2) hU [1,1,0] [2,0] rfl rfl rfl rfl ⟨rfl,rfl⟩ ?_
  exact Xx hi0 hk0
 simp only [push_cast,seval,↓reduceIte,Zh,Try.results98,hi0,hk0,hN0,hN]
theorem Zmh {Yc:(Zd→Int→Za→Option Zd)} {Z8:(Zd→Int→Zs→Za→Option Zd)} {Zz:(Zd→Int→Za→Int→Option Zd)} {Z9:(Zd→Int→Za→Option Zd)} (Gs:K6 Yc) (Ua:Jz Z8) (Qi:Jg Zz) (Ub:J0 Z9) {a0:Zd} {a1:Int} {a2:Za} {r:Zd} {O:Objs} {n:Nat} {i0 j0_0:Nat} (hi0:i0 < n) (Gc:j0_0 < n) (Jj:i0≠j0_0) (ho0:O i0=some ⟨false,72,2,1,[.row j0_0 a0.words.length,(vI a0.next)]⟩) (Ug:O j0_0=some (oR 49 1 (eI .u64) a0.words)) (h:V0 Yc Z8 Zz Z9 a0 a1 a2=some r):GTo Try.prog 99 [.ref i0 0,(vI a1),.agg (Zf a2)] O n (.tup []) (Zu ((O.upd j0_0 none).upd i0 (some ⟨false,72,2,1,[.row n r.words.length,(vI r.next)]⟩)) n [some (oR 49 1 (eI .u64) r.words)]) (n+1):=by
 unfold V0 at h
 refine Zkf Zx Try.call99 Try.func99 rfl (Nat.le_of_ble_eq_true rfl) (by omega) fun hU => ?_
 have e0:=Zli (ba:=n) (E:=⟨93,[],Zm1 0 [.ref i0 0,.val (.int .i64 a1),.agg [(gP Zo a2.a),.val (.int .i64 a2.kind),.val (.int .i64 a2.segment),.val (.int .i64 a2.at_),.val (.int .i64 a2.words),.val (.int .i64 a2.ptrs),.val (.int .i64 a2.count),.val (.int .i64 a2.code),.val (.int .i64 a2.index)]]⟩) (O:=(Zu O n [])) (n:=n) (i:=i0) (j:=j0_0) (k:=0) (len:=a0.words.length) (q:=⟨false,72,2,1,[.row j0_0 a0.words.length,.val (.int .i64 a0.next)]⟩) (qj:=⟨true,49,1,a0.words.length,fl (eI .u64) a0.words⟩) (by rw [Xv _ hi0];first | exact ho0 | exact Y4 _ _ _) rfl (by rw [Xv _ Gc];exact Ug) Jj (by omega)
 simp only [Je _ _ Gc,Je _ _ hi0,Jn,Qs,Zb8,Zug Jj,List.set_cons_zero,List.set_cons_succ,List.cons_append,List.nil_append,List.length_cons,List.length_nil,Nat.zero_add,Nat.reduceAdd,Nat.add_assoc] at e0
 refine Gv e0 ?_
 have hU:=(Und.drop hU j0_0)
 have hk0:∀ k,i0 < n+k:=fun k=>by omega
 have hN0:∀ o,Objs.upd (O.upd j0_0 none) i0 o n=none:=fun o=>Qt hU hi0 _ (Nat.le_refl _)
 have hN:∀ o k,Objs.upd (O.upd j0_0 none) i0 o (n+k)=none:=fun o k=>Qt hU hi0 _ (Nat.le_add_right _ _)
 show W _ _ _ _ ⟨93,[],[(0,.ref i0 0),(1,(vI a1)),(2,.agg (Zf a2))]⟩ (Zu ((O.upd j0_0 none).upd i0 (some ⟨false,72,2,1,[.row n a0.words.length,(vI a0.next)]⟩)) n [some (oR 49 1 (eI .u64) a0.words)]) _
 refine Kf [0,1,5] hi0 hk0 ?_
 refine Zc ?_
 obtain ⟨y2,hy2,h⟩:=bC h
 refine Q0 [] hi0 hk0 ?_
 refine (Zjv hy2).then ?_
 refine zX2 hi0 hk0 ?_
 refine zD [0,1,5,6,7] [true,true] ?_
 obtain ⟨z3,hz3,h⟩:=bC h
 refine Qb (E':=⟨93,[],[(0,.ref i0 0),(1,(vI a1)),(5,.ref (n+1) 0),(6,(vI y2.1)),(7,(vI y2.2.1))]⟩) (O':=(Zu ((O.upd j0_0 none).upd i0 (some ⟨false,72,2,1,[.row n z3.length,(vI a0.next)]⟩)) n [some (oR 49 1 (eI .u64) z3),some ⟨false,40,9,1,(Zf a2)⟩])) (n0:=(n+2)) ?_ ?_
 ·refine Zc ?_
  obtain ⟨y5,hy5,hz3⟩:=bC hz3
  refine Q0 [] hi0 hk0 ?_
  refine (Yj hy5).then ?_
  refine zX2 hi0 hk0 ?_
  refine zD [0,1,5,6,7,23] [true,true] ?_
  refine Zm (t:=(decide (0 < y5))) rfl (fun c10 => ?_) (fun c10 => ?_)
  ·replace hz3:=Zr c10 hz3
   obtain ⟨y6,hy6,hz3⟩:=bC hz3
   obtain ⟨y7,hy7,hz3⟩:=bC hz3
   obtain ⟨x8,hx8,ax8,bx8,cx8,hz3⟩:=bE (f:=(eI .u64)) Ke (fun _=>rfl) (by decide) hz3
   have gu9:Va (fl (eI .u64) a0.words) [.val (.int .u64 y7.1)] (Int.toNat a1 * 1)=some (fl (eI .u64) (Xu a0.words a1 y7.1)):=Zcb (f:=(eI .u64)) (ti:=⟨.bool,1,0,[],false⟩) (x:=y7.1) (fun _=>rfl) (Zad hx8)
   refine Zbl Zx (by kernel_rfl) [false,false,false,false,false,false,false,false,false,false,false,false,false,false,false,true] [] (by kernel_rfl) ?_
   refine zF6 ax8 bx8 cx8 gu9 hi0 hk0 ?_
   refine PCall.of (Yj hy6) ?_
   refine zF6 ax8 bx8 cx8 gu9 hi0 hk0 ?_
   refine PCall.of (Zq8 hy7) ?_
   refine zF6 ax8 bx8 cx8 gu9 hi0 hk0 ?_
   have hz3:=Option.some.inj hz3;subst hz3
   refine And.intro rfl (Fit2.of (Yb hU rfl rfl ?_) (by omega))
   exact Yc4 ax8 bx8 cx8 gu9 hi0 hk0
  replace hz3:=Zq c10 hz3
  refine zK ?_
  have hz3:=Option.some.inj hz3;subst hz3
  refine And.intro rfl (Fit2.of (Yb hU rfl rfl ?_) (by omega))
  exact Xx hi0 hk0
 refine Kf [0,1,5,6,7] hi0 hk0 ?_
 refine Zc ?_
 refine Zc ?_
 obtain ⟨y12,hy12,h⟩:=bC h
 refine Q0 [] hi0 hk0 ?_
 refine (Yj hy12).then ?_
 refine zX2 hi0 hk0 ?_
 refine zD [0,1,5,6,7,42,43] [true,true] ?_
 refine zD [0,1,5,6,7,42,43] [true,true] ?_
 refine Gv (E':=(⟨93,[],[(0,.ref i0 0),(1,(vI (IntKind.i64.wrap (a1+1)))),(5,.ref (n+1) 0),(6,(vI y2.1)),(7,(vI y2.2.1)),(42,(vI y12)),(43,(vI 0))]⟩:Env)) (O':=(Zu ((O.upd j0_0 none).upd i0 (some ⟨false,72,2,1,[.row (n+2) z3.length,(vI a0.next)]⟩)) n [none,some ⟨false,40,9,1,(Zf a2)⟩,some (oR 49 1 (eI .u64) z3)])) (n':=(n+3)) ?_ ?_
 ·refine Fit2.trans (E':=(⟨93,[],[(0,.ref i0 0),(1,(vI (IntKind.i64.wrap (a1+1)))),(5,.ref (n+1) 0),(6,(vI y2.1)),(7,(vI y2.2.1)),(42,(vI y12)),(43,(vI 0))]⟩:Env)) (O':=(Zu ((O.upd j0_0 none).upd i0 (some ⟨false,72,2,1,[.row n z3.length,(vI a0.next)]⟩)) n [some (oR 49 1 (eI .u64) z3),some ⟨false,40,9,1,(Zf a2)⟩])) (n':=(n+2)) (Fit2.of (Yb hU rfl rfl ?_) (by omega)) ?_
  ·exact Xx hi0 hk0
  refine Y7 (k:=2) (k':=3) hU [2,1] [0,1,0] rfl rfl rfl rfl ⟨rfl,rfl⟩ ?_
  exact Xx hi0 hk0
 obtain ⟨z18,hz18,h⟩:=bC h
 refine Y1 (E':=⟨93,[],[(0,.ref i0 0),(1,(vI (IntKind.i64.wrap (a1+1)))),(5,.ref (n+1) 0),(6,(vI y2.1)),(7,(vI y2.2.1))]⟩) (O':=(Zu ((O.upd j0_0 none).upd i0 (some ⟨false,72,2,1,[.row (n+2) z18.1.length,(vI z18.2)]⟩)) n [none,some ⟨false,40,9,1,(Zf a2)⟩,some (oR 49 1 (eI .u64) z18.1)])) (n0:=(n+3)) ?_ ?_
 ·refine Xj hz18 (fun s0_=>⟨93,[],[(0,.ref i0 0),(1,(vI (IntKind.i64.wrap (a1+1)))),(5,.ref (n+1) 0),(6,(vI y2.1)),(7,(vI y2.2.1)),(42,(vI y12)),(43,(vI s0_.1))]⟩) (fun s0_=>(Zu ((O.upd j0_0 none).upd i0 (some ⟨false,72,2,1,[.row (n+2) s0_.2.1.length,(vI s0_.2.2)]⟩)) n [none,some ⟨false,40,9,1,(Zf a2)⟩,some (oR 49 1 (eI .u64) s0_.2.1)])) (fun z18=>JX 0 n (⟨93,[],[(0,.ref i0 0),(1,(vI (IntKind.i64.wrap (a1+1)))),(5,.ref (n+1) 0),(6,(vI y2.1)),(7,(vI y2.2.1))]⟩:Env) (Zu ((O.upd j0_0 none).upd i0 (some ⟨false,72,2,1,[.row (n+2) z18.1.length,(vI z18.2)]⟩)) n [none,some ⟨false,40,9,1,(Zf a2)⟩,some (oR 49 1 (eI .u64) z18.1)]) (n+3)) ?_
  intro s0_ x0_ hs0_
  unfold Jr at hs0_
  try dsimp only
  refine Kf [0,1,5,6,7,42,43,44] hi0 hk0 ?_
  refine Zc ?_
  refine Zm (t:=(decide (s0_.1 < y12))) rfl (fun c17 => ?_) (fun c17 => ?_)
  ·replace hs0_:=Zr c17 hs0_
   refine Qo [0,1,5,6,7,42,43] [false,true,true] ?_
   refine Zc ?_
   refine Yo ?_
   refine Kf [0,1,5,6,7,9,42,43] hi0 hk0 ?_
   refine Zc ?_
   obtain ⟨y14,hy14,hs0_⟩:=bC hs0_
   refine Q0 [] hi0 hk0 ?_
   refine (Ja hy14).then ?_
   refine zX2 hi0 hk0 ?_
   refine zD [0,1,5,6,7,9,10,42,43] [false,true,true,true] ?_
   obtain ⟨y15,hy15,hs0_⟩:=bC hs0_
   obtain ⟨y16,hy16,hs0_⟩:=bC hs0_
   refine Zbl Zx (by kernel_rfl) [false,false,false,false,false,false,false,false,false,false,false,true] [] (by kernel_rfl) ?_
   refine zX2 hi0 hk0 ?_
   refine PCall.of (Zfb hy15) ?_
   refine zX2 hi0 hk0 ?_
   refine (Zi2 (i0:=i0) (j0_0:=(n+2)) (by omega) (by omega) (by omega) (by simp only [push_cast,seval,↓reduceIte,Zh,Xm,hi0,hk0,hN0,hN] <;> rfl) (by simp only [push_cast,seval,↓reduceIte,Zh,Xm,hi0,hk0,hN0,hN] <;> rfl) hy16).then ?_
   refine zX2 hi0 hk0 ?_
   refine zD [0,1,5,6,7,42,43] [false,true,false,false,true] ?_
   refine Q0 [] hi0 hk0 ?_
   have hs0_:=Option.some.inj hs0_;subst hs0_
   refine And.intro rfl ?_
   refine Fit2.trans (E':=(⟨93,[],[(0,.ref i0 0),(1,(vI (IntKind.i64.wrap (a1+1)))),(5,.ref (n+1) 0),(6,(vI y2.1)),(7,(vI y2.2.1)),(42,(vI y12)),(43,(vI (IntKind.i64.wrap (s0_.1+1))))]⟩:Env)) (O':=(Zu ((O.upd j0_0 none).upd i0 (some ⟨false,72,2,1,[.row (n+4) y16.words.length,(vI y16.next)]⟩)) n [none,some ⟨false,40,9,1,(Zf a2)⟩,none,none,some (oR 49 1 (eI .u64) y16.words)])) (n':=(n+5)) (Fit2.of (Yb hU rfl rfl ?_) (by omega)) ?_
   ·exact Xx hi0 hk0
   refine Y7 (k:=5) (k':=3) hU [0,1,0,0,2] [0,1,4] rfl rfl rfl rfl ⟨rfl,rfl⟩ ?_
   exact Xx hi0 hk0
  replace hs0_:=Zq c17 hs0_
  refine zXt ?_
  have hs0_:=Option.some.inj hs0_;subst hs0_
  refine And.intro (fun h=>by cases h) (And.intro rfl (Fit2.of (Yb hU rfl rfl ?_) (by omega)))
  exact Xx hi0 hk0
 try simp only [Y9,Yp,↓reduceIte,Nat.reduceEqDiff]
 refine zDs [0,1,5,6,7] [false,true,true] ?_
 obtain ⟨y20,hy20,h⟩:=bC h
 refine Q0 [] hi0 hk0 ?_
 refine (Yj hy20).then ?_
 refine zX2 hi0 hk0 ?_
 refine zD [0,1,5,6,7,66,67] [false,true,true] ?_
 refine zD [0,1,5,6,7,66,67] [false,true,true] ?_
 refine Gv (E':=(⟨93,[],[(0,.ref i0 0),(1,(vI (IntKind.i64.wrap (a1+1)))),(5,.ref (n+1) 0),(6,(vI y2.1)),(7,(vI y2.2.1)),(66,(vI y20)),(67,(vI 0))]⟩:Env)) (O':=(Zu ((O.upd j0_0 none).upd i0 (some ⟨false,72,2,1,[.row (n+3) z18.1.length,(vI z18.2)]⟩)) n [none,some ⟨false,40,9,1,(Zf a2)⟩,none,some (oR 49 1 (eI .u64) z18.1)])) (n':=(n+4)) ?_ ?_
 ·refine Fit2.trans (E':=(⟨93,[],[(0,.ref i0 0),(1,(vI (IntKind.i64.wrap (a1+1)))),(5,.ref (n+1) 0),(6,(vI y2.1)),(7,(vI y2.2.1)),(66,(vI y20)),(67,(vI 0))]⟩:Env)) (O':=(Zu ((O.upd j0_0 none).upd i0 (some ⟨false,72,2,1,[.row (n+2) z18.1.length,(vI z18.2)]⟩)) n [none,some ⟨false,40,9,1,(Zf a2)⟩,some (oR 49 1 (eI .u64) z18.1)])) (n':=(n+3)) (Fit2.of (Yb hU rfl rfl ?_) (by omega)) ?_
  ·exact Xx hi0 hk0
  refine Y7 (k:=3) (k':=4) hU [2,1,3] [0,1,0,2] rfl rfl rfl rfl ⟨rfl,rfl⟩ ?_
  exact Xx hi0 hk0
 obtain ⟨z26,hz26,h⟩:=bC h
 refine Y1 (E':=⟨93,[],[]⟩) (O':=(Zu ((O.upd j0_0 none).upd i0 (some ⟨false,72,2,1,[.row (n+3) z26.1.length,(vI z26.2)]⟩)) n [none,none,none,some (oR 49 1 (eI .u64) z26.1)])) (n0:=(n+4)) ?_ ?_
 ·refine Xj hz26 (fun s1_=>⟨93,[],[(0,.ref i0 0),(1,(vI (IntKind.i64.wrap (a1+1)))),(5,.ref (n+1) 0),(6,(vI y2.1)),(7,(vI y2.2.1)),(66,(vI y20)),(67,(vI s1_.1))]⟩) (fun s1_=>(Zu ((O.upd j0_0 none).upd i0 (some ⟨false,72,2,1,[.row (n+3) s1_.2.1.length,(vI s1_.2.2)]⟩)) n [none,some ⟨false,40,9,1,(Zf a2)⟩,none,some (oR 49 1 (eI .u64) s1_.2.1)])) (fun z26=>JX 2 n (⟨93,[],[]⟩:Env) (Zu ((O.upd j0_0 none).upd i0 (some ⟨false,72,2,1,[.row (n+3) z26.1.length,(vI z26.2)]⟩)) n [none,none,none,some (oR 49 1 (eI .u64) z26.1)]) (n+4)) ?_
  intro s1_ x1_ hs1_
  unfold Js at hs1_
  try dsimp only
  refine Kf [0,1,5,6,7,66,67,68] hi0 hk0 ?_
  refine Zc ?_
  refine Zm (t:=(decide (s1_.1 < y20))) rfl (fun c25 => ?_) (fun c25 => ?_)
  ·replace hs1_:=Zr c25 hs1_
   refine Qo [0,1,5,6,7,66,67] [false,true,false,true] ?_
   refine Zc ?_
   refine Yo ?_
   refine Kf [0,1,5,6,7,12,66,67] hi0 hk0 ?_
   refine Zc ?_
   obtain ⟨y22,hy22,hs1_⟩:=bC hs1_
   refine Q0 [] hi0 hk0 ?_
   refine (Ja hy22).then ?_
   refine zX2 hi0 hk0 ?_
   refine zD [0,1,5,6,7,12,13,66,67] [false,true,false,true,true] ?_
   obtain ⟨y23,hy23,hs1_⟩:=bC hs1_
   obtain ⟨y24,hy24,hs1_⟩:=bC hs1_
   refine Zbl Zx (by kernel_rfl) [false,false,false,false,false,false,false,false,false,false,false,false,false,false,false,true] [] (by kernel_rfl) ?_
   refine zX2 hi0 hk0 ?_
   refine PCall.of (Yj hy23) ?_
   refine zX2 hi0 hk0 ?_
   refine (Qi (i0:=i0) (j0_0:=(n+3)) (by omega) (by omega) (by omega) (by simp only [push_cast,seval,↓reduceIte,Zh,Xm,hi0,hk0,hN0,hN] <;> rfl) (by simp only [push_cast,seval,↓reduceIte,Zh,Xm,hi0,hk0,hN0,hN] <;> rfl) hy24).then ?_
   refine zX2 hi0 hk0 ?_
   refine zD [0,1,5,6,7,66,67] [false,true,false,false,false,true] ?_
   refine Q0 [] hi0 hk0 ?_
   have hs1_:=Option.some.inj hs1_;subst hs1_
   refine And.intro rfl ?_
   refine Fit2.trans (E':=(⟨93,[],[(0,.ref i0 0),(1,(vI (IntKind.i64.wrap (a1+1)))),(5,.ref (n+1) 0),(6,(vI y2.1)),(7,(vI y2.2.1)),(66,(vI y20)),(67,(vI (IntKind.i64.wrap (s1_.1+1))))]⟩:Env)) (O':=(Zu ((O.upd j0_0 none).upd i0 (some ⟨false,72,2,1,[.row (n+5) y24.words.length,(vI y24.next)]⟩)) n [none,some ⟨false,40,9,1,(Zf a2)⟩,none,none,none,some (oR 49 1 (eI .u64) y24.words)])) (n':=(n+6)) (Fit2.of (Yb hU rfl rfl ?_) (by omega)) ?_
   ·exact Xx hi0 hk0
   refine Y7 (k:=6) (k':=4) hU [2,1,2,2,2,3] [0,1,0,5] rfl rfl rfl rfl ⟨rfl,rfl⟩ ?_
   exact Xx hi0 hk0
  replace hs1_:=Zq c25 hs1_
  refine zXt ?_
  have hs1_:=Option.some.inj hs1_;subst hs1_
  refine And.intro (fun h=>by cases h) (And.intro rfl (Fit2.of (Yb hU rfl rfl ?_) (by omega)))
  exact Xx hi0 hk0
 try simp only [Y9,Yp,↓reduceIte,Nat.reduceEqDiff]
 have h:=Option.some.inj h;subst h
 refine X1 (k:=1) (i:=i0) (q1:=⟨false,72,2,1,[.row n z26.1.length,(vI z26.2)]⟩) (L3:=[some (oR 49 1 (eI .u64) z26.1),none]) (E2:=(⟨93,[],[]⟩:Env)) (n3:=(n+2)) (.inl rfl) hU rfl [] ?_ ?_
 ·refine Fit2.trans (E':=(⟨93,[],[]⟩:Env)) (O':=(Zu ((O.upd j0_0 none).upd i0 (some ⟨false,72,2,1,[.row (n+3) z26.1.length,(vI z26.2)]⟩)) n [none,none,none,some (oR 49 1 (eI .u64) z26.1)])) (n':=(n+4)) (Fit2.of (Yb hU rfl rfl ?_) (by omega)) ?_
  ·exact Xx hi0 hk0
  refine Y7 (k:=4) (k':=2) hU [1,1,1,0] [3,0] rfl rfl rfl rfl ⟨rfl,rfl⟩ ?_
  exact Xx hi0 hk0
 simp only [push_cast,seval,↓reduceIte,Zh,Try.results99,hi0,hk0,hN0,hN]
theorem Zmb:∀ k,(K6 ((Zg k).1))∧(Jz ((Zg k).2.1))∧(Jg ((Zg k).2.2.1))∧(J0 ((Zg k).2.2.2)):=fun k=>by
 induction k with
 | zero=>exact ⟨@fun a0 a1 a2 r O n i0 j0_0 hi0 Gc Jj ho0 Ug h=>(nomatch (show (none:Option _)=some _ from h)),@fun a0 a1 a2 a3 r O n i0 j0_0 hi0 Gc Jj ho0 Ug h=>(nomatch (show (none:Option _)=some _ from h)),@fun a0 a1 a2 a3 r O n i0 j0_0 hi0 Gc Jj ho0 Ug h=>(nomatch (show (none:Option _)=some _ from h)),@fun a0 a1 a2 r O n i0 j0_0 hi0 Gc Jj ho0 Ug h=>(nomatch (show (none:Option _)=some _ from h))⟩
 | succ k ih=>exact ⟨@fun a0 a1 a2 r O n i0 j0_0 hi0 Gc Jj ho0 Ug h=>Znz (ih.1) (ih.2.1) (ih.2.2.1) (ih.2.2.2) hi0 Gc Jj ho0 Ug h,@fun a0 a1 a2 a3 r O n i0 j0_0 hi0 Gc Jj ho0 Ug h=>Zmg (ih.1) (ih.2.1) (ih.2.2.1) (ih.2.2.2) hi0 Gc Jj ho0 Ug h,@fun a0 a1 a2 a3 r O n i0 j0_0 hi0 Gc Jj ho0 Ug h=>Zky (ih.1) (ih.2.1) (ih.2.2.1) (ih.2.2.2) hi0 Gc Jj ho0 Ug h,@fun a0 a1 a2 r O n i0 j0_0 hi0 Gc Jj ho0 Ug h=>Zmh (ih.1) (ih.2.1) (ih.2.2.1) (ih.2.2.2) hi0 Gc Jj ho0 Ug h⟩
theorem Zqx {a0:Zd} {a1:Int} {a2:Za} {r:Zd} {O:Objs} {n:Nat} {i0 j0_0:Nat} (hi0:i0 < n) (Gc:j0_0 < n) (Jj:i0≠j0_0) (ho0:O i0=some ⟨false,72,2,1,[.row j0_0 a0.words.length,(vI a0.next)]⟩) (Ug:O j0_0=some (oR 49 1 (eI .u64) a0.words)) (h:Zbu a0 a1 a2=some r):GTo Try.prog 34 [.ref i0 0,(vI a1),.agg (Zf a2)] O n (.tup []) (Zu ((O.upd j0_0 none).upd i0 (some ⟨false,72,2,1,[.row n r.words.length,(vI r.next)]⟩)) n [some (oR 49 1 (eI .u64) r.words)]) (n+1):=by
 obtain ⟨k,hk⟩:=Zix h
 exact (Zmb k).1 hi0 Gc Jj ho0 Ug hk
theorem Zq7 {a0:Za} {a1:Int} {r:((List Int)×Int)} {O:Objs} {n:Nat} (h:Zag a0 a1=some r):GTo Try.prog 15 [.agg (Zf a0),(vI a1)] O n (.tup [(sL (eI .u64) r.1),(vI r.2)]) O n:=by
 unfold Zag at h
 refine zFn Try.call15 Try.func15 fun hU hN0 hN => ?_
 show W _ _ _ _ ⟨36,[],[(0,.agg (Zf a0)),(1,(vI a1))]⟩ (Zu O n []) _
 refine zQ [1,2] ?_
 refine Zc ?_
 refine Zc ?_
 obtain ⟨y2,hy2,h⟩:=bC h
 refine zCd (Qe hy2) [1,2,12] [true] ?_
 refine Zm (t:=(y2 == 10)) rfl (fun c13 => ?_) (fun c13 => ?_)
 ·replace h:=Zr c13 h
  refine zQ [4,5] ?_
  exact Z5 [nV,(vI 10)]
 replace h:=Zq c13 h
 refine Qo [1,2] [true] ?_
 refine zQ [1,2] ?_
 refine Zc ?_
 refine zRd [1,2,6] [true,true] ?_
 refine Zc ?_
 refine Zc ?_
 obtain ⟨y4,hy4,h⟩:=bC h
 refine zR ?_
 refine (Gl (i0:=(n+1)) (by omega) (by simp only [push_cast,seval,↓reduceIte,Zh,Xm,hN0,hN] <;> rfl) hy4).then ?_
 refine zS ?_
 refine zD [1,2,6,7] [true,true] ?_
 refine zQ [1,2,6,7,19] ?_
 refine Zm (t:=(y4.1 != 0)) rfl (fun c12 => ?_) (fun c12 => ?_)
 ·replace h:=Zr c12 h
  refine zQ [4,5] ?_
  exact Z5 [nV,(vI y4.1)]
 replace h:=Zq c12 h
 refine Qo [1,2,6] [true,true] ?_
 refine Zc ?_
 refine Zc ?_
 obtain ⟨y6,hy6,h⟩:=bC h
 refine zR ?_
 refine (Zqy (i0:=(n+1)) (by omega) (by simp only [push_cast,seval,↓reduceIte,Zh,Xm,hN0,hN] <;> rfl) hy6).then ?_
 refine zS ?_
 refine zD [1,2,6,8] [true,true] ?_
 refine zQ [1,2,6,8,24] ?_
 refine Zm (t:=(y6.1 != 0)) rfl (fun c11 => ?_) (fun c11 => ?_)
 ·replace h:=Zr c11 h
  refine zQ [4,5] ?_
  exact Z5 [nV,(vI y6.1)]
 replace h:=Zq c11 h
 refine Qo [1,2,6] [true,true] ?_
 refine Zc ?_
 obtain ⟨l8,al8,bl8,cl8,el8,h⟩:=bM2 (c:=8) rfl h
 have nl8:Int.toNat (IntKind.i64.wrap ((if 131072 < a1 then 131072 else a1) - y6.2.left))=List.length l8:=by rw [el8,List.length_replicate]
 have fl8:(List.replicate (List.length l8) [.val (.int .u64 0)]).flatten=fl (eI .u64) l8:=by rw [← nl8,el8];exact (Zl6 (f:=(eI .u64)) _ _).symm
 clear el8
 refine Z3 Zx [] ?_
 simp only [push_cast,seval,↓reduceIte,Zh,al8,bl8,cl8,fl8,nl8,hN0,hN]
 refine Zav ⟨36,[],[(2,.ref n 0),(9,.ref (n+3) 0)]⟩ (Zu O n [some ⟨false,40,9,1,(Zf a0)⟩,none,some (oR 49 1 (eI .u64) l8),some ⟨false,72,2,1,[.row (n+2) l8.length,(vI 1)]⟩]) (Ye hU rfl rfl ?_) ?_
 ·simp only [push_cast,seval,↓reduceIte,Zh,al8,bl8,cl8,fl8,nl8,hN0,hN]
 refine Zc ?_
 obtain ⟨y10,hy10,h⟩:=bC h
 refine zR ?_
 refine (Zqx (i0:=(n+3)) (j0_0:=(n+2)) (by omega) (by omega) (by omega) (by simp only [push_cast,seval,↓reduceIte,Zh,Xm,hN0,hN] <;> rfl) (by simp only [push_cast,seval,↓reduceIte,Zh,Xm,hN0,hN] <;> rfl) hy10).then ?_
 refine zS ?_
 refine zD [9] [false,false,false,true,true] ?_
 refine zQ [4,5] ?_
 exact Z5 [.row (n+4) y10.words.length,(vI 0)]
theorem Zhl  {r:Bool} {O:Objs} {n:Nat} (h:Ve=some r):GTo Try.prog 12 [] O n ((vB r)) O n:=by
 unfold Ve at h
 refine zFn Try.call12 Try.func12 fun hU hN0 hN => ?_
 show W _ _ _ _ ⟨33,[],[]⟩ (Zu O n []) _
 refine zQ [] ?_
 refine Zc ?_
 obtain ⟨y3,hy3,h⟩:=bC h
 obtain ⟨y4,hy4,h⟩:=bC h
 refine zR ?_
 refine GCalls.dropL (l':=[none,none]) hU rfl ?_ ((Zu4 hy3).then ?_)
 ·exact zSe
 refine zS ?_
 refine zTs (Znx hy4) ?_
 refine zDs [1,2] [false,false,true] ?_
 obtain ⟨y6,hy6,h⟩:=bC h
 refine zCd (Zq7 hy6) [1,2,3,4] [false,false,true] ?_
 obtain ⟨z9,hz9,h⟩:=bC h
 refine Qb (E':=⟨33,[],[(0,(vB z9))]⟩) (O':=(Zu O n [none,none,none,none])) (n0:=(n+4)) ?_ ?_
 ·rcases Bool.eq_false_or_eq_true (y4.2 == 0) with c14 | c14
  ·replace hz9:=Zr c14 hz9
   rcases Bool.eq_false_or_eq_true (y6.2 == 0) with c15 | c15
   ·replace hz9:=Zr c15 hz9
    try rw [c15] at c14
    obtain ⟨y12,hy12,hz9⟩:=bC hz9
    rcases Bool.eq_false_or_eq_true y12 with c16 | c16
    ·replace hz9:=Zr c16 hz9
     try rw [c16] at c14
     try rw [c16] at c15
     obtain ⟨y13,hy13,hz9⟩:=bC hz9
     refine Zjr [none,none,some true,some true,some true,some true,some true,some true] c14 c15 c16 ?_
     refine zG ?_
     refine GCalls.lend (Zby hy12) rfl ?_ ?_
     ·exact Zxv c14 c15 c16
     refine zX3 c14 c15 c16 ?_
     refine zG ?_
     refine (Zfb hy13).then ?_
     refine zX3 c14 c15 c16 ?_
     refine zG ?_
     exact Zxe hz9 c14 c15 c16
    replace hz9:=Zq c16 hz9
    try rw [c16] at c14
    try rw [c16] at c15
    refine Zjr [none,none,some true,some true,some true,some false,some false,some false] c14 c15 c16 ?_
    refine zG ?_
    refine GCalls.lend (Zby hy12) rfl ?_ ?_
    ·exact Zxv c14 c15 c16
    refine zX3 c14 c15 c16 ?_
    refine zG ?_
    exact Zxe hz9 c14 c15 c16
   replace hz9:=Zq c15 hz9
   try rw [c15] at c14
   refine Q0 [none,none,some false,some false,some false,some false,some false,some false] c14 c15 ?_
   refine zG ?_
   exact Z5n hz9 c14 c15
  replace hz9:=Zq c14 hz9
  refine Zb9 [none,none,some false,some false,some false,some false,some false,some false] c14 ?_
  refine zG ?_
  exact Zaw hz9 c14
 exact Z5 [(vB z9)]
theorem Zkw {a0:(List (List Int))} {a1:Ya} {a2:Int} {r:Bool} {O:Objs} {n:Nat} (h:Us a0 a1 a2=some r):GTo Try.prog 4 [(sL (eL (eI .u64)) a0),.agg (Xa a1),(vI a2)] O n ((vB r)) O n:=by
 unfold Us at h
 refine zFn Try.call4 Try.func4 fun hU hN0 hN => ?_
 show W _ _ _ _ ⟨68,[],[(0,(sL (eL (eI .u64)) a0)),(1,.agg (Xa a1)),(2,(vI a2))]⟩ (Zu O n []) _
 refine zQ [0,2,4] ?_
 refine Zc ?_
 obtain ⟨y2,hy2,h⟩:=bC h
 refine zCd (Zqt hy2) [0,2,4] [true] ?_
 refine Zc ?_
 obtain ⟨y4,hy4,h⟩:=bC h
 refine zCd (Znt hy4) [0,2,7,9] [false,true] ?_
 refine Zc ?_
 refine zQ [0,2,7,26] ?_
 refine Zm (t:=(y4.2.2 != 0)) rfl (fun c24 => ?_) (fun c24 => ?_)
 ·replace h:=Zr c24 h
  refine Zc ?_
  obtain ⟨y6,hy6,h⟩:=bC h
  refine zCd (Zhl hy6) [6] [false,false] ?_
  exact Z5 [(vB y6)]
 replace h:=Zq c24 h
 refine Qo [0,2,7] [false,true] ?_
 refine Zc ?_
 obtain ⟨y9,hy9,h⟩:=bC h
 obtain ⟨y10,hy10,h⟩:=bC h
 refine zC (Zu4 hy9) ?_
 refine zTs (Znx hy10) ?_
 refine zDs [2,7,10,11] [false,true,true] ?_
 obtain ⟨y12,hy12,h⟩:=bC h
 refine zCd (Zq7 hy12) [2,7,11,12,13] [false,true,false] ?_
 refine Zc ?_
 obtain ⟨y14,hy14,h⟩:=bC h
 refine zCd (Znu hy14) [11,12,13,14,15] [false,false,false] ?_
 refine Zc ?_
 refine zQD [12,14,61] [none,none,none,none,none,none,none,none,none,none] ?_
 refine Zm (t:=(cond (cond (y10.2 != 0) true (y14.2 != (y12.2 == 0))) true (cond (!y14.2) (y12.2 != 3) false))) rfl (fun c23 => ?_) (fun c23 => ?_)
 ·replace h:=Zr c23 h
  refine zQ [6] ?_
  exact Z5 [(vB false)]
 replace h:=Zq c23 h
 refine Qo [12,14] [false,false,false] ?_
 obtain ⟨z17,hz17,h⟩:=bC h
 refine Qb (E':=⟨68,[],[(6,(vB z17))]⟩) (O':=(Zu O n [none,none,none])) (n0:=(n+3)) ?_ ?_
 ·obtain ⟨y20,hy20,hz17⟩:=bC hz17
  rcases Bool.eq_false_or_eq_true y20 with c22 | c22
  ·replace hz17:=Zr c22 hz17
   obtain ⟨y21,hy21,hz17⟩:=bC hz17
   refine Zb9 [some true] c22 ?_
   refine (Zby hy20).then ?_
   refine zX1 c22 ?_
   refine (Zhl hy21).then ?_
   refine zX1 c22 ?_
   exact Zaw hz17 c22
  replace hz17:=Zq c22 hz17
  refine Zb9 [some false] c22 ?_
  refine (Zby hy20).then ?_
  refine zX1 c22 ?_
  exact Zaw hz17 c22
 exact Z5 [(vB z17)]
end Go.Proofs.Ytnapihlnlajlpaa
