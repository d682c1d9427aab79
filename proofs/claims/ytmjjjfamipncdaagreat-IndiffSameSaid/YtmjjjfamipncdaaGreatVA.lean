/- Part VA; each theorem bears its own conditions. -/
import Derived.Test.YtmjjjfamipncdaaGreatUA
import Derived.Test.YtmjjjfamipncdaaGreatUP
namespace Go.Proofs.YtmjjjfamipncdaaGreat
open Go.RowKit
set_option linter.unusedVariables false
set_option linter.unusedSimpArgs false
set_option maxRecDepth 100000
set_option maxHeartbeats 4000000
attribute [local push_cast] Xu Yx Zn J3 Zx Yk Zi Zh Ze Xn Zbs Zab Znd Zi8 Zd4 Zd8 Zd3 Zd7 Zg8 Zg3 Zd6 Zg7 Zg6 Zg5 Zd5 Zg2 Zcw evS wok Q0 Op.operands Call.operands gop atK List.all_cons List.all_nil Value.oneCell' List.take_zero List.take_succ_cons Nat.add_zero K7 Yc ev Qy Znt Zkf Zke Zkk Zki Zkj Zkg Zkh Zkd Zow Zp7 Ztp Zel Gt Zek Zam Zdx Zcn Za9 Zch Zcd Zbc Zcg Zcf Zce Zbb Zcc Zba Zbd Zaa Zh8 Zcm Uc Zdp Ud Zfr Zej Zsk bLo bHi bMx Gu Zfq Zu7 Zeh Zgc Zbu K0 Zo2 Zu8 Zdo Zbr Zu9 Gs Zx6 Zgi Zgm Zgh Zgl Zk2 Zky Zkx Zd1 Zgj Zk1 Zk0 Zkz Zgk Zkt Zkw Zks Zkv Zqh Zqe Zqd Zku Zqf Zqg Zfs Zmz pop TK.isAgg Zk5 Zk9 Zk4 Zk8 Zgr Zqr Zqn Zk7 Zqq Zqp Zqo Zk6 Zqm G.under G.unders List.set_cons_zero List.set_cons_succ List.toList_toArray Option.toArray_none Option.toArray_some Option.map_some Option.map_none Option.bind_some Option.bind_none List.getElem?_cons_zero List.getElem?_cons_succ List.getElem?_nil List.nil_append List.cons_append List.replicate_succ List.replicate_zero List.length_cons List.length_nil IntKind.bits ite_true ite_false eq_self ne_eq cond_true cond_false Option.join_some Int.toNat_natCast eI eL Zde Zko Zkm Zkn Zyu Z01 Zlh Zle Zlf Zub Ziz Zr5 Ziw Zoo G.agg.injEq G.tup.injEq List.flatten_cons List.flatten_nil Zoa Znl G.ren G.rens Zqu Zkb Zkc Option.join_none Kz undef Zge Arr.put_eq Zcq Zld Zlb Zlc onB Zyt Zov Zd2 Zgw Zgv Zgu Zgt Z00 Z0z Zve Zso Vm Zt2 Zm0 Zpo Zpn Zyy Znn Zfp Zga Zca Zc3 Z6t Zrq Z1r Zrr Z6u Zrs Z1s Zrt Z6v Zru Z6w Zrv Z6x Zrw Z6y Zrx Zwh Zlr Zwi Zls Zwj Zlt Zwk Zlu Zwl Zlv Zwm Zlw Zwn Zlx Zwo Zly Zwp Zlz Zwq Zl0 Zwr Zl1 Zws Zl2 Zwt Zl3 Zwu Zl4 Uv Zcz Zsh Zir Zwv Zl5 Zdb Zl6 Zww Zl7 Zwx Zl8 Zwy Zl9 Zwz Zma Zw0 Zmb Zw1 Zmc Zw2 Zis Zw3 Zmd Zw4 Zme Ug Zmf Zw5 Zmg Zw6 Zmh Zw7 Zmi Zuq Zmj Zw8 Zmk Zw9 Zml Zxa Zmm Zxb Zmn Zxc Zmo Zxd Zmp Zxe Zmq Zxf Zmr Zxg Zms Zxh Zmt Zxi Zmu Zxj Zmv Zxk Zmw Zq0 Zha Zoe Zhb Zq1 Zhc Zq2 Zhd Zq3 Zhe Zq4 Zhf Zq5 Zhg Zq6 Zhh Zq7 Zhi Zq8 Zhj Zq9 Zhk Zra Zhl Zrb Zhm Zrc Zhn Zrd Zho Zre Zhp Zrf Zhq Zrg Zhr Zrh Zhs Zri Zht Zrj Zhu Zrk Zhv Zrl Zhw Zjy Zhx Zrm Zhy Zrn Zhz Zro Zh0 Zrp Zh1 Zr Zz Q1 Zy Yu Jn
theorem Ztx (s:Int):∀ (ws:List Int) (segs:List (List Int)) (p w:Int),Y5 segs s p (ws++[w])=Xi (Y5 segs s p ws) s (p+(ws.length:Int)) w
 | [],segs,p,w=>by simp [Y5]
 | v::ws,segs,p,w=>by
  rw [List.cons_append,Y5,Ztx s ws,Y5,List.length_cons]
  congr 1
  omega
theorem Zjz {i j:Nat} {L L1:List NR} (h:L1.map (·.1)=L.map (·.1)) {t:Nat} (ht:ter i j L1 t):ter i j L t:=by
 rcases ht with h | h | ⟨y,hy,rfl⟩
 ·exact .inl h
 ·exact .inr (.inl h)
 have:y.1∈L.map (·.1):=by rw [← h];exact List.mem_map.2 ⟨y,hy,rfl⟩
 obtain ⟨u,hu,e⟩:=List.mem_map.1 this
 exact .inr (.inr ⟨u,hu,e.symm⟩)
attribute [local push_cast] Bool.and_self Nat.zero_add Zc0 List.map_cons List.map_nil and_true true_and Bool.false_eq_true Option.some.injEq exists_eq_left' Zcl Zbe Nat.le_refl Zmx Zuz G4
def HB (i:Nat) (room:Bool):GObj:=⟨false,63,2,1,[.ref i 0,.val (.bool room)]⟩
theorem Yb3 {O:Objs} {n b i j:Nat} {L:List NR} {size most used s p v:Int} {x:NR} (h:PX (HR j size most used) O n i j L) (hb:b < n) (hob:O b=some (HB i true)) (hx:Z5 L s=some x) (hp:0≤p∧p < (x.2.length:Int)) :
  GTo Tryz.prog 37 [.ref b 0,.val (.int .i64 s),.val (.int .i64 p),.val (.int .u64 v)] O n (.tup []) (O.upd x.1 (some ⟨true,49,1,x.2.length,fl (eI .u64) (Xs x.2 p v)⟩)) n:=by
 have hi:=h.hi
 have hj:=h.hj
 have ho:=h.ho
 have hoj:=h.hoj
 have hx1:=h.lt x (Xe hx)
 have hox:=h.hL x (Xe hx)
 unfold HR at ho
 unfold HB at hob
 refine Ye Zc Tryz.call37 Tryz.func37 rfl (Nat.le_of_ble_eq_true rfl) (Nat.le_refl _) fun hU => ?_
 have hlr:∀ i k,Kf O (.row i k)=True:=fun i k=>by simp [Kf]
 obtain ⟨x2,hx2,ax2,bx2,cx2,_⟩:=bE (f:=eN) (K:=fun y=>some y) (r:=x) Uv (fun _=>rfl) (by decide) (by rw [hx];rfl)
 obtain rfl:x2=x:=Option.some.inj (hx2.symm.trans hx)
 have hE:(eN x2)[0]? = some (.row x2.1 x2.2.length):=rfl
 obtain ⟨w0,hw0⟩:∃ w0,Z5 x2.2 p=some w0:=⟨x2.2[p.toNat]'(by omega),by unfold Z5;rw [if_pos hp.1];exact List.getElem?_eq_getElem (by omega)⟩
 have gu:Uj (fl (eI .u64) x2.2) [.val (.int .u64 v)] (Int.toNat p * 1)=some (fl (eI .u64) (Xs x2.2 p v)):=Zgd (f:=eI .u64) (ti:=⟨.bool,1,0,[],false⟩) (x:=v) (fun _=>rfl) (Zbt hw0)
 have hpl:=hp.1
 have hpr:=hp.2
 show W _ _ _ _ ⟨25,[],[(0,.ref b 0),(1,.val (.int .i64 s)),(2,.val (.int .i64 p)),(3,.val (.int .u64 v))]⟩ (Z3 O n []) _
 rw [Jw hU.fresh]
 refine Zk [0,1,2,3,11] (Zb Zc [] ?_)
 simp only [push_cast,seval,Za,hb,hob]
 refine Zo (t:=true) rfl (fun Vn => ?_) (fun Vn=>by cases Vn)
 refine Zb Zc [] ?_
 simp only [push_cast,Nat.reduceAdd,Nat.reduceSub,Nat.reduceMul,Nat.reduceLeDiff,Nat.reduceLT,Nat.reduceEqDiff,↓reduceIte,reduceCtorEq,Int.reduceBEq,Int.reduceBNe,Nat.reduceBEq,Int.reduceLE,Int.reduceLT,Int.reduceEq,Int.reduceNe,Int.reduceNeg,Nat.reduceDiv,Nat.reduceMod,Nat.reducePow,Za,ax2,bx2,cx2,hb,hob,hi,ho,hoj,hj,hE,hlr,hox,hx1,hpl,hpr,gu]
 refine Yz (P:=Tryz.prog) (.inl rfl) (hU.set hx1 (G4 _)) [] (Nat.le_refl _) ?_
 simp only [push_cast,seval,Za,Tryz.results37]
theorem Z4o {O:Objs} {n b i:Nat} {s p v:Int} (hb:b < n) (hob:O b=some (HB i false)) (hi:i < n) :
  GTo Tryz.prog 37 [.ref b 0,.val (.int .i64 s),.val (.int .i64 p),.val (.int .u64 v)] O n (.tup []) O n:=by
 unfold HB at hob
 refine Ye Zc Tryz.call37 Tryz.func37 rfl (Nat.le_of_ble_eq_true rfl) (Nat.le_refl _) fun hU => ?_
 show W _ _ _ _ ⟨25,[],[(0,.ref b 0),(1,.val (.int .i64 s)),(2,.val (.int .i64 p)),(3,.val (.int .u64 v))]⟩ (Z3 O n []) _
 rw [Jw hU.fresh]
 refine Zk [0,1,2,3,11] (Zb Zc [] ?_)
 simp only [push_cast,seval,Za,hb,hob]
 refine Zo (t:=false) rfl (fun Vn=>by cases Vn) (fun Vn => ?_)
 refine Zt ?_
 refine Yz (P:=Tryz.prog) (.inl rfl) hU [] (Nat.le_refl _) ?_
 simp only [push_cast,seval,Za,Tryz.results37]
attribute [local push_cast] List.take_nil List.drop_nil List.append_nil Array.toList_append decide_true Int.le_refl Zr0 Z1y Zrz Kx Za7
theorem Z4p {O:Objs} {n b i j:Nat} {L:List NR} {size most used s p v:Int} (h:PX (HR j size most used) O n i j L) (hb:b < n) (hob:O b=some (HB i true)) (hh:Yl (L.map (·.2)) s p 1=true) :
  ∃ O' L',GTo Tryz.prog 37 [.ref b 0,.val (.int .i64 s),.val (.int .i64 p),.val (.int .u64 v)] O n (.tup []) O' n∧PX (HR j size most used) O' n i j L'∧L'.map (·.1)=L.map (·.1)∧L'.map (·.2)=Xi (L.map (·.2)) s p v∧∀ t,¬ ter i j L t→O' t=O t:=by
 obtain ⟨t,ht⟩:∃ t,Z5 (L.map (·.2)) s=some t:=by
  unfold Yl at hh
  cases e:Z5 (L.map (·.2)) s with
  | none=>rw [e] at hh;cases hh
  | some t=>exact ⟨t,rfl⟩
 have hS:0≤s∧s < (L.length:Int):=by have:=Q4 ht;rwa [List.length_map] at this
 have hx0:∃ x,Z5 L s=some x:=⟨L[s.toNat]'(by omega),by unfold Z5;rw [if_pos hS.1];exact List.getElem?_eq_getElem (by omega)⟩
 obtain ⟨x,hx⟩:=hx0
 have et:t=x.2:=Option.some.inj (ht.symm.trans (Zoy hx))
 subst et
 have hp:0≤p∧p < (x.2.length:Int):=by
  have h2:=hh
  unfold Yl at h2
  rw [ht] at h2
  have:=of_decide_eq_true h2
  omega
 refine ⟨_,Xs L s (x.1,Xs x.2 p v),Yb3 h hb hob hx hp,h.put hx (Kx _ _ _),Zun hx _,?_,fun t ht=>Ybp hx _ ht⟩
 rw [Zuo]
 unfold Xi
 rw [if_pos hh,ht];rfl
theorem Gv (segs:List (List Int)) (s p v s' p' k:Int):Yl (Xi segs s p v) s' p' k=Yl segs s' p' k:=by
 unfold Xi
 by_cases c:Yl segs s p 1=true
 ·rw [if_pos c]
  cases ht:Z5 segs s with
  | none=>unfold Yl at c;rw [ht] at c;cases c
  | some t =>
   have hs:=Q4 ht
   unfold Yl
   by_cases e:s'=s
   ·subst e
    rw [Q2 ht,ht]
    show decide _=decide _
    have:(Xs ((some t).getD []) p v).length=t.length:=Kx _ _ _
    rw [this]
   have:Z5 (Xs segs s (Xs ((some t).getD []) p v)) s'=Z5 segs s':=by
    unfold Z5 Xs
    by_cases c0:0≤s'
    ·rw [if_pos c0,if_pos c0,List.getElem?_set_ne (by omega)]
    rw [if_neg c0,if_neg c0]
   rw [this]
 rw [if_neg c]
theorem Zdy (s s' p' k:Int):∀ (ws:List Int) (segs:List (List Int)) (p:Int),Yl (Y5 segs s p ws) s' p' k=Yl segs s' p' k
 | [],_,_=>rfl
 | w::ws,segs,p=>by rw [Y5,Zdy s s' p' k ws,Gv]
theorem Uk {segs:List (List Int)} {s p q k:Int} (h:Yl segs s p k=true) (h1:p≤q) (h2:q < p+k):Yl segs s q 1=true:=by
 unfold Yl at h ⊢
 cases e:Z5 segs s with
 | none=>rw [e] at h;cases h
 | some t =>
  rw [e] at h
  have:=of_decide_eq_true h
  exact decide_eq_true (by omega)
theorem Ybx {O:Objs} {n b i j:Nat} {L:List NR} {size most used:Int} (h:PX (HR j size most used) O n i j L) (hb:b < n) (hbt:¬ ter i j L b) (hob:O b=some (HB i true)) (s p:Int) (ws:List Int) (hp:p+(ws.length:Int)≤1000000) (hp0:0≤p) (hh:Yl (L.map (·.2)) s p (ws.length:Int)=true∨ws=[]) :
  GCalls Tryz.prog 34 [.ref b 0,.val (.int .i64 s),.val (.int .i64 p),.sl ws.length (fl (eI .u64) ws)] O n fun r O' n'=>r = .tup []∧n≤n'∧∃ L',PX (HR j size most used) O' n' i j L'∧L'.map (·.1)=L.map (·.1)∧L'.map (·.2)=Y5 (L.map (·.2)) s p ws∧(∀ t,t < n→¬ ter i j L t→O' t=O t):=by
 refine Ztj Zc Tryz.call34 Tryz.func34 rfl (Nat.le_of_ble_eq_true rfl) fun hU => ?_
 show W _ _ _ _ ⟨25,[],[(0,.ref b 0),(1,.val (.int .i64 s)),(2,.val (.int .i64 p)),(3,.sl ws.length (fl (eI .u64) ws))]⟩ (Z3 O n []) _
 rw [Jw hU.fresh]
 refine Zk [0,1,2,3,8] (Zb Zc [] ?_)
 simp only [push_cast,seval,Za,hb]
 refine Yo ?_
 refine Zsu (S:=Int×Objs×List NR) (fun q=>⟨25,[],[(0,.ref b 0),(1,.val (.int .i64 s)),(2,.val (.int .i64 p)),(3,.sl ws.length (fl (eI .u64) ws)),(8,.val (.int .i64 q.1))]⟩) (fun q=>q.2.1) (fun _=>n)
  (fun q=>(0≤q.1∧q.1≤(ws.length:Int))∧PX (HR j size most used) q.2.1 n i j q.2.2∧q.2.2.map (·.1)=L.map (·.1)∧q.2.2.map (·.2)=Y5 (L.map (·.2)) s p (ws.take q.1.toNat)∧(∀ t,¬ ter i j L t→q.2.1 t=O t))
  (fun q=>((ws.length:Int) - q.1).toNat) (fun _ _=>Nat.le_refl n) (fun q hq => ?_) (0,O,L) ⟨⟨Int.le_refl _,by omega⟩,h,rfl,rfl,fun _ _=>rfl⟩
 obtain ⟨k,Y,M⟩:=q
 obtain ⟨⟨k0,k1⟩,g1,g2,g3,g5⟩:=hq
 dsimp only at k0 k1 g1 g2 g3 g5 ⊢
 have g4:Y b=some (HB i true):=(g5 b hbt).trans hob
 refine Q8 fun hUY => ?_
 refine Zf ?_
 refine Zk [0,1,2,3,8,12] (Zb Zc [] ?_)
 simp only [push_cast,seval,Za,hb]
 refine Zo (t:=decide (k < (ws.length:Int))) rfl (fun c => ?_) (fun c => ?_)
 ·have c1:k < (ws.length:Int):=of_decide_eq_true c
  refine Zt ?_
  try simp only [Zh,Ze]
  obtain ⟨w,hw⟩:∃ w,Z5 ws k=some w:=⟨ws[k.toNat]'(by omega),by unfold Z5;rw [if_pos k0];exact List.getElem?_eq_getElem (by omega)⟩
  obtain ⟨x5,hx5,ax5,bx5,cx5,_⟩:=bE (f:=eI .u64) (K:=fun y=>some y) (r:=w) Ug (fun _=>rfl) (by decide) (by rw [hw];rfl)
  obtain rfl:x5=w:=Option.some.inj (hx5.symm.trans hw)
  have hh1:Yl (M.map (·.2)) s (p+k) 1=true:=by
   rw [g3,Zdy]
   rcases hh with hh | hh
   ·exact Uk hh (by omega) (by omega)
   rw [hh] at c1;simp at c1;omega
  obtain ⟨Y',M',q1,q2,q3,q4,q5⟩:=Z4p (v:=x5) g1 hb g4 hh1
  have hwp:IntKind.i64.wrap (p+k)=p+k:=Vv (by omega)
  refine Zf ?_
  refine Yo ?_
  refine Zb Zc [] ?_
  simp only [push_cast,Nat.reduceAdd,Nat.reduceSub,Nat.reduceMul,Nat.reduceLeDiff,Nat.reduceLT,Nat.reduceEqDiff,↓reduceIte,reduceCtorEq,Int.reduceBEq,Int.reduceBNe,Nat.reduceBEq,Int.reduceLE,Int.reduceLT,Int.reduceEq,Int.reduceNe,Int.reduceNeg,Nat.reduceDiv,Nat.reduceMod,Nat.reducePow,Za,hb,ax5,bx5,cx5,hwp]
  refine q1.then ?_
  simp only [push_cast,seval,Za,hb]
  refine Q8 fun hUY' => ?_
  refine Zb Zc [] ?_
  have hwk:IntKind.i64.wrap (k+1)=k+1:=Vv (by omega)
  simp only [push_cast,seval,Za,hb,hwk]
  refine .inl ⟨rfl,(k+1,Y',M'),⟨⟨by omega,by omega⟩,q2,q3.trans g2,?_,fun t h2 => ?_⟩,by show ((ws.length:Int) - (k+1)).toNat < ((ws.length:Int) - k).toNat;omega,Kc hUY' (Nat.le_refl n) rfl ?_⟩
  ·have e:ws.take (k+1).toNat=ws.take k.toNat++[x5]:=by
    have h3:=hw
    unfold Z5 at h3
    rw [if_pos k0] at h3
    rw [show (k+1).toNat=k.toNat+1 by omega,List.take_add_one,h3];rfl
   show M'.map (·.2)=Y5 (L.map (·.2)) s p (ws.take (k+1).toNat)
   rw [e,Ztx,q4,g3]
   congr 1
   rw [List.length_take]
   omega
  ·show Y' t=O t
   rw [q5 t (fun q=>h2 (Zjz g2 q))];exact g5 t h2
  simp only [push_cast,seval,Za,hb]
 have c1:¬ k < (ws.length:Int):=of_decide_eq_false c
 refine Q7 ?_
 try simp only [Zh,Ze,↓reduceIte,Nat.reduceEqDiff]
 refine .inr ⟨(fun h=>by cases h),?_⟩
 have ek:ws.take k.toNat=ws:=List.take_of_length_le (by omega)
 rw [ek] at g3
 show Zzj _ _ _ _ .normal _ _ _
 refine ⟨.tup [],Y,n,Nat.le_refl n,⟨rfl,Nat.le_refl n,M,g1,g2,g3,fun t _=>g5 t⟩,?_⟩
 refine Yz (P:=Tryz.prog) (.inl rfl) hUY [] (Nat.le_refl n) ?_
 simp only [push_cast,seval,Za,Tryz.results34]
theorem Z0j {L:List NR} {x:NR} (h0:0 < L.length) (hx:Z5 L ((L.length:Int) - 1)=some x):Q3 (L.map (·.2))=x.2:=by
 have h:=Zoy hx
 unfold Z5 at h
 rw [if_pos (by omega),show ((L.length:Int) - 1).toNat=L.length - 1 by omega] at h
 unfold Q3
 rw [List.length_map,h];rfl
theorem Ycw {L:List NR} (h0:0 < L.length):∃ x,Z5 L ((L.length:Int) - 1)=some x:=⟨L[((L.length:Int) - 1).toNat]'(by omega),by unfold Z5;rw [if_pos (by omega)];exact List.getElem?_eq_getElem (by omega)⟩
theorem Z9r {O:Objs} {n i j:Nat} {L:List NR} {size most left:Int} (h:PX (HR j size most (most - left)) O n i j L) (h16:L.length≤16) (hl0:0≤left) (hl:left≤131072) (hm:left≤most) (hm2:most≤131072) (hB:∀ x∈L,(x.2.length:Int)+left≤131072) (k:Int) :
  ∃ O' n' L',GTo Tryz.prog 32 [.ref i 0,.val (.int .i64 k)] O n (.tup [.val (.int .i64 (bif (Xf (L.map (·.2)) size left k).2.2.1 then (Xf (L.map (·.2)) size left k).1 else -1)),.val (.int .i64 (bif (Xf (L.map (·.2)) size left k).2.2.1 then (Xf (L.map (·.2)) size left k).2.1 else -1))]) O' n'∧n≤n' ∧
   PX (HR j size most (most - (Xf (L.map (·.2)) size left k).2.2.2.2)) O' n' i j L'∧L'.map (·.2)=(Xf (L.map (·.2)) size left k).2.2.2.1∧(∀ t,ter i j L' t→ter i j L t∨n≤t)∧(∀ t,t < n→¬ ter i j L t→O' t=O t):=by
 have hwl:IntKind.i64.wrap (most - (most - left))=left:=by rw [Vv (by omega)];omega
 by_cases c:k < 0∨left < k
 ·have e:Xf (L.map (·.2)) size left k=(0,0,false,L.map (·.2),left):=if_pos c
  rw [e]
  exact ⟨O,n,L,Z1d h.hi h.hj h.ho h.hoj (by rw [hwl];exact c),Nat.le_refl _,h,rfl,fun t ht => .inl ht,fun _ _ _=>rfl⟩
 by_cases c2:(L.map (·.2)).length=0∨(L.map (·.2)).length < 16∧¬ k≤IntKind.i64.wrap (size - ((Q3 (L.map (·.2))).length:Int))
 ·have e:Xf (L.map (·.2)) size left k=(((L.map (·.2)).length:Int),0,true,L.map (·.2)++[zl [] k],IntKind.i64.wrap (left - k)):=(if_neg c).trans (if_pos c2)
  rw [List.length_map] at c2 e
  have hf:L.length=0∨L.length < 16∧∃ x,Z5 L ((L.length:Int) - 1)=some x∧¬ k≤IntKind.i64.wrap (size - (x.2.length:Int)):=by
   by_cases h0:L.length=0
   ·exact .inl h0
   obtain ⟨q1,q2⟩:=c2.resolve_left h0
   obtain ⟨x,hx⟩:=Ycw (L:=L) (by omega)
   exact .inr ⟨q1,x,hx,by rw [← Z0j (by omega) hx];exact q2⟩
  have hw:IntKind.i64.wrap ((most - left)+k)=most - IntKind.i64.wrap (left - k):=by rw [Vv (by omega),Vv (by omega)];omega
  have g:=Zy5 (k:=k) h.hi h.hj h.lt h.hij h.ho h.hoj (by omega) (by rw [hwl];omega) (by omega) (by omega) hf
  rw [hw] at g
  rw [e]
  exact ⟨_,n+1,L++[(n,zl [] k)],g,Nat.le_succ n,h.new _ _,by simp,fun t ht=>(Ycf ht).imp id (fun q=>by omega),fun t ht h1=>Ybo _ _ _ h1 (by omega)⟩
 have e:Xf (L.map (·.2)) size left k=(((L.map (·.2)).length:Int) - 1,((Q3 (L.map (·.2))).length:Int),true,(L.map (·.2)).set ((L.map (·.2)).length - 1) (zl (Q3 (L.map (·.2))) k),IntKind.i64.wrap (left - k)):=(if_neg c).trans (if_neg c2)
 rw [List.length_map] at c2 e
 obtain ⟨x,hx⟩:=Ycw (L:=L) (by omega)
 have hla:=Z0j (by omega) hx
 rw [hla] at c2 e
 have bx:=hB x (Xe hx)
 have hw:IntKind.i64.wrap ((most - left)+k)=most - IntKind.i64.wrap (left - k):=by rw [Vv (by omega),Vv (by omega)];omega
 have g:=Z1c (k:=k) h.hi h.hj h.lt h.hij (h.ni x (Xe hx)) (h.nj x (Xe hx)) h.ho h.hoj hx (h.hL x (Xe hx)) (by omega) (by rw [hwl];omega) (by omega) (by omega) (by
  by_cases q:k≤IntKind.i64.wrap (size - (x.2.length:Int))
  ·exact .inl q
  exact .inr (by omega))
 rw [hw] at g
 rw [e]
 refine ⟨_,n,Xs L ((L.length:Int) - 1) (x.1,zl x.2 k),g,Nat.le_refl n,h.set hx _ _,?_,fun t ht => .inl (Zzc hx _ ht),fun t ht h1=>Zyo hx _ _ _ h1⟩
 rw [Zuo]
 unfold Xs
 rw [show ((L.length:Int) - 1).toNat=L.length - 1 by omega]
attribute [local push_cast] List.drop_succ_cons Zdc Yj
theorem Zzu {O:Objs} {n b i j:Nat} {L:List NR} {size most left:Int} (h:PX (HR j size most (most - left)) O n i j L) (hb:b < n) (hbt:¬ ter i j L b) (hob:O b=some (HB i true)) (h16:L.length≤16) (hl0:0≤left) (hl:left≤131072) (hm:left≤most) (hm2:most≤131072) (hB:∀ x∈L,(x.2.length:Int)+left≤131072) (k:Int)
  (hpos:(Xf (L.map (·.2)) size left k).2.2.1=true→0≤(Xf (L.map (·.2)) size left k).1) :
  ∃ O' n' L',GTo Tryz.prog 17 [.ref b 0,.val (.int .i64 k)] O n (.tup [.val (.int .i64 (bif (Xf (L.map (·.2)) size left k).2.2.1 then (Xf (L.map (·.2)) size left k).1 else -1)),.val (.int .i64 (bif (Xf (L.map (·.2)) size left k).2.2.1 then (Xf (L.map (·.2)) size left k).2.1 else -1))]) O' n'∧n≤n' ∧
   O' b=some (HB i (Xf (L.map (·.2)) size left k).2.2.1)∧PX (HR j size most (most - (Xf (L.map (·.2)) size left k).2.2.2.2)) O' n' i j L'∧L'.map (·.2)=(Xf (L.map (·.2)) size left k).2.2.2.1∧(∀ t,ter i j L' t→ter i j L t∨n≤t)∧(∀ t,t < n→t≠b→¬ ter i j L t→O' t=O t):=by
 obtain ⟨Y,m,M,g,g1,g2,g3,g4,g5⟩:=Z9r h h16 hl0 hl hm hm2 hB k
 obtain ⟨R,hR⟩:∃ R,R=Xf (L.map (·.2)) size left k:=⟨_,rfl⟩
 rw [← hR] at g g2 g3 hpos ⊢
 have hYb:Y b=some (HB i true):=(g5 b hb hbt).trans hob
 have hbm:b < m:=by omega
 have him:=g2.hi
 have hi:=h.hi
 have hbt2:¬ ter i j M b:=fun q=>(g4 b q).elim (fun q=>hbt q) (fun q=>by omega)
 have hii:i≠b:=fun e=>hbt (.inl e.symm)
 refine ⟨Y.upd b (some (HB i R.2.2.1)),m,M,?_,g1,Yj _ _ _,g2.frame (fun t ht=>Yb _ _ (fun e=>hbt2 (e ▸ ht))) (Nat.le_refl m),g3,g4,fun t h1 h2 h3=>by rw [Yb _ _ h2];exact g5 t h1 h3⟩
 refine Ye Zc Tryz.call17 Tryz.func17 rfl (Nat.le_of_ble_eq_true rfl) g1 fun hU => ?_
 have hob':=hob
 have hYb':=hYb
 unfold HB at hob' hYb'
 show W _ _ _ _ ⟨24,[],[(0,.ref b 0),(1,.val (.int .i64 k))]⟩ (Z3 O n []) _
 rw [Jw hU.fresh]
 refine Zk [0,1] (Zb Zc [] ?_)
 simp only [push_cast,seval,Za,hb]
 refine Zk [0,6,7] (Zb Zc [] ?_)
 simp only [push_cast,seval,Za,hb,hi,hob']
 refine g.then ?_
 simp only [push_cast,seval,Za,hbm]
 refine Q8 fun hUY => ?_
 cases c:R.2.2.1 with
 | true =>
  have d1:decide (R.1 < 0)=false:=decide_eq_false (by have:=hpos c;omega)
  have e1:Y.upd b (some (HB i true))=Y:=Zj3 hYb
  rw [e1]
  simp only [cond_true]
  refine Yr (E':=⟨24,[],[(6,.val (.int .i64 R.1)),(7,.val (.int .i64 R.2.1))]⟩) (O':=Y) (n0:=m) ?_ ?_
  ·refine Zk [0,6,7,18] (Zb Zc [] ?_)
   simp only [push_cast,seval,Za,hbm,d1]
   refine Zo (t:=false) rfl (fun Vn=>by cases Vn) (fun Vn => ?_)
   refine Zt ?_
   refine And.intro rfl (Kc hUY g1 rfl ?_)
   simp only [push_cast,seval,Za]
  refine Zk [4,5] (Zb Zc [] ?_)
  simp only [push_cast,seval,Za]
  refine Zu ?_
  refine Yz (P:=Tryz.prog) (.inr rfl) hUY [.val (.int .i64 R.1),.val (.int .i64 R.2.1)] g1 ?_
  simp only [push_cast,seval,Za,Tryz.results17]
 | false =>
  simp only [cond_false]
  have hU3:Und (Y.upd b (some (HB i false))) m:=hUY.set hbm (by simp [HB,G.unders,G.under,him])
  refine Yr (E':=⟨24,[],[(6,.val (.int .i64 (-1))),(7,.val (.int .i64 (-1)))]⟩) (O':=Y.upd b (some (HB i false))) (n0:=m) ?_ ?_
  ·refine Zk [0,6,7,18] (Zb Zc [] ?_)
   simp only [push_cast,seval,Za,hbm]
   refine Zo (t:=true) rfl (fun Vn => ?_) (fun Vn=>by cases Vn)
   refine Zb Zc [] ?_
   simp only [push_cast,seval,Za,hbm,hYb']
   refine And.intro rfl (Kc hU3 g1 rfl ?_)
   simp only [push_cast,seval,Za]
  refine Zk [4,5] (Zb Zc [] ?_)
  simp only [push_cast,seval,Za]
  refine Zu ?_
  refine Yz (P:=Tryz.prog) (.inr rfl) hU3 [.val (.int .i64 (-1)),.val (.int .i64 (-1))] g1 ?_
  simp only [push_cast,seval,Za,Tryz.results17]
attribute [local push_cast] not_false_eq_true decide_eq_true_eq List.length_append exists_const
theorem Zkl {α:Type} {L:List α} {s:Int} (h0:0≤s) (h:s < (L.length:Int)):∃ x,Z5 L s=some x:=⟨L[s.toNat]'(by omega),by unfold Z5;rw [if_pos h0];exact List.getElem?_eq_getElem (by omega)⟩
def vA (A:List (List Int)) (s p:Int):Option Int:=(Z5 A s).bind fun x=>Z5 x p
theorem Zcj {α:Type} {L:List α} {s q:Int} (y:α) (h:q≠s):Z5 (Xs L s y) q=Z5 L q∨(s < 0):=by
 by_cases c:s < 0
 ·exact .inr c
 left
 unfold Z5 Xs
 by_cases c0:0≤q
 ·rw [if_pos c0,if_pos c0,List.getElem?_set_ne (by omega)]
 rw [if_neg c0,if_neg c0]
theorem Zz9 {α:Type} {x y:List α} (h:∀ p,Z5 x p=Z5 y p):x=y:=by
 apply List.ext_getElem?
 intro i
 have:=h (i:Int)
 unfold Z5 at this
 rwa [if_pos (by omega),if_pos (by omega),Int.toNat_natCast] at this
theorem Zux {A B:List (List Int)} (hl:A.length=B.length) (h:∀ s p,vA A s p=vA B s p):A=B:=by
 apply Zz9
 intro s
 cases ha:Z5 A s with
 | none =>
  cases hb:Z5 B s with
  | none=>rfl
  | some y =>
   have h1:=Zgb ha
   have h2:=Q4 hb
   omega
 | some x =>
  cases hb:Z5 B s with
  | none =>
   have h1:=Zgb hb
   have h2:=Q4 ha
   omega
  | some y =>
   refine congrArg some (Zz9 fun p => ?_)
   have:=h s p
   unfold vA at this
   rw [ha,hb] at this
   exact this
theorem hasB_iff {A:List (List Int)} {s p:Int}:Yl A s p 1=true↔∃ v,vA A s p=some v:=by
 unfold Yl vA
 cases ha:Z5 A s with
 | none=>simp
 | some x =>
  rw [Option.bind_some,decide_eq_true_eq]
  constructor
  ·intro h;exact Zkl (by omega) (by omega)
  intro ⟨v,hv⟩;have:=Q4 hv;omega
theorem Qw {A:List (List Int)} {s p k:Int} (h:Yl A s p k=true):∃ x,Z5 A s=some x∧0≤p∧0≤k∧p+k≤(x.length:Int):=by
 unfold Yl at h
 cases e:Z5 A s with
 | none=>rw [e] at h;cases h
 | some t=>rw [e] at h;have:=of_decide_eq_true h;exact ⟨t,rfl,by omega⟩
theorem Zh9 {A:List (List Int)} {s p k:Int} {x:List Int} (h:Z5 A s=some x) (h0:0≤p) (h1:0≤k) (h2:p+k≤(x.length:Int)):Yl A s p k=true:=by
 unfold Yl
 rw [h]
 exact decide_eq_true (by omega)
theorem Ki (A:List (List Int)) (s p v:Int):(Xi A s p v).length=A.length:=by
 unfold Xi
 split
 ·exact Kx _ _ _
 rfl
theorem Zll {A:List (List Int)} {s p:Int} (v:Int) (h:¬ Yl A s p 1=true):Xi A s p v=A:=by unfold Xi;rw [if_neg h]
theorem Kj {A:List (List Int)} {s p:Int} (v:Int) (h:Yl A s p 1=true) (s' p':Int):vA (Xi A s p v) s' p'=if s'=s∧p'=p then some v else vA A s' p':=by
 obtain ⟨x,hx,h0,_,h2⟩:=Qw h
 have hs:=Q4 hx
 unfold Xi vA
 rw [if_pos h,hx,Option.getD_some]
 by_cases c:s'=s
 ·subst c
  rw [Q2 hx,hx,Option.bind_some,Option.bind_some]
  by_cases c2:p'=p
  ·subst c2
   obtain ⟨w,hw⟩:=Zkl (L:=x) h0 (by omega)
   rw [Q2 hw,if_pos ⟨rfl,rfl⟩]
  rw [if_neg (fun q=>c2 q.2)]
  rcases Zcj (L:=x) v c2 with q | q
  ·exact q
  omega
 rw [if_neg (fun q=>c q.1)]
 rcases Zcj (L:=A) (Xs x p v) c with q | q
 ·rw [q]
 omega
theorem Zy2 (A:List (List Int)) {s p s' p':Int} (v v':Int) (h:¬ (s'=s∧p'=p)):Xi (Xi A s p v) s' p' v'=Xi (Xi A s' p' v') s p v:=by
 by_cases c:Yl A s p 1=true
 ·by_cases c':Yl A s' p' 1=true
  ·have d:Yl (Xi A s p v) s' p' 1=true:=by rw [Gv];exact c'
   have d':Yl (Xi A s' p' v') s p 1=true:=by rw [Gv];exact c
   refine Zux (by simp only [Ki]) fun a b => ?_
   rw [Kj _ d,Kj _ c,Kj _ d',Kj _ c']
   by_cases e:a=s'∧b=p'
   ·rw [if_pos e,if_pos e,if_neg (fun q=>h ⟨e.1.symm.trans q.1,e.2.symm.trans q.2⟩)]
   rw [if_neg e,if_neg e]
  rw [Zll v' c',Zll v' (by rw [Gv];exact c')]
 rw [Zll v c,Zll v (by rw [Gv];exact c)]
theorem Z1a {A:List (List Int)} {s p v:Int} (h:vA A s p=some v):Xi A s p v=A:=by
 have c:Yl A s p 1=true:=hasB_iff.2 ⟨v,h⟩
 refine Zux (Ki _ _ _ _) fun a b => ?_
 rw [Kj _ c]
 split
 ·rename_i e;rw [e.1,e.2,h]
 rfl
theorem Zgz (s p v s':Int):∀ (ws:List Int) (A:List (List Int)) (p':Int),¬ (s=s'∧p'≤p∧p < p'+(ws.length:Int))→Y5 (Xi A s p v) s' p' ws=Xi (Y5 A s' p' ws) s p v
 | [],_,_,_=>rfl
 | w::ws,A,p',h=>by
  rw [List.length_cons] at h
  rw [Y5,Y5,Zy2 A v w (fun q=>h ⟨q.1.symm,by omega⟩),Zgz s p v s' ws _ _ (fun q=>h ⟨q.1,by omega⟩)]
theorem Z0a {A:List (List Int)} {s p:Int} (v:Int) {q:Int} {x:List Int} (h:Z5 A q=some x):∃ y,Z5 (Xi A s p v) q=some y∧y.length=x.length:=by
 unfold Xi
 split
 ·rename_i c
  obtain ⟨z,hz,_⟩:=Qw c
  by_cases e:q=s
  ·subst e
   rw [h]
   exact ⟨_,Q2 h,Kx _ _ _⟩
  rcases Zcj (L:=A) (Xs ((Z5 A s).getD []) p v) e with g | g
  ·rw [g];exact ⟨x,h,rfl⟩
  have:=Q4 hz;omega
 exact ⟨x,h,rfl⟩
theorem Zdz {A:List (List Int)} (h:A.length≠0):Z5 A ((A.length:Int) - 1)=some (Q3 A):=by
 unfold Z5 Q3
 rw [if_pos (by omega),show ((A.length:Int) - 1).toNat=A.length - 1 by omega]
 rw [List.getElem?_eq_getElem (by omega)];rfl
theorem Zkq (A:List (List Int)) (s p v:Int):(Q3 (Xi A s p v)).length=(Q3 A).length:=by
 by_cases h:A.length=0
 ·have:A=[]:=List.length_eq_zero_iff.1 h
  subst this
  rw [Zll]
  unfold Yl Z5
  simp
 obtain ⟨y,h1,h2⟩:=Z0a (s:=s) (p:=p) v (Zdz h)
 have:=Zdz (A:=Xi A s p v) (by rw [Ki];exact h)
 rw [Ki,h1] at this
 rw [← Option.some.inj this,h2]
theorem Zfm {A:List (List Int)} {s0:Int} {x:List Int} (h:Z5 A s0=some x) {k:Int} (hk:0≤k) (s p:Int):vA (Xs A s0 (zl x k)) s p=if s=s0∧(x.length:Int)≤p∧p < (x.length:Int)+k then some 0 else vA A s p:=by
 have hs:=Q4 h
 unfold vA
 by_cases c:s=s0
 ·subst c
  rw [Q2 h,h,Option.bind_some,Option.bind_some]
  unfold Z5 zl
  by_cases c0:0≤p
  ·rw [if_pos c0]
   by_cases c1:p < (x.length:Int)
   ·rw [if_neg (by omega),List.getElem?_append_left (by omega),if_pos c0]
   rw [List.getElem?_append_right (by omega),List.getElem?_replicate]
   by_cases c2:p < (x.length:Int)+k
   ·rw [if_pos (by omega),if_pos ⟨rfl,by omega,c2⟩]
   rw [if_neg (by omega),if_neg (by omega),if_pos c0,List.getElem?_eq_none (by omega)]
  rw [if_neg c0,if_neg (by omega),if_neg c0]
 rw [if_neg (fun q=>c q.1)]
 rcases Zcj (L:=A) (zl x k) c with q | q
 ·rw [q]
 omega
theorem Zzf {A:List (List Int)} {k:Int} (hk:0≤k) (s p:Int):vA (A++[zl [] k]) s p=if s=(A.length:Int)∧0≤p∧p < k then some 0 else vA A s p:=by
 unfold vA
 have e:Z5 (A++[zl [] k]) s=if s=(A.length:Int) then some (zl [] k) else Z5 A s:=by
  unfold Z5
  by_cases c:0≤s
  ·rw [if_pos c,if_pos c]
   by_cases c1:s=(A.length:Int)
   ·rw [if_pos c1,c1,Int.toNat_natCast,List.getElem?_append_right (Nat.le_refl _),Nat.sub_self];rfl
   rw [if_neg c1]
   by_cases c2:s < (A.length:Int)
   ·rw [List.getElem?_append_left (by omega)]
   rw [List.getElem?_eq_none (by simp;omega),List.getElem?_eq_none (by omega)]
  rw [if_neg c,if_neg c,if_neg (by omega)]
 rw [e]
 by_cases c:s=(A.length:Int)
 ·rw [if_pos c,Option.bind_some]
  have hn:Z5 A s=none:=by
   cases h:Z5 A s with
   | none=>rfl
   | some x=>have:=Q4 h;omega
  rw [hn]
  unfold Z5 zl
  by_cases c0:0≤p
  ·rw [if_pos c0,List.nil_append,List.getElem?_replicate]
   by_cases c2:p < k
   ·rw [if_pos (by omega),if_pos ⟨c,c0,c2⟩]
   rw [if_neg (by omega),if_neg (by omega)];rfl
  rw [if_neg c0,if_neg (by omega)];rfl
 rw [if_neg c,if_neg (fun q=>c q.1)]
theorem Z75 {A:List (List Int)} {s p:Int} (v:Int) (h:Yl A s p 1=true) (size left k:Int) :
  Xf (Xi A s p v) size left k=((Xf A size left k).1,(Xf A size left k).2.1,(Xf A size left k).2.2.1,Xi (Xf A size left k).2.2.2.1 s p v,(Xf A size left k).2.2.2.2):=by
 by_cases c:k < 0∨left < k
 ·have e:∀ A,Xf A size left k=(0,0,false,A,left):=fun A=>if_pos c
  rw [e,e]
 obtain ⟨x,hx,h0,_,h2⟩:=Qw h
 have hs:=Q4 hx
 by_cases c2:A.length=0∨A.length < 16∧¬ k≤IntKind.i64.wrap (size - ((Q3 A).length:Int))
 ·have e:Xf A size left k=((A.length:Int),0,true,A++[zl [] k],IntKind.i64.wrap (left - k)):=(if_neg c).trans (if_pos c2)
  have e':Xf (Xi A s p v) size left k=((A.length:Int),0,true,Xi A s p v++[zl [] k],IntKind.i64.wrap (left - k)):=by
   have:=(if_neg c).trans (if_pos (by rw [Ki,Zkq];exact c2)) (a:=Xf (Xi A s p v) size left k)
   rw [Ki] at this
   exact this
  rw [e,e']
  have hb:Yl (A++[zl [] k]) s p 1=true:=hasB_iff.2 (by
   obtain ⟨w,hw⟩:=hasB_iff.1 h
   rw [Zzf (by omega),if_neg (by omega)];exact ⟨w,hw⟩)
  have:Xi A s p v++[zl [] k]=Xi (A++[zl [] k]) s p v:=by
   refine Zux (by simp [Ki]) fun a b => ?_
   rw [Zzf (by omega),Kj _ hb,Zzf (by omega),Kj _ h,Ki]
   by_cases q:a=s∧b=p
   ·rw [if_pos q,if_pos q,if_neg (by omega)]
   rw [if_neg q,if_neg q]
  rw [this]
 have e:Xf A size left k=((A.length:Int) - 1,((Q3 A).length:Int),true,A.set (A.length - 1) (zl (Q3 A) k),IntKind.i64.wrap (left - k)):=(if_neg c).trans (if_neg c2)
 have e':Xf (Xi A s p v) size left k=((A.length:Int) - 1,((Q3 A).length:Int),true,(Xi A s p v).set (A.length - 1) (zl (Q3 (Xi A s p v)) k),IntKind.i64.wrap (left - k)):=by
  have:=(if_neg c).trans (if_neg (by rw [Ki,Zkq];exact c2)) (a:=Xf (Xi A s p v) size left k)
  rw [Ki,Zkq] at this
  exact this
 rw [e,e']
 have hA:A.length≠0:=by omega
 have se:∀ (B:List (List Int)) (z:List Int),B.length=A.length→B.set (A.length - 1) z=Xs B ((A.length:Int) - 1) z:=fun B z hB=>by
  unfold Xs;rw [show ((A.length:Int) - 1).toNat=A.length - 1 by omega]
 have l1:=Zdz hA
 have l2:=Zdz (A:=Xi A s p v) (by rw [Ki];exact hA)
 rw [Ki] at l2
 have hb:Yl (Xs A ((A.length:Int) - 1) (zl (Q3 A) k)) s p 1=true:=hasB_iff.2 (by
  obtain ⟨w,hw⟩:=hasB_iff.1 h
  rw [Zfm l1 (by omega)]
  split
  ·exact ⟨0,rfl⟩
  exact ⟨w,hw⟩)
 have:(Xi A s p v).set (A.length - 1) (zl (Q3 (Xi A s p v)) k)=Xi (A.set (A.length - 1) (zl (Q3 A) k)) s p v:=by
  rw [se _ _ (Ki _ _ _ _),se _ _ rfl]
  refine Zux (by simp only [Kx,Ki]) fun a b => ?_
  rw [Zfm l2 (by omega),Kj _ hb,Zfm l1 (by omega),Kj _ h,Zkq]
  by_cases q:a=s∧b=p
  ·rw [if_pos q,if_pos q,if_neg]
   intro q2
   rw [q.1] at q2
   rw [← q2.1,hx] at l1
   have:=Option.some.inj l1
   rw [← this] at q2
   omega
  rw [if_neg q,if_neg q]
 rw [this]
abbrev SG:=List (List Int)×Int
noncomputable def pt1 (s p v:Int) (σ:SG):SG:=(Xi σ.1 s p v,σ.2)
noncomputable def Ys (size:Int) (σ:SG) (k:Int):Option (Int×Int×SG):=bif (Xf σ.1 size σ.2 k).2.2.1 then some ((Xf σ.1 size σ.2 k).1,(Xf σ.1 size σ.2 k).2.1,(Xf σ.1 size σ.2 k).2.2.2) else none
open Classical in
noncomputable def inO (size:Int) (σ:SG) (s:Int):Option (Int×SG):=match Z5 σ.1 s with
 | none=>none
 | some x=>if 1≤σ.2∧1≤IntKind.i64.wrap (size - (x.length:Int)) then some ((x.length:Int),Xs σ.1 s (zl x 1),IntKind.i64.wrap (σ.2 - 1)) else none
def nw (a b k u:Int):Int:=(b - a - 1) % 1073741824 * 4+k+u * 4294967296
def fw (h b d:Int):Int:=2+4 * d+8 * b+4294967296 * h
open Classical in
/-- a pointer, and its pads -/
noncomputable def K5 (size:Int) (σ:SG) (s p k u h b:Int):Option SG :=
 if k=0∧u=0 then some (pt1 s p 4294967292 σ)
 else if h=s then some (pt1 s p (nw p b k u) σ)
 else match inO size σ h with
  | some r=>some (pt1 s p (fw h r.1 0) (pt1 h r.1 (nw r.1 b k u) r.2))
  | none=>(Ys size σ 2).map fun r=>pt1 s p (fw r.1 r.2.1 1) (Y5 r.2.2.1 r.1 r.2.1 [fw h b 0,k+u * 4294967296],r.2.2.2)
structure St (size most:Int) (σ:SG):Prop where
 h16:σ.1.length≤16
 hl0:0≤σ.2
 hm:σ.2≤most
 hmm:most≤131072
 hB:∀ x∈σ.1,(x.length:Int)+σ.2≤131072
def Ex (σ τ:SG):Prop:=∀ s p m,Yl σ.1 s p m=true→Yl τ.1 s p m=true
theorem Ex.refl (σ:SG):Ex σ σ:=fun _ _ _ h=>h
theorem Ex.trans {σ τ ρ:SG} (h:Ex σ τ) (h':Ex τ ρ):Ex σ ρ:=fun s p m q=>h' s p m (h s p m q)
theorem Ex.put (s p v:Int) (σ:SG):Ex σ (pt1 s p v σ):=fun s' p' m h=>by show Yl (Xi σ.1 s p v) s' p' m=true;rw [Gv];exact h
theorem Ex.lays (s p:Int) (ws:List Int) (σ:SG):Ex σ (Y5 σ.1 s p ws,σ.2):=fun s' p' m h=>by show Yl (Y5 σ.1 s p ws) s' p' m=true;rw [Zdy];exact h
theorem Ybd {A:List (List Int)} {s p v:Int} {y:List Int} (h:y∈Xi A s p v):∃ x∈A,y.length=x.length:=by
 unfold Xi at h
 split at h
 ·rename_i c
  obtain ⟨z,hz,_⟩:=Qw c
  rcases List.mem_or_eq_of_mem_set h with q | q
  ·exact ⟨y,q,rfl⟩
  rw [hz] at q
  exact ⟨z,Xe hz,by rw [q];exact Kx _ _ _⟩
 exact ⟨y,h,rfl⟩
theorem St.put {size most:Int} {σ:SG} (h:St size most σ) (s p v:Int):St size most (pt1 s p v σ) :=
 ⟨by show (Xi σ.1 s p v).length≤16;rw [Ki];exact h.h16,h.hl0,h.hm,h.hmm,fun y hy=>by obtain ⟨x,hx,e⟩:=Ybd hy;rw [e];exact h.hB x hx⟩
theorem St.lays {size most:Int} (s:Int):∀ (ws:List Int) {σ:SG} (_:St size most σ) (p:Int),St size most (Y5 σ.1 s p ws,σ.2)
 | [],_,h,_=>h
 | w::ws,σ,h,p=>St.lays s ws (h.put s p w) (p+1)
theorem Zoz {size:Int} {σ:SG} {k:Int} {r:Int×Int×SG} (h:Ys size σ k=some r):(Xf σ.1 size σ.2 k).2.2.1=true∧r=((Xf σ.1 size σ.2 k).1,(Xf σ.1 size σ.2 k).2.1,(Xf σ.1 size σ.2 k).2.2.2):=by
 unfold Ys at h
 cases c:(Xf σ.1 size σ.2 k).2.2.1 with
 | true=>rw [c,cond_true] at h;exact ⟨rfl,(Option.some.inj h).symm⟩
 | false=>rw [c,cond_false] at h;cases h
theorem Qj {size most:Int} {σ:SG} {k:Int} {r:Int×Int×SG} (hs:St size most σ) (h:Ys size σ k=some r) :
  0≤k∧0≤r.1∧0≤r.2.1∧r.2.1+k≤131072∧St size most r.2.2∧Ex σ r.2.2∧Yl r.2.2.1 r.1 r.2.1 k=true∧(∀ s p,vA r.2.2.1 s p=if s=r.1∧r.2.1≤p∧p < r.2.1+k then some 0 else vA σ.1 s p)∧(∀ p,Yl σ.1 r.1 p 1=true→p < r.2.1):=by
 obtain ⟨h1,rfl⟩:=Zoz h
 have ex:∀ (A B:List (List Int)),(∀ s x,Z5 A s=some x→∃ y,Z5 B s=some y∧x.length≤y.length)→∀ s p m,Yl A s p m=true→Yl B s p m=true:=fun A B hAB s p m q=>by
  obtain ⟨x,hx,a,b,c⟩:=Qw q
  obtain ⟨y,hy,hl⟩:=hAB s x hx
  exact Zh9 hy a b (by omega)
 by_cases c:k < 0∨σ.2 < k
 ·have e:Xf σ.1 size σ.2 k=(0,0,false,σ.1,σ.2):=if_pos c
  rw [e] at h1;cases h1
 have:=hs.hm
 have:=hs.hmm
 have hw:IntKind.i64.wrap (σ.2 - k)=σ.2 - k:=Vv (by omega)
 by_cases c2:σ.1.length=0∨σ.1.length < 16∧¬ k≤IntKind.i64.wrap (size - ((Q3 σ.1).length:Int))
 ·have e:Xf σ.1 size σ.2 k=((σ.1.length:Int),0,true,σ.1++[zl [] k],IntKind.i64.wrap (σ.2 - k)):=(if_neg c).trans (if_pos c2)
  rw [e,hw]
  have hz:(zl [] k).length=k.toNat:=by unfold zl;simp
  refine ⟨by omega,by show (0:Int)≤(σ.1.length:Int);omega,Int.le_refl _,by show 0+k≤131072;omega,⟨by show (σ.1++[zl [] k]).length≤16;rw [List.length_append,List.length_singleton];omega,by show 0≤σ.2 - k;omega,by show σ.2 - k≤most;omega,hs.hmm,fun x hx => ?_⟩,ex _ _ fun s x hx=>⟨x,?_,Nat.le_refl _⟩,?_,fun s p => ?_,fun p hp => ?_⟩
  ·show (x.length:Int)+(σ.2 - k)≤131072
   rcases List.mem_append.1 hx with q | q
   ·have:=hs.hB x q;omega
   rw [List.mem_singleton.1 q,hz];omega
  ·have:=Q4 hx
   unfold Z5 at hx ⊢
   rw [if_pos this.1] at hx ⊢
   rw [List.getElem?_append_left (by omega)];exact hx
  ·refine Zh9 (x:=zl [] k) ?_ (Int.le_refl _) (by omega) (by rw [hz];show 0+k≤_;omega)
   show Z5 (σ.1++[zl [] k]) (σ.1.length:Int)=_
   unfold Z5
   rw [if_pos (by omega),Int.toNat_natCast,List.getElem?_append_right (Nat.le_refl _),Nat.sub_self];rfl
  ·show vA (σ.1++[zl [] k]) s p=if s=(σ.1.length:Int)∧0≤p∧p < 0+k then some 0 else vA σ.1 s p
   rw [Zzf (by omega),Int.zero_add]
  obtain ⟨x,hx,_⟩:=Qw hp
  have:=Q4 hx
  have:(σ.1.length:Int) < σ.1.length:=this.2
  omega
 have e:Xf σ.1 size σ.2 k=((σ.1.length:Int) - 1,((Q3 σ.1).length:Int),true,σ.1.set (σ.1.length - 1) (zl (Q3 σ.1) k),IntKind.i64.wrap (σ.2 - k)):=(if_neg c).trans (if_neg c2)
 have hA:σ.1.length≠0:=by omega
 have l1:=Zdz hA
 have hm:=hs.hB _ (Xe l1)
 have hz:(zl (Q3 σ.1) k).length=(Q3 σ.1).length+k.toNat:=by unfold zl;simp
 have se:σ.1.set (σ.1.length - 1) (zl (Q3 σ.1) k)=Xs σ.1 ((σ.1.length:Int) - 1) (zl (Q3 σ.1) k):=by
  unfold Xs;rw [show ((σ.1.length:Int) - 1).toNat=σ.1.length - 1 by omega]
 rw [e,hw,se]
 refine ⟨by omega,by show (0:Int)≤(σ.1.length:Int) - 1;omega,by show (0:Int)≤((Q3 σ.1).length:Int);omega,by show ((Q3 σ.1).length:Int)+k≤131072;omega,⟨by show (Xs σ.1 ((σ.1.length:Int) - 1) (zl (Q3 σ.1) k)).length≤16;rw [Kx];exact hs.h16,by show 0≤σ.2 - k;omega,by show σ.2 - k≤most;omega,hs.hmm,fun x hx => ?_⟩,ex _ _ fun s x hx => ?_,?_,fun s p => ?_,fun p hp => ?_⟩
 ·show (x.length:Int)+(σ.2 - k)≤131072
  rcases List.mem_or_eq_of_mem_set hx with q | q
  ·have:=hs.hB x q;omega
  rw [q,hz];omega
 ·by_cases q:s=(σ.1.length:Int) - 1
  ·rw [q] at hx ⊢
   rw [l1] at hx
   have:=Option.some.inj hx;subst this
   exact ⟨_,Q2 l1,by rw [hz];omega⟩
  rcases Zcj (L:=σ.1) (zl (Q3 σ.1) k) q with g | g
  ·exact ⟨x,g.trans hx,Nat.le_refl _⟩
  omega
 ·exact Zh9 (Q2 l1) (by show (0:Int)≤((Q3 σ.1).length:Int);omega) (by omega) (by rw [hz];show ((Q3 σ.1).length:Int)+k≤_;omega)
 ·exact Zfm l1 (by omega) s p
 obtain ⟨x,hx,a,b,c⟩:=Qw hp
 rw [show Z5 σ.1 _=some (Q3 σ.1) from l1] at hx
 have:=Option.some.inj hx;subst this
 show p < ((Q3 σ.1).length:Int)
 omega
theorem Zts {size most:Int} {σ:SG} {h:Int} {r:Int×SG} (hs:St size most σ) (e:inO size σ h=some r) :
  0≤r.1∧r.1+1≤131072∧St size most r.2∧Ex σ r.2∧Yl r.2.1 h r.1 1=true∧(∀ s p,vA r.2.1 s p=if s=h∧r.1≤p∧p < r.1+1 then some 0 else vA σ.1 s p)∧(∀ p,Yl σ.1 h p 1=true→p < r.1):=by
 unfold inO at e
 cases hx:Z5 σ.1 h with
 | none=>rw [hx] at e;cases e
 | some x =>
  rw [hx] at e
  dsimp only at e
  split at e
  ·rename_i c
   have:=Option.some.inj e;subst this
   have:=hs.hm
   have:=hs.hmm
   have hw:IntKind.i64.wrap (σ.2 - 1)=σ.2 - 1:=Vv (by omega)
   have hl:=Q4 hx
   have hb:=hs.hB x (Xe hx)
   have hz:(zl x 1).length=x.length+1:=by unfold zl;simp
   rw [hw]
   refine ⟨by show (0:Int)≤(x.length:Int);omega,by show (x.length:Int)+1≤131072;omega,⟨by show (Xs σ.1 h (zl x 1)).length≤16;rw [Kx];exact hs.h16,by show 0≤σ.2 - 1;omega,by show σ.2 - 1≤most;omega,hs.hmm,fun y hy => ?_⟩,fun s p m q => ?_,?_,fun s p=>Zfm hx (by omega) s p,fun p hp => ?_⟩
   ·show (y.length:Int)+(σ.2 - 1)≤131072
    rcases List.mem_or_eq_of_mem_set hy with q | q
    ·have:=hs.hB y q;omega
    rw [q,hz];omega
   ·obtain ⟨y,hy,a,b,c⟩:=Qw q
    show Yl (Xs σ.1 h (zl x 1)) s p m=true
    by_cases q2:s=h
    ·subst q2
     rw [hx] at hy
     have:=Option.some.inj hy;subst this
     exact Zh9 (Q2 hx) a b (by rw [hz];omega)
    rcases Zcj (L:=σ.1) (zl x 1) q2 with g | g
    ·exact Zh9 (g.trans hy) a b c
    omega
   ·exact Zh9 (Q2 hx) (by show (0:Int)≤(x.length:Int);omega) (by omega) (by rw [hz];show (x.length:Int)+1≤_;omega)
   obtain ⟨y,hy,a,b,c⟩:=Qw hp
   rw [hx] at hy
   have:=Option.some.inj hy;subst this
   show p < (x.length:Int)
   omega
  cases e
theorem Zvx {σ:SG} {s p:Int} (v:Int) (h:Yl σ.1 s p 1=true) (size k:Int):Ys size (pt1 s p v σ) k=(Ys size σ k).map fun r=>(r.1,r.2.1,pt1 s p v r.2.2):=by
 unfold Ys
 have:=Z75 v h size σ.2 k
 show (bif (Xf (Xi σ.1 s p v) size σ.2 k).2.2.1 then some ((Xf (Xi σ.1 s p v) size σ.2 k).1,(Xf (Xi σ.1 s p v) size σ.2 k).2.1,(Xf (Xi σ.1 s p v) size σ.2 k).2.2.2) else none)=_
 rw [this]
 dsimp only
 cases (Xf σ.1 size σ.2 k).2.2.1 <;> rfl
theorem Ya6 {σ:SG} {s p:Int} (v:Int) (h:Yl σ.1 s p 1=true) (size h':Int):inO size (pt1 s p v σ) h'=(inO size σ h').map fun r=>(r.1,pt1 s p v r.2):=by
 unfold inO
 show (match Z5 (Xi σ.1 s p v) h' with | none=>none | some x=>_)=_
 cases hx:Z5 σ.1 h' with
 | none =>
  have hl:=Zgb hx
  have:Z5 (Xi σ.1 s p v) h'=none:=by
   cases e:Z5 (Xi σ.1 s p v) h' with
   | none=>rfl
   | some y=>have:=Q4 e;rw [Ki] at this;omega
  rw [this];rfl
 | some x =>
  obtain ⟨y,hy,e⟩:=Z0a (s:=s) (p:=p) v hx
  rw [hy]
  dsimp only
  rw [e]
  have e2:(pt1 s p v σ).2=σ.2:=rfl
  rw [e2]
  by_cases c:1≤σ.2∧1≤IntKind.i64.wrap (size - (x.length:Int))
  ·rw [if_pos c,if_pos c]
   refine congrArg some (Prod.ext rfl (Prod.ext ?_ rfl))
   show Xs (Xi σ.1 s p v) h' (zl y 1)=Xi (Xs σ.1 h' (zl x 1)) s p v
   have hb:Yl (Xs σ.1 h' (zl x 1)) s p 1=true:=hasB_iff.2 (by
    obtain ⟨w,hw⟩:=hasB_iff.1 h
    rw [Zfm hx (by omega)]
    split
    ·exact ⟨0,rfl⟩
    exact ⟨w,hw⟩)
   obtain ⟨z,hz,h0,_,h2⟩:=Qw h
   refine Zux (by simp only [Kx,Ki]) fun a b => ?_
   rw [Zfm hy (by omega),Kj _ hb,Zfm hx (by omega),Kj _ h,e]
   by_cases q:a=s∧b=p
   ·rw [if_pos q,if_pos q,if_neg]
    intro q2
    rw [← q2.1,q.1,hz] at hx
    have:=Option.some.inj hx
    rw [← this] at q2
    omega
   rw [if_neg q,if_neg q]
  rw [if_neg c,if_neg c];rfl
theorem Zds (σ:SG) {s p s' p':Int} (v v':Int) (h:¬ (s'=s∧p'=p)):pt1 s' p' v' (pt1 s p v σ)=pt1 s p v (pt1 s' p' v' σ):=Prod.ext (Zy2 σ.1 v v' h) rfl
theorem Z7h {size most:Int} {σ:SG} {s p s' p':Int} (v:Int) (hs:St size most σ) (h:Yl σ.1 s p 1=true) (hne:¬ (s'=s∧p'=p)) (k u h' b:Int):K5 size (pt1 s p v σ) s' p' k u h' b=(K5 size σ s' p' k u h' b).map (pt1 s p v):=by
 unfold K5
 by_cases c1:k=0∧u=0
 ·rw [if_pos c1,if_pos c1,Zds _ _ _ hne];rfl
 rw [if_neg c1,if_neg c1]
 by_cases c2:h'=s'
 ·rw [if_pos c2,if_pos c2,Zds _ _ _ hne];rfl
 rw [if_neg c2,if_neg c2,Ya6 v h]
 cases hi:inO size σ h' with
 | some r =>
  have o:=Zts hs hi
  show some _=some _
  dsimp only
  rw [Zds (s:=s) (p:=p) r.2 (s':=h') (p':=r.1) _ _ (fun q=>by have:=o.2.2.2.2.2.2 p (by rw [q.1];exact h);omega),Zds _ _ _ hne]
 | none =>
  show Option.map _ _=Option.map _ _
  rw [Zvx v h]
  cases hg:Ys size σ 2 with
  | none=>rfl
  | some r =>
   have o:=Qj hs hg
   show some _=some _
   dsimp only
   have e:((Y5 (pt1 s p v r.2.2).1 r.1 r.2.1 [fw h' b 0,k+u * 4294967296],(pt1 s p v r.2.2).2):SG)=pt1 s p v (Y5 r.2.2.1 r.1 r.2.1 [fw h' b 0,k+u * 4294967296],r.2.2.2) :=
    Prod.ext (Zgz s p v r.1 _ r.2.2.1 r.2.1 (fun q=>by have:=o.2.2.2.2.2.2.2.2 p (by rw [← q.1];exact h);omega)) rfl
   rw [e,Zds _ _ _ hne]
theorem Zh6 {size most:Int} {σ τ:SG} {s p k u h b:Int} (hs:St size most σ) (e:K5 size σ s p k u h b=some τ):St size most τ∧Ex σ τ∧∀ s' p',Yl σ.1 s' p' 1=true→¬ (s'=s∧p'=p)→vA τ.1 s' p'=vA σ.1 s' p':=by
 have one:∀ (ρ:SG) (v:Int) (s' p':Int),¬ (s'=s∧p'=p)→vA (pt1 s p v ρ).1 s' p'=vA ρ.1 s' p':=fun ρ v s' p' hne=>by
  show vA (Xi ρ.1 s p v) s' p'=_
  by_cases c:Yl ρ.1 s p 1=true
  ·rw [Kj _ c,if_neg hne]
  rw [Zll v c]
 unfold K5 at e
 split at e
 ·have:=Option.some.inj e;subst this
  exact ⟨hs.put _ _ _,Ex.put _ _ _ _,fun s' p' _ hne=>one _ _ _ _ hne⟩
 split at e
 ·have:=Option.some.inj e;subst this
  exact ⟨hs.put _ _ _,Ex.put _ _ _ _,fun s' p' _ hne=>one _ _ _ _ hne⟩
 cases hi:inO size σ h with
 | some r =>
  rw [hi] at e
  have:=Option.some.inj e;subst this
  have o:=Zts hs hi
  refine ⟨(o.2.2.1.put _ _ _).put _ _ _,o.2.2.2.1.trans ((Ex.put _ _ _ _).trans (Ex.put _ _ _ _)),fun s' p' hb hne => ?_⟩
  rw [one _ _ _ _ hne]
  show vA (Xi r.2.1 h r.1 _) s' p'=_
  rw [Kj _ o.2.2.2.2.1,o.2.2.2.2.2.1]
  have:¬ (s'=h∧r.1≤p'):=fun q=>by have:=o.2.2.2.2.2.2 p' (by rw [← q.1];exact hb);omega
  rw [if_neg (fun q=>this ⟨q.1,by omega⟩),if_neg (fun q=>this ⟨q.1,q.2.1⟩)]
 | none =>
  rw [hi] at e
  dsimp only at e
  cases hg:Ys size σ 2 with
  | none=>rw [hg] at e;cases e
  | some r =>
   rw [hg] at e
   have:=Option.some.inj e;subst this
   have o:=Qj hs hg
   refine ⟨(St.lays r.1 _ o.2.2.2.2.1 r.2.1).put _ _ _,o.2.2.2.2.2.1.trans ((Ex.lays _ _ _ _).trans (Ex.put _ _ _ _)),fun s' p' hb hne => ?_⟩
   rw [one _ _ _ _ hne]
   have hf:¬ (s'=r.1∧r.2.1≤p'):=fun q=>by have:=o.2.2.2.2.2.2.2.2 p' (by rw [← q.1];exact hb);omega
   have h0:=o.2.2.2.2.2.2.1
   have b0:Yl r.2.2.1 r.1 r.2.1 1=true:=Uk h0 (Int.le_refl _) (by omega)
   have b1:Yl (Xi r.2.2.1 r.1 r.2.1 (fw h b 0)) r.1 (r.2.1+1) 1=true:=by rw [Gv];exact Uk h0 (by omega) (by omega)
   show vA (Xi (Xi r.2.2.1 r.1 r.2.1 _) r.1 (r.2.1+1) _) s' p'=_
   rw [Kj _ b1,Kj _ b0,o.2.2.2.2.2.2.2.1,if_neg (fun q=>hf ⟨q.1,by omega⟩),if_neg (fun q=>hf ⟨q.1,by omega⟩),if_neg (fun q=>hf ⟨q.1,q.2.1⟩)]
attribute [local push_cast] if_true if_false
noncomputable def Jy (f:Tr→Int→Int→SG→Option SG) (s:Int):Int→List Tr→SG→Option SG
 | _,[],σ=>some σ
 | p,t::ts,σ=>(f t s p σ).bind (Jy f s (p+1) ts)
noncomputable def Ks (s m:Int):Int→List Tr→List (List Int)→List (List Int)
 | _,[],A=>A
 | p,t::ts,A=>Ks s m (p+m) ts (Y5 A s p t.Words)
noncomputable def Zdj (f:Tr→Int→Int→SG→Option SG) (s m w:Int):Int→List Tr→SG→Option SG
 | _,[],σ=>some σ
 | p,t::ts,σ=>(Jy f s (p+w) t.Kids σ).bind (Zdj f s m w (p+m) ts)
noncomputable def Zas (f:Tr→Int→Int→SG→Option SG) (s m w:Int):Int→List Tr→SG→Option SG
 | _,[],σ=>some σ
 | p,t::ts,σ=>(Jy f s (p+w) t.Kids (Y5 σ.1 s p t.Words,σ.2)).bind (Zas f s m w (p+m) ts)
def Zbl (t:Tr):Int:=(t.Kids.length:Int) * 4+(fr t.Kids).1 * 4294967296+(fr t.Kids).2 * 281474976710656
def pkd (t:Tr):Int:=if t.Kind=1 then 0 else 1
def pup (t:Tr):Int:=if t.Kind=1 then (t.Words.length:Int)+65536 * (t.Kids.length:Int) else if t.Kind=9 then 7+8 * ((t.Kids.length:Int) * ((fr t.Kids).1+(fr t.Kids).2)) else t.Kind - 2+8 * (t.Kids.length:Int)
def Gd (t:Tr):Int:=if t.Kind=1 then (t.Words.length:Int)+(t.Kids.length:Int) else if t.Kind=9 then 1+(t.Kids.length:Int) * ((fr t.Kids).1+(fr t.Kids).2) else if t.Kind=8 then (t.Kids.length:Int) else ((Zaq (t.Kind - 2) (ato t)).length:Int)
noncomputable def inT (o:Bool) (f:Tr→Int→Int→SG→Option SG) (h b:Int) (t:Tr) (σ:SG):Option SG :=
 if t.Kind=1 then Jy f h (b+(t.Words.length:Int)) t.Kids (Y5 σ.1 h b t.Words,σ.2)
 else if t.Kind=8 then Jy f h b t.Kids σ
 else if t.Kind=9 then
  (if o=true then Zdj f h ((fr t.Kids).1+(fr t.Kids).2) (fr t.Kids).1 (b+1) t.Kids (Ks h ((fr t.Kids).1+(fr t.Kids).2) (b+1) t.Kids (if t.Kids=[] then σ.1 else Xi σ.1 h b (Zbl t)),σ.2)
  else Zas f h ((fr t.Kids).1+(fr t.Kids).2) (fr t.Kids).1 (b+1) t.Kids (Xi σ.1 h b (Zbl t),σ.2))
 else some (Y5 σ.1 h b (Zaq (t.Kind - 2) (ato t)),σ.2)
noncomputable def Vx (o:Bool) (size:Int):Nat→Tr→Int→Int→SG→Option SG
 | 0,_,_,_,σ=>some σ
 | d+1,t,s,p,σ=>if t.Kind=0 then some σ else (Ys size σ (Gd t)).bind fun r=>(K5 size r.2.2 s p (pkd t) (pup t) r.1 r.2.1).bind fun τ=>inT o (Vx o size d) r.1 r.2.1 t τ
def Gp (size most:Int) (f:Tr→Int→Int→SG→Option SG):Prop:=∀ t s' p' σ,St size most σ →
 (∀ τ,f t s' p' σ=some τ→St size most τ∧Ex σ τ)∧∀ s p v,Yl σ.1 s p 1=true→¬ (s'=s∧p'=p)→f t s' p' (pt1 s p v σ)=(f t s' p' σ).map (pt1 s p v)
theorem Un {size most:Int} {f:Tr→Int→Int→SG→Option SG} (hf:Gp size most f) (s':Int):∀ (ts:List Tr) (p':Int) (σ:SG),St size most σ →
  (∀ τ,Jy f s' p' ts σ=some τ→St size most τ∧Ex σ τ)∧∀ s p v,Yl σ.1 s p 1=true→¬ (s=s'∧p'≤p∧p < p'+(ts.length:Int))→Jy f s' p' ts (pt1 s p v σ)=(Jy f s' p' ts σ).map (pt1 s p v)
 | [],p',σ,hs=>⟨fun τ e=>by have:=Option.some.inj e;subst this;exact ⟨hs,Ex.refl _⟩,fun _ _ _ _ _=>rfl⟩
 | t::ts,p',σ,hs=>by
  obtain ⟨a,b⟩:=hf t s' p' σ hs
  refine ⟨fun τ e => ?_,fun s p v hb hne => ?_⟩
  ·rw [Jy] at e
   cases h1:f t s' p' σ with
   | none=>rw [h1] at e;cases e
   | some ρ =>
    rw [h1] at e
    obtain ⟨c1,c2⟩:=a ρ h1
    obtain ⟨d1,d2⟩:=(Un hf s' ts (p'+1) ρ c1).1 τ e
    exact ⟨d1,c2.trans d2⟩
  rw [List.length_cons] at hne
  rw [Jy,Jy,b s p v hb (fun q=>hne ⟨q.1.symm,by omega⟩)]
  cases h1:f t s' p' σ with
  | none=>rfl
  | some ρ =>
   obtain ⟨c1,c2⟩:=a ρ h1
   show Jy f s' (p'+1) ts (pt1 s p v ρ)=(Jy f s' (p'+1) ts ρ).map (pt1 s p v)
   exact (Un hf s' ts (p'+1) ρ c1).2 s p v (c2 _ _ _ hb) (fun q=>hne ⟨q.1,by omega⟩)
theorem Zny (s m s' p' k:Int):∀ (ts:List Tr) (p:Int) (A:List (List Int)),Yl (Ks s m p ts A) s' p' k=Yl A s' p' k
 | [],_,_=>rfl
 | t::ts,p,A=>by rw [Ks,Zny s m s' p' k ts,Zdy]
theorem St.words {size most:Int} (s m:Int):∀ (ts:List Tr) (p:Int) {σ:SG},St size most σ→St size most (Ks s m p ts σ.1,σ.2)
 | [],_,_,h=>h
 | t::ts,p,σ,h=>St.words s m ts (p+m) (St.lays s t.Words h p)
theorem Ex.words (s m:Int) (ts:List Tr) (p:Int) (σ:SG):Ex σ (Ks s m p ts σ.1,σ.2):=fun s' p' k h=>by show Yl (Ks s m p ts σ.1) s' p' k=true;rw [Zny];exact h
theorem Zv7 (s p v s' m:Int):∀ (ts:List Tr) (p':Int) (A:List (List Int)),(0≤m)→(s=s'→p < p')→Ks s' m p' ts (Xi A s p v)=Xi (Ks s' m p' ts A) s p v
 | [],_,_,_,_=>rfl
 | t::ts,p',A,hm,h=>by
  rw [Ks,Ks,Zgz s p v s' t.Words A p' (fun q=>by have:=h q.1;omega),Zv7 s p v s' m ts (p'+m) _ hm (fun q=>by have:=h q;omega)]
theorem Zn1 {size most:Int} {f:Tr→Int→Int→SG→Option SG} (hf:Gp size most f) (s' m w:Int) (hm:0≤m) (hw:0≤w):∀ (ts:List Tr) (p':Int) (σ:SG),St size most σ →
  (∀ τ,Zdj f s' m w p' ts σ=some τ→St size most τ∧Ex σ τ)∧∀ s p v,Yl σ.1 s p 1=true→(s=s'→p < p')→Zdj f s' m w p' ts (pt1 s p v σ)=(Zdj f s' m w p' ts σ).map (pt1 s p v)
 | [],p',σ,hs=>⟨fun τ e=>by have:=Option.some.inj e;subst this;exact ⟨hs,Ex.refl _⟩,fun _ _ _ _ _=>rfl⟩
 | t::ts,p',σ,hs=>by
  obtain ⟨a,b⟩:=Un hf s' t.Kids (p'+w) σ hs
  refine ⟨fun τ e => ?_,fun s p v hb hne => ?_⟩
  ·rw [Zdj] at e
   cases h1:Jy f s' (p'+w) t.Kids σ with
   | none=>rw [h1] at e;cases e
   | some ρ =>
    rw [h1] at e
    obtain ⟨c1,c2⟩:=a ρ h1
    obtain ⟨d1,d2⟩:=(Zn1 hf s' m w hm hw ts (p'+m) ρ c1).1 τ e
    exact ⟨d1,c2.trans d2⟩
  rw [Zdj,Zdj,b s p v hb (fun q=>by have:=hne q.1;omega)]
  cases h1:Jy f s' (p'+w) t.Kids σ with
  | none=>rfl
  | some ρ =>
   obtain ⟨c1,c2⟩:=a ρ h1
   exact (Zn1 hf s' m w hm hw ts (p'+m) ρ c1).2 s p v (c2 _ _ _ hb) (fun q=>by have:=hne q;omega)
theorem Znr {size most:Int} {f:Tr→Int→Int→SG→Option SG} (hf:Gp size most f) (s' m w:Int) (hm:0≤m) (hw:0≤w):∀ (ts:List Tr) (p':Int) (σ:SG),St size most σ →
  (∀ τ,Zas f s' m w p' ts σ=some τ→St size most τ∧Ex σ τ)∧∀ s p v,Yl σ.1 s p 1=true→(s=s'→p < p')→Zas f s' m w p' ts (pt1 s p v σ)=(Zas f s' m w p' ts σ).map (pt1 s p v)
 | [],p',σ,hs=>⟨fun τ e=>by have:=Option.some.inj e;subst this;exact ⟨hs,Ex.refl _⟩,fun _ _ _ _ _=>rfl⟩
 | t::ts,p',σ,hs=>by
  have hs2:St size most (Y5 σ.1 s' p' t.Words,σ.2):=St.lays s' _ hs _
  obtain ⟨a,b⟩:=Un hf s' t.Kids (p'+w) _ hs2
  refine ⟨fun τ e => ?_,fun s p v hb hne => ?_⟩
  ·rw [Zas] at e
   cases h1:Jy f s' (p'+w) t.Kids (Y5 σ.1 s' p' t.Words,σ.2) with
   | none=>rw [h1] at e;cases e
   | some ρ =>
    rw [h1] at e
    obtain ⟨c1,c2⟩:=a ρ h1
    obtain ⟨d1,d2⟩:=(Znr hf s' m w hm hw ts (p'+m) ρ c1).1 τ e
    exact ⟨d1,(Ex.lays _ _ _ _).trans (c2.trans d2)⟩
  have e1:((Y5 (pt1 s p v σ).1 s' p' t.Words,(pt1 s p v σ).2):SG)=pt1 s p v (Y5 σ.1 s' p' t.Words,σ.2):=Prod.ext (Zgz s p v s' t.Words σ.1 p' (fun q=>by have:=hne q.1;omega)) rfl
  rw [Zas,Zas,e1,b s p v (Ex.lays _ _ _ _ _ _ _ hb) (fun q=>by have:=hne q.1;omega)]
  cases h1:Jy f s' (p'+w) t.Kids (Y5 σ.1 s' p' t.Words,σ.2) with
  | none=>rfl
  | some ρ =>
   obtain ⟨c1,c2⟩:=a ρ h1
   exact (Znr hf s' m w hm hw ts (p'+m) ρ c1).2 s p v (c2 _ _ _ (Ex.lays _ _ _ _ _ _ _ hb)) (fun q=>by have:=hne q;omega)
theorem Yfi (l:List Tr):0≤(fr l).1∧0≤(fr l).2:=by
 unfold fr
 have:∀ (l:List Tr) (s:Int×Int),0≤s.1→0≤s.2→0≤(l.foldl frS s).1∧0≤(l.foldl frS s).2:=fun l=>by
  induction l with
  | nil=>intro s a b;exact ⟨a,b⟩
  | cons x l ih=>intro s a b;exact ih _ (by unfold frS;dsimp only;omega) (by unfold frS;dsimp only;omega)
 exact this l (0,0) (Int.le_refl _) (Int.le_refl _)
theorem Z0h {size most:Int} {f:Tr→Int→Int→SG→Option SG} (hf:Gp size most f) (o:Bool) (h b:Int) (t:Tr) {σ:SG} (hs:St size most σ) :
  (∀ τ,inT o f h b t σ=some τ→St size most τ∧Ex σ τ)∧∀ s p v,Yl σ.1 s p 1=true→(s=h→p < b)→inT o f h b t (pt1 s p v σ)=(inT o f h b t σ).map (pt1 s p v):=by
 obtain ⟨w0,k0⟩:=Yfi t.Kids
 unfold inT
 by_cases c1:t.Kind=1
 ·simp only [if_pos c1]
  obtain ⟨a,b'⟩:=Un hf h t.Kids (b+(t.Words.length:Int)) (Y5 σ.1 h b t.Words,σ.2) (St.lays h _ hs b)
  refine ⟨fun τ e => ?_,fun s p v hb hne => ?_⟩
  ·obtain ⟨q1,q2⟩:=a τ e
   exact ⟨q1,(Ex.lays _ _ _ _).trans q2⟩
  rw [← b' s p v (Ex.lays _ _ _ _ _ _ _ hb) (fun q=>by have:=hne q.1;omega)]
  congr 1
  exact Prod.ext (Zgz s p v h t.Words σ.1 b (fun q=>by have:=hne q.1;omega)) rfl
 by_cases c8:t.Kind=8
 ·simp only [if_neg c1,if_pos c8]
  obtain ⟨a,b'⟩:=Un hf h t.Kids b σ hs
  exact ⟨a,fun s p v hb hne=>b' s p v hb (fun q=>by have:=hne q.1;omega)⟩
 by_cases c9:t.Kind=9
 ·simp only [if_neg c1,if_neg c8,if_pos c9]
  cases o with
  | true =>
   simp only [if_true]
   have htag:∀ s p v,(s=h→p < b)→(if t.Kids=[] then (pt1 s p v σ).1 else Xi (pt1 s p v σ).1 h b (Zbl t))=Xi (if t.Kids=[] then σ.1 else Xi σ.1 h b (Zbl t)) s p v:=fun s p v hne=>by
    by_cases e:t.Kids=[]
    ·rw [if_pos e,if_pos e];rfl
    rw [if_neg e,if_neg e]
    exact Zy2 σ.1 _ _ (fun q=>by have:=hne q.1.symm;omega)
   have hs1:St size most ((if t.Kids=[] then σ.1 else Xi σ.1 h b (Zbl t)),σ.2):=by
    split
    ·exact hs
    exact hs.put _ _ _
   have he1:Ex σ ((if t.Kids=[] then σ.1 else Xi σ.1 h b (Zbl t)),σ.2):=by
    split
    ·exact Ex.refl _
    exact Ex.put _ _ _ _
   have hs2:=St.words h ((fr t.Kids).1+(fr t.Kids).2) t.Kids (b+1) hs1
   obtain ⟨a,b'⟩:=Zn1 hf h ((fr t.Kids).1+(fr t.Kids).2) (fr t.Kids).1 (by omega) w0 t.Kids (b+1) _ hs2
   refine ⟨fun τ e => ?_,fun s p v hb hne => ?_⟩
   ·obtain ⟨q1,q2⟩:=a τ e
    exact ⟨q1,(he1.trans (Ex.words _ _ _ _ _)).trans q2⟩
   rw [htag s p v hne,Zv7 s p v h _ t.Kids (b+1) _ (by omega) (fun q=>by have:=hne q;omega)]
   exact b' s p v (he1.trans (Ex.words _ _ _ _ _) _ _ _ hb) (fun q=>by have:=hne q;omega)
  | false =>
   simp only [Bool.false_eq_true,if_false]
   obtain ⟨a,b'⟩:=Znr hf h ((fr t.Kids).1+(fr t.Kids).2) (fr t.Kids).1 (by omega) w0 t.Kids (b+1) (pt1 h b (Zbl t) σ) (hs.put _ _ _)
   refine ⟨fun τ e => ?_,fun s p v hb hne => ?_⟩
   ·obtain ⟨q1,q2⟩:=a τ e
    exact ⟨q1,(Ex.put _ _ _ _).trans q2⟩
   have e1:((Xi (pt1 s p v σ).1 h b (Zbl t),(pt1 s p v σ).2):SG)=pt1 s p v (pt1 h b (Zbl t) σ):=Zds σ _ _ (fun q=>by have:=hne q.1.symm;omega)
   rw [e1]
   exact b' s p v (Ex.put _ _ _ _ _ _ _ hb) (fun q=>by have:=hne q;omega)
 simp only [if_neg c1,if_neg c8,if_neg c9]
 refine ⟨fun τ e => ?_,fun s p v hb hne => ?_⟩
 ·have:=Option.some.inj e;subst this
  exact ⟨St.lays h _ hs b,Ex.lays _ _ _ _⟩
 exact congrArg some (Prod.ext (Zgz s p v h _ σ.1 b (fun q=>by have:=hne q.1;omega)) rfl)
theorem Zbg (o:Bool) (size most:Int):∀ d,Gp size most (Vx o size d)
 | 0=>fun t s' p' σ hs=>⟨fun τ e=>by have:=Option.some.inj e;subst this;exact ⟨hs,Ex.refl _⟩,fun _ _ _ _ _=>rfl⟩
 | d+1=>fun t s' p' σ hs=>by
  have ih:=Zbg o size most d
  simp only [Vx]
  by_cases c0:t.Kind=0
  ·simp only [if_pos c0]
   exact ⟨fun τ e=>by have:=Option.some.inj e;subst this;exact ⟨hs,Ex.refl _⟩,fun _ _ _ _ _=>rfl⟩
  simp only [if_neg c0]
  refine ⟨fun τ e => ?_,fun s p v hb hne => ?_⟩
  ·cases hg:Ys size σ (Gd t) with
   | none=>rw [hg] at e;cases e
   | some r =>
    rw [hg,Option.bind_some] at e
    have g:=Qj hs hg
    cases ha:K5 size r.2.2 s' p' (pkd t) (pup t) r.1 r.2.1 with
    | none=>rw [ha] at e;cases e
    | some ρ =>
     rw [ha,Option.bind_some] at e
     have a:=Zh6 g.2.2.2.2.1 ha
     have i:=(Z0h ih o r.1 r.2.1 t a.1).1 τ e
     exact ⟨i.1,g.2.2.2.2.2.1.trans (a.2.1.trans i.2)⟩
  rw [Zvx v hb]
  cases hg:Ys size σ (Gd t) with
  | none=>rfl
  | some r =>
   have g:=Qj hs hg
   rw [Option.map_some,Option.bind_some,Option.bind_some]
   dsimp only
   rw [Z7h v g.2.2.2.2.1 (g.2.2.2.2.2.1 _ _ _ hb) hne]
   cases ha:K5 size r.2.2 s' p' (pkd t) (pup t) r.1 r.2.1 with
   | none=>rfl
   | some ρ =>
    have a:=Zh6 g.2.2.2.2.1 ha
    rw [Option.map_some,Option.bind_some,Option.bind_some]
    exact (Z0h ih o r.1 r.2.1 t a.1).2 s p v (a.2.1 _ _ _ (g.2.2.2.2.2.1 _ _ _ hb)) (fun q=>g.2.2.2.2.2.2.2.2 p (by rw [← q];exact hb))
theorem Zv0 {size most:Int} {f:Tr→Int→Int→SG→Option SG} (hf:Gp size most f) (s':Int) (ts:List Tr) (p':Int):∀ (ws:List Int) (p:Int) (σ:SG),St size most σ→(p'+(ts.length:Int)≤p)→(∀ q,p≤q→q < p+(ws.length:Int)→Yl σ.1 s' q 1=true)→Jy f s' p' ts (Y5 σ.1 s' p ws,σ.2)=(Jy f s' p' ts σ).map fun τ=>(Y5 τ.1 s' p ws,τ.2)
 | [],_,σ,_,_,_=>by
  show Jy f s' p' ts σ=_
  cases Jy f s' p' ts σ <;> rfl
 | w::ws,p,σ,hs,hp,hb=>by
  rw [List.length_cons] at hb
  have h1:=Zv0 hf s' ts p' ws (p+1) (pt1 s' p w σ) (hs.put _ _ _) (by omega) (fun q a b=>Ex.put _ _ _ _ _ _ _ (hb q (by omega) (by omega)))
  show Jy f s' p' ts (Y5 (pt1 s' p w σ).1 s' (p+1) ws,(pt1 s' p w σ).2)=_
  rw [h1,(Un hf s' ts p' σ hs).2 s' p w (hb p (Int.le_refl _) (by omega)) (fun q=>by omega)]
  cases Jy f s' p' ts σ <;> rfl
theorem Ztu {size most:Int} {f:Tr→Int→Int→SG→Option SG} (hf:Gp size most f) (s':Int) (ts:List Tr) (p' m:Int) (hm:0≤m):∀ (us:List Tr) (p:Int) (σ:SG),St size most σ→(p'+(ts.length:Int)≤p)→(∀ u∈us,(u.Words.length:Int)≤m)→(∀ q,p≤q→q < p+(us.length:Int) * m→Yl σ.1 s' q 1=true)→Jy f s' p' ts (Ks s' m p us σ.1,σ.2)=(Jy f s' p' ts σ).map fun τ=>(Ks s' m p us τ.1,τ.2)
 | [],_,σ,_,_,_,_=>by
  show Jy f s' p' ts σ=_
  cases Jy f s' p' ts σ <;> rfl
 | u::us,p,σ,hs,hp,hu,hb=>by
  have hu1:=hu u List.mem_cons_self
  rw [List.length_cons,Int.natCast_add,Int.add_mul] at hb
  have hn:0≤(us.length:Int) * m:=Int.mul_nonneg (by omega) hm
  have h1:=Ztu hf s' ts p' m hm us (p+m) (Y5 σ.1 s' p u.Words,σ.2) (St.lays s' _ hs p) (by omega) (fun x hx=>hu x (List.mem_cons_of_mem _ hx)) (fun q a b=>Ex.lays _ _ _ _ _ _ _ (hb q (by omega) (by simp only [Int.natCast_one,Int.one_mul];omega)))
  show Jy f s' p' ts (Ks s' m (p+m) us (Y5 σ.1 s' p u.Words),σ.2)=_
  rw [h1,Zv0 hf s' ts p' u.Words p σ hs hp (fun q a b=>hb q a (by simp only [Int.natCast_one,Int.one_mul];omega))]
  cases Jy f s' p' ts σ <;> rfl
theorem Zvp {size most:Int} {f:Tr→Int→Int→SG→Option SG} (hf:Gp size most f) (s' m w:Int) (hm:0≤m) (hw:0≤w):∀ (us:List Tr) (p:Int) (σ:SG),St size most σ→(∀ u∈us,(u.Words.length:Int)≤w∧w+(u.Kids.length:Int)≤m)→(∀ q,p≤q→q < p+(us.length:Int) * m→Yl σ.1 s' q 1=true)→Zas f s' m w p us σ=Zdj f s' m w p us (Ks s' m p us σ.1,σ.2)
 | [],_,_,_,_,_=>rfl
 | u::us,p,σ,hs,hu,hb=>by
  have hu1:=hu u List.mem_cons_self
  rw [List.length_cons,Int.natCast_add,Int.add_mul] at hb
  have hn:0≤(us.length:Int) * m:=Int.mul_nonneg (by omega) hm
  have hs1:=St.lays s' u.Words hs p
  rw [Zas,Zdj,Ks]
  have hb1:∀ q,p+m≤q→q < p+m+(us.length:Int) * m→Yl (Y5 σ.1 s' p u.Words) s' q 1=true:=fun q a b=>Ex.lays _ _ _ _ _ _ _ (hb q (by omega) (by simp only [Int.natCast_one,Int.one_mul];omega))
  have h1:=Ztu hf s' u.Kids (p+w) m hm us (p+m) (Y5 σ.1 s' p u.Words,σ.2) hs1 (by omega) (fun x hx=>by have:=hu x (List.mem_cons_of_mem _ hx);omega) hb1
  rw [h1]
  have a:=(Un hf s' u.Kids (p+w) _ hs1).1
  cases e:Jy f s' (p+w) u.Kids (Y5 σ.1 s' p u.Words,σ.2) with
  | none=>rfl
  | some ρ =>
   obtain ⟨a1,a2⟩:=a ρ e
   rw [Option.map_some,Option.bind_some,Option.bind_some]
   exact Zvp hf s' m w hm hw us (p+m) ρ a1 (fun x hx=>hu x (List.mem_cons_of_mem _ hx)) (fun q x y=>a2 _ _ _ (hb1 q x y))
def Agr (size most:Int) (f g:Tr→Int→Int→SG→Option SG) (ts:List Tr):Prop:=∀ t∈ts,∀ s p σ,St size most σ→Yl σ.1 s p 1=true→f t s p σ=g t s p σ
theorem Zia {size most:Int} {f g:Tr→Int→Int→SG→Option SG} (hf:Gp size most f) (s:Int):∀ (ts:List Tr) (p:Int) (σ:SG),Agr size most f g ts→St size most σ→(∀ q,p≤q→q < p+(ts.length:Int)→Yl σ.1 s q 1=true)→Jy f s p ts σ=Jy g s p ts σ
 | [],_,_,_,_,_=>rfl
 | t::ts,p,σ,ha,hs,hb=>by
  rw [List.length_cons] at hb
  rw [Jy,Jy,← ha t List.mem_cons_self s p σ hs (hb p (Int.le_refl _) (by omega))]
  cases e:f t s p σ with
  | none=>rfl
  | some ρ =>
   obtain ⟨a,b⟩:=(hf t s p σ hs).1 ρ e
   exact Zia hf s ts (p+1) ρ (fun x hx=>ha x (List.mem_cons_of_mem _ hx)) a (fun q x y=>b _ _ _ (hb q (by omega) (by omega)))
theorem Zsa {size most:Int} {f g:Tr→Int→Int→SG→Option SG} (hf:Gp size most f) (s m w:Int) (hm:0≤m) (hw:0≤w):∀ (us:List Tr) (p:Int) (σ:SG),(∀ u∈us,Agr size most f g u.Kids)→(∀ u∈us,w+(u.Kids.length:Int)≤m)→St size most σ→(∀ q,p≤q→q < p+(us.length:Int) * m→Yl σ.1 s q 1=true)→Zdj f s m w p us σ=Zdj g s m w p us σ
 | [],_,_,_,_,_,_=>rfl
 | u::us,p,σ,ha,hu,hs,hb=>by
  have hu1:=hu u List.mem_cons_self
  rw [List.length_cons,Int.natCast_add,Int.add_mul] at hb
  simp only [Int.natCast_one,Int.one_mul] at hb
  have hn:0≤(us.length:Int) * m:=Int.mul_nonneg (by omega) hm
  rw [Zdj,Zdj,← Zia hf s u.Kids (p+w) σ (ha u List.mem_cons_self) hs (fun q x y=>hb q (by omega) (by omega))]
  cases e:Jy f s (p+w) u.Kids σ with
  | none=>rfl
  | some ρ =>
   obtain ⟨a,b⟩:=(Un hf s u.Kids (p+w) σ hs).1 ρ e
   exact Zsa hf s m w hm hw us (p+m) ρ (fun x hx=>ha x (List.mem_cons_of_mem _ hx)) (fun x hx=>hu x (List.mem_cons_of_mem _ hx)) a (fun q x y=>b _ _ _ (hb q (by omega) (by omega)))
theorem Zth {t:Tr} {d:Nat} (h:Fine t d) (h9:t.Kind=9):0≤(t.Kids.length:Int) * ((fr t.Kids).1+(fr t.Kids).2)∧(t.Kids.length:Int) * ((fr t.Kids).1+(fr t.Kids).2)≤26214000000∧(0≤(fr t.Kids).1∧(fr t.Kids).1≤65535∧0≤(fr t.Kids).2∧(fr t.Kids).2≤65535∧∀ x∈t.Kids,(x.Words.length:Int)≤(fr t.Kids).1∧(x.Kids.length:Int)≤(fr t.Kids).2):=by
 have p:=h.pt
 have pk:=Zii t
 exact (Yfj (l:=t.Kids) (by omega) (fun x hx=>by
  obtain ⟨r1,r2⟩:=(Uu h.rt (by omega) (by omega)).2.2.2 x hx
  have k1:=(Vl (by omega) r2).2 h9
  obtain ⟨a1,a2,_⟩:=Uu r1 (by omega) (by omega)
  have:=a2 k1
  omega)).2
theorem Ze0 {t:Tr} (h:t.Kind=1):Gd t=(t.Words.length:Int)+(t.Kids.length:Int):=by unfold Gd;rw [if_pos h]
theorem Zez {t:Tr} (h:t.Kind=9):Gd t=1+(t.Kids.length:Int) * ((fr t.Kids).1+(fr t.Kids).2):=by unfold Gd;rw [if_neg (by omega),if_pos h]
theorem Zjt {t:Tr} (h:t.Kind=8):Gd t=(t.Kids.length:Int):=by unfold Gd;rw [if_neg (by omega),if_neg (by omega),if_pos h]
theorem Z8a {size most:Int} {f g:Tr→Int→Int→SG→Option SG} (hf:Gp size most f) (hg:Gp size most g) {h b:Int} {t:Tr} {d:Nat} {σ:SG} (hF:Fine t d) (hk:t.Kind=1∨t.Kind=8→Agr size most f g t.Kids) (hk9:t.Kind=9→∀ u∈t.Kids,Agr size most f g u.Kids) (h10:t.Kind=1∨t.Kind=8∨t.Kind=9∨2≤t.Kind∧t.Kind≤7) (hs:St size most σ) (hb:Yl σ.1 h b (Gd t)=true) (hz:t.Kind=9→vA σ.1 h b=some 0):inT true f h b t σ=inT false g h b t σ:=by
 unfold inT
 have one:∀ q,b≤q→q < b+Gd t→Yl σ.1 h q 1=true:=fun q x y=>Uk hb x y
 by_cases c1:t.Kind=1
 ·simp only [if_pos c1]
  rw [Ze0 c1] at one
  exact Zia hf h t.Kids _ _ (hk (.inl c1)) (St.lays h _ hs b) (fun q x y=>Ex.lays _ _ _ _ _ _ _ (one q (by omega) (by omega)))
 by_cases c8:t.Kind=8
 ·simp only [if_neg c1,if_pos c8]
  rw [Zjt c8] at one
  exact Zia hf h t.Kids _ _ (hk (.inr c8)) hs (fun q x y=>one q x y)
 by_cases c9:t.Kind=9
 ·obtain ⟨a1,a2,w0,w1,k0,k1,ak⟩:=Zth hF c9
  simp only [if_neg c1,if_neg c8,if_pos c9,if_true,Bool.false_eq_true,if_false]
  rw [Zez c9] at one
  have e1:(if t.Kids=[] then σ.1 else Xi σ.1 h b (Zbl t))=Xi σ.1 h b (Zbl t):=by
   by_cases e:t.Kids=[]
   ·rw [if_pos e]
    have:Zbl t=0:=by unfold Zbl;rw [e];rfl
    rw [this,Z1a (hz c9)]
   rw [if_neg e]
  have hs1:St size most (Xi σ.1 h b (Zbl t),σ.2):=hs.put _ _ _
  have hb1:∀ q,b+1≤q→q < b+1+(t.Kids.length:Int) * ((fr t.Kids).1+(fr t.Kids).2)→Yl (Xi σ.1 h b (Zbl t),σ.2).1 h q 1=true:=fun q x y=>Ex.put _ _ _ σ _ _ _ (one q (by omega) (by omega))
  rw [e1,Zvp hg h ((fr t.Kids).1+(fr t.Kids).2) (fr t.Kids).1 (by omega) w0 t.Kids (b+1) _ hs1 (fun u hu=>by have:=ak u hu;omega) hb1]
  exact Zsa hf h _ _ (by omega) w0 t.Kids (b+1) _ (hk9 c9) (fun u hu=>by have:=ak u hu;omega) (St.words _ _ _ _ hs1) (fun q x y=>Ex.words _ _ _ _ _ _ _ _ (hb1 q x y))
 simp only [if_neg c1,if_neg c8,if_neg c9]
theorem Zvz {t:Tr} {d:Nat} (h:Fine t d) (h0:¬ t.Kind=0) (h10:¬ t.Kind=10):1≤t.Kind∧t.Kind≤9:=by
 have:=(Zuk h.rt).1
 have:=(Zuk h.rt).2.1
 have hr:=h.rt
 rw [Zfk,if_neg h0,if_neg h10] at hr
 by_cases hb:t.Kind < 0∨10 < t.Kind∨d=0∨65536≤t.Words.length∨(t.Kind=1∧65536≤t.Kids.length)∨1048576≤t.Kids.length∨(1 < t.Kind∧0 < t.Words.length)
 ·rw [if_pos hb] at hr;cases hr
 omega
theorem Ztw (size most:Int):∀ (n:Nat) (t:Tr) (d:Nat),SizeOf.sizeOf t < n→Fine t d→¬ t.Kind=10→∀ s p σ,St size most σ→Yl σ.1 s p 1=true→Vx true size n t s p σ=Vx false size n t s p σ
 | 0,_,_,h,_,_=>by omega
 | n+1,t,d,h,hF,h10=>fun s p σ hs hb=>by
  simp only [Vx]
  by_cases c0:t.Kind=0
  ·simp only [if_pos c0]
  simp only [if_neg c0]
  have kd:=Zvz hF c0 h10
  cases hg:Ys size σ (Gd t) with
  | none=>rw [Option.bind_none,Option.bind_none]
  | some r =>
   rw [Option.bind_some,Option.bind_some]
   have g:=Qj hs hg
   cases ha:K5 size r.2.2 s p (pkd t) (pup t) r.1 r.2.1 with
   | none=>rw [Option.bind_none,Option.bind_none]
   | some ρ =>
    rw [Option.bind_some,Option.bind_some]
    have a:=Zh6 g.2.2.2.2.1 ha
    have ik:=(Uu hF.rt c0 h10).2.2.2
    refine Z8a (Zbg true size most n) (Zbg false size most n) hF (fun h18 x hx s' p' σ' hs' hb' => ?_) (fun h9 x hx y hy s' p' σ' hs' hb' => ?_) (by omega) a.1 (a.2.1 _ _ _ g.2.2.2.2.2.2.1) (fun h9 => ?_)
    ·exact Ztw size most n x (d - 1) (by have:=Xc hx;omega) (hF.kid hx) (Vl (by omega) (ik x hx).2).1 s' p' σ' hs' hb'
    ·have k1:=(Vl (by omega) (ik x hx).2).2 h9
     have j4:=(Uu (hF.kid hx).rt (by omega) (by omega)).2.2.2 y hy
     exact Ztw size most n y (d - 1 - 1) (by have:=Xc hx;have:=Xc hy;omega) ((hF.kid hx).kid hy) (Vl (by omega) j4.2).1 s' p' σ' hs' hb'
    have hw:1≤Gd t:=by rw [Zez h9];have:=(Zth hF h9).1;omega
    have e:=g.2.2.2.2.2.2.2.1 r.1 r.2.1
    rw [if_pos ⟨rfl,Int.le_refl _,by omega⟩] at e
    rw [a.2.2 r.1 r.2.1 (hasB_iff.2 ⟨0,e⟩) (fun q=>by have:=g.2.2.2.2.2.2.2.2 p (by rw [q.1];exact hb);omega),e]
structure Fr (X:Nat→Prop) (i j:Nat) (O:Objs) (n:Nat) (L:List NR) (O':Objs) (n':Nat) (L':List NR):Prop where
 le:n≤n'
 off:∀ u,u < n→¬ X u→¬ ter i j L u→O' u=O u
 ter:∀ u,ter i j L' u→ter i j L u∨n≤u
theorem Fr.refl (X:Nat→Prop) (i j:Nat) (O:Objs) (n:Nat) (L:List NR):Fr X i j O n L O n L:=⟨Nat.le_refl _,fun _ _ _ _=>rfl,fun _ h => .inl h⟩
theorem Fr.trans {X:Nat→Prop} {i j:Nat} {O O' O'':Objs} {n n' n'':Nat} {L L' L'':List NR} (h:Fr X i j O n L O' n' L') (h':Fr X i j O' n' L' O'' n'' L''):Fr X i j O n L O'' n'' L'' :=
 ⟨Nat.le_trans h.le h'.le,fun u a b c=>(h'.off u (Nat.lt_of_lt_of_le a h.le) b (fun q=>by rcases h.ter u q with q | q;exact c q;omega)).trans (h.off u a b c),fun u q=>by
  rcases h'.ter u q with q | q
  ·exact h.ter u q
  exact .inr (Nat.le_trans h.le q)⟩
theorem Fr.own {X:Nat→Prop} {i j:Nat} {O:Objs} {n:Nat} (L:List NR) (x:Option GObj):Fr X i j O n L (O.upd n x) (n+1) L:=⟨Nat.le_succ n,fun u a _ _=>Yb _ _ (by omega),fun _ h => .inl h⟩
theorem Fr.set {X:Nat→Prop} {i j a:Nat} {O:Objs} {n0 n:Nat} {L0 L:List NR} {O0:Objs} (h:Fr X i j O0 n0 L0 O n L) (x:Option GObj) (ha:n0≤a):Fr X i j O0 n0 L0 (O.upd a x) n L:=⟨h.le,fun u p q r=>by rw [Yb _ _ (by omega)];exact h.off u p q r,h.ter⟩
theorem Fr.keep {X:Nat→Prop} {i j:Nat} {O:Objs} {n:Nat} {L L':List NR} {O':Objs} {n':Nat} (h:Fr X i j O n L O' n' L') {u:Nat} (hu:u < n) (hx:¬ X u) (ht:¬ Go.Proofs.YtmjjjfamipncdaaGreat.ter i j L u):O' u=O u∧u < n'∧¬ Go.Proofs.YtmjjjfamipncdaaGreat.ter i j L' u:=⟨h.off u hu hx ht,Nat.lt_of_lt_of_le hu h.le,fun q=>by rcases h.ter u q with q | q;exact ht q;omega⟩
def AP (size:Int) (O:Objs) (n i j:Nat) (L:List NR) (σ:SG):Prop:=PX (HP j size σ.2) O n i j L∧L.map (·.2)=σ.1
def AR (size most:Int) (O:Objs) (n i j:Nat) (L:List NR) (σ:SG):Prop:=PX (HR j size most (most - σ.2)) O n i j L∧L.map (·.2)=σ.1
theorem AP.frame {size:Int} {O O':Objs} {n n' i j:Nat} {L:List NR} {σ:SG} (h:AP size O n i j L σ) (hO:∀ t,ter i j L t→O' t=O t) (hn:n≤n'):AP size O' n' i j L σ:=⟨h.1.frame hO hn,h.2⟩
theorem AR.frame {size most:Int} {O O':Objs} {n n' i j:Nat} {L:List NR} {σ:SG} (h:AR size most O n i j L σ) (hO:∀ t,ter i j L t→O' t=O t) (hn:n≤n'):AR size most O' n' i j L σ:=⟨h.1.frame hO hn,h.2⟩
theorem AP.own {size:Int} {O:Objs} {n i j:Nat} {L:List NR} {σ:SG} (h:AP size O n i j L σ) (x:Option GObj):AP size (O.upd n x) (n+1) i j L σ:=h.frame (fun t ht=>Yb _ _ (by have:=h.1.ter_lt ht;omega)) (Nat.le_succ n)
theorem AP.set {size:Int} {O:Objs} {n i j a:Nat} {L:List NR} {σ:SG} (h:AP size O n i j L σ) (x:Option GObj) (ha:¬ ter i j L a):AP size (O.upd a x) n i j L σ:=h.frame (fun t ht=>Yb _ _ (fun e=>ha (e ▸ ht))) (Nat.le_refl n)
theorem AR.own {size most:Int} {O:Objs} {n i j:Nat} {L:List NR} {σ:SG} (h:AR size most O n i j L σ) (x:Option GObj):AR size most (O.upd n x) (n+1) i j L σ:=h.frame (fun t ht=>Yb _ _ (by have:=h.1.ter_lt ht;omega)) (Nat.le_succ n)
theorem St.b1 {size most:Int} {σ:SG} {O:Objs} {n i j:Nat} {L:List NR} (hs:St size most σ) (h:L.map (·.2)=σ.1):L.length≤16∧(∀ x∈L,(x.2.length:Int)+σ.2≤131072)∧∀ x∈L,x.2.length≤1000000:=by
 have e:∀ x∈L,(x.2.length:Int)+σ.2≤131072:=fun x hx=>hs.hB _ (by rw [← h];exact List.mem_map.2 ⟨x,hx,rfl⟩)
 have:=hs.hl0
 refine ⟨by have:=hs.h16;rw [← h,List.length_map] at this;exact this,e,fun x hx=>by have:=e x hx;omega⟩
attribute [local push_cast] Bool.and_true Bool.true_and false_and decide_false beq_iff_eq Bool.not_false Bool.false_and
theorem Zp6 (w:Nat):∀ (ns:List Int) (s:List Int) (k:Nat),(Zef (Zjs w) s k ns).length=s.length
 | [],_,_=>rfl
 | n::ns,s,k=>by
  rw [Zef,Zp6 w ns]
  unfold Zjs
  rw [Kx]
theorem Z5d {c:Int} (h:0≤c∧c≤5) {ns:List Int} (_:ns.length≤1048576) (_:∀ n∈ns,0≤n∧Zbp c n=true):True∧(Zaq c ns).length=(ns.length * wid c+63) / 64:=by
 refine ⟨trivial,?_⟩
 unfold Zaq
 by_cases h0:c=0
 ·rw [if_pos h0,h0]
  show 0=(ns.length * 0+63) / 64
  omega
 rw [if_neg h0,Zp6,List.length_replicate]
theorem Z4g {a t k u:Int} (a0:0≤a) (a1:a≤1048576) (t0:0≤t) (t1:t≤1048576) (k0:0≤k) (k1:k≤1) (u0:0≤u) (u1:u < 4294967296) :
  Gm a t k u=some (nw a t k u):=by
 unfold Gm nw
 rw [Yy (x:=t - a) (by omega) (by omega),Yy (x:=t - a - 1) (by omega) (by omega)]
 by_cases h:t - a - 1 < 0
 ·rw [decide_eq_true h,cond_true,Yy (by omega) (by omega),Option.bind_some,Yy (x:=4 * _) (by omega) (by omega),Kr (x:=4 * _) (by omega) (by omega),Kr (x:=u * _) (by omega) (by omega),Kr (x:=_+k) (by omega) (by omega),Kr (by omega) (by omega)]
  congr 1
  omega
 rw [decide_eq_false h,cond_false,Option.bind_some,Yy (x:=4 * _) (by omega) (by omega),Kr (x:=4 * _) (by omega) (by omega),Kr (x:=u * _) (by omega) (by omega),Kr (x:=_+k) (by omega) (by omega),Kr (by omega) (by omega)]
 congr 1
 omega
def PtrOf (P:Z4) (k u:Int):Prop:=(∃ d p,P=⟨1,0,d,p,0,0,0,false⟩∧k=0∧u=d+65536 * p∧0≤d∧d < 65536∧0≤p∧p < 65536)∨(∃ c m,P=⟨2,0,0,0,c,m,0,false⟩∧k=1∧u=c+8 * m∧0≤c∧c < 8∧0≤m∧m < 536870912)
theorem PtrOf.bd {P:Z4} {k u:Int} (h:PtrOf P k u):0≤k∧k≤1∧0≤u∧u < 4294967296:=by
 rcases h with ⟨d,p,rfl,rfl,rfl,_⟩ | ⟨d,p,rfl,rfl,rfl,_⟩ <;> omega
theorem PtrOf.null {P:Z4} {k u:Int} (h:PtrOf P k u):((P.Kind == 1) && ((P.Off == 0) && ((P.Data == 0) && ((P.Ptrs == 0) && ((P.Code == 0) && ((P.Count == 0) && ((P.Segment == 0) && !P.Double)))))))=decide (k=0∧u=0):=by
 rcases h with ⟨d,p,rfl,rfl,rfl,_⟩ | ⟨d,p,rfl,rfl,rfl,_⟩
 ·rw [Bool.eq_iff_iff];simp only [Bool.and_eq_true,beq_iff_eq,decide_eq_true_eq,Bool.not_false,true_and,and_true];omega
 rw [Bool.eq_iff_iff];simp
theorem Z95 {t:Tr} {d:Nat} (hF:Fine t d) (h0:¬ t.Kind=0) (h10:¬ t.Kind=10):∃ P:Z4,True∧True∧(Gd t≤131072→PtrOf P (pkd t) (pup t)):=by
 have kd:=Zvz hF h0 h10
 have p:=hF.pt
 have pk:=Zii t
 obtain ⟨i1,i2,i3,i4⟩:=Uu hF.rt h0 h10
 by_cases c1:t.Kind=1
 ·refine ⟨_,trivial,trivial,fun _ => .inl ⟨(t.Words.length:Int),(t.Kids.length:Int),rfl,?_,?_,by omega,by omega,by omega,by have:=i2 c1;omega⟩⟩
  ·unfold pkd;rw [if_pos c1]
  unfold pup;rw [if_pos c1]
 have ek:pkd t=1:=by unfold pkd;rw [if_neg c1]
 by_cases c9:t.Kind=9
 ·obtain ⟨a1,a2,w0,w1,k0,k1,ak⟩:=Zth hF c9
  refine ⟨_,trivial,trivial,fun hp => .inr ⟨7,(t.Kids.length:Int) * ((fr t.Kids).1+(fr t.Kids).2),rfl,ek,?_,by omega,by omega,a1,by rw [Zez c9] at hp;omega⟩⟩
  unfold pup;rw [if_neg c1,if_pos c9]
 refine ⟨_,trivial,trivial,fun hp => .inr ⟨t.Kind - 2,(t.Kids.length:Int),rfl,ek,?_,by omega,by omega,by omega,by omega⟩⟩
 unfold pup;rw [if_neg c1,if_neg c9]
theorem Zoj {t:Tr} {d:Nat} (hF:Fine t d) (h:2≤t.Kind∧t.Kind≤7):∀ k∈t.Kids,∃ w,k.Words=[w]∧0≤w∧w < 18446744073709551616∧Zbp (t.Kind - 2) w=true:=fun k hk =>
 Z0y h (hF.bd.all k hk) (hF.kid hk).rt ((Uu hF.rt (by omega) (by omega)).2.2.2 k hk).2
theorem Z1k {t:Tr} {d:Nat} (hF:Fine t d) (hk:2≤t.Kind∧t.Kind≤7):Uq (t.Kind - 2) (ato t)=some (Zaq (t.Kind - 2) (ato t),true) :=
 Z9x (by omega) (by rw [Zj8];have:=hF.pt;have:=Zii t;omega) (fun n hn=>by
  obtain ⟨k,hk',rfl⟩:=List.mem_map.1 hn
  obtain ⟨w,hw,h0,h2,h1⟩:=Zoj hF hk k hk'
  rw [hw]
  exact ⟨h0,h2,h1⟩)
end Go.Proofs.YtmjjjfamipncdaaGreat
