/- Part VA: the law; each theorem bears its own conditions. -/
import Derived.Test.YtaddaloondpnkaaUA
import Derived.Test.YtaddaloondpnkaaUP
namespace Go.Proofs.Ytaddaloondpnkaa
open Go.RowKit
set_option linter.unusedVariables false
set_option linter.unusedSimpArgs false
set_option maxRecDepth 100000
set_option maxHeartbeats 4000000
attribute [local push_cast] Qj Zm Z0 Yj Yp Zk Zh Ze Xi Zbs Zaj Znf Zjf Zen Zer Zem Zeq Zhi Zhd Zep Zhh Zhg Zhf Zeo Zhc Zc6 evS wok Q6 Op.operands Call.operands gop atK List.all_cons List.all_nil Value.oneCell' List.take_zero List.take_succ_cons List.take_nil List.drop_nil List.append_nil Nat.add_zero Nat.zero_add Vp Yh ev Qs Zf4 Zkk Zkj Zkp Zkn Zko Zkl Zkm Zki Zo2 Zp0 Ztj Ze2 Gr Ze0 Zas Zef Zcx Zbd Zcr Zcn Zbg Zcq Zcp Zco Zbf Zcm Zbe Zbh Zai Zh6 Zcw Uf Zd5 Ug Zf5 Zez Zsb bLo bHi bMx Gs Zf3 Zu0 Zex Zgn Zbt Vi Zo6 Zu1 Zd4 Zbr Zu2 Gq Zxp Zgr Zgv Zgq Zgu Zk7 Zk3 Zk2 Zej Zgs Zk6 Zk5 Zk4 Zgt Zky Zk1 Zkx Zk0 Zp9 Zp6 Zp5 Zkz Zp7 Zp8 Zf6 Zm1 pop TK.isAgg Zk9 Zld Zk8 Zlc Zgz Zqk Zqg Zlb Zqj Zqi Zqh Zla Zqf G.under G.unders List.set_cons_zero List.set_cons_succ List.map_cons List.map_nil List.toList_toArray Array.toList_append Option.toArray_none Option.toArray_some Option.map_some Option.map_none Option.bind_some Option.bind_none List.getElem?_cons_zero List.getElem?_cons_succ List.getElem?_nil List.nil_append List.cons_append List.replicate_succ List.replicate_zero List.length_cons List.length_nil and_true true_and Bool.false_eq_true IntKind.bits ite_true ite_false eq_self ne_eq Option.some.injEq exists_eq_left' cond_true cond_false Option.join_some Int.toNat_natCast eI eL Qk Zcv Zbj Zkt Zkr Zks Zyb Z0f Zlm Zlk Zll Zua Zi2 Zrw Ziz Zou G.agg.injEq G.tup.injEq List.flatten_cons List.flatten_nil Int.le_refl Nat.le_refl Zmz Zrr Zrq Z04 Zog Znn G.ren G.rens Zqs Zkg Zkh G.fn.injEq Zrp Option.join_none Ye V3 undef Zgo Zc0 Zlj Zlg Zlh onB Zya Zo1 Zek Zg5 Zg4 Zg3 Zg2 Z0e Z0d Zu7 Zsd Vy Zt3 Zm2 Zud Zuc Zyc Znq Zf2 Zgk Zce Zdi Z41 Zrf Zok Zrg Z42 Zrh Z43 Zri Z44 Zrj Z45 Zrk Z46 Zrl Z47 Zrm Zv2 Zlv Zv3 Zlw Zv4 Zlx Zv5 Zly Zv6 Zlz Zv7 Zl0 Zv8 Zl1 Zv9 Zl2 Zwa Zl3 Zwb Zl4 Zwc Zl5 U1 Zdd Zr8 Ziu Zwd Zl6 Za3 Zl7 Zwe Ziv Zwf Zl8 Zwg Zl9 Zwh Zma Zwi Ziw Zwj Zmb Zwk Zmc Zwl Zmd Zwm Zme Vz Zmf Zwn Zmg Zwo Zmh Zwp Zmi Zwq Zmj Zwr Zmk Zws Zml Zwt Zmm Zwu Zmn Zwv Zmo Zww Zmp Zwx Zmq Zwy Zmr Zwz Zms Zw0 Zmt Zw1 Zmu Zw2 Zmv Zw3 Zmw Zw4 Zmx Zps Zmy Zqy Zhl Zqz Zhm Zq0 Zhn Zq1 Zho Zq2 Zhp Zq3 Zhq Zq4 Zhr Zq5 Zhs Zq6 Zht Zq7 Zhu Zq8 Zhv Zq9 Zhw Zra Zhx Zrb Zhy Zrc Zhz Zrd Zh0 Zre Zh1 Zx Zbc Zl Zj Y6
theorem Ztt (s:Int):∀ (ws:List Int) (segs:List (List Int)) (p w:Int),Q3 segs s p (ws++[w])=Qq (Q3 segs s p ws) s (p+(ws.length:Int)) w
 | [],segs,p,w=>by simp [Q3]
 | v::ws,segs,p,w=>by
  rw [List.cons_append,Q3,Ztt s ws,Q3,List.length_cons]
  congr 1
  omega
theorem Zj5 {i j:Nat} {L L1:List NR} (h:L1.map (·.1)=L.map (·.1)) {t:Nat} (ht:ter i j L1 t):ter i j L t:=by
 rcases ht with h | h | ⟨y,hy,rfl⟩
 ·exact .inl h
 ·exact .inr (.inl h)
 have:y.1∈L.map (·.1):=by rw [← h];exact List.mem_map.2 ⟨y,hy,rfl⟩
 obtain ⟨u,hu,e⟩:=List.mem_map.1 this
 exact .inr (.inr ⟨u,hu,e.symm⟩)
attribute [local push_cast] Bool.and_self Zbi Zad
def HB (i:Nat) (room:Bool):GObj:=⟨false,71,2,1,[.ref i 0,.val (.bool room)]⟩
theorem Z9l {O:Objs} {n b i j:Nat} {L:List NR} {size most used s p v:Int} {x:NR} (h:PX (HR j size most used) O n i j L) (hb:b < n) (hob:O b=some (HB i true)) (hx:Z9 L s=some x) (hp:0≤p∧p < (x.2.length:Int)) :
  GTo Try.prog 61 [.ref b 0,.val (.int .i64 s),.val (.int .i64 p),.val (.int .u64 v)] O n (.tup []) (O.upd x.1 (some ⟨true,58,1,x.2.length,fl (eI .u64) (Y5 x.2 p v)⟩)) n:=by
 have hi:=h.hi
 have hj:=h.hj
 have ho:=h.ho
 have hoj:=h.hoj
 have hx1:=h.lt x (Xg hx)
 have hox:=h.hL x (Xg hx)
 unfold HR at ho
 unfold HB at hob
 refine Yi Zc Try.call61 Try.func61 rfl (Nat.le_of_ble_eq_true rfl) (Nat.le_refl _) fun hU => ?_
 have hlr:∀ i k,Kw O (.row i k)=True:=fun i k=>by simp [Kw]
 obtain ⟨x2,hx2,ax2,bx2,cx2,_⟩:=bE (f:=eN) (K:=fun y=>some y) (r:=x) U1 (fun _=>rfl) (by decide) (by rw [hx];rfl)
 obtain rfl:x2=x:=Option.some.inj (hx2.symm.trans hx)
 have hE:(eN x2)[0]? = some (.row x2.1 x2.2.length):=rfl
 obtain ⟨w0,hw0⟩:∃ w0,Z9 x2.2 p=some w0:=⟨x2.2[p.toNat]'(by omega),by unfold Z9;rw [if_pos hp.1];exact List.getElem?_eq_getElem (by omega)⟩
 have gu:Uh (fl (eI .u64) x2.2) [.val (.int .u64 v)] (Int.toNat p * 1)=some (fl (eI .u64) (Y5 x2.2 p v)):=Zeg (f:=eI .u64) (ti:=⟨.bool,1,0,[],false⟩) (x:=v) (fun _=>rfl) (Zax hw0)
 have hpl:=hp.1
 have hpr:=hp.2
 show W _ _ _ _ ⟨25,[],[(0,.ref b 0),(1,.val (.int .i64 s)),(2,.val (.int .i64 p)),(3,.val (.int .u64 v))]⟩ (Z4 O n []) _
 rw [Kb hU.fresh]
 refine Zn [0,1,2,3,11] (Zb Zc [] ?_)
 simp only [push_cast,seval,Za,hb,hob]
 refine Zq (t:=true) rfl (fun c15 => ?_) (fun c15=>by cases c15)
 refine Zb Zc [] ?_
 simp only [push_cast,Nat.reduceAdd,Nat.reduceSub,Nat.reduceMul,Nat.reduceLeDiff,Nat.reduceLT,Nat.reduceEqDiff,↓reduceIte,reduceCtorEq,Int.reduceBEq,Int.reduceBNe,Nat.reduceBEq,Int.reduceLE,Int.reduceLT,Int.reduceEq,Int.reduceNe,Int.reduceNeg,Nat.reduceDiv,Nat.reduceMod,Nat.reducePow,Za,ax2,bx2,cx2,hb,hob,hi,ho,hoj,hj,hE,hlr,hox,hx1,hpl,hpr,gu]
 refine Yu (P:=Try.prog) (.inl rfl) (hU.set hx1 (Zad _)) [] (Nat.le_refl _) ?_
 simp only [push_cast,seval,Za,Try.results61]
theorem Z3d {O:Objs} {n b i:Nat} {s p v:Int} (hb:b < n) (hob:O b=some (HB i false)) (hi:i < n) :
  GTo Try.prog 61 [.ref b 0,.val (.int .i64 s),.val (.int .i64 p),.val (.int .u64 v)] O n (.tup []) O n:=by
 unfold HB at hob
 refine Yi Zc Try.call61 Try.func61 rfl (Nat.le_of_ble_eq_true rfl) (Nat.le_refl _) fun hU => ?_
 show W _ _ _ _ ⟨25,[],[(0,.ref b 0),(1,.val (.int .i64 s)),(2,.val (.int .i64 p)),(3,.val (.int .u64 v))]⟩ (Z4 O n []) _
 rw [Kb hU.fresh]
 refine Zn [0,1,2,3,11] (Zb Zc [] ?_)
 simp only [push_cast,seval,Za,hb,hob]
 refine Zq (t:=false) rfl (fun c15=>by cases c15) (fun c15 => ?_)
 refine Zt ?_
 refine Yu (P:=Try.prog) (.inl rfl) hU [] (Nat.le_refl _) ?_
 simp only [push_cast,seval,Za,Try.results61]
attribute [local push_cast] decide_true Vg
theorem Z3e {O:Objs} {n b i j:Nat} {L:List NR} {size most used s p v:Int} (h:PX (HR j size most used) O n i j L) (hb:b < n) (hob:O b=some (HB i true)) (hh:X0 (L.map (·.2)) s p 1=true) :
  ∃ O' L',GTo Try.prog 61 [.ref b 0,.val (.int .i64 s),.val (.int .i64 p),.val (.int .u64 v)] O n (.tup []) O' n∧PX (HR j size most used) O' n i j L'∧L'.map (·.1)=L.map (·.1)∧L'.map (·.2)=Qq (L.map (·.2)) s p v∧∀ t,¬ ter i j L t→O' t=O t:=by
 obtain ⟨t,ht⟩:∃ t,Z9 (L.map (·.2)) s=some t:=by
  unfold X0 at hh
  cases e:Z9 (L.map (·.2)) s with
  | none=>rw [e] at hh;cases hh
  | some t=>exact ⟨t,rfl⟩
 have hS:0≤s∧s < (L.length:Int):=by have:=K4 ht;rwa [List.length_map] at this
 have hx0:∃ x,Z9 L s=some x:=⟨L[s.toNat]'(by omega),by unfold Z9;rw [if_pos hS.1];exact List.getElem?_eq_getElem (by omega)⟩
 obtain ⟨x,hx⟩:=hx0
 have et:t=x.2:=Option.some.inj (ht.symm.trans (Zo4 hx))
 subst et
 have hp:0≤p∧p < (x.2.length:Int):=by
  have h2:=hh
  unfold X0 at h2
  rw [ht] at h2
  have:=of_decide_eq_true h2
  omega
 refine ⟨_,Y5 L s (x.1,Y5 x.2 p v),Z9l h hb hob hx hp,h.put hx (Vg _ _ _),Zun hx _,?_,fun t ht=>Z89 hx _ ht⟩
 rw [Zuo]
 unfold Qq
 rw [if_pos hh,ht];rfl
theorem Ze3 (segs:List (List Int)) (s p v s' p' k:Int):X0 (Qq segs s p v) s' p' k=X0 segs s' p' k:=by
 unfold Qq
 by_cases c:X0 segs s p 1=true
 ·rw [if_pos c]
  cases ht:Z9 segs s with
  | none=>unfold X0 at c;rw [ht] at c;cases c
  | some t =>
   have hs:=K4 ht
   unfold X0
   by_cases e:s'=s
   ·subst e
    rw [Q7 ht,ht]
    show decide _=decide _
    have:(Y5 ((some t).getD []) p v).length=t.length:=Vg _ _ _
    rw [this]
   have:Z9 (Y5 segs s (Y5 ((some t).getD []) p v)) s'=Z9 segs s':=by
    unfold Z9 Y5
    by_cases c0:0≤s'
    ·rw [if_pos c0,if_pos c0,List.getElem?_set_ne (by omega)]
    rw [if_neg c0,if_neg c0]
   rw [this]
 rw [if_neg c]
theorem Zku (s s' p' k:Int):∀ (ws:List Int) (segs:List (List Int)) (p:Int),X0 (Q3 segs s p ws) s' p' k=X0 segs s' p' k
 | [],_,_=>rfl
 | w::ws,segs,p=>by rw [Q3,Zku s s' p' k ws,Ze3]
theorem Zdh {segs:List (List Int)} {s p q k:Int} (h:X0 segs s p k=true) (h1:p≤q) (h2:q < p+k):X0 segs s q 1=true:=by
 unfold X0 at h ⊢
 cases e:Z9 segs s with
 | none=>rw [e] at h;cases h
 | some t =>
  rw [e] at h
  have:=of_decide_eq_true h
  exact decide_eq_true (by omega)
theorem Z9f {O:Objs} {n b i j:Nat} {L:List NR} {size most used:Int} (h:PX (HR j size most used) O n i j L) (hb:b < n) (hbt:¬ ter i j L b) (hob:O b=some (HB i true)) (s p:Int) (ws:List Int) (hp:p+(ws.length:Int)≤1000000) (hp0:0≤p) (hh:X0 (L.map (·.2)) s p (ws.length:Int)=true∨ws=[]) :
  GCalls Try.prog 58 [.ref b 0,.val (.int .i64 s),.val (.int .i64 p),.sl ws.length (fl (eI .u64) ws)] O n fun r O' n'=>r = .tup []∧n≤n'∧∃ L',PX (HR j size most used) O' n' i j L'∧L'.map (·.1)=L.map (·.1)∧L'.map (·.2)=Q3 (L.map (·.2)) s p ws∧(∀ t,t < n→¬ ter i j L t→O' t=O t):=by
 refine Ztc Zc Try.call58 Try.func58 rfl (Nat.le_of_ble_eq_true rfl) fun hU => ?_
 show W _ _ _ _ ⟨25,[],[(0,.ref b 0),(1,.val (.int .i64 s)),(2,.val (.int .i64 p)),(3,.sl ws.length (fl (eI .u64) ws))]⟩ (Z4 O n []) _
 rw [Kb hU.fresh]
 refine Zn [0,1,2,3,8] (Zb Zc [] ?_)
 simp only [push_cast,seval,Za,hb]
 refine Yl ?_
 refine Zsg (S:=Int×Objs×List NR) (fun q=>⟨25,[],[(0,.ref b 0),(1,.val (.int .i64 s)),(2,.val (.int .i64 p)),(3,.sl ws.length (fl (eI .u64) ws)),(8,.val (.int .i64 q.1))]⟩) (fun q=>q.2.1) (fun _=>n)
  (fun q=>(0≤q.1∧q.1≤(ws.length:Int))∧PX (HR j size most used) q.2.1 n i j q.2.2∧q.2.2.map (·.1)=L.map (·.1)∧q.2.2.map (·.2)=Q3 (L.map (·.2)) s p (ws.take q.1.toNat)∧(∀ t,¬ ter i j L t→q.2.1 t=O t))
  (fun q=>((ws.length:Int) - q.1).toNat) (fun _ _=>Nat.le_refl n) (fun q hq => ?_) (0,O,L) ⟨⟨Int.le_refl _,by omega⟩,h,rfl,rfl,fun _ _=>rfl⟩
 obtain ⟨k,Y,M⟩:=q
 obtain ⟨⟨k0,k1⟩,g1,g2,g3,g5⟩:=hq
 dsimp only at k0 k1 g1 g2 g3 g5 ⊢
 have g4:Y b=some (HB i true):=(g5 b hbt).trans hob
 refine Q9 fun hUY => ?_
 refine Zf ?_
 refine Zn [0,1,2,3,8,12] (Zb Zc [] ?_)
 simp only [push_cast,seval,Za,hb]
 refine Zq (t:=decide (k < (ws.length:Int))) rfl (fun c => ?_) (fun c => ?_)
 ·have c1:k < (ws.length:Int):=of_decide_eq_true c
  refine Zt ?_
  try simp only [Zh,Ze]
  obtain ⟨w,hw⟩:∃ w,Z9 ws k=some w:=⟨ws[k.toNat]'(by omega),by unfold Z9;rw [if_pos k0];exact List.getElem?_eq_getElem (by omega)⟩
  obtain ⟨x5,hx5,ax5,bx5,cx5,_⟩:=bE (f:=eI .u64) (K:=fun y=>some y) (r:=w) Vz (fun _=>rfl) (by decide) (by rw [hw];rfl)
  obtain rfl:x5=w:=Option.some.inj (hx5.symm.trans hw)
  have hh1:X0 (M.map (·.2)) s (p+k) 1=true:=by
   rw [g3,Zku]
   rcases hh with hh | hh
   ·exact Zdh hh (by omega) (by omega)
   rw [hh] at c1;simp at c1;omega
  obtain ⟨Y',M',q1,q2,q3,q4,q5⟩:=Z3e (v:=x5) g1 hb g4 hh1
  have hwp:IntKind.i64.wrap (p+k)=p+k:=Ul (by omega)
  refine Zf ?_
  refine Yl ?_
  refine Zb Zc [] ?_
  simp only [push_cast,Nat.reduceAdd,Nat.reduceSub,Nat.reduceMul,Nat.reduceLeDiff,Nat.reduceLT,Nat.reduceEqDiff,↓reduceIte,reduceCtorEq,Int.reduceBEq,Int.reduceBNe,Nat.reduceBEq,Int.reduceLE,Int.reduceLT,Int.reduceEq,Int.reduceNe,Int.reduceNeg,Nat.reduceDiv,Nat.reduceMod,Nat.reducePow,Za,hb,ax5,bx5,cx5,hwp]
  refine q1.then ?_
  simp only [push_cast,seval,Za,hb]
  refine Q9 fun hUY' => ?_
  refine Zb Zc [] ?_
  have hwk:IntKind.i64.wrap (k+1)=k+1:=Ul (by omega)
  simp only [push_cast,seval,Za,hb,hwk]
  refine .inl ⟨rfl,(k+1,Y',M'),⟨⟨by omega,by omega⟩,q2,q3.trans g2,?_,fun t h2 => ?_⟩,by show ((ws.length:Int) - (k+1)).toNat < ((ws.length:Int) - k).toNat;omega,Kt hUY' (Nat.le_refl n) rfl ?_⟩
  ·have e:ws.take (k+1).toNat=ws.take k.toNat++[x5]:=by
    have h3:=hw
    unfold Z9 at h3
    rw [if_pos k0] at h3
    rw [show (k+1).toNat=k.toNat+1 by omega,List.take_add_one,h3];rfl
   show M'.map (·.2)=Q3 (L.map (·.2)) s p (ws.take (k+1).toNat)
   rw [e,Ztt,q4,g3]
   congr 1
   rw [List.length_take]
   omega
  ·show Y' t=O t
   rw [q5 t (fun q=>h2 (Zj5 g2 q))];exact g5 t h2
  simp only [push_cast,seval,Za,hb]
 have c1:¬ k < (ws.length:Int):=of_decide_eq_false c
 refine X9 ?_
 try simp only [Zh,Ze,↓reduceIte,Nat.reduceEqDiff]
 refine .inr ⟨(fun h=>by cases h),?_⟩
 have ek:ws.take k.toNat=ws:=List.take_of_length_le (by omega)
 rw [ek] at g3
 show Zyy _ _ _ _ .normal _ _ _
 refine ⟨.tup [],Y,n,Nat.le_refl n,⟨rfl,Nat.le_refl n,M,g1,g2,g3,fun t _=>g5 t⟩,?_⟩
 refine Yu (P:=Try.prog) (.inl rfl) hUY [] (Nat.le_refl n) ?_
 simp only [push_cast,seval,Za,Try.results58]
attribute [local push_cast] List.length_append
theorem Zzv {L:List NR} {x:NR} (h0:0 < L.length) (hx:Z9 L ((L.length:Int) - 1)=some x):J9 (L.map (·.2))=x.2:=by
 have h:=Zo4 hx
 unfold Z9 at h
 rw [if_pos (by omega),show ((L.length:Int) - 1).toNat=L.length - 1 by omega] at h
 unfold J9
 rw [List.length_map,h];rfl
theorem Yac {L:List NR} (h0:0 < L.length):∃ x,Z9 L ((L.length:Int) - 1)=some x:=⟨L[((L.length:Int) - 1).toNat]'(by omega),by unfold Z9;rw [if_pos (by omega)];exact List.getElem?_eq_getElem (by omega)⟩
theorem Z7l {O:Objs} {n i j:Nat} {L:List NR} {size most left:Int} (h:PX (HR j size most (most - left)) O n i j L) (h16:L.length≤16) (hl0:0≤left) (hl:left≤131072) (hm:left≤most) (hm2:most≤131072) (hB:∀ x∈L,(x.2.length:Int)+left≤131072) (k:Int) :
  ∃ O' n' L',GTo Try.prog 56 [.ref i 0,.val (.int .i64 k)] O n (.tup [.val (.int .i64 (bif (Xu (L.map (·.2)) size left k).2.2.1 then (Xu (L.map (·.2)) size left k).1 else -1)),.val (.int .i64 (bif (Xu (L.map (·.2)) size left k).2.2.1 then (Xu (L.map (·.2)) size left k).2.1 else -1))]) O' n'∧n≤n' ∧
   PX (HR j size most (most - (Xu (L.map (·.2)) size left k).2.2.2.2)) O' n' i j L'∧L'.map (·.2)=(Xu (L.map (·.2)) size left k).2.2.2.1∧(∀ t,ter i j L' t→ter i j L t∨n≤t)∧(∀ t,t < n→¬ ter i j L t→O' t=O t):=by
 have hwl:IntKind.i64.wrap (most - (most - left))=left:=by rw [Ul (by omega)];omega
 by_cases c:k < 0∨left < k
 ·have e:Xu (L.map (·.2)) size left k=(0,0,false,L.map (·.2),left):=if_pos c
  rw [e]
  exact ⟨O,n,L,Z0o h.hi h.hj h.ho h.hoj (by rw [hwl];exact c),Nat.le_refl _,h,rfl,fun t ht => .inl ht,fun _ _ _=>rfl⟩
 by_cases c2:(L.map (·.2)).length=0∨(L.map (·.2)).length < 16∧¬ k≤IntKind.i64.wrap (size - ((J9 (L.map (·.2))).length:Int))
 ·have e:Xu (L.map (·.2)) size left k=(((L.map (·.2)).length:Int),0,true,L.map (·.2)++[zl [] k],IntKind.i64.wrap (left - k)):=(if_neg c).trans (if_pos c2)
  rw [List.length_map] at c2 e
  have hf:L.length=0∨L.length < 16∧∃ x,Z9 L ((L.length:Int) - 1)=some x∧¬ k≤IntKind.i64.wrap (size - (x.2.length:Int)):=by
   by_cases h0:L.length=0
   ·exact .inl h0
   obtain ⟨q1,q2⟩:=c2.resolve_left h0
   obtain ⟨x,hx⟩:=Yac (L:=L) (by omega)
   exact .inr ⟨q1,x,hx,by rw [← Zzv (by omega) hx];exact q2⟩
  have hw:IntKind.i64.wrap ((most - left)+k)=most - IntKind.i64.wrap (left - k):=by rw [Ul (by omega),Ul (by omega)];omega
  have g:=Zyh (k:=k) h.hi h.hj h.lt h.hij h.ho h.hoj (by omega) (by rw [hwl];omega) (by omega) (by omega) hf
  rw [hw] at g
  rw [e]
  exact ⟨_,n+1,L++[(n,zl [] k)],g,Nat.le_succ n,h.new _ _,by simp,fun t ht=>(Z9y ht).imp id (fun q=>by omega),fun t ht h1=>Z88 _ _ _ h1 (by omega)⟩
 have e:Xu (L.map (·.2)) size left k=(((L.map (·.2)).length:Int) - 1,((J9 (L.map (·.2))).length:Int),true,(L.map (·.2)).set ((L.map (·.2)).length - 1) (zl (J9 (L.map (·.2))) k),IntKind.i64.wrap (left - k)):=(if_neg c).trans (if_neg c2)
 rw [List.length_map] at c2 e
 obtain ⟨x,hx⟩:=Yac (L:=L) (by omega)
 have hla:=Zzv (by omega) hx
 rw [hla] at c2 e
 have bx:=hB x (Xg hx)
 have hw:IntKind.i64.wrap ((most - left)+k)=most - IntKind.i64.wrap (left - k):=by rw [Ul (by omega),Ul (by omega)];omega
 have g:=Z0n (k:=k) h.hi h.hj h.lt h.hij (h.ni x (Xg hx)) (h.nj x (Xg hx)) h.ho h.hoj hx (h.hL x (Xg hx)) (by omega) (by rw [hwl];omega) (by omega) (by omega) (by
  by_cases q:k≤IntKind.i64.wrap (size - (x.2.length:Int))
  ·exact .inl q
  exact .inr (by omega))
 rw [hw] at g
 rw [e]
 refine ⟨_,n,Y5 L ((L.length:Int) - 1) (x.1,zl x.2 k),g,Nat.le_refl n,h.set hx _ _,?_,fun t ht => .inl (Zyn hx _ ht),fun t ht h1=>Zx7 hx _ _ _ h1⟩
 rw [Zuo]
 unfold Y5
 rw [show ((L.length:Int) - 1).toNat=L.length - 1 by omega]
attribute [local push_cast] List.drop_succ_cons Zds
theorem Zy6 {O:Objs} {n b i j:Nat} {L:List NR} {size most left:Int} (h:PX (HR j size most (most - left)) O n i j L) (hb:b < n) (hbt:¬ ter i j L b) (hob:O b=some (HB i true)) (h16:L.length≤16) (hl0:0≤left) (hl:left≤131072) (hm:left≤most) (hm2:most≤131072) (hB:∀ x∈L,(x.2.length:Int)+left≤131072) (k:Int)
  (hpos:(Xu (L.map (·.2)) size left k).2.2.1=true→0≤(Xu (L.map (·.2)) size left k).1) :
  ∃ O' n' L',GTo Try.prog 29 [.ref b 0,.val (.int .i64 k)] O n (.tup [.val (.int .i64 (bif (Xu (L.map (·.2)) size left k).2.2.1 then (Xu (L.map (·.2)) size left k).1 else -1)),.val (.int .i64 (bif (Xu (L.map (·.2)) size left k).2.2.1 then (Xu (L.map (·.2)) size left k).2.1 else -1))]) O' n'∧n≤n' ∧
   O' b=some (HB i (Xu (L.map (·.2)) size left k).2.2.1)∧PX (HR j size most (most - (Xu (L.map (·.2)) size left k).2.2.2.2)) O' n' i j L'∧L'.map (·.2)=(Xu (L.map (·.2)) size left k).2.2.2.1∧(∀ t,ter i j L' t→ter i j L t∨n≤t)∧(∀ t,t < n→t≠b→¬ ter i j L t→O' t=O t):=by
 obtain ⟨Y,m,M,g,g1,g2,g3,g4,g5⟩:=Z7l h h16 hl0 hl hm hm2 hB k
 obtain ⟨R,hR⟩:∃ R,R=Xu (L.map (·.2)) size left k:=⟨_,rfl⟩
 rw [← hR] at g g2 g3 hpos ⊢
 have hYb:Y b=some (HB i true):=(g5 b hb hbt).trans hob
 have hbm:b < m:=by omega
 have him:=g2.hi
 have hi:=h.hi
 have hbt2:¬ ter i j M b:=fun q=>(g4 b q).elim (fun q=>hbt q) (fun q=>by omega)
 have hii:i≠b:=fun e=>hbt (.inl e.symm)
 refine ⟨Y.upd b (some (HB i R.2.2.1)),m,M,?_,g1,Ye _ _ _,g2.frame (fun t ht=>Ya _ _ (fun e=>hbt2 (e ▸ ht))) (Nat.le_refl m),g3,g4,fun t h1 h2 h3=>by rw [Ya _ _ h2];exact g5 t h1 h3⟩
 refine Yi Zc Try.call29 Try.func29 rfl (Nat.le_of_ble_eq_true rfl) g1 fun hU => ?_
 have hob':=hob
 have hYb':=hYb
 unfold HB at hob' hYb'
 show W _ _ _ _ ⟨24,[],[(0,.ref b 0),(1,.val (.int .i64 k))]⟩ (Z4 O n []) _
 rw [Kb hU.fresh]
 refine Zn [0,1] (Zb Zc [] ?_)
 simp only [push_cast,seval,Za,hb]
 refine Zn [0,6,7] (Zb Zc [] ?_)
 simp only [push_cast,seval,Za,hb,hi,hob']
 refine g.then ?_
 simp only [push_cast,seval,Za,hbm]
 refine Q9 fun hUY => ?_
 cases c:R.2.2.1 with
 | true =>
  have d1:decide (R.1 < 0)=false:=decide_eq_false (by have:=hpos c;omega)
  have e1:Y.upd b (some (HB i true))=Y:=Zh2 hYb
  rw [e1]
  simp only [cond_true]
  refine Yt (E':=⟨24,[],[(6,.val (.int .i64 R.1)),(7,.val (.int .i64 R.2.1))]⟩) (O':=Y) (n0:=m) ?_ ?_
  ·refine Zn [0,6,7,18] (Zb Zc [] ?_)
   simp only [push_cast,seval,Za,hbm,d1]
   refine Zq (t:=false) rfl (fun c15=>by cases c15) (fun c15 => ?_)
   refine Zt ?_
   refine And.intro rfl (Kt hUY g1 rfl ?_)
   simp only [push_cast,seval,Za]
  refine Zn [4,5] (Zb Zc [] ?_)
  simp only [push_cast,seval,Za]
  refine Zv ?_
  refine Yu (P:=Try.prog) (.inr rfl) hUY [.val (.int .i64 R.1),.val (.int .i64 R.2.1)] g1 ?_
  simp only [push_cast,seval,Za,Try.results29]
 | false =>
  simp only [cond_false]
  have hU3:Und (Y.upd b (some (HB i false))) m:=hUY.set hbm (by simp [HB,G.unders,G.under,him])
  refine Yt (E':=⟨24,[],[(6,.val (.int .i64 (-1))),(7,.val (.int .i64 (-1)))]⟩) (O':=Y.upd b (some (HB i false))) (n0:=m) ?_ ?_
  ·refine Zn [0,6,7,18] (Zb Zc [] ?_)
   simp only [push_cast,seval,Za,hbm]
   refine Zq (t:=true) rfl (fun c15 => ?_) (fun c15=>by cases c15)
   refine Zb Zc [] ?_
   simp only [push_cast,seval,Za,hbm,hYb']
   refine And.intro rfl (Kt hU3 g1 rfl ?_)
   simp only [push_cast,seval,Za]
  refine Zn [4,5] (Zb Zc [] ?_)
  simp only [push_cast,seval,Za]
  refine Zv ?_
  refine Yu (P:=Try.prog) (.inr rfl) hU3 [.val (.int .i64 (-1)),.val (.int .i64 (-1))] g1 ?_
  simp only [push_cast,seval,Za,Try.results29]
attribute [local push_cast] not_false_eq_true decide_eq_true_eq exists_const
theorem Zkq {α:Type} {L:List α} {s:Int} (h0:0≤s) (h:s < (L.length:Int)):∃ x,Z9 L s=some x:=⟨L[s.toNat]'(by omega),by unfold Z9;rw [if_pos h0];exact List.getElem?_eq_getElem (by omega)⟩
def vA (A:List (List Int)) (s p:Int):Option Int:=(Z9 A s).bind fun x=>Z9 x p
theorem Zct {α:Type} {L:List α} {s q:Int} (y:α) (h:q≠s):Z9 (Y5 L s y) q=Z9 L q∨(s < 0):=by
 by_cases c:s < 0
 ·exact .inr c
 left
 unfold Z9 Y5
 by_cases c0:0≤q
 ·rw [if_pos c0,if_pos c0,List.getElem?_set_ne (by omega)]
 rw [if_neg c0,if_neg c0]
theorem Zzk {α:Type} {x y:List α} (h:∀ p,Z9 x p=Z9 y p):x=y:=by
 apply List.ext_getElem?
 intro i
 have:=h (i:Int)
 unfold Z9 at this
 rwa [if_pos (by omega),if_pos (by omega),Int.toNat_natCast] at this
theorem Zyt {A B:List (List Int)} (hl:A.length=B.length) (h:∀ s p,vA A s p=vA B s p):A=B:=by
 apply Zzk
 intro s
 cases ha:Z9 A s with
 | none =>
  cases hb:Z9 B s with
  | none=>rfl
  | some y =>
   have h1:=Zgm ha
   have h2:=K4 hb
   omega
 | some x =>
  cases hb:Z9 B s with
  | none =>
   have h1:=Zgm hb
   have h2:=K4 ha
   omega
  | some y =>
   refine congrArg some (Zzk fun p => ?_)
   have:=h s p
   unfold vA at this
   rw [ha,hb] at this
   exact this
theorem hasB_iff {A:List (List Int)} {s p:Int}:X0 A s p 1=true↔∃ v,vA A s p=some v:=by
 unfold X0 vA
 cases ha:Z9 A s with
 | none=>simp
 | some x =>
  rw [Option.bind_some,decide_eq_true_eq]
  constructor
  ·intro h;exact Zkq (by omega) (by omega)
  intro ⟨v,hv⟩;have:=K4 hv;omega
theorem Kv {A:List (List Int)} {s p k:Int} (h:X0 A s p k=true):∃ x,Z9 A s=some x∧0≤p∧0≤k∧p+k≤(x.length:Int):=by
 unfold X0 at h
 cases e:Z9 A s with
 | none=>rw [e] at h;cases h
 | some t=>rw [e] at h;have:=of_decide_eq_true h;exact ⟨t,rfl,by omega⟩
theorem Zh7 {A:List (List Int)} {s p k:Int} {x:List Int} (h:Z9 A s=some x) (h0:0≤p) (h1:0≤k) (h2:p+k≤(x.length:Int)):X0 A s p k=true:=by
 unfold X0
 rw [h]
 exact decide_eq_true (by omega)
theorem Vf (A:List (List Int)) (s p v:Int):(Qq A s p v).length=A.length:=by
 unfold Qq
 split
 ·exact Vg _ _ _
 rfl
theorem Zlp {A:List (List Int)} {s p:Int} (v:Int) (h:¬ X0 A s p 1=true):Qq A s p v=A:=by unfold Qq;rw [if_neg h]
theorem Zcb {A:List (List Int)} {s p:Int} (v:Int) (h:X0 A s p 1=true) (s' p':Int):vA (Qq A s p v) s' p'=if s'=s∧p'=p then some v else vA A s' p':=by
 obtain ⟨x,hx,h0,_,h2⟩:=Kv h
 have hs:=K4 hx
 unfold Qq vA
 rw [if_pos h,hx,Option.getD_some]
 by_cases c:s'=s
 ·subst c
  rw [Q7 hx,hx,Option.bind_some,Option.bind_some]
  by_cases c2:p'=p
  ·subst c2
   obtain ⟨w,hw⟩:=Zkq (L:=x) h0 (by omega)
   rw [Q7 hw,if_pos ⟨rfl,rfl⟩]
  rw [if_neg (fun q=>c2 q.2)]
  rcases Zct (L:=x) v c2 with q | q
  ·exact q
  omega
 rw [if_neg (fun q=>c q.1)]
 rcases Zct (L:=A) (Y5 x p v) c with q | q
 ·rw [q]
 omega
theorem Zyf (A:List (List Int)) {s p s' p':Int} (v v':Int) (h:¬ (s'=s∧p'=p)):Qq (Qq A s p v) s' p' v'=Qq (Qq A s' p' v') s p v:=by
 by_cases c:X0 A s p 1=true
 ·by_cases c':X0 A s' p' 1=true
  ·have d:X0 (Qq A s p v) s' p' 1=true:=by rw [Ze3];exact c'
   have d':X0 (Qq A s' p' v') s p 1=true:=by rw [Ze3];exact c
   refine Zyt (by simp only [Vf]) fun a b => ?_
   rw [Zcb _ d,Zcb _ c,Zcb _ d',Zcb _ c']
   by_cases e:a=s'∧b=p'
   ·rw [if_pos e,if_pos e,if_neg (fun q=>h ⟨e.1.symm.trans q.1,e.2.symm.trans q.2⟩)]
   rw [if_neg e,if_neg e]
  rw [Zlp v' c',Zlp v' (by rw [Ze3];exact c')]
 rw [Zlp v c,Zlp v (by rw [Ze3];exact c)]
theorem Zg9 (s p v s':Int):∀ (ws:List Int) (A:List (List Int)) (p':Int),¬ (s=s'∧p'≤p∧p < p'+(ws.length:Int))→Q3 (Qq A s p v) s' p' ws=Qq (Q3 A s' p' ws) s p v
 | [],_,_,_=>rfl
 | w::ws,A,p',h=>by
  rw [List.length_cons] at h
  rw [Q3,Q3,Zyf A v w (fun q=>h ⟨q.1.symm,by omega⟩),Zg9 s p v s' ws _ _ (fun q=>h ⟨q.1,by omega⟩)]
theorem Zzl {A:List (List Int)} {s p:Int} (v:Int) {q:Int} {x:List Int} (h:Z9 A q=some x):∃ y,Z9 (Qq A s p v) q=some y∧y.length=x.length:=by
 unfold Qq
 split
 ·rename_i c
  obtain ⟨z,hz,_⟩:=Kv c
  by_cases e:q=s
  ·subst e
   rw [h]
   exact ⟨_,Q7 h,Vg _ _ _⟩
  rcases Zct (L:=A) (Y5 ((Z9 A s).getD []) p v) e with g | g
  ·rw [g];exact ⟨x,h,rfl⟩
  have:=K4 hz;omega
 exact ⟨x,h,rfl⟩
theorem Zeh {A:List (List Int)} (h:A.length≠0):Z9 A ((A.length:Int) - 1)=some (J9 A):=by
 unfold Z9 J9
 rw [if_pos (by omega),show ((A.length:Int) - 1).toNat=A.length - 1 by omega]
 rw [List.getElem?_eq_getElem (by omega)];rfl
theorem Zkv (A:List (List Int)) (s p v:Int):(J9 (Qq A s p v)).length=(J9 A).length:=by
 by_cases h:A.length=0
 ·have:A=[]:=List.length_eq_zero_iff.1 h
  subst this
  rw [Zlp]
  unfold X0 Z9
  simp
 obtain ⟨y,h1,h2⟩:=Zzl (s:=s) (p:=p) v (Zeh h)
 have:=Zeh (A:=Qq A s p v) (by rw [Vf];exact h)
 rw [Vf,h1] at this
 rw [← Option.some.inj this,h2]
theorem Zf0 {A:List (List Int)} {s0:Int} {x:List Int} (h:Z9 A s0=some x) {k:Int} (hk:0≤k) (s p:Int):vA (Y5 A s0 (zl x k)) s p=if s=s0∧(x.length:Int)≤p∧p < (x.length:Int)+k then some 0 else vA A s p:=by
 have hs:=K4 h
 unfold vA
 by_cases c:s=s0
 ·subst c
  rw [Q7 h,h,Option.bind_some,Option.bind_some]
  unfold Z9 zl
  by_cases c0:0≤p
  ·rw [if_pos c0]
   by_cases c1:p < (x.length:Int)
   ·rw [if_neg (by omega),List.getElem?_append_left (by omega),if_pos c0]
   rw [List.getElem?_append_right (by omega),List.getElem?_replicate]
   by_cases c2:p < (x.length:Int)+k
   ·rw [if_pos (by omega),if_pos ⟨rfl,by omega,c2⟩]
   rw [if_neg (by omega),if_neg (by omega),if_pos c0,List.getElem?_eq_none (by omega)]
  rw [if_neg c0,if_neg (by omega),if_neg c0]
 rw [if_neg (fun q=>c q.1)]
 rcases Zct (L:=A) (zl x k) c with q | q
 ·rw [q]
 omega
theorem Zyu {A:List (List Int)} {k:Int} (hk:0≤k) (s p:Int):vA (A++[zl [] k]) s p=if s=(A.length:Int)∧0≤p∧p < k then some 0 else vA A s p:=by
 unfold vA
 have e:Z9 (A++[zl [] k]) s=if s=(A.length:Int) then some (zl [] k) else Z9 A s:=by
  unfold Z9
  by_cases c:0≤s
  ·rw [if_pos c,if_pos c]
   by_cases c1:s=(A.length:Int)
   ·rw [if_pos c1,c1,Int.toNat_natCast,List.getElem?_append_right (Nat.le_refl _),Nat.sub_self];rfl
   rw [if_neg c1]
   by_cases c2:s < (A.length:Int)
   ·rw [List.getElem?_append_left (by omega)]
   rw [List.getElem?_eq_none (by simp;omega),List.getElem?_eq_none (by omega)]
  rw [if_neg c,if_neg c,if_neg (by omega)]
 rw [e]
 by_cases c:s=(A.length:Int)
 ·rw [if_pos c,Option.bind_some]
  have hn:Z9 A s=none:=by
   cases h:Z9 A s with
   | none=>rfl
   | some x=>have:=K4 h;omega
  rw [hn]
  unfold Z9 zl
  by_cases c0:0≤p
  ·rw [if_pos c0,List.nil_append,List.getElem?_replicate]
   by_cases c2:p < k
   ·rw [if_pos (by omega),if_pos ⟨c,c0,c2⟩]
   rw [if_neg (by omega),if_neg (by omega)];rfl
  rw [if_neg c0,if_neg (by omega)];rfl
 rw [if_neg c,if_neg (fun q=>c q.1)]
theorem Z6c {A:List (List Int)} {s p:Int} (v:Int) (h:X0 A s p 1=true) (size left k:Int) :
  Xu (Qq A s p v) size left k=((Xu A size left k).1,(Xu A size left k).2.1,(Xu A size left k).2.2.1,Qq (Xu A size left k).2.2.2.1 s p v,(Xu A size left k).2.2.2.2):=by
 by_cases c:k < 0∨left < k
 ·have e:∀ A,Xu A size left k=(0,0,false,A,left):=fun A=>if_pos c
  rw [e,e]
 obtain ⟨x,hx,h0,_,h2⟩:=Kv h
 have hs:=K4 hx
 by_cases c2:A.length=0∨A.length < 16∧¬ k≤IntKind.i64.wrap (size - ((J9 A).length:Int))
 ·have e:Xu A size left k=((A.length:Int),0,true,A++[zl [] k],IntKind.i64.wrap (left - k)):=(if_neg c).trans (if_pos c2)
  have e':Xu (Qq A s p v) size left k=((A.length:Int),0,true,Qq A s p v++[zl [] k],IntKind.i64.wrap (left - k)):=by
   have:=(if_neg c).trans (if_pos (by rw [Vf,Zkv];exact c2)) (a:=Xu (Qq A s p v) size left k)
   rw [Vf] at this
   exact this
  rw [e,e']
  have hb:X0 (A++[zl [] k]) s p 1=true:=hasB_iff.2 (by
   obtain ⟨w,hw⟩:=hasB_iff.1 h
   rw [Zyu (by omega),if_neg (by omega)];exact ⟨w,hw⟩)
  have:Qq A s p v++[zl [] k]=Qq (A++[zl [] k]) s p v:=by
   refine Zyt (by simp [Vf]) fun a b => ?_
   rw [Zyu (by omega),Zcb _ hb,Zyu (by omega),Zcb _ h,Vf]
   by_cases q:a=s∧b=p
   ·rw [if_pos q,if_pos q,if_neg (by omega)]
   rw [if_neg q,if_neg q]
  rw [this]
 have e:Xu A size left k=((A.length:Int) - 1,((J9 A).length:Int),true,A.set (A.length - 1) (zl (J9 A) k),IntKind.i64.wrap (left - k)):=(if_neg c).trans (if_neg c2)
 have e':Xu (Qq A s p v) size left k=((A.length:Int) - 1,((J9 A).length:Int),true,(Qq A s p v).set (A.length - 1) (zl (J9 (Qq A s p v)) k),IntKind.i64.wrap (left - k)):=by
  have:=(if_neg c).trans (if_neg (by rw [Vf,Zkv];exact c2)) (a:=Xu (Qq A s p v) size left k)
  rw [Vf,Zkv] at this
  exact this
 rw [e,e']
 have hA:A.length≠0:=by omega
 have se:∀ (B:List (List Int)) (z:List Int),B.length=A.length→B.set (A.length - 1) z=Y5 B ((A.length:Int) - 1) z:=fun B z hB=>by
  unfold Y5;rw [show ((A.length:Int) - 1).toNat=A.length - 1 by omega]
 have l1:=Zeh hA
 have l2:=Zeh (A:=Qq A s p v) (by rw [Vf];exact hA)
 rw [Vf] at l2
 have hb:X0 (Y5 A ((A.length:Int) - 1) (zl (J9 A) k)) s p 1=true:=hasB_iff.2 (by
  obtain ⟨w,hw⟩:=hasB_iff.1 h
  rw [Zf0 l1 (by omega)]
  split
  ·exact ⟨0,rfl⟩
  exact ⟨w,hw⟩)
 have:(Qq A s p v).set (A.length - 1) (zl (J9 (Qq A s p v)) k)=Qq (A.set (A.length - 1) (zl (J9 A) k)) s p v:=by
  rw [se _ _ (Vf _ _ _ _),se _ _ rfl]
  refine Zyt (by simp only [Vg,Vf]) fun a b => ?_
  rw [Zf0 l2 (by omega),Zcb _ hb,Zf0 l1 (by omega),Zcb _ h,Zkv]
  by_cases q:a=s∧b=p
  ·rw [if_pos q,if_pos q,if_neg]
   intro q2
   rw [q.1] at q2
   rw [← q2.1,hx] at l1
   have:=Option.some.inj l1
   rw [← this] at q2
   omega
  rw [if_neg q,if_neg q]
 rw [this]
abbrev SG:=List (List Int)×Int
noncomputable def pt1 (s p v:Int) (σ:SG):SG:=(Qq σ.1 s p v,σ.2)
noncomputable def Xe (size:Int) (σ:SG) (k:Int):Option (Int×Int×SG):=bif (Xu σ.1 size σ.2 k).2.2.1 then some ((Xu σ.1 size σ.2 k).1,(Xu σ.1 size σ.2 k).2.1,(Xu σ.1 size σ.2 k).2.2.2) else none
open Classical in
noncomputable def inO (size:Int) (σ:SG) (s:Int):Option (Int×SG):=match Z9 σ.1 s with
 | none=>none
 | some x=>if 1≤σ.2∧1≤IntKind.i64.wrap (size - (x.length:Int)) then some ((x.length:Int),Y5 σ.1 s (zl x 1),IntKind.i64.wrap (σ.2 - 1)) else none
def nw (a b k u:Int):Int:=(b - a - 1) % 1073741824 * 4+k+u * 4294967296
def fw (h b d:Int):Int:=2+4 * d+8 * b+4294967296 * h
open Classical in
/-- a pointer, and its pads -/
noncomputable def Zaf (size:Int) (σ:SG) (s p k u h b:Int):Option SG :=
 if k=0∧u=0 then some (pt1 s p 4294967292 σ)
 else if h=s then some (pt1 s p (nw p b k u) σ)
 else match inO size σ h with
  | some r=>some (pt1 s p (fw h r.1 0) (pt1 h r.1 (nw r.1 b k u) r.2))
  | none=>(Xe size σ 2).map fun r=>pt1 s p (fw r.1 r.2.1 1) (Q3 r.2.2.1 r.1 r.2.1 [fw h b 0,k+u * 4294967296],r.2.2.2)
structure St (size most:Int) (σ:SG):Prop where
 h16:σ.1.length≤16
 hl0:0≤σ.2
 hm:σ.2≤most
 hmm:most≤131072
 hB:∀ x∈σ.1,(x.length:Int)+σ.2≤131072
def Ex (σ τ:SG):Prop:=∀ s p m,X0 σ.1 s p m=true→X0 τ.1 s p m=true
theorem Ex.refl (σ:SG):Ex σ σ:=fun _ _ _ h=>h
theorem Ex.trans {σ τ ρ:SG} (h:Ex σ τ) (h':Ex τ ρ):Ex σ ρ:=fun s p m q=>h' s p m (h s p m q)
theorem Ex.put (s p v:Int) (σ:SG):Ex σ (pt1 s p v σ):=fun s' p' m h=>by show X0 (Qq σ.1 s p v) s' p' m=true;rw [Ze3];exact h
theorem Ex.lays (s p:Int) (ws:List Int) (σ:SG):Ex σ (Q3 σ.1 s p ws,σ.2):=fun s' p' m h=>by show X0 (Q3 σ.1 s p ws) s' p' m=true;rw [Zku];exact h
theorem Z8z {A:List (List Int)} {s p v:Int} {y:List Int} (h:y∈Qq A s p v):∃ x∈A,y.length=x.length:=by
 unfold Qq at h
 split at h
 ·rename_i c
  obtain ⟨z,hz,_⟩:=Kv c
  rcases List.mem_or_eq_of_mem_set h with q | q
  ·exact ⟨y,q,rfl⟩
  rw [hz] at q
  exact ⟨z,Xg hz,by rw [q];exact Vg _ _ _⟩
 exact ⟨y,h,rfl⟩
theorem St.put {size most:Int} {σ:SG} (h:St size most σ) (s p v:Int):St size most (pt1 s p v σ) :=
 ⟨by show (Qq σ.1 s p v).length≤16;rw [Vf];exact h.h16,h.hl0,h.hm,h.hmm,fun y hy=>by obtain ⟨x,hx,e⟩:=Z8z hy;rw [e];exact h.hB x hx⟩
theorem St.lays {size most:Int} (s:Int):∀ (ws:List Int) {σ:SG} (_:St size most σ) (p:Int),St size most (Q3 σ.1 s p ws,σ.2)
 | [],_,h,_=>h
 | w::ws,σ,h,p=>St.lays s ws (h.put s p w) (p+1)
theorem Ztk {size:Int} {σ:SG} {k:Int} {r:Int×Int×SG} (h:Xe size σ k=some r):(Xu σ.1 size σ.2 k).2.2.1=true∧r=((Xu σ.1 size σ.2 k).1,(Xu σ.1 size σ.2 k).2.1,(Xu σ.1 size σ.2 k).2.2.2):=by
 unfold Xe at h
 cases c:(Xu σ.1 size σ.2 k).2.2.1 with
 | true=>rw [c,cond_true] at h;exact ⟨rfl,(Option.some.inj h).symm⟩
 | false=>rw [c,cond_false] at h;cases h
theorem Us {size most:Int} {σ:SG} {k:Int} {r:Int×Int×SG} (hs:St size most σ) (h:Xe size σ k=some r) :
  0≤k∧0≤r.1∧0≤r.2.1∧r.2.1+k≤131072∧St size most r.2.2∧Ex σ r.2.2∧X0 r.2.2.1 r.1 r.2.1 k=true∧(∀ s p,vA r.2.2.1 s p=if s=r.1∧r.2.1≤p∧p < r.2.1+k then some 0 else vA σ.1 s p)∧(∀ p,X0 σ.1 r.1 p 1=true→p < r.2.1):=by
 obtain ⟨h1,rfl⟩:=Ztk h
 have ex:∀ (A B:List (List Int)),(∀ s x,Z9 A s=some x→∃ y,Z9 B s=some y∧x.length≤y.length)→∀ s p m,X0 A s p m=true→X0 B s p m=true:=fun A B hAB s p m q=>by
  obtain ⟨x,hx,a,b,c⟩:=Kv q
  obtain ⟨y,hy,hl⟩:=hAB s x hx
  exact Zh7 hy a b (by omega)
 by_cases c:k < 0∨σ.2 < k
 ·have e:Xu σ.1 size σ.2 k=(0,0,false,σ.1,σ.2):=if_pos c
  rw [e] at h1;cases h1
 have:=hs.hm
 have:=hs.hmm
 have hw:IntKind.i64.wrap (σ.2 - k)=σ.2 - k:=Ul (by omega)
 by_cases c2:σ.1.length=0∨σ.1.length < 16∧¬ k≤IntKind.i64.wrap (size - ((J9 σ.1).length:Int))
 ·have e:Xu σ.1 size σ.2 k=((σ.1.length:Int),0,true,σ.1++[zl [] k],IntKind.i64.wrap (σ.2 - k)):=(if_neg c).trans (if_pos c2)
  rw [e,hw]
  have hz:(zl [] k).length=k.toNat:=by unfold zl;simp
  refine ⟨by omega,by show (0:Int)≤(σ.1.length:Int);omega,Int.le_refl _,by show 0+k≤131072;omega,⟨by show (σ.1++[zl [] k]).length≤16;rw [List.length_append,List.length_singleton];omega,by show 0≤σ.2 - k;omega,by show σ.2 - k≤most;omega,hs.hmm,fun x hx => ?_⟩,ex _ _ fun s x hx=>⟨x,?_,Nat.le_refl _⟩,?_,fun s p => ?_,fun p hp => ?_⟩
  ·show (x.length:Int)+(σ.2 - k)≤131072
   rcases List.mem_append.1 hx with q | q
   ·have:=hs.hB x q;omega
   rw [List.mem_singleton.1 q,hz];omega
  ·have:=K4 hx
   unfold Z9 at hx ⊢
   rw [if_pos this.1] at hx ⊢
   rw [List.getElem?_append_left (by omega)];exact hx
  ·refine Zh7 (x:=zl [] k) ?_ (Int.le_refl _) (by omega) (by rw [hz];show 0+k≤_;omega)
   show Z9 (σ.1++[zl [] k]) (σ.1.length:Int)=_
   unfold Z9
   rw [if_pos (by omega),Int.toNat_natCast,List.getElem?_append_right (Nat.le_refl _),Nat.sub_self];rfl
  ·show vA (σ.1++[zl [] k]) s p=if s=(σ.1.length:Int)∧0≤p∧p < 0+k then some 0 else vA σ.1 s p
   rw [Zyu (by omega),Int.zero_add]
  obtain ⟨x,hx,_⟩:=Kv hp
  have:=K4 hx
  have:(σ.1.length:Int) < σ.1.length:=this.2
  omega
 have e:Xu σ.1 size σ.2 k=((σ.1.length:Int) - 1,((J9 σ.1).length:Int),true,σ.1.set (σ.1.length - 1) (zl (J9 σ.1) k),IntKind.i64.wrap (σ.2 - k)):=(if_neg c).trans (if_neg c2)
 have hA:σ.1.length≠0:=by omega
 have l1:=Zeh hA
 have hm:=hs.hB _ (Xg l1)
 have hz:(zl (J9 σ.1) k).length=(J9 σ.1).length+k.toNat:=by unfold zl;simp
 have se:σ.1.set (σ.1.length - 1) (zl (J9 σ.1) k)=Y5 σ.1 ((σ.1.length:Int) - 1) (zl (J9 σ.1) k):=by
  unfold Y5;rw [show ((σ.1.length:Int) - 1).toNat=σ.1.length - 1 by omega]
 rw [e,hw,se]
 refine ⟨by omega,by show (0:Int)≤(σ.1.length:Int) - 1;omega,by show (0:Int)≤((J9 σ.1).length:Int);omega,by show ((J9 σ.1).length:Int)+k≤131072;omega,⟨by show (Y5 σ.1 ((σ.1.length:Int) - 1) (zl (J9 σ.1) k)).length≤16;rw [Vg];exact hs.h16,by show 0≤σ.2 - k;omega,by show σ.2 - k≤most;omega,hs.hmm,fun x hx => ?_⟩,ex _ _ fun s x hx => ?_,?_,fun s p => ?_,fun p hp => ?_⟩
 ·show (x.length:Int)+(σ.2 - k)≤131072
  rcases List.mem_or_eq_of_mem_set hx with q | q
  ·have:=hs.hB x q;omega
  rw [q,hz];omega
 ·by_cases q:s=(σ.1.length:Int) - 1
  ·rw [q] at hx ⊢
   rw [l1] at hx
   have:=Option.some.inj hx;subst this
   exact ⟨_,Q7 l1,by rw [hz];omega⟩
  rcases Zct (L:=σ.1) (zl (J9 σ.1) k) q with g | g
  ·exact ⟨x,g.trans hx,Nat.le_refl _⟩
  omega
 ·exact Zh7 (Q7 l1) (by show (0:Int)≤((J9 σ.1).length:Int);omega) (by omega) (by rw [hz];show ((J9 σ.1).length:Int)+k≤_;omega)
 ·exact Zf0 l1 (by omega) s p
 obtain ⟨x,hx,a,b,c⟩:=Kv hp
 rw [show Z9 σ.1 _=some (J9 σ.1) from l1] at hx
 have:=Option.some.inj hx;subst this
 show p < ((J9 σ.1).length:Int)
 omega
theorem Zxu {size most:Int} {σ:SG} {h:Int} {r:Int×SG} (hs:St size most σ) (e:inO size σ h=some r) :
  0≤r.1∧r.1+1≤131072∧St size most r.2∧Ex σ r.2∧X0 r.2.1 h r.1 1=true∧(∀ s p,vA r.2.1 s p=if s=h∧r.1≤p∧p < r.1+1 then some 0 else vA σ.1 s p)∧(∀ p,X0 σ.1 h p 1=true→p < r.1):=by
 unfold inO at e
 cases hx:Z9 σ.1 h with
 | none=>rw [hx] at e;cases e
 | some x =>
  rw [hx] at e
  dsimp only at e
  split at e
  ·rename_i c
   have:=Option.some.inj e;subst this
   have:=hs.hm
   have:=hs.hmm
   have hw:IntKind.i64.wrap (σ.2 - 1)=σ.2 - 1:=Ul (by omega)
   have hl:=K4 hx
   have hb:=hs.hB x (Xg hx)
   have hz:(zl x 1).length=x.length+1:=by unfold zl;simp
   rw [hw]
   refine ⟨by show (0:Int)≤(x.length:Int);omega,by show (x.length:Int)+1≤131072;omega,⟨by show (Y5 σ.1 h (zl x 1)).length≤16;rw [Vg];exact hs.h16,by show 0≤σ.2 - 1;omega,by show σ.2 - 1≤most;omega,hs.hmm,fun y hy => ?_⟩,fun s p m q => ?_,?_,fun s p=>Zf0 hx (by omega) s p,fun p hp => ?_⟩
   ·show (y.length:Int)+(σ.2 - 1)≤131072
    rcases List.mem_or_eq_of_mem_set hy with q | q
    ·have:=hs.hB y q;omega
    rw [q,hz];omega
   ·obtain ⟨y,hy,a,b,c⟩:=Kv q
    show X0 (Y5 σ.1 h (zl x 1)) s p m=true
    by_cases q2:s=h
    ·subst q2
     rw [hx] at hy
     have:=Option.some.inj hy;subst this
     exact Zh7 (Q7 hx) a b (by rw [hz];omega)
    rcases Zct (L:=σ.1) (zl x 1) q2 with g | g
    ·exact Zh7 (g.trans hy) a b c
    omega
   ·exact Zh7 (Q7 hx) (by show (0:Int)≤(x.length:Int);omega) (by omega) (by rw [hz];show (x.length:Int)+1≤_;omega)
   obtain ⟨y,hy,a,b,c⟩:=Kv hp
   rw [hx] at hy
   have:=Option.some.inj hy;subst this
   show p < (x.length:Int)
   omega
  cases e
theorem Zvk {σ:SG} {s p:Int} (v:Int) (h:X0 σ.1 s p 1=true) (size k:Int):Xe size (pt1 s p v σ) k=(Xe size σ k).map fun r=>(r.1,r.2.1,pt1 s p v r.2.2):=by
 unfold Xe
 have:=Z6c v h size σ.2 k
 show (bif (Xu (Qq σ.1 s p v) size σ.2 k).2.2.1 then some ((Xu (Qq σ.1 s p v) size σ.2 k).1,(Xu (Qq σ.1 s p v) size σ.2 k).2.1,(Xu (Qq σ.1 s p v) size σ.2 k).2.2.2) else none)=_
 rw [this]
 dsimp only
 cases (Xu σ.1 size σ.2 k).2.2.1 <;> rfl
theorem Z8r {σ:SG} {s p:Int} (v:Int) (h:X0 σ.1 s p 1=true) (size h':Int):inO size (pt1 s p v σ) h'=(inO size σ h').map fun r=>(r.1,pt1 s p v r.2):=by
 unfold inO
 show (match Z9 (Qq σ.1 s p v) h' with | none=>none | some x=>_)=_
 cases hx:Z9 σ.1 h' with
 | none =>
  have hl:=Zgm hx
  have:Z9 (Qq σ.1 s p v) h'=none:=by
   cases e:Z9 (Qq σ.1 s p v) h' with
   | none=>rfl
   | some y=>have:=K4 e;rw [Vf] at this;omega
  rw [this];rfl
 | some x =>
  obtain ⟨y,hy,e⟩:=Zzl (s:=s) (p:=p) v hx
  rw [hy]
  dsimp only
  rw [e]
  have e2:(pt1 s p v σ).2=σ.2:=rfl
  rw [e2]
  by_cases c:1≤σ.2∧1≤IntKind.i64.wrap (size - (x.length:Int))
  ·rw [if_pos c,if_pos c]
   refine congrArg some (Prod.ext rfl (Prod.ext ?_ rfl))
   show Y5 (Qq σ.1 s p v) h' (zl y 1)=Qq (Y5 σ.1 h' (zl x 1)) s p v
   have hb:X0 (Y5 σ.1 h' (zl x 1)) s p 1=true:=hasB_iff.2 (by
    obtain ⟨w,hw⟩:=hasB_iff.1 h
    rw [Zf0 hx (by omega)]
    split
    ·exact ⟨0,rfl⟩
    exact ⟨w,hw⟩)
   obtain ⟨z,hz,h0,_,h2⟩:=Kv h
   refine Zyt (by simp only [Vg,Vf]) fun a b => ?_
   rw [Zf0 hy (by omega),Zcb _ hb,Zf0 hx (by omega),Zcb _ h,e]
   by_cases q:a=s∧b=p
   ·rw [if_pos q,if_pos q,if_neg]
    intro q2
    rw [← q2.1,q.1,hz] at hx
    have:=Option.some.inj hx
    rw [← this] at q2
    omega
   rw [if_neg q,if_neg q]
  rw [if_neg c,if_neg c];rfl
theorem Zea (σ:SG) {s p s' p':Int} (v v':Int) (h:¬ (s'=s∧p'=p)):pt1 s' p' v' (pt1 s p v σ)=pt1 s p v (pt1 s' p' v' σ):=Prod.ext (Zyf σ.1 v v' h) rfl
theorem Z5n {size most:Int} {σ:SG} {s p s' p':Int} (v:Int) (hs:St size most σ) (h:X0 σ.1 s p 1=true) (hne:¬ (s'=s∧p'=p)) (k u h' b:Int):Zaf size (pt1 s p v σ) s' p' k u h' b=(Zaf size σ s' p' k u h' b).map (pt1 s p v):=by
 unfold Zaf
 by_cases c1:k=0∧u=0
 ·rw [if_pos c1,if_pos c1,Zea _ _ _ hne];rfl
 rw [if_neg c1,if_neg c1]
 by_cases c2:h'=s'
 ·rw [if_pos c2,if_pos c2,Zea _ _ _ hne];rfl
 rw [if_neg c2,if_neg c2,Z8r v h]
 cases hi:inO size σ h' with
 | some r =>
  have o:=Zxu hs hi
  show some _=some _
  dsimp only
  rw [Zea (s:=s) (p:=p) r.2 (s':=h') (p':=r.1) _ _ (fun q=>by have:=o.2.2.2.2.2.2 p (by rw [q.1];exact h);omega),Zea _ _ _ hne]
 | none =>
  show Option.map _ _=Option.map _ _
  rw [Zvk v h]
  cases hg:Xe size σ 2 with
  | none=>rfl
  | some r =>
   have o:=Us hs hg
   show some _=some _
   dsimp only
   have e:((Q3 (pt1 s p v r.2.2).1 r.1 r.2.1 [fw h' b 0,k+u * 4294967296],(pt1 s p v r.2.2).2):SG)=pt1 s p v (Q3 r.2.2.1 r.1 r.2.1 [fw h' b 0,k+u * 4294967296],r.2.2.2) :=
    Prod.ext (Zg9 s p v r.1 _ r.2.2.1 r.2.1 (fun q=>by have:=o.2.2.2.2.2.2.2.2 p (by rw [← q.1];exact h);omega)) rfl
   rw [e,Zea _ _ _ hne]
theorem Zsh {size most:Int} {σ τ:SG} {s p k u h b:Int} (hs:St size most σ) (e:Zaf size σ s p k u h b=some τ):St size most τ∧Ex σ τ∧∀ s' p',X0 σ.1 s' p' 1=true→¬ (s'=s∧p'=p)→vA τ.1 s' p'=vA σ.1 s' p':=by
 have one:∀ (ρ:SG) (v:Int) (s' p':Int),¬ (s'=s∧p'=p)→vA (pt1 s p v ρ).1 s' p'=vA ρ.1 s' p':=fun ρ v s' p' hne=>by
  show vA (Qq ρ.1 s p v) s' p'=_
  by_cases c:X0 ρ.1 s p 1=true
  ·rw [Zcb _ c,if_neg hne]
  rw [Zlp v c]
 unfold Zaf at e
 split at e
 ·have:=Option.some.inj e;subst this
  exact ⟨hs.put _ _ _,Ex.put _ _ _ _,fun s' p' _ hne=>one _ _ _ _ hne⟩
 split at e
 ·have:=Option.some.inj e;subst this
  exact ⟨hs.put _ _ _,Ex.put _ _ _ _,fun s' p' _ hne=>one _ _ _ _ hne⟩
 cases hi:inO size σ h with
 | some r =>
  rw [hi] at e
  have:=Option.some.inj e;subst this
  have o:=Zxu hs hi
  refine ⟨(o.2.2.1.put _ _ _).put _ _ _,o.2.2.2.1.trans ((Ex.put _ _ _ _).trans (Ex.put _ _ _ _)),fun s' p' hb hne => ?_⟩
  rw [one _ _ _ _ hne]
  show vA (Qq r.2.1 h r.1 _) s' p'=_
  rw [Zcb _ o.2.2.2.2.1,o.2.2.2.2.2.1]
  have:¬ (s'=h∧r.1≤p'):=fun q=>by have:=o.2.2.2.2.2.2 p' (by rw [← q.1];exact hb);omega
  rw [if_neg (fun q=>this ⟨q.1,by omega⟩),if_neg (fun q=>this ⟨q.1,q.2.1⟩)]
 | none =>
  rw [hi] at e
  dsimp only at e
  cases hg:Xe size σ 2 with
  | none=>rw [hg] at e;cases e
  | some r =>
   rw [hg] at e
   have:=Option.some.inj e;subst this
   have o:=Us hs hg
   refine ⟨(St.lays r.1 _ o.2.2.2.2.1 r.2.1).put _ _ _,o.2.2.2.2.2.1.trans ((Ex.lays _ _ _ _).trans (Ex.put _ _ _ _)),fun s' p' hb hne => ?_⟩
   rw [one _ _ _ _ hne]
   have hf:¬ (s'=r.1∧r.2.1≤p'):=fun q=>by have:=o.2.2.2.2.2.2.2.2 p' (by rw [← q.1];exact hb);omega
   have h0:=o.2.2.2.2.2.2.1
   have b0:X0 r.2.2.1 r.1 r.2.1 1=true:=Zdh h0 (Int.le_refl _) (by omega)
   have b1:X0 (Qq r.2.2.1 r.1 r.2.1 (fw h b 0)) r.1 (r.2.1+1) 1=true:=by rw [Ze3];exact Zdh h0 (by omega) (by omega)
   show vA (Qq (Qq r.2.2.1 r.1 r.2.1 _) r.1 (r.2.1+1) _) s' p'=_
   rw [Zcb _ b1,Zcb _ b0,o.2.2.2.2.2.2.2.1,if_neg (fun q=>hf ⟨q.1,by omega⟩),if_neg (fun q=>hf ⟨q.1,by omega⟩),if_neg (fun q=>hf ⟨q.1,q.2.1⟩)]
attribute [local push_cast] if_true if_false
noncomputable def Zak (f:Tr→Int→Int→SG→Option SG) (s:Int):Int→List Tr→SG→Option SG
 | _,[],σ=>some σ
 | p,t::ts,σ=>(f t s p σ).bind (Zak f s (p+1) ts)
noncomputable def Zfp (s m:Int):Int→List Tr→List (List Int)→List (List Int)
 | _,[],A=>A
 | p,t::ts,A=>Zfp s m (p+m) ts (Q3 A s p t.Words)
noncomputable def Zr4 (f:Tr→Int→Int→SG→Option SG) (s m w:Int):Int→List Tr→SG→Option SG
 | _,[],σ=>some σ
 | p,t::ts,σ=>(Zak f s (p+w) t.Kids σ).bind (Zr4 f s m w (p+m) ts)
noncomputable def Zde (f:Tr→Int→Int→SG→Option SG) (s m w:Int):Int→List Tr→SG→Option SG
 | _,[],σ=>some σ
 | p,t::ts,σ=>(Zak f s (p+w) t.Kids (Q3 σ.1 s p t.Words,σ.2)).bind (Zde f s m w (p+m) ts)
def Zjb (t:Tr):Int:=(t.Kids.length:Int) * 4+(fr t.Kids).1 * 4294967296+(fr t.Kids).2 * 281474976710656
def pkd (t:Tr):Int:=if t.Kind=1 then 0 else 1
def pup (t:Tr):Int:=if t.Kind=1 then (t.Words.length:Int)+65536 * (t.Kids.length:Int) else if t.Kind=9 then 7+8 * ((t.Kids.length:Int) * ((fr t.Kids).1+(fr t.Kids).2)) else t.Kind - 2+8 * (t.Kids.length:Int)
def pwd (t:Tr):Int:=if t.Kind=1 then (t.Words.length:Int)+(t.Kids.length:Int) else if t.Kind=9 then 1+(t.Kids.length:Int) * ((fr t.Kids).1+(fr t.Kids).2) else if t.Kind=8 then (t.Kids.length:Int) else ((Znc (t.Kind - 2) (ato t)).length:Int)
noncomputable def inT (o:Bool) (f:Tr→Int→Int→SG→Option SG) (h b:Int) (t:Tr) (σ:SG):Option SG :=
 if t.Kind=1 then Zak f h (b+(t.Words.length:Int)) t.Kids (Q3 σ.1 h b t.Words,σ.2)
 else if t.Kind=8 then Zak f h b t.Kids σ
 else if t.Kind=9 then
  (if o=true then Zr4 f h ((fr t.Kids).1+(fr t.Kids).2) (fr t.Kids).1 (b+1) t.Kids (Zfp h ((fr t.Kids).1+(fr t.Kids).2) (b+1) t.Kids (if t.Kids=[] then σ.1 else Qq σ.1 h b (Zjb t)),σ.2)
  else Zde f h ((fr t.Kids).1+(fr t.Kids).2) (fr t.Kids).1 (b+1) t.Kids (Qq σ.1 h b (Zjb t),σ.2))
 else some (Q3 σ.1 h b (Znc (t.Kind - 2) (ato t)),σ.2)
noncomputable def Gp (o:Bool) (size:Int):Nat→Tr→Int→Int→SG→Option SG
 | 0,_,_,_,σ=>some σ
 | d+1,t,s,p,σ=>if t.Kind=0 then some σ else (Xe size σ (pwd t)).bind fun r=>(Zaf size r.2.2 s p (pkd t) (pup t) r.1 r.2.1).bind fun τ=>inT o (Gp o size d) r.1 r.2.1 t τ
def Zrs (size most:Int) (f:Tr→Int→Int→SG→Option SG):Prop:=∀ t s' p' σ,St size most σ →
 (∀ τ,f t s' p' σ=some τ→St size most τ∧Ex σ τ)∧∀ s p v,X0 σ.1 s p 1=true→¬ (s'=s∧p'=p)→f t s' p' (pt1 s p v σ)=(f t s' p' σ).map (pt1 s p v)
theorem Zbl {size most:Int} {f:Tr→Int→Int→SG→Option SG} (hf:Zrs size most f) (s':Int):∀ (ts:List Tr) (p':Int) (σ:SG),St size most σ →
  (∀ τ,Zak f s' p' ts σ=some τ→St size most τ∧Ex σ τ)∧∀ s p v,X0 σ.1 s p 1=true→¬ (s=s'∧p'≤p∧p < p'+(ts.length:Int))→Zak f s' p' ts (pt1 s p v σ)=(Zak f s' p' ts σ).map (pt1 s p v)
 | [],p',σ,hs=>⟨fun τ e=>by have:=Option.some.inj e;subst this;exact ⟨hs,Ex.refl _⟩,fun _ _ _ _ _=>rfl⟩
 | t::ts,p',σ,hs=>by
  obtain ⟨a,b⟩:=hf t s' p' σ hs
  refine ⟨fun τ e => ?_,fun s p v hb hne => ?_⟩
  ·rw [Zak] at e
   cases h1:f t s' p' σ with
   | none=>rw [h1] at e;cases e
   | some ρ =>
    rw [h1] at e
    obtain ⟨c1,c2⟩:=a ρ h1
    obtain ⟨d1,d2⟩:=(Zbl hf s' ts (p'+1) ρ c1).1 τ e
    exact ⟨d1,c2.trans d2⟩
  rw [List.length_cons] at hne
  rw [Zak,Zak,b s p v hb (fun q=>hne ⟨q.1.symm,by omega⟩)]
  cases h1:f t s' p' σ with
  | none=>rfl
  | some ρ =>
   obtain ⟨c1,c2⟩:=a ρ h1
   show Zak f s' (p'+1) ts (pt1 s p v ρ)=(Zak f s' (p'+1) ts ρ).map (pt1 s p v)
   exact (Zbl hf s' ts (p'+1) ρ c1).2 s p v (c2 _ _ _ hb) (fun q=>hne ⟨q.1,by omega⟩)
theorem Ztn (s m s' p' k:Int):∀ (ts:List Tr) (p:Int) (A:List (List Int)),X0 (Zfp s m p ts A) s' p' k=X0 A s' p' k
 | [],_,_=>rfl
 | t::ts,p,A=>by rw [Zfp,Ztn s m s' p' k ts,Zku]
theorem St.words {size most:Int} (s m:Int):∀ (ts:List Tr) (p:Int) {σ:SG},St size most σ→St size most (Zfp s m p ts σ.1,σ.2)
 | [],_,_,h=>h
 | t::ts,p,σ,h=>St.words s m ts (p+m) (St.lays s t.Words h p)
theorem Ex.words (s m:Int) (ts:List Tr) (p:Int) (σ:SG):Ex σ (Zfp s m p ts σ.1,σ.2):=fun s' p' k h=>by show X0 (Zfp s m p ts σ.1) s' p' k=true;rw [Ztn];exact h
theorem Zvq (s p v s' m:Int):∀ (ts:List Tr) (p':Int) (A:List (List Int)),(0≤m)→(s=s'→p < p')→Zfp s' m p' ts (Qq A s p v)=Qq (Zfp s' m p' ts A) s p v
 | [],_,_,_,_=>rfl
 | t::ts,p',A,hm,h=>by
  rw [Zfp,Zfp,Zg9 s p v s' t.Words A p' (fun q=>by have:=h q.1;omega),Zvq s p v s' m ts (p'+m) _ hm (fun q=>by have:=h q;omega)]
theorem Zn4 {size most:Int} {f:Tr→Int→Int→SG→Option SG} (hf:Zrs size most f) (s' m w:Int) (hm:0≤m) (hw:0≤w):∀ (ts:List Tr) (p':Int) (σ:SG),St size most σ →
  (∀ τ,Zr4 f s' m w p' ts σ=some τ→St size most τ∧Ex σ τ)∧∀ s p v,X0 σ.1 s p 1=true→(s=s'→p < p')→Zr4 f s' m w p' ts (pt1 s p v σ)=(Zr4 f s' m w p' ts σ).map (pt1 s p v)
 | [],p',σ,hs=>⟨fun τ e=>by have:=Option.some.inj e;subst this;exact ⟨hs,Ex.refl _⟩,fun _ _ _ _ _=>rfl⟩
 | t::ts,p',σ,hs=>by
  obtain ⟨a,b⟩:=Zbl hf s' t.Kids (p'+w) σ hs
  refine ⟨fun τ e => ?_,fun s p v hb hne => ?_⟩
  ·rw [Zr4] at e
   cases h1:Zak f s' (p'+w) t.Kids σ with
   | none=>rw [h1] at e;cases e
   | some ρ =>
    rw [h1] at e
    obtain ⟨c1,c2⟩:=a ρ h1
    obtain ⟨d1,d2⟩:=(Zn4 hf s' m w hm hw ts (p'+m) ρ c1).1 τ e
    exact ⟨d1,c2.trans d2⟩
  rw [Zr4,Zr4,b s p v hb (fun q=>by have:=hne q.1;omega)]
  cases h1:Zak f s' (p'+w) t.Kids σ with
  | none=>rfl
  | some ρ =>
   obtain ⟨c1,c2⟩:=a ρ h1
   exact (Zn4 hf s' m w hm hw ts (p'+m) ρ c1).2 s p v (c2 _ _ _ hb) (fun q=>by have:=hne q;omega)
theorem Znu {size most:Int} {f:Tr→Int→Int→SG→Option SG} (hf:Zrs size most f) (s' m w:Int) (hm:0≤m) (hw:0≤w):∀ (ts:List Tr) (p':Int) (σ:SG),St size most σ →
  (∀ τ,Zde f s' m w p' ts σ=some τ→St size most τ∧Ex σ τ)∧∀ s p v,X0 σ.1 s p 1=true→(s=s'→p < p')→Zde f s' m w p' ts (pt1 s p v σ)=(Zde f s' m w p' ts σ).map (pt1 s p v)
 | [],p',σ,hs=>⟨fun τ e=>by have:=Option.some.inj e;subst this;exact ⟨hs,Ex.refl _⟩,fun _ _ _ _ _=>rfl⟩
 | t::ts,p',σ,hs=>by
  have hs2:St size most (Q3 σ.1 s' p' t.Words,σ.2):=St.lays s' _ hs _
  obtain ⟨a,b⟩:=Zbl hf s' t.Kids (p'+w) _ hs2
  refine ⟨fun τ e => ?_,fun s p v hb hne => ?_⟩
  ·rw [Zde] at e
   cases h1:Zak f s' (p'+w) t.Kids (Q3 σ.1 s' p' t.Words,σ.2) with
   | none=>rw [h1] at e;cases e
   | some ρ =>
    rw [h1] at e
    obtain ⟨c1,c2⟩:=a ρ h1
    obtain ⟨d1,d2⟩:=(Znu hf s' m w hm hw ts (p'+m) ρ c1).1 τ e
    exact ⟨d1,(Ex.lays _ _ _ _).trans (c2.trans d2)⟩
  have e1:((Q3 (pt1 s p v σ).1 s' p' t.Words,(pt1 s p v σ).2):SG)=pt1 s p v (Q3 σ.1 s' p' t.Words,σ.2):=Prod.ext (Zg9 s p v s' t.Words σ.1 p' (fun q=>by have:=hne q.1;omega)) rfl
  rw [Zde,Zde,e1,b s p v (Ex.lays _ _ _ _ _ _ _ hb) (fun q=>by have:=hne q.1;omega)]
  cases h1:Zak f s' (p'+w) t.Kids (Q3 σ.1 s' p' t.Words,σ.2) with
  | none=>rfl
  | some ρ =>
   obtain ⟨c1,c2⟩:=a ρ h1
   exact (Znu hf s' m w hm hw ts (p'+m) ρ c1).2 s p v (c2 _ _ _ (Ex.lays _ _ _ _ _ _ _ hb)) (fun q=>by have:=hne q;omega)
theorem Yce (l:List Tr):0≤(fr l).1∧0≤(fr l).2:=by
 unfold fr
 have:∀ (l:List Tr) (s:Int×Int),0≤s.1→0≤s.2→0≤(l.foldl frS s).1∧0≤(l.foldl frS s).2:=fun l=>by
  induction l with
  | nil=>intro s a b;exact ⟨a,b⟩
  | cons x l ih=>intro s a b;exact ih _ (by unfold frS;dsimp only;omega) (by unfold frS;dsimp only;omega)
 exact this l (0,0) (Int.le_refl _) (Int.le_refl _)
theorem Zzt {size most:Int} {f:Tr→Int→Int→SG→Option SG} (hf:Zrs size most f) (o:Bool) (h b:Int) (t:Tr) {σ:SG} (hs:St size most σ) :
  (∀ τ,inT o f h b t σ=some τ→St size most τ∧Ex σ τ)∧∀ s p v,X0 σ.1 s p 1=true→(s=h→p < b)→inT o f h b t (pt1 s p v σ)=(inT o f h b t σ).map (pt1 s p v):=by
 obtain ⟨w0,k0⟩:=Yce t.Kids
 unfold inT
 by_cases c1:t.Kind=1
 ·simp only [if_pos c1]
  obtain ⟨a,b'⟩:=Zbl hf h t.Kids (b+(t.Words.length:Int)) (Q3 σ.1 h b t.Words,σ.2) (St.lays h _ hs b)
  refine ⟨fun τ e => ?_,fun s p v hb hne => ?_⟩
  ·obtain ⟨q1,q2⟩:=a τ e
   exact ⟨q1,(Ex.lays _ _ _ _).trans q2⟩
  rw [← b' s p v (Ex.lays _ _ _ _ _ _ _ hb) (fun q=>by have:=hne q.1;omega)]
  congr 1
  exact Prod.ext (Zg9 s p v h t.Words σ.1 b (fun q=>by have:=hne q.1;omega)) rfl
 by_cases c8:t.Kind=8
 ·simp only [if_neg c1,if_pos c8]
  obtain ⟨a,b'⟩:=Zbl hf h t.Kids b σ hs
  exact ⟨a,fun s p v hb hne=>b' s p v hb (fun q=>by have:=hne q.1;omega)⟩
 by_cases c9:t.Kind=9
 ·simp only [if_neg c1,if_neg c8,if_pos c9]
  cases o with
  | true =>
   simp only [if_true]
   have htag:∀ s p v,(s=h→p < b)→(if t.Kids=[] then (pt1 s p v σ).1 else Qq (pt1 s p v σ).1 h b (Zjb t))=Qq (if t.Kids=[] then σ.1 else Qq σ.1 h b (Zjb t)) s p v:=fun s p v hne=>by
    by_cases e:t.Kids=[]
    ·rw [if_pos e,if_pos e];rfl
    rw [if_neg e,if_neg e]
    exact Zyf σ.1 _ _ (fun q=>by have:=hne q.1.symm;omega)
   have hs1:St size most ((if t.Kids=[] then σ.1 else Qq σ.1 h b (Zjb t)),σ.2):=by
    split
    ·exact hs
    exact hs.put _ _ _
   have he1:Ex σ ((if t.Kids=[] then σ.1 else Qq σ.1 h b (Zjb t)),σ.2):=by
    split
    ·exact Ex.refl _
    exact Ex.put _ _ _ _
   have hs2:=St.words h ((fr t.Kids).1+(fr t.Kids).2) t.Kids (b+1) hs1
   obtain ⟨a,b'⟩:=Zn4 hf h ((fr t.Kids).1+(fr t.Kids).2) (fr t.Kids).1 (by omega) w0 t.Kids (b+1) _ hs2
   refine ⟨fun τ e => ?_,fun s p v hb hne => ?_⟩
   ·obtain ⟨q1,q2⟩:=a τ e
    exact ⟨q1,(he1.trans (Ex.words _ _ _ _ _)).trans q2⟩
   rw [htag s p v hne,Zvq s p v h _ t.Kids (b+1) _ (by omega) (fun q=>by have:=hne q;omega)]
   exact b' s p v (he1.trans (Ex.words _ _ _ _ _) _ _ _ hb) (fun q=>by have:=hne q;omega)
  | false =>
   simp only [Bool.false_eq_true,if_false]
   obtain ⟨a,b'⟩:=Znu hf h ((fr t.Kids).1+(fr t.Kids).2) (fr t.Kids).1 (by omega) w0 t.Kids (b+1) (pt1 h b (Zjb t) σ) (hs.put _ _ _)
   refine ⟨fun τ e => ?_,fun s p v hb hne => ?_⟩
   ·obtain ⟨q1,q2⟩:=a τ e
    exact ⟨q1,(Ex.put _ _ _ _).trans q2⟩
   have e1:((Qq (pt1 s p v σ).1 h b (Zjb t),(pt1 s p v σ).2):SG)=pt1 s p v (pt1 h b (Zjb t) σ):=Zea σ _ _ (fun q=>by have:=hne q.1.symm;omega)
   rw [e1]
   exact b' s p v (Ex.put _ _ _ _ _ _ _ hb) (fun q=>by have:=hne q;omega)
 simp only [if_neg c1,if_neg c8,if_neg c9]
 refine ⟨fun τ e => ?_,fun s p v hb hne => ?_⟩
 ·have:=Option.some.inj e;subst this
  exact ⟨St.lays h _ hs b,Ex.lays _ _ _ _⟩
 exact congrArg some (Prod.ext (Zg9 s p v h _ σ.1 b (fun q=>by have:=hne q.1;omega)) rfl)
theorem Zkw (o:Bool) (size most:Int):∀ d,Zrs size most (Gp o size d)
 | 0=>fun t s' p' σ hs=>⟨fun τ e=>by have:=Option.some.inj e;subst this;exact ⟨hs,Ex.refl _⟩,fun _ _ _ _ _=>rfl⟩
 | d+1=>fun t s' p' σ hs=>by
  have ih:=Zkw o size most d
  simp only [Gp]
  by_cases c0:t.Kind=0
  ·simp only [if_pos c0]
   exact ⟨fun τ e=>by have:=Option.some.inj e;subst this;exact ⟨hs,Ex.refl _⟩,fun _ _ _ _ _=>rfl⟩
  simp only [if_neg c0]
  refine ⟨fun τ e => ?_,fun s p v hb hne => ?_⟩
  ·cases hg:Xe size σ (pwd t) with
   | none=>rw [hg] at e;cases e
   | some r =>
    rw [hg,Option.bind_some] at e
    have g:=Us hs hg
    cases ha:Zaf size r.2.2 s' p' (pkd t) (pup t) r.1 r.2.1 with
    | none=>rw [ha] at e;cases e
    | some ρ =>
     rw [ha,Option.bind_some] at e
     have a:=Zsh g.2.2.2.2.1 ha
     have i:=(Zzt ih o r.1 r.2.1 t a.1).1 τ e
     exact ⟨i.1,g.2.2.2.2.2.1.trans (a.2.1.trans i.2)⟩
  rw [Zvk v hb]
  cases hg:Xe size σ (pwd t) with
  | none=>rfl
  | some r =>
   have g:=Us hs hg
   rw [Option.map_some,Option.bind_some,Option.bind_some]
   dsimp only
   rw [Z5n v g.2.2.2.2.1 (g.2.2.2.2.2.1 _ _ _ hb) hne]
   cases ha:Zaf size r.2.2 s' p' (pkd t) (pup t) r.1 r.2.1 with
   | none=>rfl
   | some ρ =>
    have a:=Zsh g.2.2.2.2.1 ha
    rw [Option.map_some,Option.bind_some,Option.bind_some]
    exact (Zzt ih o r.1 r.2.1 t a.1).2 s p v (a.2.1 _ _ _ (g.2.2.2.2.2.1 _ _ _ hb)) (fun q=>g.2.2.2.2.2.2.2.2 p (by rw [← q];exact hb))
theorem Z58 {t:Tr} {d:Nat} (h:Fine t d) (h9:t.Kind=9):0≤(t.Kids.length:Int) * ((fr t.Kids).1+(fr t.Kids).2)∧(t.Kids.length:Int) * ((fr t.Kids).1+(fr t.Kids).2)≤26214000000∧(0≤(fr t.Kids).1∧(fr t.Kids).1≤65535∧0≤(fr t.Kids).2∧(fr t.Kids).2≤65535∧∀ x∈t.Kids,(x.Words.length:Int)≤(fr t.Kids).1∧(x.Kids.length:Int)≤(fr t.Kids).2):=by
 have p:=h.pt
 have pk:=Zln t
 exact (Ycf (l:=t.Kids) (by omega) (fun x hx=>by
  obtain ⟨r1,r2⟩:=(Zin h.rt (by omega) (by omega)).2.2.2 x hx
  have k1:=(Zdc (by omega) r2).2 h9
  obtain ⟨a1,a2,_⟩:=Zin r1 (by omega) (by omega)
  have:=a2 k1
  omega)).2
theorem Zof {t:Tr} (h:t.Kind=1):pwd t=(t.Words.length:Int)+(t.Kids.length:Int):=by unfold pwd;rw [if_pos h]
theorem Zpn {t:Tr} (h:t.Kind=9):pwd t=1+(t.Kids.length:Int) * ((fr t.Kids).1+(fr t.Kids).2):=by unfold pwd;rw [if_neg (by omega),if_pos h]
theorem Z0m {t:Tr} (h:t.Kind=8):pwd t=(t.Kids.length:Int):=by unfold pwd;rw [if_neg (by omega),if_neg (by omega),if_pos h]
theorem Z6h {t:Tr} {d:Nat} (h:Fine t d) (h0:¬ t.Kind=0) (h10:¬ t.Kind=10):1≤t.Kind∧t.Kind≤9:=by
 have:=(Z19 h.rt).1
 have:=(Z19 h.rt).2.1
 have hr:=h.rt
 rw [Znp,if_neg h0,if_neg h10] at hr
 by_cases hb:t.Kind < 0∨10 < t.Kind∨d=0∨65536≤t.Words.length∨(t.Kind=1∧65536≤t.Kids.length)∨1048576≤t.Kids.length∨(1 < t.Kind∧0 < t.Words.length)
 ·rw [if_pos hb] at hr;cases hr
 omega
structure Fr (X:Nat→Prop) (i j:Nat) (O:Objs) (n:Nat) (L:List NR) (O':Objs) (n':Nat) (L':List NR):Prop where
 le:n≤n'
 off:∀ u,u < n→¬ X u→¬ ter i j L u→O' u=O u
 ter:∀ u,ter i j L' u→ter i j L u∨n≤u
theorem Fr.refl (X:Nat→Prop) (i j:Nat) (O:Objs) (n:Nat) (L:List NR):Fr X i j O n L O n L:=⟨Nat.le_refl _,fun _ _ _ _=>rfl,fun _ h => .inl h⟩
theorem Fr.trans {X:Nat→Prop} {i j:Nat} {O O' O'':Objs} {n n' n'':Nat} {L L' L'':List NR} (h:Fr X i j O n L O' n' L') (h':Fr X i j O' n' L' O'' n'' L''):Fr X i j O n L O'' n'' L'' :=
 ⟨Nat.le_trans h.le h'.le,fun u a b c=>(h'.off u (Nat.lt_of_lt_of_le a h.le) b (fun q=>by rcases h.ter u q with q | q;exact c q;omega)).trans (h.off u a b c),fun u q=>by
  rcases h'.ter u q with q | q
  ·exact h.ter u q
  exact .inr (Nat.le_trans h.le q)⟩
theorem Fr.own {X:Nat→Prop} {i j:Nat} {O:Objs} {n:Nat} (L:List NR) (x:Option GObj):Fr X i j O n L (O.upd n x) (n+1) L:=⟨Nat.le_succ n,fun u a _ _=>Ya _ _ (by omega),fun _ h => .inl h⟩
theorem Fr.set {X:Nat→Prop} {i j a:Nat} {O:Objs} {n0 n:Nat} {L0 L:List NR} {O0:Objs} (h:Fr X i j O0 n0 L0 O n L) (x:Option GObj) (ha:n0≤a):Fr X i j O0 n0 L0 (O.upd a x) n L:=⟨h.le,fun u p q r=>by rw [Ya _ _ (by omega)];exact h.off u p q r,h.ter⟩
theorem Fr.keep {X:Nat→Prop} {i j:Nat} {O:Objs} {n:Nat} {L L':List NR} {O':Objs} {n':Nat} (h:Fr X i j O n L O' n' L') {u:Nat} (hu:u < n) (hx:¬ X u) (ht:¬ Go.Proofs.Ytaddaloondpnkaa.ter i j L u):O' u=O u∧u < n'∧¬ Go.Proofs.Ytaddaloondpnkaa.ter i j L' u:=⟨h.off u hu hx ht,Nat.lt_of_lt_of_le hu h.le,fun q=>by rcases h.ter u q with q | q;exact ht q;omega⟩
def AP (size:Int) (O:Objs) (n i j:Nat) (L:List NR) (σ:SG):Prop:=PX (HP j size σ.2) O n i j L∧L.map (·.2)=σ.1
def AR (size most:Int) (O:Objs) (n i j:Nat) (L:List NR) (σ:SG):Prop:=PX (HR j size most (most - σ.2)) O n i j L∧L.map (·.2)=σ.1
theorem AP.frame {size:Int} {O O':Objs} {n n' i j:Nat} {L:List NR} {σ:SG} (h:AP size O n i j L σ) (hO:∀ t,ter i j L t→O' t=O t) (hn:n≤n'):AP size O' n' i j L σ:=⟨h.1.frame hO hn,h.2⟩
theorem AR.frame {size most:Int} {O O':Objs} {n n' i j:Nat} {L:List NR} {σ:SG} (h:AR size most O n i j L σ) (hO:∀ t,ter i j L t→O' t=O t) (hn:n≤n'):AR size most O' n' i j L σ:=⟨h.1.frame hO hn,h.2⟩
theorem AP.own {size:Int} {O:Objs} {n i j:Nat} {L:List NR} {σ:SG} (h:AP size O n i j L σ) (x:Option GObj):AP size (O.upd n x) (n+1) i j L σ:=h.frame (fun t ht=>Ya _ _ (by have:=h.1.ter_lt ht;omega)) (Nat.le_succ n)
theorem AP.set {size:Int} {O:Objs} {n i j a:Nat} {L:List NR} {σ:SG} (h:AP size O n i j L σ) (x:Option GObj) (ha:¬ ter i j L a):AP size (O.upd a x) n i j L σ:=h.frame (fun t ht=>Ya _ _ (fun e=>ha (e ▸ ht))) (Nat.le_refl n)
theorem AR.own {size most:Int} {O:Objs} {n i j:Nat} {L:List NR} {σ:SG} (h:AR size most O n i j L σ) (x:Option GObj):AR size most (O.upd n x) (n+1) i j L σ:=h.frame (fun t ht=>Ya _ _ (by have:=h.1.ter_lt ht;omega)) (Nat.le_succ n)
theorem St.b1 {size most:Int} {σ:SG} {O:Objs} {n i j:Nat} {L:List NR} (hs:St size most σ) (h:L.map (·.2)=σ.1):L.length≤16∧(∀ x∈L,(x.2.length:Int)+σ.2≤131072)∧∀ x∈L,x.2.length≤1000000:=by
 have e:∀ x∈L,(x.2.length:Int)+σ.2≤131072:=fun x hx=>hs.hB _ (by rw [← h];exact List.mem_map.2 ⟨x,hx,rfl⟩)
 have:=hs.hl0
 refine ⟨by have:=hs.h16;rw [← h,List.length_map] at this;exact this,e,fun x hx=>by have:=e x hx;omega⟩
attribute [local push_cast] Bool.and_true Bool.true_and false_and or_false or_true decide_false beq_iff_eq Bool.not_false Bool.false_and
theorem Z23 {a t k u:Int} (a0:0≤a) (a1:a≤1048576) (t0:0≤t) (t1:t≤1048576) (k0:0≤k) (k1:k≤1) (u0:0≤u) (u1:u < 4294967296) :
  Gn a t k u=some (nw a t k u):=by
 unfold Gn nw
 rw [Yo (x:=t - a) (by omega) (by omega),Yo (x:=t - a - 1) (by omega) (by omega)]
 by_cases h:t - a - 1 < 0
 ·rw [decide_eq_true h,cond_true,Yo (by omega) (by omega),Option.bind_some,Yo (x:=4 * _) (by omega) (by omega),K2 (x:=4 * _) (by omega) (by omega),K2 (x:=u * _) (by omega) (by omega),K2 (x:=_+k) (by omega) (by omega),K2 (by omega) (by omega)]
  congr 1
  omega
 rw [decide_eq_false h,cond_false,Option.bind_some,Yo (x:=4 * _) (by omega) (by omega),K2 (x:=4 * _) (by omega) (by omega),K2 (x:=u * _) (by omega) (by omega),K2 (x:=_+k) (by omega) (by omega),K2 (by omega) (by omega)]
 congr 1
 omega
def PtrOf (P:Z8) (k u:Int):Prop:=(∃ d p,P=⟨1,0,d,p,0,0,0,false⟩∧k=0∧u=d+65536 * p∧0≤d∧d < 65536∧0≤p∧p < 65536)∨(∃ c m,P=⟨2,0,0,0,c,m,0,false⟩∧k=1∧u=c+8 * m∧0≤c∧c < 8∧0≤m∧m < 536870912)
theorem PtrOf.bd {P:Z8} {k u:Int} (h:PtrOf P k u):0≤k∧k≤1∧0≤u∧u < 4294967296:=by
 rcases h with ⟨d,p,rfl,rfl,rfl,_⟩ | ⟨d,p,rfl,rfl,rfl,_⟩ <;> omega
theorem PtrOf.of {P:Z8} {k u off:Int} (h:PtrOf P k u) (a:-536870912≤off) (b:off < 536870912) (c:¬ (k=0∧u=0∧off=0)):Zt4 ⟨P.Kind,off,P.Data,P.Ptrs,P.Code,P.Count,P.Segment,P.Double⟩=some (off % 1073741824 * 4+k+u * 4294967296):=by
 unfold Zt4
 rcases h with ⟨d,p,rfl,rfl,rfl,_⟩ | ⟨d,p,rfl,rfl,rfl,_⟩
 ·dsimp only
  rw [Yd8 a b (by omega) (by omega) (by omega) (by omega) (by omega)]
  dsimp only [Option.bind_some]
  exact congrArg some (by omega)
 dsimp only
 rw [Yd7 a b (by omega) (by omega) (by omega) (by omega)]
 dsimp only [Option.bind_some]
 exact congrArg some (by omega)
theorem Z71 {t:Tr} {d:Nat} (hF:Fine t d) (h0:¬ t.Kind=0) (h10:¬ t.Kind=10):∃ P,Znh t=some P∧Qr P=some (pwd t,true)∧(pwd t≤131072→PtrOf P (pkd t) (pup t)):=by
 have kd:=Z6h hF h0 h10
 have p:=hF.pt
 have pk:=Zln t
 obtain ⟨i1,i2,i3,i4⟩:=Zin hF.rt h0 h10
 unfold Znh
 by_cases c1:t.Kind=1
 ·rw [Zru c1,cond_true]
  refine ⟨_,rfl,?_,fun _ => .inl ⟨(t.Words.length:Int),(t.Kids.length:Int),rfl,?_,?_,by omega,by omega,by omega,by have:=i2 c1;omega⟩⟩
  ·unfold Qr
   simp only
   rw [Zru (a:=1) (b:=1) rfl,cond_true,Zof c1,Yo (by omega) (by omega)]
  ·unfold pkd;rw [if_pos c1]
  unfold pup;rw [if_pos c1]
 rw [Vb c1,cond_false]
 have ek:pkd t=1:=by unfold pkd;rw [if_neg c1]
 by_cases c9:t.Kind=9
 ·obtain ⟨a1,a2,w0,w1,k0,k1,ak⟩:=Z58 hF c9
  rw [Zru c9,cond_true,Z6a (by omega),Option.bind_some,Yo (x:=(fr t.Kids).1+(fr t.Kids).2) (by omega) (by omega),Yo (x:=(t.Kids.length:Int) * _) (by omega) (by omega)]
  refine ⟨_,rfl,?_,fun hp => .inr ⟨7,(t.Kids.length:Int) * ((fr t.Kids).1+(fr t.Kids).2),rfl,ek,?_,by omega,by omega,a1,by rw [Zpn c9] at hp;omega⟩⟩
  ·unfold Qr
   simp only
   rw [Vb (a:=2) (b:=1) (by decide),cond_false,Zru (a:=2) (b:=2) rfl,cond_true,Zru (a:=7) (b:=7) rfl,cond_true,Zpn c9,Yo (by omega) (by omega),Int.add_comm]
  unfold pup;rw [if_neg c1,if_pos c9]
 rw [Vb c9,cond_false,Yo (x:=t.Kind - 2) (by omega) (by omega)]
 refine ⟨_,rfl,?_,fun hp => .inr ⟨t.Kind - 2,(t.Kids.length:Int),rfl,ek,?_,by omega,by omega,by omega,by omega⟩⟩
 ·rw [Yby (by omega) (by omega)]
  unfold pwd rmL
  rw [if_neg c1,if_neg c9]
  by_cases c8:t.Kind=8
  ·rw [if_pos (by omega),if_pos c8]
  rw [if_neg (by omega),if_neg c8]
  have:=(Z3q (c:=t.Kind - 2) (ns:=ato t) (by omega) (by rw [Zoo];omega) (fun n hn=>by
   obtain ⟨k,hk,rfl⟩:=List.mem_map.1 hn
   obtain ⟨w,hw,q0,_,q1⟩:=Z0c (by omega) (hF.bd.all k hk) (hF.kid hk).rt (i4 k hk).2
   rw [hw];exact ⟨q0,q1⟩)).2
  rw [this,Zoo]
 unfold pup;rw [if_neg c1,if_neg c9]
theorem Zoq {t:Tr} {d:Nat} (hF:Fine t d) (h:2≤t.Kind∧t.Kind≤7):∀ k∈t.Kids,∃ w,k.Words=[w]∧0≤w∧w < 18446744073709551616∧Zdf (t.Kind - 2) w=true:=fun k hk =>
 Z0c h (hF.bd.all k hk) (hF.kid hk).rt ((Zin hF.rt (by omega) (by omega)).2.2.2 k hk).2
theorem Z0w {t:Tr} {d:Nat} (hF:Fine t d) (hk:2≤t.Kind∧t.Kind≤7):Ux (t.Kind - 2) (ato t)=some (Znc (t.Kind - 2) (ato t),true) :=
 Z7r (by omega) (by rw [Zoo];have:=hF.pt;have:=Zln t;omega) (fun n hn=>by
  obtain ⟨k,hk',rfl⟩:=List.mem_map.1 hn
  obtain ⟨w,hw,h0,h2,h1⟩:=Zoq hF hk k hk'
  rw [hw]
  exact ⟨h0,h2,h1⟩)
end Go.Proofs.Ytaddaloondpnkaa
