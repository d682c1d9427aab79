/- Part VN; each theorem bears its own conditions. -/
import Derived.Test.YtbkhdkfjabiocaaVA
import Derived.Test.YtbkhdkfjabiocaaUM3
namespace Go.Proofs.Ytbkhdkfjabiocaa
open Go.RowKit
set_option linter.unusedVariables false
set_option linter.unusedSimpArgs false
set_option maxRecDepth 100000
set_option maxHeartbeats 4000000
attribute [local push_cast] Xm Zf Qi Yb Zn Zmh Zmg Znd Znc Zk Zg Zir Zd5 Zd4 onW Y9 Zbs Zbf Zo6 Zlg Zgj Zgn Zgi Zgm Zjv Zjq Zgl Zju Zjt Zjs Zgk Zjo Zeu evS wok Qq Op.operands Call.operands gop onK onP atK List.all_cons List.all_nil Bool.and_true Bool.true_and Bool.and_self Value.oneCell' List.take_zero List.take_succ_cons List.take_nil List.drop_zero List.drop_succ_cons List.drop_nil List.append_nil Nat.add_zero Nat.zero_add Vt Yd ev Q0 Zpl Zma Zl9 Zmf Zmd Zme Zmb Zmc Zl8 Zqk Zro Zut Zgw Zav Zgv Zbm Zf8 Zd7 Zb3 Zb8 Zd0 Zdw Zb6 Zdz Zdy Zdx Zb5 Zdu Zb4 Zb7 Zbe Zdv Zke Zd6 Ut Zfp Uu Zh2 Zgu Ztx bLo bHi bMx Zaw Zh1 Zv9 Zgs Ziq Zc4 Vf Zqo Zwa Zfo Zc2 Zwc Zau Zy5 Ziz Zi3 Ziy Zi2 Zm2 Zmy Zmw Zgb Zi0 Zm1 Zm0 Zmz Zi1 Zmr Zmu Zmq Zmt Zr1 Zry Zrx Zms Zrz Zr0 Zmx Zh3 Zot Zjk Zem Zel pop TK.isAgg Zm5 Zm9 Zm4 Zm8 Zjb Zsd Zr9 Zm7 Zsc Zsb Zsa Zm6 Zr8 G.under G.unders List.getD_cons_zero List.getD_cons_succ List.set_cons_zero List.set_cons_succ List.map_cons List.map_nil List.toList_toArray Array.toList_append Option.toArray_none Option.toArray_some Array.toList_map Option.map_some Option.map_none Option.bind_some Option.bind_none List.getElem?_cons_zero List.getElem?_cons_succ List.getElem?_nil List.nil_append List.cons_append List.replicate_succ List.replicate_zero List.length_cons List.length_nil and_true true_and and_false false_and Bool.true_eq_false Bool.false_eq_true forall_const false_implies implies_true IntKind.bits if_true if_false ite_true ite_false eq_self true_implies false_or or_false or_true true_or not_true_eq_false not_false_eq_true decide_true decide_false decide_eq_true_eq decide_eq_false_iff_not beq_iff_eq bne_iff_ne ne_eq Bool.not_eq_true Bool.not_eq_false beq_eq_false_iff_ne bne_eq_false_iff_eq beq_self_eq_true bne_self_eq_false Option.some.injEq exists_eq_left' exists_eq_left ge_iff_le gt_iff_lt decide_not Bool.not_true Bool.not_false imp_self Zru cond_true cond_false Z5b Z5a Bool.not_not Bool.and_false Bool.false_and Bool.or_true Bool.true_or Bool.or_false Bool.false_or V8 Zbx Zam U3 Uc Kv Option.join_some Nat.add_assoc Int.toNat_natCast eI eB eS eL Zc0 Zd3 Zcc Zmk Zmi Zmj Zzq Z1p Zei Zck Znj Znh Zni Zvf Zk6 Zth Zk4 Zqb Zcb Zpj List.length_append G.agg.injEq G.row.injEq G.ref.injEq G.val.injEq G.sl.injEq G.tup.injEq Value.int.injEq Value.bool.injEq Value.string.injEq List.cons.injEq exists_and_left exists_const List.flatten_cons List.flatten_nil Int.le_refl Nat.le_refl Zff Kk Ze3 Bool.not_eq_true' Bool.not_eq_false' Zoq Zfg Zs9 Ztd Zs8 Ztc Zyo Zyj List.size_toArray Zp1 Zpb G.ren G.rens Zsh Zeo Znq Zl6 Zl7 Zjp Zte Zef G.fn.injEq Zhj Zj9 Zop Zyk Zhi Ztb Zyn Zym Zyl Zta Zr3 Zw7 Option.join_none Z9 V7 undef Ziv Arr.len Arr.put_eq Zeh Zgd Zeg Zcj Zng Zne Znf onB Zzp Zqj Jc Zf5 Zib Zic Zid Zie Zif Zig Zgc Zgg Zge Zek Zcl Zgf Zji Zjh Zjg Zjf Zzr Z1o Zve Zt2 Jy Zu4 Zou Zgh Zej Zq8 Zq7 Z30 Zwl Zpd Zgq Zin Zbz Zhb Zih Zii Zij Zik Zfs Zft Zfu Zfv Zfw Zfx Zfy Zfz Zf0 Zf1 Zf2 Zf3 Zf4 Zdo prT Zc6 Z56 Zs0 Zz4 Zs1 Z57 Zs2 Z58 Zs3 Z59 Zs4 Z6a Zs5 Z6b Zs6 Z6c Zs7 Zxk Zns Zxl Znt Zxm Znu Zxn Znv Zxo Znw Zxp Znx Zxq Zny Zxr Znz Zxs Zn0 Zxt Zn1 Zxu Zn2 Zdq Zfr Ztt Zhw Zxv Zn3 Uo Zn4 Zxw Zhx Zxx Zn5 Zxy Zn6 Zxz Zn7 Zx0 Zn8 Zap Zn9 Zx1 Zoa Zx2 Zob Zx3 Zoc Zx4 Zod Zx5 Zoe Zx6 Zof Zx7 Zog Zx8 Zoh Zx9 Zoi Zya Zoj Zyb Zok Zyc Zol Zyd Zom Zye Zon Zyf Zoo Zsn Zjx Zso Zjy Zsp Zjz Zsq Zj0 Zsr Zj1 Zss Zj2 Zst Zj3 Zsu Zj4 Zsv Zj5 Zsw Zj6 Zsx Zj7 Zsy Zj8 Zo Zba Zex Zea Zee Ze0 Zcs Zcq Zco V5 Zaj Zai Zab Zag Zak Gj Gi Gh Zah J7 J6 Jz J0 J8 Jp Jo Jn J5 Zi Y1 Vo Vn Vi Vk Vp K6 K4 K3 Vm Zey Zew Zd9 Zed Zez Zcr Zcp Zcn Zev Zca U7 Zb9 U8 Z7 Q8 Q7 Q4 Q5 Q9 Qx Qv Qu Q6 Z4 Qe Qd X9 Qa Qf Xy Xx Xw Qc
theorem Yb2 {O:Objs} {n i j v:Nat} {L:List NR} {size left:Int} (h:PX (HP j size left) O n i j L) (hB:∀ x∈L,x.2.length≤1000000) (s p:Int) (ws:List Int) (hp:0≤p∧p+(ws.length:Int)≤1000000) (hv:v < n) (hvt:¬ ter i j L v) (hov:O v=some ⟨true,44,1,ws.length,fl (eI .u64) ws⟩) :
  GCalls Try.prog 48 [.agg [.ref i 0],.val (.int .i64 s),.val (.int .i64 p),.row v ws.length] O n fun r O' n'=>r = .tup []∧n≤n'∧∃ L',PX (HP j size left) O' n' i j L'∧L'.map (·.1)=L.map (·.1)∧L'.map (·.2)=Y0 (L.map (·.2)) s p ws∧(∀ t,t < n→¬ ter i j L t→O' t=O t)∧∀ x∈L',x.2.length≤1000000:=by
 refine Zld Zc Try.call48 Try.func48 rfl (Nat.le_of_ble_eq_true rfl) fun hU => ?_
 have hN0:O n=none:=hU.fresh _ (Nat.le_refl _)
 have hN:∀ k,O (n+k)=none:=fun k=>hU.fresh _ (Nat.le_add_right _ _)
 have hi0:=h.hi
 have hi:i < n+1:=by omega
 have hn1:n < n+1:=Nat.lt_succ_self n
 have hv1:v < n+1:=by omega
 have hlr:∀ (Z:Objs) i k,Kx Z (.row i k)=True:=fun Z i k=>by simp [Kx]
 show W _ _ _ _ ⟨26,[],[(0,.agg [.ref i 0]),(1,.val (.int .i64 s)),(2,.val (.int .i64 p)),(3,.row v ws.length)]⟩ (Zy O n []) _
 rw [Kj hU.fresh]
 refine Zp [1,2,3,4] (Zb Zc [] ?_)
 simp only [push_cast,seval,Za,hi0,hN0,hN,hlr,hv]
 refine Zp [1,2,4,10,11,12] (Zb Zc [] ?_)
 simp only [push_cast,seval,Za,hi,hn1,hlr,hv1]
 refine Yn ?_
 obtain ⟨O0,hO0⟩:∃ O0,O0=O.upd n (some ⟨false,48,1,1,[.ref i 0]⟩):=⟨_,rfl⟩
 have hOn:O0 n=some ⟨false,48,1,1,[.ref i 0]⟩:=by rw [hO0];exact Z9 _ _ _
 have h0:PX (HP j size left) O0 (n+1) i j L:=h.frame (fun t ht=>by rw [hO0];exact Ya _ _ (by have:=h.ter_lt ht;omega)) (Nat.le_succ n)
 rw [← hO0]
 refine Zp6 (S:=Int×Objs×List NR) (fun q=>⟨26,[],[(1,.val (.int .i64 s)),(2,.val (.int .i64 p)),(4,.ref n 0),(10,.row v ws.length),(11,.val (.int .i64 (ws.length:Int))),(12,.val (.int .i64 q.1))]⟩) (fun q=>q.2.1) (fun _=>n+1)
  (fun q=>(0≤q.1∧q.1≤(ws.length:Int))∧PX (HP j size left) q.2.1 (n+1) i j q.2.2∧q.2.2.map (·.1)=L.map (·.1)∧q.2.2.map (·.2)=Y0 (L.map (·.2)) s p (ws.take q.1.toNat)∧q.2.1 n=some ⟨false,48,1,1,[.ref i 0]⟩∧(∀ t,t < n→¬ ter i j L t→q.2.1 t=O t)∧∀ x∈q.2.2,x.2.length≤1000000)
  (fun q=>((ws.length:Int) - q.1).toNat) (fun _ _=>Nat.le_succ n) (fun q hq => ?_) (0,O0,L) ⟨⟨Int.le_refl _,by omega⟩,h0,rfl,rfl,hOn,fun t ht _=>by rw [hO0];exact Ya _ _ (by omega),hB⟩
 obtain ⟨k,Y,M⟩:=q
 obtain ⟨⟨k0,k1⟩,g1,g2,g3,g4,g5,g6⟩:=hq
 dsimp only at k0 k1 g1 g2 g3 g4 g5 g6 ⊢
 have hYv:Y v=some ⟨true,44,1,ws.length,fl (eI .u64) ws⟩:=(g5 v hv hvt).trans hov
 refine Y8 fun hUY => ?_
 refine Zj ?_
 refine Zb Zc [] ?_
 simp only [push_cast,seval,Za,hi,hn1,hlr,hv1]
 refine Zj ?_
 refine Zs (t:=decide (k < (ws.length:Int))) rfl (fun c => ?_) (fun c => ?_)
 ·have c1:k < (ws.length:Int):=of_decide_eq_true c
  refine Zw ?_
  try simp only [Zk,Zg]
  refine Zds (E':=⟨26,[],[(1,.val (.int .i64 s)),(2,.val (.int .i64 p)),(4,.ref n 0),(10,.row v ws.length),(11,.val (.int .i64 (ws.length:Int))),(12,.val (.int .i64 k))]⟩) (Ka hUY (Nat.le_succ n) rfl ?_) ?_
  ·simp only [push_cast,seval,Za,hi,hn1,hlr,hv1]
  obtain ⟨w,hw⟩:∃ w,Z6 ws k=some w:=⟨ws[k.toNat]'(by omega),by unfold Z6;rw [if_pos k0];exact List.getElem?_eq_getElem (by omega)⟩
  obtain ⟨x5,hx5,ax5,bx5,cx5,_⟩:=bE (f:=eI .u64) (K:=fun y=>some y) (r:=w) Zap (fun _=>rfl) (by decide) (by rw [hw];rfl)
  obtain rfl:x5=w:=Option.some.inj (hx5.symm.trans hw)
  refine Zj ?_
  refine Yn ?_
  refine Zp [1,2,4,8,9,10,11,12] (Zb Zc [] ?_)
  simp only [push_cast,Nat.reduceAdd,Nat.reduceSub,Nat.reduceMul,Nat.reduceLeDiff,Nat.reduceLT,Nat.reduceEqDiff,↓reduceIte,reduceCtorEq,Int.reduceBEq,Int.reduceBNe,Nat.reduceBEq,Int.reduceLE,Int.reduceLT,Int.reduceEq,Int.reduceNe,Int.reduceNeg,Nat.reduceDiv,Nat.reduceMod,Nat.reducePow,Za,hi,hn1,ax5,bx5,cx5,hYv,hv1]
  obtain ⟨Y',M',q1,q2,q3,q4,q5,q6⟩:=Z8f g1 g6 s (p+k) x5
  have hwp:IntKind.i64.wrap (p+k)=p+k:=Zcv (by omega)
  refine Zb Zc [] ?_
  simp only [push_cast,seval,Za,hi,hn1,g4,hwp]
  refine q1.then ?_
  simp only [push_cast,seval,Za,hi,hn1,hlr,hv1]
  refine Y8 fun hUY' => ?_
  refine Zb Zc [] ?_
  have hwk:IntKind.i64.wrap (k+1)=k+1:=Zcv (by omega)
  simp only [push_cast,seval,Za,hi,hn1,hwk]
  refine .inl ⟨rfl,(k+1,Y',M'),⟨⟨by omega,by omega⟩,q2,q3.trans g2,?_,?_,fun t h1 h2 => ?_,q6⟩,by show ((ws.length:Int) - (k+1)).toNat < ((ws.length:Int) - k).toNat;omega,Ka hUY' (Nat.le_succ n) rfl ?_⟩
  ·have e:ws.take (k+1).toNat=ws.take k.toNat++[x5]:=by
    have h3:=hw
    unfold Z6 at h3
    rw [if_pos k0] at h3
    rw [show (k+1).toNat=k.toNat+1 by omega,List.take_add_one,h3];rfl
   show M'.map (·.2)=Y0 (L.map (·.2)) s p (ws.take (k+1).toNat)
   rw [e,Zpt,q4,g3]
   congr 1
   rw [List.length_take]
   omega
  ·show Y' n=_
   rw [q5 n (fun q=>by have:=g1.ter_lt q;have hz:=Zjw g2 q;have:=h.ter_lt hz;omega)];exact g4
  ·show Y' t=O t
   rw [q5 t (fun q=>h2 (Zjw g2 q))];exact g5 t h1 h2
  simp only [push_cast,seval,Za,hi,hn1,hlr,hv1]
 have c1:¬ k < (ws.length:Int):=of_decide_eq_false c
 refine Jt ?_
 try simp only [Zk,Zg,↓reduceIte,Nat.reduceEqDiff]
 refine .inr ⟨(fun h=>by cases h),?_⟩
 have ek:ws.take k.toNat=ws:=List.take_of_length_le (by omega)
 rw [ek] at g3
 show Z2n _ _ _ _ .normal _ _ _
 refine ⟨.tup [],Y,n+1,Nat.le_succ n,⟨rfl,Nat.le_succ n,M,g1,g2,g3,g5,g6⟩,?_⟩
 refine Yl (P:=Try.prog) (.inl rfl) hUY [] (Nat.le_succ n) ?_
 simp only [push_cast,seval,Za,Try.results48]
theorem Z9w {O:Objs} {n i j v:Nat} {L:List NR} {size most:Int} {σ:SG} (h:AP size O n i j L σ) (hs:St size most σ) (s p:Int) (ws:List Int) (hp:0≤p∧p+(ws.length:Int)≤1000000) (hv:v < n) (hvt:¬ ter i j L v) (hov:O v=some ⟨true,44,1,ws.length,fl (eI .u64) ws⟩) {K:G→Objs→Nat→Prop}
  (hk:∀ O' n' L',AP size O' n' i j L' (Y0 σ.1 s p ws,σ.2)→Fr NoX i j O n L O' n' L'→K (.tup []) O' n') :
  GCalls Try.prog 48 [.agg [.ref i 0],.val (.int .i64 s),.val (.int .i64 p),.row v ws.length] O n K:=by
 obtain ⟨b1,b2,b3⟩:=hs.b1 (O:=O) (n:=n) (i:=i) (j:=j) h.2
 refine (Yb2 h.1 b3 s p ws hp hv hvt hov).mono fun r O' n' ⟨e,g1,L',g2,g3,g4,g5,g6⟩ => ?_
 subst e
 rw [h.2] at g4
 exact hk O' n' L' ⟨g2,g4⟩ ⟨g1,fun u a _ b=>g5 u a b,fun u q => .inl (Zjw g3 q)⟩
theorem Zmp {O:Objs} {n i j:Nat} {L:List NR} {size most:Int} {σ:SG} (h:AP size O n i j L σ) (hs:St size most σ) (s p:Int) (ws:List Int) (hp:0≤p∧p+(ws.length:Int)≤1000000) {K:G→Objs→Nat→Prop}
  (hk:∀ O' n' L',AP size O' n' i j L' (Y0 σ.1 s p ws,σ.2)→Fr NoX i j O n L O' n' L'→K (.tup []) O' n') :
  GCalls Try.prog 48 [.agg [.ref i 0],.val (.int .i64 s),.val (.int .i64 p),.row n ws.length] (O.upd n (some ⟨true,44,1,ws.length,fl (eI .u64) ws⟩)) (n+1) K :=
 Z9w (h.own _) hs s p ws hp (Nat.lt_succ_self n) (fun q=>by have:=h.1.ter_lt q;omega) (Z9 _ _ _) fun O' n' L' a f=>hk O' n' L' a ((Fr.own L _).trans f)
theorem Z94 (p:Int):nw p p 0 0=4294967292:=by unfold nw;omega
theorem Z45 {size:Int} {σ:SG} {s p k u hm b:Int} (c:(k=0∧u=0)∨hm=s):Zcu size σ s p k u hm b=some (pt1 s p (nw p (if k=0∧u=0 then p else b) k u) σ):=by
 unfold Zcu
 by_cases c1:k=0∧u=0
 ·rw [if_pos c1,if_pos c1,c1.1,c1.2,Z94]
 rw [if_neg c1,if_neg c1,if_pos (c.resolve_left c1)]
theorem Ybn {O:Objs} {n i j:Nat} {L:List NR} {size most:Int} {σ:SG} (h:AP size O n i j L σ) (hs:St size most σ) {s p hm b k u:Int} {P:Zx} (hP:PtrOf P k u) (hsb:Yp σ.1 s p 1=true) (hb:0≤b∧b≤131072) (hm0:0≤hm∧hm≤1000) :
  GCalls Try.prog 33 [.agg [.ref i 0],.val (.int .i64 s),.val (.int .i64 p),.agg (Yb P),.val (.int .i64 hm),.val (.int .i64 b)] O n (Z6k size i j O n L (Zcu size σ s p k u hm b)):=by
 have kb:=hP.bd
 have hnull:=hP.null
 obtain ⟨x0,hx0,p0,_,p1⟩:=Jb hsb
 have hx0b:=hs.hB x0 (Xe hx0)
 have hl0:=hs.hl0
 refine Zld Zc Try.call33 Try.func33 rfl (Nat.le_of_ble_eq_true rfl) fun hU => ?_
 have hN0:O n=none:=hU.fresh _ (Nat.le_refl _)
 have hN:∀ k,O (n+k)=none:=fun k=>hU.fresh _ (Nat.le_add_right _ _)
 have hi0:=h.1.hi
 have hi:i < n+2:=by omega
 have hn1:n < n+2:=by omega
 have hn2:n+1 < n+2:=by omega
 show W _ _ _ _ ⟨96,[],[(0,.agg [.ref i 0]),(1,.val (.int .i64 s)),(2,.val (.int .i64 p)),(3,.agg (Yb P)),(4,.val (.int .i64 hm)),(5,.val (.int .i64 b))]⟩ (Zy O n []) _
 rw [Kj hU.fresh]
 refine Zp [1,2,4,5,6,9] (Zb Zc [] ?_)
 simp only [push_cast,seval,Za,hi0,hN0,hN]
 refine Y8 fun hUZ => ?_
 have A1:=(h.own (some ⟨false,48,1,1,[.ref i 0]⟩)).own (some ⟨false,69,8,1,Yb P⟩)
 have F1:=(Fr.own (X:=NoX) (i:=i) (j:=j) (O:=O) (n:=n) L (some ⟨false,48,1,1,[.ref i 0]⟩)).trans (Fr.own L (some ⟨false,69,8,1,Yb P⟩))
 simp only [push_cast] at A1 F1
 generalize hZ:(O.upd n (some ⟨false,48,1,1,[.ref i 0]⟩)).upd (n+1) _=Z at hUZ A1 F1 ⊢
 have hZn:Z n=some ⟨false,48,1,1,[.ref i 0]⟩:=by rw [← hZ,Ya _ _ (by omega),Z9]
 have hZ1:Z (n+1)=some ⟨false,69,8,1,Yb P⟩:=by rw [← hZ,Z9];rfl
 simp only [push_cast] at hZ1
 have A2:AP size Z (n+2) i j L σ:=A1
 have F2:Fr NoX i j O n L Z (n+2) L:=F1
 clear A1 F1
 obtain ⟨hm',b',hd⟩:∃ hm' b':Int,hm'=(if k=0∧u=0 then s else hm)∧b'=(if k=0∧u=0 then p else b):=⟨_,_,rfl,rfl⟩
 refine Xk (E':=⟨96,[],[(1,.val (.int .i64 s)),(2,.val (.int .i64 p)),(4,.val (.int .i64 hm')),(5,.val (.int .i64 b')),(6,.ref n 0),(9,.ref (n+1) 0)]⟩) (O':=Z) (n0:=n+2) ?_ ?_
 ·refine Zp [1,2,4,5,6,9,20] (Zb Zc [] ?_)
  simp only [push_cast,seval,Za,hi,hn1,hn2,hZn,hZ1]
  refine Zs (t:=decide (k=0∧u=0)) (by rw [← hnull];rfl) (fun c => ?_) (fun c => ?_)
  ·have c1:=of_decide_eq_true c
   rw [if_pos c1,if_pos c1] at hd
   obtain ⟨rfl,rfl⟩:=hd
   refine Zb Zc [] ?_
   simp only [push_cast,seval,Za,hi,hn1,hn2,hZn,hZ1]
   refine And.intro rfl (Ka hUZ (by omega) rfl ?_)
   simp only [push_cast,seval,Za,hi,hn1,hn2,hZn,hZ1]
  have c1:=of_decide_eq_false c
  rw [if_neg c1,if_neg c1] at hd
  obtain ⟨rfl,rfl⟩:=hd
  refine Zw ?_
  refine And.intro rfl (Ka hUZ (by omega) rfl ?_)
  simp only [push_cast,seval,Za,hi,hn1,hn2,hZn,hZ1]
 have ht0:¬ ter i j L n:=fun q=>by have:=h.1.ter_lt q;omega
 have ht1:¬ ter i j L (n+1):=fun q=>by have:=h.1.ter_lt q;omega
 refine Zj ?_
 refine Zp [1,2,4,5,6,9,25] (Zb Zc [] ?_)
 simp only [push_cast,seval,Za,hi,hn1,hn2,hZn,hZ1]
 refine Zs (t:=(hm' == s)) rfl (fun c => ?_) (fun c => ?_)
 ·have c1:hm'=s:=eq_of_beq c
  have c2:(k=0∧u=0)∨hm=s:=by
   by_cases q:k=0∧u=0
   ·exact .inl q
   rw [if_neg q] at hd;exact .inr (hd.1.symm.trans c1)
  have hb2:0≤b'∧b'≤131072:=by rw [hd.2];split <;> omega
  have hne:¬ (k=0∧u=0∧b' - p - 1=0):=fun q=>by rw [if_pos ⟨q.1,q.2.1⟩] at hd;omega
  have ho:=hP.of (off:=b' - p - 1) (by omega) (by omega) hne
  have w1:IntKind.i64.wrap (b' - p)=b' - p:=Zcv (by omega)
  have w2:IntKind.i64.wrap (b' - p - 1)=b' - p - 1:=Zcv (by omega)
  obtain ⟨Y,hY⟩:∃ Y,Y=Z.upd (n+1) (some ⟨false,69,8,1,Yb ⟨P.Kind,b' - p - 1,P.Data,P.Ptrs,P.Code,P.Count,P.Segment,P.Double⟩⟩):=⟨_,rfl⟩
  have A3:=A2.set (some ⟨false,69,8,1,Yb ⟨P.Kind,b' - p - 1,P.Data,P.Ptrs,P.Code,P.Count,P.Segment,P.Double⟩⟩) ht1
  have F3:=F2.set (a:=n+1) (some ⟨false,69,8,1,Yb ⟨P.Kind,b' - p - 1,P.Data,P.Ptrs,P.Code,P.Count,P.Segment,P.Double⟩⟩) (by omega)
  rw [← hY] at A3 F3
  refine Zp [1,2,4,5,6,9] (Zb Zc [] ?_)
  simp only [push_cast,seval,Za,hi,hn1,hn2,hZn,hZ1,w1,w2]
  have hY2:=hY
  simp only [push_cast] at hY2
  rw [← hY2]
  refine Y8 fun hUY => ?_
  have hZn:Y n=_:=(hY ▸ Ya Z _ (by omega):Y n=Z n).trans hZn
  have hZ1:Y (n+1)=some ⟨false,69,8,1,Yb ⟨P.Kind,b' - p - 1,P.Data,P.Ptrs,P.Code,P.Count,P.Segment,P.Double⟩⟩:=by rw [hY];exact Z9 _ _ _
  simp only [push_cast] at hZ1
  refine Zj ?_
  refine U0 Zc (by kernel_rfl) [.low,.plain,.plain,.plain,.plain,.pass,.bar] (fun t=>t=n) [0,1,2,3,4,5,6] [.low,.plain,.plain,.plain,.plain,.pass,.bar] [] (by kernel_rfl) rfl ?_
  simp only [push_cast,seval,Za,hi,hn1,hn2,hZn,hZ1]
  refine PCall.of (Za9 ho) ?_
  simp only [push_cast,seval,Za,hi,hn1,hn2,hZn,hZ1]
  refine ⟨fun t ht=>Ya _ _ (by omega),?_⟩
  refine Zmp A3 hs s p [(b' - p - 1) % 1073741824 * 4+k+u * 4294967296] ⟨p0,by show p+1≤1000000;omega⟩ fun O9 n9 L9 A9 F9 => ?_
  simp only [push_cast,seval,Za,hi,hn1,hn2,hZn,hZ1]
  refine Y8 fun hU9 => ?_
  have n9:n≤n9:=Nat.le_trans F3.le F9.le
  refine Zp [12] (Zb Zc [] ?_)
  simp only [push_cast,seval,Za,hi,hn1,hn2,hZn,hZ1]
  refine Zu ?_
  try simp only [Zk,Zg]
  refine ⟨.val (.bool true),_,_,n9,⟨L9,F3.trans F9,by rw [Z45 c2,← hd.2];exact ⟨rfl,A9⟩⟩,?_⟩
  refine Yl (P:=Try.prog) (.inr rfl) hU9 [.val (.bool true)] n9 ?_
  simp only [push_cast,seval,Za,Try.results33]
 have c1:¬ hm'=s:=ne_of_beq_false c
 have c0:¬ (k=0∧u=0):=fun q=>by rw [if_pos q] at hd;exact c1 hd.1
 rw [if_neg c0,if_neg c0] at hd
 obtain ⟨rfl,rfl⟩:=hd
 have ea:Zcu size σ s p k u hm' b'=_:=(if_neg c0).trans (if_neg c1)
 have e0:=hP.of0 c0
 refine Zw ?_
 try simp only [Zk,Zg]
 refine Zj ?_
 cases hin:inO size σ hm' with
 | some r =>
  rw [hin] at ea
  have o:=Zuw hs hin
  obtain ⟨O5,L5,g5,A5,F5⟩:=Z9u A2 hs hin
  refine Zp [1,2,4,5,6,9,13,14] (Zb Zc [] ?_)
  simp only [push_cast,seval,Za,hi,hn1,hn2,hZn,hZ1]
  refine g5.then ?_
  obtain ⟨k1,k2,k3⟩:=F5.keep hn1 (fun q=>q) ht0
  obtain ⟨l1,l2,l3⟩:=F5.keep hn2 (fun q=>q) ht1
  have hi:=A5.1.hi
  have hZn:=k1.trans hZn
  have hZ1:=l1.trans hZ1
  have hn1:=k2
  have hn2:=l2
  have ht0:=k3
  have ht1:=l3
  clear k1 k2 k3 l1 l2 l3
  simp only [push_cast,seval,Za,hi,hn1,hn2,hZn,hZ1]
  refine Y8 fun hU5 => ?_
  refine Zp [1,2,4,5,6,9,13,14,45] (Zb Zc [] ?_)
  simp only [push_cast,seval,Za,hi,hn1,hn2,hZn,hZ1]
  refine Zs (t:=true) rfl (fun c15 => ?_) (fun c15=>by cases c15)
  have ho:=hP.of (off:=b' - r.1 - 1) (by omega) (by omega) (fun q=>c0 ⟨q.1,q.2.1⟩)
  have w1:IntKind.i64.wrap (b' - r.1)=b' - r.1:=Zcv (by omega)
  have w2:IntKind.i64.wrap (b' - r.1 - 1)=b' - r.1 - 1:=Zcv (by omega)
  have F25:=F2.trans F5
  obtain ⟨Y,hY⟩:∃ Y,Y=O5.upd (n+1) (some ⟨false,69,8,1,Yb ⟨P.Kind,b' - r.1 - 1,P.Data,P.Ptrs,P.Code,P.Count,P.Segment,P.Double⟩⟩):=⟨_,rfl⟩
  have A3:=A5.set (some ⟨false,69,8,1,Yb ⟨P.Kind,b' - r.1 - 1,P.Data,P.Ptrs,P.Code,P.Count,P.Segment,P.Double⟩⟩) ht1
  have F3:=F25.set (a:=n+1) (some ⟨false,69,8,1,Yb ⟨P.Kind,b' - r.1 - 1,P.Data,P.Ptrs,P.Code,P.Count,P.Segment,P.Double⟩⟩) (by omega)
  rw [← hY] at A3 F3
  refine Zp [1,2,4,5,6,9,13] (Zb Zc [] ?_)
  simp only [push_cast,seval,Za,hi,hn1,hn2,hZn,hZ1,w1,w2]
  have hY2:=hY
  simp only [push_cast] at hY2
  rw [← hY2]
  refine Y8 fun hUY => ?_
  have hZn:Y n=_:=(hY ▸ Ya O5 _ (by omega):Y n=O5 n).trans hZn
  have hZ1:Y (n+1)=some ⟨false,69,8,1,Yb ⟨P.Kind,b' - r.1 - 1,P.Data,P.Ptrs,P.Code,P.Count,P.Segment,P.Double⟩⟩:=by rw [hY];exact Z9 _ _ _
  simp only [push_cast] at hZ1
  refine Zj ?_
  refine U0 Zc (by kernel_rfl) [.low,.plain,.plain,.plain,.plain,.pass,.bar] (fun t=>t=n) [0,1,2,3,4,5,6] [.low,.plain,.plain,.plain,.plain,.pass,.bar] [] (by kernel_rfl) rfl ?_
  simp only [push_cast,seval,Za,hi,hn1,hn2,hZn,hZ1]
  refine PCall.of (Za9 ho) ?_
  simp only [push_cast,seval,Za,hi,hn1,hn2,hZn,hZ1]
  refine ⟨fun t ht=>Ya _ _ (by omega),?_⟩
  refine Zmp A3 o.2.2.1 hm' r.1 [nw r.1 b' k u] ⟨o.1,by show r.1+1≤1000000;omega⟩ fun O6 n6 L6 A6 F6 => ?_
  simp only [push_cast,seval,Za,hi,hn1,hn2,hZn,hZ1]
  obtain ⟨k1,k2,k3⟩:=F6.keep hn1 (fun q=>q) ht0
  obtain ⟨l1,l2,l3⟩:=F6.keep hn2 (fun q=>q) ht1
  have hi:=A6.1.hi
  have hZn:=k1.trans hZn
  have hZ1:=l1.trans hZ1
  have hn1:=k2
  have hn2:=l2
  have ht0:=k3
  have ht1:=l3
  clear k1 k2 k3 l1 l2 l3
  refine Y8 fun hU6 => ?_
  refine Zj ?_
  refine U0 Zc (by kernel_rfl) [.low,.plain,.plain,.plain,.plain,.plain,.plain,.pass,.bar] (fun t=>t=n) [0,1,2,3,4,5,6,7,8] [.low,.plain,.plain,.plain,.plain,.plain,.plain,.pass,.bar] [] (by kernel_rfl) rfl ?_
  simp only [push_cast,seval,Za,hi,hn1,hn2,hZn,hZ1]
  refine PCall.of (Za9 (a0:=⟨3,r.1,0,0,0,0,hm',false⟩) (Ycb false o.1 (by omega) hm0.1 (by omega))) ?_
  simp only [push_cast,seval,Za,hi,hn1,hn2,hZn,hZ1]
  refine ⟨fun t ht=>Ya _ _ (by omega),?_⟩
  refine Zmp A6 (St.lays _ _ o.2.2.1 _) s p [fw hm' r.1 0] ⟨p0,by show p+1≤1000000;omega⟩ fun O9 n9 L9 A9 F9 => ?_
  simp only [push_cast,seval,Za,hi,hn1,hn2,hZn,hZ1]
  refine Y8 fun hU9 => ?_
  have n9:n≤n9:=Nat.le_trans F3.le (Nat.le_trans F6.le F9.le)
  refine Zp [12] (Zb Zc [] ?_)
  simp only [push_cast,seval,Za,hi,hn1,hn2,hZn,hZ1]
  refine Zu ?_
  try simp only [Zk,Zg]
  refine ⟨.val (.bool true),_,_,n9,⟨L9,F3.trans (F6.trans F9),by rw [ea];exact ⟨rfl,A9⟩⟩,?_⟩
  refine Yl (P:=Try.prog) (.inr rfl) hU9 [.val (.bool true)] n9 ?_
  simp only [push_cast,seval,Za,Try.results33]
 | none =>
  rw [hin] at ea
  refine Zp [1,2,4,5,6,9,13,14] (Zb Zc [] ?_)
  simp only [push_cast,seval,Za,hi,hn1,hn2,hZn,hZ1]
  refine (Z9t A2 hin).then ?_
  simp only [push_cast,seval,Za,hi,hn1,hn2,hZn,hZ1]
  refine Zp [1,2,4,5,6,9,13,14,45] (Zb Zc [] ?_)
  simp only [push_cast,seval,Za,hi,hn1,hn2,hZn,hZ1]
  refine Zs (t:=false) rfl (fun c15=>by cases c15) (fun c15 => ?_)
  refine Zw ?_
  try simp only [Zk,Zg]
  cases hg:Jj size σ 2 with
  | none =>
   rw [hg] at ea
   obtain ⟨ga,gb,O9,n9,L9,g5,F9⟩:=Zrs A2 hs hg
   refine Zp [1,2,4,5,6,9,15,16,17] (Zb Zc [] ?_)
   simp only [push_cast,seval,Za,hi,hn1,hn2,hZn,hZ1]
   refine g5.then ?_
   simp only [push_cast,seval,Za,hi,hn1,hn2,hZn,hZ1]
   refine Y8 fun hU9 => ?_
   have n9:n≤n9:=Nat.le_trans F2.le F9.le
   refine Zj ?_
   refine Zp [15,16,17,74] (Zb Zc [] ?_)
   simp only [push_cast,seval,Za,hi,hn1,hn2,hZn,hZ1]
   refine Zs (t:=false) rfl (fun c15=>by cases c15) (fun c15 => ?_)
   refine Zw ?_
   try simp only [Zk,Zg]
   refine Zp [12] (Zb Zc [] ?_)
   simp only [push_cast,seval,Za,hi,hn1,hn2,hZn,hZ1]
   refine Zu ?_
   try simp only [Zk,Zg]
   refine ⟨.val (.bool false),_,_,n9,⟨L9,F2.trans F9,by rw [ea];exact rfl⟩,?_⟩
   refine Yl (P:=Try.prog) (.inr rfl) hU9 [.val (.bool false)] n9 ?_
   simp only [push_cast,seval,Za,Try.results33]
  | some r =>
   rw [hg] at ea
   have o:=Jk hs hg
   obtain ⟨O5,n5,L5,g5,A5,F5⟩:=Zrt A2 hs hg
   refine Zp [1,2,4,5,6,9,15,16,17] (Zb Zc [] ?_)
   simp only [push_cast,seval,Za,hi,hn1,hn2,hZn,hZ1]
   refine g5.then ?_
   obtain ⟨k1,k2,k3⟩:=F5.keep hn1 (fun q=>q) ht0
   obtain ⟨l1,l2,l3⟩:=F5.keep hn2 (fun q=>q) ht1
   have hi:=A5.1.hi
   have hZn:=k1.trans hZn
   have hZ1:=l1.trans hZ1
   have hn1:=k2
   have hn2:=l2
   have ht0:=k3
   have ht1:=l3
   clear k1 k2 k3 l1 l2 l3
   simp only [push_cast,seval,Za,hi,hn1,hn2,hZn,hZ1]
   refine Y8 fun hU5 => ?_
   refine Zj ?_
   refine Zp [1,2,4,5,6,9,15,16,17,74] (Zb Zc [] ?_)
   simp only [push_cast,seval,Za,hi,hn1,hn2,hZn,hZ1]
   refine Zs (t:=true) rfl (fun c15 => ?_) (fun c15=>by cases c15)
   have hm1:r.1≤16:=by
    obtain ⟨y,hy,_⟩:=Jb o.2.2.2.2.2.2.1
    have:=Qr hy
    have:=o.2.2.2.2.1.h16
    omega
   refine Zj ?_
   refine U0 Zc (by kernel_rfl) [.low,.plain,.plain,.plain,.plain,.plain,.plain,.plain,.plain,.pass,.bar] (fun t=>t=n) [0,1,2,3,4,5,6,7,8,9,10] [.low,.plain,.plain,.plain,.plain,.plain,.plain,.plain,.plain,.pass,.bar] [] (by kernel_rfl) rfl ?_
   simp only [push_cast,seval,Za,hi,hn1,hn2,hZn,hZ1]
   refine PCall.of (Za9 (a0:=⟨3,b',0,0,0,0,hm',false⟩) (Ycb false hb.1 (by omega) hm0.1 (by omega))) ?_
   simp only [push_cast,seval,Za,hi,hn1,hn2,hZn,hZ1]
   refine PCall.of (Za9 e0) ?_
   simp only [push_cast,seval,Za,hi,hn1,hn2,hZn,hZ1]
   refine ⟨fun t ht=>Ya _ _ (by omega),?_⟩
   refine Zmp A5 o.2.2.2.2.1 r.1 r.2.1 [fw hm' b' 0,k+u * 4294967296] ⟨o.2.2.1,by show r.2.1+2≤1000000;omega⟩ fun O6 n6 L6 A6 F6 => ?_
   simp only [push_cast,seval,Za,hi,hn1,hn2,hZn,hZ1]
   obtain ⟨k1,k2,k3⟩:=F6.keep hn1 (fun q=>q) ht0
   obtain ⟨l1,l2,l3⟩:=F6.keep hn2 (fun q=>q) ht1
   have hi:=A6.1.hi
   have hZn:=k1.trans hZn
   have hZ1:=l1.trans hZ1
   have hn1:=k2
   have hn2:=l2
   have ht0:=k3
   have ht1:=l3
   clear k1 k2 k3 l1 l2 l3
   refine Y8 fun hU6 => ?_
   refine U0 Zc (by kernel_rfl) [.low,.plain,.plain,.plain,.plain,.plain,.plain,.pass,.bar] (fun t=>t=n) [0,1,2,3,4,5,6,7,8] [.low,.plain,.plain,.plain,.plain,.plain,.plain,.pass,.bar] [] (by kernel_rfl) rfl ?_
   simp only [push_cast,seval,Za,hi,hn1,hn2,hZn,hZ1]
   refine PCall.of (Za9 (a0:=⟨3,r.2.1,0,0,0,0,r.1,true⟩) (Ycb true o.2.2.1 (by omega) o.2.1 (by omega))) ?_
   simp only [push_cast,seval,Za,hi,hn1,hn2,hZn,hZ1]
   refine ⟨fun t ht=>Ya _ _ (by omega),?_⟩
   refine Zmp A6 (St.lays _ _ o.2.2.2.2.1 _) s p [fw r.1 r.2.1 1] ⟨p0,by show p+1≤1000000;omega⟩ fun O9 n9 L9 A9 F9 => ?_
   simp only [push_cast,seval,Za,hi,hn1,hn2,hZn,hZ1]
   refine Y8 fun hU9 => ?_
   have n9:n≤n9:=Nat.le_trans F2.le (Nat.le_trans F5.le (Nat.le_trans F6.le F9.le))
   refine Zp [12] (Zb Zc [] ?_)
   simp only [push_cast,seval,Za,hi,hn1,hn2,hZn,hZ1]
   refine Zu ?_
   try simp only [Zk,Zg]
   refine ⟨.val (.bool true),_,_,n9,⟨L9,F2.trans (F5.trans (F6.trans F9)),by rw [ea];exact ⟨rfl,A9⟩⟩,?_⟩
   refine Yl (P:=Try.prog) (.inr rfl) hU9 [.val (.bool true)] n9 ?_
   simp only [push_cast,seval,Za,Try.results33]
def PT (size most:Int) (f:Tr→Int→Int→SG→Option SG) (t:Tr):Prop:=∀ {O:Objs} {n i j:Nat} {L:List NR} {σ:SG} {s p:Int},AP size O n i j L σ→St size most σ→Yp σ.1 s p 1=true →
 GCalls Try.prog 19 [.agg [.ref i 0],.val (.int .i64 s),.val (.int .i64 p),.agg (Zf t)] O n (Z6k size i j O n L (f t s p σ))
theorem Z5p (f:Tr→Int→Int→SG→Option SG) (s p:Int) {ts:List Tr} {k:Int} {x:Tr} (h0:0≤k) (hx:Z6 ts k=some x) (σ:SG):Kl f s (p+k) (ts.drop k.toNat) σ=(f x s (p+k) σ).bind (Kl f s (p+(k+1)) (ts.drop (k+1).toNat)):=by
 have hl:=Qr hx
 unfold Z6 at hx
 rw [if_pos h0] at hx
 obtain ⟨hl2,e⟩:=List.getElem?_eq_some_iff.1 hx
 rw [List.drop_eq_getElem_cons hl2,Kl,e,show (k+1).toNat=k.toNat+1 by omega,show p+(k+1)=p+k+1 by omega]
theorem Zlw {O:Objs} {n i j:Nat} {L:List NR} {size most:Int} {σ:SG} {f:Tr→Int→Int→SG→Option SG} {ts:List Tr} {s p:Int} (h:AP size O n i j L σ) (hs:St size most σ) (hf:Zas size most f) (hk:∀ t∈ts,PT size most f t) (hp:0≤p∧p+(ts.length:Int)≤1000000) (hb:∀ q,p≤q→q < p+(ts.length:Int)→Yp σ.1 s q 1=true) :
  GCalls Try.prog 51 [.agg [.ref i 0],.val (.int .i64 s),.val (.int .i64 p),.sl ts.length (fl Zi ts)] O n (Z6k size i j O n L (Kl f s p ts σ)):=by
 refine Zld Zc Try.call51 Try.func51 rfl (Nat.le_of_ble_eq_true rfl) fun hU => ?_
 have hN0:O n=none:=hU.fresh _ (Nat.le_refl _)
 have hN:∀ k,O (n+k)=none:=fun k=>hU.fresh _ (Nat.le_add_right _ _)
 have hi0:=h.1.hi
 have hi:i < n+1:=by omega
 have hn1:n < n+1:=Nat.lt_succ_self n
 show W _ _ _ _ ⟨27,[],[(0,.agg [.ref i 0]),(1,.val (.int .i64 s)),(2,.val (.int .i64 p)),(3,.sl ts.length (fl Zi ts))]⟩ (Zy O n []) _
 rw [Kj hU.fresh]
 refine Zp [1,2,3,4] (Zb Zc [] ?_)
 simp only [push_cast,seval,Za,hi0,hN0,hN]
 refine Zj ?_
 refine Zp [1,2,4,11,12,13] (Zb Zc [] ?_)
 simp only [push_cast,seval,Za,hi,hn1]
 refine Yn ?_
 have A0:=h.own (some ⟨false,48,1,1,[.ref i 0]⟩)
 have F0:=Fr.own (X:=NoX) (i:=i) (j:=j) (O:=O) (n:=n) L (some ⟨false,48,1,1,[.ref i 0]⟩)
 obtain ⟨O0,hO0⟩:∃ O0,O0=O.upd n (some ⟨false,48,1,1,[.ref i 0]⟩):=⟨_,rfl⟩
 have hOn:O0 n=some ⟨false,48,1,1,[.ref i 0]⟩:=by rw [hO0];exact Z9 _ _ _
 rw [← hO0] at A0 F0 ⊢
 refine Zp6 (S:=Int×Objs×Nat×List NR×SG) (fun q=>⟨27,[],[(1,.val (.int .i64 s)),(2,.val (.int .i64 p)),(4,.ref n 0),(11,.sl ts.length (fl Zi ts)),(12,.val (.int .i64 (ts.length:Int))),(13,.val (.int .i64 q.1))]⟩) (fun q=>q.2.1) (fun q=>q.2.2.1)
  (fun q=>(0≤q.1∧q.1≤(ts.length:Int))∧AP size q.2.1 q.2.2.1 i j q.2.2.2.1 q.2.2.2.2∧St size most q.2.2.2.2∧Fr NoX i j O n L q.2.1 q.2.2.1 q.2.2.2.1∧q.2.1 n=some ⟨false,48,1,1,[.ref i 0]⟩∧n < q.2.2.1∧¬ ter i j q.2.2.2.1 n∧Ex σ q.2.2.2.2∧Kl f s p ts σ=Kl f s (p+q.1) (ts.drop q.1.toNat) q.2.2.2.2)
  (fun q=>((ts.length:Int) - q.1).toNat) (fun q hq=>hq.2.2.2.1.le) (fun q hq => ?_) (0,O0,n+1,L,σ) ⟨⟨Int.le_refl _,by omega⟩,A0,hs,F0,hOn,hn1,fun q=>by have:=h.1.ter_lt q;omega,Ex.refl _,by simp⟩
 obtain ⟨k,Y,m,M,τ⟩:=q
 obtain ⟨⟨k0,k1⟩,g1,g2,g3,g4,g5,g6,g7,g8⟩:=hq
 dsimp only at k0 k1 g1 g2 g3 g4 g5 g6 g7 g8 ⊢
 have hi:=g1.1.hi
 refine Y8 fun hUY => ?_
 have hM0:Y m=none:=hUY.fresh _ (Nat.le_refl _)
 have hM:∀ k,Y (m+k)=none:=fun k=>hUY.fresh _ (Nat.le_add_right _ _)
 refine Zj ?_
 refine Zb Zc [] ?_
 simp only [push_cast,seval,Za,hi,g5]
 refine Zj ?_
 refine Zs (t:=decide (k < (ts.length:Int))) rfl (fun c => ?_) (fun c => ?_)
 ·have c1:k < (ts.length:Int):=of_decide_eq_true c
  refine Zw ?_
  try simp only [Zk,Zg]
  refine Zds (E':=⟨27,[],[(1,.val (.int .i64 s)),(2,.val (.int .i64 p)),(4,.ref n 0),(11,.sl ts.length (fl Zi ts)),(12,.val (.int .i64 (ts.length:Int))),(13,.val (.int .i64 k))]⟩) (Ka hUY g3.le rfl ?_) ?_
  ·simp only [push_cast,seval,Za,hi,g5]
  obtain ⟨x,hx⟩:=Zip (L:=ts) k0 c1
  obtain ⟨x5,hx5,ax5,bx5,cx5,_⟩:=bE (f:=Zi) (K:=fun y=>some y) (r:=x) Uo (fun _=>rfl) (by decide) (by rw [hx];rfl)
  obtain rfl:x5=x:=Option.some.inj (hx5.symm.trans hx)
  have hstep:=Z5p f s p k0 hx τ
  have hlen:=Qr hx
  refine Zj ?_
  refine Yn ?_
  refine Zp [1,2,4,9,10,11,12,13] (Zb Zc [] ?_)
  simp only [push_cast,Nat.reduceAdd,Nat.reduceSub,Nat.reduceMul,Nat.reduceLeDiff,Nat.reduceLT,Nat.reduceEqDiff,↓reduceIte,reduceCtorEq,Int.reduceBEq,Int.reduceBNe,Nat.reduceBEq,Int.reduceLE,Int.reduceLT,Int.reduceEq,Int.reduceNe,Int.reduceNeg,Nat.reduceDiv,Nat.reduceMod,Nat.reducePow,Za,hi,g5,ax5,bx5,cx5,hM0,hM]
  refine Y8 fun hUX => ?_
  have A3:=g1.own (some ⟨false,25,3,1,Zf x5⟩)
  have F3:=g3.trans (Fr.own M (some ⟨false,25,3,1,Zf x5⟩))
  obtain ⟨X,hX⟩:∃ X,X=Y.upd m (some ⟨false,25,3,1,Zf x5⟩):=⟨_,rfl⟩
  have hXm:X m=some ⟨false,25,3,1,Zf x5⟩:=by rw [hX];exact Z9 _ _ _
  have hXn:X n=some ⟨false,48,1,1,[.ref i 0]⟩:=by rw [hX,Ya _ _ (by omega)];exact g4
  have hX2:=hX
  simp only [push_cast] at hX2 hXm
  rw [← hX] at A3 F3
  rw [← hX2] at hUX ⊢
  have hi1:i < m+1:=by omega
  have hm1:m < m+1:=Nat.lt_succ_self m
  have hnm:n < m+1:=by omega
  have hwp:IntKind.i64.wrap (p+k)=p+k:=Zcv (by omega)
  refine Zp [8,1,2,4,11,12,13,25] (Zb Zc [] ?_)
  simp only [push_cast,seval,Za,hi1,hm1,hnm,hXm,hXn,hwp]
  refine (hk x5 (Xe hx) (s:=s) (p:=p+k) A3 g2 (g7 _ _ _ (hb (p+k) (by omega) (by omega)))).mono fun r O' n' hE => ?_
  obtain ⟨L',F4,hres⟩:=hE
  cases e:f x5 s (p+k) τ with
  | none =>
   rw [e] at hres hstep
   subst hres
   simp only [push_cast,seval,Za]
   refine Y8 fun hU9 => ?_
   refine Zs (t:=true) rfl (fun c15 => ?_) (fun c15=>by cases c15)
   refine Zp [8] (Zb Zc [] ?_)
   simp only [push_cast,seval,Za]
   refine Zu ?_
   try simp only [Zk,Zg]
   refine .inr ⟨(fun h=>by cases h),?_⟩
   have n9:n≤n':=Nat.le_trans F3.le F4.le
   show Z2n _ _ _ _ .ret _ _ _
   refine ⟨.val (.bool false),O',n',n9,⟨L',F3.trans F4,by rw [g8,hstep];exact rfl⟩,?_⟩
   refine Yl (P:=Try.prog) (.inr rfl) hU9 [.val (.bool false)] n9 ?_
   simp only [push_cast,seval,Za,Try.results51]
  | some ρ =>
   rw [e] at hres hstep
   obtain ⟨rfl,A4⟩:=hres
   obtain ⟨t1,t2⟩:=(hf x5 s (p+k) τ g2).1 ρ e
   obtain ⟨k1',k2',k3'⟩:=F4.keep hnm (fun q=>q) g6
   simp only [push_cast,seval,Za]
   refine Y8 fun hU9 => ?_
   refine Zs (t:=false) rfl (fun c15=>by cases c15) (fun c15 => ?_)
   refine Zw ?_
   try simp only [Zk,Zg]
   have hi9:=A4.1.hi
   refine Zb Zc [] ?_
   have hwk:IntKind.i64.wrap (k+1)=k+1:=Zcv (by omega)
   simp only [push_cast,seval,Za,hi9,k2',hwk]
   refine .inl ⟨rfl,(k+1,O',n',L',ρ),⟨⟨by omega,by omega⟩,A4,t1,F3.trans F4,k1'.trans hXn,k2',k3',g7.trans t2,?_⟩,by show ((ts.length:Int) - (k+1)).toNat < ((ts.length:Int) - k).toNat;omega,Ka hU9 (Nat.le_trans F3.le F4.le) rfl ?_⟩
   ·show Kl f s p ts σ=Kl f s (p+(k+1)) (ts.drop (k+1).toNat) ρ
    rw [g8,hstep];rfl
   simp only [push_cast,seval,Za,hi9,k2']
 have c1:¬ k < (ts.length:Int):=of_decide_eq_false c
 refine Jt ?_
 try simp only [Zk,Zg,↓reduceIte,Nat.reduceEqDiff]
 refine .inr ⟨(fun h=>by cases h),?_⟩
 have ek:ts.drop k.toNat=[]:=List.drop_eq_nil_of_le (by omega)
 rw [ek] at g8
 try simp only [Zk,Zg,↓reduceIte,Nat.reduceEqDiff]
 refine Zp [8] (Zb Zc [] ?_)
 simp only [push_cast,seval,Za]
 refine Zu ?_
 try simp only [Zk,Zg]
 show Z2n _ _ _ _ .ret _ _ _
 refine ⟨.val (.bool true),Y,m,g3.le,⟨M,g3,by rw [g8];exact ⟨rfl,g1⟩⟩,?_⟩
 refine Yl (P:=Try.prog) (.inr rfl) hUY [.val (.bool true)] g3.le ?_
 simp only [push_cast,seval,Za,Try.results51]
section
variable {P:Program} {ba n:Nat} {x y:Code} {Q:GQ} {E:Env} {O:Objs}
def JI (ba:Nat) (E':Env) (Inv:Objs→Nat→Prop) (Q:GQ):GQ:=fun e E1 O1 n1=>(e = .normal∧∃ Z m,Inv Z m∧Fit2 ba E1 O1 n1 E' Z m)∨(e ≠ .normal∧Q e E1 O1 n1)
theorem Fit2.und {E':Env} {O':Objs} {n':Nat} (h:Und O n→Fit2 ba E O n E' O' n'):Fit2 ba E O n E' O' n':=fun w m a hM hE=>h ⟨hM.fresh,fun i o hi=>by obtain ⟨vs,hv,_⟩:=hM.obj i o hi;exact Kh _ _ hv⟩ w m a hM hE
theorem Z6n (E':Env) (Inv:Objs→Nat→Prop) (h:W P ba x (JI ba E' Inv Q) E O n) (k:∀ Z m,Inv Z m→W P ba y Q E' Z m):W P ba (.seq x y) Q E O n:=fun hb w m a hM hE=>by
 refine wp_seq (wp_mono (h hb w m a hM hE) fun e a' w' ⟨E2,O2,n2,m2,h1,h2,h3,h4⟩ => ?_)
 rcases h1 with ⟨rfl,Z,mm,hI,hF⟩ | ⟨hne,hq⟩
 ·obtain ⟨m3,g1,g2,g3⟩:=hF w' m2 a' h2 h3
  exact (k Z mm hI).then g1 g2 (h4.transB g3)
 cases e with
 | normal=>exact absurd rfl hne
 | exit id=>exact ⟨E2,O2,n2,m2,hq,h2,h3,h4⟩
 | goto l=>exact ⟨E2,O2,n2,m2,hq,h2,h3,h4⟩
 | ret=>exact ⟨E2,O2,n2,m2,hq,h2,h3,h4⟩
 | panic ch=>exact ⟨E2,O2,n2,m2,hq,h2,h3,h4⟩
 | outgrown=>exact ⟨E2,O2,n2,m2,hq,h2,h3,h4⟩
end
theorem Z2i (s m p:Int) {ts:List Tr} {k:Int} {x:Tr} (h0:0≤k) (hx:Z6 ts k=some x) (A:List (List Int)):Qy s m (p+k * m) (ts.drop k.toNat) A=Qy s m (p+(k+1) * m) (ts.drop (k+1).toNat) (Y0 A s (p+k * m) x.Words):=by
 unfold Z6 at hx
 rw [if_pos h0] at hx
 obtain ⟨hl2,e⟩:=List.getElem?_eq_some_iff.1 hx
 rw [List.drop_eq_getElem_cons hl2,Qy,e,show (k+1).toNat=k.toNat+1 by omega,show p+(k+1) * m=p+k * m+m by rw [Int.add_mul];omega]
theorem Z3d (f:Tr→Int→Int→SG→Option SG) (s m w p:Int) {ts:List Tr} {k:Int} {x:Tr} (h0:0≤k) (hx:Z6 ts k=some x) (σ:SG):Gl f s m w (p+k * m) (ts.drop k.toNat) σ=(Kl f s (p+k * m+w) x.Kids σ).bind (Gl f s m w (p+(k+1) * m) (ts.drop (k+1).toNat)):=by
 unfold Z6 at hx
 rw [if_pos h0] at hx
 obtain ⟨hl2,e⟩:=List.getElem?_eq_some_iff.1 hx
 rw [List.drop_eq_getElem_cons hl2,Gl,e,show (k+1).toNat=k.toNat+1 by omega,show p+(k+1) * m=p+k * m+m by rw [Int.add_mul];omega]
theorem Z7v {k n m:Int} (h0:0≤k) (h:k < n) (hm:0≤m):0≤k * m∧k * m+m≤n * m:=by
 have a:0≤k * m:=Int.mul_nonneg h0 hm
 have b:(k+1) * m≤n * m:=Int.mul_le_mul_of_nonneg_right (by omega) hm
 rw [Int.add_mul] at b
 omega
theorem Yci {t:Tr} {d:Nat} (hF:Fine t d) (h9:t.Kind=9) (hn:¬ t.Kids=[]):Gp (⟨1,(t.Kids.length:Int),(fr t.Kids).1,(fr t.Kids).2,0,0,0,false⟩:Zx)=some (Zdn t):=by
 obtain ⟨a1,a2,w0,w1,k0,k1,ak⟩:=Zun hF h9
 have p:=hF.pt
 have pk:=Ze2 t
 have hl:0 < t.Kids.length:=List.length_pos_iff.2 hn
 unfold Gp
 rw [Yct (by omega) (by omega) (by omega) (by omega) (by omega) (by omega) (by omega)]
 unfold Zdn
 dsimp only [Option.bind_some]
 exact congrArg some (by omega)
theorem Z3p {O:Objs} {n i j:Nat} {L:List NR} {size most:Int} {σ:SG} {f:Tr→Int→Int→SG→Option SG} {t:Tr} {d:Nat} {s p:Int} (h:AP size O n i j L σ) (hs:St size most σ) (hf:Zas size most f) (hF:Fine t d) (h9:t.Kind=9) (hk:∀ u∈t.Kids,∀ x∈u.Kids,PT size most f x) (hp:0≤p∧p+pwd t≤131072) (hb:Yp σ.1 s p (pwd t)=true) :
  GCalls Try.prog 52 [.agg [.ref i 0],.val (.int .i64 s),.val (.int .i64 p),.agg (Zf t)] O n (Z6k size i j O n L (Gl f s ((fr t.Kids).1+(fr t.Kids).2) (fr t.Kids).1 (p+1) t.Kids (Qy s ((fr t.Kids).1+(fr t.Kids).2) (p+1) t.Kids (if t.Kids=[] then σ.1 else Y4 σ.1 s p (Zdn t)),σ.2))):=by
 obtain ⟨a1,a2,w0,w1,k0,k1,ak⟩:=Zun hF h9
 have pp:=hF.pt
 have pk:=Ze2 t
 have one:∀ q,p≤q→q < p+pwd t→Yp σ.1 s q 1=true:=fun q x y=>Gx hb x y
 rw [Zg8 h9] at hp one
 have hframe:=Z0u (t:=t) (by omega)
 obtain ⟨W,hW⟩:∃ W,W=(fr t.Kids).1:=⟨_,rfl⟩
 obtain ⟨K,hK⟩:∃ K,K=(fr t.Kids).2:=⟨_,rfl⟩
 have etag:=fun hn=>Yci hF h9 hn
 have hfr:fr t.Kids=(W,K):=Prod.ext hW.symm hK.symm
 rw [hfr] at hframe etag
 simp only [hfr] at a1 a2 w0 w1 k0 k1 ak hp one ⊢
 clear hW hK
 have hWK:IntKind.i64.wrap (W+K)=W+K:=Zcv (by omega)
 have hp1:IntKind.i64.wrap (p+1)=p+1:=Zcv (by omega)
 refine Zld Zc Try.call52 Try.func52 rfl (Nat.le_of_ble_eq_true rfl) fun hU => ?_
 have hN0:O n=none:=hU.fresh _ (Nat.le_refl _)
 have hN:∀ k,O (n+k)=none:=fun k=>hU.fresh _ (Nat.le_add_right _ _)
 have hi0:=h.1.hi
 have hi:i < n+2:=by omega
 have hn1:n < n+2:=by omega
 have hn2:n+1 < n+2:=by omega
 show Go.Proofs.Ytbkhdkfjabiocaa.W _ _ _ _ ⟨83,[],[(0,.agg [.ref i 0]),(1,.val (.int .i64 s)),(2,.val (.int .i64 p)),(3,.agg (Zf t))]⟩ (Zy O n []) _
 rw [Kj hU.fresh]
 refine Zp [1,2,4,7] (Zb Zc [] ?_)
 simp only [push_cast,seval,Za,hi0,hN0,hN]
 refine Y8 fun hUZ => ?_
 have A1:=(h.own (some ⟨false,48,1,1,[.ref i 0]⟩)).own (some ⟨false,25,3,1,Zf t⟩)
 have F1:=(Fr.own (X:=NoX) (i:=i) (j:=j) (O:=O) (n:=n) L (some ⟨false,48,1,1,[.ref i 0]⟩)).trans (Fr.own L (some ⟨false,25,3,1,Zf t⟩))
 simp only [push_cast] at A1 F1
 generalize hZ:(O.upd n (some ⟨false,48,1,1,[.ref i 0]⟩)).upd (n+1) _=Z at hUZ A1 F1 ⊢
 have hZn:Z n=some ⟨false,48,1,1,[.ref i 0]⟩:=by rw [← hZ,Ya _ _ (by omega),Z9]
 have hZ1:Z (n+1)=some ⟨false,25,3,1,Zf t⟩:=by rw [← hZ,Z9];rfl
 simp only [push_cast] at hZ1
 have A2:AP size Z (n+2) i j L σ:=A1
 have F2:Fr NoX i j O n L Z (n+2) L:=F1
 clear A1 F1
 have ht0:¬ ter i j L n:=fun q=>by have:=h.1.ter_lt q;omega
 have ht1:¬ ter i j L (n+1):=fun q=>by have:=h.1.ter_lt q;omega
 refine Zp [1,2,4,7,9,10] (Zb Zc [] ?_)
 simp only [push_cast,seval,Za,hi,hn1,hn2,hZn,hZ1]
 refine (Zo9 hframe).then ?_
 simp only [push_cast,seval,Za,hi,hn1,hn2,hZn,hZ1]
 obtain ⟨A0,hA0⟩:∃ A0,A0=(if t.Kids=[] then σ.1 else Y4 σ.1 s p (Zdn t)):=⟨_,rfl⟩
 have hs0:St size most (A0,σ.2):=by
  rw [hA0];split
  ·exact hs
  exact hs.put _ _ _
 have he0:Ex σ (A0,σ.2):=by
  rw [hA0];split
  ·exact Ex.refl _
  exact Ex.put _ _ _ _
 rw [← hA0]
 refine Z6n ⟨83,[],[(1,.val (.int .i64 s)),(2,.val (.int .i64 p)),(4,.ref n 0),(7,.ref (n+1) 0),(9,.val (.int .i64 W)),(10,.val (.int .i64 K))]⟩ (fun Z m=>∃ M,AP size Z m i j M (A0,σ.2)∧Fr NoX i j O n L Z m M∧Z n=some ⟨false,48,1,1,[.ref i 0]⟩∧Z (n+1)=some ⟨false,25,3,1,Zf t⟩∧n+1 < m∧¬ ter i j M n∧¬ ter i j M (n+1)) ?_ ?_
 ·refine Zp [1,2,4,7,9,10,23] (Zb Zc [] ?_)
  simp only [push_cast,seval,Za,hi,hn1,hn2,hZn,hZ1]
  refine Zs (t:=decide (0 < (t.Kids.length:Int))) rfl (fun c => ?_) (fun c => ?_)
  ·have c1:0 < (t.Kids.length:Int):=of_decide_eq_true c
   have hn:¬ t.Kids=[]:=List.length_pos_iff.1 (by omega)
   rw [if_neg hn] at hA0
   refine U0 Zc (by kernel_rfl) [.low,.plain,.plain,.plain,.plain,.plain,.plain,.plain,.plain,.plain,.pass,.bar] (fun t=>t=n) [0,1,2,3,4,5,6,7,8,9,10,11] [.low,.plain,.plain,.plain,.plain,.plain,.plain,.plain,.plain,.plain,.pass,.bar] [] (by kernel_rfl) rfl ?_
   simp only [push_cast,seval,Za,hi,hn1,hn2,hZn,hZ1]
   refine PCall.of (Za9 (etag hn)) ?_
   simp only [push_cast,seval,Za,hi,hn1,hn2,hZn,hZ1]
   refine ⟨fun t ht=>Ya _ _ (by omega),?_⟩
   refine Zmp A2 hs s p [Zdn t] ⟨hp.1,by show p+1≤1000000;omega⟩ fun O9 n9 L9 A9 F9 => ?_
   simp only [push_cast,seval,Za,hi,hn1,hn2,hZn,hZ1]
   obtain ⟨q1,q2,q3⟩:=F9.keep hn1 (fun q=>q) ht0
   obtain ⟨l1,l2,l3⟩:=F9.keep hn2 (fun q=>q) ht1
   refine .inl ⟨rfl,O9,n9,⟨L9,?_,F2.trans F9,q1.trans hZn,l1.trans hZ1,l2,q3,l3⟩,Fit2.und fun hU9=>Ka hU9 (Nat.le_trans F2.le F9.le) rfl ?_⟩
   ·rw [hA0];exact A9
   have hi:=A9.1.hi
   simp only [push_cast,seval,Za,hi,q2,l2]
  have c1:¬ 0 < (t.Kids.length:Int):=of_decide_eq_false c
  have hn:t.Kids=[]:=List.length_eq_zero_iff.1 (by omega)
  rw [if_pos hn] at hA0
  refine Zw ?_
  refine .inl ⟨rfl,Z,n+2,⟨L,?_,F2,hZn,hZ1,hn2,ht0,ht1⟩,Ka hUZ F2.le rfl ?_⟩
  ·rw [hA0];exact A2
  simp only [push_cast,seval,Za,hi,hn1,hn2]
 intro Z m hI
 obtain ⟨M,A2,F2,hZn,hZ1,hn2,ht0,ht1⟩:=hI
 have hi:=A2.1.hi
 have hn1:n < m:=by omega
 simp only [push_cast] at hZ1
 refine Zp [1,2,4,7,9,10] (Zb Zc [] ?_)
 simp only [push_cast,seval,Za,hi,hn1,hn2,hZn,hZ1,hp1]
 obtain ⟨A9,hA9⟩:∃ A9,A9=Qy s (W+K) (p+1) t.Kids A0:=⟨_,rfl⟩
 have hs9:St size most (A9,σ.2):=by rw [hA9];exact St.words _ _ _ _ hs0
 have he9:Ex σ (A9,σ.2):=by rw [hA9];exact he0.trans (Ex.words _ _ _ _ _)
 rw [← hA9]
 refine Z6n ⟨83,[],[(1,.val (.int .i64 s)),(2,.val (.int .i64 (p+1))),(4,.ref n 0),(7,.ref (n+1) 0),(9,.val (.int .i64 W)),(10,.val (.int .i64 K))]⟩ (fun Z m=>∃ M,AP size Z m i j M (A9,σ.2)∧Fr NoX i j O n L Z m M∧Z n=some ⟨false,48,1,1,[.ref i 0]⟩∧Z (n+1)=some ⟨false,25,3,1,Zf t⟩∧n+1 < m∧¬ ter i j M n∧¬ ter i j M (n+1)) ?_ ?_
 ·refine Zp [1,2,4,7,9,10,39,40,41] (Zb Zc [] ?_)
  simp only [push_cast,seval,Za,hi,hn1,hn2,hZn,hZ1]
  refine Yn ?_
  refine Zp6 (S:=Int×Objs×Nat×List NR×List (List Int)) (fun q=>⟨83,[],[(1,.val (.int .i64 s)),(2,.val (.int .i64 (p+1))),(4,.ref n 0),(7,.ref (n+1) 0),(9,.val (.int .i64 W)),(10,.val (.int .i64 K)),(39,.sl t.Kids.length (fl Zi t.Kids)),(40,.val (.int .i64 (t.Kids.length:Int))),(41,.val (.int .i64 q.1))]⟩) (fun q=>q.2.1) (fun q=>q.2.2.1)
   (fun q=>(0≤q.1∧q.1≤(t.Kids.length:Int))∧AP size q.2.1 q.2.2.1 i j q.2.2.2.1 (q.2.2.2.2,σ.2)∧St size most (q.2.2.2.2,σ.2)∧Fr NoX i j O n L q.2.1 q.2.2.1 q.2.2.2.1∧(q.2.1 n=some ⟨false,48,1,1,[.ref i 0]⟩∧q.2.1 (n+1)=some ⟨false,25,3,1,Zf t⟩∧n+1 < q.2.2.1∧¬ ter i j q.2.2.2.1 n∧¬ ter i j q.2.2.2.1 (n+1))∧A9=Qy s (W+K) (p+1+q.1 * (W+K)) (t.Kids.drop q.1.toNat) q.2.2.2.2)
   (fun q=>((t.Kids.length:Int) - q.1).toNat) (fun q hq=>hq.2.2.2.1.le) (fun q hq => ?_) (0,Z,m,M,A0) ⟨⟨Int.le_refl _,by omega⟩,A2,hs0,F2,⟨hZn,hZ1,hn2,ht0,ht1⟩,by simpa using hA9⟩
  obtain ⟨k,Y,m,M,A⟩:=q
  obtain ⟨⟨k0',k1'⟩,g1,g2,g3,⟨hZn,hZ1,hn2,ht0,ht1⟩,g8⟩:=hq
  dsimp only at k0' k1' g1 g2 g3 hZn hZ1 hn2 ht0 ht1 g8 ⊢
  have hi:=g1.1.hi
  have hn1:n < m:=by omega
  refine Y8 fun hUY => ?_
  have hM0:Y m=none:=hUY.fresh _ (Nat.le_refl _)
  have hM:∀ k,Y (m+k)=none:=fun k=>hUY.fresh _ (Nat.le_add_right _ _)
  refine Zj ?_
  refine Zb Zc [] ?_
  simp only [push_cast,seval,Za,hi,hn1,hn2]
  refine Zj ?_
  refine Zs (t:=decide (k < (t.Kids.length:Int))) rfl (fun c => ?_) (fun c => ?_)
  ·have c1:k < (t.Kids.length:Int):=of_decide_eq_true c
   refine Zw ?_
   try simp only [Zk,Zg]
   refine Zds (E':=⟨83,[],[(1,.val (.int .i64 s)),(2,.val (.int .i64 (p+1))),(4,.ref n 0),(7,.ref (n+1) 0),(9,.val (.int .i64 W)),(10,.val (.int .i64 K)),(39,.sl t.Kids.length (fl Zi t.Kids)),(40,.val (.int .i64 (t.Kids.length:Int))),(41,.val (.int .i64 k))]⟩) (Ka hUY g3.le rfl ?_) ?_
   ·simp only [push_cast,seval,Za,hi,hn1,hn2]
   obtain ⟨x,hx⟩:=Zip (L:=t.Kids) k0' c1
   obtain ⟨x5,hx5,ax5,bx5,cx5,_⟩:=bE (f:=Zi) (K:=fun y=>some y) (r:=x) Uo (fun _=>rfl) (by decide) (by rw [hx];rfl)
   obtain rfl:x5=x:=Option.some.inj (hx5.symm.trans hx)
   have hstep:=Z2i s (W+K) (p+1) k0' hx A
   have hmul:=Z7v k0' c1 (m:=W+K) (by omega)
   have hax:=ak x5 (Xe hx)
   refine Zj ?_
   refine Yn ?_
   refine Zp [1,2,4,7,9,10,11,12,39,40,41] (Zb Zc [] ?_)
   simp only [push_cast,Nat.reduceAdd,Nat.reduceSub,Nat.reduceMul,Nat.reduceLeDiff,Nat.reduceLT,Nat.reduceEqDiff,↓reduceIte,reduceCtorEq,Int.reduceBEq,Int.reduceBNe,Nat.reduceBEq,Int.reduceLE,Int.reduceLT,Int.reduceEq,Int.reduceNe,Int.reduceNeg,Nat.reduceDiv,Nat.reduceMod,Nat.reducePow,Za,hi,hn1,hn2,ax5,bx5,cx5,hM0,hM]
   refine Y8 fun hUX => ?_
   have A3:=g1.own (some ⟨false,25,3,1,Zf x5⟩)
   have F3:=g3.trans (Fr.own M (some ⟨false,25,3,1,Zf x5⟩))
   obtain ⟨X,hX⟩:∃ X,X=Y.upd m (some ⟨false,25,3,1,Zf x5⟩):=⟨_,rfl⟩
   have hXm:X m=some ⟨false,25,3,1,Zf x5⟩:=by rw [hX];exact Z9 _ _ _
   have hXn:X n=some ⟨false,48,1,1,[.ref i 0]⟩:=by rw [hX,Ya _ _ (by omega)];exact hZn
   have hX1:X (n+1)=some ⟨false,25,3,1,Zf t⟩:=by rw [hX,Ya _ _ (by omega)];exact hZ1
   have hX2:=hX
   simp only [push_cast] at hX2 hXm
   rw [← hX] at A3 F3
   rw [← hX2] at hUX ⊢
   have hi1:i < m+1:=by omega
   have hm1:m < m+1:=Nat.lt_succ_self m
   have hnm:n < m+1:=by omega
   have hnm1:n+1 < m+1:=by omega
   have e1:IntKind.i64.wrap (k * (W+K))=k * (W+K):=Zcv (by omega)
   have e2:IntKind.i64.wrap (p+1+k * (W+K))=p+1+k * (W+K):=Zcv (by omega)
   refine Zb Zc [] ?_
   simp only [push_cast,seval,Za,hi1,hm1,hnm,hXm,hXn,hWK,e1,e2]
   refine Z3f A3 g2 s (p+1+k * (W+K)) x5.Words ⟨by omega,by omega⟩ fun O9 n9 L9 A9' F9 => ?_
   obtain ⟨q1,q2,q3⟩:=F9.keep hnm (fun q=>q) ht0
   obtain ⟨l1,l2,l3⟩:=F9.keep hnm1 (fun q=>q) ht1
   simp only [push_cast,seval,Za]
   refine Y8 fun hU9 => ?_
   have hi9:=A9'.1.hi
   refine Zb Zc [] ?_
   have hwk:IntKind.i64.wrap (k+1)=k+1:=Zcv (by omega)
   simp only [push_cast,seval,Za,hi9,q2,l2,hwk]
   refine .inl ⟨rfl,(k+1,O9,n9,L9,Y0 A s (p+1+k * (W+K)) x5.Words),⟨⟨by omega,by omega⟩,A9',St.lays s _ g2 _,F3.trans F9,⟨q1.trans hXn,l1.trans hX1,l2,q3,l3⟩,?_⟩,by show ((t.Kids.length:Int) - (k+1)).toNat < ((t.Kids.length:Int) - k).toNat;omega,Ka hU9 (Nat.le_trans F3.le F9.le) rfl ?_⟩
   ·show A9=Qy s (W+K) (p+1+(k+1) * (W+K)) (t.Kids.drop (k+1).toNat) _
    rw [g8,hstep]
   simp only [push_cast,seval,Za,hi9,q2,l2]
  have c1:¬ k < (t.Kids.length:Int):=of_decide_eq_false c
  refine Jt ?_
  try simp only [Zk,Zg,↓reduceIte,Nat.reduceEqDiff]
  refine .inr ⟨(fun h=>by cases h),?_⟩
  have ek:t.Kids.drop k.toNat=[]:=List.drop_eq_nil_of_le (by omega)
  rw [ek] at g8
  try simp only [Zk,Zg,↓reduceIte,Nat.reduceEqDiff]
  refine .inl ⟨rfl,Y,m,⟨M,?_,g3,hZn,hZ1,hn2,ht0,ht1⟩,Ka hUY g3.le rfl ?_⟩
  ·rw [g8];exact g1
  simp only [push_cast,seval,Za,hi,hn1,hn2]
 clear hZn hZ1 hn2 ht0 ht1 A2 F2 hi hn1
 clear M
 intro Z m hI
 obtain ⟨M,A2,F2,hZn,hZ1,hn2,ht0,ht1⟩:=hI
 have hi:=A2.1.hi
 have hn1:n < m:=by omega
 simp only [push_cast] at hZ1
 have hkT:∀ u∈t.Kids,(u.Kids.length:Int)≤K:=fun u hu=>(ak u hu).2
 refine Zj ?_
 refine Zp [1,2,4,7,9,10,60,61,62] (Zb Zc [] ?_)
 simp only [push_cast,seval,Za,hi,hn1,hn2,hZn,hZ1]
 refine Yn ?_
 refine Zp6 (S:=Int×Objs×Nat×List NR×SG) (fun q=>⟨83,[],[(1,.val (.int .i64 s)),(2,.val (.int .i64 (p+1))),(4,.ref n 0),(7,.ref (n+1) 0),(9,.val (.int .i64 W)),(10,.val (.int .i64 K)),(60,.sl t.Kids.length (fl Zi t.Kids)),(61,.val (.int .i64 (t.Kids.length:Int))),(62,.val (.int .i64 q.1))]⟩) (fun q=>q.2.1) (fun q=>q.2.2.1)
  (fun q=>(0≤q.1∧q.1≤(t.Kids.length:Int))∧AP size q.2.1 q.2.2.1 i j q.2.2.2.1 q.2.2.2.2∧St size most q.2.2.2.2∧Fr NoX i j O n L q.2.1 q.2.2.1 q.2.2.2.1∧(q.2.1 n=some ⟨false,48,1,1,[.ref i 0]⟩∧q.2.1 (n+1)=some ⟨false,25,3,1,Zf t⟩∧n+1 < q.2.2.1∧¬ ter i j q.2.2.2.1 n∧¬ ter i j q.2.2.2.1 (n+1))∧Ex σ q.2.2.2.2∧Gl f s (W+K) W (p+1) t.Kids (A9,σ.2)=Gl f s (W+K) W (p+1+q.1 * (W+K)) (t.Kids.drop q.1.toNat) q.2.2.2.2)
  (fun q=>((t.Kids.length:Int) - q.1).toNat) (fun q hq=>hq.2.2.2.1.le) (fun q hq => ?_) (0,Z,m,M,A9,σ.2) ⟨⟨Int.le_refl _,by omega⟩,A2,hs9,F2,⟨hZn,hZ1,hn2,ht0,ht1⟩,he9,by simp⟩
 obtain ⟨k,Y,m,M,τ⟩:=q
 obtain ⟨⟨k0',k1'⟩,g1,g2,g3,⟨hZn,hZ1,hn2,ht0,ht1⟩,g7,g8⟩:=hq
 dsimp only at k0' k1' g1 g2 g3 hZn hZ1 hn2 ht0 ht1 g7 g8 ⊢
 have hi:=g1.1.hi
 have hn1:n < m:=by omega
 refine Y8 fun hUY => ?_
 have hM0:Y m=none:=hUY.fresh _ (Nat.le_refl _)
 have hM:∀ k,Y (m+k)=none:=fun k=>hUY.fresh _ (Nat.le_add_right _ _)
 refine Zj ?_
 refine Zb Zc [] ?_
 simp only [push_cast,seval,Za,hi,hn1,hn2]
 refine Zj ?_
 refine Zs (t:=decide (k < (t.Kids.length:Int))) rfl (fun c => ?_) (fun c => ?_)
 ·have c1:k < (t.Kids.length:Int):=of_decide_eq_true c
  refine Zw ?_
  try simp only [Zk,Zg]
  refine Zds (E':=⟨83,[],[(1,.val (.int .i64 s)),(2,.val (.int .i64 (p+1))),(4,.ref n 0),(7,.ref (n+1) 0),(9,.val (.int .i64 W)),(10,.val (.int .i64 K)),(60,.sl t.Kids.length (fl Zi t.Kids)),(61,.val (.int .i64 (t.Kids.length:Int))),(62,.val (.int .i64 k))]⟩) (Ka hUY g3.le rfl ?_) ?_
  ·simp only [push_cast,seval,Za,hi,hn1,hn2]
  obtain ⟨x,hx⟩:=Zip (L:=t.Kids) k0' c1
  obtain ⟨x5,hx5,ax5,bx5,cx5,_⟩:=bE (f:=Zi) (K:=fun y=>some y) (r:=x) Uo (fun _=>rfl) (by decide) (by rw [hx];rfl)
  obtain rfl:x5=x:=Option.some.inj (hx5.symm.trans hx)
  have hstep:=Z3d f s (W+K) W (p+1) k0' hx τ
  have hmul:=Z7v k0' c1 (m:=W+K) (by omega)
  have hax:=ak x5 (Xe hx)
  refine Zj ?_
  refine Yn ?_
  refine Zp [1,2,4,7,9,10,13,14,60,61,62] (Zb Zc [] ?_)
  simp only [push_cast,Nat.reduceAdd,Nat.reduceSub,Nat.reduceMul,Nat.reduceLeDiff,Nat.reduceLT,Nat.reduceEqDiff,↓reduceIte,reduceCtorEq,Int.reduceBEq,Int.reduceBNe,Nat.reduceBEq,Int.reduceLE,Int.reduceLT,Int.reduceEq,Int.reduceNe,Int.reduceNeg,Nat.reduceDiv,Nat.reduceMod,Nat.reducePow,Za,hi,hn1,hn2,ax5,bx5,cx5,hM0,hM]
  refine Y8 fun hUX => ?_
  have A3:=g1.own (some ⟨false,25,3,1,Zf x5⟩)
  have F3:=g3.trans (Fr.own M (some ⟨false,25,3,1,Zf x5⟩))
  obtain ⟨X,hX⟩:∃ X,X=Y.upd m (some ⟨false,25,3,1,Zf x5⟩):=⟨_,rfl⟩
  have hXm:X m=some ⟨false,25,3,1,Zf x5⟩:=by rw [hX];exact Z9 _ _ _
  have hXn:X n=some ⟨false,48,1,1,[.ref i 0]⟩:=by rw [hX,Ya _ _ (by omega)];exact hZn
  have hX1:X (n+1)=some ⟨false,25,3,1,Zf t⟩:=by rw [hX,Ya _ _ (by omega)];exact hZ1
  have hX2:=hX
  simp only [push_cast] at hX2 hXm
  rw [← hX] at A3 F3
  rw [← hX2] at hUX ⊢
  have hi1:i < m+1:=by omega
  have hm1:m < m+1:=Nat.lt_succ_self m
  have hnm:n < m+1:=by omega
  have hnm1:n+1 < m+1:=by omega
  have e1:IntKind.i64.wrap (k * (W+K))=k * (W+K):=Zcv (by omega)
  have e2:IntKind.i64.wrap (p+1+k * (W+K))=p+1+k * (W+K):=Zcv (by omega)
  have e3:IntKind.i64.wrap (p+1+k * (W+K)+W)=p+1+k * (W+K)+W:=Zcv (by omega)
  refine Zp [8,1,2,4,7,9,10,60,61,62,81] (Zb Zc [] ?_)
  simp only [push_cast,seval,Za,hi1,hm1,hnm,hXm,hXn,hWK,e1,e2,e3]
  refine (Zlw A3 g2 hf (hk x5 (Xe hx)) ⟨by omega,by omega⟩ (fun q a b=>g7 _ _ _ (one q (by omega) (by omega)))).mono fun r O' n' hE => ?_
  obtain ⟨L',F4,hres⟩:=hE
  cases e:Kl f s (p+1+k * (W+K)+W) x5.Kids τ with
  | none =>
   rw [e] at hres hstep
   subst hres
   simp only [push_cast,seval,Za]
   refine Y8 fun hU9 => ?_
   refine Zs (t:=true) rfl (fun c15 => ?_) (fun c15=>by cases c15)
   refine Zp [8] (Zb Zc [] ?_)
   simp only [push_cast,seval,Za]
   refine Zu ?_
   try simp only [Zk,Zg]
   refine .inr ⟨(fun h=>by cases h),?_⟩
   have n9:n≤n':=Nat.le_trans F3.le F4.le
   show Z2n _ _ _ _ .ret _ _ _
   refine ⟨.val (.bool false),O',n',n9,⟨L',F3.trans F4,by rw [g8,hstep];exact rfl⟩,?_⟩
   refine Yl (P:=Try.prog) (.inr rfl) hU9 [.val (.bool false)] n9 ?_
   simp only [push_cast,seval,Za,Try.results52]
  | some ρ =>
   rw [e] at hres hstep
   obtain ⟨rfl,A4⟩:=hres
   obtain ⟨t1,t2⟩:=(Ga hf s x5.Kids _ τ g2).1 ρ e
   obtain ⟨q1,q2,q3⟩:=F4.keep hnm (fun q=>q) ht0
   obtain ⟨l1,l2,l3⟩:=F4.keep hnm1 (fun q=>q) ht1
   simp only [push_cast,seval,Za]
   refine Y8 fun hU9 => ?_
   refine Zs (t:=false) rfl (fun c15=>by cases c15) (fun c15 => ?_)
   refine Zw ?_
   try simp only [Zk,Zg]
   have hi9:=A4.1.hi
   refine Zb Zc [] ?_
   have hwk:IntKind.i64.wrap (k+1)=k+1:=Zcv (by omega)
   simp only [push_cast,seval,Za,hi9,q2,l2,hwk]
   refine .inl ⟨rfl,(k+1,O',n',L',ρ),⟨⟨by omega,by omega⟩,A4,t1,F3.trans F4,⟨q1.trans hXn,l1.trans hX1,l2,q3,l3⟩,g7.trans t2,?_⟩,by show ((t.Kids.length:Int) - (k+1)).toNat < ((t.Kids.length:Int) - k).toNat;omega,Ka hU9 (Nat.le_trans F3.le F4.le) rfl ?_⟩
   ·show Gl f s (W+K) W (p+1) t.Kids (A9,σ.2)=Gl f s (W+K) W (p+1+(k+1) * (W+K)) (t.Kids.drop (k+1).toNat) ρ
    rw [g8,hstep];rfl
   simp only [push_cast,seval,Za,hi9,q2,l2]
 have c1:¬ k < (t.Kids.length:Int):=of_decide_eq_false c
 refine Jt ?_
 try simp only [Zk,Zg,↓reduceIte,Nat.reduceEqDiff]
 refine .inr ⟨(fun h=>by cases h),?_⟩
 have ek:t.Kids.drop k.toNat=[]:=List.drop_eq_nil_of_le (by omega)
 rw [ek] at g8
 try simp only [Zk,Zg,↓reduceIte,Nat.reduceEqDiff]
 refine Zp [8] (Zb Zc [] ?_)
 simp only [push_cast,seval,Za]
 refine Zu ?_
 try simp only [Zk,Zg]
 show Z2n _ _ _ _ .ret _ _ _
 refine ⟨.val (.bool true),Y,m,g3.le,⟨M,g3,by rw [g8];exact ⟨rfl,g1⟩⟩,?_⟩
 refine Yl (P:=Try.prog) (.inr rfl) hUY [.val (.bool true)] g3.le ?_
 simp only [push_cast,seval,Za,Try.results52]
theorem Z20 {O:Objs} {n i j:Nat} {L:List NR} {size most:Int} {σ:SG} {f:Tr→Int→Int→SG→Option SG} {t:Tr} {d:Nat} {s p:Int} (h:AP size O n i j L σ) (hs:St size most σ) (hf:Zas size most f) (hF:Fine t d) (h0:¬ t.Kind=0) (h10:¬ t.Kind=10) (hk:t.Kind=1∨t.Kind=8→∀ x∈t.Kids,PT size most f x) (hk9:t.Kind=9→∀ u∈t.Kids,∀ x∈u.Kids,PT size most f x) (hp:0≤p∧p+pwd t≤131072) (hb:Yp σ.1 s p (pwd t)=true) :
  GCalls Try.prog 34 [.agg [.ref i 0],.val (.int .i64 s),.val (.int .i64 p),.agg (Zf t)] O n (Z6k size i j O n L (inT true f s p t σ)):=by
 have kd:=Zw4 hF h0 h10
 have one:∀ q,p≤q→q < p+pwd t→Yp σ.1 s q 1=true:=fun q x y=>Gx hb x y
 refine Zld Zc Try.call34 Try.func34 rfl (Nat.le_of_ble_eq_true rfl) fun hU => ?_
 have hN0:O n=none:=hU.fresh _ (Nat.le_refl _)
 have hN:∀ k,O (n+k)=none:=fun k=>hU.fresh _ (Nat.le_add_right _ _)
 have hi0:=h.1.hi
 have hi:i < n+2:=by omega
 have hn1:n < n+2:=by omega
 have hn2:n+1 < n+2:=by omega
 show Go.Proofs.Ytbkhdkfjabiocaa.W _ _ _ _ ⟨50,[],[(0,.agg [.ref i 0]),(1,.val (.int .i64 s)),(2,.val (.int .i64 p)),(3,.agg (Zf t))]⟩ (Zy O n []) _
 rw [Kj hU.fresh]
 refine Zp [1,2,4,7] (Zb Zc [] ?_)
 simp only [push_cast,seval,Za,hi0,hN0,hN]
 refine Y8 fun hUZ => ?_
 have A1:=(h.own (some ⟨false,48,1,1,[.ref i 0]⟩)).own (some ⟨false,25,3,1,Zf t⟩)
 have F1:=(Fr.own (X:=NoX) (i:=i) (j:=j) (O:=O) (n:=n) L (some ⟨false,48,1,1,[.ref i 0]⟩)).trans (Fr.own L (some ⟨false,25,3,1,Zf t⟩))
 simp only [push_cast] at A1 F1
 generalize hZ:(O.upd n (some ⟨false,48,1,1,[.ref i 0]⟩)).upd (n+1) _=Z at hUZ A1 F1 ⊢
 have hZn:Z n=some ⟨false,48,1,1,[.ref i 0]⟩:=by rw [← hZ,Ya _ _ (by omega),Z9]
 have hZ1:Z (n+1)=some ⟨false,25,3,1,Zf t⟩:=by rw [← hZ,Z9];rfl
 simp only [push_cast] at hZ1
 have A2:AP size Z (n+2) i j L σ:=A1
 have F2:Fr NoX i j O n L Z (n+2) L:=F1
 clear A1 F1
 have ht0:¬ ter i j L n:=fun q=>by have:=h.1.ter_lt q;omega
 have ht1:¬ ter i j L (n+1):=fun q=>by have:=h.1.ter_lt q;omega
 refine Zj ?_
 refine Zp [1,2,4,7,10] (Zb Zc [] ?_)
 simp only [push_cast,seval,Za,hi,hn1,hn2,hZn,hZ1]
 refine Yn ?_
 refine Zp [1,2,4,7,10,11] (Zb Zc [] ?_)
 simp only [push_cast,seval,Za,hi,hn1,hn2,hZn,hZ1]
 refine Zs (t:=(t.Kind == 1)) rfl (fun c => ?_) (fun c => ?_)
 ·have c1:t.Kind=1:=eq_of_beq c
  have eI':inT true f s p t σ=Kl f s (p+(t.Words.length:Int)) t.Kids (Y0 σ.1 s p t.Words,σ.2):=by unfold inT;rw [if_pos c1]
  rw [Zg9 c1] at hp one
  refine Zp [1,2,4,7] (Zb Zc [] ?_)
  simp only [push_cast,seval,Za,hi,hn1,hn2,hZn,hZ1]
  refine Z3f A2 hs s p t.Words ⟨hp.1,by omega⟩ fun O9 n9 L9 A9 F9 => ?_
  obtain ⟨q1,q2,q3⟩:=F9.keep hn1 (fun q=>q) ht0
  obtain ⟨l1,l2,l3⟩:=F9.keep hn2 (fun q=>q) ht1
  simp only [push_cast,seval,Za]
  refine Y8 fun hU9 => ?_
  have hi:=A9.1.hi
  have hZn:=q1.trans hZn
  have hZ1:=l1.trans hZ1
  have F2:=F2.trans F9
  have w1:IntKind.i64.wrap (p+(t.Words.length:Int))=p+(t.Words.length:Int):=Zcv (by omega)
  refine Zp [8] (Zb Zc [] ?_)
  simp only [push_cast,seval,Za,hi,q2,l2,hZn,hZ1,w1]
  refine (Zlw A9 (St.lays s _ hs p) hf (hk (.inl c1)) ⟨by omega,by omega⟩ (fun q a b=>Ex.lays _ _ _ _ _ _ _ (one q (by omega) (by omega)))).mono fun r O' n' hE => ?_
  obtain ⟨L',F4,hres⟩:=hE
  have n9:n≤n':=Nat.le_trans F2.le F4.le
  cases e:Kl f s (p+(t.Words.length:Int)) t.Kids (Y0 σ.1 s p t.Words,σ.2) with
  | none =>
   rw [e] at hres
   subst hres
   simp only [push_cast,seval,Za]
   refine Y8 fun hU9 => ?_
   refine Zu ?_
   try simp only [Zk,Zg]
   refine ⟨.val (.bool false),O',n',n9,⟨L',F2.trans F4,by rw [eI',e]⟩,?_⟩
   refine Yl (P:=Try.prog) (.inr rfl) hU9 [.val (.bool false)] n9 ?_
   simp only [push_cast,seval,Za,Try.results34]
  | some ρ =>
   rw [e] at hres
   obtain ⟨rfl,A4⟩:=hres
   simp only [push_cast,seval,Za]
   refine Y8 fun hU9 => ?_
   refine Zu ?_
   try simp only [Zk,Zg]
   refine ⟨.val (.bool true),O',n',n9,⟨L',F2.trans F4,by rw [eI',e];exact ⟨rfl,A4⟩⟩,?_⟩
   refine Yl (P:=Try.prog) (.inr rfl) hU9 [.val (.bool true)] n9 ?_
   simp only [push_cast,seval,Za,Try.results34]
 have c1:¬ t.Kind=1:=ne_of_beq_false c
 refine Zp [1,2,4,7,10,29] (Zb Zc [] ?_)
 simp only [push_cast,seval,Za,hi,hn1,hn2,hZn,hZ1]
 refine Zs (t:=(t.Kind == 8)) rfl (fun c => ?_) (fun c => ?_)
 ·have c8:t.Kind=8:=eq_of_beq c
  have eI':inT true f s p t σ=Kl f s p t.Kids σ:=by unfold inT;rw [if_neg c1,if_pos c8]
  rw [Zra c8] at hp one
  refine Zp [8] (Zb Zc [] ?_)
  simp only [push_cast,seval,Za,hi,hn1,hn2,hZn,hZ1]
  refine (Zlw A2 hs hf (hk (.inr c8)) ⟨by omega,by omega⟩ (fun q a b=>one q a b)).mono fun r O' n' hE => ?_
  obtain ⟨L',F4,hres⟩:=hE
  have n9:n≤n':=Nat.le_trans F2.le F4.le
  cases e:Kl f s p t.Kids σ with
  | none =>
   rw [e] at hres
   subst hres
   simp only [push_cast,seval,Za]
   refine Y8 fun hU9 => ?_
   refine Zu ?_
   try simp only [Zk,Zg]
   refine ⟨.val (.bool false),O',n',n9,⟨L',F2.trans F4,by rw [eI',e]⟩,?_⟩
   refine Yl (P:=Try.prog) (.inr rfl) hU9 [.val (.bool false)] n9 ?_
   simp only [push_cast,seval,Za,Try.results34]
  | some ρ =>
   rw [e] at hres
   obtain ⟨rfl,A4⟩:=hres
   simp only [push_cast,seval,Za]
   refine Y8 fun hU9 => ?_
   refine Zu ?_
   try simp only [Zk,Zg]
   refine ⟨.val (.bool true),O',n',n9,⟨L',F2.trans F4,by rw [eI',e];exact ⟨rfl,A4⟩⟩,?_⟩
   refine Yl (P:=Try.prog) (.inr rfl) hU9 [.val (.bool true)] n9 ?_
   simp only [push_cast,seval,Za,Try.results34]
 have c8:¬ t.Kind=8:=ne_of_beq_false c
 refine Zp [1,2,4,7,10,37] (Zb Zc [] ?_)
 simp only [push_cast,seval,Za,hi,hn1,hn2,hZn,hZ1]
 refine Zs (t:=(t.Kind == 9)) rfl (fun c => ?_) (fun c => ?_)
 ·have c9:t.Kind=9:=eq_of_beq c
  have eI':inT true f s p t σ=Gl f s ((fr t.Kids).1+(fr t.Kids).2) (fr t.Kids).1 (p+1) t.Kids (Qy s ((fr t.Kids).1+(fr t.Kids).2) (p+1) t.Kids (if t.Kids=[] then σ.1 else Y4 σ.1 s p (Zdn t)),σ.2):=by unfold inT;rw [if_neg c1,if_neg c8,if_pos c9,if_pos rfl]
  refine Zp [8] (Zb Zc [] ?_)
  simp only [push_cast,seval,Za,hi,hn1,hn2,hZn,hZ1]
  refine (Z3p A2 hs hf hF c9 (hk9 c9) hp hb).mono fun r O' n' hE => ?_
  obtain ⟨L',F4,hres⟩:=hE
  have n9:n≤n':=Nat.le_trans F2.le F4.le
  cases e:Gl f s ((fr t.Kids).1+(fr t.Kids).2) (fr t.Kids).1 (p+1) t.Kids (Qy s ((fr t.Kids).1+(fr t.Kids).2) (p+1) t.Kids (if t.Kids=[] then σ.1 else Y4 σ.1 s p (Zdn t)),σ.2) with
  | none =>
   rw [e] at hres
   subst hres
   simp only [push_cast,seval,Za]
   refine Y8 fun hU9 => ?_
   refine Zu ?_
   try simp only [Zk,Zg]
   refine ⟨.val (.bool false),O',n',n9,⟨L',F2.trans F4,by rw [eI',e]⟩,?_⟩
   refine Yl (P:=Try.prog) (.inr rfl) hU9 [.val (.bool false)] n9 ?_
   simp only [push_cast,seval,Za,Try.results34]
  | some ρ =>
   rw [e] at hres
   obtain ⟨rfl,A4⟩:=hres
   simp only [push_cast,seval,Za]
   refine Y8 fun hU9 => ?_
   refine Zu ?_
   try simp only [Zk,Zg]
   refine ⟨.val (.bool true),O',n',n9,⟨L',F2.trans F4,by rw [eI',e];exact ⟨rfl,A4⟩⟩,?_⟩
   refine Yl (P:=Try.prog) (.inr rfl) hU9 [.val (.bool true)] n9 ?_
   simp only [push_cast,seval,Za,Try.results34]
 have c9:¬ t.Kind=9:=ne_of_beq_false c
 have eI':inT true f s p t σ=some (Y0 σ.1 s p (Zdi (t.Kind - 2) (ato t)),σ.2):=by unfold inT;rw [if_neg c1,if_neg c8,if_neg c9]
 have ew:pwd t=((Zdi (t.Kind - 2) (ato t)).length:Int):=by unfold pwd;rw [if_neg c1,if_neg c9,if_neg c8]
 rw [ew] at hp
 refine Zw ?_
 try simp only [Zk,Zg]
 refine Zj ?_
 refine U0 Zc (by kernel_rfl) [.plain,.plain,.plain,.plain,.plain,.bar] (fun _=>True) [0,1,2,3,4,5] [.plain,.plain,.plain,.plain,.plain,.bar] [] (by kernel_rfl) rfl ?_
 simp only [push_cast,seval,Za,hi,hn1,hn2,hZn,hZ1]
 refine PCall.of (Zr5 (Z0k hF (by omega))) ?_
 simp only [push_cast,seval,Za,hi,hn1,hn2,hZn,hZ1]
 refine Z3f A2 hs s p (Zdi (t.Kind - 2) (ato t)) ⟨hp.1,by omega⟩ fun O9 n9 L9 A9 F9 => ?_
 simp only [push_cast,seval,Za]
 refine Y8 fun hU9 => ?_
 have m9:n≤n9:=Nat.le_trans F2.le F9.le
 refine Zp [8] (Zb Zc [] ?_)
 simp only [push_cast,seval,Za]
 refine Zu ?_
 try simp only [Zk,Zg]
 refine ⟨.val (.bool true),O9,n9,m9,⟨L9,F2.trans F9,by rw [eI'];exact ⟨rfl,A9⟩⟩,?_⟩
 refine Yl (P:=Try.prog) (.inr rfl) hU9 [.val (.bool true)] m9 ?_
 simp only [push_cast,seval,Za,Try.results34]
theorem Zvh (size most:Int):∀ (N:Nat) (t:Tr) (d:Nat),SizeOf.sizeOf t < N→Fine t d→¬ t.Kind=10→PT size most (Zhl true size N) t
 | 0,_,_,h,_,_=>by omega
 | N+1,t,d,hsz,hF,h10=>by
  rename_i O n i j L σ s p
  intro h hs hsb
  have hf:=Zd8 true size most N
  obtain ⟨x0,hx0,p0,_,p1⟩:=Jb hsb
  have hx0b:=hs.hB x0 (Xe hx0)
  have hl0:=hs.hl0
  refine Zld Zc Try.call19 Try.func19 rfl (Nat.le_of_ble_eq_true rfl) fun hU => ?_
  have hN0:O n=none:=hU.fresh _ (Nat.le_refl _)
  have hN:∀ k,O (n+k)=none:=fun k=>hU.fresh _ (Nat.le_add_right _ _)
  have hi0:=h.1.hi
  have hi:i < n+2:=by omega
  have hn1:n < n+2:=by omega
  have hn2:n+1 < n+2:=by omega
  show Go.Proofs.Ytbkhdkfjabiocaa.W _ _ _ _ ⟨50,[],[(0,.agg [.ref i 0]),(1,.val (.int .i64 s)),(2,.val (.int .i64 p)),(3,.agg (Zf t))]⟩ (Zy O n []) _
  rw [Kj hU.fresh]
  refine Zp [1,2,4,7] (Zb Zc [] ?_)
  simp only [push_cast,seval,Za,hi0,hN0,hN]
  refine Y8 fun hUZ => ?_
  have A1:=(h.own (some ⟨false,48,1,1,[.ref i 0]⟩)).own (some ⟨false,25,3,1,Zf t⟩)
  have F1:=(Fr.own (X:=NoX) (i:=i) (j:=j) (O:=O) (n:=n) L (some ⟨false,48,1,1,[.ref i 0]⟩)).trans (Fr.own L (some ⟨false,25,3,1,Zf t⟩))
  simp only [push_cast] at A1 F1
  generalize hZ:(O.upd n (some ⟨false,48,1,1,[.ref i 0]⟩)).upd (n+1) _=Z at hUZ A1 F1 ⊢
  have hZn:Z n=some ⟨false,48,1,1,[.ref i 0]⟩:=by rw [← hZ,Ya _ _ (by omega),Z9]
  have hZ1:Z (n+1)=some ⟨false,25,3,1,Zf t⟩:=by rw [← hZ,Z9];rfl
  simp only [push_cast] at hZ1
  have A2:AP size Z (n+2) i j L σ:=A1
  have F2:Fr NoX i j O n L Z (n+2) L:=F1
  clear A1 F1
  have ht0:¬ ter i j L n:=fun q=>by have:=h.1.ter_lt q;omega
  have ht1:¬ ter i j L (n+1):=fun q=>by have:=h.1.ter_lt q;omega
  refine Zj ?_
  refine Zp [1,2,4,7,17] (Zb Zc [] ?_)
  simp only [push_cast,seval,Za,hi,hn1,hn2,hZn,hZ1]
  refine Zs (t:=(t.Kind == 0)) rfl (fun c => ?_) (fun c => ?_)
  ·have c0:t.Kind=0:=eq_of_beq c
   have eI:Zhl true size (N+1) t s p σ=some σ:=by simp only [Zhl];rw [if_pos c0]
   refine Zp [8] (Zb Zc [] ?_)
   simp only [push_cast,seval,Za]
   refine Zu ?_
   try simp only [Zk,Zg]
   refine ⟨.val (.bool true),Z,n+2,F2.le,⟨L,F2,by rw [eI];exact ⟨rfl,A2⟩⟩,?_⟩
   refine Yl (P:=Try.prog) (.inr rfl) hUZ [.val (.bool true)] F2.le ?_
   simp only [push_cast,seval,Za,Try.results19]
  have c0:¬ t.Kind=0:=ne_of_beq_false c
  have kd:=Zw4 hF c0 h10
  have eI:Zhl true size (N+1) t s p σ=(Jj size σ (pwd t)).bind fun r=>(Zcu size r.2.2 s p (pkd t) (pup t) r.1 r.2.1).bind fun τ=>inT true (Zhl true size N) r.1 r.2.1 t τ:=by simp only [Zhl];rw [if_neg c0]
  obtain ⟨Q,hsh,hwd,hQ⟩:=Z16 hF c0 h10
  refine Zw ?_
  try simp only [Zk,Zg]
  have hM0:Z (n+2)=none:=hUZ.fresh _ (Nat.le_refl _)
  have hM:∀ k,Z (n+2+k)=none:=fun k=>hUZ.fresh _ (Nat.le_add_right _ _)
  refine Zp [1,2,4,7,9] (Zb Zc [] ?_)
  simp only [push_cast,seval,Za,hi,hn1,hn2,hZn,hZ1]
  refine (Zu7 hsh).then ?_
  simp only [push_cast,seval,Za,hi,hn1,hn2,hZn,hZ1,hM0,hM]
  obtain ⟨X,hX⟩:∃ X,X=Z.upd (n+2) (some ⟨false,69,8,1,Yb Q⟩):=⟨_,rfl⟩
  have A3:=A2.own (some ⟨false,69,8,1,Yb Q⟩)
  have F3:=F2.trans (Fr.own L (some ⟨false,69,8,1,Yb Q⟩))
  have hX2:=hX
  simp only [push_cast] at hX2
  rw [← hX] at A3 F3
  rw [← hX2]
  have hZn:X n=some ⟨false,48,1,1,[.ref i 0]⟩:=by rw [hX,Ya _ _ (by omega)];exact hZn
  have hZ1:X (n+1)=some ⟨false,25,3,1,Zf t⟩:=by rw [hX,Ya _ _ (by omega)];exact hZ1
  have hZ2:X (n+2)=some ⟨false,69,8,1,Yb Q⟩:=by rw [hX];exact Z9 _ _ _
  simp only [push_cast] at hZ1 hZ2
  have A4:AP size X (n+3) i j L σ:=A3
  have F4:Fr NoX i j O n L X (n+3) L:=F3
  clear A2 F2 A3 F3 hX hX2 hZ hUZ
  have hi:i < n+3:=by omega
  have hn1:n < n+3:=by omega
  have hn2:n+1 < n+3:=by omega
  have hn3:n+2 < n+3:=by omega
  have ht2:¬ ter i j L (n+2):=fun q=>by have:=h.1.ter_lt q;omega
  refine Zp [1,2,4,7,9,10,11] (Zb Zc [] ?_)
  simp only [push_cast,seval,Za,hi,hn1,hn2,hn3,hZn,hZ1,hZ2]
  refine (Zi8 hwd).then ?_
  simp only [push_cast,seval,Za,hi,hn1,hn2,hn3,hZn,hZ1,hZ2]
  cases hg:Jj size σ (pwd t) with
  | none =>
   rw [hg] at eI
   obtain ⟨ga,gb,O9,n9,L9,g5,F9⟩:=Zrs A4 hs hg
   have m9:n≤n9:=Nat.le_trans F4.le F9.le
   refine Zp [1,2,4,7,9,12,13,14] (Zb Zc [] ?_)
   simp only [push_cast,seval,Za,hi,hn1,hn2,hn3,hZn,hZ1,hZ2]
   refine g5.then ?_
   simp only [push_cast,seval,Za]
   refine Y8 fun hU9 => ?_
   refine Zp [8] (Zb Zc (Z4k []) ?_)
   simp only [push_cast,seval,Za]
   refine Zu ?_
   try simp only [Zk,Zg]
   refine ⟨.val (.bool false),O9,n9,m9,⟨L9,F4.trans F9,by rw [eI];exact rfl⟩,?_⟩
   refine Yl (P:=Try.prog) (.inr rfl) hU9 [.val (.bool false)] m9 ?_
   simp only [push_cast,seval,Za,Try.results19]
  | some r =>
   rw [hg,Option.bind_some] at eI
   have g:=Jk hs hg
   have hP:=hQ (by omega)
   have hm1:r.1≤16:=by
    obtain ⟨y,hy,_⟩:=Jb g.2.2.2.2.2.2.1
    have:=Qr hy
    have:=g.2.2.2.2.1.h16
    omega
   obtain ⟨O5,n5,L5,g5,A5,F5⟩:=Zrt A4 hs hg
   obtain ⟨q1,q2,q3⟩:=F5.keep hn1 (fun q=>q) ht0
   obtain ⟨l1,l2,l3⟩:=F5.keep hn2 (fun q=>q) ht1
   obtain ⟨v1,v2,v3⟩:=F5.keep hn3 (fun q=>q) ht2
   refine Zp [1,2,4,7,9,12,13,14] (Zb Zc [] ?_)
   simp only [push_cast,seval,Za,hi,hn1,hn2,hn3,hZn,hZ1,hZ2]
   refine g5.then ?_
   have hi:=A5.1.hi
   have hZn:=q1.trans hZn
   have hZ1:=l1.trans hZ1
   have hZ2:=v1.trans hZ2
   simp only [push_cast,seval,Za,hi,q2,l2,v2,hZn,hZ1,hZ2]
   have ga:=Ybn A5 g.2.2.2.2.1 (s:=s) (p:=p) (hm:=r.1) (b:=r.2.1) hP (g.2.2.2.2.2.1 _ _ _ hsb) ⟨g.2.2.1,by omega⟩ ⟨g.2.1,by omega⟩
   have F45:=F4.trans F5
   cases ha:Zcu size r.2.2 s p (pkd t) (pup t) r.1 r.2.1 with
   | none =>
    rw [ha] at eI ga
    refine Zp [8] (Zb Zc (Z74 (Z71 [])) ?_)
    simp only [push_cast,seval,Za,hi,q2,l2,v2,hZn,hZ1,hZ2]
    refine ga.mono fun r' O9 n9 hE => ?_
    obtain ⟨L9,F9,hres⟩:=hE
    subst hres
    have m9:n≤n9:=Nat.le_trans F45.le F9.le
    simp only [push_cast,seval,Za]
    refine Y8 fun hU9 => ?_
    refine Zu ?_
    try simp only [Zk,Zg]
    refine ⟨.val (.bool false),O9,n9,m9,⟨L9,F45.trans F9,by rw [eI];exact rfl⟩,?_⟩
    refine Yl (P:=Try.prog) (.inr rfl) hU9 [.val (.bool false)] m9 ?_
    simp only [push_cast,seval,Za,Try.results19]
   | some τ =>
    rw [ha,Option.bind_some] at eI
    rw [ha] at ga
    have a:=Zl3 g.2.2.2.2.1 ha
    have ik:=(Q1 hF.rt c0 h10).2.2.2
    refine Zp [8] (Zb Zc (Ybd []) ?_)
    simp only [push_cast,seval,Za,hi,q2,l2,v2,hZn,hZ1,hZ2]
    refine ga.mono fun r' O6 n6 hE => ?_
    obtain ⟨L6,F6,rfl,A6⟩:=hE
    obtain ⟨r1,r2,r3⟩:=F6.keep q2 (fun q=>q) q3
    obtain ⟨s1,s2,s3⟩:=F6.keep l2 (fun q=>q) l3
    have hi:=A6.1.hi
    have hZn:=r1.trans hZn
    have hZ1:=s1.trans hZ1
    have F46:=F45.trans F6
    simp only [push_cast,seval,Za,hi,r2,s2,hZn,hZ1]
    refine (Z20 A6 a.1 hf hF c0 h10 (fun h18 x hx=>@Zvh size most N x (d - 1) (by have:=Yy hx;omega) (hF.kid hx) (Km (by omega) (ik x hx).2).1) (fun h9 u hu x hx=>by
     have k1:=(Km (by omega) (ik u hu).2).2 h9
     have j4:=(Q1 (hF.kid hu).rt (by omega) (by omega)).2.2.2 x hx
     exact @Zvh size most N x (d - 1 - 1) (by have:=Yy hu;have:=Yy hx;omega) ((hF.kid hu).kid hx) (Km (by omega) j4.2).1) ⟨g.2.2.1,by omega⟩ (a.2.1 _ _ _ g.2.2.2.2.2.2.1)).mono fun r' O9 n9 hE => ?_
    obtain ⟨L9,F9,hres⟩:=hE
    have m9:n≤n9:=Nat.le_trans F46.le F9.le
    cases ec:inT true (Zhl true size N) r.1 r.2.1 t τ with
    | none =>
     rw [ec] at hres eI
     subst hres
     simp only [push_cast,seval,Za]
     refine Y8 fun hU9 => ?_
     refine Zu ?_
     try simp only [Zk,Zg]
     refine ⟨.val (.bool false),O9,n9,m9,⟨L9,F46.trans F9,by rw [eI]⟩,?_⟩
     refine Yl (P:=Try.prog) (.inr rfl) hU9 [.val (.bool false)] m9 ?_
     simp only [push_cast,seval,Za,Try.results19]
    | some ρ =>
     rw [ec] at hres eI
     obtain ⟨rfl,A9⟩:=hres
     simp only [push_cast,seval,Za]
     refine Y8 fun hU9 => ?_
     refine Zu ?_
     try simp only [Zk,Zg]
     refine ⟨.val (.bool true),O9,n9,m9,⟨L9,F46.trans F9,by rw [eI];exact ⟨rfl,A9⟩⟩,?_⟩
     refine Yl (P:=Try.prog) (.inr rfl) hU9 [.val (.bool true)] m9 ?_
     simp only [push_cast,seval,Za,Try.results19]
end Go.Proofs.Ytbkhdkfjabiocaa
