/- Part VA; each theorem bears its own conditions. -/
import Derived.Test.YtbkhdkfjabiocaaUA
import Derived.Test.YtbkhdkfjabiocaaUP
namespace Go.Proofs.Ytbkhdkfjabiocaa
open Go.RowKit
set_option linter.unusedVariables false
set_option linter.unusedSimpArgs false
set_option maxRecDepth 100000
set_option maxHeartbeats 4000000
attribute [local push_cast] Xm Zf Qi Yb Zn Zmh Zmg Znd Znc Zk Zg Zir Zd5 Zd4 onW Y9 Zbs Zbf Zo6 Zlg Zgj Zgn Zgi Zgm Zjv Zjq Zgl Zju Zjt Zjs Zgk Zjo Zeu evS wok Qq Op.operands Call.operands gop onK onP atK List.all_cons List.all_nil Bool.and_true Bool.true_and Bool.and_self Value.oneCell' List.take_zero List.take_succ_cons List.take_nil List.drop_zero List.drop_succ_cons List.drop_nil List.append_nil Nat.add_zero Nat.zero_add Vt Yd ev Q0 Zpl Zma Zl9 Zmf Zmd Zme Zmb Zmc Zl8 Zqk Zro Zut Zgw Zav Zgv Zbm Zf8 Zd7 Zb3 Zb8 Zd0 Zdw Zb6 Zdz Zdy Zdx Zb5 Zdu Zb4 Zb7 Zbe Zdv Zke Zd6 Ut Zfp Uu Zh2 Zgu Ztx bLo bHi bMx Zaw Zh1 Zv9 Zgs Ziq Zc4 Vf Zqo Zwa Zfo Zc2 Zwc Zau Zy5 Ziz Zi3 Ziy Zi2 Zm2 Zmy Zmw Zgb Zi0 Zm1 Zm0 Zmz Zi1 Zmr Zmu Zmq Zmt Zr1 Zry Zrx Zms Zrz Zr0 Zmx Zh3 Zot Zjk Zem Zel pop TK.isAgg Zm5 Zm9 Zm4 Zm8 Zjb Zsd Zr9 Zm7 Zsc Zsb Zsa Zm6 Zr8 G.under G.unders List.getD_cons_zero List.getD_cons_succ List.set_cons_zero List.set_cons_succ List.map_cons List.map_nil List.toList_toArray Array.toList_append Option.toArray_none Option.toArray_some Array.toList_map Option.map_some Option.map_none Option.bind_some Option.bind_none List.getElem?_cons_zero List.getElem?_cons_succ List.getElem?_nil List.nil_append List.cons_append List.replicate_succ List.replicate_zero List.length_cons List.length_nil and_true true_and and_false false_and Bool.true_eq_false Bool.false_eq_true forall_const false_implies implies_true IntKind.bits if_true if_false ite_true ite_false eq_self true_implies false_or or_false or_true true_or not_true_eq_false not_false_eq_true decide_true decide_false decide_eq_true_eq decide_eq_false_iff_not beq_iff_eq bne_iff_ne ne_eq Bool.not_eq_true Bool.not_eq_false beq_eq_false_iff_ne bne_eq_false_iff_eq beq_self_eq_true bne_self_eq_false Option.some.injEq exists_eq_left' exists_eq_left ge_iff_le gt_iff_lt decide_not Bool.not_true Bool.not_false imp_self Zru cond_true cond_false Z5b Z5a Bool.not_not Bool.and_false Bool.false_and Bool.or_true Bool.true_or Bool.or_false Bool.false_or V8 Zbx Zam U3 Uc Kv Option.join_some Nat.add_assoc Int.toNat_natCast eI eB eS eL Zc0 Zd3 Zcc Zmk Zmi Zmj Zzq Z1p Zei Zck Znj Znh Zni Zvf Zk6 Zth Zk4 Zqb Zcb Zpj List.length_append G.agg.injEq G.row.injEq G.ref.injEq G.val.injEq G.sl.injEq G.tup.injEq Value.int.injEq Value.bool.injEq Value.string.injEq List.cons.injEq exists_and_left exists_const List.flatten_cons List.flatten_nil Int.le_refl Nat.le_refl Zff Kk Ze3 Bool.not_eq_true' Bool.not_eq_false' Zoq Zfg Zs9 Ztd Zs8 Ztc Zyo Zyj List.size_toArray Zp1 Zpb G.ren G.rens Zsh Zeo Znq Zl6 Zl7 Zjp Zte Zef G.fn.injEq Zhj Zj9 Zop Zyk Zhi Ztb Zyn Zym Zyl Zta Zr3 Zw7 Option.join_none Z9 V7 undef Ziv Arr.len Arr.put_eq Zeh Zgd Zeg Zcj Zng Zne Znf onB Zzp Zqj Jc Zf5 Zib Zic Zid Zie Zif Zig Zgc Zgg Zge Zek Zcl Zgf Zji Zjh Zjg Zjf Zzr Z1o Zve Zt2 Jy Zu4 Zou Zgh Zej Zq8 Zq7 Z30 Zwl Zpd Zgq Zin Zbz Zhb Zih Zii Zij Zik Zfs Zft Zfu Zfv Zfw Zfx Zfy Zfz Zf0 Zf1 Zf2 Zf3 Zf4 Zdo prT Zc6 Z56 Zs0 Zz4 Zs1 Z57 Zs2 Z58 Zs3 Z59 Zs4 Z6a Zs5 Z6b Zs6 Z6c Zs7 Zxk Zns Zxl Znt Zxm Znu Zxn Znv Zxo Znw Zxp Znx Zxq Zny Zxr Znz Zxs Zn0 Zxt Zn1 Zxu Zn2 Zdq Zfr Ztt Zhw Zxv Zn3 Uo Zn4 Zxw Zhx Zxx Zn5 Zxy Zn6 Zxz Zn7 Zx0 Zn8 Zap Zn9 Zx1 Zoa Zx2 Zob Zx3 Zoc Zx4 Zod Zx5 Zoe Zx6 Zof Zx7 Zog Zx8 Zoh Zx9 Zoi Zya Zoj Zyb Zok Zyc Zol Zyd Zom Zye Zon Zyf Zoo Zsn Zjx Zso Zjy Zsp Zjz Zsq Zj0 Zsr Zj1 Zss Zj2 Zst Zj3 Zsu Zj4 Zsv Zj5 Zsw Zj6 Zsx Zj7 Zsy Zj8 Zo Zba Zex Zea Zee Ze0 Zcs Zcq Zco V5 Zaj Zai Zab Zag Zak Gj Gi Gh Zah J7 J6 Jz J0 J8 Jp Jo Jn J5 Zi Y1 Vo Vn Vi Vk Vp K6 K4 K3 Vm Zey Zew Zd9 Zed Zez Zcr Zcp Zcn Zev Zca U7 Zb9 U8 Z7 Q8 Q7 Q4 Q5 Q9 Qx Qv Qu Q6 Z4 Qe Qd X9 Qa Qf Xy Xx Xw Qc
theorem Zpt (s:Int):∀ (ws:List Int) (segs:List (List Int)) (p w:Int),Y0 segs s p (ws++[w])=Y4 (Y0 segs s p ws) s (p+(ws.length:Int)) w
 | [],segs,p,w=>by simp [Y0]
 | v::ws,segs,p,w=>by
  rw [List.cons_append,Y0,Zpt s ws,Y0,List.length_cons]
  congr 1
  omega
theorem Zjw {i j:Nat} {L L1:List NR} (h:L1.map (·.1)=L.map (·.1)) {t:Nat} (ht:ter i j L1 t):ter i j L t:=by
 rcases ht with h | h | ⟨y,hy,rfl⟩
 ·exact .inl h
 ·exact .inr (.inl h)
 have:y.1∈L.map (·.1):=by rw [← h];exact List.mem_map.2 ⟨y,hy,rfl⟩
 obtain ⟨u,hu,e⟩:=List.mem_map.1 this
 exact .inr (.inr ⟨u,hu,e.symm⟩)
theorem Yb1 {O:Objs} {n i j:Nat} {L:List NR} {size left:Int} (h:PX (HP j size left) O n i j L) (hB:∀ x∈L,x.2.length≤1000000) (s p:Int) (ws:List Int) (hp:0≤p∧p+(ws.length:Int)≤1000000) :
  GCalls Try.prog 48 [.agg [.ref i 0],.val (.int .i64 s),.val (.int .i64 p),.sl ws.length (fl (eI .u64) ws)] O n fun r O' n'=>r = .tup []∧n≤n'∧∃ L',PX (HP j size left) O' n' i j L'∧L'.map (·.1)=L.map (·.1)∧L'.map (·.2)=Y0 (L.map (·.2)) s p ws∧(∀ t,t < n→¬ ter i j L t→O' t=O t)∧∀ x∈L',x.2.length≤1000000:=by
 refine Zld Zc Try.call48 Try.func48 rfl (Nat.le_of_ble_eq_true rfl) fun hU => ?_
 have hN0:O n=none:=hU.fresh _ (Nat.le_refl _)
 have hN:∀ k,O (n+k)=none:=fun k=>hU.fresh _ (Nat.le_add_right _ _)
 have hi0:=h.hi
 have hi:i < n+1:=by omega
 have hn1:n < n+1:=Nat.lt_succ_self n
 show W _ _ _ _ ⟨26,[],[(0,.agg [.ref i 0]),(1,.val (.int .i64 s)),(2,.val (.int .i64 p)),(3,.sl ws.length (fl (eI .u64) ws))]⟩ (Zy O n []) _
 rw [Kj hU.fresh]
 refine Zp [1,2,3,4] (Zb Zc [] ?_)
 simp only [push_cast,seval,Za,hi0,hN0,hN]
 refine Zp [1,2,4,10,11,12] (Zb Zc [] ?_)
 simp only [push_cast,seval,Za,hi,hn1]
 refine Yn ?_
 obtain ⟨O0,hO0⟩:∃ O0,O0=O.upd n (some ⟨false,48,1,1,[.ref i 0]⟩):=⟨_,rfl⟩
 have hOn:O0 n=some ⟨false,48,1,1,[.ref i 0]⟩:=by rw [hO0];exact Z9 _ _ _
 have h0:PX (HP j size left) O0 (n+1) i j L:=h.frame (fun t ht=>by rw [hO0];exact Ya _ _ (by have:=h.ter_lt ht;omega)) (Nat.le_succ n)
 rw [← hO0]
 refine Zp6 (S:=Int×Objs×List NR) (fun q=>⟨26,[],[(1,.val (.int .i64 s)),(2,.val (.int .i64 p)),(4,.ref n 0),(10,.sl ws.length (fl (eI .u64) ws)),(11,.val (.int .i64 (ws.length:Int))),(12,.val (.int .i64 q.1))]⟩) (fun q=>q.2.1) (fun _=>n+1)
  (fun q=>(0≤q.1∧q.1≤(ws.length:Int))∧PX (HP j size left) q.2.1 (n+1) i j q.2.2∧q.2.2.map (·.1)=L.map (·.1)∧q.2.2.map (·.2)=Y0 (L.map (·.2)) s p (ws.take q.1.toNat)∧q.2.1 n=some ⟨false,48,1,1,[.ref i 0]⟩∧(∀ t,t < n→¬ ter i j L t→q.2.1 t=O t)∧∀ x∈q.2.2,x.2.length≤1000000)
  (fun q=>((ws.length:Int) - q.1).toNat) (fun _ _=>Nat.le_succ n) (fun q hq => ?_) (0,O0,L) ⟨⟨Int.le_refl _,by omega⟩,h0,rfl,rfl,hOn,fun t ht _=>by rw [hO0];exact Ya _ _ (by omega),hB⟩
 obtain ⟨k,Y,M⟩:=q
 obtain ⟨⟨k0,k1⟩,g1,g2,g3,g4,g5,g6⟩:=hq
 dsimp only at k0 k1 g1 g2 g3 g4 g5 g6 ⊢
 refine Y8 fun hUY => ?_
 refine Zj ?_
 refine Zb Zc [] ?_
 simp only [push_cast,seval,Za,hi,hn1]
 refine Zj ?_
 refine Zs (t:=decide (k < (ws.length:Int))) rfl (fun c => ?_) (fun c => ?_)
 ·have c1:k < (ws.length:Int):=of_decide_eq_true c
  refine Zw ?_
  try simp only [Zk,Zg]
  refine Zds (E':=⟨26,[],[(1,.val (.int .i64 s)),(2,.val (.int .i64 p)),(4,.ref n 0),(10,.sl ws.length (fl (eI .u64) ws)),(11,.val (.int .i64 (ws.length:Int))),(12,.val (.int .i64 k))]⟩) (Ka hUY (Nat.le_succ n) rfl ?_) ?_
  ·simp only [push_cast,seval,Za,hi,hn1]
  obtain ⟨w,hw⟩:∃ w,Z6 ws k=some w:=⟨ws[k.toNat]'(by omega),by unfold Z6;rw [if_pos k0];exact List.getElem?_eq_getElem (by omega)⟩
  obtain ⟨x5,hx5,ax5,bx5,cx5,_⟩:=bE (f:=eI .u64) (K:=fun y=>some y) (r:=w) Zap (fun _=>rfl) (by decide) (by rw [hw];rfl)
  obtain rfl:x5=w:=Option.some.inj (hx5.symm.trans hw)
  refine Zj ?_
  refine Yn ?_
  refine Zp [1,2,4,8,9,10,11,12] (Zb Zc [] ?_)
  simp only [push_cast,Nat.reduceAdd,Nat.reduceSub,Nat.reduceMul,Nat.reduceLeDiff,Nat.reduceLT,Nat.reduceEqDiff,↓reduceIte,reduceCtorEq,Int.reduceBEq,Int.reduceBNe,Nat.reduceBEq,Int.reduceLE,Int.reduceLT,Int.reduceEq,Int.reduceNe,Int.reduceNeg,Nat.reduceDiv,Nat.reduceMod,Nat.reducePow,Za,hi,hn1,ax5,bx5,cx5]
  obtain ⟨Y',M',q1,q2,q3,q4,q5,q6⟩:=Z8f g1 g6 s (p+k) x5
  have hwp:IntKind.i64.wrap (p+k)=p+k:=Zcv (by omega)
  refine Zb Zc [] ?_
  simp only [push_cast,seval,Za,hi,hn1,g4,hwp]
  refine q1.then ?_
  simp only [push_cast,seval,Za,hi,hn1]
  refine Y8 fun hUY' => ?_
  refine Zb Zc [] ?_
  have hwk:IntKind.i64.wrap (k+1)=k+1:=Zcv (by omega)
  simp only [push_cast,seval,Za,hi,hn1,hwk]
  refine .inl ⟨rfl,(k+1,Y',M'),⟨⟨by omega,by omega⟩,q2,q3.trans g2,?_,?_,fun t h1 h2 => ?_,q6⟩,by show ((ws.length:Int) - (k+1)).toNat < ((ws.length:Int) - k).toNat;omega,Ka hUY' (Nat.le_succ n) rfl ?_⟩
  ·have e:ws.take (k+1).toNat=ws.take k.toNat++[x5]:=by
    have h3:=hw
    unfold Z6 at h3
    rw [if_pos k0] at h3
    rw [show (k+1).toNat=k.toNat+1 by omega,List.take_add_one,h3];rfl
   show M'.map (·.2)=Y0 (L.map (·.2)) s p (ws.take (k+1).toNat)
   rw [e,Zpt,q4,g3]
   congr 1
   rw [List.length_take]
   omega
  ·show Y' n=_
   rw [q5 n (fun q=>by have:=g1.ter_lt q;have hz:=Zjw g2 q;have:=h.ter_lt hz;omega)];exact g4
  ·show Y' t=O t
   rw [q5 t (fun q=>h2 (Zjw g2 q))];exact g5 t h1 h2
  simp only [push_cast,seval,Za,hi,hn1]
 have c1:¬ k < (ws.length:Int):=of_decide_eq_false c
 refine Jt ?_
 try simp only [Zk,Zg,↓reduceIte,Nat.reduceEqDiff]
 refine .inr ⟨(fun h=>by cases h),?_⟩
 have ek:ws.take k.toNat=ws:=List.take_of_length_le (by omega)
 rw [ek] at g3
 show Z2n _ _ _ _ .normal _ _ _
 refine ⟨.tup [],Y,n+1,Nat.le_succ n,⟨rfl,Nat.le_succ n,M,g1,g2,g3,g5,g6⟩,?_⟩
 refine Yl (P:=Try.prog) (.inl rfl) hUY [] (Nat.le_succ n) ?_
 simp only [push_cast,seval,Za,Try.results48]
theorem Zax (segs:List (List Int)) (s p v s' p' k:Int):Yp (Y4 segs s p v) s' p' k=Yp segs s' p' k:=by
 unfold Y4
 by_cases c:Yp segs s p 1=true
 ·rw [if_pos c]
  cases ht:Z6 segs s with
  | none=>unfold Yp at c;rw [ht] at c;cases c
  | some t =>
   have hs:=Qr ht
   unfold Yp
   by_cases e:s'=s
   ·subst e
    rw [Jv ht,ht]
    show decide _=decide _
    have:(Xr ((some t).getD []) p v).length=t.length:=Jc _ _ _
    rw [this]
   have:Z6 (Xr segs s (Xr ((some t).getD []) p v)) s'=Z6 segs s':=by
    unfold Z6 Xr
    by_cases c0:0≤s'
    ·rw [if_pos c0,if_pos c0,List.getElem?_set_ne (by omega)]
    rw [if_neg c0,if_neg c0]
   rw [this]
 rw [if_neg c]
theorem Ziu (s s' p' k:Int):∀ (ws:List Int) (segs:List (List Int)) (p:Int),Yp (Y0 segs s p ws) s' p' k=Yp segs s' p' k
 | [],_,_=>rfl
 | w::ws,segs,p=>by rw [Y0,Ziu s s' p' k ws,Zax]
theorem Gx {segs:List (List Int)} {s p q k:Int} (h:Yp segs s p k=true) (h1:p≤q) (h2:q < p+k):Yp segs s q 1=true:=by
 unfold Yp at h ⊢
 cases e:Z6 segs s with
 | none=>rw [e] at h;cases h
 | some t =>
  rw [e] at h
  have:=of_decide_eq_true h
  exact decide_eq_true (by omega)
theorem Z09 {L:List NR} {x:NR} (h0:0 < L.length) (hx:Z6 L ((L.length:Int) - 1)=some x):Jw (L.map (·.2))=x.2:=by
 have h:=Zlf hx
 unfold Z6 at h
 rw [if_pos (by omega),show ((L.length:Int) - 1).toNat=L.length - 1 by omega] at h
 unfold Jw
 rw [List.length_map,h];rfl
theorem Yba {L:List NR} (h0:0 < L.length):∃ x,Z6 L ((L.length:Int) - 1)=some x:=⟨L[((L.length:Int) - 1).toNat]'(by omega),by unfold Z6;rw [if_pos (by omega)];exact List.getElem?_eq_getElem (by omega)⟩
theorem Z32 {O:Objs} {n i j:Nat} {L:List NR} {size left:Int} (h:PX (HP j size left) O n i j L) (h16:L.length≤16) (hl:left≤131072) (hB:∀ x∈L,(x.2.length:Int)+left≤131072) (k:Int) :
  ∃ O' n' L',GTo Try.prog 18 [.ref i 0,.val (.int .i64 k)] O n (.tup [.val (.int .i64 (X8 (L.map (·.2)) size left k).1),.val (.int .i64 (X8 (L.map (·.2)) size left k).2.1),.val (.bool (X8 (L.map (·.2)) size left k).2.2.1)]) O' n'∧n≤n' ∧
   PX (HP j size (X8 (L.map (·.2)) size left k).2.2.2.2) O' n' i j L'∧L'.map (·.2)=(X8 (L.map (·.2)) size left k).2.2.2.1∧(∀ t,ter i j L' t→ter i j L t∨n≤t)∧(∀ t,t < n→¬ ter i j L t→O' t=O t):=by
 by_cases c:k < 0∨left < k
 ·have e:X8 (L.map (·.2)) size left k=(0,0,false,L.map (·.2),left):=if_pos c
  rw [e]
  exact ⟨O,n,L,Z9r h.hi h.hj h.ho h.hoj c,Nat.le_refl _,h,rfl,fun t ht => .inl ht,fun _ _ _=>rfl⟩
 by_cases c2:(L.map (·.2)).length=0∨(L.map (·.2)).length < 16∧¬ k≤IntKind.i64.wrap (size - ((Jw (L.map (·.2))).length:Int))
 ·have e:X8 (L.map (·.2)) size left k=(((L.map (·.2)).length:Int),0,true,L.map (·.2)++[zl [] k],IntKind.i64.wrap (left - k)):=(if_neg c).trans (if_pos c2)
  rw [List.length_map] at c2 e
  have hf:L.length=0∨L.length < 16∧∃ x,Z6 L ((L.length:Int) - 1)=some x∧¬ k≤IntKind.i64.wrap (size - (x.2.length:Int)):=by
   by_cases h0:L.length=0
   ·exact .inl h0
   obtain ⟨q1,q2⟩:=c2.resolve_left h0
   obtain ⟨x,hx⟩:=Yba (L:=L) (by omega)
   exact .inr ⟨q1,x,hx,by rw [← Z09 (by omega) hx];exact q2⟩
  have g:=Z68 (k:=k) h.hi h.hj h.lt h.hij h.ho h.hoj (by omega) (by omega) (by omega) (by omega) hf
  have ea:(L++[(n,zl [] k)]).length=L.length+1:=by simp
  rw [ea] at g
  rw [e]
  exact ⟨_,n+1,L++[(n,zl [] k)],g,Nat.le_succ n,h.new _ _,by simp,fun t ht=>(Yax ht).imp id (fun q=>by omega),fun t ht h1=>Z99 _ _ _ h1 (by omega)⟩
 have e:X8 (L.map (·.2)) size left k=(((L.map (·.2)).length:Int) - 1,((Jw (L.map (·.2))).length:Int),true,(L.map (·.2)).set ((L.map (·.2)).length - 1) (zl (Jw (L.map (·.2))) k),IntKind.i64.wrap (left - k)):=(if_neg c).trans (if_neg c2)
 rw [List.length_map] at c2 e
 obtain ⟨x,hx⟩:=Yba (L:=L) (by omega)
 have hla:=Z09 (by omega) hx
 rw [hla] at c2 e
 have bx:=hB x (Xe hx)
 have g:=Z9q (k:=k) h.hi h.hj h.lt h.hij (h.ni x (Xe hx)) (h.nj x (Xe hx)) h.ho h.hoj hx (h.hL x (Xe hx)) (by omega) (by omega) (by omega) (by omega) (by
  by_cases q:k≤IntKind.i64.wrap (size - (x.2.length:Int))
  ·exact .inl q
  exact .inr (by omega))
 rw [Jc] at g
 rw [e]
 refine ⟨_,n,Xr L ((L.length:Int) - 1) (x.1,zl x.2 k),g,Nat.le_refl n,h.set hx _ _,?_,fun t ht => .inl (Z4v hx _ ht),fun t ht h1=>Z4m hx _ _ _ h1⟩
 rw [Zvr]
 unfold Xr
 rw [show ((L.length:Int) - 1).toNat=L.length - 1 by omega]
theorem Zip {α:Type} {L:List α} {s:Int} (h0:0≤s) (h:s < (L.length:Int)):∃ x,Z6 L s=some x:=⟨L[s.toNat]'(by omega),by unfold Z6;rw [if_pos h0];exact List.getElem?_eq_getElem (by omega)⟩
def vA (A:List (List Int)) (s p:Int):Option Int:=(Z6 A s).bind fun x=>Z6 x p
theorem Zd1 {α:Type} {L:List α} {s q:Int} (y:α) (h:q≠s):Z6 (Xr L s y) q=Z6 L q∨(s < 0):=by
 by_cases c:s < 0
 ·exact .inr c
 left
 unfold Z6 Xr
 by_cases c0:0≤q
 ·rw [if_pos c0,if_pos c0,List.getElem?_set_ne (by omega)]
 rw [if_neg c0,if_neg c0]
theorem Z0x {α:Type} {x y:List α} (h:∀ p,Z6 x p=Z6 y p):x=y:=by
 apply List.ext_getElem?
 intro i
 have:=h (i:Int)
 unfold Z6 at this
 rwa [if_pos (by omega),if_pos (by omega),Int.toNat_natCast] at this
theorem Zv0 {A B:List (List Int)} (hl:A.length=B.length) (h:∀ s p,vA A s p=vA B s p):A=B:=by
 apply Z0x
 intro s
 cases ha:Z6 A s with
 | none =>
  cases hb:Z6 B s with
  | none=>rfl
  | some y =>
   have h1:=Zf6 ha
   have h2:=Qr hb
   omega
 | some x =>
  cases hb:Z6 B s with
  | none =>
   have h1:=Zf6 hb
   have h2:=Qr ha
   omega
  | some y =>
   refine congrArg some (Z0x fun p => ?_)
   have:=h s p
   unfold vA at this
   rw [ha,hb] at this
   exact this
theorem hasB_iff {A:List (List Int)} {s p:Int}:Yp A s p 1=true↔∃ v,vA A s p=some v:=by
 unfold Yp vA
 cases ha:Z6 A s with
 | none=>simp
 | some x =>
  rw [Option.bind_some,decide_eq_true_eq]
  constructor
  ·intro h;exact Zip (by omega) (by omega)
  intro ⟨v,hv⟩;have:=Qr hv;omega
theorem Jb {A:List (List Int)} {s p k:Int} (h:Yp A s p k=true):∃ x,Z6 A s=some x∧0≤p∧0≤k∧p+k≤(x.length:Int):=by
 unfold Yp at h
 cases e:Z6 A s with
 | none=>rw [e] at h;cases h
 | some t=>rw [e] at h;have:=of_decide_eq_true h;exact ⟨t,rfl,by omega⟩
theorem Zml {A:List (List Int)} {s p k:Int} {x:List Int} (h:Z6 A s=some x) (h0:0≤p) (h1:0≤k) (h2:p+k≤(x.length:Int)):Yp A s p k=true:=by
 unfold Yp
 rw [h]
 exact decide_eq_true (by omega)
theorem Kt (A:List (List Int)) (s p v:Int):(Y4 A s p v).length=A.length:=by
 unfold Y4
 split
 ·exact Jc _ _ _
 rfl
theorem Znm {A:List (List Int)} {s p:Int} (v:Int) (h:¬ Yp A s p 1=true):Y4 A s p v=A:=by unfold Y4;rw [if_neg h]
theorem Ku {A:List (List Int)} {s p:Int} (v:Int) (h:Yp A s p 1=true) (s' p':Int):vA (Y4 A s p v) s' p'=if s'=s∧p'=p then some v else vA A s' p':=by
 obtain ⟨x,hx,h0,_,h2⟩:=Jb h
 have hs:=Qr hx
 unfold Y4 vA
 rw [if_pos h,hx,Option.getD_some]
 by_cases c:s'=s
 ·subst c
  rw [Jv hx,hx,Option.bind_some,Option.bind_some]
  by_cases c2:p'=p
  ·subst c2
   obtain ⟨w,hw⟩:=Zip (L:=x) h0 (by omega)
   rw [Jv hw,if_pos ⟨rfl,rfl⟩]
  rw [if_neg (fun q=>c2 q.2)]
  rcases Zd1 (L:=x) v c2 with q | q
  ·exact q
  omega
 rw [if_neg (fun q=>c q.1)]
 rcases Zd1 (L:=A) (Xr x p v) c with q | q
 ·rw [q]
 omega
theorem Zzw (A:List (List Int)) {s p s' p':Int} (v v':Int) (h:¬ (s'=s∧p'=p)):Y4 (Y4 A s p v) s' p' v'=Y4 (Y4 A s' p' v') s p v:=by
 by_cases c:Yp A s p 1=true
 ·by_cases c':Yp A s' p' 1=true
  ·have d:Yp (Y4 A s p v) s' p' 1=true:=by rw [Zax];exact c'
   have d':Yp (Y4 A s' p' v') s p 1=true:=by rw [Zax];exact c
   refine Zv0 (by simp only [Kt]) fun a b => ?_
   rw [Ku _ d,Ku _ c,Ku _ d',Ku _ c']
   by_cases e:a=s'∧b=p'
   ·rw [if_pos e,if_pos e,if_neg (fun q=>h ⟨e.1.symm.trans q.1,e.2.symm.trans q.2⟩)]
   rw [if_neg e,if_neg e]
  rw [Znm v' c',Znm v' (by rw [Zax];exact c')]
 rw [Znm v c,Znm v (by rw [Zax];exact c)]
theorem Z1y {A:List (List Int)} {s p v:Int} (h:vA A s p=some v):Y4 A s p v=A:=by
 have c:Yp A s p 1=true:=hasB_iff.2 ⟨v,h⟩
 refine Zv0 (Kt _ _ _ _) fun a b => ?_
 rw [Ku _ c]
 split
 ·rename_i e;rw [e.1,e.2,h]
 rfl
theorem Zjl (s p v s':Int):∀ (ws:List Int) (A:List (List Int)) (p':Int),¬ (s=s'∧p'≤p∧p < p'+(ws.length:Int))→Y0 (Y4 A s p v) s' p' ws=Y4 (Y0 A s' p' ws) s p v
 | [],_,_,_=>rfl
 | w::ws,A,p',h=>by
  rw [List.length_cons] at h
  rw [Y0,Y0,Zzw A v w (fun q=>h ⟨q.1.symm,by omega⟩),Zjl s p v s' ws _ _ (fun q=>h ⟨q.1,by omega⟩)]
theorem Z0y {A:List (List Int)} {s p:Int} (v:Int) {q:Int} {x:List Int} (h:Z6 A q=some x):∃ y,Z6 (Y4 A s p v) q=some y∧y.length=x.length:=by
 unfold Y4
 split
 ·rename_i c
  obtain ⟨z,hz,_⟩:=Jb c
  by_cases e:q=s
  ·subst e
   rw [h]
   exact ⟨_,Jv h,Jc _ _ _⟩
  rcases Zd1 (L:=A) (Xr ((Z6 A s).getD []) p v) e with g | g
  ·rw [g];exact ⟨x,h,rfl⟩
  have:=Qr hz;omega
 exact ⟨x,h,rfl⟩
theorem Zf9 {A:List (List Int)} (h:A.length≠0):Z6 A ((A.length:Int) - 1)=some (Jw A):=by
 unfold Z6 Jw
 rw [if_pos (by omega),show ((A.length:Int) - 1).toNat=A.length - 1 by omega]
 rw [List.getElem?_eq_getElem (by omega)];rfl
theorem Zmn (A:List (List Int)) (s p v:Int):(Jw (Y4 A s p v)).length=(Jw A).length:=by
 by_cases h:A.length=0
 ·have:A=[]:=List.length_eq_zero_iff.1 h
  subst this
  rw [Znm]
  unfold Yp Z6
  simp
 obtain ⟨y,h1,h2⟩:=Z0y (s:=s) (p:=p) v (Zf9 h)
 have:=Zf9 (A:=Y4 A s p v) (by rw [Kt];exact h)
 rw [Kt,h1] at this
 rw [← Option.some.inj this,h2]
theorem Zhy {A:List (List Int)} {s0:Int} {x:List Int} (h:Z6 A s0=some x) {k:Int} (hk:0≤k) (s p:Int):vA (Xr A s0 (zl x k)) s p=if s=s0∧(x.length:Int)≤p∧p < (x.length:Int)+k then some 0 else vA A s p:=by
 have hs:=Qr h
 unfold vA
 by_cases c:s=s0
 ·subst c
  rw [Jv h,h,Option.bind_some,Option.bind_some]
  unfold Z6 zl
  by_cases c0:0≤p
  ·rw [if_pos c0]
   by_cases c1:p < (x.length:Int)
   ·rw [if_neg (by omega),List.getElem?_append_left (by omega),if_pos c0]
   rw [List.getElem?_append_right (by omega),List.getElem?_replicate]
   by_cases c2:p < (x.length:Int)+k
   ·rw [if_pos (by omega),if_pos ⟨rfl,by omega,c2⟩]
   rw [if_neg (by omega),if_neg (by omega),if_pos c0,List.getElem?_eq_none (by omega)]
  rw [if_neg c0,if_neg (by omega),if_neg c0]
 rw [if_neg (fun q=>c q.1)]
 rcases Zd1 (L:=A) (zl x k) c with q | q
 ·rw [q]
 omega
theorem Zz6 {A:List (List Int)} {k:Int} (hk:0≤k) (s p:Int):vA (A++[zl [] k]) s p=if s=(A.length:Int)∧0≤p∧p < k then some 0 else vA A s p:=by
 unfold vA
 have e:Z6 (A++[zl [] k]) s=if s=(A.length:Int) then some (zl [] k) else Z6 A s:=by
  unfold Z6
  by_cases c:0≤s
  ·rw [if_pos c,if_pos c]
   by_cases c1:s=(A.length:Int)
   ·rw [if_pos c1,c1,Int.toNat_natCast,List.getElem?_append_right (Nat.le_refl _),Nat.sub_self];rfl
   rw [if_neg c1]
   by_cases c2:s < (A.length:Int)
   ·rw [List.getElem?_append_left (by omega)]
   rw [List.getElem?_eq_none (by simp;omega),List.getElem?_eq_none (by omega)]
  rw [if_neg c,if_neg c,if_neg (by omega)]
 rw [e]
 by_cases c:s=(A.length:Int)
 ·rw [if_pos c,Option.bind_some]
  have hn:Z6 A s=none:=by
   cases h:Z6 A s with
   | none=>rfl
   | some x=>have:=Qr h;omega
  rw [hn]
  unfold Z6 zl
  by_cases c0:0≤p
  ·rw [if_pos c0,List.nil_append,List.getElem?_replicate]
   by_cases c2:p < k
   ·rw [if_pos (by omega),if_pos ⟨c,c0,c2⟩]
   rw [if_neg (by omega),if_neg (by omega)];rfl
  rw [if_neg c0,if_neg (by omega)];rfl
 rw [if_neg c,if_neg (fun q=>c q.1)]
theorem Z69 {A:List (List Int)} {s p:Int} (v:Int) (h:Yp A s p 1=true) (size left k:Int) :
  X8 (Y4 A s p v) size left k=((X8 A size left k).1,(X8 A size left k).2.1,(X8 A size left k).2.2.1,Y4 (X8 A size left k).2.2.2.1 s p v,(X8 A size left k).2.2.2.2):=by
 by_cases c:k < 0∨left < k
 ·have e:∀ A,X8 A size left k=(0,0,false,A,left):=fun A=>if_pos c
  rw [e,e]
 obtain ⟨x,hx,h0,_,h2⟩:=Jb h
 have hs:=Qr hx
 by_cases c2:A.length=0∨A.length < 16∧¬ k≤IntKind.i64.wrap (size - ((Jw A).length:Int))
 ·have e:X8 A size left k=((A.length:Int),0,true,A++[zl [] k],IntKind.i64.wrap (left - k)):=(if_neg c).trans (if_pos c2)
  have e':X8 (Y4 A s p v) size left k=((A.length:Int),0,true,Y4 A s p v++[zl [] k],IntKind.i64.wrap (left - k)):=by
   have:=(if_neg c).trans (if_pos (by rw [Kt,Zmn];exact c2)) (a:=X8 (Y4 A s p v) size left k)
   rw [Kt] at this
   exact this
  rw [e,e']
  have hb:Yp (A++[zl [] k]) s p 1=true:=hasB_iff.2 (by
   obtain ⟨w,hw⟩:=hasB_iff.1 h
   rw [Zz6 (by omega),if_neg (by omega)];exact ⟨w,hw⟩)
  have:Y4 A s p v++[zl [] k]=Y4 (A++[zl [] k]) s p v:=by
   refine Zv0 (by simp [Kt]) fun a b => ?_
   rw [Zz6 (by omega),Ku _ hb,Zz6 (by omega),Ku _ h,Kt]
   by_cases q:a=s∧b=p
   ·rw [if_pos q,if_pos q,if_neg (by omega)]
   rw [if_neg q,if_neg q]
  rw [this]
 have e:X8 A size left k=((A.length:Int) - 1,((Jw A).length:Int),true,A.set (A.length - 1) (zl (Jw A) k),IntKind.i64.wrap (left - k)):=(if_neg c).trans (if_neg c2)
 have e':X8 (Y4 A s p v) size left k=((A.length:Int) - 1,((Jw A).length:Int),true,(Y4 A s p v).set (A.length - 1) (zl (Jw (Y4 A s p v)) k),IntKind.i64.wrap (left - k)):=by
  have:=(if_neg c).trans (if_neg (by rw [Kt,Zmn];exact c2)) (a:=X8 (Y4 A s p v) size left k)
  rw [Kt,Zmn] at this
  exact this
 rw [e,e']
 have hA:A.length≠0:=by omega
 have se:∀ (B:List (List Int)) (z:List Int),B.length=A.length→B.set (A.length - 1) z=Xr B ((A.length:Int) - 1) z:=fun B z hB=>by
  unfold Xr;rw [show ((A.length:Int) - 1).toNat=A.length - 1 by omega]
 have l1:=Zf9 hA
 have l2:=Zf9 (A:=Y4 A s p v) (by rw [Kt];exact hA)
 rw [Kt] at l2
 have hb:Yp (Xr A ((A.length:Int) - 1) (zl (Jw A) k)) s p 1=true:=hasB_iff.2 (by
  obtain ⟨w,hw⟩:=hasB_iff.1 h
  rw [Zhy l1 (by omega)]
  split
  ·exact ⟨0,rfl⟩
  exact ⟨w,hw⟩)
 have:(Y4 A s p v).set (A.length - 1) (zl (Jw (Y4 A s p v)) k)=Y4 (A.set (A.length - 1) (zl (Jw A) k)) s p v:=by
  rw [se _ _ (Kt _ _ _ _),se _ _ rfl]
  refine Zv0 (by simp only [Jc,Kt]) fun a b => ?_
  rw [Zhy l2 (by omega),Ku _ hb,Zhy l1 (by omega),Ku _ h,Zmn]
  by_cases q:a=s∧b=p
  ·rw [if_pos q,if_pos q,if_neg]
   intro q2
   rw [q.1] at q2
   rw [← q2.1,hx] at l1
   have:=Option.some.inj l1
   rw [← this] at q2
   omega
  rw [if_neg q,if_neg q]
 rw [this]
abbrev SG:=List (List Int)×Int
noncomputable def pt1 (s p v:Int) (σ:SG):SG:=(Y4 σ.1 s p v,σ.2)
noncomputable def Jj (size:Int) (σ:SG) (k:Int):Option (Int×Int×SG):=bif (X8 σ.1 size σ.2 k).2.2.1 then some ((X8 σ.1 size σ.2 k).1,(X8 σ.1 size σ.2 k).2.1,(X8 σ.1 size σ.2 k).2.2.2) else none
open Classical in
noncomputable def inO (size:Int) (σ:SG) (s:Int):Option (Int×SG):=match Z6 σ.1 s with
 | none=>none
 | some x=>if 1≤σ.2∧1≤IntKind.i64.wrap (size - (x.length:Int)) then some ((x.length:Int),Xr σ.1 s (zl x 1),IntKind.i64.wrap (σ.2 - 1)) else none
def nw (a b k u:Int):Int:=(b - a - 1) % 1073741824 * 4+k+u * 4294967296
def fw (h b d:Int):Int:=2+4 * d+8 * b+4294967296 * h
open Classical in
/-- a pointer, and its pads -/
noncomputable def Zcu (size:Int) (σ:SG) (s p k u h b:Int):Option SG :=
 if k=0∧u=0 then some (pt1 s p 4294967292 σ)
 else if h=s then some (pt1 s p (nw p b k u) σ)
 else match inO size σ h with
  | some r=>some (pt1 s p (fw h r.1 0) (pt1 h r.1 (nw r.1 b k u) r.2))
  | none=>(Jj size σ 2).map fun r=>pt1 s p (fw r.1 r.2.1 1) (Y0 r.2.2.1 r.1 r.2.1 [fw h b 0,k+u * 4294967296],r.2.2.2)
structure St (size most:Int) (σ:SG):Prop where
 h16:σ.1.length≤16
 hl0:0≤σ.2
 hm:σ.2≤most
 hmm:most≤131072
 hB:∀ x∈σ.1,(x.length:Int)+σ.2≤131072
def Ex (σ τ:SG):Prop:=∀ s p m,Yp σ.1 s p m=true→Yp τ.1 s p m=true
theorem Ex.refl (σ:SG):Ex σ σ:=fun _ _ _ h=>h
theorem Ex.trans {σ τ ρ:SG} (h:Ex σ τ) (h':Ex τ ρ):Ex σ ρ:=fun s p m q=>h' s p m (h s p m q)
theorem Ex.put (s p v:Int) (σ:SG):Ex σ (pt1 s p v σ):=fun s' p' m h=>by show Yp (Y4 σ.1 s p v) s' p' m=true;rw [Zax];exact h
theorem Ex.lays (s p:Int) (ws:List Int) (σ:SG):Ex σ (Y0 σ.1 s p ws,σ.2):=fun s' p' m h=>by show Yp (Y0 σ.1 s p ws) s' p' m=true;rw [Ziu];exact h
theorem Z91 {A:List (List Int)} {s p v:Int} {y:List Int} (h:y∈Y4 A s p v):∃ x∈A,y.length=x.length:=by
 unfold Y4 at h
 split at h
 ·rename_i c
  obtain ⟨z,hz,_⟩:=Jb c
  rcases List.mem_or_eq_of_mem_set h with q | q
  ·exact ⟨y,q,rfl⟩
  rw [hz] at q
  exact ⟨z,Xe hz,by rw [q];exact Jc _ _ _⟩
 exact ⟨y,h,rfl⟩
theorem St.put {size most:Int} {σ:SG} (h:St size most σ) (s p v:Int):St size most (pt1 s p v σ) :=
 ⟨by show (Y4 σ.1 s p v).length≤16;rw [Kt];exact h.h16,h.hl0,h.hm,h.hmm,fun y hy=>by obtain ⟨x,hx,e⟩:=Z91 hy;rw [e];exact h.hB x hx⟩
theorem St.lays {size most:Int} (s:Int):∀ (ws:List Int) {σ:SG} (_:St size most σ) (p:Int),St size most (Y0 σ.1 s p ws,σ.2)
 | [],_,h,_=>h
 | w::ws,σ,h,p=>St.lays s ws (h.put s p w) (p+1)
theorem Zqm {size:Int} {σ:SG} {k:Int} {r:Int×Int×SG} (h:Jj size σ k=some r):(X8 σ.1 size σ.2 k).2.2.1=true∧r=((X8 σ.1 size σ.2 k).1,(X8 σ.1 size σ.2 k).2.1,(X8 σ.1 size σ.2 k).2.2.2):=by
 unfold Jj at h
 cases c:(X8 σ.1 size σ.2 k).2.2.1 with
 | true=>rw [c,cond_true] at h;exact ⟨rfl,(Option.some.inj h).symm⟩
 | false=>rw [c,cond_false] at h;cases h
theorem Jk {size most:Int} {σ:SG} {k:Int} {r:Int×Int×SG} (hs:St size most σ) (h:Jj size σ k=some r) :
  0≤k∧0≤r.1∧0≤r.2.1∧r.2.1+k≤131072∧St size most r.2.2∧Ex σ r.2.2∧Yp r.2.2.1 r.1 r.2.1 k=true∧(∀ s p,vA r.2.2.1 s p=if s=r.1∧r.2.1≤p∧p < r.2.1+k then some 0 else vA σ.1 s p)∧(∀ p,Yp σ.1 r.1 p 1=true→p < r.2.1):=by
 obtain ⟨h1,rfl⟩:=Zqm h
 have ex:∀ (A B:List (List Int)),(∀ s x,Z6 A s=some x→∃ y,Z6 B s=some y∧x.length≤y.length)→∀ s p m,Yp A s p m=true→Yp B s p m=true:=fun A B hAB s p m q=>by
  obtain ⟨x,hx,a,b,c⟩:=Jb q
  obtain ⟨y,hy,hl⟩:=hAB s x hx
  exact Zml hy a b (by omega)
 by_cases c:k < 0∨σ.2 < k
 ·have e:X8 σ.1 size σ.2 k=(0,0,false,σ.1,σ.2):=if_pos c
  rw [e] at h1;cases h1
 have:=hs.hm
 have:=hs.hmm
 have hw:IntKind.i64.wrap (σ.2 - k)=σ.2 - k:=Zcv (by omega)
 by_cases c2:σ.1.length=0∨σ.1.length < 16∧¬ k≤IntKind.i64.wrap (size - ((Jw σ.1).length:Int))
 ·have e:X8 σ.1 size σ.2 k=((σ.1.length:Int),0,true,σ.1++[zl [] k],IntKind.i64.wrap (σ.2 - k)):=(if_neg c).trans (if_pos c2)
  rw [e,hw]
  have hz:(zl [] k).length=k.toNat:=by unfold zl;simp
  refine ⟨by omega,by show (0:Int)≤(σ.1.length:Int);omega,Int.le_refl _,by show 0+k≤131072;omega,⟨by show (σ.1++[zl [] k]).length≤16;rw [List.length_append,List.length_singleton];omega,by show 0≤σ.2 - k;omega,by show σ.2 - k≤most;omega,hs.hmm,fun x hx => ?_⟩,ex _ _ fun s x hx=>⟨x,?_,Nat.le_refl _⟩,?_,fun s p => ?_,fun p hp => ?_⟩
  ·show (x.length:Int)+(σ.2 - k)≤131072
   rcases List.mem_append.1 hx with q | q
   ·have:=hs.hB x q;omega
   rw [List.mem_singleton.1 q,hz];omega
  ·have:=Qr hx
   unfold Z6 at hx ⊢
   rw [if_pos this.1] at hx ⊢
   rw [List.getElem?_append_left (by omega)];exact hx
  ·refine Zml (x:=zl [] k) ?_ (Int.le_refl _) (by omega) (by rw [hz];show 0+k≤_;omega)
   show Z6 (σ.1++[zl [] k]) (σ.1.length:Int)=_
   unfold Z6
   rw [if_pos (by omega),Int.toNat_natCast,List.getElem?_append_right (Nat.le_refl _),Nat.sub_self];rfl
  ·show vA (σ.1++[zl [] k]) s p=if s=(σ.1.length:Int)∧0≤p∧p < 0+k then some 0 else vA σ.1 s p
   rw [Zz6 (by omega),Int.zero_add]
  obtain ⟨x,hx,_⟩:=Jb hp
  have:=Qr hx
  have:(σ.1.length:Int) < σ.1.length:=this.2
  omega
 have e:X8 σ.1 size σ.2 k=((σ.1.length:Int) - 1,((Jw σ.1).length:Int),true,σ.1.set (σ.1.length - 1) (zl (Jw σ.1) k),IntKind.i64.wrap (σ.2 - k)):=(if_neg c).trans (if_neg c2)
 have hA:σ.1.length≠0:=by omega
 have l1:=Zf9 hA
 have hm:=hs.hB _ (Xe l1)
 have hz:(zl (Jw σ.1) k).length=(Jw σ.1).length+k.toNat:=by unfold zl;simp
 have se:σ.1.set (σ.1.length - 1) (zl (Jw σ.1) k)=Xr σ.1 ((σ.1.length:Int) - 1) (zl (Jw σ.1) k):=by
  unfold Xr;rw [show ((σ.1.length:Int) - 1).toNat=σ.1.length - 1 by omega]
 rw [e,hw,se]
 refine ⟨by omega,by show (0:Int)≤(σ.1.length:Int) - 1;omega,by show (0:Int)≤((Jw σ.1).length:Int);omega,by show ((Jw σ.1).length:Int)+k≤131072;omega,⟨by show (Xr σ.1 ((σ.1.length:Int) - 1) (zl (Jw σ.1) k)).length≤16;rw [Jc];exact hs.h16,by show 0≤σ.2 - k;omega,by show σ.2 - k≤most;omega,hs.hmm,fun x hx => ?_⟩,ex _ _ fun s x hx => ?_,?_,fun s p => ?_,fun p hp => ?_⟩
 ·show (x.length:Int)+(σ.2 - k)≤131072
  rcases List.mem_or_eq_of_mem_set hx with q | q
  ·have:=hs.hB x q;omega
  rw [q,hz];omega
 ·by_cases q:s=(σ.1.length:Int) - 1
  ·rw [q] at hx ⊢
   rw [l1] at hx
   have:=Option.some.inj hx;subst this
   exact ⟨_,Jv l1,by rw [hz];omega⟩
  rcases Zd1 (L:=σ.1) (zl (Jw σ.1) k) q with g | g
  ·exact ⟨x,g.trans hx,Nat.le_refl _⟩
  omega
 ·exact Zml (Jv l1) (by show (0:Int)≤((Jw σ.1).length:Int);omega) (by omega) (by rw [hz];show ((Jw σ.1).length:Int)+k≤_;omega)
 ·exact Zhy l1 (by omega) s p
 obtain ⟨x,hx,a,b,c⟩:=Jb hp
 rw [show Z6 σ.1 _=some (Jw σ.1) from l1] at hx
 have:=Option.some.inj hx;subst this
 show p < ((Jw σ.1).length:Int)
 omega
theorem Zuw {size most:Int} {σ:SG} {h:Int} {r:Int×SG} (hs:St size most σ) (e:inO size σ h=some r) :
  0≤r.1∧r.1+1≤131072∧St size most r.2∧Ex σ r.2∧Yp r.2.1 h r.1 1=true∧(∀ s p,vA r.2.1 s p=if s=h∧r.1≤p∧p < r.1+1 then some 0 else vA σ.1 s p)∧(∀ p,Yp σ.1 h p 1=true→p < r.1):=by
 unfold inO at e
 cases hx:Z6 σ.1 h with
 | none=>rw [hx] at e;cases e
 | some x =>
  rw [hx] at e
  dsimp only at e
  split at e
  ·rename_i c
   have:=Option.some.inj e;subst this
   have:=hs.hm
   have:=hs.hmm
   have hw:IntKind.i64.wrap (σ.2 - 1)=σ.2 - 1:=Zcv (by omega)
   have hl:=Qr hx
   have hb:=hs.hB x (Xe hx)
   have hz:(zl x 1).length=x.length+1:=by unfold zl;simp
   rw [hw]
   refine ⟨by show (0:Int)≤(x.length:Int);omega,by show (x.length:Int)+1≤131072;omega,⟨by show (Xr σ.1 h (zl x 1)).length≤16;rw [Jc];exact hs.h16,by show 0≤σ.2 - 1;omega,by show σ.2 - 1≤most;omega,hs.hmm,fun y hy => ?_⟩,fun s p m q => ?_,?_,fun s p=>Zhy hx (by omega) s p,fun p hp => ?_⟩
   ·show (y.length:Int)+(σ.2 - 1)≤131072
    rcases List.mem_or_eq_of_mem_set hy with q | q
    ·have:=hs.hB y q;omega
    rw [q,hz];omega
   ·obtain ⟨y,hy,a,b,c⟩:=Jb q
    show Yp (Xr σ.1 h (zl x 1)) s p m=true
    by_cases q2:s=h
    ·subst q2
     rw [hx] at hy
     have:=Option.some.inj hy;subst this
     exact Zml (Jv hx) a b (by rw [hz];omega)
    rcases Zd1 (L:=σ.1) (zl x 1) q2 with g | g
    ·exact Zml (g.trans hy) a b c
    omega
   ·exact Zml (Jv hx) (by show (0:Int)≤(x.length:Int);omega) (by omega) (by rw [hz];show (x.length:Int)+1≤_;omega)
   obtain ⟨y,hy,a,b,c⟩:=Jb hp
   rw [hx] at hy
   have:=Option.some.inj hy;subst this
   show p < (x.length:Int)
   omega
  cases e
theorem Zw2 {σ:SG} {s p:Int} (v:Int) (h:Yp σ.1 s p 1=true) (size k:Int):Jj size (pt1 s p v σ) k=(Jj size σ k).map fun r=>(r.1,r.2.1,pt1 s p v r.2.2):=by
 unfold Jj
 have:=Z69 v h size σ.2 k
 show (bif (X8 (Y4 σ.1 s p v) size σ.2 k).2.2.1 then some ((X8 (Y4 σ.1 s p v) size σ.2 k).1,(X8 (Y4 σ.1 s p v) size σ.2 k).2.1,(X8 (Y4 σ.1 s p v) size σ.2 k).2.2.2) else none)=_
 rw [this]
 dsimp only
 cases (X8 σ.1 size σ.2 k).2.2.1 <;> rfl
theorem Z9s {σ:SG} {s p:Int} (v:Int) (h:Yp σ.1 s p 1=true) (size h':Int):inO size (pt1 s p v σ) h'=(inO size σ h').map fun r=>(r.1,pt1 s p v r.2):=by
 unfold inO
 show (match Z6 (Y4 σ.1 s p v) h' with | none=>none | some x=>_)=_
 cases hx:Z6 σ.1 h' with
 | none =>
  have hl:=Zf6 hx
  have:Z6 (Y4 σ.1 s p v) h'=none:=by
   cases e:Z6 (Y4 σ.1 s p v) h' with
   | none=>rfl
   | some y=>have:=Qr e;rw [Kt] at this;omega
  rw [this];rfl
 | some x =>
  obtain ⟨y,hy,e⟩:=Z0y (s:=s) (p:=p) v hx
  rw [hy]
  dsimp only
  rw [e]
  have e2:(pt1 s p v σ).2=σ.2:=rfl
  rw [e2]
  by_cases c:1≤σ.2∧1≤IntKind.i64.wrap (size - (x.length:Int))
  ·rw [if_pos c,if_pos c]
   refine congrArg some (Prod.ext rfl (Prod.ext ?_ rfl))
   show Xr (Y4 σ.1 s p v) h' (zl y 1)=Y4 (Xr σ.1 h' (zl x 1)) s p v
   have hb:Yp (Xr σ.1 h' (zl x 1)) s p 1=true:=hasB_iff.2 (by
    obtain ⟨w,hw⟩:=hasB_iff.1 h
    rw [Zhy hx (by omega)]
    split
    ·exact ⟨0,rfl⟩
    exact ⟨w,hw⟩)
   obtain ⟨z,hz,h0,_,h2⟩:=Jb h
   refine Zv0 (by simp only [Jc,Kt]) fun a b => ?_
   rw [Zhy hy (by omega),Ku _ hb,Zhy hx (by omega),Ku _ h,e]
   by_cases q:a=s∧b=p
   ·rw [if_pos q,if_pos q,if_neg]
    intro q2
    rw [← q2.1,q.1,hz] at hx
    have:=Option.some.inj hx
    rw [← this] at q2
    omega
   rw [if_neg q,if_neg q]
  rw [if_neg c,if_neg c];rfl
theorem Znk (σ:SG) {s p s' p':Int} (v v':Int) (h:¬ (s'=s∧p'=p)):pt1 s' p' v' (pt1 s p v σ)=pt1 s p v (pt1 s' p' v' σ):=Prod.ext (Zzw σ.1 v v' h) rfl
theorem Z6q {size most:Int} {σ:SG} {s p s' p':Int} (v:Int) (hs:St size most σ) (h:Yp σ.1 s p 1=true) (hne:¬ (s'=s∧p'=p)) (k u h' b:Int):Zcu size (pt1 s p v σ) s' p' k u h' b=(Zcu size σ s' p' k u h' b).map (pt1 s p v):=by
 unfold Zcu
 by_cases c1:k=0∧u=0
 ·rw [if_pos c1,if_pos c1,Znk _ _ _ hne];rfl
 rw [if_neg c1,if_neg c1]
 by_cases c2:h'=s'
 ·rw [if_pos c2,if_pos c2,Znk _ _ _ hne];rfl
 rw [if_neg c2,if_neg c2,Z9s v h]
 cases hi:inO size σ h' with
 | some r =>
  have o:=Zuw hs hi
  show some _=some _
  dsimp only
  rw [Znk (s:=s) (p:=p) r.2 (s':=h') (p':=r.1) _ _ (fun q=>by have:=o.2.2.2.2.2.2 p (by rw [q.1];exact h);omega),Znk _ _ _ hne]
 | none =>
  show Option.map _ _=Option.map _ _
  rw [Zw2 v h]
  cases hg:Jj size σ 2 with
  | none=>rfl
  | some r =>
   have o:=Jk hs hg
   show some _=some _
   dsimp only
   have e:((Y0 (pt1 s p v r.2.2).1 r.1 r.2.1 [fw h' b 0,k+u * 4294967296],(pt1 s p v r.2.2).2):SG)=pt1 s p v (Y0 r.2.2.1 r.1 r.2.1 [fw h' b 0,k+u * 4294967296],r.2.2.2) :=
    Prod.ext (Zjl s p v r.1 _ r.2.2.1 r.2.1 (fun q=>by have:=o.2.2.2.2.2.2.2.2 p (by rw [← q.1];exact h);omega)) rfl
   rw [e,Znk _ _ _ hne]
theorem Zl3 {size most:Int} {σ τ:SG} {s p k u h b:Int} (hs:St size most σ) (e:Zcu size σ s p k u h b=some τ):St size most τ∧Ex σ τ∧∀ s' p',Yp σ.1 s' p' 1=true→¬ (s'=s∧p'=p)→vA τ.1 s' p'=vA σ.1 s' p':=by
 have one:∀ (ρ:SG) (v:Int) (s' p':Int),¬ (s'=s∧p'=p)→vA (pt1 s p v ρ).1 s' p'=vA ρ.1 s' p':=fun ρ v s' p' hne=>by
  show vA (Y4 ρ.1 s p v) s' p'=_
  by_cases c:Yp ρ.1 s p 1=true
  ·rw [Ku _ c,if_neg hne]
  rw [Znm v c]
 unfold Zcu at e
 split at e
 ·have:=Option.some.inj e;subst this
  exact ⟨hs.put _ _ _,Ex.put _ _ _ _,fun s' p' _ hne=>one _ _ _ _ hne⟩
 split at e
 ·have:=Option.some.inj e;subst this
  exact ⟨hs.put _ _ _,Ex.put _ _ _ _,fun s' p' _ hne=>one _ _ _ _ hne⟩
 cases hi:inO size σ h with
 | some r =>
  rw [hi] at e
  have:=Option.some.inj e;subst this
  have o:=Zuw hs hi
  refine ⟨(o.2.2.1.put _ _ _).put _ _ _,o.2.2.2.1.trans ((Ex.put _ _ _ _).trans (Ex.put _ _ _ _)),fun s' p' hb hne => ?_⟩
  rw [one _ _ _ _ hne]
  show vA (Y4 r.2.1 h r.1 _) s' p'=_
  rw [Ku _ o.2.2.2.2.1,o.2.2.2.2.2.1]
  have:¬ (s'=h∧r.1≤p'):=fun q=>by have:=o.2.2.2.2.2.2 p' (by rw [← q.1];exact hb);omega
  rw [if_neg (fun q=>this ⟨q.1,by omega⟩),if_neg (fun q=>this ⟨q.1,q.2.1⟩)]
 | none =>
  rw [hi] at e
  dsimp only at e
  cases hg:Jj size σ 2 with
  | none=>rw [hg] at e;cases e
  | some r =>
   rw [hg] at e
   have:=Option.some.inj e;subst this
   have o:=Jk hs hg
   refine ⟨(St.lays r.1 _ o.2.2.2.2.1 r.2.1).put _ _ _,o.2.2.2.2.2.1.trans ((Ex.lays _ _ _ _).trans (Ex.put _ _ _ _)),fun s' p' hb hne => ?_⟩
   rw [one _ _ _ _ hne]
   have hf:¬ (s'=r.1∧r.2.1≤p'):=fun q=>by have:=o.2.2.2.2.2.2.2.2 p' (by rw [← q.1];exact hb);omega
   have h0:=o.2.2.2.2.2.2.1
   have b0:Yp r.2.2.1 r.1 r.2.1 1=true:=Gx h0 (Int.le_refl _) (by omega)
   have b1:Yp (Y4 r.2.2.1 r.1 r.2.1 (fw h b 0)) r.1 (r.2.1+1) 1=true:=by rw [Zax];exact Gx h0 (by omega) (by omega)
   show vA (Y4 (Y4 r.2.2.1 r.1 r.2.1 _) r.1 (r.2.1+1) _) s' p'=_
   rw [Ku _ b1,Ku _ b0,o.2.2.2.2.2.2.2.1,if_neg (fun q=>hf ⟨q.1,by omega⟩),if_neg (fun q=>hf ⟨q.1,by omega⟩),if_neg (fun q=>hf ⟨q.1,q.2.1⟩)]
noncomputable def Kl (f:Tr→Int→Int→SG→Option SG) (s:Int):Int→List Tr→SG→Option SG
 | _,[],σ=>some σ
 | p,t::ts,σ=>(f t s p σ).bind (Kl f s (p+1) ts)
noncomputable def Qy (s m:Int):Int→List Tr→List (List Int)→List (List Int)
 | _,[],A=>A
 | p,t::ts,A=>Qy s m (p+m) ts (Y0 A s p t.Words)
noncomputable def Gl (f:Tr→Int→Int→SG→Option SG) (s m w:Int):Int→List Tr→SG→Option SG
 | _,[],σ=>some σ
 | p,t::ts,σ=>(Kl f s (p+w) t.Kids σ).bind (Gl f s m w (p+m) ts)
noncomputable def Zk0 (f:Tr→Int→Int→SG→Option SG) (s m w:Int):Int→List Tr→SG→Option SG
 | _,[],σ=>some σ
 | p,t::ts,σ=>(Kl f s (p+w) t.Kids (Y0 σ.1 s p t.Words,σ.2)).bind (Zk0 f s m w (p+m) ts)
def Zdn (t:Tr):Int:=(t.Kids.length:Int) * 4+(fr t.Kids).1 * 4294967296+(fr t.Kids).2 * 281474976710656
def pkd (t:Tr):Int:=if t.Kind=1 then 0 else 1
def pup (t:Tr):Int:=if t.Kind=1 then (t.Words.length:Int)+65536 * (t.Kids.length:Int) else if t.Kind=9 then 7+8 * ((t.Kids.length:Int) * ((fr t.Kids).1+(fr t.Kids).2)) else t.Kind - 2+8 * (t.Kids.length:Int)
def pwd (t:Tr):Int:=if t.Kind=1 then (t.Words.length:Int)+(t.Kids.length:Int) else if t.Kind=9 then 1+(t.Kids.length:Int) * ((fr t.Kids).1+(fr t.Kids).2) else if t.Kind=8 then (t.Kids.length:Int) else ((Zdi (t.Kind - 2) (ato t)).length:Int)
noncomputable def inT (o:Bool) (f:Tr→Int→Int→SG→Option SG) (h b:Int) (t:Tr) (σ:SG):Option SG :=
 if t.Kind=1 then Kl f h (b+(t.Words.length:Int)) t.Kids (Y0 σ.1 h b t.Words,σ.2)
 else if t.Kind=8 then Kl f h b t.Kids σ
 else if t.Kind=9 then
  (if o=true then Gl f h ((fr t.Kids).1+(fr t.Kids).2) (fr t.Kids).1 (b+1) t.Kids (Qy h ((fr t.Kids).1+(fr t.Kids).2) (b+1) t.Kids (if t.Kids=[] then σ.1 else Y4 σ.1 h b (Zdn t)),σ.2)
  else Zk0 f h ((fr t.Kids).1+(fr t.Kids).2) (fr t.Kids).1 (b+1) t.Kids (Y4 σ.1 h b (Zdn t),σ.2))
 else some (Y0 σ.1 h b (Zdi (t.Kind - 2) (ato t)),σ.2)
noncomputable def Zhl (o:Bool) (size:Int):Nat→Tr→Int→Int→SG→Option SG
 | 0,_,_,_,σ=>some σ
 | d+1,t,s,p,σ=>if t.Kind=0 then some σ else (Jj size σ (pwd t)).bind fun r=>(Zcu size r.2.2 s p (pkd t) (pup t) r.1 r.2.1).bind fun τ=>inT o (Zhl o size d) r.1 r.2.1 t τ
def Zas (size most:Int) (f:Tr→Int→Int→SG→Option SG):Prop:=∀ t s' p' σ,St size most σ →
 (∀ τ,f t s' p' σ=some τ→St size most τ∧Ex σ τ)∧∀ s p v,Yp σ.1 s p 1=true→¬ (s'=s∧p'=p)→f t s' p' (pt1 s p v σ)=(f t s' p' σ).map (pt1 s p v)
theorem Ga {size most:Int} {f:Tr→Int→Int→SG→Option SG} (hf:Zas size most f) (s':Int):∀ (ts:List Tr) (p':Int) (σ:SG),St size most σ →
  (∀ τ,Kl f s' p' ts σ=some τ→St size most τ∧Ex σ τ)∧∀ s p v,Yp σ.1 s p 1=true→¬ (s=s'∧p'≤p∧p < p'+(ts.length:Int))→Kl f s' p' ts (pt1 s p v σ)=(Kl f s' p' ts σ).map (pt1 s p v)
 | [],p',σ,hs=>⟨fun τ e=>by have:=Option.some.inj e;subst this;exact ⟨hs,Ex.refl _⟩,fun _ _ _ _ _=>rfl⟩
 | t::ts,p',σ,hs=>by
  obtain ⟨a,b⟩:=hf t s' p' σ hs
  refine ⟨fun τ e => ?_,fun s p v hb hne => ?_⟩
  ·rw [Kl] at e
   cases h1:f t s' p' σ with
   | none=>rw [h1] at e;cases e
   | some ρ =>
    rw [h1] at e
    obtain ⟨c1,c2⟩:=a ρ h1
    obtain ⟨d1,d2⟩:=(Ga hf s' ts (p'+1) ρ c1).1 τ e
    exact ⟨d1,c2.trans d2⟩
  rw [List.length_cons] at hne
  rw [Kl,Kl,b s p v hb (fun q=>hne ⟨q.1.symm,by omega⟩)]
  cases h1:f t s' p' σ with
  | none=>rfl
  | some ρ =>
   obtain ⟨c1,c2⟩:=a ρ h1
   show Kl f s' (p'+1) ts (pt1 s p v ρ)=(Kl f s' (p'+1) ts ρ).map (pt1 s p v)
   exact (Ga hf s' ts (p'+1) ρ c1).2 s p v (c2 _ _ _ hb) (fun q=>hne ⟨q.1,by omega⟩)
theorem Zpo (s m s' p' k:Int):∀ (ts:List Tr) (p:Int) (A:List (List Int)),Yp (Qy s m p ts A) s' p' k=Yp A s' p' k
 | [],_,_=>rfl
 | t::ts,p,A=>by rw [Qy,Zpo s m s' p' k ts,Ziu]
theorem St.words {size most:Int} (s m:Int):∀ (ts:List Tr) (p:Int) {σ:SG},St size most σ→St size most (Qy s m p ts σ.1,σ.2)
 | [],_,_,h=>h
 | t::ts,p,σ,h=>St.words s m ts (p+m) (St.lays s t.Words h p)
theorem Ex.words (s m:Int) (ts:List Tr) (p:Int) (σ:SG):Ex σ (Qy s m p ts σ.1,σ.2):=fun s' p' k h=>by show Yp (Qy s m p ts σ.1) s' p' k=true;rw [Zpo];exact h
theorem Zxb (s p v s' m:Int):∀ (ts:List Tr) (p':Int) (A:List (List Int)),(0≤m)→(s=s'→p < p')→Qy s' m p' ts (Y4 A s p v)=Y4 (Qy s' m p' ts A) s p v
 | [],_,_,_,_=>rfl
 | t::ts,p',A,hm,h=>by
  rw [Qy,Qy,Zjl s p v s' t.Words A p' (fun q=>by have:=h q.1;omega),Zxb s p v s' m ts (p'+m) _ hm (fun q=>by have:=h q;omega)]
theorem Zpr {size most:Int} {f:Tr→Int→Int→SG→Option SG} (hf:Zas size most f) (s' m w:Int) (hm:0≤m) (hw:0≤w):∀ (ts:List Tr) (p':Int) (σ:SG),St size most σ →
  (∀ τ,Gl f s' m w p' ts σ=some τ→St size most τ∧Ex σ τ)∧∀ s p v,Yp σ.1 s p 1=true→(s=s'→p < p')→Gl f s' m w p' ts (pt1 s p v σ)=(Gl f s' m w p' ts σ).map (pt1 s p v)
 | [],p',σ,hs=>⟨fun τ e=>by have:=Option.some.inj e;subst this;exact ⟨hs,Ex.refl _⟩,fun _ _ _ _ _=>rfl⟩
 | t::ts,p',σ,hs=>by
  obtain ⟨a,b⟩:=Ga hf s' t.Kids (p'+w) σ hs
  refine ⟨fun τ e => ?_,fun s p v hb hne => ?_⟩
  ·rw [Gl] at e
   cases h1:Kl f s' (p'+w) t.Kids σ with
   | none=>rw [h1] at e;cases e
   | some ρ =>
    rw [h1] at e
    obtain ⟨c1,c2⟩:=a ρ h1
    obtain ⟨d1,d2⟩:=(Zpr hf s' m w hm hw ts (p'+m) ρ c1).1 τ e
    exact ⟨d1,c2.trans d2⟩
  rw [Gl,Gl,b s p v hb (fun q=>by have:=hne q.1;omega)]
  cases h1:Kl f s' (p'+w) t.Kids σ with
  | none=>rfl
  | some ρ =>
   obtain ⟨c1,c2⟩:=a ρ h1
   exact (Zpr hf s' m w hm hw ts (p'+m) ρ c1).2 s p v (c2 _ _ _ hb) (fun q=>by have:=hne q;omega)
theorem Zpg {size most:Int} {f:Tr→Int→Int→SG→Option SG} (hf:Zas size most f) (s' m w:Int) (hm:0≤m) (hw:0≤w):∀ (ts:List Tr) (p':Int) (σ:SG),St size most σ →
  (∀ τ,Zk0 f s' m w p' ts σ=some τ→St size most τ∧Ex σ τ)∧∀ s p v,Yp σ.1 s p 1=true→(s=s'→p < p')→Zk0 f s' m w p' ts (pt1 s p v σ)=(Zk0 f s' m w p' ts σ).map (pt1 s p v)
 | [],p',σ,hs=>⟨fun τ e=>by have:=Option.some.inj e;subst this;exact ⟨hs,Ex.refl _⟩,fun _ _ _ _ _=>rfl⟩
 | t::ts,p',σ,hs=>by
  have hs2:St size most (Y0 σ.1 s' p' t.Words,σ.2):=St.lays s' _ hs _
  obtain ⟨a,b⟩:=Ga hf s' t.Kids (p'+w) _ hs2
  refine ⟨fun τ e => ?_,fun s p v hb hne => ?_⟩
  ·rw [Zk0] at e
   cases h1:Kl f s' (p'+w) t.Kids (Y0 σ.1 s' p' t.Words,σ.2) with
   | none=>rw [h1] at e;cases e
   | some ρ =>
    rw [h1] at e
    obtain ⟨c1,c2⟩:=a ρ h1
    obtain ⟨d1,d2⟩:=(Zpg hf s' m w hm hw ts (p'+m) ρ c1).1 τ e
    exact ⟨d1,(Ex.lays _ _ _ _).trans (c2.trans d2)⟩
  have e1:((Y0 (pt1 s p v σ).1 s' p' t.Words,(pt1 s p v σ).2):SG)=pt1 s p v (Y0 σ.1 s' p' t.Words,σ.2):=Prod.ext (Zjl s p v s' t.Words σ.1 p' (fun q=>by have:=hne q.1;omega)) rfl
  rw [Zk0,Zk0,e1,b s p v (Ex.lays _ _ _ _ _ _ _ hb) (fun q=>by have:=hne q.1;omega)]
  cases h1:Kl f s' (p'+w) t.Kids (Y0 σ.1 s' p' t.Words,σ.2) with
  | none=>rfl
  | some ρ =>
   obtain ⟨c1,c2⟩:=a ρ h1
   exact (Zpg hf s' m w hm hw ts (p'+m) ρ c1).2 s p v (c2 _ _ _ (Ex.lays _ _ _ _ _ _ _ hb)) (fun q=>by have:=hne q;omega)
theorem Ycx (l:List Tr):0≤(fr l).1∧0≤(fr l).2:=by
 unfold fr
 have:∀ (l:List Tr) (s:Int×Int),0≤s.1→0≤s.2→0≤(l.foldl frS s).1∧0≤(l.foldl frS s).2:=fun l=>by
  induction l with
  | nil=>intro s a b;exact ⟨a,b⟩
  | cons x l ih=>intro s a b;exact ih _ (by unfold frS;dsimp only;omega) (by unfold frS;dsimp only;omega)
 exact this l (0,0) (Int.le_refl _) (Int.le_refl _)
theorem Z05 {size most:Int} {f:Tr→Int→Int→SG→Option SG} (hf:Zas size most f) (o:Bool) (h b:Int) (t:Tr) {σ:SG} (hs:St size most σ) :
  (∀ τ,inT o f h b t σ=some τ→St size most τ∧Ex σ τ)∧∀ s p v,Yp σ.1 s p 1=true→(s=h→p < b)→inT o f h b t (pt1 s p v σ)=(inT o f h b t σ).map (pt1 s p v):=by
 obtain ⟨w0,k0⟩:=Ycx t.Kids
 unfold inT
 by_cases c1:t.Kind=1
 ·simp only [if_pos c1]
  obtain ⟨a,b'⟩:=Ga hf h t.Kids (b+(t.Words.length:Int)) (Y0 σ.1 h b t.Words,σ.2) (St.lays h _ hs b)
  refine ⟨fun τ e => ?_,fun s p v hb hne => ?_⟩
  ·obtain ⟨q1,q2⟩:=a τ e
   exact ⟨q1,(Ex.lays _ _ _ _).trans q2⟩
  rw [← b' s p v (Ex.lays _ _ _ _ _ _ _ hb) (fun q=>by have:=hne q.1;omega)]
  congr 1
  exact Prod.ext (Zjl s p v h t.Words σ.1 b (fun q=>by have:=hne q.1;omega)) rfl
 by_cases c8:t.Kind=8
 ·simp only [if_neg c1,if_pos c8]
  obtain ⟨a,b'⟩:=Ga hf h t.Kids b σ hs
  exact ⟨a,fun s p v hb hne=>b' s p v hb (fun q=>by have:=hne q.1;omega)⟩
 by_cases c9:t.Kind=9
 ·simp only [if_neg c1,if_neg c8,if_pos c9]
  cases o with
  | true =>
   simp only [if_true]
   have htag:∀ s p v,(s=h→p < b)→(if t.Kids=[] then (pt1 s p v σ).1 else Y4 (pt1 s p v σ).1 h b (Zdn t))=Y4 (if t.Kids=[] then σ.1 else Y4 σ.1 h b (Zdn t)) s p v:=fun s p v hne=>by
    by_cases e:t.Kids=[]
    ·rw [if_pos e,if_pos e];rfl
    rw [if_neg e,if_neg e]
    exact Zzw σ.1 _ _ (fun q=>by have:=hne q.1.symm;omega)
   have hs1:St size most ((if t.Kids=[] then σ.1 else Y4 σ.1 h b (Zdn t)),σ.2):=by
    split
    ·exact hs
    exact hs.put _ _ _
   have he1:Ex σ ((if t.Kids=[] then σ.1 else Y4 σ.1 h b (Zdn t)),σ.2):=by
    split
    ·exact Ex.refl _
    exact Ex.put _ _ _ _
   have hs2:=St.words h ((fr t.Kids).1+(fr t.Kids).2) t.Kids (b+1) hs1
   obtain ⟨a,b'⟩:=Zpr hf h ((fr t.Kids).1+(fr t.Kids).2) (fr t.Kids).1 (by omega) w0 t.Kids (b+1) _ hs2
   refine ⟨fun τ e => ?_,fun s p v hb hne => ?_⟩
   ·obtain ⟨q1,q2⟩:=a τ e
    exact ⟨q1,(he1.trans (Ex.words _ _ _ _ _)).trans q2⟩
   rw [htag s p v hne,Zxb s p v h _ t.Kids (b+1) _ (by omega) (fun q=>by have:=hne q;omega)]
   exact b' s p v (he1.trans (Ex.words _ _ _ _ _) _ _ _ hb) (fun q=>by have:=hne q;omega)
  | false =>
   simp only [Bool.false_eq_true,if_false]
   obtain ⟨a,b'⟩:=Zpg hf h ((fr t.Kids).1+(fr t.Kids).2) (fr t.Kids).1 (by omega) w0 t.Kids (b+1) (pt1 h b (Zdn t) σ) (hs.put _ _ _)
   refine ⟨fun τ e => ?_,fun s p v hb hne => ?_⟩
   ·obtain ⟨q1,q2⟩:=a τ e
    exact ⟨q1,(Ex.put _ _ _ _).trans q2⟩
   have e1:((Y4 (pt1 s p v σ).1 h b (Zdn t),(pt1 s p v σ).2):SG)=pt1 s p v (pt1 h b (Zdn t) σ):=Znk σ _ _ (fun q=>by have:=hne q.1.symm;omega)
   rw [e1]
   exact b' s p v (Ex.put _ _ _ _ _ _ _ hb) (fun q=>by have:=hne q;omega)
 simp only [if_neg c1,if_neg c8,if_neg c9]
 refine ⟨fun τ e => ?_,fun s p v hb hne => ?_⟩
 ·have:=Option.some.inj e;subst this
  exact ⟨St.lays h _ hs b,Ex.lays _ _ _ _⟩
 exact congrArg some (Prod.ext (Zjl s p v h _ σ.1 b (fun q=>by have:=hne q.1;omega)) rfl)
theorem Zd8 (o:Bool) (size most:Int):∀ d,Zas size most (Zhl o size d)
 | 0=>fun t s' p' σ hs=>⟨fun τ e=>by have:=Option.some.inj e;subst this;exact ⟨hs,Ex.refl _⟩,fun _ _ _ _ _=>rfl⟩
 | d+1=>fun t s' p' σ hs=>by
  have ih:=Zd8 o size most d
  simp only [Zhl]
  by_cases c0:t.Kind=0
  ·simp only [if_pos c0]
   exact ⟨fun τ e=>by have:=Option.some.inj e;subst this;exact ⟨hs,Ex.refl _⟩,fun _ _ _ _ _=>rfl⟩
  simp only [if_neg c0]
  refine ⟨fun τ e => ?_,fun s p v hb hne => ?_⟩
  ·cases hg:Jj size σ (pwd t) with
   | none=>rw [hg] at e;cases e
   | some r =>
    rw [hg,Option.bind_some] at e
    have g:=Jk hs hg
    cases ha:Zcu size r.2.2 s' p' (pkd t) (pup t) r.1 r.2.1 with
    | none=>rw [ha] at e;cases e
    | some ρ =>
     rw [ha,Option.bind_some] at e
     have a:=Zl3 g.2.2.2.2.1 ha
     have i:=(Z05 ih o r.1 r.2.1 t a.1).1 τ e
     exact ⟨i.1,g.2.2.2.2.2.1.trans (a.2.1.trans i.2)⟩
  rw [Zw2 v hb]
  cases hg:Jj size σ (pwd t) with
  | none=>rfl
  | some r =>
   have g:=Jk hs hg
   rw [Option.map_some,Option.bind_some,Option.bind_some]
   dsimp only
   rw [Z6q v g.2.2.2.2.1 (g.2.2.2.2.2.1 _ _ _ hb) hne]
   cases ha:Zcu size r.2.2 s' p' (pkd t) (pup t) r.1 r.2.1 with
   | none=>rfl
   | some ρ =>
    have a:=Zl3 g.2.2.2.2.1 ha
    rw [Option.map_some,Option.bind_some,Option.bind_some]
    exact (Z05 ih o r.1 r.2.1 t a.1).2 s p v (a.2.1 _ _ _ (g.2.2.2.2.2.1 _ _ _ hb)) (fun q=>g.2.2.2.2.2.2.2.2 p (by rw [← q];exact hb))
theorem Zw5 {size most:Int} {f:Tr→Int→Int→SG→Option SG} (hf:Zas size most f) (s':Int) (ts:List Tr) (p':Int):∀ (ws:List Int) (p:Int) (σ:SG),St size most σ→(p'+(ts.length:Int)≤p)→(∀ q,p≤q→q < p+(ws.length:Int)→Yp σ.1 s' q 1=true)→Kl f s' p' ts (Y0 σ.1 s' p ws,σ.2)=(Kl f s' p' ts σ).map fun τ=>(Y0 τ.1 s' p ws,τ.2)
 | [],_,σ,_,_,_=>by
  show Kl f s' p' ts σ=_
  cases Kl f s' p' ts σ <;> rfl
 | w::ws,p,σ,hs,hp,hb=>by
  rw [List.length_cons] at hb
  have h1:=Zw5 hf s' ts p' ws (p+1) (pt1 s' p w σ) (hs.put _ _ _) (by omega) (fun q a b=>Ex.put _ _ _ _ _ _ _ (hb q (by omega) (by omega)))
  show Kl f s' p' ts (Y0 (pt1 s' p w σ).1 s' (p+1) ws,(pt1 s' p w σ).2)=_
  rw [h1,(Ga hf s' ts p' σ hs).2 s' p w (hb p (Int.le_refl _) (by omega)) (fun q=>by omega)]
  cases Kl f s' p' ts σ <;> rfl
theorem Zux {size most:Int} {f:Tr→Int→Int→SG→Option SG} (hf:Zas size most f) (s':Int) (ts:List Tr) (p' m:Int) (hm:0≤m):∀ (us:List Tr) (p:Int) (σ:SG),St size most σ→(p'+(ts.length:Int)≤p)→(∀ u∈us,(u.Words.length:Int)≤m)→(∀ q,p≤q→q < p+(us.length:Int) * m→Yp σ.1 s' q 1=true)→Kl f s' p' ts (Qy s' m p us σ.1,σ.2)=(Kl f s' p' ts σ).map fun τ=>(Qy s' m p us τ.1,τ.2)
 | [],_,σ,_,_,_,_=>by
  show Kl f s' p' ts σ=_
  cases Kl f s' p' ts σ <;> rfl
 | u::us,p,σ,hs,hp,hu,hb=>by
  have hu1:=hu u List.mem_cons_self
  rw [List.length_cons,Int.natCast_add,Int.add_mul] at hb
  have hn:0≤(us.length:Int) * m:=Int.mul_nonneg (by omega) hm
  have h1:=Zux hf s' ts p' m hm us (p+m) (Y0 σ.1 s' p u.Words,σ.2) (St.lays s' _ hs p) (by omega) (fun x hx=>hu x (List.mem_cons_of_mem _ hx)) (fun q a b=>Ex.lays _ _ _ _ _ _ _ (hb q (by omega) (by simp only [Int.natCast_one,Int.one_mul];omega)))
  show Kl f s' p' ts (Qy s' m (p+m) us (Y0 σ.1 s' p u.Words),σ.2)=_
  rw [h1,Zw5 hf s' ts p' u.Words p σ hs hp (fun q a b=>hb q a (by simp only [Int.natCast_one,Int.one_mul];omega))]
  cases Kl f s' p' ts σ <;> rfl
theorem Zwv {size most:Int} {f:Tr→Int→Int→SG→Option SG} (hf:Zas size most f) (s' m w:Int) (hm:0≤m) (hw:0≤w):∀ (us:List Tr) (p:Int) (σ:SG),St size most σ→(∀ u∈us,(u.Words.length:Int)≤w∧w+(u.Kids.length:Int)≤m)→(∀ q,p≤q→q < p+(us.length:Int) * m→Yp σ.1 s' q 1=true)→Zk0 f s' m w p us σ=Gl f s' m w p us (Qy s' m p us σ.1,σ.2)
 | [],_,_,_,_,_=>rfl
 | u::us,p,σ,hs,hu,hb=>by
  have hu1:=hu u List.mem_cons_self
  rw [List.length_cons,Int.natCast_add,Int.add_mul] at hb
  have hn:0≤(us.length:Int) * m:=Int.mul_nonneg (by omega) hm
  have hs1:=St.lays s' u.Words hs p
  rw [Zk0,Gl,Qy]
  have hb1:∀ q,p+m≤q→q < p+m+(us.length:Int) * m→Yp (Y0 σ.1 s' p u.Words) s' q 1=true:=fun q a b=>Ex.lays _ _ _ _ _ _ _ (hb q (by omega) (by simp only [Int.natCast_one,Int.one_mul];omega))
  have h1:=Zux hf s' u.Kids (p+w) m hm us (p+m) (Y0 σ.1 s' p u.Words,σ.2) hs1 (by omega) (fun x hx=>by have:=hu x (List.mem_cons_of_mem _ hx);omega) hb1
  rw [h1]
  have a:=(Ga hf s' u.Kids (p+w) _ hs1).1
  cases e:Kl f s' (p+w) u.Kids (Y0 σ.1 s' p u.Words,σ.2) with
  | none=>rfl
  | some ρ =>
   obtain ⟨a1,a2⟩:=a ρ e
   rw [Option.map_some,Option.bind_some,Option.bind_some]
   exact Zwv hf s' m w hm hw us (p+m) ρ a1 (fun x hx=>hu x (List.mem_cons_of_mem _ hx)) (fun q x y=>a2 _ _ _ (hb1 q x y))
def Agr (size most:Int) (f g:Tr→Int→Int→SG→Option SG) (ts:List Tr):Prop:=∀ t∈ts,∀ s p σ,St size most σ→Yp σ.1 s p 1=true→f t s p σ=g t s p σ
theorem Zkg {size most:Int} {f g:Tr→Int→Int→SG→Option SG} (hf:Zas size most f) (s:Int):∀ (ts:List Tr) (p:Int) (σ:SG),Agr size most f g ts→St size most σ→(∀ q,p≤q→q < p+(ts.length:Int)→Yp σ.1 s q 1=true)→Kl f s p ts σ=Kl g s p ts σ
 | [],_,_,_,_,_=>rfl
 | t::ts,p,σ,ha,hs,hb=>by
  rw [List.length_cons] at hb
  rw [Kl,Kl,← ha t List.mem_cons_self s p σ hs (hb p (Int.le_refl _) (by omega))]
  cases e:f t s p σ with
  | none=>rfl
  | some ρ =>
   obtain ⟨a,b⟩:=(hf t s p σ hs).1 ρ e
   exact Zkg hf s ts (p+1) ρ (fun x hx=>ha x (List.mem_cons_of_mem _ hx)) a (fun q x y=>b _ _ _ (hb q (by omega) (by omega)))
theorem Ztn {size most:Int} {f g:Tr→Int→Int→SG→Option SG} (hf:Zas size most f) (s m w:Int) (hm:0≤m) (hw:0≤w):∀ (us:List Tr) (p:Int) (σ:SG),(∀ u∈us,Agr size most f g u.Kids)→(∀ u∈us,w+(u.Kids.length:Int)≤m)→St size most σ→(∀ q,p≤q→q < p+(us.length:Int) * m→Yp σ.1 s q 1=true)→Gl f s m w p us σ=Gl g s m w p us σ
 | [],_,_,_,_,_,_=>rfl
 | u::us,p,σ,ha,hu,hs,hb=>by
  have hu1:=hu u List.mem_cons_self
  rw [List.length_cons,Int.natCast_add,Int.add_mul] at hb
  simp only [Int.natCast_one,Int.one_mul] at hb
  have hn:0≤(us.length:Int) * m:=Int.mul_nonneg (by omega) hm
  rw [Gl,Gl,← Zkg hf s u.Kids (p+w) σ (ha u List.mem_cons_self) hs (fun q x y=>hb q (by omega) (by omega))]
  cases e:Kl f s (p+w) u.Kids σ with
  | none=>rfl
  | some ρ =>
   obtain ⟨a,b⟩:=(Ga hf s u.Kids (p+w) σ hs).1 ρ e
   exact Ztn hf s m w hm hw us (p+m) ρ (fun x hx=>ha x (List.mem_cons_of_mem _ hx)) (fun x hx=>hu x (List.mem_cons_of_mem _ hx)) a (fun q x y=>b _ _ _ (hb q (by omega) (by omega)))
theorem Zun {t:Tr} {d:Nat} (h:Fine t d) (h9:t.Kind=9):0≤(t.Kids.length:Int) * ((fr t.Kids).1+(fr t.Kids).2)∧(t.Kids.length:Int) * ((fr t.Kids).1+(fr t.Kids).2)≤26214000000∧(0≤(fr t.Kids).1∧(fr t.Kids).1≤65535∧0≤(fr t.Kids).2∧(fr t.Kids).2≤65535∧∀ x∈t.Kids,(x.Words.length:Int)≤(fr t.Kids).1∧(x.Kids.length:Int)≤(fr t.Kids).2):=by
 have p:=h.pt
 have pk:=Ze2 t
 exact (Z33 (l:=t.Kids) (by omega) (fun x hx=>by
  obtain ⟨r1,r2⟩:=(Q1 h.rt (by omega) (by omega)).2.2.2 x hx
  have k1:=(Km (by omega) r2).2 h9
  obtain ⟨a1,a2,_⟩:=Q1 r1 (by omega) (by omega)
  have:=a2 k1
  omega)).2
theorem Zg9 {t:Tr} (h:t.Kind=1):pwd t=(t.Words.length:Int)+(t.Kids.length:Int):=by unfold pwd;rw [if_pos h]
theorem Zg8 {t:Tr} (h:t.Kind=9):pwd t=1+(t.Kids.length:Int) * ((fr t.Kids).1+(fr t.Kids).2):=by unfold pwd;rw [if_neg (by omega),if_pos h]
theorem Zra {t:Tr} (h:t.Kind=8):pwd t=(t.Kids.length:Int):=by unfold pwd;rw [if_neg (by omega),if_neg (by omega),if_pos h]
theorem Z7c {size most:Int} {f g:Tr→Int→Int→SG→Option SG} (hf:Zas size most f) (hg:Zas size most g) {h b:Int} {t:Tr} {d:Nat} {σ:SG} (hF:Fine t d) (hk:t.Kind=1∨t.Kind=8→Agr size most f g t.Kids) (hk9:t.Kind=9→∀ u∈t.Kids,Agr size most f g u.Kids) (h10:t.Kind=1∨t.Kind=8∨t.Kind=9∨2≤t.Kind∧t.Kind≤7) (hs:St size most σ) (hb:Yp σ.1 h b (pwd t)=true) (hz:t.Kind=9→vA σ.1 h b=some 0):inT true f h b t σ=inT false g h b t σ:=by
 unfold inT
 have one:∀ q,b≤q→q < b+pwd t→Yp σ.1 h q 1=true:=fun q x y=>Gx hb x y
 by_cases c1:t.Kind=1
 ·simp only [if_pos c1]
  rw [Zg9 c1] at one
  exact Zkg hf h t.Kids _ _ (hk (.inl c1)) (St.lays h _ hs b) (fun q x y=>Ex.lays _ _ _ _ _ _ _ (one q (by omega) (by omega)))
 by_cases c8:t.Kind=8
 ·simp only [if_neg c1,if_pos c8]
  rw [Zra c8] at one
  exact Zkg hf h t.Kids _ _ (hk (.inr c8)) hs (fun q x y=>one q x y)
 by_cases c9:t.Kind=9
 ·obtain ⟨a1,a2,w0,w1,k0,k1,ak⟩:=Zun hF c9
  simp only [if_neg c1,if_neg c8,if_pos c9,if_true,Bool.false_eq_true,if_false]
  rw [Zg8 c9] at one
  have e1:(if t.Kids=[] then σ.1 else Y4 σ.1 h b (Zdn t))=Y4 σ.1 h b (Zdn t):=by
   by_cases e:t.Kids=[]
   ·rw [if_pos e]
    have:Zdn t=0:=by unfold Zdn;rw [e];rfl
    rw [this,Z1y (hz c9)]
   rw [if_neg e]
  have hs1:St size most (Y4 σ.1 h b (Zdn t),σ.2):=hs.put _ _ _
  have hb1:∀ q,b+1≤q→q < b+1+(t.Kids.length:Int) * ((fr t.Kids).1+(fr t.Kids).2)→Yp (Y4 σ.1 h b (Zdn t),σ.2).1 h q 1=true:=fun q x y=>Ex.put _ _ _ σ _ _ _ (one q (by omega) (by omega))
  rw [e1,Zwv hg h ((fr t.Kids).1+(fr t.Kids).2) (fr t.Kids).1 (by omega) w0 t.Kids (b+1) _ hs1 (fun u hu=>by have:=ak u hu;omega) hb1]
  exact Ztn hf h _ _ (by omega) w0 t.Kids (b+1) _ (hk9 c9) (fun u hu=>by have:=ak u hu;omega) (St.words _ _ _ _ hs1) (fun q x y=>Ex.words _ _ _ _ _ _ _ _ (hb1 q x y))
 simp only [if_neg c1,if_neg c8,if_neg c9]
theorem Zw4 {t:Tr} {d:Nat} (h:Fine t d) (h0:¬ t.Kind=0) (h10:¬ t.Kind=10):1≤t.Kind∧t.Kind≤9:=by
 have:=(Zep h.rt).1
 have:=(Zep h.rt).2.1
 have hr:=h.rt
 rw [Zdp,if_neg h0,if_neg h10] at hr
 by_cases hb:t.Kind < 0∨10 < t.Kind∨d=0∨65536≤t.Words.length∨(t.Kind=1∧65536≤t.Kids.length)∨1048576≤t.Kids.length∨(1 < t.Kind∧0 < t.Words.length)
 ·rw [if_pos hb] at hr;cases hr
 omega
theorem Zuy (size most:Int):∀ (n:Nat) (t:Tr) (d:Nat),SizeOf.sizeOf t < n→Fine t d→¬ t.Kind=10→∀ s p σ,St size most σ→Yp σ.1 s p 1=true→Zhl true size n t s p σ=Zhl false size n t s p σ
 | 0,_,_,h,_,_=>by omega
 | n+1,t,d,h,hF,h10=>fun s p σ hs hb=>by
  simp only [Zhl]
  by_cases c0:t.Kind=0
  ·simp only [if_pos c0]
  simp only [if_neg c0]
  have kd:=Zw4 hF c0 h10
  cases hg:Jj size σ (pwd t) with
  | none=>rw [Option.bind_none,Option.bind_none]
  | some r =>
   rw [Option.bind_some,Option.bind_some]
   have g:=Jk hs hg
   cases ha:Zcu size r.2.2 s p (pkd t) (pup t) r.1 r.2.1 with
   | none=>rw [Option.bind_none,Option.bind_none]
   | some ρ =>
    rw [Option.bind_some,Option.bind_some]
    have a:=Zl3 g.2.2.2.2.1 ha
    have ik:=(Q1 hF.rt c0 h10).2.2.2
    refine Z7c (Zd8 true size most n) (Zd8 false size most n) hF (fun h18 x hx s' p' σ' hs' hb' => ?_) (fun h9 x hx y hy s' p' σ' hs' hb' => ?_) (by omega) a.1 (a.2.1 _ _ _ g.2.2.2.2.2.2.1) (fun h9 => ?_)
    ·exact Zuy size most n x (d - 1) (by have:=Yy hx;omega) (hF.kid hx) (Km (by omega) (ik x hx).2).1 s' p' σ' hs' hb'
    ·have k1:=(Km (by omega) (ik x hx).2).2 h9
     have j4:=(Q1 (hF.kid hx).rt (by omega) (by omega)).2.2.2 y hy
     exact Zuy size most n y (d - 1 - 1) (by have:=Yy hx;have:=Yy hy;omega) ((hF.kid hx).kid hy) (Km (by omega) j4.2).1 s' p' σ' hs' hb'
    have hw:1≤pwd t:=by rw [Zg8 h9];have:=(Zun hF h9).1;omega
    have e:=g.2.2.2.2.2.2.2.1 r.1 r.2.1
    rw [if_pos ⟨rfl,Int.le_refl _,by omega⟩] at e
    rw [a.2.2 r.1 r.2.1 (hasB_iff.2 ⟨0,e⟩) (fun q=>by have:=g.2.2.2.2.2.2.2.2 p (by rw [q.1];exact hb);omega),e]
structure Fr (X:Nat→Prop) (i j:Nat) (O:Objs) (n:Nat) (L:List NR) (O':Objs) (n':Nat) (L':List NR):Prop where
 le:n≤n'
 off:∀ u,u < n→¬ X u→¬ ter i j L u→O' u=O u
 ter:∀ u,ter i j L' u→ter i j L u∨n≤u
theorem Fr.refl (X:Nat→Prop) (i j:Nat) (O:Objs) (n:Nat) (L:List NR):Fr X i j O n L O n L:=⟨Nat.le_refl _,fun _ _ _ _=>rfl,fun _ h => .inl h⟩
theorem Fr.trans {X:Nat→Prop} {i j:Nat} {O O' O'':Objs} {n n' n'':Nat} {L L' L'':List NR} (h:Fr X i j O n L O' n' L') (h':Fr X i j O' n' L' O'' n'' L''):Fr X i j O n L O'' n'' L'' :=
 ⟨Nat.le_trans h.le h'.le,fun u a b c=>(h'.off u (Nat.lt_of_lt_of_le a h.le) b (fun q=>by rcases h.ter u q with q | q;exact c q;omega)).trans (h.off u a b c),fun u q=>by
  rcases h'.ter u q with q | q
  ·exact h.ter u q
  exact .inr (Nat.le_trans h.le q)⟩
theorem Fr.own {X:Nat→Prop} {i j:Nat} {O:Objs} {n:Nat} (L:List NR) (x:Option GObj):Fr X i j O n L (O.upd n x) (n+1) L:=⟨Nat.le_succ n,fun u a _ _=>Ya _ _ (by omega),fun _ h => .inl h⟩
theorem Fr.set {X:Nat→Prop} {i j a:Nat} {O:Objs} {n0 n:Nat} {L0 L:List NR} {O0:Objs} (h:Fr X i j O0 n0 L0 O n L) (x:Option GObj) (ha:n0≤a):Fr X i j O0 n0 L0 (O.upd a x) n L:=⟨h.le,fun u p q r=>by rw [Ya _ _ (by omega)];exact h.off u p q r,h.ter⟩
theorem Fr.keep {X:Nat→Prop} {i j:Nat} {O:Objs} {n:Nat} {L L':List NR} {O':Objs} {n':Nat} (h:Fr X i j O n L O' n' L') {u:Nat} (hu:u < n) (hx:¬ X u) (ht:¬ Go.Proofs.Ytbkhdkfjabiocaa.ter i j L u):O' u=O u∧u < n'∧¬ Go.Proofs.Ytbkhdkfjabiocaa.ter i j L' u:=⟨h.off u hu hx ht,Nat.lt_of_lt_of_le hu h.le,fun q=>by rcases h.ter u q with q | q;exact ht q;omega⟩
abbrev NoX:Nat→Prop:=fun _=>False
def AP (size:Int) (O:Objs) (n i j:Nat) (L:List NR) (σ:SG):Prop:=PX (HP j size σ.2) O n i j L∧L.map (·.2)=σ.1
theorem AP.frame {size:Int} {O O':Objs} {n n' i j:Nat} {L:List NR} {σ:SG} (h:AP size O n i j L σ) (hO:∀ t,ter i j L t→O' t=O t) (hn:n≤n'):AP size O' n' i j L σ:=⟨h.1.frame hO hn,h.2⟩
theorem AP.own {size:Int} {O:Objs} {n i j:Nat} {L:List NR} {σ:SG} (h:AP size O n i j L σ) (x:Option GObj):AP size (O.upd n x) (n+1) i j L σ:=h.frame (fun t ht=>Ya _ _ (by have:=h.1.ter_lt ht;omega)) (Nat.le_succ n)
theorem AP.set {size:Int} {O:Objs} {n i j a:Nat} {L:List NR} {σ:SG} (h:AP size O n i j L σ) (x:Option GObj) (ha:¬ ter i j L a):AP size (O.upd a x) n i j L σ:=h.frame (fun t ht=>Ya _ _ (fun e=>ha (e ▸ ht))) (Nat.le_refl n)
theorem St.b1 {size most:Int} {σ:SG} {O:Objs} {n i j:Nat} {L:List NR} (hs:St size most σ) (h:L.map (·.2)=σ.1):L.length≤16∧(∀ x∈L,(x.2.length:Int)+σ.2≤131072)∧∀ x∈L,x.2.length≤1000000:=by
 have e:∀ x∈L,(x.2.length:Int)+σ.2≤131072:=fun x hx=>hs.hB _ (by rw [← h];exact List.mem_map.2 ⟨x,hx,rfl⟩)
 have:=hs.hl0
 refine ⟨by have:=hs.h16;rw [← h,List.length_map] at this;exact this,e,fun x hx=>by have:=e x hx;omega⟩
theorem Zrs {O:Objs} {n i j:Nat} {L:List NR} {size most k:Int} {σ:SG} (h:AP size O n i j L σ) (hs:St size most σ) (e:Jj size σ k=none) :
  ∃ a b O' n' L',GTo Try.prog 18 [.ref i 0,.val (.int .i64 k)] O n (.tup [.val (.int .i64 a),.val (.int .i64 b),.val (.bool false)]) O' n'∧Fr NoX i j O n L O' n' L':=by
 obtain ⟨b1,b2,b3⟩:=hs.b1 (O:=O) (n:=n) (i:=i) (j:=j) h.2
 have hl:σ.2≤131072:=by have:=hs.hm;have:=hs.hmm;omega
 obtain ⟨O',n',L',g1,g2,g3,g4,g5,g6⟩:=Z32 h.1 b1 hl b2 k
 rw [h.2] at g1
 have c:(X8 σ.1 size σ.2 k).2.2.1=false:=by
  unfold Jj at e
  cases c:(X8 σ.1 size σ.2 k).2.2.1 with
  | true=>rw [c] at e;cases e
  | false=>rfl
 rw [c] at g1
 exact ⟨_,_,O',n',L',g1,g2,fun u a _ b=>g6 u a b,g5⟩
theorem Zrt {O:Objs} {n i j:Nat} {L:List NR} {size most k:Int} {σ:SG} {r:Int×Int×SG} (h:AP size O n i j L σ) (hs:St size most σ) (e:Jj size σ k=some r) :
  ∃ O' n' L',GTo Try.prog 18 [.ref i 0,.val (.int .i64 k)] O n (.tup [.val (.int .i64 r.1),.val (.int .i64 r.2.1),.val (.bool true)]) O' n'∧AP size O' n' i j L' r.2.2∧Fr NoX i j O n L O' n' L':=by
 obtain ⟨b1,b2,b3⟩:=hs.b1 (O:=O) (n:=n) (i:=i) (j:=j) h.2
 have hl:σ.2≤131072:=by have:=hs.hm;have:=hs.hmm;omega
 obtain ⟨O',n',L',g1,g2,g3,g4,g5,g6⟩:=Z32 h.1 b1 hl b2 k
 obtain ⟨c,rfl⟩:=Zqm e
 rw [h.2] at g1 g3 g4
 rw [c] at g1
 exact ⟨O',n',L',g1,⟨g3,g4⟩,g2,fun u a _ b=>g6 u a b,g5⟩
theorem Z9t {O:Objs} {n i j:Nat} {L:List NR} {size s:Int} {σ:SG} (h:AP size O n i j L σ) (e:inO size σ s=none) :
  GTo Try.prog 50 [.ref i 0,.val (.int .i64 s),.val (.int .i64 1)] O n (.tup [.val (.int .i64 0),.val (.bool false)]) O n:=by
 refine Ycz h.1.hi h.1.hj h.1.ho h.1.hoj h.1.hL ?_
 unfold inO at e
 rw [← h.2] at e
 cases hx:Z6 L s with
 | none =>
  have:=Zf6 hx
  exact .inl (by omega)
 | some x =>
  rw [Zlf hx] at e
  dsimp only at e
  split at e
  ·cases e
  rename_i c
  by_cases c2:σ.2 < 1
  ·exact .inr (.inr (.inl c2))
  exact .inr (.inr (.inr ⟨x,rfl,fun q=>c ⟨by omega,q⟩⟩))
theorem Z9u {O:Objs} {n i j:Nat} {L:List NR} {size most s:Int} {σ:SG} {r:Int×SG} (h:AP size O n i j L σ) (hs:St size most σ) (e:inO size σ s=some r) :
  ∃ O' L',GTo Try.prog 50 [.ref i 0,.val (.int .i64 s),.val (.int .i64 1)] O n (.tup [.val (.int .i64 r.1),.val (.bool true)]) O' n∧AP size O' n i j L' r.2∧Fr NoX i j O n L O' n L':=by
 obtain ⟨b1,b2,b3⟩:=hs.b1 (O:=O) (n:=n) (i:=i) (j:=j) h.2
 unfold inO at e
 rw [← h.2] at e
 cases hx:Z6 L s with
 | none =>
  have:Z6 (L.map (·.2)) s=none:=by
   have hl:=Zf6 hx
   cases q:Z6 (L.map (·.2)) s with
   | none=>rfl
   | some y=>have:=Qr q;rw [List.length_map] at this;omega
  rw [this] at e;cases e
 | some x =>
  rw [Zlf hx] at e
  dsimp only at e
  split at e
  ·rename_i c
   have:=Option.some.inj e;subst this
   have hxm:=Xe hx
   have bx:=b2 x hxm
   have g:=Ycy (k:=1) h.1.hi h.1.hj h.1.lt h.1.hij (h.1.ni x hxm) (h.1.nj x hxm) h.1.ho h.1.hoj h.1.hL hx (by omega) c.1 (by have:=hs.hl0;have:=hs.hm;have:=hs.hmm;omega) c.2
   rw [Jc] at g
   exact ⟨_,Xr L s (x.1,zl x.2 1),g,⟨h.1.set hx _ _,Zvr _ _⟩,Nat.le_refl n,fun u _ _ q=>Z4m hx _ _ _ q,fun u q => .inl (Z4v hx _ q)⟩
  cases e
theorem Z3f {O:Objs} {n i j:Nat} {L:List NR} {size most:Int} {σ:SG} (h:AP size O n i j L σ) (hs:St size most σ) (s p:Int) (ws:List Int) (hp:0≤p∧p+(ws.length:Int)≤1000000) {K:G→Objs→Nat→Prop}
  (hk:∀ O' n' L',AP size O' n' i j L' (Y0 σ.1 s p ws,σ.2)→Fr NoX i j O n L O' n' L'→K (.tup []) O' n') :
  GCalls Try.prog 48 [.agg [.ref i 0],.val (.int .i64 s),.val (.int .i64 p),.sl ws.length (fl (eI .u64) ws)] O n K:=by
 obtain ⟨b1,b2,b3⟩:=hs.b1 (O:=O) (n:=n) (i:=i) (j:=j) h.2
 refine (Yb1 h.1 b3 s p ws hp).mono fun r O' n' ⟨e,g1,L',g2,g3,g4,g5,g6⟩ => ?_
 subst e
 rw [h.2] at g4
 exact hk O' n' L' ⟨g2,g4⟩ ⟨g1,fun u a _ b=>g5 u a b,fun u q => .inl (Zjw g3 q)⟩
def Z6k (size:Int) (i j:Nat) (O:Objs) (n:Nat) (L:List NR) (res:Option SG) (r:G) (O':Objs) (n':Nat):Prop :=
 ∃ L',Fr NoX i j O n L O' n' L'∧match res with
  | none=>r = .val (.bool false)
  | some τ=>r = .val (.bool true)∧AP size O' n' i j L' τ
theorem Z7q {α β:Type} (xs:List α) (f:α→β) (step:Int×List β→Option ((Int×List β) ⊕ List β)) (acc:List β) (hl:(xs.length:Int)≤140737488355328)
  (h1:∀ (i:Nat) (x:α) (out:List β),i < xs.length→xs[i]? = some x→x∈xs→out.length=acc.length+i→step ((i:Int),out)=some (.inl (IntKind.i64.wrap ((i:Int)+1),out++[f x])))
  (h2:∀ out,step ((xs.length:Int),out)=some (.inr out)):Z8 step (0,acc)=some (acc++xs.map f):=by
 have key:∀ m i,i+m=xs.length→Z8 step ((i:Int),acc++(xs.take i).map f)=some (acc++xs.map f):=fun m=>by
  induction m with
  | zero =>
   intro i hi
   have hi':i=xs.length:=by omega
   subst hi'
   rw [List.take_length]
   exact Y7 (h2 _)
  | succ m ih =>
   intro i hi
   have hx:xs[i]? = some xs[i]:=List.getElem?_eq_getElem (by omega)
   have h:=h1 i _ (acc++(xs.take i).map f) (by omega) hx (List.mem_of_getElem? hx) (by rw [List.length_append,List.length_map,List.length_take];omega)
   rw [Xc (by omega) (by omega)] at h
   rw [Qw h]
   have e:acc++(xs.take i).map f++[f xs[i]]=acc++(xs.take (i+1)).map f:=by
    rw [List.take_add_one,hx,List.map_append,List.append_assoc]
    rfl
   rw [e]
   exact ih (i+1) (by omega)
 have:=key xs.length 0 (by omega)
 simpa using this
theorem Yd9 {off seg:Int} (dbl:Bool) (a:0≤off) (b:off < 536870912) (c:0≤seg) (d:seg < 4294967296) :
  Ve (⟨3,off,0,0,0,0,seg,dbl⟩:Zx)=some (fw seg off (if dbl=true then 1 else 0),true):=by
 have hd:Ze5 (off.toNat * 8+2+(if dbl=true then 4 else 0)+seg.toNat * 4294967296)=⟨3,off,0,0,0,0,seg,dbl⟩:=by
  have e4:(if dbl=true then 4 else 0:Nat)=0∨(if dbl=true then 4 else 0:Nat)=4:=by cases dbl <;> simp
  generalize hq:(if dbl=true then 4 else 0:Nat)=q at e4 ⊢
  generalize hw:off.toNat * 8+2+q+seg.toNat * 4294967296=w
  have h1:¬ w=0:=by omega
  have h2:¬ w % 4=0:=by omega
  have h3:¬ w % 4=1:=by omega
  have h4:w % 4=2:=by omega
  unfold Ze5
  rw [if_neg h1,if_neg h2,if_neg h3,if_pos h4]
  simp only [Zx.mk.injEq,true_and,and_true]
  refine ⟨by omega,by omega,?_⟩
  cases dbl with
  | true=>simp at hq;subst hq;exact decide_eq_true (by omega)
  | false=>simp at hq;subst hq;exact decide_eq_false (by omega)
 have:=Zph (off.toNat * 8+2+(if dbl=true then 4 else 0)+seg.toNat * 4294967296) (by split <;> omega) (by rw [hd];show ¬ (3:Int)=4;decide)
 rw [hd] at this
 rw [this]
 unfold fw
 cases dbl with
 | true=>simp only [if_true];congr 2;omega
 | false=>simp only [Bool.false_eq_true,if_false];congr 2;omega
theorem Ycb {off seg:Int} (dbl:Bool) (a:0≤off) (b:off < 536870912) (c:0≤seg) (d:seg < 4294967296):Gp (⟨3,off,0,0,0,0,seg,dbl⟩:Zx)=some (fw seg off (if dbl=true then 1 else 0)):=by
 unfold Gp;rw [Yd9 dbl a b c d];rfl
def PtrOf (P:Zx) (k u:Int):Prop:=(∃ d p,P=⟨1,0,d,p,0,0,0,false⟩∧k=0∧u=d+65536 * p∧0≤d∧d < 65536∧0≤p∧p < 65536)∨(∃ c m,P=⟨2,0,0,0,c,m,0,false⟩∧k=1∧u=c+8 * m∧0≤c∧c < 8∧0≤m∧m < 536870912)
theorem PtrOf.bd {P:Zx} {k u:Int} (h:PtrOf P k u):0≤k∧k≤1∧0≤u∧u < 4294967296:=by
 rcases h with ⟨d,p,rfl,rfl,rfl,_⟩ | ⟨d,p,rfl,rfl,rfl,_⟩ <;> omega
theorem PtrOf.of {P:Zx} {k u off:Int} (h:PtrOf P k u) (a:-536870912≤off) (b:off < 536870912) (c:¬ (k=0∧u=0∧off=0)):Gp ⟨P.Kind,off,P.Data,P.Ptrs,P.Code,P.Count,P.Segment,P.Double⟩=some (off % 1073741824 * 4+k+u * 4294967296):=by
 unfold Gp
 rcases h with ⟨d,p,rfl,rfl,rfl,_⟩ | ⟨d,p,rfl,rfl,rfl,_⟩
 ·dsimp only
  rw [Yct a b (by omega) (by omega) (by omega) (by omega) (by omega)]
  dsimp only [Option.bind_some]
  exact congrArg some (by omega)
 dsimp only
 rw [Yea a b (by omega) (by omega) (by omega) (by omega)]
 dsimp only [Option.bind_some]
 exact congrArg some (by omega)
theorem PtrOf.null {P:Zx} {k u:Int} (h:PtrOf P k u):((P.Kind == 1) && ((P.Off == 0) && ((P.Data == 0) && ((P.Ptrs == 0) && ((P.Code == 0) && ((P.Count == 0) && ((P.Segment == 0) && !P.Double)))))))=decide (k=0∧u=0):=by
 rcases h with ⟨d,p,rfl,rfl,rfl,_⟩ | ⟨d,p,rfl,rfl,rfl,_⟩
 ·rw [Bool.eq_iff_iff];simp only [Bool.and_eq_true,beq_iff_eq,decide_eq_true_eq,Bool.not_false,true_and,and_true];omega
 rw [Bool.eq_iff_iff];simp
theorem PtrOf.of0 {P:Zx} {k u:Int} (h:PtrOf P k u) (c:¬ (k=0∧u=0)):Gp P=some (k+u * 4294967296):=by
 have:=h.of (off:=0) (by decide) (by decide) (fun q=>c ⟨q.1,q.2.1⟩)
 have e:(⟨P.Kind,0,P.Data,P.Ptrs,P.Code,P.Count,P.Segment,P.Double⟩:Zx)=P:=by
  rcases h with ⟨d,p,rfl,_⟩ | ⟨d,p,rfl,_⟩ <;> rfl
 rw [e] at this
 rw [this]
 exact congrArg some (by omega)
theorem Z16 {t:Tr} {d:Nat} (hF:Fine t d) (h0:¬ t.Kind=0) (h10:¬ t.Kind=10):∃ P,Ze1 t=some P∧Qo P=some (pwd t,true)∧(pwd t≤131072→PtrOf P (pkd t) (pup t)):=by
 have kd:=Zw4 hF h0 h10
 have p:=hF.pt
 have pk:=Ze2 t
 obtain ⟨i1,i2,i3,i4⟩:=Q1 hF.rt h0 h10
 unfold Ze1
 by_cases c1:t.Kind=1
 ·rw [Zo5 c1,cond_true]
  refine ⟨_,rfl,?_,fun _ => .inl ⟨(t.Words.length:Int),(t.Kids.length:Int),rfl,?_,?_,by omega,by omega,by omega,by have:=i2 c1;omega⟩⟩
  ·unfold Qo
   simp only
   rw [Zo5 (a:=1) (b:=1) rfl,cond_true,Zg9 c1,Xc (by omega) (by omega)]
  ·unfold pkd;rw [if_pos c1]
  unfold pup;rw [if_pos c1]
 rw [Vu c1,cond_false]
 have ek:pkd t=1:=by unfold pkd;rw [if_neg c1]
 by_cases c9:t.Kind=9
 ·obtain ⟨a1,a2,w0,w1,k0,k1,ak⟩:=Zun hF c9
  rw [Zo5 c9,cond_true,Z0u (by omega),Option.bind_some,Xc (x:=(fr t.Kids).1+(fr t.Kids).2) (by omega) (by omega),Xc (x:=(t.Kids.length:Int) * _) (by omega) (by omega)]
  refine ⟨_,rfl,?_,fun hp => .inr ⟨7,(t.Kids.length:Int) * ((fr t.Kids).1+(fr t.Kids).2),rfl,ek,?_,by omega,by omega,a1,by rw [Zg8 c9] at hp;omega⟩⟩
  ·unfold Qo
   simp only
   rw [Vu (a:=2) (b:=1) (by decide),cond_false,Zo5 (a:=2) (b:=2) rfl,cond_true,Zo5 (a:=7) (b:=7) rfl,cond_true,Zg8 c9,Xc (by omega) (by omega),Int.add_comm]
  unfold pup;rw [if_neg c1,if_pos c9]
 rw [Vu c9,cond_false,Xc (x:=t.Kind - 2) (by omega) (by omega)]
 refine ⟨_,rfl,?_,fun hp => .inr ⟨t.Kind - 2,(t.Kids.length:Int),rfl,ek,?_,by omega,by omega,by omega,by omega⟩⟩
 ·rw [Ycg (by omega) (by omega)]
  unfold pwd rmL
  rw [if_neg c1,if_neg c9]
  by_cases c8:t.Kind=8
  ·rw [if_pos (by omega),if_pos c8]
  rw [if_neg (by omega),if_neg c8]
  have:=(Zz8 (c:=t.Kind - 2) (ns:=ato t) (by omega) (by rw [Zp8];omega) (fun n hn=>by
   obtain ⟨k,hk,rfl⟩:=List.mem_map.1 hn
   obtain ⟨w,hw,q0,_,q1⟩:=Zvc (by omega) (hF.bd.all k hk) (hF.kid hk).rt (i4 k hk).2
   rw [hw];exact ⟨q0,q1⟩)).2
  rw [this,Zp8]
 unfold pup;rw [if_neg c1,if_neg c9]
theorem Z0f {t:Tr} {d:Nat} (hF:Fine t d) (h:2≤t.Kind∧t.Kind≤7):∀ k∈t.Kids,∃ w,k.Words=[w]∧0≤w∧w < 18446744073709551616∧Zfl (t.Kind - 2) w=true:=fun k hk =>
 Zvc h (hF.bd.all k hk) (hF.kid hk).rt ((Q1 hF.rt (by omega) (by omega)).2.2.2 k hk).2
theorem Z0k {t:Tr} {d:Nat} (hF:Fine t d) (hk:2≤t.Kind∧t.Kind≤7):Zby t=some (Zdi (t.Kind - 2) (ato t)):=by
 have p:=hF.pt
 have pk:=Ze2 t
 have ha:=Z0f hF hk
 have l0:=Z7q t.Kids (fun k=>k.Words.headD 0) (Vw t) [] (by omega) (fun i x out hi hx hm ho=>by
  obtain ⟨w,hw,_⟩:=ha x hm
  have e:Ze9 x 0=some w:=by
   unfold Ze9
   rw [hw]
   rfl
  unfold Vw
  simp only [List.length_nil] at ho ⊢
  rw [Zow hi,cond_true,Jr hx,Option.bind_some,e,Option.bind_some,Zbc (by simp only [List.length_singleton];omega) (by simp only [List.length_singleton];omega),Option.bind_some,hw]
  rfl) (fun out=>by
  unfold Vw
  simp only
  rw [Zov,cond_false])
 unfold Zby
 rw [l0,Option.bind_some,Xc (by omega) (by omega)]
 have:Zeb (t.Kind - 2) (ato t)=some (Zdi (t.Kind - 2) (ato t),true):=(Zz8 (by omega) (by rw [Zp8];omega) (fun n hn=>by
  obtain ⟨k,hk,rfl⟩:=List.mem_map.1 hn
  obtain ⟨w,hw,h0,_,h1⟩:=ha k hk
  rw [hw]
  exact ⟨h0,h1⟩)).1
 unfold ato at this
 rw [List.nil_append,this]
 rfl
end Go.Proofs.Ytbkhdkfjabiocaa
