/- Part VA: the law; each theorem bears its own conditions. -/
import Derived.Test.YtaddaloondpnkaaUA
import Derived.Test.YtaddaloondpnkaaUP
namespace Go.Proofs.Ytaddaloondpnkaa
open Go.RowKit
set_option linter.unusedVariables false
set_option linter.unusedSimpArgs false
set_option maxRecDepth 100000
set_option maxHeartbeats 4000000
attribute [local push_cast] Ze Z4 Zgz Zgy Zhv Zhu Zh Zf Zdx Gk Gj onW Yq Uy V7 Zju Zg3 Zb5 Zb9 Zb4 Zb8 Zez Zev Zb7 Zey Zex Zew Zb6 Zet Gz evS wok Xd Op.operands Call.operands gop onK onP atK List.all_cons List.all_nil Bool.and_true Bool.true_and Bool.and_self Value.oneCell' List.take_zero List.take_succ_cons List.take_nil List.drop_zero List.drop_succ_cons List.drop_nil List.append_nil Nat.add_zero Nat.zero_add Jj Z5 ev Y9 Zkx Zgs Zgr Zgx Zgv Zgw Zgt Zgu Zgq Zlh Zni Zpd Zcy Vg Zc4 V8 Zbq Zat V0 V5 Gi Ge V3 Gh Gg Gf V2 Gc V1 V4 K8 Gd Zf8 Gl Jo Zcd Jp Zdw Zcx Zol Up bHi bMx Vh Zdu Zpz Zcw Zfl U7 Qz Zk4 Zp4 Zcc U4 Zp6 Vf Zsd Zd2 Zd6 Zd1 Zd5 Zhi Zhe Zhc Zbr Zd3 Zhh Zhg Zhf Zd4 Zg8 Zhb Zg7 Zha Zls Zlp Zlo Zg9 Zlq Zlr Zhd Zfh Zjt Zej Gx Gw pop TK.isAgg Zhn Zhs Zhm Zhr Zed Zl6 Zl2 Zhq Zl5 Zl4 Zl3 Zhp Zl1 G.under G.unders List.getD_cons_zero List.getD_cons_succ List.set_cons_zero List.set_cons_succ List.map_cons List.map_nil List.toList_toArray Array.toList_append Option.toArray_none Option.toArray_some Array.toList_map Option.map_some Option.map_none Option.bind_some Option.bind_none List.getElem?_cons_zero List.getElem?_cons_succ List.getElem?_nil List.nil_append List.cons_append List.replicate_succ List.replicate_zero List.length_cons List.length_nil and_true true_and and_false false_and Bool.true_eq_false Bool.false_eq_true forall_const false_implies implies_true IntKind.bits if_true if_false ite_true ite_false eq_self true_implies false_or or_false or_true true_or not_true_eq_false not_false_eq_true decide_true decide_false decide_eq_true_eq decide_eq_false_iff_not beq_iff_eq bne_iff_ne ne_eq Bool.not_eq_true Bool.not_eq_false beq_eq_false_iff_ne bne_eq_false_iff_eq beq_self_eq_true bne_self_eq_false Option.some.injEq exists_eq_left' exists_eq_left ge_iff_le gt_iff_lt decide_not Bool.not_true Bool.not_false imp_self Zlj cond_true cond_false Zw1 Zw0 Bool.not_not Bool.and_false Bool.false_and Bool.or_true Bool.true_or Bool.or_false Bool.false_or Vq Zal Vr Ku J6 Qg Option.join_some Nat.add_assoc Int.toNat_natCast eI eB eS eL Zjr Zae V9 Zg2 Zg0 Zg1 Zsj Zuf Zaj Uf Zh1 Zhz Zh0 Zph Zkw Zna Zkd Zlf Uq Zjs List.length_append G.agg.injEq G.row.injEq G.ref.injEq G.val.injEq G.sl.injEq G.tup.injEq Value.int.injEq Value.bool.injEq Value.string.injEq List.cons.injEq exists_and_left exists_const List.flatten_cons List.flatten_nil Int.le_refl Nat.le_refl Zfe Jz Zdq Bool.not_eq_true' Bool.not_eq_false' Zjj Za3 Zmz Zm3 Zmy Zm2 Zsa Zr5 List.size_toArray Zn3 Zla G.ren G.rens Zpi Zeo Zh4 Zgo Zgp Zeu Zm4 Zc0 G.fn.injEq Zcu Zfg Zji Zr6 Zff Zm1 Zr9 Zr8 Zr7 Zm0 Zlt Zqe Option.join_none Zo Jd undef Zfn Arr.len Arr.put_eq Zai Zbw Gt Ue Zhy Zhw Zhx onB Zsi Zk3 Xj Zbl Zdg Zdh Zdi Zdj Zdk Zdl Zbt Zbz Zbx Gv Ug Zby Zei Zeh Zeg Zef Zsk Zue Zpg Zos J0 Zpe Zj0 Zb0 Gu Zj9 Zj8 Zvc Zqo Zke Zcv Zfj Zcg Zcs Zdm Zdn Zdo Zdp Za6 Za7 Za8 Za9 Zba Zbb Zbc Zbd Zbe Zbf Zbg Zbh Zbi Zaq prT Zfi Zxy Zmp Zso Zmq Zxz Zmr Zx0 Zms Zx1 Zmt Zx2 Zmu Zx3 Zmv Zx4 Zmw Zqw Zib Zqx Zic Zqy Zid Zqz Zie Zq0 Zif Zq1 Zig Zq2 Zih Zq3 Zii Zq4 Zij Zq5 Zik Zq6 Zil Vx Zc9 Zob Zda Zq7 Zim J3 Zin Zq8 Zfu Zq9 Zio Zra Zip Zrb Ziq Zrc Zir Zrd Zis Zre Zit Zrf Ziu Zrg Ziv K4 Ziw Zrh Zix Zri Ziy Zrj Ziz Zrk Zi0 Zrl Zi1 Zrm Zi2 Zrn Zi3 Zro Zi4 Zrp Zi5 Zrq Zi6 Zrr Zi7 Zrs Zi8 Zrt Zi9 Zru Zja Zrv Zjb Zrw Zjc Zrx Zjd Zry Zje Zrz Zjf Zmb Ze0 Zmc Ze1 Zmd Ze2 Zme Ze3 Zmf Ze4 Zmg Ze5 Zmh Ze6 Zmi Ze7 Zmj Ze8 Zmk Ze9 Zml Zfa Zmm Zfb Zmn Zfc Zmo Zfd Zt Uo G5 Gn Gs Zac Un Uk Ui Y7 Kp Ko Kj Kl Kq Jy Jw Jv Km Xe Xw Xv Xq Xs Xx Xk Xi Xh Xu Zg Yr Qw Qv Qo Qr Qy Qf Qe Qd Qt Zaa G4 Gm Gr Zab Um Uj Uh G0 V6
theorem Zg6 (s:Int):∀ (ws:List Int) (segs:List (List Int)) (p w:Int),Yn segs s p (ws++[w])=Y1 (Yn segs s p ws) s (p+(ws.length:Int)) w
 | [],segs,p,w=>by simp [Yn]
 | v::ws,segs,p,w=>by
  rw [List.cons_append,Yn,Zg6 s ws,Yn,List.length_cons]
  congr 1
  omega
theorem Ul {i j:Nat} {L L1:List NR} (h:L1.map (·.1)=L.map (·.1)) {t:Nat} (ht:ter i j L1 t):ter i j L t:=by
 rcases ht with h | h | ⟨y,hy,rfl⟩
 ·exact .inl h
 ·exact .inr (.inl h)
 have:y.1∈L.map (·.1):=by rw [← h];exact List.mem_map.2 ⟨y,hy,rfl⟩
 obtain ⟨u,hu,e⟩:=List.mem_map.1 this
 exact .inr (.inr ⟨u,hu,e.symm⟩)
theorem Z4g {O:Objs} {n i j:Nat} {L:List NR} {size left:Int} (h:PX (HP j size left) O n i j L) (hB:∀ x∈L,x.2.length≤1000000) (s p:Int) (ws:List Int) (hp:0≤p∧p+(ws.length:Int)≤1000000) :
  GCalls Try.prog 89 [.agg [.ref i 0],.val (.int .i64 s),.val (.int .i64 p),.sl ws.length (fl (eI .u64) ws)] O n fun r O' n'=>r = .tup []∧n≤n'∧∃ L',PX (HP j size left) O' n' i j L'∧L'.map (·.1)=L.map (·.1)∧L'.map (·.2)=Yn (L.map (·.2)) s p ws∧(∀ t,t < n→¬ ter i j L t→O' t=O t)∧∀ x∈L',x.2.length≤1000000:=by
 refine Zar Zc Try.call89 Try.func89 rfl (Nat.le_of_ble_eq_true rfl) fun hU => ?_
 have hN0:O n=none:=hU.fresh _ (Nat.le_refl _)
 have hN:∀ k,O (n+k)=none:=fun k=>hU.fresh _ (Nat.le_add_right _ _)
 have hi0:=h.hi
 have hi:i < n+1:=by omega
 have hn1:n < n+1:=Nat.lt_succ_self n
 show W _ _ _ _ ⟨26,[],[(0,.agg [.ref i 0]),(1,.val (.int .i64 s)),(2,.val (.int .i64 p)),(3,.sl ws.length (fl (eI .u64) ws))]⟩ (Zw O n []) _
 rw [Yh hU.fresh]
 refine Zj [1,2,3,4] (Zb Zc [] ?_)
 simp only [push_cast,seval,↓reduceIte,Za,hi0,hN0,hN]
 refine Zj [1,2,4,10,11,12] (Zb Zc [] ?_)
 simp only [push_cast,seval,↓reduceIte,Za,hi,hn1]
 refine Ya ?_
 obtain ⟨O0,hO0⟩:∃ O0,O0=O.upd n (some ⟨false,61,1,1,[.ref i 0]⟩):=⟨_,rfl⟩
 have hOn:O0 n=some ⟨false,61,1,1,[.ref i 0]⟩:=by rw [hO0];exact Zo _ _ _
 have h0:PX (HP j size left) O0 (n+1) i j L:=h.frame (fun t ht=>by rw [hO0];exact Zn _ _ (by have:=h.ter_lt ht;omega)) (Nat.le_succ n)
 rw [← hO0]
 refine Zc6 (S:=Int×Objs×List NR) (fun q=>⟨26,[],[(1,.val (.int .i64 s)),(2,.val (.int .i64 p)),(4,.ref n 0),(10,.sl ws.length (fl (eI .u64) ws)),(11,.val (.int .i64 (ws.length:Int))),(12,.val (.int .i64 q.1))]⟩) (fun q=>q.2.1) (fun _=>n+1)
  (fun q=>(0≤q.1∧q.1≤(ws.length:Int))∧PX (HP j size left) q.2.1 (n+1) i j q.2.2∧q.2.2.map (·.1)=L.map (·.1)∧q.2.2.map (·.2)=Yn (L.map (·.2)) s p (ws.take q.1.toNat)∧q.2.1 n=some ⟨false,61,1,1,[.ref i 0]⟩∧(∀ t,t < n→¬ ter i j L t→q.2.1 t=O t)∧∀ x∈q.2.2,x.2.length≤1000000)
  (fun q=>((ws.length:Int) - q.1).toNat) (fun _ _=>Nat.le_succ n) (fun q hq => ?_) (0,O0,L) ⟨⟨Int.le_refl _,by omega⟩,h0,rfl,rfl,hOn,fun t ht _=>by rw [hO0];exact Zn _ _ (by omega),hB⟩
 obtain ⟨k,Y,M⟩:=q
 obtain ⟨⟨k0,k1⟩,g1,g2,g3,g4,g5,g6⟩:=hq
 dsimp only at k0 k1 g1 g2 g3 g4 g5 g6 ⊢
 refine Zx fun hUY => ?_
 refine Zi ?_
 refine Zb Zc [] ?_
 simp only [push_cast,seval,↓reduceIte,Za,hi,hn1]
 refine Zi ?_
 refine Zl (t:=decide (k < (ws.length:Int))) rfl (fun c => ?_) (fun c => ?_)
 ·have c1:k < (ws.length:Int):=of_decide_eq_true c
  refine Zp ?_
  try simp only [Zh,Zf]
  refine Zbk (E':=⟨26,[],[(1,.val (.int .i64 s)),(2,.val (.int .i64 p)),(4,.ref n 0),(10,.sl ws.length (fl (eI .u64) ws)),(11,.val (.int .i64 (ws.length:Int))),(12,.val (.int .i64 k))]⟩) (Yf hUY (Nat.le_succ n) rfl ?_) ?_
  ·simp only [push_cast,seval,↓reduceIte,Za,hi,hn1]
  obtain ⟨w,hw⟩:∃ w,Zv ws k=some w:=⟨ws[k.toNat]'(by omega),by unfold Zv;rw [if_pos k0];exact List.getElem?_eq_getElem (by omega)⟩
  obtain ⟨x5,hx5,ax5,bx5,cx5,_⟩:=bE (f:=eI .u64) (K:=fun y=>some y) (r:=w) K4 (fun _=>rfl) (by decide) (by rw [hw];rfl)
  obtain rfl:x5=w:=Option.some.inj (hx5.symm.trans hw)
  refine Zi ?_
  refine Ya ?_
  refine Zj [1,2,4,8,9,10,11,12] (Zb Zc [] ?_)
  simp only [push_cast,Nat.reduceAdd,Nat.reduceSub,Nat.reduceMul,Nat.reduceLeDiff,Nat.reduceLT,Nat.reduceEqDiff,↓reduceIte,reduceCtorEq,Int.reduceBEq,Int.reduceBNe,Nat.reduceBEq,Int.reduceLE,Int.reduceLT,Int.reduceEq,Int.reduceNe,Int.reduceNeg,Nat.reduceDiv,Nat.reduceMod,Nat.reducePow,Za,hi,hn1,ax5,bx5,cx5]
  obtain ⟨Y',M',q1,q2,q3,q4,q5,q6⟩:=Z05 g1 g6 s (p+k) x5
  have hwp:IntKind.i64.wrap (p+k)=p+k:=X3 (by omega)
  refine Zb Zc [] ?_
  simp only [push_cast,seval,↓reduceIte,Za,hi,hn1,g4,hwp]
  refine q1.then ?_
  simp only [push_cast,seval,↓reduceIte,Za,hi,hn1]
  refine Zx fun hUY' => ?_
  refine Zb Zc [] ?_
  have hwk:IntKind.i64.wrap (k+1)=k+1:=X3 (by omega)
  simp only [push_cast,seval,↓reduceIte,Za,hi,hn1,hwk]
  refine .inl ⟨rfl,(k+1,Y',M'),⟨⟨by omega,by omega⟩,q2,q3.trans g2,?_,?_,fun t h1 h2 => ?_,q6⟩,by show ((ws.length:Int) - (k+1)).toNat < ((ws.length:Int) - k).toNat;omega,Yf hUY' (Nat.le_succ n) rfl ?_⟩
  ·have e:ws.take (k+1).toNat=ws.take k.toNat++[x5]:=by
    have h3:=hw
    unfold Zv at h3
    rw [if_pos k0] at h3
    rw [show (k+1).toNat=k.toNat+1 by omega,List.take_add_one,h3];rfl
   show M'.map (·.2)=Yn (L.map (·.2)) s p (ws.take (k+1).toNat)
   rw [e,Zg6,q4,g3]
   congr 1
   rw [List.length_take]
   omega
  ·show Y' n=_
   rw [q5 n (fun q=>by have:=g1.ter_lt q;have hz:=Ul g2 q;have:=h.ter_lt hz;omega)];exact g4
  ·show Y' t=O t
   rw [q5 t (fun q=>h2 (Ul g2 q))];exact g5 t h1 h2
  simp only [push_cast,seval,↓reduceIte,Za,hi,hn1]
 have c1:¬ k < (ws.length:Int):=of_decide_eq_false c
 refine X0 ?_
 try simp only [Zh,Zf,↓reduceIte,Nat.reduceEqDiff]
 refine .inr ⟨(fun h=>by cases h),?_⟩
 have ek:ws.take k.toNat=ws:=List.take_of_length_le (by omega)
 rw [ek] at g3
 show Zm5 _ _ _ _ .normal _ _ _
 refine ⟨.tup [],Y,n+1,Nat.le_succ n,⟨rfl,Nat.le_succ n,M,g1,g2,g3,g5,g6⟩,?_⟩
 refine Zu (P:=Try.prog) (.inl rfl) hUY [] (Nat.le_succ n) ?_
 simp only [push_cast,seval,↓reduceIte,Za,Try.results89]
def HB (i:Nat) (room:Bool):GObj:=⟨false,71,2,1,[.ref i 0,.val (.bool room)]⟩
theorem Z2v {O:Objs} {n b i j:Nat} {L:List NR} {size most used s p v:Int} {x:NR} (h:PX (HR j size most used) O n i j L) (hb:b < n) (hob:O b=some (HB i true)) (hx:Zv L s=some x) (hp:0≤p∧p < (x.2.length:Int)) :
  GTo Try.prog 61 [.ref b 0,.val (.int .i64 s),.val (.int .i64 p),.val (.int .u64 v)] O n (.tup []) (O.upd x.1 (some ⟨true,58,1,x.2.length,fl (eI .u64) (Yc x.2 p v)⟩)) n:=by
 have hi:=h.hi
 have hj:=h.hj
 have ho:=h.ho
 have hoj:=h.hoj
 have hx1:=h.lt x (Z9 hx)
 have hox:=h.hL x (Z9 hx)
 unfold HR at ho
 unfold HB at hob
 refine Yi Zc Try.call61 Try.func61 rfl (Nat.le_of_ble_eq_true rfl) (Nat.le_refl _) fun hU => ?_
 have hlr:∀ i k,Yw O (.row i k)=True:=fun i k=>by simp [Yw]
 obtain ⟨x2,hx2,ax2,bx2,cx2,_⟩:=bE (f:=eN) (K:=fun y=>some y) (r:=x) Vx (fun _=>rfl) (by decide) (by rw [hx];rfl)
 obtain rfl:x2=x:=Option.some.inj (hx2.symm.trans hx)
 have hE:(eN x2)[0]? = some (.row x2.1 x2.2.length):=rfl
 obtain ⟨w0,hw0⟩:∃ w0,Zv x2.2 p=some w0:=⟨x2.2[p.toNat]'(by omega),by unfold Zv;rw [if_pos hp.1];exact List.getElem?_eq_getElem (by omega)⟩
 have gu:Q9 (fl (eI .u64) x2.2) [.val (.int .u64 v)] (Int.toNat p * 1)=some (fl (eI .u64) (Yc x2.2 p v)):=Ur (f:=eI .u64) (ti:=⟨.bool,1,0,[],false⟩) (x:=v) (fun _=>rfl) (Kw hw0)
 have hpl:=hp.1
 have hpr:=hp.2
 show W _ _ _ _ ⟨25,[],[(0,.ref b 0),(1,.val (.int .i64 s)),(2,.val (.int .i64 p)),(3,.val (.int .u64 v))]⟩ (Zw O n []) _
 rw [Yh hU.fresh]
 refine Zj [0,1,2,3,11] (Zb Zc [] ?_)
 simp only [push_cast,seval,↓reduceIte,Za,hb,hob]
 refine Zl (t:=true) rfl (fun c15 => ?_) (fun c15=>by cases c15)
 refine Zb Zc [] ?_
 simp only [push_cast,Nat.reduceAdd,Nat.reduceSub,Nat.reduceMul,Nat.reduceLeDiff,Nat.reduceLT,Nat.reduceEqDiff,↓reduceIte,reduceCtorEq,Int.reduceBEq,Int.reduceBNe,Nat.reduceBEq,Int.reduceLE,Int.reduceLT,Int.reduceEq,Int.reduceNe,Int.reduceNeg,Nat.reduceDiv,Nat.reduceMod,Nat.reducePow,Za,ax2,bx2,cx2,hb,hob,hi,ho,hoj,hj,U0,Zho,hE,hlr,hox,hx1,hpl,hpr,gu]
 refine Zu (P:=Try.prog) (.inl rfl) (hU.set hx1 (Y7 _)) [] (Nat.le_refl _) ?_
 simp only [push_cast,seval,↓reduceIte,Za,Try.results61]
theorem Zyt {O:Objs} {n b i:Nat} {s p v:Int} (hb:b < n) (hob:O b=some (HB i false)) (hi:i < n) :
  GTo Try.prog 61 [.ref b 0,.val (.int .i64 s),.val (.int .i64 p),.val (.int .u64 v)] O n (.tup []) O n:=by
 unfold HB at hob
 refine Yi Zc Try.call61 Try.func61 rfl (Nat.le_of_ble_eq_true rfl) (Nat.le_refl _) fun hU => ?_
 show W _ _ _ _ ⟨25,[],[(0,.ref b 0),(1,.val (.int .i64 s)),(2,.val (.int .i64 p)),(3,.val (.int .u64 v))]⟩ (Zw O n []) _
 rw [Yh hU.fresh]
 refine Zj [0,1,2,3,11] (Zb Zc [] ?_)
 simp only [push_cast,seval,↓reduceIte,Za,hb,hob]
 refine Zl (t:=false) rfl (fun c15=>by cases c15) (fun c15 => ?_)
 refine Zp ?_
 refine Zu (P:=Try.prog) (.inl rfl) hU [] (Nat.le_refl _) ?_
 simp only [push_cast,seval,↓reduceIte,Za,Try.results61]
theorem Zyu {O:Objs} {n b i j:Nat} {L:List NR} {size most used s p v:Int} (h:PX (HR j size most used) O n i j L) (hb:b < n) (hob:O b=some (HB i true)) (hh:Yj (L.map (·.2)) s p 1=true) :
  ∃ O' L',GTo Try.prog 61 [.ref b 0,.val (.int .i64 s),.val (.int .i64 p),.val (.int .u64 v)] O n (.tup []) O' n∧PX (HR j size most used) O' n i j L'∧L'.map (·.1)=L.map (·.1)∧L'.map (·.2)=Y1 (L.map (·.2)) s p v∧∀ t,¬ ter i j L t→O' t=O t:=by
 obtain ⟨t,ht⟩:∃ t,Zv (L.map (·.2)) s=some t:=by
  unfold Yj at hh
  cases e:Zv (L.map (·.2)) s with
  | none=>rw [e] at hh;cases hh
  | some t=>exact ⟨t,rfl⟩
 have hS:0≤s∧s < (L.length:Int):=by have:=Xy ht;rwa [List.length_map] at this
 have hx0:∃ x,Zv L s=some x:=⟨L[s.toNat]'(by omega),by unfold Zv;rw [if_pos hS.1];exact List.getElem?_eq_getElem (by omega)⟩
 obtain ⟨x,hx⟩:=hx0
 have et:t=x.2:=Option.some.inj (ht.symm.trans (Zck hx))
 subst et
 have hp:0≤p∧p < (x.2.length:Int):=by
  have h2:=hh
  unfold Yj at h2
  rw [ht] at h2
  have:=of_decide_eq_true h2
  omega
 refine ⟨_,Yc L s (x.1,Yc x.2 p v),Z2v h hb hob hx hp,h.put hx (Xj _ _ _),Zn8 hx _,?_,fun t ht=>Zyn hx _ ht⟩
 rw [Zgj]
 unfold Y1
 rw [if_pos hh,ht];rfl
theorem Zdy (segs:List (List Int)) (s p v s' p' k:Int):Yj (Y1 segs s p v) s' p' k=Yj segs s' p' k:=by
 unfold Y1
 by_cases c:Yj segs s p 1=true
 ·rw [if_pos c]
  cases ht:Zv segs s with
  | none=>unfold Yj at c;rw [ht] at c;cases c
  | some t =>
   have hs:=Xy ht
   unfold Yj
   by_cases e:s'=s
   ·subst e
    rw [X1 ht,ht]
    show decide _=decide _
    have:(Yc ((some t).getD []) p v).length=t.length:=Xj _ _ _
    rw [this]
   have:Zv (Yc segs s (Yc ((some t).getD []) p v)) s'=Zv segs s':=by
    unfold Zv Yc
    by_cases c0:0≤s'
    ·rw [if_pos c0,if_pos c0,List.getElem?_set_ne (by omega)]
    rw [if_neg c0,if_neg c0]
   rw [this]
 rw [if_neg c]
theorem Zkl (s s' p' k:Int):∀ (ws:List Int) (segs:List (List Int)) (p:Int),Yj (Yn segs s p ws) s' p' k=Yj segs s' p' k
 | [],_,_=>rfl
 | w::ws,segs,p=>by rw [Yn,Zkl s s' p' k ws,Zdy]
theorem Ua {segs:List (List Int)} {s p q k:Int} (h:Yj segs s p k=true) (h1:p≤q) (h2:q < p+k):Yj segs s q 1=true:=by
 unfold Yj at h ⊢
 cases e:Zv segs s with
 | none=>rw [e] at h;cases h
 | some t =>
  rw [e] at h
  have:=of_decide_eq_true h
  exact decide_eq_true (by omega)
theorem Z2r {O:Objs} {n b i j:Nat} {L:List NR} {size most used:Int} (h:PX (HR j size most used) O n i j L) (hb:b < n) (hbt:¬ ter i j L b) (hob:O b=some (HB i true)) (s p:Int) (ws:List Int) (hp:p+(ws.length:Int)≤1000000) (hp0:0≤p) (hh:Yj (L.map (·.2)) s p (ws.length:Int)=true∨ws=[]) :
  GCalls Try.prog 58 [.ref b 0,.val (.int .i64 s),.val (.int .i64 p),.sl ws.length (fl (eI .u64) ws)] O n fun r O' n'=>r = .tup []∧n≤n'∧∃ L',PX (HR j size most used) O' n' i j L'∧L'.map (·.1)=L.map (·.1)∧L'.map (·.2)=Yn (L.map (·.2)) s p ws∧(∀ t,t < n→¬ ter i j L t→O' t=O t):=by
 refine Zar Zc Try.call58 Try.func58 rfl (Nat.le_of_ble_eq_true rfl) fun hU => ?_
 show W _ _ _ _ ⟨25,[],[(0,.ref b 0),(1,.val (.int .i64 s)),(2,.val (.int .i64 p)),(3,.sl ws.length (fl (eI .u64) ws))]⟩ (Zw O n []) _
 rw [Yh hU.fresh]
 refine Zj [0,1,2,3,8] (Zb Zc [] ?_)
 simp only [push_cast,seval,↓reduceIte,Za,hb]
 refine Ya ?_
 refine Zc6 (S:=Int×Objs×List NR) (fun q=>⟨25,[],[(0,.ref b 0),(1,.val (.int .i64 s)),(2,.val (.int .i64 p)),(3,.sl ws.length (fl (eI .u64) ws)),(8,.val (.int .i64 q.1))]⟩) (fun q=>q.2.1) (fun _=>n)
  (fun q=>(0≤q.1∧q.1≤(ws.length:Int))∧PX (HR j size most used) q.2.1 n i j q.2.2∧q.2.2.map (·.1)=L.map (·.1)∧q.2.2.map (·.2)=Yn (L.map (·.2)) s p (ws.take q.1.toNat)∧(∀ t,¬ ter i j L t→q.2.1 t=O t))
  (fun q=>((ws.length:Int) - q.1).toNat) (fun _ _=>Nat.le_refl n) (fun q hq => ?_) (0,O,L) ⟨⟨Int.le_refl _,by omega⟩,h,rfl,rfl,fun _ _=>rfl⟩
 obtain ⟨k,Y,M⟩:=q
 obtain ⟨⟨k0,k1⟩,g1,g2,g3,g5⟩:=hq
 dsimp only at k0 k1 g1 g2 g3 g5 ⊢
 have g4:Y b=some (HB i true):=(g5 b hbt).trans hob
 refine Zx fun hUY => ?_
 refine Zi ?_
 refine Zj [0,1,2,3,8,12] (Zb Zc [] ?_)
 simp only [push_cast,seval,↓reduceIte,Za,hb]
 refine Zl (t:=decide (k < (ws.length:Int))) rfl (fun c => ?_) (fun c => ?_)
 ·have c1:k < (ws.length:Int):=of_decide_eq_true c
  refine Zp ?_
  try simp only [Zh,Zf]
  obtain ⟨w,hw⟩:∃ w,Zv ws k=some w:=⟨ws[k.toNat]'(by omega),by unfold Zv;rw [if_pos k0];exact List.getElem?_eq_getElem (by omega)⟩
  obtain ⟨x5,hx5,ax5,bx5,cx5,_⟩:=bE (f:=eI .u64) (K:=fun y=>some y) (r:=w) K4 (fun _=>rfl) (by decide) (by rw [hw];rfl)
  obtain rfl:x5=w:=Option.some.inj (hx5.symm.trans hw)
  have hh1:Yj (M.map (·.2)) s (p+k) 1=true:=by
   rw [g3,Zkl]
   rcases hh with hh | hh
   ·exact Ua hh (by omega) (by omega)
   rw [hh] at c1;simp at c1;omega
  obtain ⟨Y',M',q1,q2,q3,q4,q5⟩:=Zyu (v:=x5) g1 hb g4 hh1
  have hwp:IntKind.i64.wrap (p+k)=p+k:=X3 (by omega)
  refine Zi ?_
  refine Ya ?_
  refine Zb Zc [] ?_
  simp only [push_cast,Nat.reduceAdd,Nat.reduceSub,Nat.reduceMul,Nat.reduceLeDiff,Nat.reduceLT,Nat.reduceEqDiff,↓reduceIte,reduceCtorEq,Int.reduceBEq,Int.reduceBNe,Nat.reduceBEq,Int.reduceLE,Int.reduceLT,Int.reduceEq,Int.reduceNe,Int.reduceNeg,Nat.reduceDiv,Nat.reduceMod,Nat.reducePow,Za,hb,ax5,bx5,cx5,hwp]
  refine q1.then ?_
  simp only [push_cast,seval,↓reduceIte,Za,hb]
  refine Zx fun hUY' => ?_
  refine Zb Zc [] ?_
  have hwk:IntKind.i64.wrap (k+1)=k+1:=X3 (by omega)
  simp only [push_cast,seval,↓reduceIte,Za,hb,hwk]
  refine .inl ⟨rfl,(k+1,Y',M'),⟨⟨by omega,by omega⟩,q2,q3.trans g2,?_,fun t h2 => ?_⟩,by show ((ws.length:Int) - (k+1)).toNat < ((ws.length:Int) - k).toNat;omega,Yf hUY' (Nat.le_refl n) rfl ?_⟩
  ·have e:ws.take (k+1).toNat=ws.take k.toNat++[x5]:=by
    have h3:=hw
    unfold Zv at h3
    rw [if_pos k0] at h3
    rw [show (k+1).toNat=k.toNat+1 by omega,List.take_add_one,h3];rfl
   show M'.map (·.2)=Yn (L.map (·.2)) s p (ws.take (k+1).toNat)
   rw [e,Zg6,q4,g3]
   congr 1
   rw [List.length_take]
   omega
  ·show Y' t=O t
   rw [q5 t (fun q=>h2 (Ul g2 q))];exact g5 t h2
  simp only [push_cast,seval,↓reduceIte,Za,hb]
 have c1:¬ k < (ws.length:Int):=of_decide_eq_false c
 refine X0 ?_
 try simp only [Zh,Zf,↓reduceIte,Nat.reduceEqDiff]
 refine .inr ⟨(fun h=>by cases h),?_⟩
 have ek:ws.take k.toNat=ws:=List.take_of_length_le (by omega)
 rw [ek] at g3
 show Zm5 _ _ _ _ .normal _ _ _
 refine ⟨.tup [],Y,n,Nat.le_refl n,⟨rfl,Nat.le_refl n,M,g1,g2,g3,fun t _=>g5 t⟩,?_⟩
 refine Zu (P:=Try.prog) (.inl rfl) hUY [] (Nat.le_refl n) ?_
 simp only [push_cast,seval,↓reduceIte,Za,Try.results58]
theorem Znl {L:List NR} {x:NR} (h0:0 < L.length) (hx:Zv L ((L.length:Int) - 1)=some x):Qa (L.map (·.2))=x.2:=by
 have h:=Zck hx
 unfold Zv at h
 rw [if_pos (by omega),show ((L.length:Int) - 1).toNat=L.length - 1 by omega] at h
 unfold Qa
 rw [List.length_map,h];rfl
theorem Zye {L:List NR} (h0:0 < L.length):∃ x,Zv L ((L.length:Int) - 1)=some x:=⟨L[((L.length:Int) - 1).toNat]'(by omega),by unfold Zv;rw [if_pos (by omega)];exact List.getElem?_eq_getElem (by omega)⟩
theorem Zyc {O:Objs} {n i j:Nat} {L:List NR} {size left:Int} (h:PX (HP j size left) O n i j L) (h16:L.length≤16) (hl:left≤131072) (hB:∀ x∈L,(x.2.length:Int)+left≤131072) (k:Int) :
  ∃ O' n' L',GTo Try.prog 24 [.ref i 0,.val (.int .i64 k)] O n (.tup [.val (.int .i64 (Yp (L.map (·.2)) size left k).1),.val (.int .i64 (Yp (L.map (·.2)) size left k).2.1),.val (.bool (Yp (L.map (·.2)) size left k).2.2.1)]) O' n'∧n≤n' ∧
   PX (HP j size (Yp (L.map (·.2)) size left k).2.2.2.2) O' n' i j L'∧L'.map (·.2)=(Yp (L.map (·.2)) size left k).2.2.2.1∧(∀ t,ter i j L' t→ter i j L t∨n≤t)∧(∀ t,t < n→¬ ter i j L t→O' t=O t):=by
 by_cases c:k < 0∨left < k
 ·have e:Yp (L.map (·.2)) size left k=(0,0,false,L.map (·.2),left):=if_pos c
  rw [e]
  exact ⟨O,n,L,Z16 h.hi h.hj h.ho h.hoj c,Nat.le_refl _,h,rfl,fun t ht => .inl ht,fun _ _ _=>rfl⟩
 by_cases c2:(L.map (·.2)).length=0∨(L.map (·.2)).length < 16∧¬ k≤IntKind.i64.wrap (size - ((Qa (L.map (·.2))).length:Int))
 ·have e:Yp (L.map (·.2)) size left k=(((L.map (·.2)).length:Int),0,true,L.map (·.2)++[zl [] k],IntKind.i64.wrap (left - k)):=(if_neg c).trans (if_pos c2)
  rw [List.length_map] at c2 e
  have hf:L.length=0∨L.length < 16∧∃ x,Zv L ((L.length:Int) - 1)=some x∧¬ k≤IntKind.i64.wrap (size - (x.2.length:Int)):=by
   by_cases h0:L.length=0
   ·exact .inl h0
   obtain ⟨q1,q2⟩:=c2.resolve_left h0
   obtain ⟨x,hx⟩:=Zye (L:=L) (by omega)
   exact .inr ⟨q1,x,hx,by rw [← Znl (by omega) hx];exact q2⟩
  have g:=Z0g (k:=k) h.hi h.hj h.lt h.hij h.ho h.hoj (by omega) (by omega) (by omega) (by omega) hf
  have ea:(L++[(n,zl [] k)]).length=L.length+1:=by simp
  rw [ea] at g
  rw [e]
  exact ⟨_,n+1,L++[(n,zl [] k)],g,Nat.le_succ n,h.new _ _,by simp,fun t ht=>(Zy1 ht).imp id (fun q=>by omega),fun t ht h1=>Zym _ _ _ h1 (by omega)⟩
 have e:Yp (L.map (·.2)) size left k=(((L.map (·.2)).length:Int) - 1,((Qa (L.map (·.2))).length:Int),true,(L.map (·.2)).set ((L.map (·.2)).length - 1) (zl (Qa (L.map (·.2))) k),IntKind.i64.wrap (left - k)):=(if_neg c).trans (if_neg c2)
 rw [List.length_map] at c2 e
 obtain ⟨x,hx⟩:=Zye (L:=L) (by omega)
 have hla:=Znl (by omega) hx
 rw [hla] at c2 e
 have bx:=hB x (Z9 hx)
 have g:=Z15 (k:=k) h.hi h.hj h.lt h.hij (h.ni x (Z9 hx)) (h.nj x (Z9 hx)) h.ho h.hoj hx (h.hL x (Z9 hx)) (by omega) (by omega) (by omega) (by omega) (by
  by_cases q:k≤IntKind.i64.wrap (size - (x.2.length:Int))
  ·exact .inl q
  exact .inr (by omega))
 rw [Xj] at g
 rw [e]
 refine ⟨_,n,Yc L ((L.length:Int) - 1) (x.1,zl x.2 k),g,Nat.le_refl n,h.set hx _ _,?_,fun t ht => .inl (Zoc hx _ ht),fun t ht h1=>Znr hx _ _ _ h1⟩
 rw [Zgj]
 unfold Yc
 rw [show ((L.length:Int) - 1).toNat=L.length - 1 by omega]
theorem Z1a {O:Objs} {n i j:Nat} {L:List NR} {size most left:Int} (h:PX (HR j size most (most - left)) O n i j L) (h16:L.length≤16) (hl0:0≤left) (hl:left≤131072) (hm:left≤most) (hm2:most≤131072) (hB:∀ x∈L,(x.2.length:Int)+left≤131072) (k:Int) :
  ∃ O' n' L',GTo Try.prog 56 [.ref i 0,.val (.int .i64 k)] O n (.tup [.val (.int .i64 (bif (Yp (L.map (·.2)) size left k).2.2.1 then (Yp (L.map (·.2)) size left k).1 else -1)),.val (.int .i64 (bif (Yp (L.map (·.2)) size left k).2.2.1 then (Yp (L.map (·.2)) size left k).2.1 else -1))]) O' n'∧n≤n' ∧
   PX (HR j size most (most - (Yp (L.map (·.2)) size left k).2.2.2.2)) O' n' i j L'∧L'.map (·.2)=(Yp (L.map (·.2)) size left k).2.2.2.1∧(∀ t,ter i j L' t→ter i j L t∨n≤t)∧(∀ t,t < n→¬ ter i j L t→O' t=O t):=by
 have hwl:IntKind.i64.wrap (most - (most - left))=left:=by rw [X3 (by omega)];omega
 by_cases c:k < 0∨left < k
 ·have e:Yp (L.map (·.2)) size left k=(0,0,false,L.map (·.2),left):=if_pos c
  rw [e]
  exact ⟨O,n,L,Zwb h.hi h.hj h.ho h.hoj (by rw [hwl];exact c),Nat.le_refl _,h,rfl,fun t ht => .inl ht,fun _ _ _=>rfl⟩
 by_cases c2:(L.map (·.2)).length=0∨(L.map (·.2)).length < 16∧¬ k≤IntKind.i64.wrap (size - ((Qa (L.map (·.2))).length:Int))
 ·have e:Yp (L.map (·.2)) size left k=(((L.map (·.2)).length:Int),0,true,L.map (·.2)++[zl [] k],IntKind.i64.wrap (left - k)):=(if_neg c).trans (if_pos c2)
  rw [List.length_map] at c2 e
  have hf:L.length=0∨L.length < 16∧∃ x,Zv L ((L.length:Int) - 1)=some x∧¬ k≤IntKind.i64.wrap (size - (x.2.length:Int)):=by
   by_cases h0:L.length=0
   ·exact .inl h0
   obtain ⟨q1,q2⟩:=c2.resolve_left h0
   obtain ⟨x,hx⟩:=Zye (L:=L) (by omega)
   exact .inr ⟨q1,x,hx,by rw [← Znl (by omega) hx];exact q2⟩
  have hw:IntKind.i64.wrap ((most - left)+k)=most - IntKind.i64.wrap (left - k):=by rw [X3 (by omega),X3 (by omega)];omega
  have g:=Zuk (k:=k) h.hi h.hj h.lt h.hij h.ho h.hoj (by omega) (by rw [hwl];omega) (by omega) (by omega) hf
  rw [hw] at g
  rw [e]
  exact ⟨_,n+1,L++[(n,zl [] k)],g,Nat.le_succ n,h.new _ _,by simp,fun t ht=>(Zy1 ht).imp id (fun q=>by omega),fun t ht h1=>Zym _ _ _ h1 (by omega)⟩
 have e:Yp (L.map (·.2)) size left k=(((L.map (·.2)).length:Int) - 1,((Qa (L.map (·.2))).length:Int),true,(L.map (·.2)).set ((L.map (·.2)).length - 1) (zl (Qa (L.map (·.2))) k),IntKind.i64.wrap (left - k)):=(if_neg c).trans (if_neg c2)
 rw [List.length_map] at c2 e
 obtain ⟨x,hx⟩:=Zye (L:=L) (by omega)
 have hla:=Znl (by omega) hx
 rw [hla] at c2 e
 have bx:=hB x (Z9 hx)
 have hw:IntKind.i64.wrap ((most - left)+k)=most - IntKind.i64.wrap (left - k):=by rw [X3 (by omega),X3 (by omega)];omega
 have g:=Zwa (k:=k) h.hi h.hj h.lt h.hij (h.ni x (Z9 hx)) (h.nj x (Z9 hx)) h.ho h.hoj hx (h.hL x (Z9 hx)) (by omega) (by rw [hwl];omega) (by omega) (by omega) (by
  by_cases q:k≤IntKind.i64.wrap (size - (x.2.length:Int))
  ·exact .inl q
  exact .inr (by omega))
 rw [hw] at g
 rw [e]
 refine ⟨_,n,Yc L ((L.length:Int) - 1) (x.1,zl x.2 k),g,Nat.le_refl n,h.set hx _ _,?_,fun t ht => .inl (Zoc hx _ ht),fun t ht h1=>Znr hx _ _ _ h1⟩
 rw [Zgj]
 unfold Yc
 rw [show ((L.length:Int) - 1).toNat=L.length - 1 by omega]
theorem Zu3 {O:Objs} {n b i j:Nat} {L:List NR} {size most left:Int} (h:PX (HR j size most (most - left)) O n i j L) (hb:b < n) (hbt:¬ ter i j L b) (hob:O b=some (HB i true)) (h16:L.length≤16) (hl0:0≤left) (hl:left≤131072) (hm:left≤most) (hm2:most≤131072) (hB:∀ x∈L,(x.2.length:Int)+left≤131072) (k:Int)
  (hpos:(Yp (L.map (·.2)) size left k).2.2.1=true→0≤(Yp (L.map (·.2)) size left k).1) :
  ∃ O' n' L',GTo Try.prog 29 [.ref b 0,.val (.int .i64 k)] O n (.tup [.val (.int .i64 (bif (Yp (L.map (·.2)) size left k).2.2.1 then (Yp (L.map (·.2)) size left k).1 else -1)),.val (.int .i64 (bif (Yp (L.map (·.2)) size left k).2.2.1 then (Yp (L.map (·.2)) size left k).2.1 else -1))]) O' n'∧n≤n' ∧
   O' b=some (HB i (Yp (L.map (·.2)) size left k).2.2.1)∧PX (HR j size most (most - (Yp (L.map (·.2)) size left k).2.2.2.2)) O' n' i j L'∧L'.map (·.2)=(Yp (L.map (·.2)) size left k).2.2.2.1∧(∀ t,ter i j L' t→ter i j L t∨n≤t)∧(∀ t,t < n→t≠b→¬ ter i j L t→O' t=O t):=by
 obtain ⟨Y,m,M,g,g1,g2,g3,g4,g5⟩:=Z1a h h16 hl0 hl hm hm2 hB k
 obtain ⟨R,hR⟩:∃ R,R=Yp (L.map (·.2)) size left k:=⟨_,rfl⟩
 rw [← hR] at g g2 g3 hpos ⊢
 have hYb:Y b=some (HB i true):=(g5 b hb hbt).trans hob
 have hbm:b < m:=by omega
 have him:=g2.hi
 have hi:=h.hi
 have hbt2:¬ ter i j M b:=fun q=>(g4 b q).elim (fun q=>hbt q) (fun q=>by omega)
 have hii:i≠b:=fun e=>hbt (.inl e.symm)
 refine ⟨Y.upd b (some (HB i R.2.2.1)),m,M,?_,g1,Zo _ _ _,g2.frame (fun t ht=>Zn _ _ (fun e=>hbt2 (e ▸ ht))) (Nat.le_refl m),g3,g4,fun t h1 h2 h3=>by rw [Zn _ _ h2];exact g5 t h1 h3⟩
 refine Yi Zc Try.call29 Try.func29 rfl (Nat.le_of_ble_eq_true rfl) g1 fun hU => ?_
 have hob':=hob
 have hYb':=hYb
 unfold HB at hob' hYb'
 show W _ _ _ _ ⟨24,[],[(0,.ref b 0),(1,.val (.int .i64 k))]⟩ (Zw O n []) _
 rw [Yh hU.fresh]
 refine Zj [0,1] (Zb Zc [] ?_)
 simp only [push_cast,seval,↓reduceIte,Za,hb]
 refine Zj [0,6,7] (Zb Zc [] ?_)
 simp only [push_cast,seval,↓reduceIte,Za,hb,hi,hob']
 refine g.then ?_
 simp only [push_cast,seval,↓reduceIte,Za,hbm]
 refine Zx fun hUY => ?_
 cases c:R.2.2.1 with
 | true =>
  have d1:decide (R.1 < 0)=false:=decide_eq_false (by have:=hpos c;omega)
  have e1:Y.upd b (some (HB i true))=Y:=Z1t hYb
  rw [e1]
  simp only [cond_true]
  refine Yk (E':=⟨24,[],[(6,.val (.int .i64 R.1)),(7,.val (.int .i64 R.2.1))]⟩) (O':=Y) (n0:=m) ?_ ?_
  ·refine Zj [0,6,7,18] (Zb Zc [] ?_)
   simp only [push_cast,seval,↓reduceIte,Za,hbm,d1]
   refine Zl (t:=false) rfl (fun c15=>by cases c15) (fun c15 => ?_)
   refine Zp ?_
   refine And.intro rfl (Yf hUY g1 rfl ?_)
   simp only [push_cast,seval,↓reduceIte,Za]
  refine Zj [4,5] (Zb Zc [] ?_)
  simp only [push_cast,seval,↓reduceIte,Za]
  refine Zs ?_
  refine Zu (P:=Try.prog) (.inr rfl) hUY [.val (.int .i64 R.1),.val (.int .i64 R.2.1)] g1 ?_
  simp only [push_cast,seval,↓reduceIte,Za,Try.results29]
 | false =>
  simp only [cond_false]
  have hU3:Und (Y.upd b (some (HB i false))) m:=hUY.set hbm (by simp [HB,G.unders,G.under,him])
  refine Yk (E':=⟨24,[],[(6,.val (.int .i64 (-1))),(7,.val (.int .i64 (-1)))]⟩) (O':=Y.upd b (some (HB i false))) (n0:=m) ?_ ?_
  ·refine Zj [0,6,7,18] (Zb Zc [] ?_)
   simp only [push_cast,seval,↓reduceIte,Za,hbm]
   refine Zl (t:=true) rfl (fun c15 => ?_) (fun c15=>by cases c15)
   refine Zb Zc [] ?_
   simp only [push_cast,seval,↓reduceIte,Za,hbm,hYb']
   refine And.intro rfl (Yf hU3 g1 rfl ?_)
   simp only [push_cast,seval,↓reduceIte,Za]
  refine Zj [4,5] (Zb Zc [] ?_)
  simp only [push_cast,seval,↓reduceIte,Za]
  refine Zs ?_
  refine Zu (P:=Try.prog) (.inr rfl) hU3 [.val (.int .i64 (-1)),.val (.int .i64 (-1))] g1 ?_
  simp only [push_cast,seval,↓reduceIte,Za,Try.results29]
theorem Zbn {α:Type} {L:List α} {s:Int} (h0:0≤s) (h:s < (L.length:Int)):∃ x,Zv L s=some x:=⟨L[s.toNat]'(by omega),by unfold Zv;rw [if_pos h0];exact List.getElem?_eq_getElem (by omega)⟩
def vA (A:List (List Int)) (s p:Int):Option Int:=(Zv A s).bind fun x=>Zv x p
theorem Zbm {α:Type} {L:List α} {s q:Int} (y:α) (h:q≠s):Zv (Yc L s y) q=Zv L q∨(s < 0):=by
 by_cases c:s < 0
 ·exact .inr c
 left
 unfold Zv Yc
 by_cases c0:0≤q
 ·rw [if_pos c0,if_pos c0,List.getElem?_set_ne (by omega)]
 rw [if_neg c0,if_neg c0]
theorem Zvh {α:Type} {x y:List α} (h:∀ p,Zv x p=Zv y p):x=y:=by
 apply List.ext_getElem?
 intro i
 have:=h (i:Int)
 unfold Zv at this
 rwa [if_pos (by omega),if_pos (by omega),Int.toNat_natCast] at this
theorem Zr4 {A B:List (List Int)} (hl:A.length=B.length) (h:∀ s p,vA A s p=vA B s p):A=B:=by
 apply Zvh
 intro s
 cases ha:Zv A s with
 | none =>
  cases hb:Zv B s with
  | none=>rfl
  | some y =>
   have h1:=Zad ha
   have h2:=Xy hb
   omega
 | some x =>
  cases hb:Zv B s with
  | none =>
   have h1:=Zad hb
   have h2:=Xy ha
   omega
  | some y =>
   refine congrArg some (Zvh fun p => ?_)
   have:=h s p
   unfold vA at this
   rw [ha,hb] at this
   exact this
theorem hasB_iff {A:List (List Int)} {s p:Int}:Yj A s p 1=true↔∃ v,vA A s p=some v:=by
 unfold Yj vA
 cases ha:Zv A s with
 | none=>simp
 | some x =>
  rw [Option.bind_some,decide_eq_true_eq]
  constructor
  ·intro h;exact Zbn (by omega) (by omega)
  intro ⟨v,hv⟩;have:=Xy hv;omega
theorem X9 {A:List (List Int)} {s p k:Int} (h:Yj A s p k=true):∃ x,Zv A s=some x∧0≤p∧0≤k∧p+k≤(x.length:Int):=by
 unfold Yj at h
 cases e:Zv A s with
 | none=>rw [e] at h;cases h
 | some t=>rw [e] at h;have:=of_decide_eq_true h;exact ⟨t,rfl,by omega⟩
theorem Zg4 {A:List (List Int)} {s p k:Int} {x:List Int} (h:Zv A s=some x) (h0:0≤p) (h1:0≤k) (h2:p+k≤(x.length:Int)):Yj A s p k=true:=by
 unfold Yj
 rw [h]
 exact decide_eq_true (by omega)
theorem Q4 (A:List (List Int)) (s p v:Int):(Y1 A s p v).length=A.length:=by
 unfold Y1
 split
 ·exact Xj _ _ _
 rfl
theorem Zkr {A:List (List Int)} {s p:Int} (v:Int) (h:¬ Yj A s p 1=true):Y1 A s p v=A:=by unfold Y1;rw [if_neg h]
theorem G3 {A:List (List Int)} {s p:Int} (v:Int) (h:Yj A s p 1=true) (s' p':Int):vA (Y1 A s p v) s' p'=if s'=s∧p'=p then some v else vA A s' p':=by
 obtain ⟨x,hx,h0,_,h2⟩:=X9 h
 have hs:=Xy hx
 unfold Y1 vA
 rw [if_pos h,hx,Option.getD_some]
 by_cases c:s'=s
 ·subst c
  rw [X1 hx,hx,Option.bind_some,Option.bind_some]
  by_cases c2:p'=p
  ·subst c2
   obtain ⟨w,hw⟩:=Zbn (L:=x) h0 (by omega)
   rw [X1 hw,if_pos ⟨rfl,rfl⟩]
  rw [if_neg (fun q=>c2 q.2)]
  rcases Zbm (L:=x) v c2 with q | q
  ·exact q
  omega
 rw [if_neg (fun q=>c q.1)]
 rcases Zbm (L:=A) (Yc x p v) c with q | q
 ·rw [q]
 omega
theorem Zuj (A:List (List Int)) {s p s' p':Int} (v v':Int) (h:¬ (s'=s∧p'=p)):Y1 (Y1 A s p v) s' p' v'=Y1 (Y1 A s' p' v') s p v:=by
 by_cases c:Yj A s p 1=true
 ·by_cases c':Yj A s' p' 1=true
  ·have d:Yj (Y1 A s p v) s' p' 1=true:=by rw [Zdy];exact c'
   have d':Yj (Y1 A s' p' v') s p 1=true:=by rw [Zdy];exact c
   refine Zr4 (by simp only [Q4]) fun a b => ?_
   rw [G3 _ d,G3 _ c,G3 _ d',G3 _ c']
   by_cases e:a=s'∧b=p'
   ·rw [if_pos e,if_pos e,if_neg (fun q=>h ⟨e.1.symm.trans q.1,e.2.symm.trans q.2⟩)]
   rw [if_neg e,if_neg e]
  rw [Zkr v' c',Zkr v' (by rw [Zdy];exact c')]
 rw [Zkr v c,Zkr v (by rw [Zdy];exact c)]
theorem Z06 {A:List (List Int)} {s p v:Int} (h:vA A s p=some v):Y1 A s p v=A:=by
 have c:Yj A s p 1=true:=hasB_iff.2 ⟨v,h⟩
 refine Zr4 (Q4 _ _ _ _) fun a b => ?_
 rw [G3 _ c]
 split
 ·rename_i e;rw [e.1,e.2,h]
 rfl
theorem Zgg (s p v s':Int):∀ (ws:List Int) (A:List (List Int)) (p':Int),¬ (s=s'∧p'≤p∧p < p'+(ws.length:Int))→Yn (Y1 A s p v) s' p' ws=Y1 (Yn A s' p' ws) s p v
 | [],_,_,_=>rfl
 | w::ws,A,p',h=>by
  rw [List.length_cons] at h
  rw [Yn,Yn,Zuj A v w (fun q=>h ⟨q.1.symm,by omega⟩),Zgg s p v s' ws _ _ (fun q=>h ⟨q.1,by omega⟩)]
theorem Zvi {A:List (List Int)} {s p:Int} (v:Int) {q:Int} {x:List Int} (h:Zv A q=some x):∃ y,Zv (Y1 A s p v) q=some y∧y.length=x.length:=by
 unfold Y1
 split
 ·rename_i c
  obtain ⟨z,hz,_⟩:=X9 c
  by_cases e:q=s
  ·subst e
   rw [h]
   exact ⟨_,X1 h,Xj _ _ _⟩
  rcases Zbm (L:=A) (Yc ((Zv A s).getD []) p v) e with g | g
  ·rw [g];exact ⟨x,h,rfl⟩
  have:=Xy hz;omega
 exact ⟨x,h,rfl⟩
theorem Zga {A:List (List Int)} (h:A.length≠0):Zv A ((A.length:Int) - 1)=some (Qa A):=by
 unfold Zv Qa
 rw [if_pos (by omega),show ((A.length:Int) - 1).toNat=A.length - 1 by omega]
 rw [List.getElem?_eq_getElem (by omega)];rfl
theorem Zkn (A:List (List Int)) (s p v:Int):(Qa (Y1 A s p v)).length=(Qa A).length:=by
 by_cases h:A.length=0
 ·have:A=[]:=List.length_eq_zero_iff.1 h
  subst this
  rw [Zkr]
  unfold Yj Zv
  simp
 obtain ⟨y,h1,h2⟩:=Zvi (s:=s) (p:=p) v (Zga h)
 have:=Zga (A:=Y1 A s p v) (by rw [Q4];exact h)
 rw [Q4,h1] at this
 rw [← Option.some.inj this,h2]
theorem Zfv {A:List (List Int)} {s0:Int} {x:List Int} (h:Zv A s0=some x) {k:Int} (hk:0≤k) (s p:Int):vA (Yc A s0 (zl x k)) s p=if s=s0∧(x.length:Int)≤p∧p < (x.length:Int)+k then some 0 else vA A s p:=by
 have hs:=Xy h
 unfold vA
 by_cases c:s=s0
 ·subst c
  rw [X1 h,h,Option.bind_some,Option.bind_some]
  unfold Zv zl
  by_cases c0:0≤p
  ·rw [if_pos c0]
   by_cases c1:p < (x.length:Int)
   ·rw [if_neg (by omega),List.getElem?_append_left (by omega),if_pos c0]
   rw [List.getElem?_append_right (by omega),List.getElem?_replicate]
   by_cases c2:p < (x.length:Int)+k
   ·rw [if_pos (by omega),if_pos ⟨rfl,by omega,c2⟩]
   rw [if_neg (by omega),if_neg (by omega),if_pos c0,List.getElem?_eq_none (by omega)]
  rw [if_neg c0,if_neg (by omega),if_neg c0]
 rw [if_neg (fun q=>c q.1)]
 rcases Zbm (L:=A) (zl x k) c with q | q
 ·rw [q]
 omega
theorem Zut {A:List (List Int)} {k:Int} (hk:0≤k) (s p:Int):vA (A++[zl [] k]) s p=if s=(A.length:Int)∧0≤p∧p < k then some 0 else vA A s p:=by
 unfold vA
 have e:Zv (A++[zl [] k]) s=if s=(A.length:Int) then some (zl [] k) else Zv A s:=by
  unfold Zv
  by_cases c:0≤s
  ·rw [if_pos c,if_pos c]
   by_cases c1:s=(A.length:Int)
   ·rw [if_pos c1,c1,Int.toNat_natCast,List.getElem?_append_right (Nat.le_refl _),Nat.sub_self];rfl
   rw [if_neg c1]
   by_cases c2:s < (A.length:Int)
   ·rw [List.getElem?_append_left (by omega)]
   rw [List.getElem?_eq_none (by simp;omega),List.getElem?_eq_none (by omega)]
  rw [if_neg c,if_neg c,if_neg (by omega)]
 rw [e]
 by_cases c:s=(A.length:Int)
 ·rw [if_pos c,Option.bind_some]
  have hn:Zv A s=none:=by
   cases h:Zv A s with
   | none=>rfl
   | some x=>have:=Xy h;omega
  rw [hn]
  unfold Zv zl
  by_cases c0:0≤p
  ·rw [if_pos c0,List.nil_append,List.getElem?_replicate]
   by_cases c2:p < k
   ·rw [if_pos (by omega),if_pos ⟨c,c0,c2⟩]
   rw [if_neg (by omega),if_neg (by omega)];rfl
  rw [if_neg c0,if_neg (by omega)];rfl
 rw [if_neg c,if_neg (fun q=>c q.1)]
theorem Z0h {A:List (List Int)} {s p:Int} (v:Int) (h:Yj A s p 1=true) (size left k:Int) :
  Yp (Y1 A s p v) size left k=((Yp A size left k).1,(Yp A size left k).2.1,(Yp A size left k).2.2.1,Y1 (Yp A size left k).2.2.2.1 s p v,(Yp A size left k).2.2.2.2):=by
 by_cases c:k < 0∨left < k
 ·have e:∀ A,Yp A size left k=(0,0,false,A,left):=fun A=>if_pos c
  rw [e,e]
 obtain ⟨x,hx,h0,_,h2⟩:=X9 h
 have hs:=Xy hx
 by_cases c2:A.length=0∨A.length < 16∧¬ k≤IntKind.i64.wrap (size - ((Qa A).length:Int))
 ·have e:Yp A size left k=((A.length:Int),0,true,A++[zl [] k],IntKind.i64.wrap (left - k)):=(if_neg c).trans (if_pos c2)
  have e':Yp (Y1 A s p v) size left k=((A.length:Int),0,true,Y1 A s p v++[zl [] k],IntKind.i64.wrap (left - k)):=by
   have:=(if_neg c).trans (if_pos (by rw [Q4,Zkn];exact c2)) (a:=Yp (Y1 A s p v) size left k)
   rw [Q4] at this
   exact this
  rw [e,e']
  have hb:Yj (A++[zl [] k]) s p 1=true:=hasB_iff.2 (by
   obtain ⟨w,hw⟩:=hasB_iff.1 h
   rw [Zut (by omega),if_neg (by omega)];exact ⟨w,hw⟩)
  have:Y1 A s p v++[zl [] k]=Y1 (A++[zl [] k]) s p v:=by
   refine Zr4 (by simp [Q4]) fun a b => ?_
   rw [Zut (by omega),G3 _ hb,Zut (by omega),G3 _ h,Q4]
   by_cases q:a=s∧b=p
   ·rw [if_pos q,if_pos q,if_neg (by omega)]
   rw [if_neg q,if_neg q]
  rw [this]
 have e:Yp A size left k=((A.length:Int) - 1,((Qa A).length:Int),true,A.set (A.length - 1) (zl (Qa A) k),IntKind.i64.wrap (left - k)):=(if_neg c).trans (if_neg c2)
 have e':Yp (Y1 A s p v) size left k=((A.length:Int) - 1,((Qa A).length:Int),true,(Y1 A s p v).set (A.length - 1) (zl (Qa (Y1 A s p v)) k),IntKind.i64.wrap (left - k)):=by
  have:=(if_neg c).trans (if_neg (by rw [Q4,Zkn];exact c2)) (a:=Yp (Y1 A s p v) size left k)
  rw [Q4,Zkn] at this
  exact this
 rw [e,e']
 have hA:A.length≠0:=by omega
 have se:∀ (B:List (List Int)) (z:List Int),B.length=A.length→B.set (A.length - 1) z=Yc B ((A.length:Int) - 1) z:=fun B z hB=>by
  unfold Yc;rw [show ((A.length:Int) - 1).toNat=A.length - 1 by omega]
 have l1:=Zga hA
 have l2:=Zga (A:=Y1 A s p v) (by rw [Q4];exact hA)
 rw [Q4] at l2
 have hb:Yj (Yc A ((A.length:Int) - 1) (zl (Qa A) k)) s p 1=true:=hasB_iff.2 (by
  obtain ⟨w,hw⟩:=hasB_iff.1 h
  rw [Zfv l1 (by omega)]
  split
  ·exact ⟨0,rfl⟩
  exact ⟨w,hw⟩)
 have:(Y1 A s p v).set (A.length - 1) (zl (Qa (Y1 A s p v)) k)=Y1 (A.set (A.length - 1) (zl (Qa A) k)) s p v:=by
  rw [se _ _ (Q4 _ _ _ _),se _ _ rfl]
  refine Zr4 (by simp only [Xj,Q4]) fun a b => ?_
  rw [Zfv l2 (by omega),G3 _ hb,Zfv l1 (by omega),G3 _ h,Zkn]
  by_cases q:a=s∧b=p
  ·rw [if_pos q,if_pos q,if_neg]
   intro q2
   rw [q.1] at q2
   rw [← q2.1,hx] at l1
   have:=Option.some.inj l1
   rw [← this] at q2
   omega
  rw [if_neg q,if_neg q]
 rw [this]
abbrev SG:=List (List Int)×Int
noncomputable def pt1 (s p v:Int) (σ:SG):SG:=(Y1 σ.1 s p v,σ.2)
noncomputable def Ye (size:Int) (σ:SG) (k:Int):Option (Int×Int×SG):=bif (Yp σ.1 size σ.2 k).2.2.1 then some ((Yp σ.1 size σ.2 k).1,(Yp σ.1 size σ.2 k).2.1,(Yp σ.1 size σ.2 k).2.2.2) else none
open Classical in
noncomputable def inO (size:Int) (σ:SG) (s:Int):Option (Int×SG):=match Zv σ.1 s with
 | none=>none
 | some x=>if 1≤σ.2∧1≤IntKind.i64.wrap (size - (x.length:Int)) then some ((x.length:Int),Yc σ.1 s (zl x 1),IntKind.i64.wrap (σ.2 - 1)) else none
def nw (a b k u:Int):Int:=(b - a - 1) % 1073741824 * 4+k+u * 4294967296
def fw (h b d:Int):Int:=2+4 * d+8 * b+4294967296 * h
open Classical in
/-- a pointer, and its pads -/
noncomputable def K6 (size:Int) (σ:SG) (s p k u h b:Int):Option SG :=
 if k=0∧u=0 then some (pt1 s p 4294967292 σ)
 else if h=s then some (pt1 s p (nw p b k u) σ)
 else match inO size σ h with
  | some r=>some (pt1 s p (fw h r.1 0) (pt1 h r.1 (nw r.1 b k u) r.2))
  | none=>(Ye size σ 2).map fun r=>pt1 s p (fw r.1 r.2.1 1) (Yn r.2.2.1 r.1 r.2.1 [fw h b 0,k+u * 4294967296],r.2.2.2)
structure St (size most:Int) (σ:SG):Prop where
 h16:σ.1.length≤16
 hl0:0≤σ.2
 hm:σ.2≤most
 hmm:most≤131072
 hB:∀ x∈σ.1,(x.length:Int)+σ.2≤131072
def Ex (σ τ:SG):Prop:=∀ s p m,Yj σ.1 s p m=true→Yj τ.1 s p m=true
theorem Ex.refl (σ:SG):Ex σ σ:=fun _ _ _ h=>h
theorem Ex.trans {σ τ ρ:SG} (h:Ex σ τ) (h':Ex τ ρ):Ex σ ρ:=fun s p m q=>h' s p m (h s p m q)
theorem Ex.put (s p v:Int) (σ:SG):Ex σ (pt1 s p v σ):=fun s' p' m h=>by show Yj (Y1 σ.1 s p v) s' p' m=true;rw [Zdy];exact h
theorem Ex.lays (s p:Int) (ws:List Int) (σ:SG):Ex σ (Yn σ.1 s p ws,σ.2):=fun s' p' m h=>by show Yj (Yn σ.1 s p ws) s' p' m=true;rw [Zkl];exact h
theorem Z2g {A:List (List Int)} {s p v:Int} {y:List Int} (h:y∈Y1 A s p v):∃ x∈A,y.length=x.length:=by
 unfold Y1 at h
 split at h
 ·rename_i c
  obtain ⟨z,hz,_⟩:=X9 c
  rcases List.mem_or_eq_of_mem_set h with q | q
  ·exact ⟨y,q,rfl⟩
  rw [hz] at q
  exact ⟨z,Z9 hz,by rw [q];exact Xj _ _ _⟩
 exact ⟨y,h,rfl⟩
theorem St.put {size most:Int} {σ:SG} (h:St size most σ) (s p v:Int):St size most (pt1 s p v σ) :=
 ⟨by show (Y1 σ.1 s p v).length≤16;rw [Q4];exact h.h16,h.hl0,h.hm,h.hmm,fun y hy=>by obtain ⟨x,hx,e⟩:=Z2g hy;rw [e];exact h.hB x hx⟩
theorem St.lays {size most:Int} (s:Int):∀ (ws:List Int) {σ:SG} (_:St size most σ) (p:Int),St size most (Yn σ.1 s p ws,σ.2)
 | [],_,h,_=>h
 | w::ws,σ,h,p=>St.lays s ws (h.put s p w) (p+1)
theorem Zp3 {size:Int} {σ:SG} {k:Int} {r:Int×Int×SG} (h:Ye size σ k=some r):(Yp σ.1 size σ.2 k).2.2.1=true∧r=((Yp σ.1 size σ.2 k).1,(Yp σ.1 size σ.2 k).2.1,(Yp σ.1 size σ.2 k).2.2.2):=by
 unfold Ye at h
 cases c:(Yp σ.1 size σ.2 k).2.2.1 with
 | true=>rw [c,cond_true] at h;exact ⟨rfl,(Option.some.inj h).symm⟩
 | false=>rw [c,cond_false] at h;cases h
theorem Jq {size most:Int} {σ:SG} {k:Int} {r:Int×Int×SG} (hs:St size most σ) (h:Ye size σ k=some r) :
  0≤k∧0≤r.1∧0≤r.2.1∧r.2.1+k≤131072∧St size most r.2.2∧Ex σ r.2.2∧Yj r.2.2.1 r.1 r.2.1 k=true∧(∀ s p,vA r.2.2.1 s p=if s=r.1∧r.2.1≤p∧p < r.2.1+k then some 0 else vA σ.1 s p)∧(∀ p,Yj σ.1 r.1 p 1=true→p < r.2.1):=by
 obtain ⟨h1,rfl⟩:=Zp3 h
 have ex:∀ (A B:List (List Int)),(∀ s x,Zv A s=some x→∃ y,Zv B s=some y∧x.length≤y.length)→∀ s p m,Yj A s p m=true→Yj B s p m=true:=fun A B hAB s p m q=>by
  obtain ⟨x,hx,a,b,c⟩:=X9 q
  obtain ⟨y,hy,hl⟩:=hAB s x hx
  exact Zg4 hy a b (by omega)
 by_cases c:k < 0∨σ.2 < k
 ·have e:Yp σ.1 size σ.2 k=(0,0,false,σ.1,σ.2):=if_pos c
  rw [e] at h1;cases h1
 have:=hs.hm
 have:=hs.hmm
 have hw:IntKind.i64.wrap (σ.2 - k)=σ.2 - k:=X3 (by omega)
 by_cases c2:σ.1.length=0∨σ.1.length < 16∧¬ k≤IntKind.i64.wrap (size - ((Qa σ.1).length:Int))
 ·have e:Yp σ.1 size σ.2 k=((σ.1.length:Int),0,true,σ.1++[zl [] k],IntKind.i64.wrap (σ.2 - k)):=(if_neg c).trans (if_pos c2)
  rw [e,hw]
  have hz:(zl [] k).length=k.toNat:=by unfold zl;simp
  refine ⟨by omega,by show (0:Int)≤(σ.1.length:Int);omega,Int.le_refl _,by show 0+k≤131072;omega,⟨by show (σ.1++[zl [] k]).length≤16;rw [List.length_append,List.length_singleton];omega,by show 0≤σ.2 - k;omega,by show σ.2 - k≤most;omega,hs.hmm,fun x hx => ?_⟩,ex _ _ fun s x hx=>⟨x,?_,Nat.le_refl _⟩,?_,fun s p => ?_,fun p hp => ?_⟩
  ·show (x.length:Int)+(σ.2 - k)≤131072
   rcases List.mem_append.1 hx with q | q
   ·have:=hs.hB x q;omega
   rw [List.mem_singleton.1 q,hz];omega
  ·have:=Xy hx
   unfold Zv at hx ⊢
   rw [if_pos this.1] at hx ⊢
   rw [List.getElem?_append_left (by omega)];exact hx
  ·refine Zg4 (x:=zl [] k) ?_ (Int.le_refl _) (by omega) (by rw [hz];show 0+k≤_;omega)
   show Zv (σ.1++[zl [] k]) (σ.1.length:Int)=_
   unfold Zv
   rw [if_pos (by omega),Int.toNat_natCast,List.getElem?_append_right (Nat.le_refl _),Nat.sub_self];rfl
  ·show vA (σ.1++[zl [] k]) s p=if s=(σ.1.length:Int)∧0≤p∧p < 0+k then some 0 else vA σ.1 s p
   rw [Zut (by omega),Int.zero_add]
  obtain ⟨x,hx,_⟩:=X9 hp
  have:=Xy hx
  have:(σ.1.length:Int) < σ.1.length:=this.2
  omega
 have e:Yp σ.1 size σ.2 k=((σ.1.length:Int) - 1,((Qa σ.1).length:Int),true,σ.1.set (σ.1.length - 1) (zl (Qa σ.1) k),IntKind.i64.wrap (σ.2 - k)):=(if_neg c).trans (if_neg c2)
 have hA:σ.1.length≠0:=by omega
 have l1:=Zga hA
 have hm:=hs.hB _ (Z9 l1)
 have hz:(zl (Qa σ.1) k).length=(Qa σ.1).length+k.toNat:=by unfold zl;simp
 have se:σ.1.set (σ.1.length - 1) (zl (Qa σ.1) k)=Yc σ.1 ((σ.1.length:Int) - 1) (zl (Qa σ.1) k):=by
  unfold Yc;rw [show ((σ.1.length:Int) - 1).toNat=σ.1.length - 1 by omega]
 rw [e,hw,se]
 refine ⟨by omega,by show (0:Int)≤(σ.1.length:Int) - 1;omega,by show (0:Int)≤((Qa σ.1).length:Int);omega,by show ((Qa σ.1).length:Int)+k≤131072;omega,⟨by show (Yc σ.1 ((σ.1.length:Int) - 1) (zl (Qa σ.1) k)).length≤16;rw [Xj];exact hs.h16,by show 0≤σ.2 - k;omega,by show σ.2 - k≤most;omega,hs.hmm,fun x hx => ?_⟩,ex _ _ fun s x hx => ?_,?_,fun s p => ?_,fun p hp => ?_⟩
 ·show (x.length:Int)+(σ.2 - k)≤131072
  rcases List.mem_or_eq_of_mem_set hx with q | q
  ·have:=hs.hB x q;omega
  rw [q,hz];omega
 ·by_cases q:s=(σ.1.length:Int) - 1
  ·rw [q] at hx ⊢
   rw [l1] at hx
   have:=Option.some.inj hx;subst this
   exact ⟨_,X1 l1,by rw [hz];omega⟩
  rcases Zbm (L:=σ.1) (zl (Qa σ.1) k) q with g | g
  ·exact ⟨x,g.trans hx,Nat.le_refl _⟩
  omega
 ·exact Zg4 (X1 l1) (by show (0:Int)≤((Qa σ.1).length:Int);omega) (by omega) (by rw [hz];show ((Qa σ.1).length:Int)+k≤_;omega)
 ·exact Zfv l1 (by omega) s p
 obtain ⟨x,hx,a,b,c⟩:=X9 hp
 rw [show Zv σ.1 _=some (Qa σ.1) from l1] at hx
 have:=Option.some.inj hx;subst this
 show p < ((Qa σ.1).length:Int)
 omega
theorem Ztz {size most:Int} {σ:SG} {h:Int} {r:Int×SG} (hs:St size most σ) (e:inO size σ h=some r) :
  0≤r.1∧r.1+1≤131072∧St size most r.2∧Ex σ r.2∧Yj r.2.1 h r.1 1=true∧(∀ s p,vA r.2.1 s p=if s=h∧r.1≤p∧p < r.1+1 then some 0 else vA σ.1 s p)∧(∀ p,Yj σ.1 h p 1=true→p < r.1):=by
 unfold inO at e
 cases hx:Zv σ.1 h with
 | none=>rw [hx] at e;cases e
 | some x =>
  rw [hx] at e
  dsimp only at e
  split at e
  ·rename_i c
   have:=Option.some.inj e;subst this
   have:=hs.hm
   have:=hs.hmm
   have hw:IntKind.i64.wrap (σ.2 - 1)=σ.2 - 1:=X3 (by omega)
   have hl:=Xy hx
   have hb:=hs.hB x (Z9 hx)
   have hz:(zl x 1).length=x.length+1:=by unfold zl;simp
   rw [hw]
   refine ⟨by show (0:Int)≤(x.length:Int);omega,by show (x.length:Int)+1≤131072;omega,⟨by show (Yc σ.1 h (zl x 1)).length≤16;rw [Xj];exact hs.h16,by show 0≤σ.2 - 1;omega,by show σ.2 - 1≤most;omega,hs.hmm,fun y hy => ?_⟩,fun s p m q => ?_,?_,fun s p=>Zfv hx (by omega) s p,fun p hp => ?_⟩
   ·show (y.length:Int)+(σ.2 - 1)≤131072
    rcases List.mem_or_eq_of_mem_set hy with q | q
    ·have:=hs.hB y q;omega
    rw [q,hz];omega
   ·obtain ⟨y,hy,a,b,c⟩:=X9 q
    show Yj (Yc σ.1 h (zl x 1)) s p m=true
    by_cases q2:s=h
    ·subst q2
     rw [hx] at hy
     have:=Option.some.inj hy;subst this
     exact Zg4 (X1 hx) a b (by rw [hz];omega)
    rcases Zbm (L:=σ.1) (zl x 1) q2 with g | g
    ·exact Zg4 (g.trans hy) a b c
    omega
   ·exact Zg4 (X1 hx) (by show (0:Int)≤(x.length:Int);omega) (by omega) (by rw [hz];show (x.length:Int)+1≤_;omega)
   obtain ⟨y,hy,a,b,c⟩:=X9 hp
   rw [hx] at hy
   have:=Option.some.inj hy;subst this
   show p < (x.length:Int)
   omega
  cases e
theorem Zs0 {σ:SG} {s p:Int} (v:Int) (h:Yj σ.1 s p 1=true) (size k:Int):Ye size (pt1 s p v σ) k=(Ye size σ k).map fun r=>(r.1,r.2.1,pt1 s p v r.2.2):=by
 unfold Ye
 have:=Z0h v h size σ.2 k
 show (bif (Yp (Y1 σ.1 s p v) size σ.2 k).2.2.1 then some ((Yp (Y1 σ.1 s p v) size σ.2 k).1,(Yp (Y1 σ.1 s p v) size σ.2 k).2.1,(Yp (Y1 σ.1 s p v) size σ.2 k).2.2.2) else none)=_
 rw [this]
 dsimp only
 cases (Yp σ.1 size σ.2 k).2.2.1 <;> rfl
theorem Z17 {σ:SG} {s p:Int} (v:Int) (h:Yj σ.1 s p 1=true) (size h':Int):inO size (pt1 s p v σ) h'=(inO size σ h').map fun r=>(r.1,pt1 s p v r.2):=by
 unfold inO
 show (match Zv (Y1 σ.1 s p v) h' with | none=>none | some x=>_)=_
 cases hx:Zv σ.1 h' with
 | none =>
  have hl:=Zad hx
  have:Zv (Y1 σ.1 s p v) h'=none:=by
   cases e:Zv (Y1 σ.1 s p v) h' with
   | none=>rfl
   | some y=>have:=Xy e;rw [Q4] at this;omega
  rw [this];rfl
 | some x =>
  obtain ⟨y,hy,e⟩:=Zvi (s:=s) (p:=p) v hx
  rw [hy]
  dsimp only
  rw [e]
  have e2:(pt1 s p v σ).2=σ.2:=rfl
  rw [e2]
  by_cases c:1≤σ.2∧1≤IntKind.i64.wrap (size - (x.length:Int))
  ·rw [if_pos c,if_pos c]
   refine congrArg some (Prod.ext rfl (Prod.ext ?_ rfl))
   show Yc (Y1 σ.1 s p v) h' (zl y 1)=Y1 (Yc σ.1 h' (zl x 1)) s p v
   have hb:Yj (Yc σ.1 h' (zl x 1)) s p 1=true:=hasB_iff.2 (by
    obtain ⟨w,hw⟩:=hasB_iff.1 h
    rw [Zfv hx (by omega)]
    split
    ·exact ⟨0,rfl⟩
    exact ⟨w,hw⟩)
   obtain ⟨z,hz,h0,_,h2⟩:=X9 h
   refine Zr4 (by simp only [Xj,Q4]) fun a b => ?_
   rw [Zfv hy (by omega),G3 _ hb,Zfv hx (by omega),G3 _ h,e]
   by_cases q:a=s∧b=p
   ·rw [if_pos q,if_pos q,if_neg]
    intro q2
    rw [← q2.1,q.1,hz] at hx
    have:=Option.some.inj hx
    rw [← this] at q2
    omega
   rw [if_neg q,if_neg q]
  rw [if_neg c,if_neg c];rfl
theorem Zc7 (σ:SG) {s p s' p':Int} (v v':Int) (h:¬ (s'=s∧p'=p)):pt1 s' p' v' (pt1 s p v σ)=pt1 s p v (pt1 s' p' v' σ):=Prod.ext (Zuj σ.1 v v' h) rfl
theorem Zz8 {size most:Int} {σ:SG} {s p s' p':Int} (v:Int) (hs:St size most σ) (h:Yj σ.1 s p 1=true) (hne:¬ (s'=s∧p'=p)) (k u h' b:Int):K6 size (pt1 s p v σ) s' p' k u h' b=(K6 size σ s' p' k u h' b).map (pt1 s p v):=by
 unfold K6
 by_cases c1:k=0∧u=0
 ·rw [if_pos c1,if_pos c1,Zc7 _ _ _ hne];rfl
 rw [if_neg c1,if_neg c1]
 by_cases c2:h'=s'
 ·rw [if_pos c2,if_pos c2,Zc7 _ _ _ hne];rfl
 rw [if_neg c2,if_neg c2,Z17 v h]
 cases hi:inO size σ h' with
 | some r =>
  have o:=Ztz hs hi
  show some _=some _
  dsimp only
  rw [Zc7 (s:=s) (p:=p) r.2 (s':=h') (p':=r.1) _ _ (fun q=>by have:=o.2.2.2.2.2.2 p (by rw [q.1];exact h);omega),Zc7 _ _ _ hne]
 | none =>
  show Option.map _ _=Option.map _ _
  rw [Zs0 v h]
  cases hg:Ye size σ 2 with
  | none=>rfl
  | some r =>
   have o:=Jq hs hg
   show some _=some _
   dsimp only
   have e:((Yn (pt1 s p v r.2.2).1 r.1 r.2.1 [fw h' b 0,k+u * 4294967296],(pt1 s p v r.2.2).2):SG)=pt1 s p v (Yn r.2.2.1 r.1 r.2.1 [fw h' b 0,k+u * 4294967296],r.2.2.2) :=
    Prod.ext (Zgg s p v r.1 _ r.2.2.1 r.2.1 (fun q=>by have:=o.2.2.2.2.2.2.2.2 p (by rw [← q.1];exact h);omega)) rfl
   rw [e,Zc7 _ _ _ hne]
theorem Zm6 {size most:Int} {σ τ:SG} {s p k u h b:Int} (hs:St size most σ) (e:K6 size σ s p k u h b=some τ):St size most τ∧Ex σ τ∧∀ s' p',Yj σ.1 s' p' 1=true→¬ (s'=s∧p'=p)→vA τ.1 s' p'=vA σ.1 s' p':=by
 have one:∀ (ρ:SG) (v:Int) (s' p':Int),¬ (s'=s∧p'=p)→vA (pt1 s p v ρ).1 s' p'=vA ρ.1 s' p':=fun ρ v s' p' hne=>by
  show vA (Y1 ρ.1 s p v) s' p'=_
  by_cases c:Yj ρ.1 s p 1=true
  ·rw [G3 _ c,if_neg hne]
  rw [Zkr v c]
 unfold K6 at e
 split at e
 ·have:=Option.some.inj e;subst this
  exact ⟨hs.put _ _ _,Ex.put _ _ _ _,fun s' p' _ hne=>one _ _ _ _ hne⟩
 split at e
 ·have:=Option.some.inj e;subst this
  exact ⟨hs.put _ _ _,Ex.put _ _ _ _,fun s' p' _ hne=>one _ _ _ _ hne⟩
 cases hi:inO size σ h with
 | some r =>
  rw [hi] at e
  have:=Option.some.inj e;subst this
  have o:=Ztz hs hi
  refine ⟨(o.2.2.1.put _ _ _).put _ _ _,o.2.2.2.1.trans ((Ex.put _ _ _ _).trans (Ex.put _ _ _ _)),fun s' p' hb hne => ?_⟩
  rw [one _ _ _ _ hne]
  show vA (Y1 r.2.1 h r.1 _) s' p'=_
  rw [G3 _ o.2.2.2.2.1,o.2.2.2.2.2.1]
  have:¬ (s'=h∧r.1≤p'):=fun q=>by have:=o.2.2.2.2.2.2 p' (by rw [← q.1];exact hb);omega
  rw [if_neg (fun q=>this ⟨q.1,by omega⟩),if_neg (fun q=>this ⟨q.1,q.2.1⟩)]
 | none =>
  rw [hi] at e
  dsimp only at e
  cases hg:Ye size σ 2 with
  | none=>rw [hg] at e;cases e
  | some r =>
   rw [hg] at e
   have:=Option.some.inj e;subst this
   have o:=Jq hs hg
   refine ⟨(St.lays r.1 _ o.2.2.2.2.1 r.2.1).put _ _ _,o.2.2.2.2.2.1.trans ((Ex.lays _ _ _ _).trans (Ex.put _ _ _ _)),fun s' p' hb hne => ?_⟩
   rw [one _ _ _ _ hne]
   have hf:¬ (s'=r.1∧r.2.1≤p'):=fun q=>by have:=o.2.2.2.2.2.2.2.2 p' (by rw [← q.1];exact hb);omega
   have h0:=o.2.2.2.2.2.2.1
   have b0:Yj r.2.2.1 r.1 r.2.1 1=true:=Ua h0 (Int.le_refl _) (by omega)
   have b1:Yj (Y1 r.2.2.1 r.1 r.2.1 (fw h b 0)) r.1 (r.2.1+1) 1=true:=by rw [Zdy];exact Ua h0 (by omega) (by omega)
   show vA (Y1 (Y1 r.2.2.1 r.1 r.2.1 _) r.1 (r.2.1+1) _) s' p'=_
   rw [G3 _ b1,G3 _ b0,o.2.2.2.2.2.2.2.1,if_neg (fun q=>hf ⟨q.1,by omega⟩),if_neg (fun q=>hf ⟨q.1,by omega⟩),if_neg (fun q=>hf ⟨q.1,q.2.1⟩)]
noncomputable def X5 (f:Tr→Int→Int→SG→Option SG) (s:Int):Int→List Tr→SG→Option SG
 | _,[],σ=>some σ
 | p,t::ts,σ=>(f t s p σ).bind (X5 f s (p+1) ts)
noncomputable def Jb (s m:Int):Int→List Tr→List (List Int)→List (List Int)
 | _,[],A=>A
 | p,t::ts,A=>Jb s m (p+m) ts (Yn A s p t.Words)
noncomputable def Vs (f:Tr→Int→Int→SG→Option SG) (s m w:Int):Int→List Tr→SG→Option SG
 | _,[],σ=>some σ
 | p,t::ts,σ=>(X5 f s (p+w) t.Kids σ).bind (Vs f s m w (p+m) ts)
noncomputable def Zci (f:Tr→Int→Int→SG→Option SG) (s m w:Int):Int→List Tr→SG→Option SG
 | _,[],σ=>some σ
 | p,t::ts,σ=>(X5 f s (p+w) t.Kids (Yn σ.1 s p t.Words,σ.2)).bind (Zci f s m w (p+m) ts)
def Za1 (t:Tr):Int:=(t.Kids.length:Int) * 4+(fr t.Kids).1 * 4294967296+(fr t.Kids).2 * 281474976710656
def pkd (t:Tr):Int:=if t.Kind=1 then 0 else 1
def pup (t:Tr):Int:=if t.Kind=1 then (t.Words.length:Int)+65536 * (t.Kids.length:Int) else if t.Kind=9 then 7+8 * ((t.Kids.length:Int) * ((fr t.Kids).1+(fr t.Kids).2)) else t.Kind - 2+8 * (t.Kids.length:Int)
def Vp (t:Tr):Int:=if t.Kind=1 then (t.Words.length:Int)+(t.Kids.length:Int) else if t.Kind=9 then 1+(t.Kids.length:Int) * ((fr t.Kids).1+(fr t.Kids).2) else if t.Kind=8 then (t.Kids.length:Int) else ((Zkb (t.Kind - 2) (ato t)).length:Int)
noncomputable def inT (o:Bool) (f:Tr→Int→Int→SG→Option SG) (h b:Int) (t:Tr) (σ:SG):Option SG :=
 if t.Kind=1 then X5 f h (b+(t.Words.length:Int)) t.Kids (Yn σ.1 h b t.Words,σ.2)
 else if t.Kind=8 then X5 f h b t.Kids σ
 else if t.Kind=9 then
  (if o=true then Vs f h ((fr t.Kids).1+(fr t.Kids).2) (fr t.Kids).1 (b+1) t.Kids (Jb h ((fr t.Kids).1+(fr t.Kids).2) (b+1) t.Kids (if t.Kids=[] then σ.1 else Y1 σ.1 h b (Za1 t)),σ.2)
  else Zci f h ((fr t.Kids).1+(fr t.Kids).2) (fr t.Kids).1 (b+1) t.Kids (Y1 σ.1 h b (Za1 t),σ.2))
 else some (Yn σ.1 h b (Zkb (t.Kind - 2) (ato t)),σ.2)
noncomputable def Jk (o:Bool) (size:Int):Nat→Tr→Int→Int→SG→Option SG
 | 0,_,_,_,σ=>some σ
 | d+1,t,s,p,σ=>if t.Kind=0 then some σ else (Ye size σ (Vp t)).bind fun r=>(K6 size r.2.2 s p (pkd t) (pup t) r.1 r.2.1).bind fun τ=>inT o (Jk o size d) r.1 r.2.1 t τ
def Zc2 (size most:Int) (f:Tr→Int→Int→SG→Option SG):Prop:=∀ t s' p' σ,St size most σ →
 (∀ τ,f t s' p' σ=some τ→St size most τ∧Ex σ τ)∧∀ s p v,Yj σ.1 s p 1=true→¬ (s'=s∧p'=p)→f t s' p' (pt1 s p v σ)=(f t s' p' σ).map (pt1 s p v)
theorem Ky {size most:Int} {f:Tr→Int→Int→SG→Option SG} (hf:Zc2 size most f) (s':Int):∀ (ts:List Tr) (p':Int) (σ:SG),St size most σ →
  (∀ τ,X5 f s' p' ts σ=some τ→St size most τ∧Ex σ τ)∧∀ s p v,Yj σ.1 s p 1=true→¬ (s=s'∧p'≤p∧p < p'+(ts.length:Int))→X5 f s' p' ts (pt1 s p v σ)=(X5 f s' p' ts σ).map (pt1 s p v)
 | [],p',σ,hs=>⟨fun τ e=>by have:=Option.some.inj e;subst this;exact ⟨hs,Ex.refl _⟩,fun _ _ _ _ _=>rfl⟩
 | t::ts,p',σ,hs=>by
  obtain ⟨a,b⟩:=hf t s' p' σ hs
  refine ⟨fun τ e => ?_,fun s p v hb hne => ?_⟩
  ·rw [X5] at e
   cases h1:f t s' p' σ with
   | none=>rw [h1] at e;cases e
   | some ρ =>
    rw [h1] at e
    obtain ⟨c1,c2⟩:=a ρ h1
    obtain ⟨d1,d2⟩:=(Ky hf s' ts (p'+1) ρ c1).1 τ e
    exact ⟨d1,c2.trans d2⟩
  rw [List.length_cons] at hne
  rw [X5,X5,b s p v hb (fun q=>hne ⟨q.1.symm,by omega⟩)]
  cases h1:f t s' p' σ with
  | none=>rfl
  | some ρ =>
   obtain ⟨c1,c2⟩:=a ρ h1
   show X5 f s' (p'+1) ts (pt1 s p v ρ)=(X5 f s' (p'+1) ts ρ).map (pt1 s p v)
   exact (Ky hf s' ts (p'+1) ρ c1).2 s p v (c2 _ _ _ hb) (fun q=>hne ⟨q.1,by omega⟩)
theorem Zp8 (s m s' p' k:Int):∀ (ts:List Tr) (p:Int) (A:List (List Int)),Yj (Jb s m p ts A) s' p' k=Yj A s' p' k
 | [],_,_=>rfl
 | t::ts,p,A=>by rw [Jb,Zp8 s m s' p' k ts,Zkl]
theorem St.words {size most:Int} (s m:Int):∀ (ts:List Tr) (p:Int) {σ:SG},St size most σ→St size most (Jb s m p ts σ.1,σ.2)
 | [],_,_,h=>h
 | t::ts,p,σ,h=>St.words s m ts (p+m) (St.lays s t.Words h p)
theorem Ex.words (s m:Int) (ts:List Tr) (p:Int) (σ:SG):Ex σ (Jb s m p ts σ.1,σ.2):=fun s' p' k h=>by show Yj (Jb s m p ts σ.1) s' p' k=true;rw [Zp8];exact h
theorem Zta (s p v s' m:Int):∀ (ts:List Tr) (p':Int) (A:List (List Int)),(0≤m)→(s=s'→p < p')→Jb s' m p' ts (Y1 A s p v)=Y1 (Jb s' m p' ts A) s p v
 | [],_,_,_,_=>rfl
 | t::ts,p',A,hm,h=>by
  rw [Jb,Jb,Zgg s p v s' t.Words A p' (fun q=>by have:=h q.1;omega),Zta s p v s' m ts (p'+m) _ hm (fun q=>by have:=h q;omega)]
theorem Zln {size most:Int} {f:Tr→Int→Int→SG→Option SG} (hf:Zc2 size most f) (s' m w:Int) (hm:0≤m) (hw:0≤w):∀ (ts:List Tr) (p':Int) (σ:SG),St size most σ →
  (∀ τ,Vs f s' m w p' ts σ=some τ→St size most τ∧Ex σ τ)∧∀ s p v,Yj σ.1 s p 1=true→(s=s'→p < p')→Vs f s' m w p' ts (pt1 s p v σ)=(Vs f s' m w p' ts σ).map (pt1 s p v)
 | [],p',σ,hs=>⟨fun τ e=>by have:=Option.some.inj e;subst this;exact ⟨hs,Ex.refl _⟩,fun _ _ _ _ _=>rfl⟩
 | t::ts,p',σ,hs=>by
  obtain ⟨a,b⟩:=Ky hf s' t.Kids (p'+w) σ hs
  refine ⟨fun τ e => ?_,fun s p v hb hne => ?_⟩
  ·rw [Vs] at e
   cases h1:X5 f s' (p'+w) t.Kids σ with
   | none=>rw [h1] at e;cases e
   | some ρ =>
    rw [h1] at e
    obtain ⟨c1,c2⟩:=a ρ h1
    obtain ⟨d1,d2⟩:=(Zln hf s' m w hm hw ts (p'+m) ρ c1).1 τ e
    exact ⟨d1,c2.trans d2⟩
  rw [Vs,Vs,b s p v hb (fun q=>by have:=hne q.1;omega)]
  cases h1:X5 f s' (p'+w) t.Kids σ with
  | none=>rfl
  | some ρ =>
   obtain ⟨c1,c2⟩:=a ρ h1
   exact (Zln hf s' m w hm hw ts (p'+m) ρ c1).2 s p v (c2 _ _ _ hb) (fun q=>by have:=hne q;omega)
theorem Zld {size most:Int} {f:Tr→Int→Int→SG→Option SG} (hf:Zc2 size most f) (s' m w:Int) (hm:0≤m) (hw:0≤w):∀ (ts:List Tr) (p':Int) (σ:SG),St size most σ →
  (∀ τ,Zci f s' m w p' ts σ=some τ→St size most τ∧Ex σ τ)∧∀ s p v,Yj σ.1 s p 1=true→(s=s'→p < p')→Zci f s' m w p' ts (pt1 s p v σ)=(Zci f s' m w p' ts σ).map (pt1 s p v)
 | [],p',σ,hs=>⟨fun τ e=>by have:=Option.some.inj e;subst this;exact ⟨hs,Ex.refl _⟩,fun _ _ _ _ _=>rfl⟩
 | t::ts,p',σ,hs=>by
  have hs2:St size most (Yn σ.1 s' p' t.Words,σ.2):=St.lays s' _ hs _
  obtain ⟨a,b⟩:=Ky hf s' t.Kids (p'+w) _ hs2
  refine ⟨fun τ e => ?_,fun s p v hb hne => ?_⟩
  ·rw [Zci] at e
   cases h1:X5 f s' (p'+w) t.Kids (Yn σ.1 s' p' t.Words,σ.2) with
   | none=>rw [h1] at e;cases e
   | some ρ =>
    rw [h1] at e
    obtain ⟨c1,c2⟩:=a ρ h1
    obtain ⟨d1,d2⟩:=(Zld hf s' m w hm hw ts (p'+m) ρ c1).1 τ e
    exact ⟨d1,(Ex.lays _ _ _ _).trans (c2.trans d2)⟩
  have e1:((Yn (pt1 s p v σ).1 s' p' t.Words,(pt1 s p v σ).2):SG)=pt1 s p v (Yn σ.1 s' p' t.Words,σ.2):=Prod.ext (Zgg s p v s' t.Words σ.1 p' (fun q=>by have:=hne q.1;omega)) rfl
  rw [Zci,Zci,e1,b s p v (Ex.lays _ _ _ _ _ _ _ hb) (fun q=>by have:=hne q.1;omega)]
  cases h1:X5 f s' (p'+w) t.Kids (Yn σ.1 s' p' t.Words,σ.2) with
  | none=>rfl
  | some ρ =>
   obtain ⟨c1,c2⟩:=a ρ h1
   exact (Zld hf s' m w hm hw ts (p'+m) ρ c1).2 s p v (c2 _ _ _ (Ex.lays _ _ _ _ _ _ _ hb)) (fun q=>by have:=hne q;omega)
theorem Z5d (l:List Tr):0≤(fr l).1∧0≤(fr l).2:=by
 unfold fr
 have:∀ (l:List Tr) (s:Int×Int),0≤s.1→0≤s.2→0≤(l.foldl frS s).1∧0≤(l.foldl frS s).2:=fun l=>by
  induction l with
  | nil=>intro s a b;exact ⟨a,b⟩
  | cons x l ih=>intro s a b;exact ih _ (by unfold frS;dsimp only;omega) (by unfold frS;dsimp only;omega)
 exact this l (0,0) (Int.le_refl _) (Int.le_refl _)
theorem Zvo {size most:Int} {f:Tr→Int→Int→SG→Option SG} (hf:Zc2 size most f) (o:Bool) (h b:Int) (t:Tr) {σ:SG} (hs:St size most σ) :
  (∀ τ,inT o f h b t σ=some τ→St size most τ∧Ex σ τ)∧∀ s p v,Yj σ.1 s p 1=true→(s=h→p < b)→inT o f h b t (pt1 s p v σ)=(inT o f h b t σ).map (pt1 s p v):=by
 obtain ⟨w0,k0⟩:=Z5d t.Kids
 unfold inT
 by_cases c1:t.Kind=1
 ·simp only [if_pos c1]
  obtain ⟨a,b'⟩:=Ky hf h t.Kids (b+(t.Words.length:Int)) (Yn σ.1 h b t.Words,σ.2) (St.lays h _ hs b)
  refine ⟨fun τ e => ?_,fun s p v hb hne => ?_⟩
  ·obtain ⟨q1,q2⟩:=a τ e
   exact ⟨q1,(Ex.lays _ _ _ _).trans q2⟩
  rw [← b' s p v (Ex.lays _ _ _ _ _ _ _ hb) (fun q=>by have:=hne q.1;omega)]
  congr 1
  exact Prod.ext (Zgg s p v h t.Words σ.1 b (fun q=>by have:=hne q.1;omega)) rfl
 by_cases c8:t.Kind=8
 ·simp only [if_neg c1,if_pos c8]
  obtain ⟨a,b'⟩:=Ky hf h t.Kids b σ hs
  exact ⟨a,fun s p v hb hne=>b' s p v hb (fun q=>by have:=hne q.1;omega)⟩
 by_cases c9:t.Kind=9
 ·simp only [if_neg c1,if_neg c8,if_pos c9]
  cases o with
  | true =>
   simp only [if_true]
   have htag:∀ s p v,(s=h→p < b)→(if t.Kids=[] then (pt1 s p v σ).1 else Y1 (pt1 s p v σ).1 h b (Za1 t))=Y1 (if t.Kids=[] then σ.1 else Y1 σ.1 h b (Za1 t)) s p v:=fun s p v hne=>by
    by_cases e:t.Kids=[]
    ·rw [if_pos e,if_pos e];rfl
    rw [if_neg e,if_neg e]
    exact Zuj σ.1 _ _ (fun q=>by have:=hne q.1.symm;omega)
   have hs1:St size most ((if t.Kids=[] then σ.1 else Y1 σ.1 h b (Za1 t)),σ.2):=by
    split
    ·exact hs
    exact hs.put _ _ _
   have he1:Ex σ ((if t.Kids=[] then σ.1 else Y1 σ.1 h b (Za1 t)),σ.2):=by
    split
    ·exact Ex.refl _
    exact Ex.put _ _ _ _
   have hs2:=St.words h ((fr t.Kids).1+(fr t.Kids).2) t.Kids (b+1) hs1
   obtain ⟨a,b'⟩:=Zln hf h ((fr t.Kids).1+(fr t.Kids).2) (fr t.Kids).1 (by omega) w0 t.Kids (b+1) _ hs2
   refine ⟨fun τ e => ?_,fun s p v hb hne => ?_⟩
   ·obtain ⟨q1,q2⟩:=a τ e
    exact ⟨q1,(he1.trans (Ex.words _ _ _ _ _)).trans q2⟩
   rw [htag s p v hne,Zta s p v h _ t.Kids (b+1) _ (by omega) (fun q=>by have:=hne q;omega)]
   exact b' s p v (he1.trans (Ex.words _ _ _ _ _) _ _ _ hb) (fun q=>by have:=hne q;omega)
  | false =>
   simp only [Bool.false_eq_true,if_false]
   obtain ⟨a,b'⟩:=Zld hf h ((fr t.Kids).1+(fr t.Kids).2) (fr t.Kids).1 (by omega) w0 t.Kids (b+1) (pt1 h b (Za1 t) σ) (hs.put _ _ _)
   refine ⟨fun τ e => ?_,fun s p v hb hne => ?_⟩
   ·obtain ⟨q1,q2⟩:=a τ e
    exact ⟨q1,(Ex.put _ _ _ _).trans q2⟩
   have e1:((Y1 (pt1 s p v σ).1 h b (Za1 t),(pt1 s p v σ).2):SG)=pt1 s p v (pt1 h b (Za1 t) σ):=Zc7 σ _ _ (fun q=>by have:=hne q.1.symm;omega)
   rw [e1]
   exact b' s p v (Ex.put _ _ _ _ _ _ _ hb) (fun q=>by have:=hne q;omega)
 simp only [if_neg c1,if_neg c8,if_neg c9]
 refine ⟨fun τ e => ?_,fun s p v hb hne => ?_⟩
 ·have:=Option.some.inj e;subst this
  exact ⟨St.lays h _ hs b,Ex.lays _ _ _ _⟩
 exact congrArg some (Prod.ext (Zgg s p v h _ σ.1 b (fun q=>by have:=hne q.1;omega)) rfl)
theorem Zdd (o:Bool) (size most:Int):∀ d,Zc2 size most (Jk o size d)
 | 0=>fun t s' p' σ hs=>⟨fun τ e=>by have:=Option.some.inj e;subst this;exact ⟨hs,Ex.refl _⟩,fun _ _ _ _ _=>rfl⟩
 | d+1=>fun t s' p' σ hs=>by
  have ih:=Zdd o size most d
  simp only [Jk]
  by_cases c0:t.Kind=0
  ·simp only [if_pos c0]
   exact ⟨fun τ e=>by have:=Option.some.inj e;subst this;exact ⟨hs,Ex.refl _⟩,fun _ _ _ _ _=>rfl⟩
  simp only [if_neg c0]
  refine ⟨fun τ e => ?_,fun s p v hb hne => ?_⟩
  ·cases hg:Ye size σ (Vp t) with
   | none=>rw [hg] at e;cases e
   | some r =>
    rw [hg,Option.bind_some] at e
    have g:=Jq hs hg
    cases ha:K6 size r.2.2 s' p' (pkd t) (pup t) r.1 r.2.1 with
    | none=>rw [ha] at e;cases e
    | some ρ =>
     rw [ha,Option.bind_some] at e
     have a:=Zm6 g.2.2.2.2.1 ha
     have i:=(Zvo ih o r.1 r.2.1 t a.1).1 τ e
     exact ⟨i.1,g.2.2.2.2.2.1.trans (a.2.1.trans i.2)⟩
  rw [Zs0 v hb]
  cases hg:Ye size σ (Vp t) with
  | none=>rfl
  | some r =>
   have g:=Jq hs hg
   rw [Option.map_some,Option.bind_some,Option.bind_some]
   dsimp only
   rw [Zz8 v g.2.2.2.2.1 (g.2.2.2.2.2.1 _ _ _ hb) hne]
   cases ha:K6 size r.2.2 s' p' (pkd t) (pup t) r.1 r.2.1 with
   | none=>rfl
   | some ρ =>
    have a:=Zm6 g.2.2.2.2.1 ha
    rw [Option.map_some,Option.bind_some,Option.bind_some]
    exact (Zvo ih o r.1 r.2.1 t a.1).2 s p v (a.2.1 _ _ _ (g.2.2.2.2.2.1 _ _ _ hb)) (fun q=>g.2.2.2.2.2.2.2.2 p (by rw [← q];exact hb))
theorem Zs2 {size most:Int} {f:Tr→Int→Int→SG→Option SG} (hf:Zc2 size most f) (s':Int) (ts:List Tr) (p':Int):∀ (ws:List Int) (p:Int) (σ:SG),St size most σ→(p'+(ts.length:Int)≤p)→(∀ q,p≤q→q < p+(ws.length:Int)→Yj σ.1 s' q 1=true)→X5 f s' p' ts (Yn σ.1 s' p ws,σ.2)=(X5 f s' p' ts σ).map fun τ=>(Yn τ.1 s' p ws,τ.2)
 | [],_,σ,_,_,_=>by
  show X5 f s' p' ts σ=_
  cases X5 f s' p' ts σ <;> rfl
 | w::ws,p,σ,hs,hp,hb=>by
  rw [List.length_cons] at hb
  have h1:=Zs2 hf s' ts p' ws (p+1) (pt1 s' p w σ) (hs.put _ _ _) (by omega) (fun q a b=>Ex.put _ _ _ _ _ _ _ (hb q (by omega) (by omega)))
  show X5 f s' p' ts (Yn (pt1 s' p w σ).1 s' (p+1) ws,(pt1 s' p w σ).2)=_
  rw [h1,(Ky hf s' ts p' σ hs).2 s' p w (hb p (Int.le_refl _) (by omega)) (fun q=>by omega)]
  cases X5 f s' p' ts σ <;> rfl
theorem Zp9 {size most:Int} {f:Tr→Int→Int→SG→Option SG} (hf:Zc2 size most f) (s':Int) (ts:List Tr) (p' m:Int) (hm:0≤m):∀ (us:List Tr) (p:Int) (σ:SG),St size most σ→(p'+(ts.length:Int)≤p)→(∀ u∈us,(u.Words.length:Int)≤m)→(∀ q,p≤q→q < p+(us.length:Int) * m→Yj σ.1 s' q 1=true)→X5 f s' p' ts (Jb s' m p us σ.1,σ.2)=(X5 f s' p' ts σ).map fun τ=>(Jb s' m p us τ.1,τ.2)
 | [],_,σ,_,_,_,_=>by
  show X5 f s' p' ts σ=_
  cases X5 f s' p' ts σ <;> rfl
 | u::us,p,σ,hs,hp,hu,hb=>by
  have hu1:=hu u List.mem_cons_self
  rw [List.length_cons,Int.natCast_add,Int.add_mul] at hb
  have hn:0≤(us.length:Int) * m:=Int.mul_nonneg (by omega) hm
  have h1:=Zp9 hf s' ts p' m hm us (p+m) (Yn σ.1 s' p u.Words,σ.2) (St.lays s' _ hs p) (by omega) (fun x hx=>hu x (List.mem_cons_of_mem _ hx)) (fun q a b=>Ex.lays _ _ _ _ _ _ _ (hb q (by omega) (by simp only [Int.natCast_one,Int.one_mul];omega)))
  show X5 f s' p' ts (Jb s' m (p+m) us (Yn σ.1 s' p u.Words),σ.2)=_
  rw [h1,Zs2 hf s' ts p' u.Words p σ hs hp (fun q a b=>hb q a (by simp only [Int.natCast_one,Int.one_mul];omega))]
  cases X5 f s' p' ts σ <;> rfl
theorem Zsu {size most:Int} {f:Tr→Int→Int→SG→Option SG} (hf:Zc2 size most f) (s' m w:Int) (hm:0≤m) (hw:0≤w):∀ (us:List Tr) (p:Int) (σ:SG),St size most σ→(∀ u∈us,(u.Words.length:Int)≤w∧w+(u.Kids.length:Int)≤m)→(∀ q,p≤q→q < p+(us.length:Int) * m→Yj σ.1 s' q 1=true)→Zci f s' m w p us σ=Vs f s' m w p us (Jb s' m p us σ.1,σ.2)
 | [],_,_,_,_,_=>rfl
 | u::us,p,σ,hs,hu,hb=>by
  have hu1:=hu u List.mem_cons_self
  rw [List.length_cons,Int.natCast_add,Int.add_mul] at hb
  have hn:0≤(us.length:Int) * m:=Int.mul_nonneg (by omega) hm
  have hs1:=St.lays s' u.Words hs p
  rw [Zci,Vs,Jb]
  have hb1:∀ q,p+m≤q→q < p+m+(us.length:Int) * m→Yj (Yn σ.1 s' p u.Words) s' q 1=true:=fun q a b=>Ex.lays _ _ _ _ _ _ _ (hb q (by omega) (by simp only [Int.natCast_one,Int.one_mul];omega))
  have h1:=Zp9 hf s' u.Kids (p+w) m hm us (p+m) (Yn σ.1 s' p u.Words,σ.2) hs1 (by omega) (fun x hx=>by have:=hu x (List.mem_cons_of_mem _ hx);omega) hb1
  rw [h1]
  have a:=(Ky hf s' u.Kids (p+w) _ hs1).1
  cases e:X5 f s' (p+w) u.Kids (Yn σ.1 s' p u.Words,σ.2) with
  | none=>rfl
  | some ρ =>
   obtain ⟨a1,a2⟩:=a ρ e
   rw [Option.map_some,Option.bind_some,Option.bind_some]
   exact Zsu hf s' m w hm hw us (p+m) ρ a1 (fun x hx=>hu x (List.mem_cons_of_mem _ hx)) (fun q x y=>a2 _ _ _ (hb1 q x y))
def Agr (size most:Int) (f g:Tr→Int→Int→SG→Option SG) (ts:List Tr):Prop:=∀ t∈ts,∀ s p σ,St size most σ→Yj σ.1 s p 1=true→f t s p σ=g t s p σ
theorem Zg5 {size most:Int} {f g:Tr→Int→Int→SG→Option SG} (hf:Zc2 size most f) (s:Int):∀ (ts:List Tr) (p:Int) (σ:SG),Agr size most f g ts→St size most σ→(∀ q,p≤q→q < p+(ts.length:Int)→Yj σ.1 s q 1=true)→X5 f s p ts σ=X5 g s p ts σ
 | [],_,_,_,_,_=>rfl
 | t::ts,p,σ,ha,hs,hb=>by
  rw [List.length_cons] at hb
  rw [X5,X5,← ha t List.mem_cons_self s p σ hs (hb p (Int.le_refl _) (by omega))]
  cases e:f t s p σ with
  | none=>rfl
  | some ρ =>
   obtain ⟨a,b⟩:=(hf t s p σ hs).1 ρ e
   exact Zg5 hf s ts (p+1) ρ (fun x hx=>ha x (List.mem_cons_of_mem _ hx)) a (fun q x y=>b _ _ _ (hb q (by omega) (by omega)))
theorem Zo5 {size most:Int} {f g:Tr→Int→Int→SG→Option SG} (hf:Zc2 size most f) (s m w:Int) (hm:0≤m) (hw:0≤w):∀ (us:List Tr) (p:Int) (σ:SG),(∀ u∈us,Agr size most f g u.Kids)→(∀ u∈us,w+(u.Kids.length:Int)≤m)→St size most σ→(∀ q,p≤q→q < p+(us.length:Int) * m→Yj σ.1 s q 1=true)→Vs f s m w p us σ=Vs g s m w p us σ
 | [],_,_,_,_,_,_=>rfl
 | u::us,p,σ,ha,hu,hs,hb=>by
  have hu1:=hu u List.mem_cons_self
  rw [List.length_cons,Int.natCast_add,Int.add_mul] at hb
  simp only [Int.natCast_one,Int.one_mul] at hb
  have hn:0≤(us.length:Int) * m:=Int.mul_nonneg (by omega) hm
  rw [Vs,Vs,← Zg5 hf s u.Kids (p+w) σ (ha u List.mem_cons_self) hs (fun q x y=>hb q (by omega) (by omega))]
  cases e:X5 f s (p+w) u.Kids σ with
  | none=>rfl
  | some ρ =>
   obtain ⟨a,b⟩:=(Ky hf s u.Kids (p+w) σ hs).1 ρ e
   exact Zo5 hf s m w hm hw us (p+m) ρ (fun x hx=>ha x (List.mem_cons_of_mem _ hx)) (fun x hx=>hu x (List.mem_cons_of_mem _ hx)) a (fun q x y=>b _ _ _ (hb q (by omega) (by omega)))
theorem Zsw {t:Tr} {d:Nat} (h:Fine t d) (h9:t.Kind=9):0≤(t.Kids.length:Int) * ((fr t.Kids).1+(fr t.Kids).2)∧(t.Kids.length:Int) * ((fr t.Kids).1+(fr t.Kids).2)≤26214000000∧(0≤(fr t.Kids).1∧(fr t.Kids).1≤65535∧0≤(fr t.Kids).2∧(fr t.Kids).2≤65535∧∀ x∈t.Kids,(x.Words.length:Int)≤(fr t.Kids).1∧(x.Kids.length:Int)≤(fr t.Kids).2):=by
 have p:=h.pt
 have pk:=Zfr t
 exact (Z5e (l:=t.Kids) (by omega) (fun x hx=>by
  obtain ⟨r1,r2⟩:=(Zeq h.rt (by omega) (by omega)).2.2.2 x hx
  have k1:=(U9 (by omega) r2).2 h9
  obtain ⟨a1,a2,_⟩:=Zeq r1 (by omega) (by omega)
  have:=a2 k1
  omega)).2
theorem Zh3 {t:Tr} (h:t.Kind=1):Vp t=(t.Words.length:Int)+(t.Kids.length:Int):=by unfold Vp;rw [if_pos h]
theorem Zgh {t:Tr} (h:t.Kind=9):Vp t=1+(t.Kids.length:Int) * ((fr t.Kids).1+(fr t.Kids).2):=by unfold Vp;rw [if_neg (by omega),if_pos h]
theorem Zqq {t:Tr} (h:t.Kind=8):Vp t=(t.Kids.length:Int):=by unfold Vp;rw [if_neg (by omega),if_neg (by omega),if_pos h]
theorem Z0k {size most:Int} {f g:Tr→Int→Int→SG→Option SG} (hf:Zc2 size most f) (hg:Zc2 size most g) {h b:Int} {t:Tr} {d:Nat} {σ:SG} (hF:Fine t d) (hk:t.Kind=1∨t.Kind=8→Agr size most f g t.Kids) (hk9:t.Kind=9→∀ u∈t.Kids,Agr size most f g u.Kids) (h10:t.Kind=1∨t.Kind=8∨t.Kind=9∨2≤t.Kind∧t.Kind≤7) (hs:St size most σ) (hb:Yj σ.1 h b (Vp t)=true) (hz:t.Kind=9→vA σ.1 h b=some 0):inT true f h b t σ=inT false g h b t σ:=by
 unfold inT
 have one:∀ q,b≤q→q < b+Vp t→Yj σ.1 h q 1=true:=fun q x y=>Ua hb x y
 by_cases c1:t.Kind=1
 ·simp only [if_pos c1]
  rw [Zh3 c1] at one
  exact Zg5 hf h t.Kids _ _ (hk (.inl c1)) (St.lays h _ hs b) (fun q x y=>Ex.lays _ _ _ _ _ _ _ (one q (by omega) (by omega)))
 by_cases c8:t.Kind=8
 ·simp only [if_neg c1,if_pos c8]
  rw [Zqq c8] at one
  exact Zg5 hf h t.Kids _ _ (hk (.inr c8)) hs (fun q x y=>one q x y)
 by_cases c9:t.Kind=9
 ·obtain ⟨a1,a2,w0,w1,k0,k1,ak⟩:=Zsw hF c9
  simp only [if_neg c1,if_neg c8,if_pos c9,if_true,Bool.false_eq_true,if_false]
  rw [Zgh c9] at one
  have e1:(if t.Kids=[] then σ.1 else Y1 σ.1 h b (Za1 t))=Y1 σ.1 h b (Za1 t):=by
   by_cases e:t.Kids=[]
   ·rw [if_pos e]
    have:Za1 t=0:=by unfold Za1;rw [e];rfl
    rw [this,Z06 (hz c9)]
   rw [if_neg e]
  have hs1:St size most (Y1 σ.1 h b (Za1 t),σ.2):=hs.put _ _ _
  have hb1:∀ q,b+1≤q→q < b+1+(t.Kids.length:Int) * ((fr t.Kids).1+(fr t.Kids).2)→Yj (Y1 σ.1 h b (Za1 t),σ.2).1 h q 1=true:=fun q x y=>Ex.put _ _ _ σ _ _ _ (one q (by omega) (by omega))
  rw [e1,Zsu hg h ((fr t.Kids).1+(fr t.Kids).2) (fr t.Kids).1 (by omega) w0 t.Kids (b+1) _ hs1 (fun u hu=>by have:=ak u hu;omega) hb1]
  exact Zo5 hf h _ _ (by omega) w0 t.Kids (b+1) _ (hk9 c9) (fun u hu=>by have:=ak u hu;omega) (St.words _ _ _ _ hs1) (fun q x y=>Ex.words _ _ _ _ _ _ _ _ (hb1 q x y))
 simp only [if_neg c1,if_neg c8,if_neg c9]
theorem Zvp {t:Tr} {d:Nat} (h:Fine t d) (h0:¬ t.Kind=0) (h10:¬ t.Kind=10):1≤t.Kind∧t.Kind≤9:=by
 have:=(Zxt h.rt).1
 have:=(Zxt h.rt).2.1
 have hr:=h.rt
 rw [Zep,if_neg h0,if_neg h10] at hr
 by_cases hb:t.Kind < 0∨10 < t.Kind∨d=0∨65536≤t.Words.length∨(t.Kind=1∧65536≤t.Kids.length)∨1048576≤t.Kids.length∨(1 < t.Kind∧0 < t.Words.length)
 ·rw [if_pos hb] at hr;cases hr
 omega
theorem Zqa (size most:Int):∀ (n:Nat) (t:Tr) (d:Nat),SizeOf.sizeOf t < n→Fine t d→¬ t.Kind=10→∀ s p σ,St size most σ→Yj σ.1 s p 1=true→Jk true size n t s p σ=Jk false size n t s p σ
 | 0,_,_,h,_,_=>by omega
 | n+1,t,d,h,hF,h10=>fun s p σ hs hb=>by
  simp only [Jk]
  by_cases c0:t.Kind=0
  ·simp only [if_pos c0]
  simp only [if_neg c0]
  have kd:=Zvp hF c0 h10
  cases hg:Ye size σ (Vp t) with
  | none=>rw [Option.bind_none,Option.bind_none]
  | some r =>
   rw [Option.bind_some,Option.bind_some]
   have g:=Jq hs hg
   cases ha:K6 size r.2.2 s p (pkd t) (pup t) r.1 r.2.1 with
   | none=>rw [Option.bind_none,Option.bind_none]
   | some ρ =>
    rw [Option.bind_some,Option.bind_some]
    have a:=Zm6 g.2.2.2.2.1 ha
    have ik:=(Zeq hF.rt c0 h10).2.2.2
    refine Z0k (Zdd true size most n) (Zdd false size most n) hF (fun h18 x hx s' p' σ' hs' hb' => ?_) (fun h9 x hx y hy s' p' σ' hs' hb' => ?_) (by omega) a.1 (a.2.1 _ _ _ g.2.2.2.2.2.2.1) (fun h9 => ?_)
    ·exact Zqa size most n x (d - 1) (by have:=Qn hx;omega) (hF.kid hx) (U9 (by omega) (ik x hx).2).1 s' p' σ' hs' hb'
    ·have k1:=(U9 (by omega) (ik x hx).2).2 h9
     have j4:=(Zeq (hF.kid hx).rt (by omega) (by omega)).2.2.2 y hy
     exact Zqa size most n y (d - 1 - 1) (by have:=Qn hx;have:=Qn hy;omega) ((hF.kid hx).kid hy) (U9 (by omega) j4.2).1 s' p' σ' hs' hb'
    have hw:1≤Vp t:=by rw [Zgh h9];have:=(Zsw hF h9).1;omega
    have e:=g.2.2.2.2.2.2.2.1 r.1 r.2.1
    rw [if_pos ⟨rfl,Int.le_refl _,by omega⟩] at e
    rw [a.2.2 r.1 r.2.1 (hasB_iff.2 ⟨0,e⟩) (fun q=>by have:=g.2.2.2.2.2.2.2.2 p (by rw [q.1];exact hb);omega),e]
structure Fr (X:Nat→Prop) (i j:Nat) (O:Objs) (n:Nat) (L:List NR) (O':Objs) (n':Nat) (L':List NR):Prop where
 le:n≤n'
 off:∀ u,u < n→¬ X u→¬ ter i j L u→O' u=O u
 ter:∀ u,ter i j L' u→ter i j L u∨n≤u
theorem Fr.refl (X:Nat→Prop) (i j:Nat) (O:Objs) (n:Nat) (L:List NR):Fr X i j O n L O n L:=⟨Nat.le_refl _,fun _ _ _ _=>rfl,fun _ h => .inl h⟩
theorem Fr.trans {X:Nat→Prop} {i j:Nat} {O O' O'':Objs} {n n' n'':Nat} {L L' L'':List NR} (h:Fr X i j O n L O' n' L') (h':Fr X i j O' n' L' O'' n'' L''):Fr X i j O n L O'' n'' L'' :=
 ⟨Nat.le_trans h.le h'.le,fun u a b c=>(h'.off u (Nat.lt_of_lt_of_le a h.le) b (fun q=>by rcases h.ter u q with q | q;exact c q;omega)).trans (h.off u a b c),fun u q=>by
  rcases h'.ter u q with q | q
  ·exact h.ter u q
  exact .inr (Nat.le_trans h.le q)⟩
theorem Fr.own {X:Nat→Prop} {i j:Nat} {O:Objs} {n:Nat} (L:List NR) (x:Option GObj):Fr X i j O n L (O.upd n x) (n+1) L:=⟨Nat.le_succ n,fun u a _ _=>Zn _ _ (by omega),fun _ h => .inl h⟩
theorem Fr.set {X:Nat→Prop} {i j a:Nat} {O:Objs} {n0 n:Nat} {L0 L:List NR} {O0:Objs} (h:Fr X i j O0 n0 L0 O n L) (x:Option GObj) (ha:n0≤a):Fr X i j O0 n0 L0 (O.upd a x) n L:=⟨h.le,fun u p q r=>by rw [Zn _ _ (by omega)];exact h.off u p q r,h.ter⟩
theorem Fr.keep {X:Nat→Prop} {i j:Nat} {O:Objs} {n:Nat} {L L':List NR} {O':Objs} {n':Nat} (h:Fr X i j O n L O' n' L') {u:Nat} (hu:u < n) (hx:¬ X u) (ht:¬ Go.Proofs.Ytaddaloondpnkaa.ter i j L u):O' u=O u∧u < n'∧¬ Go.Proofs.Ytaddaloondpnkaa.ter i j L' u:=⟨h.off u hu hx ht,Nat.lt_of_lt_of_le hu h.le,fun q=>by rcases h.ter u q with q | q;exact ht q;omega⟩
abbrev NoX:Nat→Prop:=fun _=>False
def AP (size:Int) (O:Objs) (n i j:Nat) (L:List NR) (σ:SG):Prop:=PX (HP j size σ.2) O n i j L∧L.map (·.2)=σ.1
def AR (size most:Int) (O:Objs) (n i j:Nat) (L:List NR) (σ:SG):Prop:=PX (HR j size most (most - σ.2)) O n i j L∧L.map (·.2)=σ.1
theorem AP.frame {size:Int} {O O':Objs} {n n' i j:Nat} {L:List NR} {σ:SG} (h:AP size O n i j L σ) (hO:∀ t,ter i j L t→O' t=O t) (hn:n≤n'):AP size O' n' i j L σ:=⟨h.1.frame hO hn,h.2⟩
theorem AR.frame {size most:Int} {O O':Objs} {n n' i j:Nat} {L:List NR} {σ:SG} (h:AR size most O n i j L σ) (hO:∀ t,ter i j L t→O' t=O t) (hn:n≤n'):AR size most O' n' i j L σ:=⟨h.1.frame hO hn,h.2⟩
theorem AP.own {size:Int} {O:Objs} {n i j:Nat} {L:List NR} {σ:SG} (h:AP size O n i j L σ) (x:Option GObj):AP size (O.upd n x) (n+1) i j L σ:=h.frame (fun t ht=>Zn _ _ (by have:=h.1.ter_lt ht;omega)) (Nat.le_succ n)
theorem AP.set {size:Int} {O:Objs} {n i j a:Nat} {L:List NR} {σ:SG} (h:AP size O n i j L σ) (x:Option GObj) (ha:¬ ter i j L a):AP size (O.upd a x) n i j L σ:=h.frame (fun t ht=>Zn _ _ (fun e=>ha (e ▸ ht))) (Nat.le_refl n)
theorem AR.own {size most:Int} {O:Objs} {n i j:Nat} {L:List NR} {σ:SG} (h:AR size most O n i j L σ) (x:Option GObj):AR size most (O.upd n x) (n+1) i j L σ:=h.frame (fun t ht=>Zn _ _ (by have:=h.1.ter_lt ht;omega)) (Nat.le_succ n)
theorem St.b1 {size most:Int} {σ:SG} {O:Objs} {n i j:Nat} {L:List NR} (hs:St size most σ) (h:L.map (·.2)=σ.1):L.length≤16∧(∀ x∈L,(x.2.length:Int)+σ.2≤131072)∧∀ x∈L,x.2.length≤1000000:=by
 have e:∀ x∈L,(x.2.length:Int)+σ.2≤131072:=fun x hx=>hs.hB _ (by rw [← h];exact List.mem_map.2 ⟨x,hx,rfl⟩)
 have:=hs.hl0
 refine ⟨by have:=hs.h16;rw [← h,List.length_map] at this;exact this,e,fun x hx=>by have:=e x hx;omega⟩
theorem Zoj {O:Objs} {n i j:Nat} {L:List NR} {size most k:Int} {σ:SG} (h:AP size O n i j L σ) (hs:St size most σ) (e:Ye size σ k=none) :
  ∃ a b O' n' L',GTo Try.prog 24 [.ref i 0,.val (.int .i64 k)] O n (.tup [.val (.int .i64 a),.val (.int .i64 b),.val (.bool false)]) O' n'∧Fr NoX i j O n L O' n' L':=by
 obtain ⟨b1,b2,b3⟩:=hs.b1 (O:=O) (n:=n) (i:=i) (j:=j) h.2
 have hl:σ.2≤131072:=by have:=hs.hm;have:=hs.hmm;omega
 obtain ⟨O',n',L',g1,g2,g3,g4,g5,g6⟩:=Zyc h.1 b1 hl b2 k
 rw [h.2] at g1
 have c:(Yp σ.1 size σ.2 k).2.2.1=false:=by
  unfold Ye at e
  cases c:(Yp σ.1 size σ.2 k).2.2.1 with
  | true=>rw [c] at e;cases e
  | false=>rfl
 rw [c] at g1
 exact ⟨_,_,O',n',L',g1,g2,fun u a _ b=>g6 u a b,g5⟩
theorem Zok {O:Objs} {n i j:Nat} {L:List NR} {size most k:Int} {σ:SG} {r:Int×Int×SG} (h:AP size O n i j L σ) (hs:St size most σ) (e:Ye size σ k=some r) :
  ∃ O' n' L',GTo Try.prog 24 [.ref i 0,.val (.int .i64 k)] O n (.tup [.val (.int .i64 r.1),.val (.int .i64 r.2.1),.val (.bool true)]) O' n'∧AP size O' n' i j L' r.2.2∧Fr NoX i j O n L O' n' L':=by
 obtain ⟨b1,b2,b3⟩:=hs.b1 (O:=O) (n:=n) (i:=i) (j:=j) h.2
 have hl:σ.2≤131072:=by have:=hs.hm;have:=hs.hmm;omega
 obtain ⟨O',n',L',g1,g2,g3,g4,g5,g6⟩:=Zyc h.1 b1 hl b2 k
 obtain ⟨c,rfl⟩:=Zp3 e
 rw [h.2] at g1 g3 g4
 rw [c] at g1
 exact ⟨O',n',L',g1,⟨g3,g4⟩,g2,fun u a _ b=>g6 u a b,g5⟩
theorem Z18 {O:Objs} {n i j:Nat} {L:List NR} {size s:Int} {σ:SG} (h:AP size O n i j L σ) (e:inO size σ s=none) :
  GTo Try.prog 91 [.ref i 0,.val (.int .i64 s),.val (.int .i64 1)] O n (.tup [.val (.int .i64 0),.val (.bool false)]) O n:=by
 refine Z5g h.1.hi h.1.hj h.1.ho h.1.hoj h.1.hL ?_
 unfold inO at e
 rw [← h.2] at e
 cases hx:Zv L s with
 | none =>
  have:=Zad hx
  exact .inl (by omega)
 | some x =>
  rw [Zck hx] at e
  dsimp only at e
  split at e
  ·cases e
  rename_i c
  by_cases c2:σ.2 < 1
  ·exact .inr (.inr (.inl c2))
  exact .inr (.inr (.inr ⟨x,rfl,fun q=>c ⟨by omega,q⟩⟩))
theorem Z19 {O:Objs} {n i j:Nat} {L:List NR} {size most s:Int} {σ:SG} {r:Int×SG} (h:AP size O n i j L σ) (hs:St size most σ) (e:inO size σ s=some r) :
  ∃ O' L',GTo Try.prog 91 [.ref i 0,.val (.int .i64 s),.val (.int .i64 1)] O n (.tup [.val (.int .i64 r.1),.val (.bool true)]) O' n∧AP size O' n i j L' r.2∧Fr NoX i j O n L O' n L':=by
 obtain ⟨b1,b2,b3⟩:=hs.b1 (O:=O) (n:=n) (i:=i) (j:=j) h.2
 unfold inO at e
 rw [← h.2] at e
 cases hx:Zv L s with
 | none =>
  have:Zv (L.map (·.2)) s=none:=by
   have hl:=Zad hx
   cases q:Zv (L.map (·.2)) s with
   | none=>rfl
   | some y=>have:=Xy q;rw [List.length_map] at this;omega
  rw [this] at e;cases e
 | some x =>
  rw [Zck hx] at e
  dsimp only at e
  split at e
  ·rename_i c
   have:=Option.some.inj e;subst this
   have hxm:=Z9 hx
   have bx:=b2 x hxm
   have g:=Z5f (k:=1) h.1.hi h.1.hj h.1.lt h.1.hij (h.1.ni x hxm) (h.1.nj x hxm) h.1.ho h.1.hoj h.1.hL hx (by omega) c.1 (by have:=hs.hl0;have:=hs.hm;have:=hs.hmm;omega) c.2
   rw [Xj] at g
   exact ⟨_,Yc L s (x.1,zl x.2 1),g,⟨h.1.set hx _ _,Zgj _ _⟩,Nat.le_refl n,fun u _ _ q=>Znr hx _ _ _ q,fun u q => .inl (Zoc hx _ q)⟩
  cases e
theorem Zxg {O:Objs} {n i j:Nat} {L:List NR} {size most:Int} {σ:SG} (h:AP size O n i j L σ) (hs:St size most σ) (s p:Int) (ws:List Int) (hp:0≤p∧p+(ws.length:Int)≤1000000) {K:G→Objs→Nat→Prop}
  (hk:∀ O' n' L',AP size O' n' i j L' (Yn σ.1 s p ws,σ.2)→Fr NoX i j O n L O' n' L'→K (.tup []) O' n') :
  GCalls Try.prog 89 [.agg [.ref i 0],.val (.int .i64 s),.val (.int .i64 p),.sl ws.length (fl (eI .u64) ws)] O n K:=by
 obtain ⟨b1,b2,b3⟩:=hs.b1 (O:=O) (n:=n) (i:=i) (j:=j) h.2
 refine (Z4g h.1 b3 s p ws hp).mono fun r O' n' ⟨e,g1,L',g2,g3,g4,g5,g6⟩ => ?_
 subst e
 rw [h.2] at g4
 exact hk O' n' L' ⟨g2,g4⟩ ⟨g1,fun u a _ b=>g5 u a b,fun u q => .inl (Ul g3 q)⟩
def Zz6 (size:Int) (i j:Nat) (O:Objs) (n:Nat) (L:List NR) (res:Option SG) (r:G) (O':Objs) (n':Nat):Prop :=
 ∃ L',Fr NoX i j O n L O' n' L'∧match res with
  | none=>r = .val (.bool false)
  | some τ=>r = .val (.bool true)∧AP size O' n' i j L' τ
theorem Zyj {a t k u:Int} (a0:0≤a) (a1:a≤1048576) (t0:0≤t) (t1:t≤1048576) (k0:0≤k) (k1:k≤1) (u0:0≤u) (u1:u < 4294967296) :
  Vw a t k u=some (nw a t k u):=by
 unfold Vw nw
 rw [Je (x:=t - a) (by omega) (by omega),Je (x:=t - a - 1) (by omega) (by omega)]
 by_cases h:t - a - 1 < 0
 ·rw [decide_eq_true h,cond_true,Je (by omega) (by omega),Option.bind_some,Je (x:=4 * _) (by omega) (by omega),Q5 (x:=4 * _) (by omega) (by omega),Q5 (x:=u * _) (by omega) (by omega),Q5 (x:=_+k) (by omega) (by omega),Q5 (by omega) (by omega)]
  congr 1
  omega
 rw [decide_eq_false h,cond_false,Option.bind_some,Je (x:=4 * _) (by omega) (by omega),Q5 (x:=4 * _) (by omega) (by omega),Q5 (x:=u * _) (by omega) (by omega),Q5 (x:=_+k) (by omega) (by omega),Q5 (by omega) (by omega)]
 congr 1
 omega
theorem Z65 {off seg:Int} (dbl:Bool) (a:0≤off) (b:off < 536870912) (c:0≤seg) (d:seg < 4294967296) :
  Jg (⟨3,off,0,0,0,0,seg,dbl⟩:Z3)=some (fw seg off (if dbl=true then 1 else 0),true):=by
 have hd:Zfx (off.toNat * 8+2+(if dbl=true then 4 else 0)+seg.toNat * 4294967296)=⟨3,off,0,0,0,0,seg,dbl⟩:=by
  have e4:(if dbl=true then 4 else 0:Nat)=0∨(if dbl=true then 4 else 0:Nat)=4:=by cases dbl <;> simp
  generalize hq:(if dbl=true then 4 else 0:Nat)=q at e4 ⊢
  generalize hw:off.toNat * 8+2+q+seg.toNat * 4294967296=w
  have h1:¬ w=0:=by omega
  have h2:¬ w % 4=0:=by omega
  have h3:¬ w % 4=1:=by omega
  have h4:w % 4=2:=by omega
  unfold Zfx
  rw [if_neg h1,if_neg h2,if_neg h3,if_pos h4]
  simp only [Z3.mk.injEq,true_and,and_true]
  refine ⟨by omega,by omega,?_⟩
  cases dbl with
  | true=>simp at hq;subst hq;exact decide_eq_true (by omega)
  | false=>simp at hq;subst hq;exact decide_eq_false (by omega)
 have:=Zle (off.toNat * 8+2+(if dbl=true then 4 else 0)+seg.toNat * 4294967296) (by split <;> omega) (by rw [hd];show ¬ (3:Int)=4;decide)
 rw [hd] at this
 rw [this]
 unfold fw
 cases dbl with
 | true=>simp only [if_true];congr 2;omega
 | false=>simp only [Bool.false_eq_true,if_false];congr 2;omega
theorem Z4n {off seg:Int} (dbl:Bool) (a:0≤off) (b:off < 536870912) (c:0≤seg) (d:seg < 4294967296):K9 (⟨3,off,0,0,0,0,seg,dbl⟩:Z3)=some (fw seg off (if dbl=true then 1 else 0)):=by
 unfold K9;rw [Z65 dbl a b c d];rfl
def PtrOf (P:Z3) (k u:Int):Prop:=(∃ d p,P=⟨1,0,d,p,0,0,0,false⟩∧k=0∧u=d+65536 * p∧0≤d∧d < 65536∧0≤p∧p < 65536)∨(∃ c m,P=⟨2,0,0,0,c,m,0,false⟩∧k=1∧u=c+8 * m∧0≤c∧c < 8∧0≤m∧m < 536870912)
theorem PtrOf.bd {P:Z3} {k u:Int} (h:PtrOf P k u):0≤k∧k≤1∧0≤u∧u < 4294967296:=by
 rcases h with ⟨d,p,rfl,rfl,rfl,_⟩ | ⟨d,p,rfl,rfl,rfl,_⟩ <;> omega
theorem PtrOf.of {P:Z3} {k u off:Int} (h:PtrOf P k u) (a:-536870912≤off) (b:off < 536870912) (c:¬ (k=0∧u=0∧off=0)):K9 ⟨P.Kind,off,P.Data,P.Ptrs,P.Code,P.Count,P.Segment,P.Double⟩=some (off % 1073741824 * 4+k+u * 4294967296):=by
 unfold K9
 rcases h with ⟨d,p,rfl,rfl,rfl,_⟩ | ⟨d,p,rfl,rfl,rfl,_⟩
 ·dsimp only
  rw [Z5a a b (by omega) (by omega) (by omega) (by omega) (by omega)]
  dsimp only [Option.bind_some]
  exact congrArg some (by omega)
 dsimp only
 rw [Z66 a b (by omega) (by omega) (by omega) (by omega)]
 dsimp only [Option.bind_some]
 exact congrArg some (by omega)
theorem PtrOf.null {P:Z3} {k u:Int} (h:PtrOf P k u):((P.Kind == 1) && ((P.Off == 0) && ((P.Data == 0) && ((P.Ptrs == 0) && ((P.Code == 0) && ((P.Count == 0) && ((P.Segment == 0) && !P.Double)))))))=decide (k=0∧u=0):=by
 rcases h with ⟨d,p,rfl,rfl,rfl,_⟩ | ⟨d,p,rfl,rfl,rfl,_⟩
 ·rw [Bool.eq_iff_iff];simp only [Bool.and_eq_true,beq_iff_eq,decide_eq_true_eq,Bool.not_false,true_and,and_true];omega
 rw [Bool.eq_iff_iff];simp
theorem PtrOf.of0 {P:Z3} {k u:Int} (h:PtrOf P k u) (c:¬ (k=0∧u=0)):K9 P=some (k+u * 4294967296):=by
 have:=h.of (off:=0) (by decide) (by decide) (fun q=>c ⟨q.1,q.2.1⟩)
 have e:(⟨P.Kind,0,P.Data,P.Ptrs,P.Code,P.Count,P.Segment,P.Double⟩:Z3)=P:=by
  rcases h with ⟨d,p,rfl,_⟩ | ⟨d,p,rfl,_⟩ <;> rfl
 rw [e] at this
 rw [this]
 exact congrArg some (by omega)
theorem Z1o {t:Tr} {d:Nat} (hF:Fine t d) (h0:¬ t.Kind=0) (h10:¬ t.Kind=10):∃ P,Zcf t=some P∧Ja P=some (Vp t,true)∧(Vp t≤131072→PtrOf P (pkd t) (pup t)):=by
 have kd:=Zvp hF h0 h10
 have p:=hF.pt
 have pk:=Zfr t
 obtain ⟨i1,i2,i3,i4⟩:=Zeq hF.rt h0 h10
 unfold Zcf
 by_cases c1:t.Kind=1
 ·rw [Zm8 c1,cond_true]
  refine ⟨_,rfl,?_,fun _ => .inl ⟨(t.Words.length:Int),(t.Kids.length:Int),rfl,?_,?_,by omega,by omega,by omega,by have:=i2 c1;omega⟩⟩
  ·unfold Ja
   simp only
   rw [Zm8 (a:=1) (b:=1) rfl,cond_true,Zh3 c1,Je (by omega) (by omega)]
  ·unfold pkd;rw [if_pos c1]
  unfold pup;rw [if_pos c1]
 rw [Zom c1,cond_false]
 have ek:pkd t=1:=by unfold pkd;rw [if_neg c1]
 by_cases c9:t.Kind=9
 ·obtain ⟨a1,a2,w0,w1,k0,k1,ak⟩:=Zsw hF c9
  rw [Zm8 c9,cond_true,Zvd (by omega),Option.bind_some,Je (x:=(fr t.Kids).1+(fr t.Kids).2) (by omega) (by omega),Je (x:=(t.Kids.length:Int) * _) (by omega) (by omega)]
  refine ⟨_,rfl,?_,fun hp => .inr ⟨7,(t.Kids.length:Int) * ((fr t.Kids).1+(fr t.Kids).2),rfl,ek,?_,by omega,by omega,a1,by rw [Zgh c9] at hp;omega⟩⟩
  ·unfold Ja
   simp only
   rw [Zom (a:=2) (b:=1) (by decide),cond_false,Zm8 (a:=2) (b:=2) rfl,cond_true,Zm8 (a:=7) (b:=7) rfl,cond_true,Zgh c9,Je (by omega) (by omega),Int.add_comm]
  unfold pup;rw [if_neg c1,if_pos c9]
 rw [Zom c9,cond_false,Je (x:=t.Kind - 2) (by omega) (by omega)]
 refine ⟨_,rfl,?_,fun hp => .inr ⟨t.Kind - 2,(t.Kids.length:Int),rfl,ek,?_,by omega,by omega,by omega,by omega⟩⟩
 ·rw [Z4u (by omega) (by omega)]
  unfold Vp rmL
  rw [if_neg c1,if_neg c9]
  by_cases c8:t.Kind=8
  ·rw [if_pos (by omega),if_pos c8]
  rw [if_neg (by omega),if_neg c8]
  have:=(Zuv (c:=t.Kind - 2) (ns:=ato t) (by omega) (by rw [Zki];omega) (fun n hn=>by
   obtain ⟨k,hk,rfl⟩:=List.mem_map.1 hn
   obtain ⟨w,hw,q0,_,q1⟩:=Zv3 (by omega) (hF.bd.all k hk) (hF.kid hk).rt (i4 k hk).2
   rw [hw];exact ⟨q0,q1⟩)).2
  rw [this,Zki]
 unfold pup;rw [if_neg c1,if_neg c9]
theorem Zm7 {t:Tr} {d:Nat} (hF:Fine t d) (h:2≤t.Kind∧t.Kind≤7):∀ k∈t.Kids,∃ w,k.Words=[w]∧0≤w∧w < 18446744073709551616∧Zcj (t.Kind - 2) w=true:=fun k hk =>
 Zv3 h (hF.bd.all k hk) (hF.kid hk).rt ((Zeq hF.rt (by omega) (by omega)).2.2.2 k hk).2
theorem Zu5 {t:Tr} {d:Nat} (hF:Fine t d) (hk:2≤t.Kind∧t.Kind≤7):U8 t=some (Zkb (t.Kind - 2) (ato t)):=by
 have p:=hF.pt
 have pk:=Zfr t
 have ha:=Zm7 hF hk
 have l0:=Zvs t.Kids (fun k=>k.Words.headD 0) (Jt t) [] (by omega) (fun i x out hi hx hm ho=>by
  obtain ⟨w,hw,_⟩:=ha x hm
  have e:Zcp x 0=some w:=by
   unfold Zcp
   rw [hw]
   rfl
  unfold Jt
  simp only [List.length_nil] at ho ⊢
  rw [Zkz hi,cond_true,X8 hx,Option.bind_some,e,Option.bind_some,Zkh (by simp only [List.length_singleton];omega) (by simp only [List.length_singleton];omega),Option.bind_some,hw]
  rfl) (fun out=>by
  unfold Jt
  simp only
  rw [Zky,cond_false])
 unfold U8
 rw [l0,Option.bind_some,Je (by omega) (by omega)]
 have:Zbs (t.Kind - 2) (ato t)=some (Zkb (t.Kind - 2) (ato t),true):=(Zuv (by omega) (by rw [Zki];omega) (fun n hn=>by
  obtain ⟨k,hk,rfl⟩:=List.mem_map.1 hn
  obtain ⟨w,hw,h0,_,h1⟩:=ha k hk
  rw [hw]
  exact ⟨h0,h1⟩)).1
 unfold ato at this
 rw [List.nil_append,this]
 rfl
theorem Zwh {t:Tr} {d:Nat} (hF:Fine t d) (hk:2≤t.Kind∧t.Kind≤7):K0 (t.Kind - 2) (ato t)=some (Zkb (t.Kind - 2) (ato t),true) :=
 Z1h (by omega) (by rw [Zki];have:=hF.pt;have:=Zfr t;omega) (fun n hn=>by
  obtain ⟨k,hk',rfl⟩:=List.mem_map.1 hn
  obtain ⟨w,hw,h0,h2,h1⟩:=Zm7 hF hk k hk'
  rw [hw]
  exact ⟨h0,h2,h1⟩)
end Go.Proofs.Ytaddaloondpnkaa
