/- Part UA; each theorem bears its own conditions. -/
import Derived.Test.YtbkhdkfjabiocaaUM1
namespace Go.Proofs.Ytbkhdkfjabiocaa
open Go.RowKit
set_option linter.unusedVariables false
set_option linter.unusedSimpArgs false
set_option maxRecDepth 100000
set_option maxHeartbeats 4000000
attribute [local push_cast] Xm Zf Qi Yb Zn Zmh Zmg Znd Znc Zk Zg Zir Zd5 Zd4 onW Y9 Zbs Zbf Zo6 Zlg Zgj Zgn Zgi Zgm Zjv Zjq Zgl Zju Zjt Zjs Zgk Zjo Zeu evS wok Qq Op.operands Call.operands gop onK onP atK List.all_cons List.all_nil Bool.and_true Bool.true_and Bool.and_self Value.oneCell' List.take_zero List.take_succ_cons List.take_nil List.drop_zero List.drop_succ_cons List.drop_nil List.append_nil Nat.add_zero Nat.zero_add Vt Yd ev Q0 Zpl Zma Zl9 Zmf Zmd Zme Zmb Zmc Zl8 Zqk Zro Zut Zgw Zav Zgv Zbm Zf8 Zd7 Zb3 Zb8 Zd0 Zdw Zb6 Zdz Zdy Zdx Zb5 Zdu Zb4 Zb7 Zbe Zdv Zke Zd6 Ut Zfp Uu Zh2 Zgu Ztx bLo bHi bMx Zaw Zh1 Zv9 Zgs Ziq Zc4 Vf Zqo Zwa Zfo Zc2 Zwc Zau Zy5 Ziz Zi3 Ziy Zi2 Zm2 Zmy Zmw Zgb Zi0 Zm1 Zm0 Zmz Zi1 Zmr Zmu Zmq Zmt Zr1 Zry Zrx Zms Zrz Zr0 Zmx Zh3 Zot Zjk Zem Zel pop TK.isAgg Zm5 Zm9 Zm4 Zm8 Zjb Zsd Zr9 Zm7 Zsc Zsb Zsa Zm6 Zr8 G.under G.unders List.getD_cons_zero List.getD_cons_succ List.set_cons_zero List.set_cons_succ List.map_cons List.map_nil List.toList_toArray Array.toList_append Option.toArray_none Option.toArray_some Array.toList_map Option.map_some Option.map_none Option.bind_some Option.bind_none List.getElem?_cons_zero List.getElem?_cons_succ List.getElem?_nil List.nil_append List.cons_append List.replicate_succ List.replicate_zero List.length_cons List.length_nil and_true true_and and_false false_and Bool.true_eq_false Bool.false_eq_true forall_const false_implies implies_true IntKind.bits if_true if_false ite_true ite_false eq_self true_implies false_or or_false or_true true_or not_true_eq_false not_false_eq_true decide_true decide_false decide_eq_true_eq decide_eq_false_iff_not beq_iff_eq bne_iff_ne ne_eq Bool.not_eq_true Bool.not_eq_false beq_eq_false_iff_ne bne_eq_false_iff_eq beq_self_eq_true bne_self_eq_false Option.some.injEq exists_eq_left' exists_eq_left ge_iff_le gt_iff_lt decide_not Bool.not_true Bool.not_false imp_self Zru cond_true cond_false Z5b Z5a Bool.not_not Bool.and_false Bool.false_and Bool.or_true Bool.true_or Bool.or_false Bool.false_or V8 Zbx Zam U3 Uc Kv Option.join_some Nat.add_assoc Int.toNat_natCast eI eB eS eL Zc0 Zd3 Zcc Zmk Zmi Zmj Zzq Z1p Zei Zck Znj Znh Zni Zvf Zk6 Zth Zk4 Zqb Zcb Zpj List.length_append G.agg.injEq G.row.injEq G.ref.injEq G.val.injEq G.sl.injEq G.tup.injEq Value.int.injEq Value.bool.injEq Value.string.injEq List.cons.injEq exists_and_left exists_const List.flatten_cons List.flatten_nil Int.le_refl Nat.le_refl Zff Kk Ze3 Bool.not_eq_true' Bool.not_eq_false' Zoq Zfg Zs9 Ztd Zs8 Ztc Zyo Zyj List.size_toArray Zp1 Zpb G.ren G.rens Zsh Zeo Znq Zl6 Zl7 Zjp Zte Zef G.fn.injEq Zhj Zj9 Zop Zyk Zhi Ztb Zyn Zym Zyl Zta Zr3 Zw7 Option.join_none Z9 V7 undef Ziv Arr.len Arr.put_eq Zeh Zgd Zeg Zcj Zng Zne Znf onB Zzp Zqj Jc Zf5 Zib Zic Zid Zie Zif Zig Zgc Zgg Zge Zek Zcl Zgf Zji Zjh Zjg Zjf Zzr Z1o Zve Zt2 Jy Zu4 Zou Zgh Zej Zq8 Zq7 Z30 Zwl Zpd Zgq Zin Zbz Zhb Zih Zii Zij Zik Zfs Zft Zfu Zfv Zfw Zfx Zfy Zfz Zf0 Zf1 Zf2 Zf3 Zf4 Zdo prT Zc6 Z56 Zs0 Zz4 Zs1 Z57 Zs2 Z58 Zs3 Z59 Zs4 Z6a Zs5 Z6b Zs6 Z6c Zs7 Zxk Zns Zxl Znt Zxm Znu Zxn Znv Zxo Znw Zxp Znx Zxq Zny Zxr Znz Zxs Zn0 Zxt Zn1 Zxu Zn2 Zdq Zfr Ztt Zhw Zxv Zn3 Uo Zn4 Zxw Zhx Zxx Zn5 Zxy Zn6 Zxz Zn7 Zx0 Zn8 Zap Zn9 Zx1 Zoa Zx2 Zob Zx3 Zoc Zx4 Zod Zx5 Zoe Zx6 Zof Zx7 Zog Zx8 Zoh Zx9 Zoi Zya Zoj Zyb Zok Zyc Zol Zyd Zom Zye Zon Zyf Zoo Zsn Zjx Zso Zjy Zsp Zjz Zsq Zj0 Zsr Zj1 Zss Zj2 Zst Zj3 Zsu Zj4 Zsv Zj5 Zsw Zj6 Zsx Zj7 Zsy Zj8 Zo Zba Zex Zea Zee Ze0 Zcs Zcq Zco V5 Zaj Zai Zab Zag Zak Gj Gi Gh Zah J7 J6 Jz J0 J8 Jp Jo Jn J5 Zi Y1 Vo Vn Vi Vk Vp K6 K4 K3 Vm Zey Zew Zd9 Zed Zez Zcr Zcp Zcn Zev Zca U7 Zb9 U8 Z7 Q8 Q7 Q4 Q5 Q9 Qx Qv Qu Q6 Z4 Qe Qd X9 Qa Qf Xy Xx Xw Qc
abbrev NR:=Nat×List Int
def eN (x:NR):List G:=[.row x.1 x.2.length]
theorem Zlk (xs:List NR):(fl eN xs).length=xs.length * 1:=Ke (f:=eN) (k:=1) (fun _=>rfl) xs
theorem Zzs (xs:List NR):(fl eN xs).all G.one=true:=Gn (fun x=>by simp [eN,G.one]) xs
theorem Zp3 {k:Nat}:∀ (xs:List NR),(∀ x∈xs,x.1 < k)→G.unders k (fl eN xs)=true
 | [],_=>by simp [fl,G.unders]
 | x::xs,h=>by
  have h1:=h x (by simp)
  have h2:=Zp3 xs (fun y hy=>h y (by simp [hy]))
  show (G.under k (.row x.1 x.2.length) && G.unders k (fl eN xs))=true
  rw [h2,Bool.and_true]
  simpa [G.under] using h1
theorem Und.set {X:Objs} {n i:Nat} (hU:Und X n) {q:GObj} (hi:i < n) (hq:G.unders n q.cells=true):Und (X.upd i (some q)) n:=by
 refine ⟨fun k hk => ?_,fun k o ho => ?_⟩
 ·rw [Ya _ _ (by omega)];exact hU.fresh k hk
 by_cases e:k=i
 ·subst e;rw [Z9] at ho;injection ho with ho;subst ho;exact hq
 rw [Ya _ _ e] at ho;exact hU.und k o ho
theorem Yl {P:Program} {T:J9} {X:Objs} {E:Env} {n n' ba:Nat} {r:G} {rs:List ResultVar} {e:Exit} (he:e = .normal∨e = .ret) (hU:Und X n) (gs:List G) (hb:ba≤n') (h:Zh3 T X E rs=some gs∧wk X X n (Zot gs) r):Fin T rs r ba X n e E X n':=by
 have:=Zq (l:=[]) (n':=n') he hU gs hb (by rw [Kj hU.fresh];exact h)
 rwa [Kj hU.fresh] at this
theorem less_self {O:Objs} {n:Nat} (hU:Und O n):LessO O O n:=⟨hU.fresh,fun i o ho=>⟨o,ho,rfl,rfl,rfl,rfl,Gk _ (hU.und i o ho)⟩⟩
theorem Zao {O:Objs} {n:Nat} {E E':Env} (hU:Und O n) (hn:E'.n=E.n) (h:Zqb O O n E.l E'.l):Fit2 n E O n E' O n:=Fit2.of ⟨hn,less_self hU,h⟩ (Nat.le_refl _)
theorem Ka {O:Objs} {n ba:Nat} {E E':Env} (hU:Und O n) (hb:ba≤n) (hn:E'.n=E.n) (h:Zqb O O n E.l E'.l):Fit2 ba E O n E' O n:=Fit2.of ⟨hn,less_self hU,h⟩ hb
theorem Z4a {O O':Objs} {n:Nat} (hU:Und O' n) (h:∀ t o,O' t=some o→O t=some o):LessO O O' n:=⟨hU.fresh,fun i o ho=>⟨o,h i o ho,rfl,rfl,rfl,rfl,Gk _ (hU.und i o ho)⟩⟩
theorem Und.more {O:Objs} {n n':Nat} (hU:Und O n) (h:n≤n'):Und O n':=⟨fun i hi=>hU.fresh i (by omega),fun i o ho=>Up h _ (hU.und i o ho)⟩
theorem Zt6 (L:List NR) (x:NR):fl eN L++eN x=fl eN (L++[x]):=by unfold fl;simp
theorem Zvz {n:Nat}:∀ (a b:List G),G.unders n a=true→G.unders n b=true→G.unders n (a++b)=true
 | [],b,_,h=>h
 | x::a,b,h,k=>by
  simp only [List.cons_append,G.unders,Bool.and_eq_true] at h ⊢
  exact ⟨h.1,Zvz a b h.2 k⟩
def zl (s:List Int) (k:Int):List Int:=s++List.replicate k.toNat 0
theorem Ycu (s:List Int) (k:Int):fl (eI .u64) s++(List.replicate k.toNat [G.val (.int .u64 0)]).flatten=fl (eI .u64) (zl s k):=by
 unfold zl fl
 rw [List.map_append,List.flatten_append,List.map_replicate]
 rfl
theorem Z9a (s:List Int) {k:Int}:(zl s k).length=s.length+k.toNat:=by simp [zl]
theorem Zy8 {O:Objs} {n i j:Nat} {L:List NR} {size left s k:Int} {x:NR} (hi:i < n) (hj:j < n) (hν:∀ y∈L,y.1 < n) (hij:i≠j) (hiν:i≠x.1) (hjν:j≠x.1)
  (ho:O i=some ⟨false,62,3,1,[.row j L.length,.val (.int .i64 size),.val (.int .i64 left)]⟩) (hoj:O j=some ⟨true,22,1,L.length,fl eN L⟩) (hx:Z6 L s=some x)
  (hox:O x.1=some ⟨true,44,1,x.2.length,fl (eI .u64) x.2⟩) (hk:0≤k) (hb:(x.2.length:Int)+k≤1000000) :
  GTo Try.prog 30 [.ref i 0,.val (.int .i64 s),.val (.int .i64 k)] O n (.val (.int .i64 (x.2.length:Int)))
   (((O.upd x.1 (some ⟨true,44,1,(zl x.2 k).length,fl (eI .u64) (zl x.2 k)⟩)).upd j (some ⟨true,22,1,(Xr L s (x.1,zl x.2 k)).length,fl eN (Xr L s (x.1,zl x.2 k))⟩)).upd i (some ⟨false,62,3,1,[.row j L.length,.val (.int .i64 size),.val (.int .i64 (IntKind.i64.wrap (left - k)))]⟩)) n:=by
 refine Yj Zc Try.call30 Try.func30 rfl (Nat.le_of_ble_eq_true rfl) (by omega) fun hU => ?_
 have hxm:x∈L:=by
  unfold Z6 at hx
  split at hx
  ·exact List.mem_of_getElem? hx
  cases hx
 have hx1:=hν x hxm
 have hk0:∀ k,i < n+k:=fun k=>by omega
 have hN0:O n=none:=hU.fresh _ (Nat.le_refl _)
 have hN:∀ k,O (n+k)=none:=fun k=>hU.fresh _ (Nat.le_add_right _ _)
 show W _ _ _ _ ⟨40,[],[(0,.ref i 0),(1,.val (.int .i64 s)),(2,.val (.int .i64 k))]⟩ (Zy O n []) _
 rw [Kj hU.fresh]
 refine Zp [0,1,2] (Zb Zc [] ?_)
 simp only [push_cast,seval,Za,hi,hk0,hN0,hN]
 obtain ⟨x2,hx2,ax2,bx2,cx2,h⟩:=bE (f:=eN) (K:=fun y=>some y) (r:=x) Zdq (fun _=>rfl) (by decide) (by rw [hx];rfl)
 obtain rfl:x2=x:=Option.some.inj (hx2.symm.trans hx)
 have hE:(eN x2)[0]? = some (.row x2.1 x2.2.length):=rfl
 refine Zp [0,1,2,7] (Zb Zc [] ?_)
 simp only [push_cast,Nat.reduceAdd,Nat.reduceSub,Nat.reduceMul,Nat.reduceLeDiff,Nat.reduceLT,Nat.reduceEqDiff,↓reduceIte,reduceCtorEq,Int.reduceBEq,Int.reduceBNe,Nat.reduceBEq,Int.reduceLE,Int.reduceLT,Int.reduceEq,Int.reduceNe,Int.reduceNeg,Nat.reduceDiv,Nat.reduceMod,Nat.reducePow,Za,ax2,bx2,cx2,hi,hk0,hN0,hN,ho,hoj,hj,Zlk,Zzs,hE,Kx,hox,hx1]
 refine Zj ?_
 have gu:Uv (fl eN L) [.row x2.1 (zl x2.2 k).length] (Int.toNat s * 1)=some (fl eN (Xr L s (x2.1,zl x2.2 k))):=Zit (f:=eN) (ti:=⟨.bool,1,0,[],false⟩) (x:=(x2.1,zl x2.2 k)) (fun _=>rfl) (Zc3 hx)
 refine U0 Zc (by kernel_rfl) [.plain,.low,.low,.low,.plain,.plain,.plain,.plain,.plain,.plain,.plain,.plain,.plain,.pass,.plain,.bar] (fun t=>t=i) [0,1,2,3,4,5,6,7,8,9,10,11,12,13,14,15] [.plain,.low,.low,.low,.plain,.plain,.plain,.plain,.plain,.plain,.plain,.plain,.plain,.pass,.plain,.bar] [] (by kernel_rfl) rfl ?_
 simp only [push_cast,Nat.reduceAdd,Nat.reduceSub,Nat.reduceMul,Nat.reduceLeDiff,Nat.reduceLT,Nat.reduceEqDiff,↓reduceIte,reduceCtorEq,Int.reduceBEq,Int.reduceBNe,Nat.reduceBEq,Int.reduceLE,Int.reduceLT,Int.reduceEq,Int.reduceNe,Int.reduceNeg,Nat.reduceDiv,Nat.reduceMod,Nat.reducePow,Za,ax2,bx2,cx2,hi,hk0,hN0,hN,ho,hoj,hj,Zlk,Zzs,hE,Kx,hox,hx1,gu]
 have e1:x2.2.length+k.toNat=(zl x2.2 k).length:=by simp [zl]
 have hoj':∀ o,O.upd x2.1 o j=some ⟨true,22,1,L.length,fl eN L⟩:=fun o=>(Ya O o hjν).trans hoj
 have ho':∀ o,O.upd x2.1 o i=some ⟨false,62,3,1,[.row j L.length,.val (.int .i64 size),.val (.int .i64 left)]⟩:=fun o=>(Ya O o hiν).trans ho
 simp only [Ycu,e1]
 refine ⟨⟨hk,by rw [Z9a];omega,by rw [Z9a];omega⟩,fun t ht=>by subst ht;rw [ho' _,ho],⟨_,hoj' _,rfl,rfl⟩,?_⟩
 simp only [hoj',gu,push_cast,seval]
 have ho2:∀ o o',(O.upd x2.1 o).upd j o' i=some ⟨false,62,3,1,[.row j L.length,.val (.int .i64 size),.val (.int .i64 left)]⟩:=fun o o'=>(Ya _ o' hij).trans (ho' o)
 refine Zp [0,2,7] (Zb Zc [] ?_)
 simp only [push_cast,seval,Za,hi,ho2]
 refine Zp [6] (Zb Zc [] ?_)
 simp only [push_cast,seval,Za]
 refine Zu ?_
 refine Yl (P:=Try.prog) (.inr rfl) (((hU.set hx1 (V5 _)).set hj (Zp3 _ fun y hy => ?_)).set hi ?_) [.val (.int .i64 (x2.2.length:Int))] (Nat.le_refl _) ?_
 ·rcases List.mem_or_eq_of_mem_set hy with h | h
  ·exact hν y h
  subst h;exact hx1
 ·simp [G.unders,G.under,hj]
 simp only [push_cast,seval,Za,Try.results30]
theorem Zqc {O:Objs} {n i j:Nat} {L:List NR} {size left s k:Int} {x:NR} (hi:i < n) (hj:j < n)
  (ho:O i=some ⟨false,62,3,1,[.row j L.length,.val (.int .i64 size),.val (.int .i64 left)]⟩) (hoj:O j=some ⟨true,22,1,L.length,fl eN L⟩) (hx:Z6 L s=some x) :
  GTo Try.prog 29 [.ref i 0,.val (.int .i64 s),.val (.int .i64 k)] O n (.val (.bool (decide (k≤IntKind.i64.wrap (size - (x.2.length:Int)))))) O n:=by
 refine Yj Zc Try.call29 Try.func29 rfl (Nat.le_of_ble_eq_true rfl) (by omega) fun hU => ?_
 show W _ _ _ _ ⟨22,[],[(0,.ref i 0),(1,.val (.int .i64 s)),(2,.val (.int .i64 k))]⟩ (Zy O n []) _
 rw [Kj hU.fresh]
 refine Zp [0,1,2] (Zb Zc [] ?_)
 simp only [push_cast,seval,Za,hi]
 obtain ⟨x2,hx2,ax2,bx2,cx2,h⟩:=bE (f:=eN) (K:=fun y=>some y) (r:=x) Zdq (fun _=>rfl) (by decide) (by rw [hx];rfl)
 obtain rfl:x2=x:=Option.some.inj (hx2.symm.trans hx)
 have hE:(eN x2)[0]? = some (.row x2.1 x2.2.length):=rfl
 have hlr:∀ i k,Kx O (.row i k)=True:=fun i k=>by simp [Kx]
 refine Zp [6] (V6 Zc (by kernel_rfl) [] (by kernel_rfl) ?_)
 simp only [push_cast,Nat.reduceAdd,Nat.reduceSub,Nat.reduceMul,Nat.reduceLeDiff,Nat.reduceLT,Nat.reduceEqDiff,↓reduceIte,reduceCtorEq,Int.reduceBEq,Int.reduceBNe,Nat.reduceBEq,Int.reduceLE,Int.reduceLT,Int.reduceEq,Int.reduceNe,Int.reduceNeg,Nat.reduceDiv,Nat.reduceMod,Nat.reducePow,Za,ax2,bx2,cx2,hi,ho,hoj,hj,Zlk,Zzs,hE,hlr]
 refine Zu ?_
 refine Yl (P:=Try.prog) (.inr rfl) hU [.val (.bool (decide (k≤IntKind.i64.wrap (size - (x2.2.length:Int)))))] (Nat.le_refl _) ?_
 simp only [push_cast,seval,Za,Try.results29]
theorem Z9r {O:Objs} {n i j:Nat} {L:List NR} {size left k:Int} (hi:i < n) (hj:j < n)
  (ho:O i=some ⟨false,62,3,1,[.row j L.length,.val (.int .i64 size),.val (.int .i64 left)]⟩) (hoj:O j=some ⟨true,22,1,L.length,fl eN L⟩) (hk:k < 0∨left < k) :
  GTo Try.prog 18 [.ref i 0,.val (.int .i64 k)] O n (.tup [.val (.int .i64 0),.val (.int .i64 0),.val (.bool false)]) O n:=by
 refine Yj Zc Try.call18 Try.func18 rfl (Nat.le_of_ble_eq_true rfl) (by omega) fun hU => ?_
 have hlr:∀ i k,Kx O (.row i k)=True:=fun i k=>by simp [Kx]
 have hN0:O n=none:=hU.fresh _ (Nat.le_refl _)
 have hN:∀ k,O (n+k)=none:=fun k=>hU.fresh _ (Nat.le_add_right _ _)
 show W _ _ _ _ ⟨61,[],[(0,.ref i 0),(1,.val (.int .i64 k))]⟩ (Zy O n []) _
 rw [Kj hU.fresh]
 refine Zp [0,1] (Zb Zc [] ?_)
 simp only [push_cast,seval,Za,hi,hj,ho,hoj,hlr]
 refine Zj ?_
 refine Xk (E':=⟨61,[],[(0,.ref i 0),(1,.val (.int .i64 k)),(21,.val (.bool true))]⟩) (O':=O) (n0:=n) ?_ ?_
 ·by_cases c:k < 0
  ·have c2:decide (k < 0)=true:=decide_eq_true c
   refine Zb Zc (oTt::oTt::Z72 []) ?_
   simp only [push_cast,seval,Za,hi,hj,ho,hoj,hlr,c2]
   refine And.intro rfl (Zao hU rfl ?_)
   simp only [push_cast,seval,Za,hi,hj,ho,hoj,hlr]
  have c2:decide (k < 0)=false:=decide_eq_false c
  have c3:decide (left < k)=true:=decide_eq_true (hk.resolve_left c)
  refine Zb Zc (Z96 []) ?_
  simp only [push_cast,seval,Za,hi,hj,ho,hoj,hlr,c2,c3]
  refine And.intro rfl (Zao hU rfl ?_)
  simp only [push_cast,seval,Za,hi,hj,ho,hoj,hlr]
 refine Zs (t:=true) rfl (fun c15 => ?_) (fun c15=>by cases c15)
 refine Zp [4,5,6] (Zb Zc [] ?_)
 simp only [push_cast,seval,Za]
 refine Zu ?_
 try simp only [Zk,Zg]
 refine Yl (P:=Try.prog) (.inr rfl) hU [.val (.int .i64 0),.val (.int .i64 0),.val (.bool false)] (Nat.le_refl _) ?_
 simp only [push_cast,seval,Za,Try.results18]
theorem Z9q {O:Objs} {n i j:Nat} {L:List NR} {size left k:Int} {x:NR} (hi:i < n) (hj:j < n) (hν:∀ y∈L,y.1 < n) (hij:i≠j) (hiν:i≠x.1) (hjν:j≠x.1)
  (ho:O i=some ⟨false,62,3,1,[.row j L.length,.val (.int .i64 size),.val (.int .i64 left)]⟩) (hoj:O j=some ⟨true,22,1,L.length,fl eN L⟩) (hx:Z6 L ((L.length:Int) - 1)=some x)
  (hox:O x.1=some ⟨true,44,1,x.2.length,fl (eI .u64) x.2⟩) (hk:0≤k) (hk2:k≤left) (hb:(x.2.length:Int)+k≤1000000) (hL:L.length≤1000000)
  (hf:k≤IntKind.i64.wrap (size - (x.2.length:Int))∨16≤L.length) :
  GTo Try.prog 18 [.ref i 0,.val (.int .i64 k)] O n (.tup [.val (.int .i64 ((L.length:Int) - 1)),.val (.int .i64 (x.2.length:Int)),.val (.bool true)])
   (((O.upd x.1 (some ⟨true,44,1,(zl x.2 k).length,fl (eI .u64) (zl x.2 k)⟩)).upd j (some ⟨true,22,1,(Xr L ((L.length:Int) - 1) (x.1,zl x.2 k)).length,fl eN (Xr L ((L.length:Int) - 1) (x.1,zl x.2 k))⟩)).upd i (some ⟨false,62,3,1,[.row j L.length,.val (.int .i64 size),.val (.int .i64 (IntKind.i64.wrap (left - k)))]⟩)) n:=by
 have hxm:x∈L:=by
  unfold Z6 at hx
  split at hx
  ·exact List.mem_of_getElem? hx
  cases hx
 have hx1:=hν x hxm
 have h0:0 < L.length:=List.length_pos_of_mem hxm
 refine Yj Zc Try.call18 Try.func18 rfl (Nat.le_of_ble_eq_true rfl) (by omega) fun hU => ?_
 have hlr:∀ i k,Kx O (.row i k)=True:=fun i k=>by simp [Kx]
 have hN0:O n=none:=hU.fresh _ (Nat.le_refl _)
 have hN:∀ k,O (n+k)=none:=fun k=>hU.fresh _ (Nat.le_add_right _ _)
 show W _ _ _ _ ⟨61,[],[(0,.ref i 0),(1,.val (.int .i64 k))]⟩ (Zy O n []) _
 rw [Kj hU.fresh]
 refine Zp [0,1] (Zb Zc [] ?_)
 simp only [push_cast,seval,Za,hi,hj,ho,hoj,hlr]
 refine Zj ?_
 refine Xk (E':=⟨61,[],[(0,.ref i 0),(1,.val (.int .i64 k)),(21,.val (.bool false))]⟩) (O':=O) (n0:=n) ?_ ?_
 ·have c2:decide (k < 0)=false:=decide_eq_false (by omega)
  have c3:decide (left < k)=false:=decide_eq_false (by omega)
  refine Zb Zc (Z96 []) ?_
  simp only [push_cast,seval,Za,hi,hj,ho,hoj,hlr,c2,c3]
  refine And.intro rfl (Zao hU rfl ?_)
  simp only [push_cast,seval,Za,hi,hj,ho,hoj,hlr]
 refine Zs (t:=false) rfl (fun c15=>by cases c15) (fun c15 => ?_)
 refine Zw ?_
 try simp only [Zk,Zg]
 have hw:IntKind.i64.wrap ((L.length:Int) - 1)=(L.length:Int) - 1:=Zcv (by omega)
 refine Zp [0,1,7] (Zb Zc [] ?_)
 simp only [push_cast,seval,Za,hi,hj,ho,hoj,hlr,hw]
 refine Xk (E':=⟨61,[],[(0,.ref i 0),(1,.val (.int .i64 k)),(7,.val (.int .i64 ((L.length:Int) - 1)))]⟩) (O':=O) (n0:=n) ?_ ?_
 ·have c8:decide ((L.length:Int) - 1 < 0)=false:=decide_eq_false (by omega)
  refine Xk (E':=⟨61,[],[(0,.ref i 0),(1,.val (.int .i64 k)),(7,.val (.int .i64 ((L.length:Int) - 1))),(44,.val (.bool false))]⟩) (O':=O) (n0:=n) ?_ ?_
  ·by_cases c:k≤IntKind.i64.wrap (size - (x.2.length:Int))
   ·have c9:decide (k≤IntKind.i64.wrap (size - (x.2.length:Int)))=true:=decide_eq_true c
    refine Zb Zc (Z73 (Z72 [oTt])) ?_
    simp only [push_cast,seval,Za,hi,hj,ho,hoj,hlr,c8,c9]
    refine (Zqc hi hj ho hoj hx).then ?_
    simp only [push_cast,seval,Za,hi,hj,ho,hoj,hlr,c8,c9]
    refine And.intro rfl (Zao hU rfl ?_)
    simp only [push_cast,seval,Za,hi,hj,ho,hoj,hlr]
   have c9:decide (k≤IntKind.i64.wrap (size - (x.2.length:Int)))=false:=decide_eq_false c
   have c10:decide ((L.length:Int) < 16)=false:=decide_eq_false (by have:=hf.resolve_left c;omega)
   refine Zb Zc (Z4l []) ?_
   simp only [push_cast,seval,Za,hi,hj,ho,hoj,hlr,c8,c9,c10]
   refine (Zqc hi hj ho hoj hx).then ?_
   simp only [push_cast,seval,Za,hi,hj,ho,hoj,hlr,c8,c9,c10]
   refine And.intro rfl (Zao hU rfl ?_)
   simp only [push_cast,seval,Za,hi,hj,ho,hoj,hlr]
  refine Zs (t:=false) rfl (fun c15=>by cases c15) (fun c15 => ?_)
  refine Zw ?_
  refine And.intro rfl (Zao hU rfl ?_)
  simp only [push_cast,seval,Za,hi,hj,ho,hoj,hlr]
 refine Zj ?_
 refine Zb Zc [] ?_
 simp only [push_cast,seval,Za,hi,hj,ho,hoj,hlr]
 refine (Zy8 hi hj hν hij hiν hjν ho hoj hx hox hk hb).then ?_
 simp only [push_cast,seval,Za]
 refine Zu ?_
 try simp only [Zk,Zg]
 refine Yl (P:=Try.prog) (.inr rfl) (((hU.set hx1 (V5 _)).set hj (Zp3 _ fun y hy => ?_)).set hi ?_) [.val (.int .i64 ((L.length:Int) - 1)),.val (.int .i64 (x.2.length:Int)),.val (.bool true)] (Nat.le_refl _) ?_
 ·rcases List.mem_or_eq_of_mem_set hy with h | h
  ·exact hν y h
  subst h;exact hx1
 ·simp [G.unders,G.under,hj]
 simp only [push_cast,seval,Za,Try.results18]
theorem Z6d {O:Objs} {n i j:Nat} {a b b0 c d e f:Option GObj} (hin:i≠n) (hjn:j≠n) (hij:i≠j):(((((((O.upd j e).upd i f).upd n d).upd j b0).upd n a).upd j b).upd i c)=((O.upd n a).upd j b).upd i c:=by
 funext t
 unfold Objs.upd
 by_cases h1:t=i
 ·rw [if_pos h1,if_pos h1]
 by_cases h2:t=j
 ·simp only [if_neg h1,if_pos h2]
 by_cases h3:t=n
 ·simp only [if_neg h1,if_neg h2,if_pos h3]
 simp only [if_neg h1,if_neg h2,if_neg h3]
theorem Z68 {O:Objs} {n i j:Nat} {L:List NR} {size left k:Int} (hi:i < n) (hj:j < n) (hν:∀ y∈L,y.1 < n) (hij:i≠j)
  (ho:O i=some ⟨false,62,3,1,[.row j L.length,.val (.int .i64 size),.val (.int .i64 left)]⟩) (hoj:O j=some ⟨true,22,1,L.length,fl eN L⟩) (hk:0≤k) (hk2:k≤left) (hb:k≤1000000) (hL:L.length≤1000000)
  (hf:L.length=0∨L.length < 16∧∃ x,Z6 L ((L.length:Int) - 1)=some x∧¬ k≤IntKind.i64.wrap (size - (x.2.length:Int))) :
  GTo Try.prog 18 [.ref i 0,.val (.int .i64 k)] O n (.tup [.val (.int .i64 (L.length:Int)),.val (.int .i64 0),.val (.bool true)])
   (((O.upd n (some ⟨true,44,1,(zl [] k).length,fl (eI .u64) (zl [] k)⟩)).upd j (some ⟨true,22,1,(L++[(n,zl [] k)]).length,fl eN (L++[(n,zl [] k)])⟩)).upd i (some ⟨false,62,3,1,[.row j (L++[(n,zl [] k)]).length,.val (.int .i64 size),.val (.int .i64 (IntKind.i64.wrap (left - k)))]⟩)) (n+1):=by
 refine Yj Zc Try.call18 Try.func18 rfl (Nat.le_of_ble_eq_true rfl) (by omega) fun hU => ?_
 have hlr:∀ i k,Kx O (.row i k)=True:=fun i k=>by simp [Kx]
 have hN0:O n=none:=hU.fresh _ (Nat.le_refl _)
 have hN:∀ k,O (n+k)=none:=fun k=>hU.fresh _ (Nat.le_add_right _ _)
 show W _ _ _ _ ⟨61,[],[(0,.ref i 0),(1,.val (.int .i64 k))]⟩ (Zy O n []) _
 rw [Kj hU.fresh]
 refine Zp [0,1] (Zb Zc [] ?_)
 simp only [push_cast,seval,Za,hi,hj,ho,hoj,hlr]
 refine Zj ?_
 refine Xk (E':=⟨61,[],[(0,.ref i 0),(1,.val (.int .i64 k)),(21,.val (.bool false))]⟩) (O':=O) (n0:=n) ?_ ?_
 ·have c2:decide (k < 0)=false:=decide_eq_false (by omega)
  have c3:decide (left < k)=false:=decide_eq_false (by omega)
  refine Zb Zc (Z96 []) ?_
  simp only [push_cast,seval,Za,hi,hj,ho,hoj,hlr,c2,c3]
  refine And.intro rfl (Zao hU rfl ?_)
  simp only [push_cast,seval,Za,hi,hj,ho,hoj,hlr]
 refine Zs (t:=false) rfl (fun c15=>by cases c15) (fun c15 => ?_)
 refine Zw ?_
 try simp only [Zk,Zg]
 have hw:IntKind.i64.wrap ((L.length:Int) - 1)=(L.length:Int) - 1:=Zcv (by omega)
 refine Zp [0,1,7] (Zb Zc [] ?_)
 simp only [push_cast,seval,Za,hi,hj,ho,hoj,hlr,hw]
 refine Xk (E':=⟨61,[],[(0,.ref i 0),(1,.val (.int .i64 k)),(7,.val (.int .i64 (L.length:Int)))]⟩) (O':=(((O.upd j (some ⟨true,22,1,L.length+1,fl eN L++[.val (.slice none 0 0)]⟩)).upd i (some ⟨false,62,3,1,[.row j (L.length+1),.val (.int .i64 size),.val (.int .i64 left)]⟩)).upd n (some ⟨true,44,1,0,[]⟩)).upd j (some ⟨true,22,1,L.length+1,fl eN (L++[(n,[])])⟩)) (n0:=n+1) ?_ ?_
 ·refine Xk (E':=⟨61,[],[(0,.ref i 0),(1,.val (.int .i64 k)),(7,.val (.int .i64 ((L.length:Int) - 1))),(44,.val (.bool true))]⟩) (O':=O) (n0:=n) ?_ ?_
  ·by_cases c:L.length=0
   ·have c8:decide ((L.length:Int) - 1 < 0)=true:=decide_eq_true (by omega)
    refine Zb Zc (Z70 []) ?_
    simp only [push_cast,seval,Za,hi,hj,ho,hoj,hlr,c8]
    refine And.intro rfl (Zao hU rfl ?_)
    simp only [push_cast,seval,Za,hi,hj,ho,hoj,hlr]
   obtain ⟨hlt,x,hx,hnf⟩:=hf.resolve_left c
   have c8:decide ((L.length:Int) - 1 < 0)=false:=decide_eq_false (by omega)
   have c9:decide (k≤IntKind.i64.wrap (size - (x.2.length:Int)))=false:=decide_eq_false hnf
   have c10:decide ((L.length:Int) < 16)=true:=decide_eq_true (by omega)
   refine Zb Zc (Z4l []) ?_
   simp only [push_cast,seval,Za,hi,hj,ho,hoj,hlr,c8,c9,c10]
   refine (Zqc hi hj ho hoj hx).then ?_
   simp only [push_cast,seval,Za,hi,hj,ho,hoj,hlr,c8,c9,c10]
   refine And.intro rfl (Zao hU rfl ?_)
   simp only [push_cast,seval,Za,hi,hj,ho,hoj,hlr]
  refine Zs (t:=true) rfl (fun c15 => ?_) (fun c15=>by cases c15)
  refine Zj ?_
  have h5:∀ o,O.upd n o j=some ⟨true,22,1,L.length,fl eN L⟩:=fun o=>(Ya O o (by omega)).trans hoj
  have h6:∀ o o',(O.upd n o).upd j o' i=some ⟨false,62,3,1,[.row j L.length,.val (.int .i64 size),.val (.int .i64 left)]⟩:=fun o o'=>(Ya _ o' hij).trans ((Ya O o (by omega)).trans ho)
  refine Zb Zc [] ?_
  simp only [push_cast,seval,Za,hi,hj,ho,hoj,hlr,hN0,hN,h5,h6]
  refine ⟨⟨by omega,by omega⟩,?_⟩
  have hU1:Und ((O.upd j (some ⟨true,22,1,L.length+1,fl eN L++[.val (.slice none 0 0)]⟩)).upd i (some ⟨false,62,3,1,[.row j (L.length+1),.val (.int .i64 size),.val (.int .i64 left)]⟩)) n :=
   (hU.set hj (Zvz _ _ (Zp3 _ hν) (by simp [G.unders,G.under]))).set hi (by simp [G.unders,G.under,hj])
  refine Zds (E':=⟨61,[],[(0,.ref i 0),(1,.val (.int .i64 k)),(7,.val (.int .i64 ((L.length:Int) - 1)))]⟩) (O':=((O.upd j (some ⟨true,22,1,L.length+1,fl eN L++[.val (.slice none 0 0)]⟩)).upd i (some ⟨false,62,3,1,[.row j (L.length+1),.val (.int .i64 size),.val (.int .i64 left)]⟩))) (n':=n) (Fit2.of ⟨rfl,Z4a hU1 fun t o ht => ?_,?_⟩ (Nat.le_refl _)) ?_
  ·by_cases e1:t=i
   ·subst e1;rw [Z9] at ht ⊢;exact ht
   rw [Ya _ _ e1] at ht ⊢
   by_cases e2:t=j
   ·subst e2;rw [Z9] at ht ⊢;exact ht
   rw [Ya _ _ e2] at ht ⊢
   by_cases e3:t=n
   ·subst e3;rw [hN0] at ht;cases ht
   rw [Ya _ _ e3];exact ht
  ·simp only [push_cast,seval,Za,hi,hj]
  refine Z6m (p:=j) (k:=L.length) (q:=⟨true,22,1,L.length+1,fl eN L++[.val (.slice none 0 0)]⟩) 44 1 (by rw [Ya _ _ (Ne.symm hij),Z9]) (by rw [List.getElem?_append_right (by rw [Zlk];omega),Zlk];simp) ?_
  have hset:(fl eN L++[G.val (.slice none 0 0)]).set L.length (.row n 0)=fl eN (L++[(n,[])]):=by
   rw [List.set_append_right _ _ (by rw [Zlk];omega),Zlk,← Zt6];simp [eN]
  simp only [hset]
  have hlt:∀ y∈L++[(n,([]:List Int))],y.1 < n+1:=fun y hy=>by
   rcases List.mem_append.1 hy with h | h
   ·have:=hν y h;omega
   rw [List.mem_singleton.1 h];exact Nat.lt_succ_self _
  have hU2:=((hU1.more (Nat.le_succ n)).set (q:=⟨true,44,1,0,[]⟩) (Nat.lt_succ_self n) (by simp [G.unders])).set (q:=⟨true,22,1,L.length+1,fl eN (L++[(n,[])])⟩) (i:=j) (by omega) (Zp3 _ hlt)
  have hi1:i < n+1:=by omega
  refine Zb Zc [] ?_
  have hw2:IntKind.i64.wrap ((L.length:Int) - 1+1)=(L.length:Int):=by rw [Zcv (by omega)];omega
  simp only [push_cast,seval,Za,hw2]
  simp only [Zt6]
  refine And.intro rfl (Ka hU2 (Nat.le_succ n) rfl ?_)
  simp only [push_cast,seval,Za,hi1]
 refine Zj ?_
 have hi1:i < n+1:=by omega
 refine Zb Zc [] ?_
 simp only [push_cast,seval,Za,hi1]
 simp only [Zt6]
 have hin:i≠n:=by omega
 have hjn:j≠n:=by omega
 have hlt:∀ y∈L++[(n,([]:List Int))],y.1 < n+1:=fun y hy=>by
  rcases List.mem_append.1 hy with h | h
  ·have:=hν y h;omega
  rw [List.mem_singleton.1 h];exact Nat.lt_succ_self _
 have hlen:(L++[(n,([]:List Int))]).length=L.length+1:=by simp
 have hget:Z6 (L++[(n,([]:List Int))]) (L.length:Int)=some (n,[]):=by
  unfold Z6;rw [if_pos (by omega),Int.toNat_natCast,List.getElem?_append_right (Nat.le_refl _)];simp
 have g:=Zy8 (O:=(((O.upd j (some ⟨true,22,1,L.length+1,fl eN L++[.val (.slice none 0 0)]⟩)).upd i (some ⟨false,62,3,1,[.row j (L.length+1),.val (.int .i64 size),.val (.int .i64 left)]⟩)).upd n (some ⟨true,44,1,0,[]⟩)).upd j (some ⟨true,22,1,L.length+1,fl eN (L++[(n,[])])⟩)) (n:=n+1) (i:=i) (j:=j) (L:=L++[(n,[])]) (size:=size) (left:=left) (s:=(L.length:Int)) (k:=k) (x:=(n,[])) (by omega) (by omega) hlt hij hin hjn
  (by rw [Ya _ _ hij,Ya _ _ hin,Z9,hlen]) (by rw [Z9,hlen]) hget (by rw [Ya _ _ (Ne.symm hjn),Z9];rfl) hk (by simp;omega)
 refine g.then ?_
 simp only [push_cast,seval,Za]
 have hs:Xr (L++[(n,([]:List Int))]) (L.length:Int) (n,zl [] k)=L++[(n,zl [] k)]:=by
  unfold Xr;rw [Int.toNat_natCast,List.set_append_right _ _ (Nat.le_refl _)];simp
 have hlt2:∀ y∈L++[(n,zl [] k)],y.1 < n+1:=fun y hy=>by
  rcases List.mem_append.1 hy with h | h
  ·have:=hν y h;omega
  rw [List.mem_singleton.1 h];exact Nat.lt_succ_self _
 simp only [hs,Zt6,Z6d hin hjn hij]
 refine Zu ?_
 try simp only [Zk,Zg]
 refine Yl (P:=Try.prog) (.inr rfl) ((((hU.more (Nat.le_succ n)).set (Nat.lt_succ_self n) (V5 _)).set (by omega) (Zp3 _ hlt2)).set (by omega) ?_) [.val (.int .i64 (L.length:Int)),.val (.int .i64 0),.val (.bool true)] (Nat.le_succ _) ?_
 ·have:j < n+1:=by omega
  simp [G.unders,G.under,this]
 simp only [push_cast,seval,Za,Try.results18]
def Zwu:List Oper→List Nat→List Nat
 | [],acc=>acc
 | o::l,acc=>Zwu l (acc++[(o.after.toList.filter fun e=>Region.binds .any e).foldr (fun e m=>m ||| (1 <<< e.on ||| acc.getD e.on 0)) 0])
def Z1u (ops:List Oper):Bool :=
 let B:=Zwu ops []
 (List.range ops.length).all fun i=>match ops[i]? with
  | none=>true
  | some o=>(o.after.toList.all fun e => !Region.binds .any e || e.on < i) &&
   (List.range i).all fun j=>match ops[j]? with
    | none=>true
    | some y=>Zhs ops o y || (B.getD i 0).testBit j
theorem Z49 (acc:List (List Nat)) (am:List Nat) (h:∀ i j,(am.getD i 0).testBit j=(acc.getD i []).contains j) (L:List Edge) (j:Nat) :
  (L.foldr (fun e m=>m ||| (1 <<< e.on ||| am.getD e.on 0)) 0).testBit j=(L.flatMap fun e=>e.on::acc.getD e.on []).contains j:=by
 induction L with
 | nil=>simp
 | cons e L ih =>
  rw [List.foldr_cons,List.flatMap_cons,Nat.testBit_or,Nat.testBit_or,ih,h,Nat.one_shiftLeft,Nat.testBit_two_pow,Bool.eq_iff_iff]
  simp only [Bool.or_eq_true,decide_eq_true_eq,List.contains_iff_mem,List.cons_append,List.mem_cons,List.mem_append]
  constructor
  ·rintro (h | h | h)
   ·exact .inr (.inr h)
   ·exact .inl h.symm
   exact .inr (.inl h)
  rintro (h | h | h)
  ·exact .inr (.inl h.symm)
  ·exact .inr (.inr h)
  exact .inl h
theorem Z0g:∀ (l:List Oper) (acc:List (List Nat)) (am:List Nat),am.length=acc.length→(∀ i j,(am.getD i 0).testBit j=(acc.getD i []).contains j)→∀ i j,((Zwu l am).getD i 0).testBit j=((Zbd l acc).getD i []).contains j
 | [],acc,am,_,h,i,j=>by simpa [Zbd,Zwu] using h i j
 | o::l,acc,am,hl,h,i,j=>by
  rw [Zbd,Zwu]
  refine Z0g l _ _ (by simp [hl]) (fun i j => ?_) i j
  rcases Nat.lt_trichotomy i acc.length with hi | hi | hi
  ·have h1:=h i j
   simp only [List.getD_eq_getElem?_getD] at h1 ⊢
   rw [List.getElem?_append_left (by omega),List.getElem?_append_left hi];exact h1
  ·subst hi
   simp only [List.getD_eq_getElem?_getD,List.getElem?_append_right (Nat.le_refl _),Nat.sub_self,← hl]
   have:=Z49 acc am h (o.after.toList.filter fun e=>Region.binds .any e) j
   simpa [List.getD_eq_getElem?_getD,hl] using this
  simp only [List.getD_eq_getElem?_getD]
  rw [List.getElem?_eq_none (by simp;omega),List.getElem?_eq_none (by simp;omega)];simp
theorem Z1v {ops:List Oper} (h:Z1u ops=true):Zna ops=true:=by
 have key:∀ i j,((Zwu ops []).getD i 0).testBit j=((Zbd ops []).getD i []).contains j:=Z0g ops [] [] rfl (fun i j=>by simp)
 unfold Z1u at h
 unfold Zna
 simp only [key] at h
 exact h
def Jw (segs:List (List Int)):List Int:=(segs[segs.length - 1]?).getD []
open Classical in
noncomputable def X8 (segs:List (List Int)) (size left k:Int):Int×Int×Bool×List (List Int)×Int :=
 if k < 0∨left < k then (0,0,false,segs,left)
 else if segs.length=0∨segs.length < 16∧¬ k≤IntKind.i64.wrap (size - ((Jw segs).length:Int)) then ((segs.length:Int),0,true,segs++[zl [] k],IntKind.i64.wrap (left - k))
 else ((segs.length:Int) - 1,((Jw segs).length:Int),true,segs.set (segs.length - 1) (zl (Jw segs) k),IntKind.i64.wrap (left - k))
theorem Jv {α:Type} {L:List α} {s:Int} {x y:α} (h:Z6 L s=some x):Z6 (Xr L s y) s=some y:=by
 unfold Z6 Xr at *
 split at h
 ·rename_i c
  obtain ⟨hl,_⟩:=List.getElem?_eq_some_iff.1 h
  rw [if_pos c,List.getElem?_set_self hl]
 cases h
theorem Zxg {α:Type} {L:List α} {s:Int} {x:α} (h:Z6 L s=some x):Xr L s x=L:=by
 unfold Z6 Xr at *
 split at h
 ·obtain ⟨hl,he⟩:=List.getElem?_eq_some_iff.1 h
  rw [← he];exact List.set_getElem_self hl
 cases h
theorem Zf6 {α:Type} {L:List α} {s:Int} (h:Z6 L s=none):s < 0∨(L.length:Int)≤s:=by
 unfold Z6 at h
 split at h
 ·have:=List.getElem?_eq_none_iff.1 h;omega
 omega
theorem Xe {α:Type} {L:List α} {s:Int} {x:α} (h:Z6 L s=some x):x∈L:=by
 unfold Z6 at h
 split at h
 ·exact List.mem_of_getElem? h
 cases h
theorem Qr {α:Type} {L:List α} {s:Int} {x:α} (h:Z6 L s=some x):0≤s∧s < (L.length:Int):=by
 unfold Z6 at h
 split at h
 ·obtain ⟨hl,_⟩:=List.getElem?_eq_some_iff.1 h;omega
 cases h
theorem Y8 {P:Program} {ba n:Nat} {c:Code} {Q:GQ} {E:Env} {O:Objs} (h:Und O n→W P ba c Q E O n):W P ba c Q E O n:=fun hb w m a hM hE=>h ⟨hM.fresh,fun i o hi=>by obtain ⟨vs,hv,_⟩:=hM.obj i o hi;exact Kh _ _ hv⟩ hb w m a hM hE
theorem Z4x {Z:Objs}:∀ L:List NR,(∀ x∈L,Z x.1=some ⟨true,44,1,x.2.length,fl (eI .u64) x.2⟩)→Vh Z Ks 0 (fl eN L) (fl (eL (eI .u64)) (L.map (·.2)))
 | [],_=>by simp [fl,Vh]
 | x::L,h=>by
  show Vh Z Ks 0 (.row x.1 x.2.length::fl eN L) (.sl x.2.length (fl (eI .u64) x.2)::fl (eL (eI .u64)) (L.map (·.2)))
  unfold Vh
  refine ⟨_,_,rfl,?_,Z4x L fun y hy=>h y (List.mem_cons_of_mem _ hy)⟩
  unfold wk
  exact ⟨rfl,rfl,_,h x List.mem_cons_self,rfl,rfl,Zba _⟩
theorem Zlf {L:List NR} {s:Int} {x:NR} (h:Z6 L s=some x):Z6 (L.map (·.2)) s=some x.2:=by
 unfold Z6 at *
 split at h
 ·rename_i c;rw [if_pos c,List.getElem?_map,h];rfl
 cases h
theorem Zzg {Z:Objs} {i j:Nat} {L:List NR} {size left:Int} (hi:Z i=some ⟨false,62,3,1,[.row j L.length,.val (.int .i64 size),.val (.int .i64 left)]⟩)
  (hj:Z j=some ⟨true,22,1,L.length,fl eN L⟩) (h:∀ x∈L,Z x.1=some ⟨true,44,1,x.2.length,fl (eI .u64) x.2⟩):wk Z Ks 0 (.ref i 0) (gP Zo (some ⟨L.map (·.2),size,left⟩)):=by
 show wk Z Ks 0 (.ref i 0) (.ip (Zo ⟨L.map (·.2),size,left⟩) 0)
 unfold wk
 refine ⟨rfl,rfl,_,hi,rfl,?_⟩
 show Vh Z Ks 0 _ [.sl (L.map (·.2)).length (fl (eL (eI .u64)) (L.map (·.2))),.val (.int .i64 size),.val (.int .i64 left)]
 unfold Vh
 refine ⟨_,_,rfl,?_,Vc rfl⟩
 unfold wk
 exact ⟨by rw [List.length_map],rfl,_,hj,rfl,rfl,Z4x L h⟩
def Yp (segs:List (List Int)) (s p k:Int):Bool:=match Z6 segs s with
 | none=>false
 | some t=>decide (0≤p∧0≤k∧k≤(t.length:Int)∧p≤(t.length:Int) - k)
theorem Zsz (A:Zm) (s:Int):Xz (some A) s=some (decide (0≤s∧s < (A.segments.length:Int))):=by
 unfold Xz Ui
 by_cases c:0≤s <;> simp [c]
theorem Z34 (A:Zm) (s p k:Int) (hb:∀ t∈A.segments,t.length≤1000000):X4 (some A) s p k=some (Yp A.segments s p k):=by
 unfold X4 Jg
 simp only [Zsz]
 cases hx:Z6 A.segments s with
 | none =>
  have:=Zf6 hx
  have c:decide (0≤s∧s < (A.segments.length:Int))=false:=decide_eq_false (by omega)
  simp [Yp,hx,c]
 | some t =>
  have:=Qr hx
  have hl:=hb t (Xe hx)
  have c:decide (0≤s∧s < (A.segments.length:Int))=true:=decide_eq_true (by omega)
  simp only [Yp,hx,c,Option.bind_some,cond_true,Bool.not_true,cond_false]
  by_cases c1:0≤p <;> by_cases c2:0≤k <;> by_cases c3:k≤(t.length:Int) <;> simp [c1,c2,c3]
  rw [Zcv (by omega)]
theorem Ycz {O:Objs} {n i j:Nat} {L:List NR} {size left s k:Int} (hi:i < n) (hj:j < n)
  (ho:O i=some ⟨false,62,3,1,[.row j L.length,.val (.int .i64 size),.val (.int .i64 left)]⟩) (hoj:O j=some ⟨true,22,1,L.length,fl eN L⟩) (hL:∀ x∈L,O x.1=some ⟨true,44,1,x.2.length,fl (eI .u64) x.2⟩)
  (hc:¬ (0≤s∧s < (L.length:Int))∨k < 0∨left < k∨∃ x,Z6 L s=some x∧¬ k≤IntKind.i64.wrap (size - (x.2.length:Int))) :
  GTo Try.prog 50 [.ref i 0,.val (.int .i64 s),.val (.int .i64 k)] O n (.tup [.val (.int .i64 0),.val (.bool false)]) O n:=by
 refine Yj Zc Try.call50 Try.func50 rfl (Nat.le_of_ble_eq_true rfl) (by omega) fun hU => ?_
 have hlr:∀ i k,Kx O (.row i k)=True:=fun i k=>by simp [Kx]
 have HL:=Zzg ho hoj hL
 have hth:=Zsz ⟨L.map (·.2),size,left⟩ s
 simp only [List.length_map] at hth
 show W _ _ _ _ ⟨35,[],[(0,.ref i 0),(1,.val (.int .i64 s)),(2,.val (.int .i64 k))]⟩ (Zy O n []) _
 rw [Kj hU.fresh]
 refine Zp [0,1,2] (Zb Zc [] ?_)
 simp only [push_cast,seval,Za,hi]
 refine Zj ?_
 refine Xk (E':=⟨35,[],[(0,.ref i 0),(1,.val (.int .i64 s)),(2,.val (.int .i64 k)),(30,.val (.bool true))]⟩) (O':=O) (n0:=n) ?_ ?_
 ·by_cases c1:0≤s∧s < (L.length:Int)
  ·have d1:decide (0≤s∧s < (L.length:Int))=true:=decide_eq_true c1
   by_cases c2:k < 0
   ·have d2:decide (k < 0)=true:=decide_eq_true c2
    refine Zb Zc (oTt::oTt::Yc5 []) ?_
    simp only [push_cast,seval,Za,hi,hj,ho,hoj,hlr,d1,d2]
    refine GCalls.lend (Yx hth) rfl (by unfold Vh;exact ⟨_,_,rfl,HL,Vc rfl⟩) ?_
    simp only [push_cast,seval,Za,hi,hj,ho,hoj,hlr,d1,d2]
    refine And.intro rfl (Zao hU rfl ?_)
    simp only [push_cast,seval,Za,hi,hj,ho,hoj,hlr]
   have d2:decide (k < 0)=false:=decide_eq_false c2
   by_cases c3:left < k
   ·have d3:decide (left < k)=true:=decide_eq_true c3
    refine Zb Zc (Z96 (Z71 [])) ?_
    simp only [push_cast,seval,Za,hi,hj,ho,hoj,hlr,d1,d2,d3]
    refine GCalls.lend (Yx hth) rfl (by unfold Vh;exact ⟨_,_,rfl,HL,Vc rfl⟩) ?_
    simp only [push_cast,seval,Za,hi,hj,ho,hoj,hlr,d1,d2,d3]
    refine And.intro rfl (Zao hU rfl ?_)
    simp only [push_cast,seval,Za,hi,hj,ho,hoj,hlr]
   have d3:decide (left < k)=false:=decide_eq_false c3
   obtain ⟨x,hx,c4⟩:=((hc.resolve_left (fun h=>h c1)).resolve_left c2).resolve_left c3
   have d4:decide (k≤IntKind.i64.wrap (size - (x.2.length:Int)))=false:=decide_eq_false c4
   refine Zb Zc (Z4l []) ?_
   simp only [push_cast,seval,Za,hi,hj,ho,hoj,hlr,d1,d2,d3,d4]
   refine GCalls.lend (Yx hth) rfl (by unfold Vh;exact ⟨_,_,rfl,HL,Vc rfl⟩) ?_
   simp only [push_cast,seval,Za,hi,hj,ho,hoj,hlr,d1,d2,d3,d4]
   refine (Zqc hi hj ho hoj hx).then ?_
   simp only [push_cast,seval,Za,hi,hj,ho,hoj,hlr,d1,d2,d3,d4]
   refine And.intro rfl (Zao hU rfl ?_)
   simp only [push_cast,seval,Za,hi,hj,ho,hoj,hlr]
  have d1:decide (0≤s∧s < (L.length:Int))=false:=decide_eq_false c1
  refine Zb Zc (Z70 []) ?_
  simp only [push_cast,seval,Za,hi,hj,ho,hoj,hlr,d1]
  refine GCalls.lend (Yx hth) rfl (by unfold Vh;exact ⟨_,_,rfl,HL,Vc rfl⟩) ?_
  simp only [push_cast,seval,Za,hi,hj,ho,hoj,hlr,d1]
  refine And.intro rfl (Zao hU rfl ?_)
  simp only [push_cast,seval,Za,hi,hj,ho,hoj,hlr]
 refine Zs (t:=true) rfl (fun c15 => ?_) (fun c15=>by cases c15)
 refine Zp [6,7] (Zb Zc [] ?_)
 simp only [push_cast,seval,Za]
 refine Zu ?_
 try simp only [Zk,Zg]
 refine Yl (P:=Try.prog) (.inr rfl) hU [.val (.int .i64 0),.val (.bool false)] (Nat.le_refl _) ?_
 simp only [push_cast,seval,Za,Try.results50]
theorem Ycy {O:Objs} {n i j:Nat} {L:List NR} {size left s k:Int} {x:NR} (hi:i < n) (hj:j < n) (hν:∀ y∈L,y.1 < n) (hij:i≠j) (hiν:i≠x.1) (hjν:j≠x.1)
  (ho:O i=some ⟨false,62,3,1,[.row j L.length,.val (.int .i64 size),.val (.int .i64 left)]⟩) (hoj:O j=some ⟨true,22,1,L.length,fl eN L⟩) (hL:∀ x∈L,O x.1=some ⟨true,44,1,x.2.length,fl (eI .u64) x.2⟩) (hx:Z6 L s=some x)
  (hk:0≤k) (hk2:k≤left) (hb:(x.2.length:Int)+k≤1000000) (hf:k≤IntKind.i64.wrap (size - (x.2.length:Int))) :
  GTo Try.prog 50 [.ref i 0,.val (.int .i64 s),.val (.int .i64 k)] O n (.tup [.val (.int .i64 (x.2.length:Int)),.val (.bool true)])
   (((O.upd x.1 (some ⟨true,44,1,(zl x.2 k).length,fl (eI .u64) (zl x.2 k)⟩)).upd j (some ⟨true,22,1,(Xr L s (x.1,zl x.2 k)).length,fl eN (Xr L s (x.1,zl x.2 k))⟩)).upd i (some ⟨false,62,3,1,[.row j L.length,.val (.int .i64 size),.val (.int .i64 (IntKind.i64.wrap (left - k)))]⟩)) n:=by
 have hx1:=hν x (Xe hx)
 have hox:=hL x (Xe hx)
 refine Yj Zc Try.call50 Try.func50 rfl (Nat.le_of_ble_eq_true rfl) (by omega) fun hU => ?_
 have hlr:∀ i k,Kx O (.row i k)=True:=fun i k=>by simp [Kx]
 have HL:=Zzg ho hoj hL
 have hth:=Zsz ⟨L.map (·.2),size,left⟩ s
 simp only [List.length_map] at hth
 show W _ _ _ _ ⟨35,[],[(0,.ref i 0),(1,.val (.int .i64 s)),(2,.val (.int .i64 k))]⟩ (Zy O n []) _
 rw [Kj hU.fresh]
 refine Zp [0,1,2] (Zb Zc [] ?_)
 simp only [push_cast,seval,Za,hi]
 refine Zj ?_
 refine Xk (E':=⟨35,[],[(0,.ref i 0),(1,.val (.int .i64 s)),(2,.val (.int .i64 k)),(30,.val (.bool false))]⟩) (O':=O) (n0:=n) ?_ ?_
 ·have d1:decide (0≤s∧s < (L.length:Int))=true:=decide_eq_true (Qr hx)
  have d2:decide (k < 0)=false:=decide_eq_false (by omega)
  have d3:decide (left < k)=false:=decide_eq_false (by omega)
  have d4:decide (k≤IntKind.i64.wrap (size - (x.2.length:Int)))=true:=decide_eq_true hf
  refine Zb Zc (Z4l []) ?_
  simp only [push_cast,seval,Za,hi,hj,ho,hoj,hlr,d1,d2,d3,d4]
  refine GCalls.lend (Yx hth) rfl (by unfold Vh;exact ⟨_,_,rfl,HL,Vc rfl⟩) ?_
  simp only [push_cast,seval,Za,hi,hj,ho,hoj,hlr,d1,d2,d3,d4]
  refine (Zqc hi hj ho hoj hx).then ?_
  simp only [push_cast,seval,Za,hi,hj,ho,hoj,hlr,d1,d2,d3,d4]
  refine And.intro rfl (Zao hU rfl ?_)
  simp only [push_cast,seval,Za,hi,hj,ho,hoj,hlr]
 refine Zs (t:=false) rfl (fun c15=>by cases c15) (fun c15 => ?_)
 refine Zw ?_
 try simp only [Zk,Zg]
 refine Zj ?_
 refine Zb Zc [] ?_
 simp only [push_cast,seval,Za,hi,hj,ho,hoj,hlr]
 refine (Zy8 hi hj hν hij hiν hjν ho hoj hx hox hk hb).then ?_
 simp only [push_cast,seval,Za]
 refine Zu ?_
 try simp only [Zk,Zg]
 refine Yl (P:=Try.prog) (.inr rfl) (((hU.set hx1 (V5 _)).set hj (Zp3 _ fun y hy => ?_)).set hi ?_) [.val (.int .i64 (x.2.length:Int)),.val (.bool true)] (Nat.le_refl _) ?_
 ·rcases List.mem_or_eq_of_mem_set hy with h | h
  ·exact hν y h
  subst h;exact hx1
 ·simp [G.unders,G.under,hj]
 simp only [push_cast,seval,Za,Try.results50]
theorem Yce {O:Objs} {n i j:Nat} {L:List NR} {size left s p v:Int} (hi:i < n) (hj:j < n)
  (ho:O i=some ⟨false,62,3,1,[.row j L.length,.val (.int .i64 size),.val (.int .i64 left)]⟩) (hoj:O j=some ⟨true,22,1,L.length,fl eN L⟩) (hL:∀ x∈L,O x.1=some ⟨true,44,1,x.2.length,fl (eI .u64) x.2⟩) (hb:∀ x∈L,x.2.length≤1000000) (hh:Yp (L.map (·.2)) s p 1=false) :
  GTo Try.prog 69 [.ref i 0,.val (.int .i64 s),.val (.int .i64 p),.val (.int .u64 v)] O n (.val (.bool false)) O n:=by
 refine Yj Zc Try.call69 Try.func69 rfl (Nat.le_of_ble_eq_true rfl) (by omega) fun hU => ?_
 have hlr:∀ i k,Kx O (.row i k)=True:=fun i k=>by simp [Kx]
 have HL:=Zzg ho hoj hL
 have hth:=(Z34 ⟨L.map (·.2),size,left⟩ s p 1 (fun t ht=>by obtain ⟨x,hx,rfl⟩:=List.mem_map.1 ht;exact hb x hx)).trans (congrArg some hh)
 show W _ _ _ _ ⟨24,[],[(0,.ref i 0),(1,.val (.int .i64 s)),(2,.val (.int .i64 p)),(3,.val (.int .u64 v))]⟩ (Zy O n []) _
 rw [Kj hU.fresh]
 refine Zp [0,1,2,3] (Zb Zc [] ?_)
 simp only [push_cast,seval,Za,hi]
 refine Zj ?_
 refine Zp [0,1,2,3,13] (Zb Zc [] ?_)
 simp only [push_cast,seval,Za,hi,hj,ho,hoj,hlr]
 refine GCalls.lend (V0 hth) rfl (by unfold Vh;exact ⟨_,_,rfl,HL,Vc rfl⟩) ?_
 simp only [push_cast,seval,Za,hi,hj,ho,hoj,hlr]
 refine Zs (t:=true) rfl (fun c15 => ?_) (fun c15=>by cases c15)
 refine Zp [8] (Zb Zc [] ?_)
 simp only [push_cast,seval,Za]
 refine Zu ?_
 try simp only [Zk,Zg]
 refine Yl (P:=Try.prog) (.inr rfl) hU [.val (.bool false)] (Nat.le_refl _) ?_
 simp only [push_cast,seval,Za,Try.results69]
theorem Ycd {O:Objs} {n i j:Nat} {L:List NR} {size left s p v:Int} {x:NR} (hi:i < n) (hj:j < n) (hν:∀ y∈L,y.1 < n)
  (ho:O i=some ⟨false,62,3,1,[.row j L.length,.val (.int .i64 size),.val (.int .i64 left)]⟩) (hoj:O j=some ⟨true,22,1,L.length,fl eN L⟩) (hL:∀ x∈L,O x.1=some ⟨true,44,1,x.2.length,fl (eI .u64) x.2⟩) (hb:∀ x∈L,x.2.length≤1000000) (hx:Z6 L s=some x) (hh:Yp (L.map (·.2)) s p 1=true) :
  GTo Try.prog 69 [.ref i 0,.val (.int .i64 s),.val (.int .i64 p),.val (.int .u64 v)] O n (.val (.bool true))
   (O.upd x.1 (some ⟨true,44,1,x.2.length,fl (eI .u64) (Xr x.2 p v)⟩)) n:=by
 have hx1:=hν x (Xe hx)
 have hox:=hL x (Xe hx)
 have hp:0≤p∧p < (x.2.length:Int):=by
  have e:Z6 (L.map (·.2)) s=some x.2:=Zlf hx
  unfold Yp at hh
  rw [e] at hh
  have:=of_decide_eq_true hh
  omega
 refine Yj Zc Try.call69 Try.func69 rfl (Nat.le_of_ble_eq_true rfl) (by omega) fun hU => ?_
 have hlr:∀ i k,Kx O (.row i k)=True:=fun i k=>by simp [Kx]
 have HL:=Zzg ho hoj hL
 have hth:=(Z34 ⟨L.map (·.2),size,left⟩ s p 1 (fun t ht=>by obtain ⟨x,hx,rfl⟩:=List.mem_map.1 ht;exact hb x hx)).trans (congrArg some hh)
 show W _ _ _ _ ⟨24,[],[(0,.ref i 0),(1,.val (.int .i64 s)),(2,.val (.int .i64 p)),(3,.val (.int .u64 v))]⟩ (Zy O n []) _
 rw [Kj hU.fresh]
 refine Zp [0,1,2,3] (Zb Zc [] ?_)
 simp only [push_cast,seval,Za,hi]
 refine Zj ?_
 refine Zp [0,1,2,3,13] (Zb Zc [] ?_)
 simp only [push_cast,seval,Za,hi,hj,ho,hoj,hlr]
 refine GCalls.lend (V0 hth) rfl (by unfold Vh;exact ⟨_,_,rfl,HL,Vc rfl⟩) ?_
 simp only [push_cast,seval,Za,hi,hj,ho,hoj,hlr]
 refine Zs (t:=false) rfl (fun c15=>by cases c15) (fun c15 => ?_)
 refine Zw ?_
 try simp only [Zk,Zg]
 obtain ⟨x2,hx2,ax2,bx2,cx2,h⟩:=bE (f:=eN) (K:=fun y=>some y) (r:=x) Zdq (fun _=>rfl) (by decide) (by rw [hx];rfl)
 obtain rfl:x2=x:=Option.some.inj (hx2.symm.trans hx)
 have hE:(eN x2)[0]? = some (.row x2.1 x2.2.length):=rfl
 obtain ⟨w0,hw0⟩:∃ w0,Z6 x2.2 p=some w0:=⟨x2.2[p.toNat]'(by omega),by unfold Z6;rw [if_pos hp.1];exact List.getElem?_eq_getElem (by omega)⟩
 have gu:Uv (fl (eI .u64) x2.2) [.val (.int .u64 v)] (Int.toNat p * 1)=some (fl (eI .u64) (Xr x2.2 p v)):=Zit (f:=eI .u64) (ti:=⟨.bool,1,0,[],false⟩) (x:=v) (fun _=>rfl) (Zc3 hw0)
 have hpl:=hp.1
 have hpr:=hp.2
 refine Zj ?_
 refine Zb Zc [] ?_
 simp only [push_cast,Nat.reduceAdd,Nat.reduceSub,Nat.reduceMul,Nat.reduceLeDiff,Nat.reduceLT,Nat.reduceEqDiff,↓reduceIte,reduceCtorEq,Int.reduceBEq,Int.reduceBNe,Nat.reduceBEq,Int.reduceLE,Int.reduceLT,Int.reduceEq,Int.reduceNe,Int.reduceNeg,Nat.reduceDiv,Nat.reduceMod,Nat.reducePow,Za,ax2,bx2,cx2,hi,ho,hoj,hj,Zlk,Zzs,hE,hlr,hox,hx1,hpl,hpr,gu]
 refine Zp [8] (Zb Zc [] ?_)
 simp only [push_cast,seval,Za]
 refine Zu ?_
 refine Yl (P:=Try.prog) (.inr rfl) (hU.set hx1 (V5 _)) [.val (.bool true)] (Nat.le_refl _) ?_
 simp only [push_cast,seval,Za,Try.results69]
structure PX (H:Nat→GObj) (O:Objs) (n i j:Nat) (L:List NR):Prop where
 hi:i < n
 hj:j < n
 hij:i≠j
 ho:O i=some (H L.length)
 hoj:O j=some ⟨true,22,1,L.length,fl eN L⟩
 lt:∀ x∈L,x.1 < n
 ni:∀ x∈L,i≠x.1
 nj:∀ x∈L,j≠x.1
 hL:∀ x∈L,O x.1=some ⟨true,44,1,x.2.length,fl (eI .u64) x.2⟩
 nd:(L.map (·.1)).Nodup
def ter (i j:Nat) (L:List NR) (t:Nat):Prop:=t=i∨t=j∨∃ x∈L,t=x.1
theorem PX.frame {H:Nat→GObj} {O O':Objs} {n n' i j:Nat} {L:List NR} (h:PX H O n i j L) (hO:∀ t,ter i j L t→O' t=O t) (hn:n≤n'):PX H O' n' i j L :=
 ⟨by have:=h.hi;omega,by have:=h.hj;omega,h.hij,(hO i (.inl rfl)).trans h.ho,(hO j (.inr (.inl rfl))).trans h.hoj,fun x hx=>by have:=h.lt x hx;omega,h.ni,h.nj,fun x hx=>(hO _ (.inr (.inr ⟨x,hx,rfl⟩))).trans (h.hL x hx),h.nd⟩
theorem Zvq {L:List NR} {s:Int} {x:NR} (hx:Z6 L s=some x) (z:List Int):(Xr L s (x.1,z)).map (·.1)=L.map (·.1):=by
 have h:=Zxg (L:=L.map (·.1)) (s:=s) (x:=x.1) (by
  unfold Z6 at *
  split at hx
  ·rename_i c;rw [if_pos c,List.getElem?_map,hx];rfl
  cases hx)
 unfold Xr at *
 rw [List.map_set];exact h
theorem Zvr {L:List NR} {s:Int} (a:Nat) (z:List Int):(Xr L s (a,z)).map (·.2)=Xr (L.map (·.2)) s z:=by unfold Xr;rw [List.map_set]
theorem Z1e {α:Type} {L:List α} {s:Int} {y z:α} (h:y∈Xr L s z):y∈L∨y=z:=List.mem_or_eq_of_mem_set h
theorem Z4v {i j t:Nat} {L:List NR} {s:Int} {x:NR} (hx:Z6 L s=some x) (z:List Int) (h:ter i j (Xr L s (x.1,z)) t):ter i j L t:=by
 rcases h with h | h | ⟨y,hy,rfl⟩
 ·exact .inl h
 ·exact .inr (.inl h)
 rcases Z1e hy with h | rfl
 ·exact .inr (.inr ⟨y,h,rfl⟩)
 exact .inr (.inr ⟨x,Xe hx,rfl⟩)
theorem Zci {L:List NR} {s:Int} {x y:NR} (hn:(L.map (·.1)).Nodup) (hx:Z6 L s=some x) (z:List Int) (hy:y∈Xr L s (x.1,z)):y=(x.1,z)∨(y∈L∧y.1≠x.1):=by
 obtain ⟨p,hp⟩:=List.getElem?_of_mem hy
 unfold Xr at hp
 rw [List.getElem?_set] at hp
 unfold Z6 at hx
 split at hx
 ·by_cases c:s.toNat=p
  ·subst c
   rw [if_pos rfl] at hp
   split at hp
   ·exact .inl (Option.some.inj hp).symm
   cases hp
  rw [if_neg c] at hp
  refine .inr ⟨List.mem_of_getElem? hp,fun e=>c ?_⟩
  have h1:(L.map (·.1))[p]? = some x.1:=by rw [List.getElem?_map,hp];exact congrArg some e
  have h2:(L.map (·.1))[s.toNat]? = some x.1:=by rw [List.getElem?_map,hx];rfl
  obtain ⟨l1,g1⟩:=List.getElem?_eq_some_iff.1 h1
  obtain ⟨l2,g2⟩:=List.getElem?_eq_some_iff.1 h2
  exact (List.getElem_inj (h₀:=l2) (h₁:=l1) hn).1 (g2.trans g1.symm)
 cases hx
theorem PX.set {H:Nat→GObj} {O:Objs} {n i j:Nat} {L:List NR} {s:Int} {x:NR} (h:PX H O n i j L) (hx:Z6 L s=some x) (z:List Int) (H':Nat→GObj) :
  PX H' (((O.upd x.1 (some ⟨true,44,1,z.length,fl (eI .u64) z⟩)).upd j (some ⟨true,22,1,L.length,fl eN (Xr L s (x.1,z))⟩)).upd i (some (H' L.length))) n i j (Xr L s (x.1,z)):=by
 have hxm:=Xe hx
 have e:(Xr L s (x.1,z)).length=L.length:=Jc _ _ _
 refine ⟨h.hi,h.hj,h.hij,by rw [Z9,e],by rw [Ya _ _ (Ne.symm h.hij),Z9,e],fun y hy => ?_,fun y hy => ?_,fun y hy => ?_,fun y hy => ?_,by rw [Zvq hx];exact h.nd⟩
 ·rcases Zci h.nd hx z hy with rfl | ⟨q,_⟩
  ·exact h.lt x hxm
  exact h.lt y q
 ·rcases Zci h.nd hx z hy with rfl | ⟨q,_⟩
  ·exact h.ni x hxm
  exact h.ni y q
 ·rcases Zci h.nd hx z hy with rfl | ⟨q,_⟩
  ·exact h.nj x hxm
  exact h.nj y q
 rcases Zci h.nd hx z hy with rfl | ⟨q,q2⟩
 ·rw [Ya _ _ (Ne.symm (h.ni x hxm)),Ya _ _ (Ne.symm (h.nj x hxm)),Z9]
 rw [Ya _ _ (Ne.symm (h.ni y q)),Ya _ _ (Ne.symm (h.nj y q)),Ya _ _ q2];exact h.hL y q
theorem Ybu {L:List NR} {s:Int} {x:NR} (hx:Z6 L s=some x) {z:List Int} (hz:z.length=x.2.length):fl eN (Xr L s (x.1,z))=fl eN L:=by
 have e:∀ L:List NR,fl eN L=(L.map fun y=>(y.1,y.2.length)).map fun y=>G.row y.1 y.2:=fun L=>by
  induction L with
  | nil=>rfl
  | cons y L ih =>
   rw [List.map_cons,List.map_cons,← ih];rfl
 rw [e,e]
 congr 1
 have h2:=Zxg (L:=L.map fun y=>(y.1,y.2.length)) (s:=s) (x:=(x.1,x.2.length)) (by
  unfold Z6 at *
  split at hx
  ·rename_i c;rw [if_pos c,List.getElem?_map,hx];rfl
  cases hx)
 unfold Xr at *
 rw [List.map_set,hz];exact h2
theorem PX.put {H:Nat→GObj} {O:Objs} {n i j:Nat} {L:List NR} {s:Int} {x:NR} (h:PX H O n i j L) (hx:Z6 L s=some x) {z:List Int} (hz:z.length=x.2.length) :
  PX H (O.upd x.1 (some ⟨true,44,1,x.2.length,fl (eI .u64) z⟩)) n i j (Xr L s (x.1,z)):=by
 have hxm:=Xe hx
 have e:(Xr L s (x.1,z)).length=L.length:=Jc _ _ _
 refine ⟨h.hi,h.hj,h.hij,by rw [Ya _ _ (h.ni x hxm),e];exact h.ho,by rw [Ya _ _ (h.nj x hxm),e,Ybu hx hz];exact h.hoj,fun y hy => ?_,fun y hy => ?_,fun y hy => ?_,fun y hy => ?_,by rw [Zvq hx];exact h.nd⟩
 ·rcases Zci h.nd hx z hy with rfl | ⟨q,_⟩
  ·exact h.lt x hxm
  exact h.lt y q
 ·rcases Zci h.nd hx z hy with rfl | ⟨q,_⟩
  ·exact h.ni x hxm
  exact h.ni y q
 ·rcases Zci h.nd hx z hy with rfl | ⟨q,_⟩
  ·exact h.nj x hxm
  exact h.nj y q
 rcases Zci h.nd hx z hy with rfl | ⟨q,q2⟩
 ·rw [Z9,hz]
 rw [Ya _ _ q2];exact h.hL y q
theorem PX.new {H:Nat→GObj} {O:Objs} {n i j:Nat} {L:List NR} (h:PX H O n i j L) (z:List Int) (H':Nat→GObj) :
  PX H' (((O.upd n (some ⟨true,44,1,z.length,fl (eI .u64) z⟩)).upd j (some ⟨true,22,1,L.length+1,fl eN (L++[(n,z)])⟩)).upd i (some (H' (L.length+1)))) (n+1) i j (L++[(n,z)]):=by
 have e:(L++[(n,z)]).length=L.length+1:=by simp
 have h1:=h.hi
 have h2:=h.hj
 refine ⟨by omega,by omega,h.hij,by rw [Z9,e],by rw [Ya _ _ (Ne.symm h.hij),Z9,e],fun y hy => ?_,fun y hy => ?_,fun y hy => ?_,fun y hy => ?_,?_⟩
 ·rcases List.mem_append.1 hy with q | q
  ·have:=h.lt y q;omega
  rw [List.mem_singleton.1 q];exact Nat.lt_succ_self _
 ·rcases List.mem_append.1 hy with q | q
  ·exact h.ni y q
  rw [List.mem_singleton.1 q];exact Nat.ne_of_lt h1
 ·rcases List.mem_append.1 hy with q | q
  ·exact h.nj y q
  rw [List.mem_singleton.1 q];exact Nat.ne_of_lt h2
 ·rcases List.mem_append.1 hy with q | q
  ·rw [Ya _ _ (Ne.symm (h.ni y q)),Ya _ _ (Ne.symm (h.nj y q)),Ya _ _ (by have:=h.lt y q;omega)];exact h.hL y q
  rw [List.mem_singleton.1 q]
  rw [Ya _ _ (show n≠i by omega),Ya _ _ (show n≠j by omega),Z9]
 rw [List.map_append,List.nodup_append]
 refine ⟨h.nd,by simp,fun a ha b hb => ?_⟩
 obtain ⟨y,hy,rfl⟩:=List.mem_map.1 ha
 have:=h.lt y hy
 simp at hb
 omega
theorem Z4m {O:Objs} {i j t:Nat} {L:List NR} {s:Int} {x:NR} (hx:Z6 L s=some x) (a b c:Option GObj) (h:¬ ter i j L t):(((O.upd x.1 a).upd j b).upd i c) t=O t:=by
 rw [Ya _ _ (fun e=>h (.inl e)),Ya _ _ (fun e=>h (.inr (.inl e))),Ya _ _ (fun e=>h (.inr (.inr ⟨x,Xe hx,e⟩)))]
theorem Yaa {O:Objs} {i j t:Nat} {L:List NR} {s:Int} {x:NR} (hx:Z6 L s=some x) (a:Option GObj) (h:¬ ter i j L t):(O.upd x.1 a) t=O t:=by
 rw [Ya _ _ (fun e=>h (.inr (.inr ⟨x,Xe hx,e⟩)))]
theorem Z99 {O:Objs} {n i j t:Nat} {L:List NR} (a b c:Option GObj) (h:¬ ter i j L t) (hn:t≠n):(((O.upd n a).upd j b).upd i c) t=O t:=by
 rw [Ya _ _ (fun e=>h (.inl e)),Ya _ _ (fun e=>h (.inr (.inl e))),Ya _ _ hn]
theorem Yax {n i j t:Nat} {L:List NR} {z:List Int} (h:ter i j (L++[(n,z)]) t):ter i j L t∨t=n:=by
 rcases h with h | h | ⟨y,hy,rfl⟩
 ·exact .inl (.inl h)
 ·exact .inl (.inr (.inl h))
 rcases List.mem_append.1 hy with q | q
 ·exact .inl (.inr (.inr ⟨y,q,rfl⟩))
 rw [List.mem_singleton.1 q];exact .inr rfl
theorem PX.ter_lt {H:Nat→GObj} {O:Objs} {n i j t:Nat} {L:List NR} (h:PX H O n i j L) (ht:ter i j L t):t < n:=by
 rcases ht with rfl | rfl | ⟨y,hy,rfl⟩
 ·exact h.hi
 ·exact h.hj
 exact h.lt y hy
def HP (j:Nat) (size left:Int) (k:Nat):GObj:=⟨false,62,3,1,[.row j k,.val (.int .i64 size),.val (.int .i64 left)]⟩
noncomputable def Y4 (segs:List (List Int)) (s p v:Int):List (List Int):=if Yp segs s p 1=true then Xr segs s (Xr ((Z6 segs s).getD []) p v) else segs
section
variable {P:Program} {ba:Nat} {Q:GQ} {c:Code}
def Ycl {S:Type} (ba:Nat) (Q:GQ) (F:S→Env) (H:S→Objs) (N:S→Nat) (I:S→Prop) (μ:S→Nat) (s:S):GQ:=fun e E O n =>
 (e = .normal∧∃ s',I s'∧μ s' < μ s∧Fit2 ba E O n (F s') (H s') (N s'))∨(e ≠ .normal∧Q e E O n)
theorem Zp6 {S:Type} (F:S→Env) (H:S→Objs) (N:S→Nat) (I:S→Prop) (μ:S→Nat) (hN:∀ s,I s→ba≤N s)
  (body:∀ s,I s→W P ba c (Ycl ba Q F H N I μ s) (F s) (H s) (N s)) (s0:S) (h0:I s0):W P ba (.loop c) Q (F s0) (H s0) (N s0):=fun hb w0 m0 a0 hM0 hE0=>by
 refine Z4c (fun k a w=>∃ s m,I s∧μ s=k∧Mem w (H s) m (N s)∧Holds w (H s) m (N s) (F s) a∧Ext w0 (H s0) m0 ba w (H s) m (N s)) ?_ (μ s0) a0 w0 ⟨s0,m0,h0,rfl,hM0,hE0,(Ext.refl _ _ _ _).base hb⟩
 rintro k a w ⟨s,m,hs,hk,hM,hE,hX⟩
 subst hk
 refine wp_mono (body s hs (hN s hs) w m a hM hE) fun e a2 w2 ⟨E2,O2,n2,m2,h1,h2,h3,h4⟩ => ?_
 rcases h1 with ⟨rfl,s',hs',hlt,hF⟩ | ⟨hne,hq⟩
 ·obtain ⟨m3,g1,g2,g3⟩:=hF w2 m2 a2 h2 h3
  exact ⟨μ s',hlt,s',m3,hs',rfl,g1,g2,hX.transB (h4.transB g3)⟩
 have:lift w0 (H s0) m0 ba Q e a2 w2:=⟨E2,O2,n2,m2,hq,h2,h3,hX.transB h4⟩
 cases e with
 | normal=>exact absurd rfl hne
 | exit id=>exact this
 | goto l=>exact this
 | ret=>exact this
 | panic ch=>exact this
 | outgrown=>exact this
def GSome (P:Program) (f:FuncId) (gs:List G) (O:Objs) (n:Nat) (R:G→Objs→Nat→Prop):Prop:=∃ r O' n',GTo P f gs O n r O' n'∧R r O' n'
theorem GSome.calls {f:FuncId} {gs:List G} {O:Objs} {n:Nat} {R K:G→Objs→Nat→Prop} (h:GSome P f gs O n R) (hk:∀ r O' n',R r O' n'→K r O' n'):GCalls P f gs O n K:=by
 obtain ⟨r,O',n',h1,h2⟩:=h
 exact h1.then (hk r O' n' h2)
end
section
variable {P:Program} {T:J9} {O:Objs} {n:Nat} {f:FuncId} {gs:List G} {K:G→Objs→Nat→Prop}
def Z2n (T:J9) (rs:List ResultVar) (ba:Nat) (K:G→Objs→Nat→Prop):GQ:=fun e E' O' n'=>∃ r O2 n2,ba≤n2∧K r O2 n2∧Fin T rs r ba O2 n2 e E' O' n'
theorem Zld (hT:X6 P T) {fn:Func} {c:Code} (hc:∀ args w,(callFunc f args).run P w = .ok (.enter f args) w) (hf:P.funcs[f]? = some fn) (hb:fn.body=some c)
  (hn:gs.length≤fn.ntmps) (h:Und O n→W P n c (Z2n T fn.results.toList n K) ⟨fn.ntmps,[],Zpl 0 gs⟩ (Zy O n []) n):GCalls P f gs O n K:=by
 refine ⟨hc,fun w m vs hM hr => ?_⟩
 have hl:=Qz _ _ hr
 have hU:Und O n:=⟨hM.fresh,fun i o hi=>by obtain ⟨vs,hv,_⟩:=hM.obj i o hi;exact Kh _ _ hv⟩
 have h:=h hU
 rw [Kj hM.fresh] at h
 refine calls_of_wp hf hb (wp_mono (h (Nat.le_refl _) w m { tmps:=vs.toArray++Array.replicate (fn.ntmps - vs.toArray.size) undef,defers:=[] } hM ?_) fun e a' w' ⟨E',O',n',m',h1,h2',h3,h4⟩ => ?_)
 ·have hv:∀ (gs:List G) (vs:List Value) (k:Nat),G.reps w O m n gs vs→∀ t,(k≤t→∀ v,vs[t - k]? = some v→(Q0 (Zpl k gs) t).rep w O m n v)∧(t < k∨k+gs.length≤t→Q0 (Zpl k gs) t = .any):=fun gs=>by
   induction gs with
   | nil =>
    intro vs k hr t
    simp only [G.reps] at hr
    subst hr
    exact ⟨fun _ v hv=>by simp at hv,fun _=>rfl⟩
   | cons g gs ih =>
    intro vs k hr t
    simp only [G.reps] at hr
    obtain ⟨u,us,rfl,h1,h2⟩:=hr
    have:=ih us (k+1) h2 t
    simp only [Zpl,Q0]
    refine ⟨fun hk v hv => ?_,fun ht => ?_⟩
    ·by_cases e:t=k
     ·subst e
      rw [if_pos rfl]
      simp at hv
      subst hv
      exact h1
     rw [if_neg e]
     refine this.1 (by omega) v ?_
     have:t - k=t - (k+1)+1:=by omega
     rw [this] at hv
     simpa using hv
    have e:¬ t=k:=by simp at ht;omega
    rw [if_neg e]
    exact this.2 (by simp at ht;omega)
  have hq:=hv gs vs 0 hr
  have hsz:(vs.toArray++Array.replicate (fn.ntmps - vs.toArray.size) undef).size=fn.ntmps:=by simp;omega
  refine ⟨hsz,fun t v hv => ?_,fun t ht=>(hq t).2 (.inr (by simp only at ht;omega)),rfl⟩
  rcases Nat.lt_or_ge t vs.length with ht | ht
  ·refine (hq t).1 (Nat.zero_le _) v ?_
   have:(vs.toArray++Array.replicate (fn.ntmps - vs.toArray.size) undef)[t]? = vs[t]? := by
    rw [Array.getElem?_append_left (by simpa using ht)];simp
   rw [Nat.sub_zero,← this];exact hv
  rw [(hq t).2 (.inr (by omega))]
  simp [G.rep]
 obtain ⟨r,O2,n2,h2,hK,he,E2,O3,n3,gs',hF2,hg,hL,hwk⟩:=h1
 obtain ⟨m3,h2',h3,hX3⟩:=hF2 w' m' a' h2' h3
 have h4:=h4.transB hX3
 obtain ⟨v,hv,hrep⟩:=Zpc hT h2' h3 hg
 have fin:a'.defers=[]∧∃ v,(results fn a'.tmps).run P w' = .ok v w'∧∃ v_1 g O' n' m',Ending.returned v = .returned v_1∧Mem w' O' m' n'∧Ext w O m n w' O' m' n'∧G.rep w' O' m' n' g v_1∧K g O' n' :=
  ⟨h3.defers,v,hv,v,r,O2,n2,m3,rfl,h2'.weak hL,h4.weak hL h2,Zka h2' hL _ _ hrep _ hwk,hK⟩
 rcases he with rfl | rfl <;> exact fin
end
noncomputable def Y0 (segs:List (List Int)) (s p:Int):List Int→List (List Int)
 | []=>segs
 | w::ws=>Y0 (Y4 segs s p w) s (p+1) ws
theorem Z8f {O:Objs} {n i j:Nat} {L:List NR} {size left:Int} (h:PX (HP j size left) O n i j L) (hB:∀ x∈L,x.2.length≤1000000) (s p v:Int) :
  ∃ O' L',GTo Try.prog 69 [.ref i 0,.val (.int .i64 s),.val (.int .i64 p),.val (.int .u64 v)] O n (.val (.bool (Yp (L.map (·.2)) s p 1))) O' n∧PX (HP j size left) O' n i j L'∧L'.map (·.1)=L.map (·.1)∧L'.map (·.2)=Y4 (L.map (·.2)) s p v∧(∀ t,¬ ter i j L t→O' t=O t)∧∀ x∈L',x.2.length≤1000000:=by
 by_cases c:Yp (L.map (·.2)) s p 1=true
 ·obtain ⟨t,ht⟩:∃ t,Z6 (L.map (·.2)) s=some t:=by
   unfold Yp at c
   cases e:Z6 (L.map (·.2)) s with
   | none=>rw [e] at c;cases c
   | some t=>exact ⟨t,rfl⟩
  have hS:0≤s∧s < (L.length:Int):=by have:=Qr ht;rwa [List.length_map] at this
  have hx0:∃ x,Z6 L s=some x:=⟨L[s.toNat]'(by omega),by unfold Z6;rw [if_pos hS.1];exact List.getElem?_eq_getElem (by omega)⟩
  obtain ⟨x,hx⟩:=hx0
  have et:t=x.2:=Option.some.inj (ht.symm.trans (Zlf hx))
  subst et
  refine ⟨_,Xr L s (x.1,Xr x.2 p v),by rw [c];exact Ycd h.hi h.hj h.lt h.ho h.hoj h.hL hB hx c,h.put hx (Jc _ _ _),Zvq hx _,?_,fun t ht=>Yaa hx _ ht,fun y hy => ?_⟩
  ·rw [Zvr]
   unfold Y4
   rw [if_pos c,ht];rfl
  rcases Z1e hy with q | q
  ·exact hB y q
  rw [q];show (Xr x.2 p v).length≤1000000;rw [Jc];exact hB x (Xe hx)
 have c':Yp (L.map (·.2)) s p 1=false:=by simpa using c
 exact ⟨O,L,by rw [c'];exact Yce h.hi h.hj h.ho h.hoj h.hL hB c',h,rfl,by unfold Y4;rw [if_neg c],fun _ _=>rfl,hB⟩
end Go.Proofs.Ytbkhdkfjabiocaa
