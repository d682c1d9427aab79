/- Part A: arenas whose segments are rows of their own; each theorem bears its own conditions. -/
import Derived.Test.YtaddaloondpnkaaUM1
namespace Go.Proofs.Ytaddaloondpnkaa
open Go.RowKit
set_option linter.unusedVariables false
set_option linter.unusedSimpArgs false
set_option maxRecDepth 100000
set_option maxHeartbeats 4000000
attribute [local push_cast] Ze Z4 Zgz Zgy Zhv Zhu Zh Zf Zdx Gk Gj onW Yq Uy V7 Zju Zg3 Zb5 Zb9 Zb4 Zb8 Zez Zev Zb7 Zey Zex Zew Zb6 Zet Gz evS wok Xd Op.operands Call.operands gop onK onP atK List.all_cons List.all_nil Bool.and_true Bool.true_and Bool.and_self Value.oneCell' List.take_zero List.take_succ_cons List.take_nil List.drop_zero List.drop_succ_cons List.drop_nil List.append_nil Nat.add_zero Nat.zero_add Jj Z5 ev Y9 Zkx Zgs Zgr Zgx Zgv Zgw Zgt Zgu Zgq Zlh Zni Zpd Zcy Vg Zc4 V8 Zbq Zat V0 V5 Gi Ge V3 Gh Gg Gf V2 Gc V1 V4 K8 Gd Zf8 Gl Jo Zcd Jp Zdw Zcx Zol Up bHi bMx Vh Zdu Zpz Zcw Zfl U7 Qz Zk4 Zp4 Zcc U4 Zp6 Vf Zsd Zd2 Zd6 Zd1 Zd5 Zhi Zhe Zhc Zbr Zd3 Zhh Zhg Zhf Zd4 Zg8 Zhb Zg7 Zha Zls Zlp Zlo Zg9 Zlq Zlr Zhd Zfh Zjt Zej Gx Gw pop TK.isAgg Zhn Zhs Zhm Zhr Zed Zl6 Zl2 Zhq Zl5 Zl4 Zl3 Zhp Zl1 G.under G.unders List.getD_cons_zero List.getD_cons_succ List.set_cons_zero List.set_cons_succ List.map_cons List.map_nil List.toList_toArray Array.toList_append Option.toArray_none Option.toArray_some Array.toList_map Option.map_some Option.map_none Option.bind_some Option.bind_none List.getElem?_cons_zero List.getElem?_cons_succ List.getElem?_nil List.nil_append List.cons_append List.replicate_succ List.replicate_zero List.length_cons List.length_nil and_true true_and and_false false_and Bool.true_eq_false Bool.false_eq_true forall_const false_implies implies_true IntKind.bits if_true if_false ite_true ite_false eq_self true_implies false_or or_false or_true true_or not_true_eq_false not_false_eq_true decide_true decide_false decide_eq_true_eq decide_eq_false_iff_not beq_iff_eq bne_iff_ne ne_eq Bool.not_eq_true Bool.not_eq_false beq_eq_false_iff_ne bne_eq_false_iff_eq beq_self_eq_true bne_self_eq_false Option.some.injEq exists_eq_left' exists_eq_left ge_iff_le gt_iff_lt decide_not Bool.not_true Bool.not_false imp_self Zlj cond_true cond_false Zw1 Zw0 Bool.not_not Bool.and_false Bool.false_and Bool.or_true Bool.true_or Bool.or_false Bool.false_or Vq Zal Vr Ku J6 Qg Option.join_some Nat.add_assoc Int.toNat_natCast eI eB eS eL Zjr Zae V9 Zg2 Zg0 Zg1 Zsj Zuf Zaj Uf Zh1 Zhz Zh0 Zph Zkw Zna Zkd Zlf Uq Zjs List.length_append G.agg.injEq G.row.injEq G.ref.injEq G.val.injEq G.sl.injEq G.tup.injEq Value.int.injEq Value.bool.injEq Value.string.injEq List.cons.injEq exists_and_left exists_const List.flatten_cons List.flatten_nil Int.le_refl Nat.le_refl Zfe Jz Zdq Bool.not_eq_true' Bool.not_eq_false' Zjj Za3 Zmz Zm3 Zmy Zm2 Zsa Zr5 List.size_toArray Zn3 Zla G.ren G.rens Zpi Zeo Zh4 Zgo Zgp Zeu Zm4 Zc0 G.fn.injEq Zcu Zfg Zji Zr6 Zff Zm1 Zr9 Zr8 Zr7 Zm0 Zlt Zqe Option.join_none Zo Jd undef Zfn Arr.len Arr.put_eq Zai Zbw Gt Ue Zhy Zhw Zhx onB Zsi Zk3 Xj Zbl Zdg Zdh Zdi Zdj Zdk Zdl Zbt Zbz Zbx Gv Ug Zby Zei Zeh Zeg Zef Zsk Zue Zpg Zos J0 Zpe Zj0 Zb0 Gu Zj9 Zj8 Zvc Zqo Zke Zcv Zfj Zcg Zcs Zdm Zdn Zdo Zdp Za6 Za7 Za8 Za9 Zba Zbb Zbc Zbd Zbe Zbf Zbg Zbh Zbi Zaq prT Zfi Zxy Zmp Zso Zmq Zxz Zmr Zx0 Zms Zx1 Zmt Zx2 Zmu Zx3 Zmv Zx4 Zmw Zqw Zib Zqx Zic Zqy Zid Zqz Zie Zq0 Zif Zq1 Zig Zq2 Zih Zq3 Zii Zq4 Zij Zq5 Zik Zq6 Zil Vx Zc9 Zob Zda Zq7 Zim J3 Zin Zq8 Zfu Zq9 Zio Zra Zip Zrb Ziq Zrc Zir Zrd Zis Zre Zit Zrf Ziu Zrg Ziv K4 Ziw Zrh Zix Zri Ziy Zrj Ziz Zrk Zi0 Zrl Zi1 Zrm Zi2 Zrn Zi3 Zro Zi4 Zrp Zi5 Zrq Zi6 Zrr Zi7 Zrs Zi8 Zrt Zi9 Zru Zja Zrv Zjb Zrw Zjc Zrx Zjd Zry Zje Zrz Zjf Zmb Ze0 Zmc Ze1 Zmd Ze2 Zme Ze3 Zmf Ze4 Zmg Ze5 Zmh Ze6 Zmi Ze7 Zmj Ze8 Zmk Ze9 Zml Zfa Zmm Zfb Zmn Zfc Zmo Zfd Zt Uo G5 Gn Gs Zac Un Uk Ui Y7 Kp Ko Kj Kl Kq Jy Jw Jv Km Xe Xw Xv Xq Xs Xx Xk Xi Xh Xu Zg Yr Qw Qv Qo Qr Qy Qf Qe Qd Qt Zaa G4 Gm Gr Zab Um Uj Uh G0 V6
abbrev NR:=Nat×List Int
def eN (x:NR):List G:=[.row x.1 x.2.length]
theorem U0 (xs:List NR):(fl eN xs).length=xs.length * 1:=Q6 (f:=eN) (k:=1) (fun _=>rfl) xs
theorem Zho (xs:List NR):(fl eN xs).all G.one=true:=Vz (fun x=>by simp [eN,G.one]) xs
theorem Za2 {k:Nat}:∀ (xs:List NR),(∀ x∈xs,x.1 < k)→G.unders k (fl eN xs)=true
 | [],_=>by simp [fl,G.unders]
 | x::xs,h=>by
  have h1:=h x (by simp)
  have h2:=Za2 xs (fun y hy=>h y (by simp [hy]))
  show (G.under k (.row x.1 x.2.length) && G.unders k (fl eN xs))=true
  rw [h2,Bool.and_true]
  simpa [G.under] using h1
theorem Und.set {X:Objs} {n i:Nat} (hU:Und X n) {q:GObj} (hi:i < n) (hq:G.unders n q.cells=true):Und (X.upd i (some q)) n:=by
 refine ⟨fun k hk => ?_,fun k o ho => ?_⟩
 ·rw [Zn _ _ (by omega)];exact hU.fresh k hk
 by_cases e:k=i
 ·subst e;rw [Zo] at ho;injection ho with ho;subst ho;exact hq
 rw [Zn _ _ e] at ho;exact hU.und k o ho
theorem Zu {P:Program} {T:Qi} {X:Objs} {E:Env} {n n' ba:Nat} {r:G} {rs:List ResultVar} {e:Exit} (he:e = .normal∨e = .ret) (hU:Und X n) (gs:List G) (hb:ba≤n') (h:Zfh T X E rs=some gs∧wk X X n (Zjt gs) r):Fin T rs r ba X n e E X n':=by
 have:=Zq (l:=[]) (n':=n') he hU gs hb (by rw [Yh hU.fresh];exact h)
 rwa [Yh hU.fresh] at this
theorem less_self {O:Objs} {n:Nat} (hU:Und O n):LessO O O n:=⟨hU.fresh,fun i o ho=>⟨o,ho,rfl,rfl,rfl,rfl,K5 _ (hU.und i o ho)⟩⟩
theorem Yu {O:Objs} {n:Nat} {E E':Env} (hU:Und O n) (hn:E'.n=E.n) (h:Zlf O O n E.l E'.l):Fit2 n E O n E' O n:=Fit2.of ⟨hn,less_self hU,h⟩ (Nat.le_refl _)
theorem Yf {O:Objs} {n ba:Nat} {E E':Env} (hU:Und O n) (hb:ba≤n) (hn:E'.n=E.n) (h:Zlf O O n E.l E'.l):Fit2 ba E O n E' O n:=Fit2.of ⟨hn,less_self hU,h⟩ hb
theorem Znm {O O':Objs} {n:Nat} (hU:Und O' n) (h:∀ t o,O' t=some o→O t=some o):LessO O O' n:=⟨hU.fresh,fun i o ho=>⟨o,h i o ho,rfl,rfl,rfl,rfl,K5 _ (hU.und i o ho)⟩⟩
theorem Und.more {O:Objs} {n n':Nat} (hU:Und O n) (h:n≤n'):Und O n':=⟨fun i hi=>hU.fresh i (by omega),fun i o ho=>Kf h _ (hU.und i o ho)⟩
theorem Zfk (L:List NR) (x:NR):fl eN L++eN x=fl eN (L++[x]):=by unfold fl;simp
theorem Zmx {n:Nat}:∀ (a b:List G),G.unders n a=true→G.unders n b=true→G.unders n (a++b)=true
 | [],b,_,h=>h
 | x::a,b,h,k=>by
  simp only [List.cons_append,G.unders,Bool.and_eq_true] at h ⊢
  exact ⟨h.1,Zmx a b h.2 k⟩
def zl (s:List Int) (k:Int):List Int:=s++List.replicate k.toNat 0
theorem Z5b (s:List Int) (k:Int):fl (eI .u64) s++(List.replicate k.toNat [G.val (.int .u64 0)]).flatten=fl (eI .u64) (zl s k):=by
 unfold zl fl
 rw [List.map_append,List.flatten_append,List.map_replicate]
 rfl
theorem Zsb (s:List Int) {k:Int}:(zl s k).length=s.length+k.toNat:=by simp [zl]
theorem Ztw {O:Objs} {n i j:Nat} {L:List NR} {size left s k:Int} {x:NR} (hi:i < n) (hj:j < n) (hν:∀ y∈L,y.1 < n) (hij:i≠j) (hiν:i≠x.1) (hjν:j≠x.1)
  (ho:O i=some ⟨false,80,3,1,[.row j L.length,.val (.int .i64 size),.val (.int .i64 left)]⟩) (hoj:O j=some ⟨true,22,1,L.length,fl eN L⟩) (hx:Zv L s=some x)
  (hox:O x.1=some ⟨true,58,1,x.2.length,fl (eI .u64) x.2⟩) (hk:0≤k) (hb:(x.2.length:Int)+k≤1000000) :
  GTo Try.prog 48 [.ref i 0,.val (.int .i64 s),.val (.int .i64 k)] O n (.val (.int .i64 (x.2.length:Int)))
   (((O.upd x.1 (some ⟨true,58,1,(zl x.2 k).length,fl (eI .u64) (zl x.2 k)⟩)).upd j (some ⟨true,22,1,(Yc L s (x.1,zl x.2 k)).length,fl eN (Yc L s (x.1,zl x.2 k))⟩)).upd i (some ⟨false,80,3,1,[.row j L.length,.val (.int .i64 size),.val (.int .i64 (IntKind.i64.wrap (left - k)))]⟩)) n:=by
 refine Yi Zc Try.call48 Try.func48 rfl (Nat.le_of_ble_eq_true rfl) (by omega) fun hU => ?_
 have hxm:x∈L:=by
  unfold Zv at hx
  split at hx
  ·exact List.mem_of_getElem? hx
  cases hx
 have hx1:=hν x hxm
 have hk0:∀ k,i < n+k:=fun k=>by omega
 have hN0:O n=none:=hU.fresh _ (Nat.le_refl _)
 have hN:∀ k,O (n+k)=none:=fun k=>hU.fresh _ (Nat.le_add_right _ _)
 show W _ _ _ _ ⟨40,[],[(0,.ref i 0),(1,.val (.int .i64 s)),(2,.val (.int .i64 k))]⟩ (Zw O n []) _
 rw [Yh hU.fresh]
 refine Zj [0,1,2] (Zb Zc [] ?_)
 simp only [push_cast,seval,↓reduceIte,Za,hi,hk0,hN0,hN]
 obtain ⟨x2,hx2,ax2,bx2,cx2,h⟩:=bE (f:=eN) (K:=fun y=>some y) (r:=x) Vx (fun _=>rfl) (by decide) (by rw [hx];rfl)
 obtain rfl:x2=x:=Option.some.inj (hx2.symm.trans hx)
 have hE:(eN x2)[0]? = some (.row x2.1 x2.2.length):=rfl
 refine Zj [0,1,2,7] (Zb Zc [] ?_)
 simp only [push_cast,Nat.reduceAdd,Nat.reduceSub,Nat.reduceMul,Nat.reduceLeDiff,Nat.reduceLT,Nat.reduceEqDiff,↓reduceIte,reduceCtorEq,Int.reduceBEq,Int.reduceBNe,Nat.reduceBEq,Int.reduceLE,Int.reduceLT,Int.reduceEq,Int.reduceNe,Int.reduceNeg,Nat.reduceDiv,Nat.reduceMod,Nat.reducePow,Za,ax2,bx2,cx2,hi,hk0,hN0,hN,ho,hoj,hj,U0,Zho,hE,Yw,hox,hx1]
 refine Zi ?_
 have gu:Q9 (fl eN L) [.row x2.1 (zl x2.2 k).length] (Int.toNat s * 1)=some (fl eN (Yc L s (x2.1,zl x2.2 k))):=Ur (f:=eN) (ti:=⟨.bool,1,0,[],false⟩) (x:=(x2.1,zl x2.2 k)) (fun _=>rfl) (Kw hx)
 refine Zcb Zc (by kernel_rfl) [.plain,.low,.low,.low,.plain,.plain,.plain,.plain,.plain,.plain,.plain,.plain,.plain,.pass,.plain,.bar] (fun t=>t=i) [0,1,2,3,4,5,6,7,8,9,10,11,12,13,14,15] [.plain,.low,.low,.low,.plain,.plain,.plain,.plain,.plain,.plain,.plain,.plain,.plain,.pass,.plain,.bar] [] (by kernel_rfl) rfl ?_
 simp only [push_cast,Nat.reduceAdd,Nat.reduceSub,Nat.reduceMul,Nat.reduceLeDiff,Nat.reduceLT,Nat.reduceEqDiff,↓reduceIte,reduceCtorEq,Int.reduceBEq,Int.reduceBNe,Nat.reduceBEq,Int.reduceLE,Int.reduceLT,Int.reduceEq,Int.reduceNe,Int.reduceNeg,Nat.reduceDiv,Nat.reduceMod,Nat.reducePow,Za,ax2,bx2,cx2,hi,hk0,hN0,hN,ho,hoj,hj,U0,Zho,hE,Yw,hox,hx1,gu]
 have e1:x2.2.length+k.toNat=(zl x2.2 k).length:=by simp [zl]
 have hoj':∀ o,O.upd x2.1 o j=some ⟨true,22,1,L.length,fl eN L⟩:=fun o=>(Zn O o hjν).trans hoj
 have ho':∀ o,O.upd x2.1 o i=some ⟨false,80,3,1,[.row j L.length,.val (.int .i64 size),.val (.int .i64 left)]⟩:=fun o=>(Zn O o hiν).trans ho
 simp only [Z5b,e1]
 refine ⟨⟨hk,by rw [Zsb];omega,by rw [Zsb];omega⟩,fun t ht=>by subst ht;rw [ho' _,ho],⟨_,hoj' _,rfl,rfl⟩,?_⟩
 simp only [hoj',gu,push_cast,seval,↓reduceIte]
 have ho2:∀ o o',(O.upd x2.1 o).upd j o' i=some ⟨false,80,3,1,[.row j L.length,.val (.int .i64 size),.val (.int .i64 left)]⟩:=fun o o'=>(Zn _ o' hij).trans (ho' o)
 refine Zj [0,2,7] (Zb Zc [] ?_)
 simp only [push_cast,seval,↓reduceIte,Za,hi,ho2]
 refine Zj [6] (Zb Zc [] ?_)
 simp only [push_cast,seval,↓reduceIte,Za]
 refine Zs ?_
 refine Zu (P:=Try.prog) (.inr rfl) (((hU.set hx1 (Y7 _)).set hj (Za2 _ fun y hy => ?_)).set hi ?_) [.val (.int .i64 (x2.2.length:Int))] (Nat.le_refl _) ?_
 ·rcases List.mem_or_eq_of_mem_set hy with h | h
  ·exact hν y h
  subst h;exact hx1
 ·simp [G.unders,G.under,hj]
 simp only [push_cast,seval,↓reduceIte,Za,Try.results48]
theorem Znb {O:Objs} {n i j:Nat} {L:List NR} {size left s k:Int} {x:NR} (hi:i < n) (hj:j < n)
  (ho:O i=some ⟨false,80,3,1,[.row j L.length,.val (.int .i64 size),.val (.int .i64 left)]⟩) (hoj:O j=some ⟨true,22,1,L.length,fl eN L⟩) (hx:Zv L s=some x) :
  GTo Try.prog 47 [.ref i 0,.val (.int .i64 s),.val (.int .i64 k)] O n (.val (.bool (decide (k≤IntKind.i64.wrap (size - (x.2.length:Int)))))) O n:=by
 refine Yi Zc Try.call47 Try.func47 rfl (Nat.le_of_ble_eq_true rfl) (by omega) fun hU => ?_
 show W _ _ _ _ ⟨22,[],[(0,.ref i 0),(1,.val (.int .i64 s)),(2,.val (.int .i64 k))]⟩ (Zw O n []) _
 rw [Yh hU.fresh]
 refine Zj [0,1,2] (Zb Zc [] ?_)
 simp only [push_cast,seval,↓reduceIte,Za,hi]
 obtain ⟨x2,hx2,ax2,bx2,cx2,h⟩:=bE (f:=eN) (K:=fun y=>some y) (r:=x) Vx (fun _=>rfl) (by decide) (by rw [hx];rfl)
 obtain rfl:x2=x:=Option.some.inj (hx2.symm.trans hx)
 have hE:(eN x2)[0]? = some (.row x2.1 x2.2.length):=rfl
 have hlr:∀ i k,Yw O (.row i k)=True:=fun i k=>by simp [Yw]
 refine Zj [6] (Y2 Zc (by kernel_rfl) [] (by kernel_rfl) ?_)
 simp only [push_cast,Nat.reduceAdd,Nat.reduceSub,Nat.reduceMul,Nat.reduceLeDiff,Nat.reduceLT,Nat.reduceEqDiff,↓reduceIte,reduceCtorEq,Int.reduceBEq,Int.reduceBNe,Nat.reduceBEq,Int.reduceLE,Int.reduceLT,Int.reduceEq,Int.reduceNe,Int.reduceNeg,Nat.reduceDiv,Nat.reduceMod,Nat.reducePow,Za,ax2,bx2,cx2,hi,ho,hoj,hj,U0,Zho,hE,hlr]
 refine Zs ?_
 refine Zu (P:=Try.prog) (.inr rfl) hU [.val (.bool (decide (k≤IntKind.i64.wrap (size - (x2.2.length:Int)))))] (Nat.le_refl _) ?_
 simp only [push_cast,seval,↓reduceIte,Za,Try.results47]
theorem Z16 {O:Objs} {n i j:Nat} {L:List NR} {size left k:Int} (hi:i < n) (hj:j < n)
  (ho:O i=some ⟨false,80,3,1,[.row j L.length,.val (.int .i64 size),.val (.int .i64 left)]⟩) (hoj:O j=some ⟨true,22,1,L.length,fl eN L⟩) (hk:k < 0∨left < k) :
  GTo Try.prog 24 [.ref i 0,.val (.int .i64 k)] O n (.tup [.val (.int .i64 0),.val (.int .i64 0),.val (.bool false)]) O n:=by
 refine Yi Zc Try.call24 Try.func24 rfl (Nat.le_of_ble_eq_true rfl) (by omega) fun hU => ?_
 have hlr:∀ i k,Yw O (.row i k)=True:=fun i k=>by simp [Yw]
 have hN0:O n=none:=hU.fresh _ (Nat.le_refl _)
 have hN:∀ k,O (n+k)=none:=fun k=>hU.fresh _ (Nat.le_add_right _ _)
 show W _ _ _ _ ⟨61,[],[(0,.ref i 0),(1,.val (.int .i64 k))]⟩ (Zw O n []) _
 rw [Yh hU.fresh]
 refine Zj [0,1] (Zb Zc [] ?_)
 simp only [push_cast,seval,↓reduceIte,Za,hi,hj,ho,hoj,hlr]
 refine Zi ?_
 refine Yk (E':=⟨61,[],[(0,.ref i 0),(1,.val (.int .i64 k)),(21,.val (.bool true))]⟩) (O':=O) (n0:=n) ?_ ?_
 ·by_cases c:k < 0
  ·have c2:decide (k < 0)=true:=decide_eq_true c
   refine Zb Zc (Xl::Xl::Z2l []) ?_
   simp only [push_cast,seval,↓reduceIte,Za,hi,hj,ho,hoj,hlr,c2]
   refine And.intro rfl (Yu hU rfl ?_)
   simp only [push_cast,seval,↓reduceIte,Za,hi,hj,ho,hoj,hlr]
  have c2:decide (k < 0)=false:=decide_eq_false c
  have c3:decide (left < k)=true:=decide_eq_true (hk.resolve_left c)
  refine Zb Zc (Z0x []) ?_
  simp only [push_cast,seval,↓reduceIte,Za,hi,hj,ho,hoj,hlr,c2,c3]
  refine And.intro rfl (Yu hU rfl ?_)
  simp only [push_cast,seval,↓reduceIte,Za,hi,hj,ho,hoj,hlr]
 refine Zl (t:=true) rfl (fun c15 => ?_) (fun c15=>by cases c15)
 refine Zj [4,5,6] (Zb Zc [] ?_)
 simp only [push_cast,seval,↓reduceIte,Za]
 refine Zs ?_
 try simp only [Zh,Zf]
 refine Zu (P:=Try.prog) (.inr rfl) hU [.val (.int .i64 0),.val (.int .i64 0),.val (.bool false)] (Nat.le_refl _) ?_
 simp only [push_cast,seval,↓reduceIte,Za,Try.results24]
theorem Z15 {O:Objs} {n i j:Nat} {L:List NR} {size left k:Int} {x:NR} (hi:i < n) (hj:j < n) (hν:∀ y∈L,y.1 < n) (hij:i≠j) (hiν:i≠x.1) (hjν:j≠x.1)
  (ho:O i=some ⟨false,80,3,1,[.row j L.length,.val (.int .i64 size),.val (.int .i64 left)]⟩) (hoj:O j=some ⟨true,22,1,L.length,fl eN L⟩) (hx:Zv L ((L.length:Int) - 1)=some x)
  (hox:O x.1=some ⟨true,58,1,x.2.length,fl (eI .u64) x.2⟩) (hk:0≤k) (hk2:k≤left) (hb:(x.2.length:Int)+k≤1000000) (hL:L.length≤1000000)
  (hf:k≤IntKind.i64.wrap (size - (x.2.length:Int))∨16≤L.length) :
  GTo Try.prog 24 [.ref i 0,.val (.int .i64 k)] O n (.tup [.val (.int .i64 ((L.length:Int) - 1)),.val (.int .i64 (x.2.length:Int)),.val (.bool true)])
   (((O.upd x.1 (some ⟨true,58,1,(zl x.2 k).length,fl (eI .u64) (zl x.2 k)⟩)).upd j (some ⟨true,22,1,(Yc L ((L.length:Int) - 1) (x.1,zl x.2 k)).length,fl eN (Yc L ((L.length:Int) - 1) (x.1,zl x.2 k))⟩)).upd i (some ⟨false,80,3,1,[.row j L.length,.val (.int .i64 size),.val (.int .i64 (IntKind.i64.wrap (left - k)))]⟩)) n:=by
 have hxm:x∈L:=by
  unfold Zv at hx
  split at hx
  ·exact List.mem_of_getElem? hx
  cases hx
 have hx1:=hν x hxm
 have h0:0 < L.length:=List.length_pos_of_mem hxm
 refine Yi Zc Try.call24 Try.func24 rfl (Nat.le_of_ble_eq_true rfl) (by omega) fun hU => ?_
 have hlr:∀ i k,Yw O (.row i k)=True:=fun i k=>by simp [Yw]
 have hN0:O n=none:=hU.fresh _ (Nat.le_refl _)
 have hN:∀ k,O (n+k)=none:=fun k=>hU.fresh _ (Nat.le_add_right _ _)
 show W _ _ _ _ ⟨61,[],[(0,.ref i 0),(1,.val (.int .i64 k))]⟩ (Zw O n []) _
 rw [Yh hU.fresh]
 refine Zj [0,1] (Zb Zc [] ?_)
 simp only [push_cast,seval,↓reduceIte,Za,hi,hj,ho,hoj,hlr]
 refine Zi ?_
 refine Yk (E':=⟨61,[],[(0,.ref i 0),(1,.val (.int .i64 k)),(21,.val (.bool false))]⟩) (O':=O) (n0:=n) ?_ ?_
 ·have c2:decide (k < 0)=false:=decide_eq_false (by omega)
  have c3:decide (left < k)=false:=decide_eq_false (by omega)
  refine Zb Zc (Z0x []) ?_
  simp only [push_cast,seval,↓reduceIte,Za,hi,hj,ho,hoj,hlr,c2,c3]
  refine And.intro rfl (Yu hU rfl ?_)
  simp only [push_cast,seval,↓reduceIte,Za,hi,hj,ho,hoj,hlr]
 refine Zl (t:=false) rfl (fun c15=>by cases c15) (fun c15 => ?_)
 refine Zp ?_
 try simp only [Zh,Zf]
 have hw:IntKind.i64.wrap ((L.length:Int) - 1)=(L.length:Int) - 1:=X3 (by omega)
 refine Zj [0,1,7] (Zb Zc [] ?_)
 simp only [push_cast,seval,↓reduceIte,Za,hi,hj,ho,hoj,hlr,hw]
 refine Yk (E':=⟨61,[],[(0,.ref i 0),(1,.val (.int .i64 k)),(7,.val (.int .i64 ((L.length:Int) - 1)))]⟩) (O':=O) (n0:=n) ?_ ?_
 ·have c8:decide ((L.length:Int) - 1 < 0)=false:=decide_eq_false (by omega)
  refine Yk (E':=⟨61,[],[(0,.ref i 0),(1,.val (.int .i64 k)),(7,.val (.int .i64 ((L.length:Int) - 1))),(44,.val (.bool false))]⟩) (O':=O) (n0:=n) ?_ ?_
  ·by_cases c:k≤IntKind.i64.wrap (size - (x.2.length:Int))
   ·have c9:decide (k≤IntKind.i64.wrap (size - (x.2.length:Int)))=true:=decide_eq_true c
    refine Zb Zc (Z4m (Z2l [Xl])) ?_
    simp only [push_cast,seval,↓reduceIte,Za,hi,hj,ho,hoj,hlr,c8,c9]
    refine (Znb hi hj ho hoj hx).then ?_
    simp only [push_cast,seval,↓reduceIte,Za,hi,hj,ho,hoj,hlr,c8,c9]
    refine And.intro rfl (Yu hU rfl ?_)
    simp only [push_cast,seval,↓reduceIte,Za,hi,hj,ho,hoj,hlr]
   have c9:decide (k≤IntKind.i64.wrap (size - (x.2.length:Int)))=false:=decide_eq_false c
   have c10:decide ((L.length:Int) < 16)=false:=decide_eq_false (by have:=hf.resolve_left c;omega)
   refine Zb Zc (Zv1 []) ?_
   simp only [push_cast,seval,↓reduceIte,Za,hi,hj,ho,hoj,hlr,c8,c9,c10]
   refine (Znb hi hj ho hoj hx).then ?_
   simp only [push_cast,seval,↓reduceIte,Za,hi,hj,ho,hoj,hlr,c8,c9,c10]
   refine And.intro rfl (Yu hU rfl ?_)
   simp only [push_cast,seval,↓reduceIte,Za,hi,hj,ho,hoj,hlr]
  refine Zl (t:=false) rfl (fun c15=>by cases c15) (fun c15 => ?_)
  refine Zp ?_
  refine And.intro rfl (Yu hU rfl ?_)
  simp only [push_cast,seval,↓reduceIte,Za,hi,hj,ho,hoj,hlr]
 refine Zi ?_
 refine Zb Zc [] ?_
 simp only [push_cast,seval,↓reduceIte,Za,hi,hj,ho,hoj,hlr]
 refine (Ztw hi hj hν hij hiν hjν ho hoj hx hox hk hb).then ?_
 simp only [push_cast,seval,↓reduceIte,Za]
 refine Zs ?_
 try simp only [Zh,Zf]
 refine Zu (P:=Try.prog) (.inr rfl) (((hU.set hx1 (Y7 _)).set hj (Za2 _ fun y hy => ?_)).set hi ?_) [.val (.int .i64 ((L.length:Int) - 1)),.val (.int .i64 (x.2.length:Int)),.val (.bool true)] (Nat.le_refl _) ?_
 ·rcases List.mem_or_eq_of_mem_set hy with h | h
  ·exact hν y h
  subst h;exact hx1
 ·simp [G.unders,G.under,hj]
 simp only [push_cast,seval,↓reduceIte,Za,Try.results24]
theorem Zth {O:Objs} {n i j:Nat} {a b b0 c d e f:Option GObj} (hin:i≠n) (hjn:j≠n) (hij:i≠j):(((((((O.upd j e).upd i f).upd n d).upd j b0).upd n a).upd j b).upd i c)=((O.upd n a).upd j b).upd i c:=by
 funext t
 unfold Objs.upd
 by_cases h1:t=i
 ·rw [if_pos h1,if_pos h1]
 by_cases h2:t=j
 ·simp only [if_neg h1,if_pos h2]
 by_cases h3:t=n
 ·simp only [if_neg h1,if_neg h2,if_pos h3]
 simp only [if_neg h1,if_neg h2,if_neg h3]
theorem Z0g {O:Objs} {n i j:Nat} {L:List NR} {size left k:Int} (hi:i < n) (hj:j < n) (hν:∀ y∈L,y.1 < n) (hij:i≠j)
  (ho:O i=some ⟨false,80,3,1,[.row j L.length,.val (.int .i64 size),.val (.int .i64 left)]⟩) (hoj:O j=some ⟨true,22,1,L.length,fl eN L⟩) (hk:0≤k) (hk2:k≤left) (hb:k≤1000000) (hL:L.length≤1000000)
  (hf:L.length=0∨L.length < 16∧∃ x,Zv L ((L.length:Int) - 1)=some x∧¬ k≤IntKind.i64.wrap (size - (x.2.length:Int))) :
  GTo Try.prog 24 [.ref i 0,.val (.int .i64 k)] O n (.tup [.val (.int .i64 (L.length:Int)),.val (.int .i64 0),.val (.bool true)])
   (((O.upd n (some ⟨true,58,1,(zl [] k).length,fl (eI .u64) (zl [] k)⟩)).upd j (some ⟨true,22,1,(L++[(n,zl [] k)]).length,fl eN (L++[(n,zl [] k)])⟩)).upd i (some ⟨false,80,3,1,[.row j (L++[(n,zl [] k)]).length,.val (.int .i64 size),.val (.int .i64 (IntKind.i64.wrap (left - k)))]⟩)) (n+1):=by
 refine Yi Zc Try.call24 Try.func24 rfl (Nat.le_of_ble_eq_true rfl) (by omega) fun hU => ?_
 have hlr:∀ i k,Yw O (.row i k)=True:=fun i k=>by simp [Yw]
 have hN0:O n=none:=hU.fresh _ (Nat.le_refl _)
 have hN:∀ k,O (n+k)=none:=fun k=>hU.fresh _ (Nat.le_add_right _ _)
 show W _ _ _ _ ⟨61,[],[(0,.ref i 0),(1,.val (.int .i64 k))]⟩ (Zw O n []) _
 rw [Yh hU.fresh]
 refine Zj [0,1] (Zb Zc [] ?_)
 simp only [push_cast,seval,↓reduceIte,Za,hi,hj,ho,hoj,hlr]
 refine Zi ?_
 refine Yk (E':=⟨61,[],[(0,.ref i 0),(1,.val (.int .i64 k)),(21,.val (.bool false))]⟩) (O':=O) (n0:=n) ?_ ?_
 ·have c2:decide (k < 0)=false:=decide_eq_false (by omega)
  have c3:decide (left < k)=false:=decide_eq_false (by omega)
  refine Zb Zc (Z0x []) ?_
  simp only [push_cast,seval,↓reduceIte,Za,hi,hj,ho,hoj,hlr,c2,c3]
  refine And.intro rfl (Yu hU rfl ?_)
  simp only [push_cast,seval,↓reduceIte,Za,hi,hj,ho,hoj,hlr]
 refine Zl (t:=false) rfl (fun c15=>by cases c15) (fun c15 => ?_)
 refine Zp ?_
 try simp only [Zh,Zf]
 have hw:IntKind.i64.wrap ((L.length:Int) - 1)=(L.length:Int) - 1:=X3 (by omega)
 refine Zj [0,1,7] (Zb Zc [] ?_)
 simp only [push_cast,seval,↓reduceIte,Za,hi,hj,ho,hoj,hlr,hw]
 refine Yk (E':=⟨61,[],[(0,.ref i 0),(1,.val (.int .i64 k)),(7,.val (.int .i64 (L.length:Int)))]⟩) (O':=(((O.upd j (some ⟨true,22,1,L.length+1,fl eN L++[.val (.slice none 0 0)]⟩)).upd i (some ⟨false,80,3,1,[.row j (L.length+1),.val (.int .i64 size),.val (.int .i64 left)]⟩)).upd n (some ⟨true,58,1,0,[]⟩)).upd j (some ⟨true,22,1,L.length+1,fl eN (L++[(n,[])])⟩)) (n0:=n+1) ?_ ?_
 ·refine Yk (E':=⟨61,[],[(0,.ref i 0),(1,.val (.int .i64 k)),(7,.val (.int .i64 ((L.length:Int) - 1))),(44,.val (.bool true))]⟩) (O':=O) (n0:=n) ?_ ?_
  ·by_cases c:L.length=0
   ·have c8:decide ((L.length:Int) - 1 < 0)=true:=decide_eq_true (by omega)
    refine Zb Zc (Z3k []) ?_
    simp only [push_cast,seval,↓reduceIte,Za,hi,hj,ho,hoj,hlr,c8]
    refine And.intro rfl (Yu hU rfl ?_)
    simp only [push_cast,seval,↓reduceIte,Za,hi,hj,ho,hoj,hlr]
   obtain ⟨hlt,x,hx,hnf⟩:=hf.resolve_left c
   have c8:decide ((L.length:Int) - 1 < 0)=false:=decide_eq_false (by omega)
   have c9:decide (k≤IntKind.i64.wrap (size - (x.2.length:Int)))=false:=decide_eq_false hnf
   have c10:decide ((L.length:Int) < 16)=true:=decide_eq_true (by omega)
   refine Zb Zc (Zv1 []) ?_
   simp only [push_cast,seval,↓reduceIte,Za,hi,hj,ho,hoj,hlr,c8,c9,c10]
   refine (Znb hi hj ho hoj hx).then ?_
   simp only [push_cast,seval,↓reduceIte,Za,hi,hj,ho,hoj,hlr,c8,c9,c10]
   refine And.intro rfl (Yu hU rfl ?_)
   simp only [push_cast,seval,↓reduceIte,Za,hi,hj,ho,hoj,hlr]
  refine Zl (t:=true) rfl (fun c15 => ?_) (fun c15=>by cases c15)
  refine Zi ?_
  have h5:∀ o,O.upd n o j=some ⟨true,22,1,L.length,fl eN L⟩:=fun o=>(Zn O o (by omega)).trans hoj
  have h6:∀ o o',(O.upd n o).upd j o' i=some ⟨false,80,3,1,[.row j L.length,.val (.int .i64 size),.val (.int .i64 left)]⟩:=fun o o'=>(Zn _ o' hij).trans ((Zn O o (by omega)).trans ho)
  refine Zb Zc [] ?_
  simp only [push_cast,seval,↓reduceIte,Za,hi,hj,ho,hoj,hlr,hN0,hN,h5,h6]
  refine ⟨⟨by omega,by omega⟩,?_⟩
  have hU1:Und ((O.upd j (some ⟨true,22,1,L.length+1,fl eN L++[.val (.slice none 0 0)]⟩)).upd i (some ⟨false,80,3,1,[.row j (L.length+1),.val (.int .i64 size),.val (.int .i64 left)]⟩)) n :=
   (hU.set hj (Zmx _ _ (Za2 _ hν) (by simp [G.unders,G.under]))).set hi (by simp [G.unders,G.under,hj])
  refine Zbk (E':=⟨61,[],[(0,.ref i 0),(1,.val (.int .i64 k)),(7,.val (.int .i64 ((L.length:Int) - 1)))]⟩) (O':=((O.upd j (some ⟨true,22,1,L.length+1,fl eN L++[.val (.slice none 0 0)]⟩)).upd i (some ⟨false,80,3,1,[.row j (L.length+1),.val (.int .i64 size),.val (.int .i64 left)]⟩))) (n':=n) (Fit2.of ⟨rfl,Znm hU1 fun t o ht => ?_,?_⟩ (Nat.le_refl _)) ?_
  ·by_cases e1:t=i
   ·subst e1;rw [Zo] at ht ⊢;exact ht
   rw [Zn _ _ e1] at ht ⊢
   by_cases e2:t=j
   ·subst e2;rw [Zo] at ht ⊢;exact ht
   rw [Zn _ _ e2] at ht ⊢
   by_cases e3:t=n
   ·subst e3;rw [hN0] at ht;cases ht
   rw [Zn _ _ e3];exact ht
  ·simp only [push_cast,seval,↓reduceIte,Za,hi,hj]
  refine Zuy (p:=j) (k:=L.length) (q:=⟨true,22,1,L.length+1,fl eN L++[.val (.slice none 0 0)]⟩) 58 1 (by rw [Zn _ _ (Ne.symm hij),Zo]) (by rw [List.getElem?_append_right (by rw [U0];omega),U0];simp) ?_
  have hset:(fl eN L++[G.val (.slice none 0 0)]).set L.length (.row n 0)=fl eN (L++[(n,[])]):=by
   rw [List.set_append_right _ _ (by rw [U0];omega),U0,← Zfk];simp [eN]
  simp only [hset]
  have hlt:∀ y∈L++[(n,([]:List Int))],y.1 < n+1:=fun y hy=>by
   rcases List.mem_append.1 hy with h | h
   ·have:=hν y h;omega
   rw [List.mem_singleton.1 h];exact Nat.lt_succ_self _
  have hU2:=((hU1.more (Nat.le_succ n)).set (q:=⟨true,58,1,0,[]⟩) (Nat.lt_succ_self n) (by simp [G.unders])).set (q:=⟨true,22,1,L.length+1,fl eN (L++[(n,[])])⟩) (i:=j) (by omega) (Za2 _ hlt)
  have hi1:i < n+1:=by omega
  refine Zb Zc [] ?_
  have hw2:IntKind.i64.wrap ((L.length:Int) - 1+1)=(L.length:Int):=by rw [X3 (by omega)];omega
  simp only [push_cast,seval,↓reduceIte,Za,hw2]
  simp only [Zfk]
  refine And.intro rfl (Yf hU2 (Nat.le_succ n) rfl ?_)
  simp only [push_cast,seval,↓reduceIte,Za,hi1]
 refine Zi ?_
 have hi1:i < n+1:=by omega
 refine Zb Zc [] ?_
 simp only [push_cast,seval,↓reduceIte,Za,hi1]
 simp only [Zfk]
 have hin:i≠n:=by omega
 have hjn:j≠n:=by omega
 have hlt:∀ y∈L++[(n,([]:List Int))],y.1 < n+1:=fun y hy=>by
  rcases List.mem_append.1 hy with h | h
  ·have:=hν y h;omega
  rw [List.mem_singleton.1 h];exact Nat.lt_succ_self _
 have hlen:(L++[(n,([]:List Int))]).length=L.length+1:=by simp
 have hget:Zv (L++[(n,([]:List Int))]) (L.length:Int)=some (n,[]):=by
  unfold Zv;rw [if_pos (by omega),Int.toNat_natCast,List.getElem?_append_right (Nat.le_refl _)];simp
 have g:=Ztw (O:=(((O.upd j (some ⟨true,22,1,L.length+1,fl eN L++[.val (.slice none 0 0)]⟩)).upd i (some ⟨false,80,3,1,[.row j (L.length+1),.val (.int .i64 size),.val (.int .i64 left)]⟩)).upd n (some ⟨true,58,1,0,[]⟩)).upd j (some ⟨true,22,1,L.length+1,fl eN (L++[(n,[])])⟩)) (n:=n+1) (i:=i) (j:=j) (L:=L++[(n,[])]) (size:=size) (left:=left) (s:=(L.length:Int)) (k:=k) (x:=(n,[])) (by omega) (by omega) hlt hij hin hjn
  (by rw [Zn _ _ hij,Zn _ _ hin,Zo,hlen]) (by rw [Zo,hlen]) hget (by rw [Zn _ _ (Ne.symm hjn),Zo];rfl) hk (by simp;omega)
 refine g.then ?_
 simp only [push_cast,seval,↓reduceIte,Za]
 have hs:Yc (L++[(n,([]:List Int))]) (L.length:Int) (n,zl [] k)=L++[(n,zl [] k)]:=by
  unfold Yc;rw [Int.toNat_natCast,List.set_append_right _ _ (Nat.le_refl _)];simp
 have hlt2:∀ y∈L++[(n,zl [] k)],y.1 < n+1:=fun y hy=>by
  rcases List.mem_append.1 hy with h | h
  ·have:=hν y h;omega
  rw [List.mem_singleton.1 h];exact Nat.lt_succ_self _
 simp only [hs,Zfk,Zth hin hjn hij]
 refine Zs ?_
 try simp only [Zh,Zf]
 refine Zu (P:=Try.prog) (.inr rfl) ((((hU.more (Nat.le_succ n)).set (Nat.lt_succ_self n) (Y7 _)).set (by omega) (Za2 _ hlt2)).set (by omega) ?_) [.val (.int .i64 (L.length:Int)),.val (.int .i64 0),.val (.bool true)] (Nat.le_succ _) ?_
 ·have:j < n+1:=by omega
  simp [G.unders,G.under,this]
 simp only [push_cast,seval,↓reduceIte,Za,Try.results24]
def Zst:List Oper→List Nat→List Nat
 | [],acc=>acc
 | o::l,acc=>Zst l (acc++[(o.after.toList.filter fun e=>Region.binds .any e).foldr (fun e m=>m ||| (1 <<< e.on ||| acc.getD e.on 0)) 0])
def Zv7 (ops:List Oper):Bool :=
 let B:=Zst ops []
 (List.range ops.length).all fun i=>match ops[i]? with
  | none=>true
  | some o=>(o.after.toList.all fun e => !Region.binds .any e || e.on < i) &&
   (List.range i).all fun j=>match ops[j]? with
    | none=>true
    | some y=>Zf9 ops o y || (B.getD i 0).testBit j
theorem Zzd (acc:List (List Nat)) (am:List Nat) (h:∀ i j,(am.getD i 0).testBit j=(acc.getD i []).contains j) (L:List Edge) (j:Nat) :
  (L.foldr (fun e m=>m ||| (1 <<< e.on ||| am.getD e.on 0)) 0).testBit j=(L.flatMap fun e=>e.on::acc.getD e.on []).contains j:=by
 induction L with
 | nil=>simp
 | cons e L ih =>
  rw [List.foldr_cons,List.flatMap_cons,Nat.testBit_or,Nat.testBit_or,ih,h,Nat.one_shiftLeft,Nat.testBit_two_pow,Bool.eq_iff_iff]
  simp only [Bool.or_eq_true,decide_eq_true_eq,List.contains_iff_mem,List.cons_append,List.mem_cons,List.mem_append]
  constructor
  ·rintro (h | h | h)
   ·exact .inr (.inr h)
   ·exact .inl h.symm
   exact .inr (.inl h)
  rintro (h | h | h)
  ·exact .inr (.inl h.symm)
  ·exact .inr (.inr h)
  exact .inl h
theorem Zu1:∀ (l:List Oper) (acc:List (List Nat)) (am:List Nat),am.length=acc.length→(∀ i j,(am.getD i 0).testBit j=(acc.getD i []).contains j)→∀ i j,((Zst l am).getD i 0).testBit j=((Gb l acc).getD i []).contains j
 | [],acc,am,_,h,i,j=>by simpa [Gb,Zst] using h i j
 | o::l,acc,am,hl,h,i,j=>by
  rw [Gb,Zst]
  refine Zu1 l _ _ (by simp [hl]) (fun i j => ?_) i j
  rcases Nat.lt_trichotomy i acc.length with hi | hi | hi
  ·have h1:=h i j
   simp only [List.getD_eq_getElem?_getD] at h1 ⊢
   rw [List.getElem?_append_left (by omega),List.getElem?_append_left hi];exact h1
  ·subst hi
   simp only [List.getD_eq_getElem?_getD,List.getElem?_append_right (Nat.le_refl _),Nat.sub_self,← hl]
   have:=Zzd acc am h (o.after.toList.filter fun e=>Region.binds .any e) j
   simpa [List.getD_eq_getElem?_getD,hl] using this
  simp only [List.getD_eq_getElem?_getD]
  rw [List.getElem?_eq_none (by simp;omega),List.getElem?_eq_none (by simp;omega)];simp
theorem Xz {ops:List Oper} (h:Zv7 ops=true):Zkp ops=true:=by
 have key:∀ i j,((Zst ops []).getD i 0).testBit j=((Gb ops []).getD i []).contains j:=Zu1 ops [] [] rfl (fun i j=>by simp)
 unfold Zv7 at h
 unfold Zkp
 simp only [key] at h
 exact h
def Qa (segs:List (List Int)):List Int:=(segs[segs.length - 1]?).getD []
open Classical in
noncomputable def Yp (segs:List (List Int)) (size left k:Int):Int×Int×Bool×List (List Int)×Int :=
 if k < 0∨left < k then (0,0,false,segs,left)
 else if segs.length=0∨segs.length < 16∧¬ k≤IntKind.i64.wrap (size - ((Qa segs).length:Int)) then ((segs.length:Int),0,true,segs++[zl [] k],IntKind.i64.wrap (left - k))
 else ((segs.length:Int) - 1,((Qa segs).length:Int),true,segs.set (segs.length - 1) (zl (Qa segs) k),IntKind.i64.wrap (left - k))
theorem X1 {α:Type} {L:List α} {s:Int} {x y:α} (h:Zv L s=some x):Zv (Yc L s y) s=some y:=by
 unfold Zv Yc at *
 split at h
 ·rename_i c
  obtain ⟨hl,_⟩:=List.getElem?_eq_some_iff.1 h
  rw [if_pos c,List.getElem?_set_self hl]
 cases h
theorem Zoy {α:Type} {L:List α} {s:Int} {x:α} (h:Zv L s=some x):Yc L s x=L:=by
 unfold Zv Yc at *
 split at h
 ·obtain ⟨hl,he⟩:=List.getElem?_eq_some_iff.1 h
  rw [← he];exact List.set_getElem_self hl
 cases h
theorem Zz0 {α:Type} (L:List α) (s:Int) (x y:α):Yc (Yc L s x) s y=Yc L s y:=by simp [Yc]
theorem Zy6 (s:List Int):zl s 0=s:=by simp [zl]
theorem Z3c (s:List Int) {t:Int} (h:0≤t):zl s t++[0]=zl s (t+1):=by
 unfold zl
 rw [show (t+1).toNat=t.toNat+1 by omega,List.replicate_succ',List.append_assoc]
noncomputable def Z1y (k t:Int):Option (Int ⊕ Int):=if t < 0 then none else if t < k then some (.inl (t+1)) else some (.inr t)
theorem Zz7 {k:Int} (h:0≤k):Zy (Z1y k) 0=some k:=by
 obtain ⟨r,h1,h2⟩:=Zh7 (step:=Z1y k) (fun t=>0≤t∧t≤k) (fun t=>(k - t).toNat) (fun r=>r=k) (fun t ht=>by
  unfold Z1y
  by_cases c:t < k
  ·exact .inl ⟨_,(if_neg (by omega)).trans (if_pos c),⟨by omega,by omega⟩,by omega⟩
  exact .inr ⟨_,(if_neg (by omega)).trans (if_neg c),by omega⟩) 0 ⟨Int.le_refl _,h⟩
 rw [h1,h2]
theorem Zwu {O:Objs} {n i j:Nat} {L:List NR} {size most used s k:Int} {x:NR} (hi:i < n) (hj:j < n) (hν:∀ y∈L,y.1 < n) (hij:i≠j) (hiν:i≠x.1) (hjν:j≠x.1)
  (ho:O i=some ⟨false,76,4,1,[.row j L.length,.val (.int .i64 size),.val (.int .i64 most),.val (.int .i64 used)]⟩) (hoj:O j=some ⟨true,22,1,L.length,fl eN L⟩) (hx:Zv L s=some x)
  (hox:O x.1=some ⟨true,58,1,x.2.length,fl (eI .u64) x.2⟩) (hk:0≤k) (hb:(x.2.length:Int)+k≤1000000) :
  GTo Try.prog 97 [.ref i 0,.val (.int .i64 s),.val (.int .i64 k)] O n (.val (.int .i64 (x.2.length:Int)))
   (((O.upd x.1 (some ⟨true,58,1,(zl x.2 k).length,fl (eI .u64) (zl x.2 k)⟩)).upd j (some ⟨true,22,1,L.length,fl eN (Yc L s (x.1,zl x.2 k))⟩)).upd i (some ⟨false,76,4,1,[.row j L.length,.val (.int .i64 size),.val (.int .i64 most),.val (.int .i64 (IntKind.i64.wrap (used+k)))]⟩)) n:=by
 refine Yi Zc Try.call97 Try.func97 rfl (Nat.le_of_ble_eq_true rfl) (by omega) fun hU => ?_
 have hxm:x∈L:=by
  unfold Zv at hx
  split at hx
  ·exact List.mem_of_getElem? hx
  cases hx
 have hx1:=hν x hxm
 have hN0:O n=none:=hU.fresh _ (Nat.le_refl _)
 have hN:∀ k,O (n+k)=none:=fun k=>hU.fresh _ (Nat.le_add_right _ _)
 have hlr:∀ i k,Yw O (.row i k)=True:=fun i k=>by simp [Yw]
 show W _ _ _ _ ⟨47,[],[(0,.ref i 0),(1,.val (.int .i64 s)),(2,.val (.int .i64 k))]⟩ (Zw O n []) _
 rw [Yh hU.fresh]
 refine Zj [0,1,2] (Zb Zc [] ?_)
 simp only [push_cast,seval,↓reduceIte,Za,hi,hN0,hN]
 obtain ⟨x2,hx2,ax2,bx2,cx2,h⟩:=bE (f:=eN) (K:=fun y=>some y) (r:=x) Vx (fun _=>rfl) (by decide) (by rw [hx];rfl)
 obtain rfl:x2=x:=Option.some.inj (hx2.symm.trans hx)
 have hE:(eN x2)[0]? = some (.row x2.1 x2.2.length):=rfl
 refine Zj [0,1,2,7] (Zb Zc [] ?_)
 simp only [push_cast,Nat.reduceAdd,Nat.reduceSub,Nat.reduceMul,Nat.reduceLeDiff,Nat.reduceLT,Nat.reduceEqDiff,↓reduceIte,reduceCtorEq,Int.reduceBEq,Int.reduceBNe,Nat.reduceBEq,Int.reduceLE,Int.reduceLT,Int.reduceEq,Int.reduceNe,Int.reduceNeg,Nat.reduceDiv,Nat.reduceMod,Nat.reducePow,Za,ax2,bx2,cx2,hi,hN0,hN,ho,hoj,hj,U0,Zho,hE,Yw,hox,hx1]
 refine Zi ?_
 refine Zj [0,1,2,7,8] (Zb Zc [] ?_)
 simp only [push_cast,seval,↓reduceIte,Za,hi,hN0,hN]
 obtain ⟨OX,hOX⟩:∃ OX:Int→Objs,OX=fun t=>(O.upd x2.1 (some ⟨true,58,1,(zl x2.2 t).length,fl (eI .u64) (zl x2.2 t)⟩)).upd j (some ⟨true,22,1,L.length,fl eN (Yc L s (x2.1,zl x2.2 t))⟩):=⟨_,rfl⟩
 have hlS:∀ t,(Yc L s (x2.1,zl x2.2 t)).length=L.length:=fun t=>by simp [Yc]
 have gS:∀ t,Zv (Yc L s (x2.1,zl x2.2 t)) s=some (x2.1,zl x2.2 t):=fun t=>X1 hx
 have hOi:∀ t,OX t i=some ⟨false,76,4,1,[.row j L.length,.val (.int .i64 size),.val (.int .i64 most),.val (.int .i64 used)]⟩:=fun t=>by rw [hOX];exact (Zn _ _ hij).trans ((Zn _ _ hiν).trans ho)
 have hOj:∀ t,OX t j=some ⟨true,22,1,L.length,fl eN (Yc L s (x2.1,zl x2.2 t))⟩:=fun t=>by rw [hOX];exact Zo _ _ _
 have hOx:∀ t,OX t x2.1=some ⟨true,58,1,(zl x2.2 t).length,fl (eI .u64) (zl x2.2 t)⟩:=fun t=>by rw [hOX];exact (Zn _ _ (Ne.symm hjν)).trans (Zo _ _ _)
 have hUX:∀ t,Und (OX t) n:=fun t=>by
  rw [hOX]
  exact (hU.set hx1 (Y7 _)).set hj (Za2 _ fun y hy=>by
   rcases List.mem_or_eq_of_mem_set hy with h | h
   ·exact hν y h
   subst h;exact hx1)
 have h0:OX 0=O:=by
  have e1:Yc L s (x2.1,x2.2)=L:=Zoy hx
  rw [hOX]
  funext t
  show ((O.upd _ _).upd j _) t=O t
  unfold Objs.upd
  by_cases c1:t=j
  ·rw [if_pos c1,Zy6,e1,c1,hoj]
  rw [if_neg c1]
  by_cases c2:t=x2.1
  ·rw [if_pos c2,Zy6,c2,hox]
  rw [if_neg c2]
 have h2:∀ {E c Q},W Try.prog n c Q E (OX 0) n→W Try.prog n c Q E O n:=fun h=>by rw [h0] at h;exact h
 refine h2 ?_
 refine Xb (E':=⟨47,[],[(0,.ref i 0),(1,.val (.int .i64 s)),(2,.val (.int .i64 k)),(7,.val (.int .i64 (x2.2.length:Int)))]⟩) (O':=OX k) (n0:=n) ?_ ?_
 ·refine X7 (Zz7 hk) (fun t=>⟨47,[],[(0,.ref i 0),(1,.val (.int .i64 s)),(2,.val (.int .i64 k)),(7,.val (.int .i64 (x2.2.length:Int))),(8,.val (.int .i64 t))]⟩) OX (fun r=>JX 0 n ⟨47,[],[(0,.ref i 0),(1,.val (.int .i64 s)),(2,.val (.int .i64 k)),(7,.val (.int .i64 (x2.2.length:Int)))]⟩ (OX r) n) ?_
  intro t x0_ hs0_
  unfold Z1y at hs0_
  have ht0:0≤t:=by
   by_cases c:t < 0
   ·rw [if_pos c] at hs0_;cases hs0_
   omega
  rw [if_neg (by omega)] at hs0_
  refine Zi ?_
  refine Zj [0,1,2,7,8,19] (Zb Zc [] ?_)
  simp only [push_cast,seval,↓reduceIte,Za,hi]
  refine Zl (t:=(decide (t < k))) rfl (fun c8 => ?_) (fun c8 => ?_)
  ·have c8':t < k:=of_decide_eq_true c8
   rw [if_pos c8'] at hs0_
   have hs0_:=Option.some.inj hs0_;subst hs0_
   refine Zp ?_
   try simp only [Zh,Zf]
   refine Zbk (E':=⟨47,[],[(0,.ref i 0),(1,.val (.int .i64 s)),(2,.val (.int .i64 k)),(7,.val (.int .i64 (x2.2.length:Int))),(8,.val (.int .i64 t))]⟩) (Yu (hUX t) rfl ?_) ?_
   ·simp only [push_cast,seval,↓reduceIte,Za,hi]
   refine Zi ?_
   refine Ya ?_
   obtain ⟨L',hL'⟩:∃ L',L'=Yc L s (x2.1,zl x2.2 t):=⟨_,rfl⟩
   have hj':=hOj t
   have hi':=hOi t
   have hx':=hOx t
   rw [← hL'] at hj'
   have hl':L'.length=L.length:=by rw [hL'];exact hlS t
   have hg':Zv L' s=some (x2.1,zl x2.2 t):=by rw [hL'];exact gS t
   obtain ⟨x3,hx3,ax3,bx3,cx3,_⟩:=bE (f:=eN) (K:=fun y=>some y) (r:=(x2.1,zl x2.2 t)) Vx (fun _=>rfl) (by decide) (by rw [hg'];rfl)
   obtain rfl:x3=(x2.1,zl x2.2 t):=Option.some.inj (hx3.symm.trans hg')
   have hE3:(eN (x2.1,zl x2.2 t))[0]? = some (.row x2.1 (zl x2.2 t).length):=rfl
   have bx4:s < (L.length:Int):=by rw [← hl'];exact bx3
   have hlr3:∀ i k,Yw (OX t) (.row i k)=True:=fun i k=>by simp [Yw]
   have hlen:(fl eN L').length=L.length:=by rw [U0,Nat.mul_one,hl']
   have gu:Q9 (fl eN L') [.row x2.1 (zl x2.2 (t+1)).length] (Int.toNat s * 1)=some (fl eN (Yc L' s (x2.1,zl x2.2 (t+1)))):=Ur (f:=eN) (ti:=⟨.bool,1,0,[],false⟩) (x:=(x2.1,zl x2.2 (t+1))) (fun _=>rfl) (Kw hg')
   have hMN:(OX t) n=none:=(hUX t).fresh _ (Nat.le_refl _)
   refine Zcb Zc (by kernel_rfl) [.plain,.low,.low,.low,.plain,.plain,.low,.low,.low,.plain,.low,.low,.pass,.pass,.plain,.bar] (fun t=>t=i∨t=j) [0,1,2,3,4,5,6,7,8,9,10,11,12,13,14,15] [.plain,.low,.low,.low,.plain,.plain,.low,.low,.low,.plain,.low,.low,.pass,.pass,.plain,.bar] [] (by kernel_rfl) rfl ?_
   simp only [push_cast,Nat.reduceAdd,Nat.reduceSub,Nat.reduceMul,Nat.reduceLeDiff,Nat.reduceLT,Nat.reduceEqDiff,↓reduceIte,reduceCtorEq,Int.reduceBEq,Int.reduceBNe,Nat.reduceBEq,Int.reduceLE,Int.reduceLT,Int.reduceEq,Int.reduceNe,Int.reduceNeg,Nat.reduceDiv,Nat.reduceMod,Nat.reducePow,Za,ax3,bx3,bx4,cx3,hi,hi',hj',hx',hj,hlen,Zho,hE3,hlr3,hx1,gu,hMN,true_or,or_true]
   have hnx:n≠x2.1:=by omega
   have hm:∀ o,(OX t).upd n o x2.1=some ⟨true,58,1,(zl x2.2 t).length,fl (eI .u64) (zl x2.2 t)⟩:=fun o=>(Zn _ _ (Ne.symm hnx)).trans hx'
   have hmj:∀ o o',((OX t).upd n o).upd x2.1 o' j=some ⟨true,22,1,L.length,fl eN L'⟩:=fun o o'=>(Zn _ _ hjν).trans ((Zn _ _ (by omega)).trans hj')
   have hlz:(zl x2.2 t).length+1=(zl x2.2 (t+1)).length:=by rw [Zsb,Zsb];omega
   have hfz:fl (eI .u64) (zl x2.2 t)++[G.val (.int .u64 0)]=fl (eI .u64) (zl x2.2 (t+1)):=by rw [← Z3c _ ht0];unfold fl;rw [List.map_append,List.flatten_append];rfl
   have hk1:(zl x2.2 (t+1)).length≤1000000:=by rw [Zsb];omega
   refine And.intro (fun u hu=>Zn _ _ (by rcases hu with rfl | rfl <;> omega)) ?_
   simp only [hm,push_cast,seval,↓reduceIte,hlz,hfz]
   refine And.intro ⟨by omega,by omega⟩ (And.intro (fun u hu=>Zn _ _ (by rcases hu with rfl | rfl <;> assumption)) (And.intro ⟨_,hmj _ _,rfl,rfl⟩ ?_))
   simp only [hmj,hlen,Zho,gu,push_cast,seval,↓reduceIte]
   refine Zb Zc [] ?_
   have hw1:IntKind.i64.wrap (t+1)=t+1:=X3 (by omega)
   simp only [push_cast,seval,↓reduceIte,Za,hw1]
   refine And.intro rfl (Fit2.of ⟨rfl,Znm (hUX _) fun u o hu => ?_,?_⟩ (Nat.le_refl _))
   ·have e1:Yc L' s (x2.1,zl x2.2 (t+1))=Yc L s (x2.1,zl x2.2 (t+1)):=by rw [hL',Zz0]
    rw [e1]
    by_cases c1:u=j
    ·subst c1;rw [Zo];rw [hOj] at hu;exact hu
    rw [Zn _ _ c1]
    by_cases c2:u=x2.1
    ·subst c2;rw [Zo];rw [hOx] at hu;exact hu
    rw [Zn _ _ c2]
    by_cases c3:u=n
    ·subst c3;rw [(hUX (t+1)).fresh _ (Nat.le_refl _)] at hu;cases hu
    rw [Zn _ _ c3,hOX]
    rw [hOX] at hu
    dsimp only at hu ⊢
    rw [Zn _ _ c1,Zn _ _ c2] at hu ⊢
    exact hu
   simp only [push_cast,seval,↓reduceIte,Za,hi]
  have c8':¬ t < k:=of_decide_eq_false c8
  rw [if_neg c8'] at hs0_
  refine X0 ?_
  try simp only [Zh,Zf,↓reduceIte,Nat.reduceEqDiff]
  have hs0_:=Option.some.inj hs0_;subst hs0_
  refine And.intro (fun h=>by cases h) (And.intro rfl (Yu (hUX _) rfl ?_))
  simp only [push_cast,seval,↓reduceIte,Za,hi]
 try simp only [Zh,Zf,↓reduceIte,Nat.reduceEqDiff]
 have hki:=hOi k
 refine Zj [0,1,2,7] (Zb Zc [] ?_)
 simp only [push_cast,seval,↓reduceIte,Za,hi,hki]
 refine Zj [6] (Zb Zc [] ?_)
 simp only [push_cast,seval,↓reduceIte,Za]
 refine Zs ?_
 subst hOX
 refine Zu (P:=Try.prog) (.inr rfl) (((hU.set hx1 (Y7 _)).set hj (Za2 _ fun y hy => ?_)).set hi ?_) [.val (.int .i64 (x2.2.length:Int))] (Nat.le_refl _) ?_
 ·rcases List.mem_or_eq_of_mem_set hy with h | h
  ·exact hν y h
  subst h;exact hx1
 ·simp [G.unders,G.under,hj]
 simp only [push_cast,seval,↓reduceIte,Za,Try.results97]
def Zjz (L:List NR) (s:Int):Int:=match Zv L s with | some x=>(x.2.length:Int) | none=>-1
theorem Zd7 {L:List NR} {s:Int} {x:NR} (h:Zv L s=some x):Zjz L s=(x.2.length:Int):=by unfold Zjz;rw [h]
theorem Zvr {L:List NR} {s:Int} (h:Zv L s=none):Zjz L s=-1:=by unfold Zjz;rw [h]
theorem Zad {α:Type} {L:List α} {s:Int} (h:Zv L s=none):s < 0∨(L.length:Int)≤s:=by
 unfold Zv at h
 split at h
 ·have:=List.getElem?_eq_none_iff.1 h;omega
 omega
theorem Z9 {α:Type} {L:List α} {s:Int} {x:α} (h:Zv L s=some x):x∈L:=by
 unfold Zv at h
 split at h
 ·exact List.mem_of_getElem? h
 cases h
theorem Xy {α:Type} {L:List α} {s:Int} {x:α} (h:Zv L s=some x):0≤s∧s < (L.length:Int):=by
 unfold Zv at h
 split at h
 ·obtain ⟨hl,_⟩:=List.getElem?_eq_some_iff.1 h;omega
 cases h
theorem Zce {O:Objs} {n i j:Nat} {L:List NR} {size most used s:Int} (hi:i < n) (hj:j < n)
  (ho:O i=some ⟨false,76,4,1,[.row j L.length,.val (.int .i64 size),.val (.int .i64 most),.val (.int .i64 used)]⟩) (hoj:O j=some ⟨true,22,1,L.length,fl eN L⟩) :
  GTo Try.prog 96 [.ref i 0,.val (.int .i64 s)] O n (.val (.int .i64 (Zjz L s))) O n:=by
 refine Yi Zc Try.call96 Try.func96 rfl (Nat.le_of_ble_eq_true rfl) (by omega) fun hU => ?_
 have hlr:∀ i k,Yw O (.row i k)=True:=fun i k=>by simp [Yw]
 show W _ _ _ _ ⟨24,[],[(0,.ref i 0),(1,.val (.int .i64 s))]⟩ (Zw O n []) _
 rw [Yh hU.fresh]
 refine Zj [0,1] (Zb Zc [] ?_)
 simp only [push_cast,seval,↓reduceIte,Za,hi]
 refine Zi ?_
 cases hx:Zv L s with
 | none =>
  rw [Zvr hx]
  refine Yk (E':=⟨24,[],[(0,.ref i 0),(1,.val (.int .i64 s)),(15,.val (.bool true))]⟩) (O':=O) (n0:=n) ?_ ?_
  ·by_cases c:s < 0
   ·have c2:decide (s < 0)=true:=decide_eq_true c
    refine Zb Zc (Zzo []) ?_
    simp only [push_cast,seval,↓reduceIte,Za,hi,hj,ho,hoj,hlr,c2]
    refine And.intro rfl (Yu hU rfl ?_)
    simp only [push_cast,seval,↓reduceIte,Za,hi,hj,ho,hoj,hlr]
   have c2:decide (s < 0)=false:=decide_eq_false c
   have c3:decide ((L.length:Int)≤s)=true:=decide_eq_true ((Zad hx).resolve_left c)
   refine Zb Zc (Zzq []) ?_
   simp only [push_cast,seval,↓reduceIte,Za,hi,hj,ho,hoj,hlr,c2,c3]
   refine And.intro rfl (Yu hU rfl ?_)
   simp only [push_cast,seval,↓reduceIte,Za,hi,hj,ho,hoj,hlr]
  refine Zl (t:=true) rfl (fun c15 => ?_) (fun c15=>by cases c15)
  refine Zj [4] (Zb Zc [] ?_)
  simp only [push_cast,seval,↓reduceIte,Za]
  refine Zs ?_
  try simp only [Zh,Zf]
  refine Zu (P:=Try.prog) (.inr rfl) hU [.val (.int .i64 (-1))] (Nat.le_refl _) ?_
  simp only [push_cast,seval,↓reduceIte,Za,Try.results96]
 | some x =>
  rw [Zd7 hx]
  have hlt:=Xy hx
  have c2:decide (s < 0)=false:=decide_eq_false (by omega)
  have c3:decide ((L.length:Int)≤s)=false:=decide_eq_false (by omega)
  refine Yk (E':=⟨24,[],[(0,.ref i 0),(1,.val (.int .i64 s)),(15,.val (.bool false))]⟩) (O':=O) (n0:=n) ?_ ?_
  ·refine Zb Zc (Zzq []) ?_
   simp only [push_cast,seval,↓reduceIte,Za,hi,hj,ho,hoj,hlr,c2,c3]
   refine And.intro rfl (Yu hU rfl ?_)
   simp only [push_cast,seval,↓reduceIte,Za,hi,hj,ho,hoj,hlr]
  refine Zl (t:=false) rfl (fun c15=>by cases c15) (fun c15 => ?_)
  refine Zp ?_
  try simp only [Zh,Zf]
  obtain ⟨x2,hx2,ax2,bx2,cx2,h⟩:=bE (f:=eN) (K:=fun y=>some y) (r:=x) Vx (fun _=>rfl) (by decide) (by rw [hx];rfl)
  obtain rfl:x2=x:=Option.some.inj (hx2.symm.trans hx)
  have hE:(eN x2)[0]? = some (.row x2.1 x2.2.length):=rfl
  refine Zj [4] (Zb Zc [] ?_)
  simp only [push_cast,Nat.reduceAdd,Nat.reduceSub,Nat.reduceMul,Nat.reduceLeDiff,Nat.reduceLT,Nat.reduceEqDiff,↓reduceIte,reduceCtorEq,Int.reduceBEq,Int.reduceBNe,Nat.reduceBEq,Int.reduceLE,Int.reduceLT,Int.reduceEq,Int.reduceNe,Int.reduceNeg,Nat.reduceDiv,Nat.reduceMod,Nat.reducePow,Za,ax2,bx2,cx2,hi,ho,hoj,hj,U0,Zho,hE,hlr]
  refine Zs ?_
  try simp only [Zh,Zf]
  refine Zu (P:=Try.prog) (.inr rfl) hU [.val (.int .i64 (x2.2.length:Int))] (Nat.le_refl _) ?_
  simp only [push_cast,seval,↓reduceIte,Za,Try.results96]
theorem Zzv {O:Objs} {n i j:Nat} {L:List NR} {size most used s k:Int} (hi:i < n) (hj:j < n)
  (ho:O i=some ⟨false,76,4,1,[.row j L.length,.val (.int .i64 size),.val (.int .i64 most),.val (.int .i64 used)]⟩) (hoj:O j=some ⟨true,22,1,L.length,fl eN L⟩)
  (hc:Zjz L s < 0∨k < 0∨IntKind.i64.wrap (most - used) < k∨IntKind.i64.wrap (size - Zjz L s) < k) :
  GTo Try.prog 99 [.ref i 0,.val (.int .i64 s),.val (.int .i64 k)] O n (.val (.int .i64 (-1))) O n:=by
 refine Yi Zc Try.call99 Try.func99 rfl (Nat.le_of_ble_eq_true rfl) (by omega) fun hU => ?_
 have hlr:∀ i k,Yw O (.row i k)=True:=fun i k=>by simp [Yw]
 show W _ _ _ _ ⟨44,[],[(0,.ref i 0),(1,.val (.int .i64 s)),(2,.val (.int .i64 k))]⟩ (Zw O n []) _
 rw [Yh hU.fresh]
 refine Zj [0,1,2] (Zb Zc [] ?_)
 simp only [push_cast,seval,↓reduceIte,Za,hi]
 refine Zi ?_
 refine Yk (E':=⟨44,[],[(0,.ref i 0),(1,.val (.int .i64 s)),(2,.val (.int .i64 k)),(39,.val (.bool true))]⟩) (O':=O) (n0:=n) ?_ ?_
 ·by_cases c1:Zjz L s < 0
  ·have d1:decide (Zjz L s < 0)=true:=decide_eq_true c1
   refine Y2 Zc (by kernel_rfl) (Z5n []) (Xz (by kernel_rfl)) ?_
   simp only [push_cast,seval,↓reduceIte,Za,hi,hj,ho,hoj,hlr,d1]
   refine PCall.of (Zce hi hj ho hoj) ?_
   simp only [push_cast,seval,↓reduceIte,Za,hi,hj,ho,hoj,hlr,d1]
   refine And.intro rfl (Yu hU rfl ?_)
   simp only [push_cast,seval,↓reduceIte,Za,hi,hj,ho,hoj,hlr]
  have d1:decide (Zjz L s < 0)=false:=decide_eq_false c1
  by_cases c2:k < 0
  ·have d2:decide (k < 0)=true:=decide_eq_true c2
   refine Y2 Zc (by kernel_rfl) (Xl::Xl::Z5m []) (Xz (by kernel_rfl)) ?_
   simp only [push_cast,seval,↓reduceIte,Za,hi,hj,ho,hoj,hlr,d1,d2]
   refine PCall.of (Zce hi hj ho hoj) ?_
   simp only [push_cast,seval,↓reduceIte,Za,hi,hj,ho,hoj,hlr,d1,d2]
   refine And.intro rfl (Yu hU rfl ?_)
   simp only [push_cast,seval,↓reduceIte,Za,hi,hj,ho,hoj,hlr]
  have d2:decide (k < 0)=false:=decide_eq_false c2
  by_cases c3:IntKind.i64.wrap (most - used) < k
  ·have d3:decide (IntKind.i64.wrap (most - used) < k)=true:=decide_eq_true c3
   refine Y2 Zc (by kernel_rfl) (Zv1 (Z3i [])) (Xz (by kernel_rfl)) ?_
   simp only [push_cast,seval,↓reduceIte,Za,hi,hj,ho,hoj,hlr,d1,d2,d3]
   refine PCall.of (Zce hi hj ho hoj) ?_
   simp only [push_cast,seval,↓reduceIte,Za,hi,hj,ho,hoj,hlr,d1,d2,d3]
   refine And.intro rfl (Yu hU rfl ?_)
   simp only [push_cast,seval,↓reduceIte,Za,hi,hj,ho,hoj,hlr]
  have d3:decide (IntKind.i64.wrap (most - used) < k)=false:=decide_eq_false c3
  have d4:decide (IntKind.i64.wrap (size - Zjz L s) < k)=true:=decide_eq_true (((hc.resolve_left c1).resolve_left c2).resolve_left c3)
  refine Y2 Zc (by kernel_rfl) (Z3m []) (Xz (by kernel_rfl)) ?_
  simp only [push_cast,seval,↓reduceIte,Za,hi,hj,ho,hoj,hlr,d1,d2,d3,d4]
  refine PCall.of (Zce hi hj ho hoj) ?_
  simp only [push_cast,seval,↓reduceIte,Za,hi,hj,ho,hoj,hlr,d1,d2,d3,d4]
  refine PCall.of (Zce hi hj ho hoj) ?_
  simp only [push_cast,seval,↓reduceIte,Za,hi,hj,ho,hoj,hlr,d1,d2,d3,d4]
  refine And.intro rfl (Yu hU rfl ?_)
  simp only [push_cast,seval,↓reduceIte,Za,hi,hj,ho,hoj,hlr]
 refine Zl (t:=true) rfl (fun c15 => ?_) (fun c15=>by cases c15)
 refine Zj [6] (Zb Zc [] ?_)
 simp only [push_cast,seval,↓reduceIte,Za]
 refine Zs ?_
 try simp only [Zh,Zf]
 refine Zu (P:=Try.prog) (.inr rfl) hU [.val (.int .i64 (-1))] (Nat.le_refl _) ?_
 simp only [push_cast,seval,↓reduceIte,Za,Try.results99]
theorem Zzu {O:Objs} {n i j:Nat} {L:List NR} {size most used s k:Int} {x:NR} (hi:i < n) (hj:j < n) (hν:∀ y∈L,y.1 < n) (hij:i≠j) (hiν:i≠x.1) (hjν:j≠x.1)
  (ho:O i=some ⟨false,76,4,1,[.row j L.length,.val (.int .i64 size),.val (.int .i64 most),.val (.int .i64 used)]⟩) (hoj:O j=some ⟨true,22,1,L.length,fl eN L⟩) (hx:Zv L s=some x)
  (hox:O x.1=some ⟨true,58,1,x.2.length,fl (eI .u64) x.2⟩) (hk:0≤k) (hb:(x.2.length:Int)+k≤1000000) (hc1:k≤IntKind.i64.wrap (most - used)) (hc2:k≤IntKind.i64.wrap (size - (x.2.length:Int))) :
  GTo Try.prog 99 [.ref i 0,.val (.int .i64 s),.val (.int .i64 k)] O n (.val (.int .i64 (x.2.length:Int)))
   (((O.upd x.1 (some ⟨true,58,1,(zl x.2 k).length,fl (eI .u64) (zl x.2 k)⟩)).upd j (some ⟨true,22,1,L.length,fl eN (Yc L s (x.1,zl x.2 k))⟩)).upd i (some ⟨false,76,4,1,[.row j L.length,.val (.int .i64 size),.val (.int .i64 most),.val (.int .i64 (IntKind.i64.wrap (used+k)))]⟩)) n:=by
 refine Yi Zc Try.call99 Try.func99 rfl (Nat.le_of_ble_eq_true rfl) (by omega) fun hU => ?_
 have hlr:∀ i k,Yw O (.row i k)=True:=fun i k=>by simp [Yw]
 have hx1:=hν x (Z9 hx)
 show W _ _ _ _ ⟨44,[],[(0,.ref i 0),(1,.val (.int .i64 s)),(2,.val (.int .i64 k))]⟩ (Zw O n []) _
 rw [Yh hU.fresh]
 refine Zj [0,1,2] (Zb Zc [] ?_)
 simp only [push_cast,seval,↓reduceIte,Za,hi]
 refine Zi ?_
 refine Yk (E':=⟨44,[],[(0,.ref i 0),(1,.val (.int .i64 s)),(2,.val (.int .i64 k)),(39,.val (.bool false))]⟩) (O':=O) (n0:=n) ?_ ?_
 ·have d1:decide ((x.2.length:Int) < 0)=false:=decide_eq_false (by omega)
  have d2:decide (k < 0)=false:=decide_eq_false (by omega)
  have d3:decide (IntKind.i64.wrap (most - used) < k)=false:=decide_eq_false (by omega)
  have d4:decide (IntKind.i64.wrap (size - (x.2.length:Int)) < k)=false:=decide_eq_false (by omega)
  refine Y2 Zc (by kernel_rfl) (Z3m []) (Xz (by kernel_rfl)) ?_
  simp only [push_cast,seval,↓reduceIte,Za,hi,hj,ho,hoj,hlr,d1,d2,d3,d4]
  refine PCall.of (Zce hi hj ho hoj) ?_
  rw [Zd7 hx]
  simp only [push_cast,seval,↓reduceIte,Za,hi,hj,ho,hoj,hlr,d1,d2,d3,d4]
  refine PCall.of (Zce hi hj ho hoj) ?_
  rw [Zd7 hx]
  simp only [push_cast,seval,↓reduceIte,Za,hi,hj,ho,hoj,hlr,d1,d2,d3,d4]
  refine And.intro rfl (Yu hU rfl ?_)
  simp only [push_cast,seval,↓reduceIte,Za,hi,hj,ho,hoj,hlr]
 refine Zl (t:=false) rfl (fun c15=>by cases c15) (fun c15 => ?_)
 refine Zp ?_
 try simp only [Zh,Zf]
 refine Zi ?_
 refine Zb Zc [] ?_
 simp only [push_cast,seval,↓reduceIte,Za,hi,hj,ho,hoj,hlr]
 refine (Zwu hi hj hν hij hiν hjν ho hoj hx hox hk hb).then ?_
 simp only [push_cast,seval,↓reduceIte,Za]
 refine Zs ?_
 try simp only [Zh,Zf]
 refine Zu (P:=Try.prog) (.inr rfl) (((hU.set hx1 (Y7 _)).set hj (Za2 _ fun y hy => ?_)).set hi ?_) [.val (.int .i64 (x.2.length:Int))] (Nat.le_refl _) ?_
 ·rcases List.mem_or_eq_of_mem_set hy with h | h
  ·exact hν y h
  subst h;exact hx1
 ·simp [G.unders,G.under,hj]
 simp only [push_cast,seval,↓reduceIte,Za,Try.results99]
theorem Zwb {O:Objs} {n i j:Nat} {L:List NR} {size most used k:Int} (hi:i < n) (hj:j < n)
  (ho:O i=some ⟨false,76,4,1,[.row j L.length,.val (.int .i64 size),.val (.int .i64 most),.val (.int .i64 used)]⟩) (hoj:O j=some ⟨true,22,1,L.length,fl eN L⟩)
  (hc:k < 0∨IntKind.i64.wrap (most - used) < k) :
  GTo Try.prog 56 [.ref i 0,.val (.int .i64 k)] O n (.tup [.val (.int .i64 (-1)),.val (.int .i64 (-1))]) O n:=by
 refine Yi Zc Try.call56 Try.func56 rfl (Nat.le_of_ble_eq_true rfl) (by omega) fun hU => ?_
 have hlr:∀ i k,Yw O (.row i k)=True:=fun i k=>by simp [Yw]
 have hN0:O n=none:=hU.fresh _ (Nat.le_refl _)
 have hN:∀ k,O (n+k)=none:=fun k=>hU.fresh _ (Nat.le_add_right _ _)
 show W _ _ _ _ ⟨64,[],[(0,.ref i 0),(1,.val (.int .i64 k))]⟩ (Zw O n []) _
 rw [Yh hU.fresh]
 refine Zj [0,1] (Zb Zc [] ?_)
 simp only [push_cast,seval,↓reduceIte,Za,hi]
 refine Zi ?_
 refine Yk (E':=⟨64,[],[(0,.ref i 0),(1,.val (.int .i64 k)),(21,.val (.bool true))]⟩) (O':=O) (n0:=n) ?_ ?_
 ·by_cases c1:k < 0
  ·have d1:decide (k < 0)=true:=decide_eq_true c1
   refine Y2 Zc (by kernel_rfl) (Z3j []) (Xz (by kernel_rfl)) ?_
   simp only [push_cast,seval,↓reduceIte,Za,hi,hj,ho,hoj,hlr,d1]
   refine And.intro rfl (Yu hU rfl ?_)
   simp only [push_cast,seval,↓reduceIte,Za,hi,hj,ho,hoj,hlr]
  have d1:decide (k < 0)=false:=decide_eq_false c1
  have d2:decide (IntKind.i64.wrap (most - used) < k)=true:=decide_eq_true (hc.resolve_left c1)
  refine Y2 Zc (by kernel_rfl) (Z0w []) (Xz (by kernel_rfl)) ?_
  simp only [push_cast,seval,↓reduceIte,Za,hi,hj,ho,hoj,hlr,d1,d2]
  refine And.intro rfl (Yu hU rfl ?_)
  simp only [push_cast,seval,↓reduceIte,Za,hi,hj,ho,hoj,hlr]
 refine Zl (t:=true) rfl (fun c15 => ?_) (fun c15=>by cases c15)
 refine Zj [4,5] (Zb Zc [] ?_)
 simp only [push_cast,seval,↓reduceIte,Za]
 refine Zs ?_
 try simp only [Zh,Zf]
 refine Zu (P:=Try.prog) (.inr rfl) hU [.val (.int .i64 (-1)),.val (.int .i64 (-1))] (Nat.le_refl _) ?_
 simp only [push_cast,seval,↓reduceIte,Za,Try.results56]
theorem Zwa {O:Objs} {n i j:Nat} {L:List NR} {size most used k:Int} {x:NR} (hi:i < n) (hj:j < n) (hν:∀ y∈L,y.1 < n) (hij:i≠j) (hiν:i≠x.1) (hjν:j≠x.1)
  (ho:O i=some ⟨false,76,4,1,[.row j L.length,.val (.int .i64 size),.val (.int .i64 most),.val (.int .i64 used)]⟩) (hoj:O j=some ⟨true,22,1,L.length,fl eN L⟩) (hx:Zv L ((L.length:Int) - 1)=some x)
  (hox:O x.1=some ⟨true,58,1,x.2.length,fl (eI .u64) x.2⟩) (hk:0≤k) (hk2:k≤IntKind.i64.wrap (most - used)) (hb:(x.2.length:Int)+k≤1000000) (hL:L.length≤1000000)
  (hf:k≤IntKind.i64.wrap (size - (x.2.length:Int))∨16≤L.length) :
  GTo Try.prog 56 [.ref i 0,.val (.int .i64 k)] O n (.tup [.val (.int .i64 ((L.length:Int) - 1)),.val (.int .i64 (x.2.length:Int))])
   (((O.upd x.1 (some ⟨true,58,1,(zl x.2 k).length,fl (eI .u64) (zl x.2 k)⟩)).upd j (some ⟨true,22,1,L.length,fl eN (Yc L ((L.length:Int) - 1) (x.1,zl x.2 k))⟩)).upd i (some ⟨false,76,4,1,[.row j L.length,.val (.int .i64 size),.val (.int .i64 most),.val (.int .i64 (IntKind.i64.wrap (used+k)))]⟩)) n:=by
 have hx1:=hν x (Z9 hx)
 have h0:0 < L.length:=List.length_pos_of_mem (Z9 hx)
 refine Yi Zc Try.call56 Try.func56 rfl (Nat.le_of_ble_eq_true rfl) (by omega) fun hU => ?_
 have hlr:∀ i k,Yw O (.row i k)=True:=fun i k=>by simp [Yw]
 have hN0:O n=none:=hU.fresh _ (Nat.le_refl _)
 have hN:∀ k,O (n+k)=none:=fun k=>hU.fresh _ (Nat.le_add_right _ _)
 show W _ _ _ _ ⟨64,[],[(0,.ref i 0),(1,.val (.int .i64 k))]⟩ (Zw O n []) _
 rw [Yh hU.fresh]
 refine Zj [0,1] (Zb Zc [] ?_)
 simp only [push_cast,seval,↓reduceIte,Za,hi]
 refine Zi ?_
 refine Yk (E':=⟨64,[],[(0,.ref i 0),(1,.val (.int .i64 k)),(21,.val (.bool false))]⟩) (O':=O) (n0:=n) ?_ ?_
 ·have d1:decide (k < 0)=false:=decide_eq_false (by omega)
  have d2:decide (IntKind.i64.wrap (most - used) < k)=false:=decide_eq_false (by omega)
  refine Y2 Zc (by kernel_rfl) (Z0w []) (Xz (by kernel_rfl)) ?_
  simp only [push_cast,seval,↓reduceIte,Za,hi,hj,ho,hoj,hlr,d1,d2]
  refine And.intro rfl (Yu hU rfl ?_)
  simp only [push_cast,seval,↓reduceIte,Za,hi,hj,ho,hoj,hlr]
 refine Zl (t:=false) rfl (fun c15=>by cases c15) (fun c15 => ?_)
 refine Zp ?_
 try simp only [Zh,Zf]
 have hw:IntKind.i64.wrap ((L.length:Int) - 1)=(L.length:Int) - 1:=X3 (by omega)
 refine Zj [0,1,6] (Zb Zc [] ?_)
 simp only [push_cast,seval,↓reduceIte,Za,hi,hj,ho,hoj,hlr]
 refine Yk (E':=⟨64,[],[(0,.ref i 0),(1,.val (.int .i64 k)),(6,.val (.int .i64 (L.length:Int)))]⟩) (O':=O) (n0:=n) ?_ ?_
 ·have c8:decide ((L.length:Int)=0)=false:=decide_eq_false (by omega)
  have c8b:((L.length:Int) == 0)=false:=by rw [beq_eq_false_iff_ne];omega
  refine Yk (E':=⟨64,[],[(0,.ref i 0),(1,.val (.int .i64 k)),(6,.val (.int .i64 (L.length:Int))),(45,.val (.bool false))]⟩) (O':=O) (n0:=n) ?_ ?_
  ·by_cases c:k≤IntKind.i64.wrap (size - (x.2.length:Int))
   ·have c9:decide (IntKind.i64.wrap (size - (x.2.length:Int)) < k)=false:=decide_eq_false (by omega)
    refine Y2 Zc (by kernel_rfl) (Zv0 (Xa::Xa::[Xl])) (Xz (by kernel_rfl)) ?_
    simp only [push_cast,seval,↓reduceIte,Za,hi,hj,ho,hoj,hlr,hw,c8,c8b,c9]
    refine PCall.of (Zce hi hj ho hoj) ?_
    rw [Zd7 hx]
    simp only [push_cast,seval,↓reduceIte,Za,hi,hj,ho,hoj,hlr,hw,c8,c8b,c9]
    refine And.intro rfl (Yu hU rfl ?_)
    simp only [push_cast,seval,↓reduceIte,Za,hi,hj,ho,hoj,hlr]
   have c9:decide (IntKind.i64.wrap (size - (x.2.length:Int)) < k)=true:=decide_eq_true (by omega)
   have c10:decide ((L.length:Int) < 16)=false:=decide_eq_false (by have:=hf.resolve_left c;omega)
   refine Y2 Zc (by kernel_rfl) (Z3l []) (Xz (by kernel_rfl)) ?_
   simp only [push_cast,seval,↓reduceIte,Za,hi,hj,ho,hoj,hlr,hw,c8,c8b,c9,c10]
   refine PCall.of (Zce hi hj ho hoj) ?_
   rw [Zd7 hx]
   simp only [push_cast,seval,↓reduceIte,Za,hi,hj,ho,hoj,hlr,hw,c8,c8b,c9,c10]
   refine And.intro rfl (Yu hU rfl ?_)
   simp only [push_cast,seval,↓reduceIte,Za,hi,hj,ho,hoj,hlr]
  refine Zl (t:=false) rfl (fun c15=>by cases c15) (fun c15 => ?_)
  refine Zp ?_
  refine And.intro rfl (Yu hU rfl ?_)
  simp only [push_cast,seval,↓reduceIte,Za,hi,hj,ho,hoj,hlr]
 refine Zi ?_
 refine Zb Zc [] ?_
 simp only [push_cast,seval,↓reduceIte,Za,hi,hj,ho,hoj,hlr,hw]
 refine (Zwu hi hj hν hij hiν hjν ho hoj hx hox hk hb).then ?_
 simp only [push_cast,seval,↓reduceIte,Za]
 refine Zs ?_
 try simp only [Zh,Zf]
 refine Zu (P:=Try.prog) (.inr rfl) (((hU.set hx1 (Y7 _)).set hj (Za2 _ fun y hy => ?_)).set hi ?_) [.val (.int .i64 ((L.length:Int) - 1)),.val (.int .i64 (x.2.length:Int))] (Nat.le_refl _) ?_
 ·rcases List.mem_or_eq_of_mem_set hy with h | h
  ·exact hν y h
  subst h;exact hx1
 ·simp [G.unders,G.under,hj]
 simp only [push_cast,seval,↓reduceIte,Za,Try.results56]
theorem Zuk {O:Objs} {n i j:Nat} {L:List NR} {size most used k:Int} (hi:i < n) (hj:j < n) (hν:∀ y∈L,y.1 < n) (hij:i≠j)
  (ho:O i=some ⟨false,76,4,1,[.row j L.length,.val (.int .i64 size),.val (.int .i64 most),.val (.int .i64 used)]⟩) (hoj:O j=some ⟨true,22,1,L.length,fl eN L⟩) (hk:0≤k) (hk2:k≤IntKind.i64.wrap (most - used)) (hb:k≤1000000) (hL:L.length≤1000000)
  (hf:L.length=0∨L.length < 16∧∃ x,Zv L ((L.length:Int) - 1)=some x∧¬ k≤IntKind.i64.wrap (size - (x.2.length:Int))) :
  GTo Try.prog 56 [.ref i 0,.val (.int .i64 k)] O n (.tup [.val (.int .i64 (L.length:Int)),.val (.int .i64 0)])
   (((O.upd n (some ⟨true,58,1,(zl [] k).length,fl (eI .u64) (zl [] k)⟩)).upd j (some ⟨true,22,1,L.length+1,fl eN (L++[(n,zl [] k)])⟩)).upd i (some ⟨false,76,4,1,[.row j (L.length+1),.val (.int .i64 size),.val (.int .i64 most),.val (.int .i64 (IntKind.i64.wrap (used+k)))]⟩)) (n+1):=by
 refine Yi Zc Try.call56 Try.func56 rfl (Nat.le_of_ble_eq_true rfl) (by omega) fun hU => ?_
 have hlr:∀ i k,Yw O (.row i k)=True:=fun i k=>by simp [Yw]
 have hN0:O n=none:=hU.fresh _ (Nat.le_refl _)
 have hN:∀ k,O (n+k)=none:=fun k=>hU.fresh _ (Nat.le_add_right _ _)
 show W _ _ _ _ ⟨64,[],[(0,.ref i 0),(1,.val (.int .i64 k))]⟩ (Zw O n []) _
 rw [Yh hU.fresh]
 refine Zj [0,1] (Zb Zc [] ?_)
 simp only [push_cast,seval,↓reduceIte,Za,hi]
 refine Zi ?_
 refine Yk (E':=⟨64,[],[(0,.ref i 0),(1,.val (.int .i64 k)),(21,.val (.bool false))]⟩) (O':=O) (n0:=n) ?_ ?_
 ·have d1:decide (k < 0)=false:=decide_eq_false (by omega)
  have d2:decide (IntKind.i64.wrap (most - used) < k)=false:=decide_eq_false (by omega)
  refine Y2 Zc (by kernel_rfl) (Z0w []) (Xz (by kernel_rfl)) ?_
  simp only [push_cast,seval,↓reduceIte,Za,hi,hj,ho,hoj,hlr,d1,d2]
  refine And.intro rfl (Yu hU rfl ?_)
  simp only [push_cast,seval,↓reduceIte,Za,hi,hj,ho,hoj,hlr]
 refine Zl (t:=false) rfl (fun c15=>by cases c15) (fun c15 => ?_)
 refine Zp ?_
 try simp only [Zh,Zf]
 have hw:IntKind.i64.wrap ((L.length:Int) - 1)=(L.length:Int) - 1:=X3 (by omega)
 refine Zj [0,1,6] (Zb Zc [] ?_)
 simp only [push_cast,seval,↓reduceIte,Za,hi,hj,ho,hoj,hlr]
 refine Yk (E':=⟨64,[],[(0,.ref i 0),(1,.val (.int .i64 k)),(6,.val (.int .i64 ((L.length:Int)+1)))]⟩) (O':=(((O.upd j (some ⟨true,22,1,L.length+1,fl eN L++[.val (.slice none 0 0)]⟩)).upd i (some ⟨false,76,4,1,[.row j (L.length+1),.val (.int .i64 size),.val (.int .i64 most),.val (.int .i64 used)]⟩)).upd n (some ⟨true,58,1,0,[]⟩)).upd j (some ⟨true,22,1,L.length+1,fl eN (L++[(n,[])])⟩)) (n0:=n+1) ?_ ?_
 ·refine Yk (E':=⟨64,[],[(0,.ref i 0),(1,.val (.int .i64 k)),(6,.val (.int .i64 (L.length:Int))),(45,.val (.bool true))]⟩) (O':=O) (n0:=n) ?_ ?_
  ·by_cases c:L.length=0
   ·have c8:decide ((L.length:Int)=0)=true:=decide_eq_true (by omega)
    have c8b:((L.length:Int) == 0)=true:=by rw [beq_iff_eq];omega
    refine Y2 Zc (by kernel_rfl) (Z5l []) (Xz (by kernel_rfl)) ?_
    simp only [push_cast,seval,↓reduceIte,Za,hi,hj,ho,hoj,hlr,c8,c8b]
    refine And.intro rfl (Yu hU rfl ?_)
    simp only [push_cast,seval,↓reduceIte,Za,hi,hj,ho,hoj,hlr]
   obtain ⟨hlt,x,hx,hnf⟩:=hf.resolve_left c
   have c8:decide ((L.length:Int)=0)=false:=decide_eq_false (by omega)
   have c8b:((L.length:Int) == 0)=false:=by rw [beq_eq_false_iff_ne];omega
   have c9:decide (IntKind.i64.wrap (size - (x.2.length:Int)) < k)=true:=decide_eq_true (by omega)
   have c10:decide ((L.length:Int) < 16)=true:=decide_eq_true (by omega)
   refine Y2 Zc (by kernel_rfl) (Z3l []) (Xz (by kernel_rfl)) ?_
   simp only [push_cast,seval,↓reduceIte,Za,hi,hj,ho,hoj,hlr,hw,c8,c8b,c9,c10]
   refine PCall.of (Zce hi hj ho hoj) ?_
   rw [Zd7 hx]
   simp only [push_cast,seval,↓reduceIte,Za,hi,hj,ho,hoj,hlr,hw,c8,c8b,c9,c10]
   refine And.intro rfl (Yu hU rfl ?_)
   simp only [push_cast,seval,↓reduceIte,Za,hi,hj,ho,hoj,hlr]
  refine Zl (t:=true) rfl (fun c15 => ?_) (fun c15=>by cases c15)
  refine Zi ?_
  have h5:∀ o,O.upd n o j=some ⟨true,22,1,L.length,fl eN L⟩:=fun o=>(Zn O o (by omega)).trans hoj
  have h6:∀ o o',(O.upd n o).upd j o' i=some ⟨false,76,4,1,[.row j L.length,.val (.int .i64 size),.val (.int .i64 most),.val (.int .i64 used)]⟩:=fun o o'=>(Zn _ o' hij).trans ((Zn O o (by omega)).trans ho)
  refine Zb Zc [] ?_
  simp only [push_cast,seval,↓reduceIte,Za,hi,hj,ho,hoj,hlr,hN0,hN,h5,h6]
  refine ⟨⟨by omega,by omega⟩,?_⟩
  have hU1:Und ((O.upd j (some ⟨true,22,1,L.length+1,fl eN L++[.val (.slice none 0 0)]⟩)).upd i (some ⟨false,76,4,1,[.row j (L.length+1),.val (.int .i64 size),.val (.int .i64 most),.val (.int .i64 used)]⟩)) n :=
   (hU.set hj (Zmx _ _ (Za2 _ hν) (by simp [G.unders,G.under]))).set hi (by simp [G.unders,G.under,hj])
  refine Zbk (E':=⟨64,[],[(0,.ref i 0),(1,.val (.int .i64 k)),(6,.val (.int .i64 (L.length:Int)))]⟩) (O':=((O.upd j (some ⟨true,22,1,L.length+1,fl eN L++[.val (.slice none 0 0)]⟩)).upd i (some ⟨false,76,4,1,[.row j (L.length+1),.val (.int .i64 size),.val (.int .i64 most),.val (.int .i64 used)]⟩))) (n':=n) (Fit2.of ⟨rfl,Znm hU1 fun t o ht => ?_,?_⟩ (Nat.le_refl _)) ?_
  ·by_cases e1:t=i
   ·subst e1;rw [Zo] at ht ⊢;exact ht
   rw [Zn _ _ e1] at ht ⊢
   by_cases e2:t=j
   ·subst e2;rw [Zo] at ht ⊢;exact ht
   rw [Zn _ _ e2] at ht ⊢
   by_cases e3:t=n
   ·subst e3;rw [hN0] at ht;cases ht
   rw [Zn _ _ e3];exact ht
  ·simp only [push_cast,seval,↓reduceIte,Za,hi,hj]
  refine Zuy (p:=j) (k:=L.length) (q:=⟨true,22,1,L.length+1,fl eN L++[.val (.slice none 0 0)]⟩) 58 1 (by rw [Zn _ _ (Ne.symm hij),Zo]) (by rw [List.getElem?_append_right (by rw [U0];omega),U0];simp) ?_
  have hset:(fl eN L++[G.val (.slice none 0 0)]).set L.length (.row n 0)=fl eN (L++[(n,[])]):=by
   rw [List.set_append_right _ _ (by rw [U0];omega),U0,← Zfk];simp [eN]
  simp only [hset]
  have hlt:∀ y∈L++[(n,([]:List Int))],y.1 < n+1:=fun y hy=>by
   rcases List.mem_append.1 hy with h | h
   ·have:=hν y h;omega
   rw [List.mem_singleton.1 h];exact Nat.lt_succ_self _
  have hU2:=((hU1.more (Nat.le_succ n)).set (q:=⟨true,58,1,0,[]⟩) (Nat.lt_succ_self n) (by simp [G.unders])).set (q:=⟨true,22,1,L.length+1,fl eN (L++[(n,[])])⟩) (i:=j) (by omega) (Za2 _ hlt)
  have hi1:i < n+1:=by omega
  refine Zb Zc [] ?_
  have hw2:IntKind.i64.wrap ((L.length:Int)+1)=(L.length:Int)+1:=X3 (by omega)
  simp only [push_cast,seval,↓reduceIte,Za,hw2]
  simp only [Zfk]
  refine And.intro rfl (Yf hU2 (Nat.le_succ n) rfl ?_)
  simp only [push_cast,seval,↓reduceIte,Za,hi1]
 refine Zi ?_
 have hi1:i < n+1:=by omega
 refine Zb Zc [] ?_
 have hw3:IntKind.i64.wrap ((L.length:Int)+1 - 1)=(L.length:Int):=by rw [X3 (by omega)];omega
 simp only [push_cast,seval,↓reduceIte,Za,hi1,hw3]
 simp only [Zfk]
 have hin:i≠n:=by omega
 have hjn:j≠n:=by omega
 have hlt:∀ y∈L++[(n,([]:List Int))],y.1 < n+1:=fun y hy=>by
  rcases List.mem_append.1 hy with h | h
  ·have:=hν y h;omega
  rw [List.mem_singleton.1 h];exact Nat.lt_succ_self _
 have hlen:(L++[(n,([]:List Int))]).length=L.length+1:=by simp
 have hget:Zv (L++[(n,([]:List Int))]) (L.length:Int)=some (n,[]):=by
  unfold Zv;rw [if_pos (by omega),Int.toNat_natCast,List.getElem?_append_right (Nat.le_refl _)];simp
 have g:=Zwu (O:=(((O.upd j (some ⟨true,22,1,L.length+1,fl eN L++[.val (.slice none 0 0)]⟩)).upd i (some ⟨false,76,4,1,[.row j (L.length+1),.val (.int .i64 size),.val (.int .i64 most),.val (.int .i64 used)]⟩)).upd n (some ⟨true,58,1,0,[]⟩)).upd j (some ⟨true,22,1,L.length+1,fl eN (L++[(n,[])])⟩)) (n:=n+1) (i:=i) (j:=j) (L:=L++[(n,[])]) (size:=size) (most:=most) (used:=used) (s:=(L.length:Int)) (k:=k) (x:=(n,[])) (by omega) (by omega) hlt hij hin hjn
  (by rw [Zn _ _ hij,Zn _ _ hin,Zo,hlen]) (by rw [Zo,hlen]) hget (by rw [Zn _ _ (Ne.symm hjn),Zo];rfl) hk (by simp;omega)
 rw [hlen] at g
 refine g.then ?_
 simp only [push_cast,seval,↓reduceIte,Za]
 have hs:Yc (L++[(n,([]:List Int))]) (L.length:Int) (n,zl [] k)=L++[(n,zl [] k)]:=by
  unfold Yc;rw [Int.toNat_natCast,List.set_append_right _ _ (Nat.le_refl _)];simp
 have hlt2:∀ y∈L++[(n,zl [] k)],y.1 < n+1:=fun y hy=>by
  rcases List.mem_append.1 hy with h | h
  ·have:=hν y h;omega
  rw [List.mem_singleton.1 h];exact Nat.lt_succ_self _
 simp only [hs,Zfk,Zth hin hjn hij]
 refine Zs ?_
 try simp only [Zh,Zf]
 refine Zu (P:=Try.prog) (.inr rfl) ((((hU.more (Nat.le_succ n)).set (Nat.lt_succ_self n) (Y7 _)).set (by omega) (Za2 _ hlt2)).set (by omega) ?_) [.val (.int .i64 (L.length:Int)),.val (.int .i64 0)] (Nat.le_succ _) ?_
 ·have:j < n+1:=by omega
  simp [G.unders,G.under,this]
 simp only [push_cast,seval,↓reduceIte,Za,Try.results56]
theorem Zx {P:Program} {ba n:Nat} {c:Code} {Q:GQ} {E:Env} {O:Objs} (h:Und O n→W P ba c Q E O n):W P ba c Q E O n:=fun hb w m a hM hE=>h ⟨hM.fresh,fun i o hi=>by obtain ⟨vs,hv,_⟩:=hM.obj i o hi;exact Qu _ _ hv⟩ hb w m a hM hE
theorem Zuu {Z:Objs}:∀ L:List NR,(∀ x∈L,Z x.1=some ⟨true,58,1,x.2.length,fl (eI .u64) x.2⟩)→Kt Z Qp 0 (fl eN L) (fl (eL (eI .u64)) (L.map (·.2)))
 | [],_=>by simp [fl,Kt]
 | x::L,h=>by
  show Kt Z Qp 0 (.row x.1 x.2.length::fl eN L) (.sl x.2.length (fl (eI .u64) x.2)::fl (eL (eI .u64)) (L.map (·.2)))
  unfold Kt
  refine ⟨_,_,rfl,?_,Zuu L fun y hy=>h y (List.mem_cons_of_mem _ hy)⟩
  unfold wk
  exact ⟨rfl,rfl,_,h x List.mem_cons_self,rfl,rfl,Uo _⟩
theorem Zck {L:List NR} {s:Int} {x:NR} (h:Zv L s=some x):Zv (L.map (·.2)) s=some x.2:=by
 unfold Zv at *
 split at h
 ·rename_i c;rw [if_pos c,List.getElem?_map,h];rfl
 cases h
theorem Zt3 {Z:Objs} {i j:Nat} {L:List NR} {size left:Int} (hi:Z i=some ⟨false,80,3,1,[.row j L.length,.val (.int .i64 size),.val (.int .i64 left)]⟩)
  (hj:Z j=some ⟨true,22,1,L.length,fl eN L⟩) (h:∀ x∈L,Z x.1=some ⟨true,58,1,x.2.length,fl (eI .u64) x.2⟩):wk Z Qp 0 (.ref i 0) (gP Zt (some ⟨L.map (·.2),size,left⟩)):=by
 show wk Z Qp 0 (.ref i 0) (.ip (Zt ⟨L.map (·.2),size,left⟩) 0)
 unfold wk
 refine ⟨rfl,rfl,_,hi,rfl,?_⟩
 show Kt Z Qp 0 _ [.sl (L.map (·.2)).length (fl (eL (eI .u64)) (L.map (·.2))),.val (.int .i64 size),.val (.int .i64 left)]
 unfold Kt
 refine ⟨_,_,rfl,?_,Kg rfl⟩
 unfold wk
 exact ⟨by rw [List.length_map],rfl,_,hj,rfl,rfl,Zuu L h⟩
def Yj (segs:List (List Int)) (s p k:Int):Bool:=match Zv segs s with
 | none=>false
 | some t=>decide (0≤p∧0≤k∧k≤(t.length:Int)∧p≤(t.length:Int) - k)
theorem Zoz (A:Z8) (s:Int):Qh (some A) s=some (decide (0≤s∧s < (A.segments.length:Int))):=by
 unfold Qh Vu
 by_cases c:0≤s <;> simp [c]
theorem Zyd (A:Z8) (s p k:Int) (hb:∀ t∈A.segments,t.length≤1000000):Vt (some A) s p k=some (Yj A.segments s p k):=by
 unfold Vt Js
 simp only [Zoz]
 cases hx:Zv A.segments s with
 | none =>
  have:=Zad hx
  have c:decide (0≤s∧s < (A.segments.length:Int))=false:=decide_eq_false (by omega)
  simp [Yj,hx,c]
 | some t =>
  have:=Xy hx
  have hl:=hb t (Z9 hx)
  have c:decide (0≤s∧s < (A.segments.length:Int))=true:=decide_eq_true (by omega)
  simp only [Yj,hx,c,Option.bind_some,cond_true,Bool.not_true,cond_false]
  by_cases c1:0≤p <;> by_cases c2:0≤k <;> by_cases c3:k≤(t.length:Int) <;> simp [c1,c2,c3]
  rw [X3 (by omega)]
theorem Z5g {O:Objs} {n i j:Nat} {L:List NR} {size left s k:Int} (hi:i < n) (hj:j < n)
  (ho:O i=some ⟨false,80,3,1,[.row j L.length,.val (.int .i64 size),.val (.int .i64 left)]⟩) (hoj:O j=some ⟨true,22,1,L.length,fl eN L⟩) (hL:∀ x∈L,O x.1=some ⟨true,58,1,x.2.length,fl (eI .u64) x.2⟩)
  (hc:¬ (0≤s∧s < (L.length:Int))∨k < 0∨left < k∨∃ x,Zv L s=some x∧¬ k≤IntKind.i64.wrap (size - (x.2.length:Int))) :
  GTo Try.prog 91 [.ref i 0,.val (.int .i64 s),.val (.int .i64 k)] O n (.tup [.val (.int .i64 0),.val (.bool false)]) O n:=by
 refine Yi Zc Try.call91 Try.func91 rfl (Nat.le_of_ble_eq_true rfl) (by omega) fun hU => ?_
 have hlr:∀ i k,Yw O (.row i k)=True:=fun i k=>by simp [Yw]
 have HL:=Zt3 ho hoj hL
 have hth:=Zoz ⟨L.map (·.2),size,left⟩ s
 simp only [List.length_map] at hth
 show W _ _ _ _ ⟨35,[],[(0,.ref i 0),(1,.val (.int .i64 s)),(2,.val (.int .i64 k))]⟩ (Zw O n []) _
 rw [Yh hU.fresh]
 refine Zj [0,1,2] (Zb Zc [] ?_)
 simp only [push_cast,seval,↓reduceIte,Za,hi]
 refine Zi ?_
 refine Yk (E':=⟨35,[],[(0,.ref i 0),(1,.val (.int .i64 s)),(2,.val (.int .i64 k)),(30,.val (.bool true))]⟩) (O':=O) (n0:=n) ?_ ?_
 ·by_cases c1:0≤s∧s < (L.length:Int)
  ·have d1:decide (0≤s∧s < (L.length:Int))=true:=decide_eq_true c1
   by_cases c2:k < 0
   ·have d2:decide (k < 0)=true:=decide_eq_true c2
    refine Zb Zc (Xl::Xl::Z3j []) ?_
    simp only [push_cast,seval,↓reduceIte,Za,hi,hj,ho,hoj,hlr,d1,d2]
    refine GCalls.lend (Yg hth) rfl (by unfold Kt;exact ⟨_,_,rfl,HL,Kg rfl⟩) ?_
    simp only [push_cast,seval,↓reduceIte,Za,hi,hj,ho,hoj,hlr,d1,d2]
    refine And.intro rfl (Yu hU rfl ?_)
    simp only [push_cast,seval,↓reduceIte,Za,hi,hj,ho,hoj,hlr]
   have d2:decide (k < 0)=false:=decide_eq_false c2
   by_cases c3:left < k
   ·have d3:decide (left < k)=true:=decide_eq_true c3
    refine Zb Zc (Z0x (Z0v [])) ?_
    simp only [push_cast,seval,↓reduceIte,Za,hi,hj,ho,hoj,hlr,d1,d2,d3]
    refine GCalls.lend (Yg hth) rfl (by unfold Kt;exact ⟨_,_,rfl,HL,Kg rfl⟩) ?_
    simp only [push_cast,seval,↓reduceIte,Za,hi,hj,ho,hoj,hlr,d1,d2,d3]
    refine And.intro rfl (Yu hU rfl ?_)
    simp only [push_cast,seval,↓reduceIte,Za,hi,hj,ho,hoj,hlr]
   have d3:decide (left < k)=false:=decide_eq_false c3
   obtain ⟨x,hx,c4⟩:=((hc.resolve_left (fun h=>h c1)).resolve_left c2).resolve_left c3
   have d4:decide (k≤IntKind.i64.wrap (size - (x.2.length:Int)))=false:=decide_eq_false c4
   refine Zb Zc (Zv1 []) ?_
   simp only [push_cast,seval,↓reduceIte,Za,hi,hj,ho,hoj,hlr,d1,d2,d3,d4]
   refine GCalls.lend (Yg hth) rfl (by unfold Kt;exact ⟨_,_,rfl,HL,Kg rfl⟩) ?_
   simp only [push_cast,seval,↓reduceIte,Za,hi,hj,ho,hoj,hlr,d1,d2,d3,d4]
   refine (Znb hi hj ho hoj hx).then ?_
   simp only [push_cast,seval,↓reduceIte,Za,hi,hj,ho,hoj,hlr,d1,d2,d3,d4]
   refine And.intro rfl (Yu hU rfl ?_)
   simp only [push_cast,seval,↓reduceIte,Za,hi,hj,ho,hoj,hlr]
  have d1:decide (0≤s∧s < (L.length:Int))=false:=decide_eq_false c1
  refine Zb Zc (Z3k []) ?_
  simp only [push_cast,seval,↓reduceIte,Za,hi,hj,ho,hoj,hlr,d1]
  refine GCalls.lend (Yg hth) rfl (by unfold Kt;exact ⟨_,_,rfl,HL,Kg rfl⟩) ?_
  simp only [push_cast,seval,↓reduceIte,Za,hi,hj,ho,hoj,hlr,d1]
  refine And.intro rfl (Yu hU rfl ?_)
  simp only [push_cast,seval,↓reduceIte,Za,hi,hj,ho,hoj,hlr]
 refine Zl (t:=true) rfl (fun c15 => ?_) (fun c15=>by cases c15)
 refine Zj [6,7] (Zb Zc [] ?_)
 simp only [push_cast,seval,↓reduceIte,Za]
 refine Zs ?_
 try simp only [Zh,Zf]
 refine Zu (P:=Try.prog) (.inr rfl) hU [.val (.int .i64 0),.val (.bool false)] (Nat.le_refl _) ?_
 simp only [push_cast,seval,↓reduceIte,Za,Try.results91]
theorem Z5f {O:Objs} {n i j:Nat} {L:List NR} {size left s k:Int} {x:NR} (hi:i < n) (hj:j < n) (hν:∀ y∈L,y.1 < n) (hij:i≠j) (hiν:i≠x.1) (hjν:j≠x.1)
  (ho:O i=some ⟨false,80,3,1,[.row j L.length,.val (.int .i64 size),.val (.int .i64 left)]⟩) (hoj:O j=some ⟨true,22,1,L.length,fl eN L⟩) (hL:∀ x∈L,O x.1=some ⟨true,58,1,x.2.length,fl (eI .u64) x.2⟩) (hx:Zv L s=some x)
  (hk:0≤k) (hk2:k≤left) (hb:(x.2.length:Int)+k≤1000000) (hf:k≤IntKind.i64.wrap (size - (x.2.length:Int))) :
  GTo Try.prog 91 [.ref i 0,.val (.int .i64 s),.val (.int .i64 k)] O n (.tup [.val (.int .i64 (x.2.length:Int)),.val (.bool true)])
   (((O.upd x.1 (some ⟨true,58,1,(zl x.2 k).length,fl (eI .u64) (zl x.2 k)⟩)).upd j (some ⟨true,22,1,(Yc L s (x.1,zl x.2 k)).length,fl eN (Yc L s (x.1,zl x.2 k))⟩)).upd i (some ⟨false,80,3,1,[.row j L.length,.val (.int .i64 size),.val (.int .i64 (IntKind.i64.wrap (left - k)))]⟩)) n:=by
 have hx1:=hν x (Z9 hx)
 have hox:=hL x (Z9 hx)
 refine Yi Zc Try.call91 Try.func91 rfl (Nat.le_of_ble_eq_true rfl) (by omega) fun hU => ?_
 have hlr:∀ i k,Yw O (.row i k)=True:=fun i k=>by simp [Yw]
 have HL:=Zt3 ho hoj hL
 have hth:=Zoz ⟨L.map (·.2),size,left⟩ s
 simp only [List.length_map] at hth
 show W _ _ _ _ ⟨35,[],[(0,.ref i 0),(1,.val (.int .i64 s)),(2,.val (.int .i64 k))]⟩ (Zw O n []) _
 rw [Yh hU.fresh]
 refine Zj [0,1,2] (Zb Zc [] ?_)
 simp only [push_cast,seval,↓reduceIte,Za,hi]
 refine Zi ?_
 refine Yk (E':=⟨35,[],[(0,.ref i 0),(1,.val (.int .i64 s)),(2,.val (.int .i64 k)),(30,.val (.bool false))]⟩) (O':=O) (n0:=n) ?_ ?_
 ·have d1:decide (0≤s∧s < (L.length:Int))=true:=decide_eq_true (Xy hx)
  have d2:decide (k < 0)=false:=decide_eq_false (by omega)
  have d3:decide (left < k)=false:=decide_eq_false (by omega)
  have d4:decide (k≤IntKind.i64.wrap (size - (x.2.length:Int)))=true:=decide_eq_true hf
  refine Zb Zc (Zv1 []) ?_
  simp only [push_cast,seval,↓reduceIte,Za,hi,hj,ho,hoj,hlr,d1,d2,d3,d4]
  refine GCalls.lend (Yg hth) rfl (by unfold Kt;exact ⟨_,_,rfl,HL,Kg rfl⟩) ?_
  simp only [push_cast,seval,↓reduceIte,Za,hi,hj,ho,hoj,hlr,d1,d2,d3,d4]
  refine (Znb hi hj ho hoj hx).then ?_
  simp only [push_cast,seval,↓reduceIte,Za,hi,hj,ho,hoj,hlr,d1,d2,d3,d4]
  refine And.intro rfl (Yu hU rfl ?_)
  simp only [push_cast,seval,↓reduceIte,Za,hi,hj,ho,hoj,hlr]
 refine Zl (t:=false) rfl (fun c15=>by cases c15) (fun c15 => ?_)
 refine Zp ?_
 try simp only [Zh,Zf]
 refine Zi ?_
 refine Zb Zc [] ?_
 simp only [push_cast,seval,↓reduceIte,Za,hi,hj,ho,hoj,hlr]
 refine (Ztw hi hj hν hij hiν hjν ho hoj hx hox hk hb).then ?_
 simp only [push_cast,seval,↓reduceIte,Za]
 refine Zs ?_
 try simp only [Zh,Zf]
 refine Zu (P:=Try.prog) (.inr rfl) (((hU.set hx1 (Y7 _)).set hj (Za2 _ fun y hy => ?_)).set hi ?_) [.val (.int .i64 (x.2.length:Int)),.val (.bool true)] (Nat.le_refl _) ?_
 ·rcases List.mem_or_eq_of_mem_set hy with h | h
  ·exact hν y h
  subst h;exact hx1
 ·simp [G.unders,G.under,hj]
 simp only [push_cast,seval,↓reduceIte,Za,Try.results91]
theorem Z4s {O:Objs} {n i j:Nat} {L:List NR} {size left s p v:Int} (hi:i < n) (hj:j < n)
  (ho:O i=some ⟨false,80,3,1,[.row j L.length,.val (.int .i64 size),.val (.int .i64 left)]⟩) (hoj:O j=some ⟨true,22,1,L.length,fl eN L⟩) (hL:∀ x∈L,O x.1=some ⟨true,58,1,x.2.length,fl (eI .u64) x.2⟩) (hb:∀ x∈L,x.2.length≤1000000) (hh:Yj (L.map (·.2)) s p 1=false) :
  GTo Try.prog 123 [.ref i 0,.val (.int .i64 s),.val (.int .i64 p),.val (.int .u64 v)] O n (.val (.bool false)) O n:=by
 refine Yi Zc Try.call123 Try.func123 rfl (Nat.le_of_ble_eq_true rfl) (by omega) fun hU => ?_
 have hlr:∀ i k,Yw O (.row i k)=True:=fun i k=>by simp [Yw]
 have HL:=Zt3 ho hoj hL
 have hth:=(Zyd ⟨L.map (·.2),size,left⟩ s p 1 (fun t ht=>by obtain ⟨x,hx,rfl⟩:=List.mem_map.1 ht;exact hb x hx)).trans (congrArg some hh)
 show W _ _ _ _ ⟨24,[],[(0,.ref i 0),(1,.val (.int .i64 s)),(2,.val (.int .i64 p)),(3,.val (.int .u64 v))]⟩ (Zw O n []) _
 rw [Yh hU.fresh]
 refine Zj [0,1,2,3] (Zb Zc [] ?_)
 simp only [push_cast,seval,↓reduceIte,Za,hi]
 refine Zi ?_
 refine Zj [0,1,2,3,13] (Zb Zc [] ?_)
 simp only [push_cast,seval,↓reduceIte,Za,hi,hj,ho,hoj,hlr]
 refine GCalls.lend (Zd9 hth) rfl (by unfold Kt;exact ⟨_,_,rfl,HL,Kg rfl⟩) ?_
 simp only [push_cast,seval,↓reduceIte,Za,hi,hj,ho,hoj,hlr]
 refine Zl (t:=true) rfl (fun c15 => ?_) (fun c15=>by cases c15)
 refine Zj [8] (Zb Zc [] ?_)
 simp only [push_cast,seval,↓reduceIte,Za]
 refine Zs ?_
 try simp only [Zh,Zf]
 refine Zu (P:=Try.prog) (.inr rfl) hU [.val (.bool false)] (Nat.le_refl _) ?_
 simp only [push_cast,seval,↓reduceIte,Za,Try.results123]
theorem Z4r {O:Objs} {n i j:Nat} {L:List NR} {size left s p v:Int} {x:NR} (hi:i < n) (hj:j < n) (hν:∀ y∈L,y.1 < n)
  (ho:O i=some ⟨false,80,3,1,[.row j L.length,.val (.int .i64 size),.val (.int .i64 left)]⟩) (hoj:O j=some ⟨true,22,1,L.length,fl eN L⟩) (hL:∀ x∈L,O x.1=some ⟨true,58,1,x.2.length,fl (eI .u64) x.2⟩) (hb:∀ x∈L,x.2.length≤1000000) (hx:Zv L s=some x) (hh:Yj (L.map (·.2)) s p 1=true) :
  GTo Try.prog 123 [.ref i 0,.val (.int .i64 s),.val (.int .i64 p),.val (.int .u64 v)] O n (.val (.bool true))
   (O.upd x.1 (some ⟨true,58,1,x.2.length,fl (eI .u64) (Yc x.2 p v)⟩)) n:=by
 have hx1:=hν x (Z9 hx)
 have hox:=hL x (Z9 hx)
 have hp:0≤p∧p < (x.2.length:Int):=by
  have e:Zv (L.map (·.2)) s=some x.2:=Zck hx
  unfold Yj at hh
  rw [e] at hh
  have:=of_decide_eq_true hh
  omega
 refine Yi Zc Try.call123 Try.func123 rfl (Nat.le_of_ble_eq_true rfl) (by omega) fun hU => ?_
 have hlr:∀ i k,Yw O (.row i k)=True:=fun i k=>by simp [Yw]
 have HL:=Zt3 ho hoj hL
 have hth:=(Zyd ⟨L.map (·.2),size,left⟩ s p 1 (fun t ht=>by obtain ⟨x,hx,rfl⟩:=List.mem_map.1 ht;exact hb x hx)).trans (congrArg some hh)
 show W _ _ _ _ ⟨24,[],[(0,.ref i 0),(1,.val (.int .i64 s)),(2,.val (.int .i64 p)),(3,.val (.int .u64 v))]⟩ (Zw O n []) _
 rw [Yh hU.fresh]
 refine Zj [0,1,2,3] (Zb Zc [] ?_)
 simp only [push_cast,seval,↓reduceIte,Za,hi]
 refine Zi ?_
 refine Zj [0,1,2,3,13] (Zb Zc [] ?_)
 simp only [push_cast,seval,↓reduceIte,Za,hi,hj,ho,hoj,hlr]
 refine GCalls.lend (Zd9 hth) rfl (by unfold Kt;exact ⟨_,_,rfl,HL,Kg rfl⟩) ?_
 simp only [push_cast,seval,↓reduceIte,Za,hi,hj,ho,hoj,hlr]
 refine Zl (t:=false) rfl (fun c15=>by cases c15) (fun c15 => ?_)
 refine Zp ?_
 try simp only [Zh,Zf]
 obtain ⟨x2,hx2,ax2,bx2,cx2,h⟩:=bE (f:=eN) (K:=fun y=>some y) (r:=x) Vx (fun _=>rfl) (by decide) (by rw [hx];rfl)
 obtain rfl:x2=x:=Option.some.inj (hx2.symm.trans hx)
 have hE:(eN x2)[0]? = some (.row x2.1 x2.2.length):=rfl
 obtain ⟨w0,hw0⟩:∃ w0,Zv x2.2 p=some w0:=⟨x2.2[p.toNat]'(by omega),by unfold Zv;rw [if_pos hp.1];exact List.getElem?_eq_getElem (by omega)⟩
 have gu:Q9 (fl (eI .u64) x2.2) [.val (.int .u64 v)] (Int.toNat p * 1)=some (fl (eI .u64) (Yc x2.2 p v)):=Ur (f:=eI .u64) (ti:=⟨.bool,1,0,[],false⟩) (x:=v) (fun _=>rfl) (Kw hw0)
 have hpl:=hp.1
 have hpr:=hp.2
 refine Zi ?_
 refine Zb Zc [] ?_
 simp only [push_cast,Nat.reduceAdd,Nat.reduceSub,Nat.reduceMul,Nat.reduceLeDiff,Nat.reduceLT,Nat.reduceEqDiff,↓reduceIte,reduceCtorEq,Int.reduceBEq,Int.reduceBNe,Nat.reduceBEq,Int.reduceLE,Int.reduceLT,Int.reduceEq,Int.reduceNe,Int.reduceNeg,Nat.reduceDiv,Nat.reduceMod,Nat.reducePow,Za,ax2,bx2,cx2,hi,ho,hoj,hj,U0,Zho,hE,hlr,hox,hx1,hpl,hpr,gu]
 refine Zj [8] (Zb Zc [] ?_)
 simp only [push_cast,seval,↓reduceIte,Za]
 refine Zs ?_
 refine Zu (P:=Try.prog) (.inr rfl) (hU.set hx1 (Y7 _)) [.val (.bool true)] (Nat.le_refl _) ?_
 simp only [push_cast,seval,↓reduceIte,Za,Try.results123]
structure PX (H:Nat→GObj) (O:Objs) (n i j:Nat) (L:List NR):Prop where
 hi:i < n
 hj:j < n
 hij:i≠j
 ho:O i=some (H L.length)
 hoj:O j=some ⟨true,22,1,L.length,fl eN L⟩
 lt:∀ x∈L,x.1 < n
 ni:∀ x∈L,i≠x.1
 nj:∀ x∈L,j≠x.1
 hL:∀ x∈L,O x.1=some ⟨true,58,1,x.2.length,fl (eI .u64) x.2⟩
 nd:(L.map (·.1)).Nodup
def ter (i j:Nat) (L:List NR) (t:Nat):Prop:=t=i∨t=j∨∃ x∈L,t=x.1
theorem PX.frame {H:Nat→GObj} {O O':Objs} {n n' i j:Nat} {L:List NR} (h:PX H O n i j L) (hO:∀ t,ter i j L t→O' t=O t) (hn:n≤n'):PX H O' n' i j L :=
 ⟨by have:=h.hi;omega,by have:=h.hj;omega,h.hij,(hO i (.inl rfl)).trans h.ho,(hO j (.inr (.inl rfl))).trans h.hoj,fun x hx=>by have:=h.lt x hx;omega,h.ni,h.nj,fun x hx=>(hO _ (.inr (.inr ⟨x,hx,rfl⟩))).trans (h.hL x hx),h.nd⟩
theorem Zn8 {L:List NR} {s:Int} {x:NR} (hx:Zv L s=some x) (z:List Int):(Yc L s (x.1,z)).map (·.1)=L.map (·.1):=by
 have h:=Zoy (L:=L.map (·.1)) (s:=s) (x:=x.1) (by
  unfold Zv at *
  split at hx
  ·rename_i c;rw [if_pos c,List.getElem?_map,hx];rfl
  cases hx)
 unfold Yc at *
 rw [List.map_set];exact h
theorem Zgj {L:List NR} {s:Int} (a:Nat) (z:List Int):(Yc L s (a,z)).map (·.2)=Yc (L.map (·.2)) s z:=by unfold Yc;rw [List.map_set]
theorem Zvu {α:Type} {L:List α} {s:Int} {y z:α} (h:y∈Yc L s z):y∈L∨y=z:=List.mem_or_eq_of_mem_set h
theorem Zoc {i j t:Nat} {L:List NR} {s:Int} {x:NR} (hx:Zv L s=some x) (z:List Int) (h:ter i j (Yc L s (x.1,z)) t):ter i j L t:=by
 rcases h with h | h | ⟨y,hy,rfl⟩
 ·exact .inl h
 ·exact .inr (.inl h)
 rcases Zvu hy with h | rfl
 ·exact .inr (.inr ⟨y,h,rfl⟩)
 exact .inr (.inr ⟨x,Z9 hx,rfl⟩)
theorem Zah {L:List NR} {s:Int} {x y:NR} (hn:(L.map (·.1)).Nodup) (hx:Zv L s=some x) (z:List Int) (hy:y∈Yc L s (x.1,z)):y=(x.1,z)∨(y∈L∧y.1≠x.1):=by
 obtain ⟨p,hp⟩:=List.getElem?_of_mem hy
 unfold Yc at hp
 rw [List.getElem?_set] at hp
 unfold Zv at hx
 split at hx
 ·by_cases c:s.toNat=p
  ·subst c
   rw [if_pos rfl] at hp
   split at hp
   ·exact .inl (Option.some.inj hp).symm
   cases hp
  rw [if_neg c] at hp
  refine .inr ⟨List.mem_of_getElem? hp,fun e=>c ?_⟩
  have h1:(L.map (·.1))[p]? = some x.1:=by rw [List.getElem?_map,hp];exact congrArg some e
  have h2:(L.map (·.1))[s.toNat]? = some x.1:=by rw [List.getElem?_map,hx];rfl
  obtain ⟨l1,g1⟩:=List.getElem?_eq_some_iff.1 h1
  obtain ⟨l2,g2⟩:=List.getElem?_eq_some_iff.1 h2
  exact (List.getElem_inj (h₀:=l2) (h₁:=l1) hn).1 (g2.trans g1.symm)
 cases hx
theorem PX.set {H:Nat→GObj} {O:Objs} {n i j:Nat} {L:List NR} {s:Int} {x:NR} (h:PX H O n i j L) (hx:Zv L s=some x) (z:List Int) (H':Nat→GObj) :
  PX H' (((O.upd x.1 (some ⟨true,58,1,z.length,fl (eI .u64) z⟩)).upd j (some ⟨true,22,1,L.length,fl eN (Yc L s (x.1,z))⟩)).upd i (some (H' L.length))) n i j (Yc L s (x.1,z)):=by
 have hxm:=Z9 hx
 have e:(Yc L s (x.1,z)).length=L.length:=Xj _ _ _
 refine ⟨h.hi,h.hj,h.hij,by rw [Zo,e],by rw [Zn _ _ (Ne.symm h.hij),Zo,e],fun y hy => ?_,fun y hy => ?_,fun y hy => ?_,fun y hy => ?_,by rw [Zn8 hx];exact h.nd⟩
 ·rcases Zah h.nd hx z hy with rfl | ⟨q,_⟩
  ·exact h.lt x hxm
  exact h.lt y q
 ·rcases Zah h.nd hx z hy with rfl | ⟨q,_⟩
  ·exact h.ni x hxm
  exact h.ni y q
 ·rcases Zah h.nd hx z hy with rfl | ⟨q,_⟩
  ·exact h.nj x hxm
  exact h.nj y q
 rcases Zah h.nd hx z hy with rfl | ⟨q,q2⟩
 ·rw [Zn _ _ (Ne.symm (h.ni x hxm)),Zn _ _ (Ne.symm (h.nj x hxm)),Zo]
 rw [Zn _ _ (Ne.symm (h.ni y q)),Zn _ _ (Ne.symm (h.nj y q)),Zn _ _ q2];exact h.hL y q
theorem Z4b {L:List NR} {s:Int} {x:NR} (hx:Zv L s=some x) {z:List Int} (hz:z.length=x.2.length):fl eN (Yc L s (x.1,z))=fl eN L:=by
 have e:∀ L:List NR,fl eN L=(L.map fun y=>(y.1,y.2.length)).map fun y=>G.row y.1 y.2:=fun L=>by
  induction L with
  | nil=>rfl
  | cons y L ih =>
   rw [List.map_cons,List.map_cons,← ih];rfl
 rw [e,e]
 congr 1
 have h2:=Zoy (L:=L.map fun y=>(y.1,y.2.length)) (s:=s) (x:=(x.1,x.2.length)) (by
  unfold Zv at *
  split at hx
  ·rename_i c;rw [if_pos c,List.getElem?_map,hx];rfl
  cases hx)
 unfold Yc at *
 rw [List.map_set,hz];exact h2
theorem PX.put {H:Nat→GObj} {O:Objs} {n i j:Nat} {L:List NR} {s:Int} {x:NR} (h:PX H O n i j L) (hx:Zv L s=some x) {z:List Int} (hz:z.length=x.2.length) :
  PX H (O.upd x.1 (some ⟨true,58,1,x.2.length,fl (eI .u64) z⟩)) n i j (Yc L s (x.1,z)):=by
 have hxm:=Z9 hx
 have e:(Yc L s (x.1,z)).length=L.length:=Xj _ _ _
 refine ⟨h.hi,h.hj,h.hij,by rw [Zn _ _ (h.ni x hxm),e];exact h.ho,by rw [Zn _ _ (h.nj x hxm),e,Z4b hx hz];exact h.hoj,fun y hy => ?_,fun y hy => ?_,fun y hy => ?_,fun y hy => ?_,by rw [Zn8 hx];exact h.nd⟩
 ·rcases Zah h.nd hx z hy with rfl | ⟨q,_⟩
  ·exact h.lt x hxm
  exact h.lt y q
 ·rcases Zah h.nd hx z hy with rfl | ⟨q,_⟩
  ·exact h.ni x hxm
  exact h.ni y q
 ·rcases Zah h.nd hx z hy with rfl | ⟨q,_⟩
  ·exact h.nj x hxm
  exact h.nj y q
 rcases Zah h.nd hx z hy with rfl | ⟨q,q2⟩
 ·rw [Zo,hz]
 rw [Zn _ _ q2];exact h.hL y q
theorem PX.new {H:Nat→GObj} {O:Objs} {n i j:Nat} {L:List NR} (h:PX H O n i j L) (z:List Int) (H':Nat→GObj) :
  PX H' (((O.upd n (some ⟨true,58,1,z.length,fl (eI .u64) z⟩)).upd j (some ⟨true,22,1,L.length+1,fl eN (L++[(n,z)])⟩)).upd i (some (H' (L.length+1)))) (n+1) i j (L++[(n,z)]):=by
 have e:(L++[(n,z)]).length=L.length+1:=by simp
 have h1:=h.hi
 have h2:=h.hj
 refine ⟨by omega,by omega,h.hij,by rw [Zo,e],by rw [Zn _ _ (Ne.symm h.hij),Zo,e],fun y hy => ?_,fun y hy => ?_,fun y hy => ?_,fun y hy => ?_,?_⟩
 ·rcases List.mem_append.1 hy with q | q
  ·have:=h.lt y q;omega
  rw [List.mem_singleton.1 q];exact Nat.lt_succ_self _
 ·rcases List.mem_append.1 hy with q | q
  ·exact h.ni y q
  rw [List.mem_singleton.1 q];exact Nat.ne_of_lt h1
 ·rcases List.mem_append.1 hy with q | q
  ·exact h.nj y q
  rw [List.mem_singleton.1 q];exact Nat.ne_of_lt h2
 ·rcases List.mem_append.1 hy with q | q
  ·rw [Zn _ _ (Ne.symm (h.ni y q)),Zn _ _ (Ne.symm (h.nj y q)),Zn _ _ (by have:=h.lt y q;omega)];exact h.hL y q
  rw [List.mem_singleton.1 q]
  rw [Zn _ _ (show n≠i by omega),Zn _ _ (show n≠j by omega),Zo]
 rw [List.map_append,List.nodup_append]
 refine ⟨h.nd,by simp,fun a ha b hb => ?_⟩
 obtain ⟨y,hy,rfl⟩:=List.mem_map.1 ha
 have:=h.lt y hy
 simp at hb
 omega
theorem Znr {O:Objs} {i j t:Nat} {L:List NR} {s:Int} {x:NR} (hx:Zv L s=some x) (a b c:Option GObj) (h:¬ ter i j L t):(((O.upd x.1 a).upd j b).upd i c) t=O t:=by
 rw [Zn _ _ (fun e=>h (.inl e)),Zn _ _ (fun e=>h (.inr (.inl e))),Zn _ _ (fun e=>h (.inr (.inr ⟨x,Z9 hx,e⟩)))]
theorem Zyn {O:Objs} {i j t:Nat} {L:List NR} {s:Int} {x:NR} (hx:Zv L s=some x) (a:Option GObj) (h:¬ ter i j L t):(O.upd x.1 a) t=O t:=by
 rw [Zn _ _ (fun e=>h (.inr (.inr ⟨x,Z9 hx,e⟩)))]
theorem Zym {O:Objs} {n i j t:Nat} {L:List NR} (a b c:Option GObj) (h:¬ ter i j L t) (hn:t≠n):(((O.upd n a).upd j b).upd i c) t=O t:=by
 rw [Zn _ _ (fun e=>h (.inl e)),Zn _ _ (fun e=>h (.inr (.inl e))),Zn _ _ hn]
theorem Zy1 {n i j t:Nat} {L:List NR} {z:List Int} (h:ter i j (L++[(n,z)]) t):ter i j L t∨t=n:=by
 rcases h with h | h | ⟨y,hy,rfl⟩
 ·exact .inl (.inl h)
 ·exact .inl (.inr (.inl h))
 rcases List.mem_append.1 hy with q | q
 ·exact .inl (.inr (.inr ⟨y,q,rfl⟩))
 rw [List.mem_singleton.1 q];exact .inr rfl
theorem PX.ter_lt {H:Nat→GObj} {O:Objs} {n i j t:Nat} {L:List NR} (h:PX H O n i j L) (ht:ter i j L t):t < n:=by
 rcases ht with rfl | rfl | ⟨y,hy,rfl⟩
 ·exact h.hi
 ·exact h.hj
 exact h.lt y hy
def HP (j:Nat) (size left:Int) (k:Nat):GObj:=⟨false,80,3,1,[.row j k,.val (.int .i64 size),.val (.int .i64 left)]⟩
def HR (j:Nat) (size most used:Int) (k:Nat):GObj:=⟨false,76,4,1,[.row j k,.val (.int .i64 size),.val (.int .i64 most),.val (.int .i64 used)]⟩
noncomputable def Y1 (segs:List (List Int)) (s p v:Int):List (List Int):=if Yj segs s p 1=true then Yc segs s (Yc ((Zv segs s).getD []) p v) else segs
section
variable {P:Program} {ba:Nat} {Q:GQ} {c:Code}
def Z40 {S:Type} (ba:Nat) (Q:GQ) (F:S→Env) (H:S→Objs) (N:S→Nat) (I:S→Prop) (μ:S→Nat) (s:S):GQ:=fun e E O n =>
 (e = .normal∧∃ s',I s'∧μ s' < μ s∧Fit2 ba E O n (F s') (H s') (N s'))∨(e ≠ .normal∧Q e E O n)
theorem Zc6 {S:Type} (F:S→Env) (H:S→Objs) (N:S→Nat) (I:S→Prop) (μ:S→Nat) (hN:∀ s,I s→ba≤N s)
  (body:∀ s,I s→W P ba c (Z40 ba Q F H N I μ s) (F s) (H s) (N s)) (s0:S) (h0:I s0):W P ba (.loop c) Q (F s0) (H s0) (N s0):=fun hb w0 m0 a0 hM0 hE0=>by
 refine Zyg (fun k a w=>∃ s m,I s∧μ s=k∧Mem w (H s) m (N s)∧Holds w (H s) m (N s) (F s) a∧Ext w0 (H s0) m0 ba w (H s) m (N s)) ?_ (μ s0) a0 w0 ⟨s0,m0,h0,rfl,hM0,hE0,(Ext.refl _ _ _ _).base hb⟩
 rintro k a w ⟨s,m,hs,hk,hM,hE,hX⟩
 subst hk
 refine wp_mono (body s hs (hN s hs) w m a hM hE) fun e a2 w2 ⟨E2,O2,n2,m2,h1,h2,h3,h4⟩ => ?_
 rcases h1 with ⟨rfl,s',hs',hlt,hF⟩ | ⟨hne,hq⟩
 ·obtain ⟨m3,g1,g2,g3⟩:=hF w2 m2 a2 h2 h3
  exact ⟨μ s',hlt,s',m3,hs',rfl,g1,g2,hX.transB (h4.transB g3)⟩
 have:lift w0 (H s0) m0 ba Q e a2 w2:=⟨E2,O2,n2,m2,hq,h2,h3,hX.transB h4⟩
 cases e with
 | normal=>exact absurd rfl hne
 | exit id=>exact this
 | goto l=>exact this
 | ret=>exact this
 | panic ch=>exact this
 | outgrown=>exact this
def GSome (P:Program) (f:FuncId) (gs:List G) (O:Objs) (n:Nat) (R:G→Objs→Nat→Prop):Prop:=∃ r O' n',GTo P f gs O n r O' n'∧R r O' n'
theorem GSome.calls {f:FuncId} {gs:List G} {O:Objs} {n:Nat} {R K:G→Objs→Nat→Prop} (h:GSome P f gs O n R) (hk:∀ r O' n',R r O' n'→K r O' n'):GCalls P f gs O n K:=by
 obtain ⟨r,O',n',h1,h2⟩:=h
 exact h1.then (hk r O' n' h2)
end
section
variable {P:Program} {T:Qi} {O:Objs} {n:Nat} {f:FuncId} {gs:List G} {K:G→Objs→Nat→Prop}
def Zm5 (T:Qi) (rs:List ResultVar) (ba:Nat) (K:G→Objs→Nat→Prop):GQ:=fun e E' O' n'=>∃ r O2 n2,ba≤n2∧K r O2 n2∧Fin T rs r ba O2 n2 e E' O' n'
theorem Zar (hT:Xo P T) {fn:Func} {c:Code} (hc:∀ args w,(callFunc f args).run P w = .ok (.enter f args) w) (hf:P.funcs[f]? = some fn) (hb:fn.body=some c)
  (hn:gs.length≤fn.ntmps) (h:Und O n→W P n c (Zm5 T fn.results.toList n K) ⟨fn.ntmps,[],Zkx 0 gs⟩ (Zw O n []) n):GCalls P f gs O n K:=by
 refine ⟨hc,fun w m vs hM hr => ?_⟩
 have hl:=Xp _ _ hr
 have hU:Und O n:=⟨hM.fresh,fun i o hi=>by obtain ⟨vs,hv,_⟩:=hM.obj i o hi;exact Qu _ _ hv⟩
 have h:=h hU
 rw [Yh hM.fresh] at h
 refine calls_of_wp hf hb (wp_mono (h (Nat.le_refl _) w m { tmps:=vs.toArray++Array.replicate (fn.ntmps - vs.toArray.size) undef,defers:=[] } hM ?_) fun e a' w' ⟨E',O',n',m',h1,h2',h3,h4⟩ => ?_)
 ·have hv:∀ (gs:List G) (vs:List Value) (k:Nat),G.reps w O m n gs vs→∀ t,(k≤t→∀ v,vs[t - k]? = some v→(Y9 (Zkx k gs) t).rep w O m n v)∧(t < k∨k+gs.length≤t→Y9 (Zkx k gs) t = .any):=fun gs=>by
   induction gs with
   | nil =>
    intro vs k hr t
    simp only [G.reps] at hr
    subst hr
    exact ⟨fun _ v hv=>by simp at hv,fun _=>rfl⟩
   | cons g gs ih =>
    intro vs k hr t
    simp only [G.reps] at hr
    obtain ⟨u,us,rfl,h1,h2⟩:=hr
    have:=ih us (k+1) h2 t
    simp only [Zkx,Y9]
    refine ⟨fun hk v hv => ?_,fun ht => ?_⟩
    ·by_cases e:t=k
     ·subst e
      rw [if_pos rfl]
      simp at hv
      subst hv
      exact h1
     rw [if_neg e]
     refine this.1 (by omega) v ?_
     have:t - k=t - (k+1)+1:=by omega
     rw [this] at hv
     simpa using hv
    have e:¬ t=k:=by simp at ht;omega
    rw [if_neg e]
    exact this.2 (by simp at ht;omega)
  have hq:=hv gs vs 0 hr
  have hsz:(vs.toArray++Array.replicate (fn.ntmps - vs.toArray.size) undef).size=fn.ntmps:=by simp;omega
  refine ⟨hsz,fun t v hv => ?_,fun t ht=>(hq t).2 (.inr (by simp only at ht;omega)),rfl⟩
  rcases Nat.lt_or_ge t vs.length with ht | ht
  ·refine (hq t).1 (Nat.zero_le _) v ?_
   have:(vs.toArray++Array.replicate (fn.ntmps - vs.toArray.size) undef)[t]? = vs[t]? := by
    rw [Array.getElem?_append_left (by simpa using ht)];simp
   rw [Nat.sub_zero,← this];exact hv
  rw [(hq t).2 (.inr (by omega))]
  simp [G.rep]
 obtain ⟨r,O2,n2,h2,hK,he,E2,O3,n3,gs',hF2,hg,hL,hwk⟩:=h1
 obtain ⟨m3,h2',h3,hX3⟩:=hF2 w' m' a' h2' h3
 have h4:=h4.transB hX3
 obtain ⟨v,hv,hrep⟩:=Zlb hT h2' h3 hg
 have fin:a'.defers=[]∧∃ v,(results fn a'.tmps).run P w' = .ok v w'∧∃ v_1 g O' n' m',Ending.returned v = .returned v_1∧Mem w' O' m' n'∧Ext w O m n w' O' m' n'∧G.rep w' O' m' n' g v_1∧K g O' n' :=
  ⟨h3.defers,v,hv,v,r,O2,n2,m3,rfl,h2'.weak hL,h4.weak hL h2,Zkf h2' hL _ _ hrep _ hwk,hK⟩
 rcases he with rfl | rfl <;> exact fin
end
noncomputable def Yn (segs:List (List Int)) (s p:Int):List Int→List (List Int)
 | []=>segs
 | w::ws=>Yn (Y1 segs s p w) s (p+1) ws
theorem Z05 {O:Objs} {n i j:Nat} {L:List NR} {size left:Int} (h:PX (HP j size left) O n i j L) (hB:∀ x∈L,x.2.length≤1000000) (s p v:Int) :
  ∃ O' L',GTo Try.prog 123 [.ref i 0,.val (.int .i64 s),.val (.int .i64 p),.val (.int .u64 v)] O n (.val (.bool (Yj (L.map (·.2)) s p 1))) O' n∧PX (HP j size left) O' n i j L'∧L'.map (·.1)=L.map (·.1)∧L'.map (·.2)=Y1 (L.map (·.2)) s p v∧(∀ t,¬ ter i j L t→O' t=O t)∧∀ x∈L',x.2.length≤1000000:=by
 by_cases c:Yj (L.map (·.2)) s p 1=true
 ·obtain ⟨t,ht⟩:∃ t,Zv (L.map (·.2)) s=some t:=by
   unfold Yj at c
   cases e:Zv (L.map (·.2)) s with
   | none=>rw [e] at c;cases c
   | some t=>exact ⟨t,rfl⟩
  have hS:0≤s∧s < (L.length:Int):=by have:=Xy ht;rwa [List.length_map] at this
  have hx0:∃ x,Zv L s=some x:=⟨L[s.toNat]'(by omega),by unfold Zv;rw [if_pos hS.1];exact List.getElem?_eq_getElem (by omega)⟩
  obtain ⟨x,hx⟩:=hx0
  have et:t=x.2:=Option.some.inj (ht.symm.trans (Zck hx))
  subst et
  refine ⟨_,Yc L s (x.1,Yc x.2 p v),by rw [c];exact Z4r h.hi h.hj h.lt h.ho h.hoj h.hL hB hx c,h.put hx (Xj _ _ _),Zn8 hx _,?_,fun t ht=>Zyn hx _ ht,fun y hy => ?_⟩
  ·rw [Zgj]
   unfold Y1
   rw [if_pos c,ht];rfl
  rcases Zvu hy with q | q
  ·exact hB y q
  rw [q];show (Yc x.2 p v).length≤1000000;rw [Xj];exact hB x (Z9 hx)
 have c':Yj (L.map (·.2)) s p 1=false:=by simpa using c
 exact ⟨O,L,by rw [c'];exact Z4s h.hi h.hj h.ho h.hoj h.hL hB c',h,rfl,by unfold Y1;rw [if_neg c],fun _ _=>rfl,hB⟩
end Go.Proofs.Ytaddaloondpnkaa
