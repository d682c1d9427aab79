/- Part A: arenas whose segments are rows of their own; each theorem bears its own conditions. -/
import Derived.Test.YtpggbianhdebmaaUE
namespace Go.Proofs.Ytpggbianhdebmaa
open Go.RowKit
set_option linter.unusedVariables false
set_option linter.unusedSimpArgs false
set_option maxRecDepth 100000
set_option maxHeartbeats 4000000
attribute [local push_cast] Zb2 Zb1 Zcs Zcr Zn Zi Gu Km Kl onW Yi Vg Ka Zel Zdx Uh Ul Ug Uk Zal Zah Uj Zak Zaj Zai Ui Zaf Ky evS wok Xg Op.operands Call.operands gop onK onP atK List.all_cons List.all_nil Bool.and_true Bool.true_and Bool.and_self Value.oneCell' List.take_zero List.take_succ_cons List.take_nil List.drop_zero List.drop_succ_cons List.drop_nil List.append_nil Nat.add_zero Nat.zero_add Qi Zp ev Xo Zhw Zbu Zbt Zbz Zbx Zby Zbv Zbw Zbs Zf7 Zgk Zhz U4 Q8 Gs J3 V6 Vn Jf Jk Kj Kf Ji Ki Kh Kg Jh Kc Jg Jj Qz Ke Zdy Ko Qg Up Qh Zaq U2 Zg8 K5 bHi bMx Q9 Zap Zjl U0 Za4 K7 Xx Zew Zjm Uo Kk Zjn Q7 Zj9 Gx G3 Gw G0 Zch Zcd Zcb V7 Gy Zcg Zcf Zce Gz Zb7 Zca Zb6 Zb9 Ze6 Ze3 Ze2 Zb8 Ze4 Ze5 Zcc Zbo Zex Zad Kx Kw pop TK.isAgg Zcm Zcq Zcl Zcp G7 Zfd Ze9 Zco Zfc Zfb Zfa Zcn Ze8 G.under G.unders List.getD_cons_zero List.getD_cons_succ List.set_cons_zero List.set_cons_succ List.map_cons List.map_nil List.toList_toArray Array.toList_append Option.toArray_none Option.toArray_some Array.toList_map Option.map_some Option.map_none Option.bind_some Option.bind_none List.getElem?_cons_zero List.getElem?_cons_succ List.getElem?_nil List.nil_append List.cons_append List.replicate_succ List.replicate_zero List.length_cons List.length_nil and_true true_and and_false false_and Bool.true_eq_false Bool.false_eq_true forall_const false_implies implies_true IntKind.bits if_true if_false ite_true ite_false eq_self true_implies false_or or_false or_true true_or not_true_eq_false not_false_eq_true decide_true decide_false decide_eq_true_eq decide_eq_false_iff_not beq_iff_eq bne_iff_ne ne_eq Bool.not_eq_true Bool.not_eq_false beq_eq_false_iff_ne bne_eq_false_iff_eq beq_self_eq_true bne_self_eq_false Option.some.injEq exists_eq_left' exists_eq_left ge_iff_le gt_iff_lt decide_not Bool.not_true Bool.not_false imp_self Zey cond_true cond_false Zmh Zmg Bool.not_not Bool.and_false Bool.false_and Bool.or_true Bool.true_or Bool.or_false Bool.false_or Xy Un K4 Jw Q6 Qa Option.join_some Nat.add_assoc Int.toNat_natCast eI eB eS eL Vm K6 Jl Zb5 Zb3 Zb4 Zkl Zkw Vc Jo Zcy Zcw Zcx Zh2 Zeu Zga Zem Zd2 Jz Zec List.length_append G.agg.injEq G.row.injEq G.ref.injEq G.val.injEq G.sl.injEq G.tup.injEq Value.int.injEq Value.bool.injEq Value.string.injEq List.cons.injEq exists_and_left exists_const List.flatten_cons List.flatten_nil Int.le_refl Nat.le_refl Zam Xi Gq Bool.not_eq_true' Bool.not_eq_false' Zdw Vl Zfr Zfv Zfq Zfu Zjk Zjf List.size_toArray Zgs Zfg G.ren G.rens Zff Zat Zcz Zbq Zbr Zag Zfw U6 G.fn.injEq Ux Zao Zdv Zjg Zan Zft Zjj Zji Zjh Zfs Ze7 Zih Option.join_none Zk Q0 undef Za6 Arr.len Arr.put_eq Ub Ua Kt Jn Zcv Zct Zcu onB Zkk Zev X7 V3 Gf Gg Gh Gi Gj Gk V8 Ue Uc Kv Jp Ud Zac Zab Zaa G9 Zkm Zkv Zh1 Zhi Xu Zh0 Zep Uf Ku Zbg Zbf Zic Zjo Zen Uz Za0 Us Ur Gl Gm Gn Gp Vq Vr Vs Vt Vu Vv Vw Vx Vy Vz V0 V1 V2 V4 prT Vo Zne Zfi Znf Zfj Zng Zfk Znh Zfl Zni Zfm Znj Zfn Znk Zfo Znl Zfp Zin Zc1 Zio Zc2 Zip Zc3 Ziq Zc4 Zir Zc5 Zis Zc6 Zit Zc7 Ziu Zc8 Ziv Zc9 Ziw Zda Zix Zdb Ziy Zdc Ziz Gd Zi0 Zdd Zbn Zde Zi1 Zdf Zhp Zdg Zi2 Zdh Zi3 Zdi Zi4 Zdj Jr Uw Zi5 Zdk Zi6 Zdl Zi7 Zdm Zi8 Zdn Zi9 Zdo Zja Zdp Zjb Zdq Zjc Zdr Zjd Zds Zje Zdt Zd Yp Yo Yl Ym Yq Ye Zz Yc Yn Zf Jv Kz Kr Ks K0 Js Xk Jq Yj Qq Qp Ql Qm Qr X8 X6 X5 Qo Ze Xc Xb Y8 Y9 Xd Y5 Y4 Y3 Xa Yg Yf Ya Yb Yh Z7 Z6 Z5 Yd
abbrev NR:=Nat×List Int
def eN (x:NR):List G:=[.row x.1 x.2.length]
theorem Vi (xs:List NR):(fl eN xs).length=xs.length * 1:=Qw (f:=eN) (k:=1) (fun _=>rfl) xs
theorem Zeg (xs:List NR):(fl eN xs).all G.one=true:=Kb (fun x=>by simp [eN,G.one]) xs
theorem Je {k:Nat}:∀ (xs:List NR),(∀ x∈xs,x.1 < k)→G.unders k (fl eN xs)=true
 | [],_=>by simp [fl,G.unders]
 | x::xs,h=>by
  have h1:=h x (by simp)
  have h2:=Je xs (fun y hy=>h y (by simp [hy]))
  show (G.under k (.row x.1 x.2.length) && G.unders k (fl eN xs))=true
  rw [h2,Bool.and_true]
  simpa [G.under] using h1
theorem Und.set {X:Objs} {n i:Nat} (hU:Und X n) {q:GObj} (hi:i < n) (hq:G.unders n q.cells=true):Und (X.upd i (some q)) n:=by
 refine ⟨fun k hk => ?_,fun k o ho => ?_⟩
 ·rw [Zj _ _ (by omega)];exact hU.fresh k hk
 by_cases e:k=i
 ·subst e;rw [Zk] at ho;injection ho with ho;subst ho;exact hq
 rw [Zj _ _ e] at ho;exact hU.und k o ho
theorem Yk {P:Program} {T:X0} {X:Objs} {E:Env} {n n' ba:Nat} {r:G} {rs:List ResultVar} {e:Exit} (he:e = .normal∨e = .ret) (hU:Und X n) (gs:List G) (hb:ba≤n') (h:Zbo T X E rs=some gs∧wk X X n (Zex gs) r):Fin T rs r ba X n e E X n':=by
 have:=X1 (l:=[]) (n':=n') he hU gs hb (by rw [Xe hU.fresh];exact h)
 rwa [Xe hU.fresh] at this
theorem less_self {O:Objs} {n:Nat} (hU:Und O n):LessO O O n:=⟨hU.fresh,fun i o ho=>⟨o,ho,rfl,rfl,rfl,rfl,X9 _ (hU.und i o ho)⟩⟩
theorem Yx {O:Objs} {n:Nat} {E E':Env} (hU:Und O n) (hn:E'.n=E.n) (h:Zd2 O O n E.l E'.l):Fit2 n E O n E' O n:=Fit2.of ⟨hn,less_self hU,h⟩ (Nat.le_refl _)
theorem Zm {O:Objs} {n ba:Nat} {E E':Env} (hU:Und O n) (hb:ba≤n) (hn:E'.n=E.n) (h:Zd2 O O n E.l E'.l):Fit2 ba E O n E' O n:=Fit2.of ⟨hn,less_self hU,h⟩ hb
theorem K9 {O O':Objs} {n:Nat} (hU:Und O' n) (h:∀ t o,O' t=some o→O t=some o):LessO O O' n:=⟨hU.fresh,fun i o ho=>⟨o,h i o ho,rfl,rfl,rfl,rfl,X9 _ (hU.und i o ho)⟩⟩
theorem Und.more {O:Objs} {n n':Nat} (hU:Und O n) (h:n≤n'):Und O n':=⟨fun i hi=>hU.fresh i (by omega),fun i o ho=>Xr h _ (hU.und i o ho)⟩
theorem Zbp (L:List NR) (x:NR):fl eN L++eN x=fl eN (L++[x]):=by unfold fl;simp
theorem Zgw {n:Nat}:∀ (a b:List G),G.unders n a=true→G.unders n b=true→G.unders n (a++b)=true
 | [],b,_,h=>h
 | x::a,b,h,k=>by
  simp only [List.cons_append,G.unders,Bool.and_eq_true] at h ⊢
  exact ⟨h.1,Zgw a b h.2 k⟩
def zl (s:List Int) (k:Int):List Int:=s++List.replicate k.toNat 0
theorem Zsr (s:List Int) (k:Int):fl (eI .u64) s++(List.replicate k.toNat [G.val (.int .u64 0)]).flatten=fl (eI .u64) (zl s k):=by
 unfold zl fl
 rw [List.map_append,List.flatten_append,List.map_replicate]
 rfl
theorem Zh9 (s:List Int) {k:Int}:(zl s k).length=s.length+k.toNat:=by simp [zl]
theorem Zlu {O:Objs} {n i j:Nat} {L:List NR} {size left s k:Int} {x:NR} (hi:i < n) (hj:j < n) (hν:∀ y∈L,y.1 < n) (hij:i≠j) (hiν:i≠x.1) (hjν:j≠x.1)
  (ho:O i=some ⟨false,59,3,1,[.row j L.length,.val (.int .i64 size),.val (.int .i64 left)]⟩) (hoj:O j=some ⟨true,40,1,L.length,fl eN L⟩) (hx:Zv L s=some x)
  (hox:O x.1=some ⟨true,27,1,x.2.length,fl (eI .u64) x.2⟩) (hk:0≤k) (hb:(x.2.length:Int)+k≤1000000) :
  GTo Try.prog 32 [.ref i 0,.val (.int .i64 s),.val (.int .i64 k)] O n (.val (.int .i64 (x.2.length:Int)))
   (((O.upd x.1 (some ⟨true,27,1,(zl x.2 k).length,fl (eI .u64) (zl x.2 k)⟩)).upd j (some ⟨true,40,1,(Yr L s (x.1,zl x.2 k)).length,fl eN (Yr L s (x.1,zl x.2 k))⟩)).upd i (some ⟨false,59,3,1,[.row j L.length,.val (.int .i64 size),.val (.int .i64 (IntKind.i64.wrap (left - k)))]⟩)) n:=by
 refine Xq Zc Try.call32 Try.func32 rfl (Nat.le_of_ble_eq_true rfl) (by omega) fun hU => ?_
 have hxm:x∈L:=by
  unfold Zv at hx
  split at hx
  ·exact List.mem_of_getElem? hx
  cases hx
 have hx1:=hν x hxm
 have hk0:∀ k,i < n+k:=fun k=>by omega
 have hN0:O n=none:=hU.fresh _ (Nat.le_refl _)
 have hN:∀ k,O (n+k)=none:=fun k=>hU.fresh _ (Nat.le_add_right _ _)
 show W _ _ _ _ ⟨40,[],[(0,.ref i 0),(1,.val (.int .i64 s)),(2,.val (.int .i64 k))]⟩ (Zu O n []) _
 rw [Xe hU.fresh]
 refine Zh [0,1,2] (Zb Zc [] ?_)
 simp only [push_cast,seval,↓reduceIte,Za,hi,hk0,hN0,hN]
 obtain ⟨x2,hx2,ax2,bx2,cx2,h⟩:=bE (f:=eN) (K:=fun y=>some y) (r:=x) Jr (fun _=>rfl) (by decide) (by rw [hx];rfl)
 obtain rfl:x2=x:=Option.some.inj (hx2.symm.trans hx)
 have hE:(eN x2)[0]? = some (.row x2.1 x2.2.length):=rfl
 refine Zh [0,1,2,7] (Zb Zc [] ?_)
 simp only [push_cast,Nat.reduceAdd,Nat.reduceSub,Nat.reduceMul,Nat.reduceLeDiff,Nat.reduceLT,Nat.reduceEqDiff,↓reduceIte,reduceCtorEq,Int.reduceBEq,Int.reduceBNe,Nat.reduceBEq,Int.reduceLE,Int.reduceLT,Int.reduceEq,Int.reduceNe,Int.reduceNeg,Nat.reduceDiv,Nat.reduceMod,Nat.reducePow,Za,ax2,bx2,cx2,hi,hk0,hN0,hN,ho,hoj,hj,Vi,Zeg,hE,Yv,hox,hx1]
 refine Zt ?_
 have gu:Jt (fl eN L) [.row x2.1 (zl x2.2 k).length] (Int.toNat s * 1)=some (fl eN (Yr L s (x2.1,zl x2.2 k))):=Zay (f:=eN) (ti:=⟨.bool,1,0,[],false⟩) (x:=(x2.1,zl x2.2 k)) (fun _=>rfl) (Gr hx)
 refine Zjp Zc (by kernel_rfl) [.plain,.low,.low,.low,.plain,.plain,.plain,.plain,.plain,.plain,.plain,.plain,.plain,.pass,.plain,.bar] (fun t=>t=i) [0,1,2,3,4,5,6,7,8,9,10,11,12,13,14,15] [.plain,.low,.low,.low,.plain,.plain,.plain,.plain,.plain,.plain,.plain,.plain,.plain,.pass,.plain,.bar] [] (by kernel_rfl) rfl ?_
 simp only [push_cast,Nat.reduceAdd,Nat.reduceSub,Nat.reduceMul,Nat.reduceLeDiff,Nat.reduceLT,Nat.reduceEqDiff,↓reduceIte,reduceCtorEq,Int.reduceBEq,Int.reduceBNe,Nat.reduceBEq,Int.reduceLE,Int.reduceLT,Int.reduceEq,Int.reduceNe,Int.reduceNeg,Nat.reduceDiv,Nat.reduceMod,Nat.reducePow,Za,ax2,bx2,cx2,hi,hk0,hN0,hN,ho,hoj,hj,Vi,Zeg,hE,Yv,hox,hx1,gu]
 have e1:x2.2.length+k.toNat=(zl x2.2 k).length:=by simp [zl]
 have hoj':∀ o,O.upd x2.1 o j=some ⟨true,40,1,L.length,fl eN L⟩:=fun o=>(Zj O o hjν).trans hoj
 have ho':∀ o,O.upd x2.1 o i=some ⟨false,59,3,1,[.row j L.length,.val (.int .i64 size),.val (.int .i64 left)]⟩:=fun o=>(Zj O o hiν).trans ho
 simp only [Zsr,e1]
 refine ⟨⟨hk,by rw [Zh9];omega,by rw [Zh9];omega⟩,fun t ht=>by subst ht;rw [ho' _,ho],⟨_,hoj' _,rfl,rfl⟩,?_⟩
 simp only [hoj',gu,push_cast,seval,↓reduceIte]
 have ho2:∀ o o',(O.upd x2.1 o).upd j o' i=some ⟨false,59,3,1,[.row j L.length,.val (.int .i64 size),.val (.int .i64 left)]⟩:=fun o o'=>(Zj _ o' hij).trans (ho' o)
 refine Zh [0,2,7] (Zb Zc [] ?_)
 simp only [push_cast,seval,↓reduceIte,Za,hi,ho2]
 refine Zh [6] (Zb Zc [] ?_)
 simp only [push_cast,seval,↓reduceIte,Za]
 refine Yy ?_
 refine Yk (P:=Try.prog) (.inr rfl) (((hU.set hx1 (Yj _)).set hj (Je _ fun y hy => ?_)).set hi ?_) [.val (.int .i64 (x2.2.length:Int))] (Nat.le_refl _) ?_
 ·rcases List.mem_or_eq_of_mem_set hy with h | h
  ·exact hν y h
  subst h;exact hx1
 ·simp [G.unders,G.under,hj]
 simp only [push_cast,seval,↓reduceIte,Za,Try.results32]
theorem Zg2 {O:Objs} {n i j:Nat} {L:List NR} {size left s k:Int} {x:NR} (hi:i < n) (hj:j < n)
  (ho:O i=some ⟨false,59,3,1,[.row j L.length,.val (.int .i64 size),.val (.int .i64 left)]⟩) (hoj:O j=some ⟨true,40,1,L.length,fl eN L⟩) (hx:Zv L s=some x) :
  GTo Try.prog 31 [.ref i 0,.val (.int .i64 s),.val (.int .i64 k)] O n (.val (.bool (decide (k≤IntKind.i64.wrap (size - (x.2.length:Int)))))) O n:=by
 refine Xq Zc Try.call31 Try.func31 rfl (Nat.le_of_ble_eq_true rfl) (by omega) fun hU => ?_
 show W _ _ _ _ ⟨22,[],[(0,.ref i 0),(1,.val (.int .i64 s)),(2,.val (.int .i64 k))]⟩ (Zu O n []) _
 rw [Xe hU.fresh]
 refine Zh [0,1,2] (Zb Zc [] ?_)
 simp only [push_cast,seval,↓reduceIte,Za,hi]
 obtain ⟨x2,hx2,ax2,bx2,cx2,h⟩:=bE (f:=eN) (K:=fun y=>some y) (r:=x) Jr (fun _=>rfl) (by decide) (by rw [hx];rfl)
 obtain rfl:x2=x:=Option.some.inj (hx2.symm.trans hx)
 have hE:(eN x2)[0]? = some (.row x2.1 x2.2.length):=rfl
 have hlr:∀ i k,Yv O (.row i k)=True:=fun i k=>by simp [Yv]
 refine Zh [6] (Qb Zc (by kernel_rfl) [] (by kernel_rfl) ?_)
 simp only [push_cast,Nat.reduceAdd,Nat.reduceSub,Nat.reduceMul,Nat.reduceLeDiff,Nat.reduceLT,Nat.reduceEqDiff,↓reduceIte,reduceCtorEq,Int.reduceBEq,Int.reduceBNe,Nat.reduceBEq,Int.reduceLE,Int.reduceLT,Int.reduceEq,Int.reduceNe,Int.reduceNeg,Nat.reduceDiv,Nat.reduceMod,Nat.reducePow,Za,ax2,bx2,cx2,hi,ho,hoj,hj,Vi,Zeg,hE,hlr]
 refine Yy ?_
 refine Yk (P:=Try.prog) (.inr rfl) hU [.val (.bool (decide (k≤IntKind.i64.wrap (size - (x2.2.length:Int)))))] (Nat.le_refl _) ?_
 simp only [push_cast,seval,↓reduceIte,Za,Try.results31]
theorem Zod {O:Objs} {n i j:Nat} {L:List NR} {size left k:Int} (hi:i < n) (hj:j < n)
  (ho:O i=some ⟨false,59,3,1,[.row j L.length,.val (.int .i64 size),.val (.int .i64 left)]⟩) (hoj:O j=some ⟨true,40,1,L.length,fl eN L⟩) (hk:k < 0∨left < k) :
  GTo Try.prog 19 [.ref i 0,.val (.int .i64 k)] O n (.tup [.val (.int .i64 0),.val (.int .i64 0),.val (.bool false)]) O n:=by
 refine Xq Zc Try.call19 Try.func19 rfl (Nat.le_of_ble_eq_true rfl) (by omega) fun hU => ?_
 have hlr:∀ i k,Yv O (.row i k)=True:=fun i k=>by simp [Yv]
 have hN0:O n=none:=hU.fresh _ (Nat.le_refl _)
 have hN:∀ k,O (n+k)=none:=fun k=>hU.fresh _ (Nat.le_add_right _ _)
 show W _ _ _ _ ⟨61,[],[(0,.ref i 0),(1,.val (.int .i64 k))]⟩ (Zu O n []) _
 rw [Xe hU.fresh]
 refine Zh [0,1] (Zb Zc [] ?_)
 simp only [push_cast,seval,↓reduceIte,Za,hi,hj,ho,hoj,hlr]
 refine Zt ?_
 refine Z0 (E':=⟨61,[],[(0,.ref i 0),(1,.val (.int .i64 k)),(21,.val (.bool true))]⟩) (O':=O) (n0:=n) ?_ ?_
 ·by_cases c:k < 0
  ·have c2:decide (k < 0)=true:=decide_eq_true c
   refine Zb Zc (Zy::Zy::Zr7 []) ?_
   simp only [push_cast,seval,↓reduceIte,Za,hi,hj,ho,hoj,hlr,c2]
   refine And.intro rfl (Yx hU rfl ?_)
   simp only [push_cast,seval,↓reduceIte,Za,hi,hj,ho,hoj,hlr]
  have c2:decide (k < 0)=false:=decide_eq_false c
  have c3:decide (left < k)=true:=decide_eq_true (hk.resolve_left c)
  refine Zb Zc (Zq1 []) ?_
  simp only [push_cast,seval,↓reduceIte,Za,hi,hj,ho,hoj,hlr,c2,c3]
  refine And.intro rfl (Yx hU rfl ?_)
  simp only [push_cast,seval,↓reduceIte,Za,hi,hj,ho,hoj,hlr]
 refine Zg (t:=true) rfl (fun c15 => ?_) (fun c15=>by cases c15)
 refine Zh [4,5,6] (Zb Zc [] ?_)
 simp only [push_cast,seval,↓reduceIte,Za]
 refine Yy ?_
 try simp only [Zn,Zi]
 refine Yk (P:=Try.prog) (.inr rfl) hU [.val (.int .i64 0),.val (.int .i64 0),.val (.bool false)] (Nat.le_refl _) ?_
 simp only [push_cast,seval,↓reduceIte,Za,Try.results19]
theorem Zqt {O:Objs} {n i j:Nat} {L:List NR} {size left k:Int} {x:NR} (hi:i < n) (hj:j < n) (hν:∀ y∈L,y.1 < n) (hij:i≠j) (hiν:i≠x.1) (hjν:j≠x.1)
  (ho:O i=some ⟨false,59,3,1,[.row j L.length,.val (.int .i64 size),.val (.int .i64 left)]⟩) (hoj:O j=some ⟨true,40,1,L.length,fl eN L⟩) (hx:Zv L ((L.length:Int) - 1)=some x)
  (hox:O x.1=some ⟨true,27,1,x.2.length,fl (eI .u64) x.2⟩) (hk:0≤k) (hk2:k≤left) (hb:(x.2.length:Int)+k≤1000000) (hL:L.length≤1000000)
  (hf:k≤IntKind.i64.wrap (size - (x.2.length:Int))∨16≤L.length) :
  GTo Try.prog 19 [.ref i 0,.val (.int .i64 k)] O n (.tup [.val (.int .i64 ((L.length:Int) - 1)),.val (.int .i64 (x.2.length:Int)),.val (.bool true)])
   (((O.upd x.1 (some ⟨true,27,1,(zl x.2 k).length,fl (eI .u64) (zl x.2 k)⟩)).upd j (some ⟨true,40,1,(Yr L ((L.length:Int) - 1) (x.1,zl x.2 k)).length,fl eN (Yr L ((L.length:Int) - 1) (x.1,zl x.2 k))⟩)).upd i (some ⟨false,59,3,1,[.row j L.length,.val (.int .i64 size),.val (.int .i64 (IntKind.i64.wrap (left - k)))]⟩)) n:=by
 have hxm:x∈L:=by
  unfold Zv at hx
  split at hx
  ·exact List.mem_of_getElem? hx
  cases hx
 have hx1:=hν x hxm
 have h0:0 < L.length:=List.length_pos_of_mem hxm
 refine Xq Zc Try.call19 Try.func19 rfl (Nat.le_of_ble_eq_true rfl) (by omega) fun hU => ?_
 have hlr:∀ i k,Yv O (.row i k)=True:=fun i k=>by simp [Yv]
 have hN0:O n=none:=hU.fresh _ (Nat.le_refl _)
 have hN:∀ k,O (n+k)=none:=fun k=>hU.fresh _ (Nat.le_add_right _ _)
 show W _ _ _ _ ⟨61,[],[(0,.ref i 0),(1,.val (.int .i64 k))]⟩ (Zu O n []) _
 rw [Xe hU.fresh]
 refine Zh [0,1] (Zb Zc [] ?_)
 simp only [push_cast,seval,↓reduceIte,Za,hi,hj,ho,hoj,hlr]
 refine Zt ?_
 refine Z0 (E':=⟨61,[],[(0,.ref i 0),(1,.val (.int .i64 k)),(21,.val (.bool false))]⟩) (O':=O) (n0:=n) ?_ ?_
 ·have c2:decide (k < 0)=false:=decide_eq_false (by omega)
  have c3:decide (left < k)=false:=decide_eq_false (by omega)
  refine Zb Zc (Zq1 []) ?_
  simp only [push_cast,seval,↓reduceIte,Za,hi,hj,ho,hoj,hlr,c2,c3]
  refine And.intro rfl (Yx hU rfl ?_)
  simp only [push_cast,seval,↓reduceIte,Za,hi,hj,ho,hoj,hlr]
 refine Zg (t:=false) rfl (fun c15=>by cases c15) (fun c15 => ?_)
 refine Zr ?_
 try simp only [Zn,Zi]
 have hw:IntKind.i64.wrap ((L.length:Int) - 1)=(L.length:Int) - 1:=Gv (by omega)
 refine Zh [0,1,7] (Zb Zc [] ?_)
 simp only [push_cast,seval,↓reduceIte,Za,hi,hj,ho,hoj,hlr,hw]
 refine Z0 (E':=⟨61,[],[(0,.ref i 0),(1,.val (.int .i64 k)),(7,.val (.int .i64 ((L.length:Int) - 1)))]⟩) (O':=O) (n0:=n) ?_ ?_
 ·have c8:decide ((L.length:Int) - 1 < 0)=false:=decide_eq_false (by omega)
  refine Z0 (E':=⟨61,[],[(0,.ref i 0),(1,.val (.int .i64 k)),(7,.val (.int .i64 ((L.length:Int) - 1))),(44,.val (.bool false))]⟩) (O':=O) (n0:=n) ?_ ?_
  ·by_cases c:k≤IntKind.i64.wrap (size - (x.2.length:Int))
   ·have c9:decide (k≤IntKind.i64.wrap (size - (x.2.length:Int)))=true:=decide_eq_true c
    refine Zb Zc (Zty (Zr7 [Zy])) ?_
    simp only [push_cast,seval,↓reduceIte,Za,hi,hj,ho,hoj,hlr,c8,c9]
    refine (Zg2 hi hj ho hoj hx).then ?_
    simp only [push_cast,seval,↓reduceIte,Za,hi,hj,ho,hoj,hlr,c8,c9]
    refine And.intro rfl (Yx hU rfl ?_)
    simp only [push_cast,seval,↓reduceIte,Za,hi,hj,ho,hoj,hlr]
   have c9:decide (k≤IntKind.i64.wrap (size - (x.2.length:Int)))=false:=decide_eq_false c
   have c10:decide ((L.length:Int) < 16)=false:=decide_eq_false (by have:=hf.resolve_left c;omega)
   refine Zb Zc (Zm0 []) ?_
   simp only [push_cast,seval,↓reduceIte,Za,hi,hj,ho,hoj,hlr,c8,c9,c10]
   refine (Zg2 hi hj ho hoj hx).then ?_
   simp only [push_cast,seval,↓reduceIte,Za,hi,hj,ho,hoj,hlr,c8,c9,c10]
   refine And.intro rfl (Yx hU rfl ?_)
   simp only [push_cast,seval,↓reduceIte,Za,hi,hj,ho,hoj,hlr]
  refine Zg (t:=false) rfl (fun c15=>by cases c15) (fun c15 => ?_)
  refine Zr ?_
  refine And.intro rfl (Yx hU rfl ?_)
  simp only [push_cast,seval,↓reduceIte,Za,hi,hj,ho,hoj,hlr]
 refine Zt ?_
 refine Zb Zc [] ?_
 simp only [push_cast,seval,↓reduceIte,Za,hi,hj,ho,hoj,hlr]
 refine (Zlu hi hj hν hij hiν hjν ho hoj hx hox hk hb).then ?_
 simp only [push_cast,seval,↓reduceIte,Za]
 refine Yy ?_
 try simp only [Zn,Zi]
 refine Yk (P:=Try.prog) (.inr rfl) (((hU.set hx1 (Yj _)).set hj (Je _ fun y hy => ?_)).set hi ?_) [.val (.int .i64 ((L.length:Int) - 1)),.val (.int .i64 (x.2.length:Int)),.val (.bool true)] (Nat.le_refl _) ?_
 ·rcases List.mem_or_eq_of_mem_set hy with h | h
  ·exact hν y h
  subst h;exact hx1
 ·simp [G.unders,G.under,hj]
 simp only [push_cast,seval,↓reduceIte,Za,Try.results19]
theorem Zlg {O:Objs} {n i j:Nat} {a b b0 c d e f:Option GObj} (hin:i≠n) (hjn:j≠n) (hij:i≠j):(((((((O.upd j e).upd i f).upd n d).upd j b0).upd n a).upd j b).upd i c)=((O.upd n a).upd j b).upd i c:=by
 funext t
 unfold Objs.upd
 by_cases h1:t=i
 ·rw [if_pos h1,if_pos h1]
 by_cases h2:t=j
 ·simp only [if_neg h1,if_pos h2]
 by_cases h3:t=n
 ·simp only [if_neg h1,if_neg h2,if_pos h3]
 simp only [if_neg h1,if_neg h2,if_neg h3]
theorem Zj8 {O:Objs} {n i j:Nat} {L:List NR} {size left k:Int} (hi:i < n) (hj:j < n) (hν:∀ y∈L,y.1 < n) (hij:i≠j)
  (ho:O i=some ⟨false,59,3,1,[.row j L.length,.val (.int .i64 size),.val (.int .i64 left)]⟩) (hoj:O j=some ⟨true,40,1,L.length,fl eN L⟩) (hk:0≤k) (hk2:k≤left) (hb:k≤1000000) (hL:L.length≤1000000)
  (hf:L.length=0∨L.length < 16∧∃ x,Zv L ((L.length:Int) - 1)=some x∧¬ k≤IntKind.i64.wrap (size - (x.2.length:Int))) :
  GTo Try.prog 19 [.ref i 0,.val (.int .i64 k)] O n (.tup [.val (.int .i64 (L.length:Int)),.val (.int .i64 0),.val (.bool true)])
   (((O.upd n (some ⟨true,27,1,(zl [] k).length,fl (eI .u64) (zl [] k)⟩)).upd j (some ⟨true,40,1,(L++[(n,zl [] k)]).length,fl eN (L++[(n,zl [] k)])⟩)).upd i (some ⟨false,59,3,1,[.row j (L++[(n,zl [] k)]).length,.val (.int .i64 size),.val (.int .i64 (IntKind.i64.wrap (left - k)))]⟩)) (n+1):=by
 refine Xq Zc Try.call19 Try.func19 rfl (Nat.le_of_ble_eq_true rfl) (by omega) fun hU => ?_
 have hlr:∀ i k,Yv O (.row i k)=True:=fun i k=>by simp [Yv]
 have hN0:O n=none:=hU.fresh _ (Nat.le_refl _)
 have hN:∀ k,O (n+k)=none:=fun k=>hU.fresh _ (Nat.le_add_right _ _)
 show W _ _ _ _ ⟨61,[],[(0,.ref i 0),(1,.val (.int .i64 k))]⟩ (Zu O n []) _
 rw [Xe hU.fresh]
 refine Zh [0,1] (Zb Zc [] ?_)
 simp only [push_cast,seval,↓reduceIte,Za,hi,hj,ho,hoj,hlr]
 refine Zt ?_
 refine Z0 (E':=⟨61,[],[(0,.ref i 0),(1,.val (.int .i64 k)),(21,.val (.bool false))]⟩) (O':=O) (n0:=n) ?_ ?_
 ·have c2:decide (k < 0)=false:=decide_eq_false (by omega)
  have c3:decide (left < k)=false:=decide_eq_false (by omega)
  refine Zb Zc (Zq1 []) ?_
  simp only [push_cast,seval,↓reduceIte,Za,hi,hj,ho,hoj,hlr,c2,c3]
  refine And.intro rfl (Yx hU rfl ?_)
  simp only [push_cast,seval,↓reduceIte,Za,hi,hj,ho,hoj,hlr]
 refine Zg (t:=false) rfl (fun c15=>by cases c15) (fun c15 => ?_)
 refine Zr ?_
 try simp only [Zn,Zi]
 have hw:IntKind.i64.wrap ((L.length:Int) - 1)=(L.length:Int) - 1:=Gv (by omega)
 refine Zh [0,1,7] (Zb Zc [] ?_)
 simp only [push_cast,seval,↓reduceIte,Za,hi,hj,ho,hoj,hlr,hw]
 refine Z0 (E':=⟨61,[],[(0,.ref i 0),(1,.val (.int .i64 k)),(7,.val (.int .i64 (L.length:Int)))]⟩) (O':=(((O.upd j (some ⟨true,40,1,L.length+1,fl eN L++[.val (.slice none 0 0)]⟩)).upd i (some ⟨false,59,3,1,[.row j (L.length+1),.val (.int .i64 size),.val (.int .i64 left)]⟩)).upd n (some ⟨true,27,1,0,[]⟩)).upd j (some ⟨true,40,1,L.length+1,fl eN (L++[(n,[])])⟩)) (n0:=n+1) ?_ ?_
 ·refine Z0 (E':=⟨61,[],[(0,.ref i 0),(1,.val (.int .i64 k)),(7,.val (.int .i64 ((L.length:Int) - 1))),(44,.val (.bool true))]⟩) (O':=O) (n0:=n) ?_ ?_
  ·by_cases c:L.length=0
   ·have c8:decide ((L.length:Int) - 1 < 0)=true:=decide_eq_true (by omega)
    refine Zb Zc (Zrp []) ?_
    simp only [push_cast,seval,↓reduceIte,Za,hi,hj,ho,hoj,hlr,c8]
    refine And.intro rfl (Yx hU rfl ?_)
    simp only [push_cast,seval,↓reduceIte,Za,hi,hj,ho,hoj,hlr]
   obtain ⟨hlt,x,hx,hnf⟩:=hf.resolve_left c
   have c8:decide ((L.length:Int) - 1 < 0)=false:=decide_eq_false (by omega)
   have c9:decide (k≤IntKind.i64.wrap (size - (x.2.length:Int)))=false:=decide_eq_false hnf
   have c10:decide ((L.length:Int) < 16)=true:=decide_eq_true (by omega)
   refine Zb Zc (Zm0 []) ?_
   simp only [push_cast,seval,↓reduceIte,Za,hi,hj,ho,hoj,hlr,c8,c9,c10]
   refine (Zg2 hi hj ho hoj hx).then ?_
   simp only [push_cast,seval,↓reduceIte,Za,hi,hj,ho,hoj,hlr,c8,c9,c10]
   refine And.intro rfl (Yx hU rfl ?_)
   simp only [push_cast,seval,↓reduceIte,Za,hi,hj,ho,hoj,hlr]
  refine Zg (t:=true) rfl (fun c15 => ?_) (fun c15=>by cases c15)
  refine Zt ?_
  have h5:∀ o,O.upd n o j=some ⟨true,40,1,L.length,fl eN L⟩:=fun o=>(Zj O o (by omega)).trans hoj
  have h6:∀ o o',(O.upd n o).upd j o' i=some ⟨false,59,3,1,[.row j L.length,.val (.int .i64 size),.val (.int .i64 left)]⟩:=fun o o'=>(Zj _ o' hij).trans ((Zj O o (by omega)).trans ho)
  refine Zb Zc [] ?_
  simp only [push_cast,seval,↓reduceIte,Za,hi,hj,ho,hoj,hlr,hN0,hN,h5,h6]
  refine ⟨⟨by omega,by omega⟩,?_⟩
  have hU1:Und ((O.upd j (some ⟨true,40,1,L.length+1,fl eN L++[.val (.slice none 0 0)]⟩)).upd i (some ⟨false,59,3,1,[.row j (L.length+1),.val (.int .i64 size),.val (.int .i64 left)]⟩)) n :=
   (hU.set hj (Zgw _ _ (Je _ hν) (by simp [G.unders,G.under]))).set hi (by simp [G.unders,G.under,hj])
  refine Zgg (E':=⟨61,[],[(0,.ref i 0),(1,.val (.int .i64 k)),(7,.val (.int .i64 ((L.length:Int) - 1)))]⟩) (O':=((O.upd j (some ⟨true,40,1,L.length+1,fl eN L++[.val (.slice none 0 0)]⟩)).upd i (some ⟨false,59,3,1,[.row j (L.length+1),.val (.int .i64 size),.val (.int .i64 left)]⟩))) (n':=n) (Fit2.of ⟨rfl,K9 hU1 fun t o ht => ?_,?_⟩ (Nat.le_refl _)) ?_
  ·by_cases e1:t=i
   ·subst e1;rw [Zk] at ht ⊢;exact ht
   rw [Zj _ _ e1] at ht ⊢
   by_cases e2:t=j
   ·subst e2;rw [Zk] at ht ⊢;exact ht
   rw [Zj _ _ e2] at ht ⊢
   by_cases e3:t=n
   ·subst e3;rw [hN0] at ht;cases ht
   rw [Zj _ _ e3];exact ht
  ·simp only [push_cast,seval,↓reduceIte,Za,hi,hj]
  refine Zl9 (p:=j) (k:=L.length) (q:=⟨true,40,1,L.length+1,fl eN L++[.val (.slice none 0 0)]⟩) 27 1 (by rw [Zj _ _ (Ne.symm hij),Zk]) (by rw [List.getElem?_append_right (by rw [Vi];omega),Vi];simp) ?_
  have hset:(fl eN L++[G.val (.slice none 0 0)]).set L.length (.row n 0)=fl eN (L++[(n,[])]):=by
   rw [List.set_append_right _ _ (by rw [Vi];omega),Vi,← Zbp];simp [eN]
  simp only [hset]
  have hlt:∀ y∈L++[(n,([]:List Int))],y.1 < n+1:=fun y hy=>by
   rcases List.mem_append.1 hy with h | h
   ·have:=hν y h;omega
   rw [List.mem_singleton.1 h];exact Nat.lt_succ_self _
  have hU2:=((hU1.more (Nat.le_succ n)).set (q:=⟨true,27,1,0,[]⟩) (Nat.lt_succ_self n) (by simp [G.unders])).set (q:=⟨true,40,1,L.length+1,fl eN (L++[(n,[])])⟩) (i:=j) (by omega) (Je _ hlt)
  have hi1:i < n+1:=by omega
  refine Zb Zc [] ?_
  have hw2:IntKind.i64.wrap ((L.length:Int) - 1+1)=(L.length:Int):=by rw [Gv (by omega)];omega
  simp only [push_cast,seval,↓reduceIte,Za,hw2]
  simp only [Zbp]
  refine And.intro rfl (Zm hU2 (Nat.le_succ n) rfl ?_)
  simp only [push_cast,seval,↓reduceIte,Za,hi1]
 refine Zt ?_
 have hi1:i < n+1:=by omega
 refine Zb Zc [] ?_
 simp only [push_cast,seval,↓reduceIte,Za,hi1]
 simp only [Zbp]
 have hin:i≠n:=by omega
 have hjn:j≠n:=by omega
 have hlt:∀ y∈L++[(n,([]:List Int))],y.1 < n+1:=fun y hy=>by
  rcases List.mem_append.1 hy with h | h
  ·have:=hν y h;omega
  rw [List.mem_singleton.1 h];exact Nat.lt_succ_self _
 have hlen:(L++[(n,([]:List Int))]).length=L.length+1:=by simp
 have hget:Zv (L++[(n,([]:List Int))]) (L.length:Int)=some (n,[]):=by
  unfold Zv;rw [if_pos (by omega),Int.toNat_natCast,List.getElem?_append_right (Nat.le_refl _)];simp
 have g:=Zlu (O:=(((O.upd j (some ⟨true,40,1,L.length+1,fl eN L++[.val (.slice none 0 0)]⟩)).upd i (some ⟨false,59,3,1,[.row j (L.length+1),.val (.int .i64 size),.val (.int .i64 left)]⟩)).upd n (some ⟨true,27,1,0,[]⟩)).upd j (some ⟨true,40,1,L.length+1,fl eN (L++[(n,[])])⟩)) (n:=n+1) (i:=i) (j:=j) (L:=L++[(n,[])]) (size:=size) (left:=left) (s:=(L.length:Int)) (k:=k) (x:=(n,[])) (by omega) (by omega) hlt hij hin hjn
  (by rw [Zj _ _ hij,Zj _ _ hin,Zk,hlen]) (by rw [Zk,hlen]) hget (by rw [Zj _ _ (Ne.symm hjn),Zk];rfl) hk (by simp;omega)
 refine g.then ?_
 simp only [push_cast,seval,↓reduceIte,Za]
 have hs:Yr (L++[(n,([]:List Int))]) (L.length:Int) (n,zl [] k)=L++[(n,zl [] k)]:=by
  unfold Yr;rw [Int.toNat_natCast,List.set_append_right _ _ (Nat.le_refl _)];simp
 have hlt2:∀ y∈L++[(n,zl [] k)],y.1 < n+1:=fun y hy=>by
  rcases List.mem_append.1 hy with h | h
  ·have:=hν y h;omega
  rw [List.mem_singleton.1 h];exact Nat.lt_succ_self _
 simp only [hs,Zbp,Zlg hin hjn hij]
 refine Yy ?_
 try simp only [Zn,Zi]
 refine Yk (P:=Try.prog) (.inr rfl) ((((hU.more (Nat.le_succ n)).set (Nat.lt_succ_self n) (Yj _)).set (by omega) (Je _ hlt2)).set (by omega) ?_) [.val (.int .i64 (L.length:Int)),.val (.int .i64 0),.val (.bool true)] (Nat.le_succ _) ?_
 ·have:j < n+1:=by omega
  simp [G.unders,G.under,this]
 simp only [push_cast,seval,↓reduceIte,Za,Try.results19]
def Zk4:List Oper→List Nat→List Nat
 | [],acc=>acc
 | o::l,acc=>Zk4 l (acc++[(o.after.toList.filter fun e=>Region.binds .any e).foldr (fun e m=>m ||| (1 <<< e.on ||| acc.getD e.on 0)) 0])
def Zm2 (ops:List Oper):Bool :=
 let B:=Zk4 ops []
 (List.range ops.length).all fun i=>match ops[i]? with
  | none=>true
  | some o=>(o.after.toList.all fun e => !Region.binds .any e || e.on < i) &&
   (List.range i).all fun j=>match ops[j]? with
    | none=>true
    | some y=>Zge ops o y || (B.getD i 0).testBit j
theorem Zoz (acc:List (List Nat)) (am:List Nat) (h:∀ i j,(am.getD i 0).testBit j=(acc.getD i []).contains j) (L:List Edge) (j:Nat) :
  (L.foldr (fun e m=>m ||| (1 <<< e.on ||| am.getD e.on 0)) 0).testBit j=(L.flatMap fun e=>e.on::acc.getD e.on []).contains j:=by
 induction L with
 | nil=>simp
 | cons e L ih =>
  rw [List.foldr_cons,List.flatMap_cons,Nat.testBit_or,Nat.testBit_or,ih,h,Nat.one_shiftLeft,Nat.testBit_two_pow,Bool.eq_iff_iff]
  simp only [Bool.or_eq_true,decide_eq_true_eq,List.contains_iff_mem,List.cons_append,List.mem_cons,List.mem_append]
  constructor
  ·rintro (h | h | h)
   ·exact .inr (.inr h)
   ·exact .inl h.symm
   exact .inr (.inl h)
  rintro (h | h | h)
  ·exact .inr (.inl h.symm)
  ·exact .inr (.inr h)
  exact .inl h
theorem Zme:∀ (l:List Oper) (acc:List (List Nat)) (am:List Nat),am.length=acc.length→(∀ i j,(am.getD i 0).testBit j=(acc.getD i []).contains j)→∀ i j,((Zk4 l am).getD i 0).testBit j=((Um l acc).getD i []).contains j
 | [],acc,am,_,h,i,j=>by simpa [Um,Zk4] using h i j
 | o::l,acc,am,hl,h,i,j=>by
  rw [Um,Zk4]
  refine Zme l _ _ (by simp [hl]) (fun i j => ?_) i j
  rcases Nat.lt_trichotomy i acc.length with hi | hi | hi
  ·have h1:=h i j
   simp only [List.getD_eq_getElem?_getD] at h1 ⊢
   rw [List.getElem?_append_left (by omega),List.getElem?_append_left hi];exact h1
  ·subst hi
   simp only [List.getD_eq_getElem?_getD,List.getElem?_append_right (Nat.le_refl _),Nat.sub_self,← hl]
   have:=Zoz acc am h (o.after.toList.filter fun e=>Region.binds .any e) j
   simpa [List.getD_eq_getElem?_getD,hl] using this
  simp only [List.getD_eq_getElem?_getD]
  rw [List.getElem?_eq_none (by simp;omega),List.getElem?_eq_none (by simp;omega)];simp
theorem Y2 {ops:List Oper} (h:Zm2 ops=true):Zf2 ops=true:=by
 have key:∀ i j,((Zk4 ops []).getD i 0).testBit j=((Um ops []).getD i []).contains j:=Zme ops [] [] rfl (fun i j=>by simp)
 unfold Zm2 at h
 unfold Zf2
 simp only [key] at h
 exact h
def sw (r M i:Nat):Nat:=if i=r then M else if i=M then r else i
theorem Qn {r M i:Nat} (h1:i≠r) (h2:i≠M):sw r M i=i:=by unfold sw;rw [if_neg h1,if_neg h2]
theorem Zqc (r M:Nat):sw r M r=M:=by unfold sw;rw [if_pos rfl]
theorem Zqb {r M:Nat}:sw r M M=r:=by
 unfold sw
 by_cases h:M=r
 ·rw [if_pos h];exact h
 rw [if_neg h,if_pos rfl]
theorem Zqd (r M i:Nat):sw r M (sw r M i)=i:=by
 by_cases h1:i=r
 ·subst h1;rw [Zqc,Zqb]
 by_cases h2:i=M
 ·subst h2;rw [Zqb,Zqc]
 rw [Qn h1 h2,Qn h1 h2]
theorem Zs4 {r M i:Nat} (hr:r < M) (h:i < M+1):sw r M i < M+1:=by
 by_cases h1:i=r
 ·subst h1;rw [Zqc];omega
 by_cases h2:i=M
 ·subst h2;rw [Zqb];omega
 rw [Qn h1 h2];exact h
theorem Znd {O O':Objs} {ba r M:Nat} {E:Env} (hb:ba≤r) (hr:r < M) (hf:∀ j,M < j→O' j=none)
  (hO:∀ j q',O' j=some q'→∃ q,O (sw r M j)=some q∧q'.row=q.row∧q'.ty=q.ty∧q'.sz=q.sz∧q'.n=q.n∧(q'.cells=G.rens (sw r M) q.cells∨(q'.cells=q.cells∧G.unders ba q.cells=true)))
  (hE:Zff (sw r M) E.l=E.l):Fit2 ba E O (M+1) E O' (M+1):=by
 intro w m a hM hh
 have hle:∀ j,j < M+1→sw r M j < M+1:=fun j hj=>Zs4 hr hj
 have hR:Ren ba (sw r M) O m (M+1) O' (fun j=>m (sw r M j)) (M+1):=by
  refine ⟨by omega,hle,fun j hj=>hf j (by omega),fun i _ o' ho' => ?_,fun i hi o' ho' => ?_,fun j o' ho' => ?_⟩
  ·obtain ⟨q,h1,h2,_,_,h3,_⟩:=hO _ o' ho'
   rw [Zqd] at h1
   exact ⟨q,h1,h2,h3,by simp only [Zqd]⟩
  ·obtain ⟨q,h1,h2,_,_,h3,_⟩:=hO _ o' ho'
   have e:sw r M i=i:=Qn (by omega) (by omega)
   rw [e] at h1
   exact ⟨q,h1,h2,h3,by simp only [e]⟩
  have hj:j < M+1:=by
   rcases Nat.lt_or_ge j (M+1) with h | h
   ·exact h
   rw [hf j (by omega)] at ho';cases ho'
  obtain ⟨q,h1,h2,h3,h4,h5,h6⟩:=hO j o' ho'
  exact ⟨sw r M j,q,hle j hj,h1,Zqd r M j,rfl,h2,h3,h4,h5,h6⟩
 have e:(⟨E.n,E.keep,Zff (sw r M) E.l⟩:Env)=E:=by rw [hE]
 exact ⟨_,hR.mem hM,e ▸ hR.holds hh,hR.ext⟩
def inn (segs:List (List Int)):List (Option GObj):=(List.range 16).map fun j=>segs[j]?.map fun s=>⟨true,27,1,s.length,fl (eI .u64) s⟩
def XO (O:Objs) (n:Nat) (segs:List (List Int)):Objs:=Zu O n (inn segs)
def J4 (n:Nat) (segs:List (List Int)):List NR:=segs.mapIdx fun j s=>(n+j,s)
theorem J9 (n:Nat) (segs:List (List Int)):(J4 n segs).length=segs.length:=by simp [J4]
theorem Zpy (n:Nat) (segs:List (List Int)) (z:List Int):J4 n (segs++[z])=J4 n segs++[(n+segs.length,z)]:=by simp [J4,List.mapIdx_append]
theorem Zki (n:Nat) (segs:List (List Int)) (p:Nat):(J4 n segs)[p]? = segs[p]?.map fun s=>(n+p,s):=by simp [J4]
theorem Zqu (segs:List (List Int)):(inn segs).length=16:=by simp [inn]
theorem Zr3 (segs:List (List Int)) (p:Nat) (h:p < 16):((inn segs)[p]?).join=segs[p]?.map fun s=>⟨true,27,1,s.length,fl (eI .u64) s⟩:=by
 simp [inn,h]
theorem Zd1 {O:Objs} {n i:Nat} {segs:List (List Int)} (h:i < n):XO O n segs i=O i:=Xi _ h
theorem Zia {O:Objs} {n:Nat} {segs:List (List Int)} (p:Nat) (h:p < 16):XO O n segs (n+p)=segs[p]?.map fun s=>⟨true,27,1,s.length,fl (eI .u64) s⟩:=by
 unfold XO;rw [Xy,Zr3 _ _ h]
theorem Zpm {O:Objs} {n i:Nat} {segs:List (List Int)} (h:n+16≤i):XO O n segs i=none:=by
 unfold XO Zu;rw [if_neg (by omega),List.getElem?_eq_none (by rw [Zqu];omega)];rfl
theorem Zli {O:Objs} {n:Nat} (hU:Und O n) (segs:List (List Int)):Und (XO O n segs) (n+16):=by
 refine ⟨fun i hi=>Zpm hi,fun i o ho => ?_⟩
 by_cases h:i < n
 ·rw [Zd1 h] at ho;exact Xr (by omega) _ (hU.und i o ho)
 by_cases h2:i < n+16
 ·obtain ⟨p,rfl⟩:∃ p,i=n+p:=⟨i - n,by omega⟩
  rw [Zia p (by omega)] at ho
  cases e:segs[p]? with
  | none=>rw [e] at ho;cases ho
  | some s=>rw [e] at ho;have:=Option.some.inj ho;subst this;exact Yj _
 rw [Zpm (by omega)] at ho;cases ho
theorem Zpn {O:Objs} {n:Nat} (hU:Und O n):XO O n []=O:=by
 funext i
 by_cases h:i < n
 ·exact Zd1 h
 rw [hU.fresh i (by omega)]
 by_cases h2:i < n+16
 ·obtain ⟨p,rfl⟩:∃ p,i=n+p:=⟨i - n,by omega⟩
  rw [Zia p (by omega)];rfl
 exact Zpm (by omega)
theorem Zjv (ρ:Nat→Nat):∀ L:List NR,G.rens ρ (fl eN L)=fl eN (L.map fun x=>(ρ x.1,x.2))
 | []=>rfl
 | x::L=>by
  show G.rens ρ (.row x.1 x.2.length::fl eN L) = .row (ρ x.1) x.2.length::fl eN (L.map fun x=>(ρ x.1,x.2))
  rw [G.rens,Zjv ρ L];rfl
theorem Zog {n M r:Nat} {segs:List (List Int)} (hr:r=n+segs.length) (hM:n+segs.length < M):(J4 n segs).map (fun x=>(sw r M x.1,x.2))=J4 n segs:=by
 apply List.ext_getElem?
 intro i
 rw [List.getElem?_map,Zki]
 cases e:segs[i]? with
 | none=>rfl
 | some s =>
  obtain ⟨hl,_⟩:=List.getElem?_eq_some_iff.1 e
  simp only [Option.map_some]
  rw [Qn (by omega) (by omega)]
theorem Zpa {O:Objs} {n N:Nat} {E:Env} (hU:Und O n) (h:n≤N) (hE:Zd2 O O N E.l E.l):Fit2 n E O n E O N:=Fit2.of ⟨rfl,⟨fun i hi=>hU.fresh i (by omega),fun i o ho=>⟨o,ho,rfl,rfl,rfl,rfl,X9 _ (Xr h _ (hU.und i o ho))⟩⟩,hE⟩ h
def Za7 (segs:List (List Int)):List Int:=(segs[segs.length - 1]?).getD []
open Classical in
noncomputable def Zgb (segs:List (List Int)) (size left k:Int):Int×Int×Bool×List (List Int)×Int :=
 if k < 0∨left < k then (0,0,false,segs,left)
 else if segs.length=0∨segs.length < 16∧¬ k≤IntKind.i64.wrap (size - ((Za7 segs).length:Int)) then ((segs.length:Int),0,true,segs++[zl [] k],IntKind.i64.wrap (left - k))
 else ((segs.length:Int) - 1,((Za7 segs).length:Int),true,segs.set (segs.length - 1) (zl (Za7 segs) k),IntKind.i64.wrap (left - k))
end Go.Proofs.Ytpggbianhdebmaa
