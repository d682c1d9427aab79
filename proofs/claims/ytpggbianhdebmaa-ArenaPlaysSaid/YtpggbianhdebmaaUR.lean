/- Part R: the reference: words at the end of a segment; each theorem bears its own conditions. -/
import Derived.Test.YtpggbianhdebmaaUB
namespace Go.Proofs.Ytpggbianhdebmaa
open Go.RowKit
set_option linter.unusedVariables false
set_option linter.unusedSimpArgs false
set_option maxRecDepth 100000
set_option maxHeartbeats 4000000
attribute [local push_cast] Zb2 Zb1 Zcs Zcr Zn Zi Gu Km Kl onW Yi Vg Ka Zel Zdx Uh Ul Ug Uk Zal Zah Uj Zak Zaj Zai Ui Zaf Ky evS wok Xg Op.operands Call.operands gop onK onP atK List.all_cons List.all_nil Bool.and_true Bool.true_and Bool.and_self Value.oneCell' List.take_zero List.take_succ_cons List.take_nil List.drop_zero List.drop_succ_cons List.drop_nil List.append_nil Nat.add_zero Nat.zero_add Qi Zp ev Xo Zhw Zbu Zbt Zbz Zbx Zby Zbv Zbw Zbs Zf7 Zgk Zhz U4 Q8 Gs J3 V6 Vn Jf Jk Kj Kf Ji Ki Kh Kg Jh Kc Jg Jj Qz Ke Zdy Ko Qg Up Qh Zaq U2 Zg8 K5 bHi bMx Q9 Zap Zjl U0 Za4 K7 Xx Zew Zjm Uo Kk Zjn Q7 Zj9 Gx G3 Gw G0 Zch Zcd Zcb V7 Gy Zcg Zcf Zce Gz Zb7 Zca Zb6 Zb9 Ze6 Ze3 Ze2 Zb8 Ze4 Ze5 Zcc Zbo Zex Zad Kx Kw pop TK.isAgg Zcm Zcq Zcl Zcp G7 Zfd Ze9 Zco Zfc Zfb Zfa Zcn Ze8 G.under G.unders List.getD_cons_zero List.getD_cons_succ List.set_cons_zero List.set_cons_succ List.map_cons List.map_nil List.toList_toArray Array.toList_append Option.toArray_none Option.toArray_some Array.toList_map Option.map_some Option.map_none Option.bind_some Option.bind_none List.getElem?_cons_zero List.getElem?_cons_succ List.getElem?_nil List.nil_append List.cons_append List.replicate_succ List.replicate_zero List.length_cons List.length_nil and_true true_and and_false false_and Bool.true_eq_false Bool.false_eq_true forall_const false_implies implies_true IntKind.bits if_true if_false ite_true ite_false eq_self true_implies false_or or_false or_true true_or not_true_eq_false not_false_eq_true decide_true decide_false decide_eq_true_eq decide_eq_false_iff_not beq_iff_eq bne_iff_ne ne_eq Bool.not_eq_true Bool.not_eq_false beq_eq_false_iff_ne bne_eq_false_iff_eq beq_self_eq_true bne_self_eq_false Option.some.injEq exists_eq_left' exists_eq_left ge_iff_le gt_iff_lt decide_not Bool.not_true Bool.not_false imp_self Zey cond_true cond_false Zmh Zmg Bool.not_not Bool.and_false Bool.false_and Bool.or_true Bool.true_or Bool.or_false Bool.false_or Xy Un K4 Jw Q6 Qa Option.join_some Nat.add_assoc Int.toNat_natCast eI eB eS eL Vm K6 Jl Zb5 Zb3 Zb4 Zkl Zkw Vc Jo Zcy Zcw Zcx Zh2 Zeu Zga Zem Zd2 Jz Zec List.length_append G.agg.injEq G.row.injEq G.ref.injEq G.val.injEq G.sl.injEq G.tup.injEq Value.int.injEq Value.bool.injEq Value.string.injEq List.cons.injEq exists_and_left exists_const List.flatten_cons List.flatten_nil Int.le_refl Nat.le_refl Zam Xi Gq Bool.not_eq_true' Bool.not_eq_false' Zdw Vl Zfr Zfv Zfq Zfu Zjk Zjf List.size_toArray Zgs Zfg G.ren G.rens Zff Zat Zcz Zbq Zbr Zag Zfw U6 G.fn.injEq Ux Zao Zdv Zjg Zan Zft Zjj Zji Zjh Zfs Ze7 Zih Option.join_none Zk Q0 undef Za6 Arr.len Arr.put_eq Ub Ua Kt Jn Zcv Zct Zcu onB Zkk Zev X7 V3 Gf Gg Gh Gi Gj Gk V8 Ue Uc Kv Jp Ud Zac Zab Zaa G9 Zkm Zkv Zh1 Zhi Xu Zh0 Zep Uf Ku Zbg Zbf Zic Zjo Zen Uz Za0 Us Ur Gl Gm Gn Gp Vq Vr Vs Vt Vu Vv Vw Vx Vy Vz V0 V1 V2 V4 prT Vo Zne Zfi Znf Zfj Zng Zfk Znh Zfl Zni Zfm Znj Zfn Znk Zfo Znl Zfp Zin Zc1 Zio Zc2 Zip Zc3 Ziq Zc4 Zir Zc5 Zis Zc6 Zit Zc7 Ziu Zc8 Ziv Zc9 Ziw Zda Zix Zdb Ziy Zdc Ziz Gd Zi0 Zdd Zbn Zde Zi1 Zdf Zhp Zdg Zi2 Zdh Zi3 Zdi Zi4 Zdj Jr Uw Zi5 Zdk Zi6 Zdl Zi7 Zdm Zi8 Zdn Zi9 Zdo Zja Zdp Zjb Zdq Zjc Zdr Zjd Zds Zje Zdt Zd Yp Yo Yl Ym Yq Ye Zz Yc Yn Zf Jv Kz Kr Ks K0 Js Xk Jq Yj Qq Qp Ql Qm Qr X8 X6 X5 Qo Ze Xc Xb Y8 Y9 Xd Y5 Y4 Y3 Xa Yg Yf Ya Yb Yh Z7 Z6 Z5 Yd
theorem Zj6 {α:Type} {L:List α} {s:Int} {x y:α} (h:Zv L s=some x):Zv (Yr L s y) s=some y:=by
 unfold Zv Yr at *
 split at h
 ·rename_i c
  obtain ⟨hl,_⟩:=List.getElem?_eq_some_iff.1 h
  rw [if_pos c,List.getElem?_set_self hl]
 cases h
theorem Zh7 {α:Type} {L:List α} {s:Int} {x:α} (h:Zv L s=some x):Yr L s x=L:=by
 unfold Zv Yr at *
 split at h
 ·obtain ⟨hl,he⟩:=List.getElem?_eq_some_iff.1 h
  rw [← he];exact List.set_getElem_self hl
 cases h
theorem Zpe {α:Type} (L:List α) (s:Int) (x y:α):Yr (Yr L s x) s y=Yr L s y:=by simp [Yr]
theorem Zov (s:List Int):zl s 0=s:=by simp [zl]
theorem Zrh (s:List Int) {t:Int} (h:0≤t):zl s t++[0]=zl s (t+1):=by
 unfold zl
 rw [show (t+1).toNat=t.toNat+1 by omega,List.replicate_succ',List.append_assoc]
noncomputable def Zqm (k t:Int):Option (Int ⊕ Int):=if t < 0 then none else if t < k then some (.inl (t+1)) else some (.inr t)
theorem Zpo {k:Int} (h:0≤k):Qk (Zqm k) 0=some k:=by
 obtain ⟨r,h1,h2⟩:=Zej (step:=Zqm k) (fun t=>0≤t∧t≤k) (fun t=>(k - t).toNat) (fun r=>r=k) (fun t ht=>by
  unfold Zqm
  by_cases c:t < k
  ·exact .inl ⟨_,(if_neg (by omega)).trans (if_pos c),⟨by omega,by omega⟩,by omega⟩
  exact .inr ⟨_,(if_neg (by omega)).trans (if_neg c),by omega⟩) 0 ⟨Int.le_refl _,h⟩
 rw [h1,h2]
theorem Znq {O:Objs} {n i j:Nat} {L:List NR} {size most used s k:Int} {x:NR} (hi:i < n) (hj:j < n) (hν:∀ y∈L,y.1 < n) (hij:i≠j) (hiν:i≠x.1) (hjν:j≠x.1)
  (ho:O i=some ⟨false,34,4,1,[.row j L.length,.val (.int .i64 size),.val (.int .i64 most),.val (.int .i64 used)]⟩) (hoj:O j=some ⟨true,40,1,L.length,fl eN L⟩) (hx:Zv L s=some x)
  (hox:O x.1=some ⟨true,27,1,x.2.length,fl (eI .u64) x.2⟩) (hk:0≤k) (hb:(x.2.length:Int)+k≤1000000) :
  GTo Try.prog 33 [.ref i 0,.val (.int .i64 s),.val (.int .i64 k)] O n (.val (.int .i64 (x.2.length:Int)))
   (((O.upd x.1 (some ⟨true,27,1,(zl x.2 k).length,fl (eI .u64) (zl x.2 k)⟩)).upd j (some ⟨true,40,1,L.length,fl eN (Yr L s (x.1,zl x.2 k))⟩)).upd i (some ⟨false,34,4,1,[.row j L.length,.val (.int .i64 size),.val (.int .i64 most),.val (.int .i64 (IntKind.i64.wrap (used+k)))]⟩)) n:=by
 refine Xq Zc Try.call33 Try.func33 rfl (Nat.le_of_ble_eq_true rfl) (by omega) fun hU => ?_
 have hxm:x∈L:=by
  unfold Zv at hx
  split at hx
  ·exact List.mem_of_getElem? hx
  cases hx
 have hx1:=hν x hxm
 have hN0:O n=none:=hU.fresh _ (Nat.le_refl _)
 have hN:∀ k,O (n+k)=none:=fun k=>hU.fresh _ (Nat.le_add_right _ _)
 have hlr:∀ i k,Yv O (.row i k)=True:=fun i k=>by simp [Yv]
 show W _ _ _ _ ⟨47,[],[(0,.ref i 0),(1,.val (.int .i64 s)),(2,.val (.int .i64 k))]⟩ (Zu O n []) _
 rw [Xe hU.fresh]
 refine Zh [0,1,2] (Zb Zc [] ?_)
 simp only [push_cast,seval,↓reduceIte,Za,hi,hN0,hN]
 obtain ⟨x2,hx2,ax2,bx2,cx2,h⟩:=bE (f:=eN) (K:=fun y=>some y) (r:=x) Jr (fun _=>rfl) (by decide) (by rw [hx];rfl)
 obtain rfl:x2=x:=Option.some.inj (hx2.symm.trans hx)
 have hE:(eN x2)[0]? = some (.row x2.1 x2.2.length):=rfl
 refine Zh [0,1,2,7] (Zb Zc [] ?_)
 simp only [push_cast,Nat.reduceAdd,Nat.reduceSub,Nat.reduceMul,Nat.reduceLeDiff,Nat.reduceLT,Nat.reduceEqDiff,↓reduceIte,reduceCtorEq,Int.reduceBEq,Int.reduceBNe,Nat.reduceBEq,Int.reduceLE,Int.reduceLT,Int.reduceEq,Int.reduceNe,Int.reduceNeg,Nat.reduceDiv,Nat.reduceMod,Nat.reducePow,Za,ax2,bx2,cx2,hi,hN0,hN,ho,hoj,hj,Vi,Zeg,hE,Yv,hox,hx1]
 refine Zt ?_
 refine Zh [0,1,2,7,8] (Zb Zc [] ?_)
 simp only [push_cast,seval,↓reduceIte,Za,hi,hN0,hN]
 obtain ⟨OX,hOX⟩:∃ OX:Int→Objs,OX=fun t=>(O.upd x2.1 (some ⟨true,27,1,(zl x2.2 t).length,fl (eI .u64) (zl x2.2 t)⟩)).upd j (some ⟨true,40,1,L.length,fl eN (Yr L s (x2.1,zl x2.2 t))⟩):=⟨_,rfl⟩
 have hlS:∀ t,(Yr L s (x2.1,zl x2.2 t)).length=L.length:=fun t=>by simp [Yr]
 have gS:∀ t,Zv (Yr L s (x2.1,zl x2.2 t)) s=some (x2.1,zl x2.2 t):=fun t=>Zj6 hx
 have hOi:∀ t,OX t i=some ⟨false,34,4,1,[.row j L.length,.val (.int .i64 size),.val (.int .i64 most),.val (.int .i64 used)]⟩:=fun t=>by rw [hOX];exact (Zj _ _ hij).trans ((Zj _ _ hiν).trans ho)
 have hOj:∀ t,OX t j=some ⟨true,40,1,L.length,fl eN (Yr L s (x2.1,zl x2.2 t))⟩:=fun t=>by rw [hOX];exact Zk _ _ _
 have hOx:∀ t,OX t x2.1=some ⟨true,27,1,(zl x2.2 t).length,fl (eI .u64) (zl x2.2 t)⟩:=fun t=>by rw [hOX];exact (Zj _ _ (Ne.symm hjν)).trans (Zk _ _ _)
 have hUX:∀ t,Und (OX t) n:=fun t=>by
  rw [hOX]
  exact (hU.set hx1 (Yj _)).set hj (Je _ fun y hy=>by
   rcases List.mem_or_eq_of_mem_set hy with h | h
   ·exact hν y h
   subst h;exact hx1)
 have h0:OX 0=O:=by
  have e1:Yr L s (x2.1,x2.2)=L:=Zh7 hx
  rw [hOX]
  funext t
  show ((O.upd _ _).upd j _) t=O t
  unfold Objs.upd
  by_cases c1:t=j
  ·rw [if_pos c1,Zov,e1,c1,hoj]
  rw [if_neg c1]
  by_cases c2:t=x2.1
  ·rw [if_pos c2,Zov,c2,hox]
  rw [if_neg c2]
 have h2:∀ {E c Q},W Try.prog n c Q E (OX 0) n→W Try.prog n c Q E O n:=fun h=>by rw [h0] at h;exact h
 refine h2 ?_
 refine Zer (E':=⟨47,[],[(0,.ref i 0),(1,.val (.int .i64 s)),(2,.val (.int .i64 k)),(7,.val (.int .i64 (x2.2.length:Int)))]⟩) (O':=OX k) (n0:=n) ?_ ?_
 ·refine Zgz (Zpo hk) (fun t=>⟨47,[],[(0,.ref i 0),(1,.val (.int .i64 s)),(2,.val (.int .i64 k)),(7,.val (.int .i64 (x2.2.length:Int))),(8,.val (.int .i64 t))]⟩) OX (fun r=>JX 0 n ⟨47,[],[(0,.ref i 0),(1,.val (.int .i64 s)),(2,.val (.int .i64 k)),(7,.val (.int .i64 (x2.2.length:Int)))]⟩ (OX r) n) ?_
  intro t x0_ hs0_
  unfold Zqm at hs0_
  have ht0:0≤t:=by
   by_cases c:t < 0
   ·rw [if_pos c] at hs0_;cases hs0_
   omega
  rw [if_neg (by omega)] at hs0_
  refine Zt ?_
  refine Zh [0,1,2,7,8,19] (Zb Zc [] ?_)
  simp only [push_cast,seval,↓reduceIte,Za,hi]
  refine Zg (t:=(decide (t < k))) rfl (fun c8 => ?_) (fun c8 => ?_)
  ·have c8':t < k:=of_decide_eq_true c8
   rw [if_pos c8'] at hs0_
   have hs0_:=Option.some.inj hs0_;subst hs0_
   refine Zr ?_
   try simp only [Zn,Zi]
   refine Zgg (E':=⟨47,[],[(0,.ref i 0),(1,.val (.int .i64 s)),(2,.val (.int .i64 k)),(7,.val (.int .i64 (x2.2.length:Int))),(8,.val (.int .i64 t))]⟩) (Yx (hUX t) rfl ?_) ?_
   ·simp only [push_cast,seval,↓reduceIte,Za,hi]
   refine Zt ?_
   refine J5 ?_
   obtain ⟨L',hL'⟩:∃ L',L'=Yr L s (x2.1,zl x2.2 t):=⟨_,rfl⟩
   have hj':=hOj t
   have hi':=hOi t
   have hx':=hOx t
   rw [← hL'] at hj'
   have hl':L'.length=L.length:=by rw [hL'];exact hlS t
   have hg':Zv L' s=some (x2.1,zl x2.2 t):=by rw [hL'];exact gS t
   obtain ⟨x3,hx3,ax3,bx3,cx3,_⟩:=bE (f:=eN) (K:=fun y=>some y) (r:=(x2.1,zl x2.2 t)) Jr (fun _=>rfl) (by decide) (by rw [hg'];rfl)
   obtain rfl:x3=(x2.1,zl x2.2 t):=Option.some.inj (hx3.symm.trans hg')
   have hE3:(eN (x2.1,zl x2.2 t))[0]? = some (.row x2.1 (zl x2.2 t).length):=rfl
   have bx4:s < (L.length:Int):=by rw [← hl'];exact bx3
   have hlr3:∀ i k,Yv (OX t) (.row i k)=True:=fun i k=>by simp [Yv]
   have hlen:(fl eN L').length=L.length:=by rw [Vi,Nat.mul_one,hl']
   have gu:Jt (fl eN L') [.row x2.1 (zl x2.2 (t+1)).length] (Int.toNat s * 1)=some (fl eN (Yr L' s (x2.1,zl x2.2 (t+1)))):=Zay (f:=eN) (ti:=⟨.bool,1,0,[],false⟩) (x:=(x2.1,zl x2.2 (t+1))) (fun _=>rfl) (Gr hg')
   have hMN:(OX t) n=none:=(hUX t).fresh _ (Nat.le_refl _)
   refine Zjp Zc (by kernel_rfl) [.plain,.low,.low,.low,.plain,.plain,.low,.low,.low,.plain,.low,.low,.pass,.pass,.plain,.bar] (fun t=>t=i∨t=j) [0,1,2,3,4,5,6,7,8,9,10,11,12,13,14,15] [.plain,.low,.low,.low,.plain,.plain,.low,.low,.low,.plain,.low,.low,.pass,.pass,.plain,.bar] [] (by kernel_rfl) rfl ?_
   simp only [push_cast,Nat.reduceAdd,Nat.reduceSub,Nat.reduceMul,Nat.reduceLeDiff,Nat.reduceLT,Nat.reduceEqDiff,↓reduceIte,reduceCtorEq,Int.reduceBEq,Int.reduceBNe,Nat.reduceBEq,Int.reduceLE,Int.reduceLT,Int.reduceEq,Int.reduceNe,Int.reduceNeg,Nat.reduceDiv,Nat.reduceMod,Nat.reducePow,Za,ax3,bx3,bx4,cx3,hi,hi',hj',hx',hj,hlen,Zeg,hE3,hlr3,hx1,gu,hMN,true_or,or_true]
   have hnx:n≠x2.1:=by omega
   have hm:∀ o,(OX t).upd n o x2.1=some ⟨true,27,1,(zl x2.2 t).length,fl (eI .u64) (zl x2.2 t)⟩:=fun o=>(Zj _ _ (Ne.symm hnx)).trans hx'
   have hmj:∀ o o',((OX t).upd n o).upd x2.1 o' j=some ⟨true,40,1,L.length,fl eN L'⟩:=fun o o'=>(Zj _ _ hjν).trans ((Zj _ _ (by omega)).trans hj')
   have hlz:(zl x2.2 t).length+1=(zl x2.2 (t+1)).length:=by rw [Zh9,Zh9];omega
   have hfz:fl (eI .u64) (zl x2.2 t)++[G.val (.int .u64 0)]=fl (eI .u64) (zl x2.2 (t+1)):=by rw [← Zrh _ ht0];unfold fl;rw [List.map_append,List.flatten_append];rfl
   have hk1:(zl x2.2 (t+1)).length≤1000000:=by rw [Zh9];omega
   refine And.intro (fun u hu=>Zj _ _ (by rcases hu with rfl | rfl <;> omega)) ?_
   simp only [hm,push_cast,seval,↓reduceIte,hlz,hfz]
   refine And.intro ⟨by omega,by omega⟩ (And.intro (fun u hu=>Zj _ _ (by rcases hu with rfl | rfl <;> assumption)) (And.intro ⟨_,hmj _ _,rfl,rfl⟩ ?_))
   simp only [hmj,hlen,Zeg,gu,push_cast,seval,↓reduceIte]
   refine Zb Zc [] ?_
   have hw1:IntKind.i64.wrap (t+1)=t+1:=Gv (by omega)
   simp only [push_cast,seval,↓reduceIte,Za,hw1]
   refine And.intro rfl (Fit2.of ⟨rfl,K9 (hUX _) fun u o hu => ?_,?_⟩ (Nat.le_refl _))
   ·have e1:Yr L' s (x2.1,zl x2.2 (t+1))=Yr L s (x2.1,zl x2.2 (t+1)):=by rw [hL',Zpe]
    rw [e1]
    by_cases c1:u=j
    ·subst c1;rw [Zk];rw [hOj] at hu;exact hu
    rw [Zj _ _ c1]
    by_cases c2:u=x2.1
    ·subst c2;rw [Zk];rw [hOx] at hu;exact hu
    rw [Zj _ _ c2]
    by_cases c3:u=n
    ·subst c3;rw [(hUX (t+1)).fresh _ (Nat.le_refl _)] at hu;cases hu
    rw [Zj _ _ c3,hOX]
    rw [hOX] at hu
    dsimp only at hu ⊢
    rw [Zj _ _ c1,Zj _ _ c2] at hu ⊢
    exact hu
   simp only [push_cast,seval,↓reduceIte,Za,hi]
  have c8':¬ t < k:=of_decide_eq_false c8
  rw [if_neg c8'] at hs0_
  refine Zjz ?_
  try simp only [Zn,Zi,↓reduceIte,Nat.reduceEqDiff]
  have hs0_:=Option.some.inj hs0_;subst hs0_
  refine And.intro (fun h=>by cases h) (And.intro rfl (Yx (hUX _) rfl ?_))
  simp only [push_cast,seval,↓reduceIte,Za,hi]
 try simp only [Zn,Zi,↓reduceIte,Nat.reduceEqDiff]
 have hki:=hOi k
 refine Zh [0,1,2,7] (Zb Zc [] ?_)
 simp only [push_cast,seval,↓reduceIte,Za,hi,hki]
 refine Zh [6] (Zb Zc [] ?_)
 simp only [push_cast,seval,↓reduceIte,Za]
 refine Yy ?_
 subst hOX
 refine Yk (P:=Try.prog) (.inr rfl) (((hU.set hx1 (Yj _)).set hj (Je _ fun y hy => ?_)).set hi ?_) [.val (.int .i64 (x2.2.length:Int))] (Nat.le_refl _) ?_
 ·rcases List.mem_or_eq_of_mem_set hy with h | h
  ·exact hν y h
  subst h;exact hx1
 ·simp [G.unders,G.under,hj]
 simp only [push_cast,seval,↓reduceIte,Za,Try.results33]
def Zd4 (L:List NR) (s:Int):Int:=match Zv L s with | some x=>(x.2.length:Int) | none=>-1
theorem Za8 {L:List NR} {s:Int} {x:NR} (h:Zv L s=some x):Zd4 L s=(x.2.length:Int):=by unfold Zd4;rw [h]
theorem Zmx {L:List NR} {s:Int} (h:Zv L s=none):Zd4 L s=-1:=by unfold Zd4;rw [h]
theorem Zax {α:Type} {L:List α} {s:Int} (h:Zv L s=none):s < 0∨(L.length:Int)≤s:=by
 unfold Zv at h
 split at h
 ·have:=List.getElem?_eq_none_iff.1 h;omega
 omega
theorem Zw {α:Type} {L:List α} {s:Int} {x:α} (h:Zv L s=some x):x∈L:=by
 unfold Zv at h
 split at h
 ·exact List.mem_of_getElem? h
 cases h
theorem Zg7 {α:Type} {L:List α} {s:Int} {x:α} (h:Zv L s=some x):0≤s∧s < (L.length:Int):=by
 unfold Zv at h
 split at h
 ·obtain ⟨hl,_⟩:=List.getElem?_eq_some_iff.1 h;omega
 cases h
theorem Gc {O:Objs} {n i j:Nat} {L:List NR} {size most used s:Int} (hi:i < n) (hj:j < n)
  (ho:O i=some ⟨false,34,4,1,[.row j L.length,.val (.int .i64 size),.val (.int .i64 most),.val (.int .i64 used)]⟩) (hoj:O j=some ⟨true,40,1,L.length,fl eN L⟩) :
  GTo Try.prog 29 [.ref i 0,.val (.int .i64 s)] O n (.val (.int .i64 (Zd4 L s))) O n:=by
 refine Xq Zc Try.call29 Try.func29 rfl (Nat.le_of_ble_eq_true rfl) (by omega) fun hU => ?_
 have hlr:∀ i k,Yv O (.row i k)=True:=fun i k=>by simp [Yv]
 show W _ _ _ _ ⟨24,[],[(0,.ref i 0),(1,.val (.int .i64 s))]⟩ (Zu O n []) _
 rw [Xe hU.fresh]
 refine Zh [0,1] (Zb Zc [] ?_)
 simp only [push_cast,seval,↓reduceIte,Za,hi]
 refine Zt ?_
 cases hx:Zv L s with
 | none =>
  rw [Zmx hx]
  refine Z0 (E':=⟨24,[],[(0,.ref i 0),(1,.val (.int .i64 s)),(15,.val (.bool true))]⟩) (O':=O) (n0:=n) ?_ ?_
  ·by_cases c:s < 0
   ·have c2:decide (s < 0)=true:=decide_eq_true c
    refine Zb Zc (Zr8 []) ?_
    simp only [push_cast,seval,↓reduceIte,Za,hi,hj,ho,hoj,hlr,c2]
    refine And.intro rfl (Yx hU rfl ?_)
    simp only [push_cast,seval,↓reduceIte,Za,hi,hj,ho,hoj,hlr]
   have c2:decide (s < 0)=false:=decide_eq_false c
   have c3:decide ((L.length:Int)≤s)=true:=decide_eq_true ((Zax hx).resolve_left c)
   refine Zb Zc (Zq0 []) ?_
   simp only [push_cast,seval,↓reduceIte,Za,hi,hj,ho,hoj,hlr,c2,c3]
   refine And.intro rfl (Yx hU rfl ?_)
   simp only [push_cast,seval,↓reduceIte,Za,hi,hj,ho,hoj,hlr]
  refine Zg (t:=true) rfl (fun c15 => ?_) (fun c15=>by cases c15)
  refine Zh [4] (Zb Zc [] ?_)
  simp only [push_cast,seval,↓reduceIte,Za]
  refine Yy ?_
  try simp only [Zn,Zi]
  refine Yk (P:=Try.prog) (.inr rfl) hU [.val (.int .i64 (-1))] (Nat.le_refl _) ?_
  simp only [push_cast,seval,↓reduceIte,Za,Try.results29]
 | some x =>
  rw [Za8 hx]
  have hlt:=Zg7 hx
  have c2:decide (s < 0)=false:=decide_eq_false (by omega)
  have c3:decide ((L.length:Int)≤s)=false:=decide_eq_false (by omega)
  refine Z0 (E':=⟨24,[],[(0,.ref i 0),(1,.val (.int .i64 s)),(15,.val (.bool false))]⟩) (O':=O) (n0:=n) ?_ ?_
  ·refine Zb Zc (Zq0 []) ?_
   simp only [push_cast,seval,↓reduceIte,Za,hi,hj,ho,hoj,hlr,c2,c3]
   refine And.intro rfl (Yx hU rfl ?_)
   simp only [push_cast,seval,↓reduceIte,Za,hi,hj,ho,hoj,hlr]
  refine Zg (t:=false) rfl (fun c15=>by cases c15) (fun c15 => ?_)
  refine Zr ?_
  try simp only [Zn,Zi]
  obtain ⟨x2,hx2,ax2,bx2,cx2,h⟩:=bE (f:=eN) (K:=fun y=>some y) (r:=x) Jr (fun _=>rfl) (by decide) (by rw [hx];rfl)
  obtain rfl:x2=x:=Option.some.inj (hx2.symm.trans hx)
  have hE:(eN x2)[0]? = some (.row x2.1 x2.2.length):=rfl
  refine Zh [4] (Zb Zc [] ?_)
  simp only [push_cast,Nat.reduceAdd,Nat.reduceSub,Nat.reduceMul,Nat.reduceLeDiff,Nat.reduceLT,Nat.reduceEqDiff,↓reduceIte,reduceCtorEq,Int.reduceBEq,Int.reduceBNe,Nat.reduceBEq,Int.reduceLE,Int.reduceLT,Int.reduceEq,Int.reduceNe,Int.reduceNeg,Nat.reduceDiv,Nat.reduceMod,Nat.reducePow,Za,ax2,bx2,cx2,hi,ho,hoj,hj,Vi,Zeg,hE,hlr]
  refine Yy ?_
  try simp only [Zn,Zi]
  refine Yk (P:=Try.prog) (.inr rfl) hU [.val (.int .i64 (x2.2.length:Int))] (Nat.le_refl _) ?_
  simp only [push_cast,seval,↓reduceIte,Za,Try.results29]
theorem Zpc {O:Objs} {n i j:Nat} {L:List NR} {size most used s k:Int} (hi:i < n) (hj:j < n)
  (ho:O i=some ⟨false,34,4,1,[.row j L.length,.val (.int .i64 size),.val (.int .i64 most),.val (.int .i64 used)]⟩) (hoj:O j=some ⟨true,40,1,L.length,fl eN L⟩)
  (hc:Zd4 L s < 0∨k < 0∨IntKind.i64.wrap (most - used) < k∨IntKind.i64.wrap (size - Zd4 L s) < k) :
  GTo Try.prog 25 [.ref i 0,.val (.int .i64 s),.val (.int .i64 k)] O n (.val (.int .i64 (-1))) O n:=by
 refine Xq Zc Try.call25 Try.func25 rfl (Nat.le_of_ble_eq_true rfl) (by omega) fun hU => ?_
 have hlr:∀ i k,Yv O (.row i k)=True:=fun i k=>by simp [Yv]
 show W _ _ _ _ ⟨44,[],[(0,.ref i 0),(1,.val (.int .i64 s)),(2,.val (.int .i64 k))]⟩ (Zu O n []) _
 rw [Xe hU.fresh]
 refine Zh [0,1,2] (Zb Zc [] ?_)
 simp only [push_cast,seval,↓reduceIte,Za,hi]
 refine Zt ?_
 refine Z0 (E':=⟨44,[],[(0,.ref i 0),(1,.val (.int .i64 s)),(2,.val (.int .i64 k)),(39,.val (.bool true))]⟩) (O':=O) (n0:=n) ?_ ?_
 ·by_cases c1:Zd4 L s < 0
  ·have d1:decide (Zd4 L s < 0)=true:=decide_eq_true c1
   refine Qb Zc (by kernel_rfl) (Zsy []) (Y2 (by kernel_rfl)) ?_
   simp only [push_cast,seval,↓reduceIte,Za,hi,hj,ho,hoj,hlr,d1]
   refine PCall.of (Gc hi hj ho hoj) ?_
   simp only [push_cast,seval,↓reduceIte,Za,hi,hj,ho,hoj,hlr,d1]
   refine And.intro rfl (Yx hU rfl ?_)
   simp only [push_cast,seval,↓reduceIte,Za,hi,hj,ho,hoj,hlr]
  have d1:decide (Zd4 L s < 0)=false:=decide_eq_false c1
  by_cases c2:k < 0
  ·have d2:decide (k < 0)=true:=decide_eq_true c2
   refine Qb Zc (by kernel_rfl) (Zy::Zy::Zrq []) (Y2 (by kernel_rfl)) ?_
   simp only [push_cast,seval,↓reduceIte,Za,hi,hj,ho,hoj,hlr,d1,d2]
   refine PCall.of (Gc hi hj ho hoj) ?_
   simp only [push_cast,seval,↓reduceIte,Za,hi,hj,ho,hoj,hlr,d1,d2]
   refine And.intro rfl (Yx hU rfl ?_)
   simp only [push_cast,seval,↓reduceIte,Za,hi,hj,ho,hoj,hlr]
  have d2:decide (k < 0)=false:=decide_eq_false c2
  by_cases c3:IntKind.i64.wrap (most - used) < k
  ·have d3:decide (IntKind.i64.wrap (most - used) < k)=true:=decide_eq_true c3
   refine Qb Zc (by kernel_rfl) (Zm0 (Zsv [])) (Y2 (by kernel_rfl)) ?_
   simp only [push_cast,seval,↓reduceIte,Za,hi,hj,ho,hoj,hlr,d1,d2,d3]
   refine PCall.of (Gc hi hj ho hoj) ?_
   simp only [push_cast,seval,↓reduceIte,Za,hi,hj,ho,hoj,hlr,d1,d2,d3]
   refine And.intro rfl (Yx hU rfl ?_)
   simp only [push_cast,seval,↓reduceIte,Za,hi,hj,ho,hoj,hlr]
  have d3:decide (IntKind.i64.wrap (most - used) < k)=false:=decide_eq_false c3
  have d4:decide (IntKind.i64.wrap (size - Zd4 L s) < k)=true:=decide_eq_true (((hc.resolve_left c1).resolve_left c2).resolve_left c3)
  refine Qb Zc (by kernel_rfl) (Zrs []) (Y2 (by kernel_rfl)) ?_
  simp only [push_cast,seval,↓reduceIte,Za,hi,hj,ho,hoj,hlr,d1,d2,d3,d4]
  refine PCall.of (Gc hi hj ho hoj) ?_
  simp only [push_cast,seval,↓reduceIte,Za,hi,hj,ho,hoj,hlr,d1,d2,d3,d4]
  refine PCall.of (Gc hi hj ho hoj) ?_
  simp only [push_cast,seval,↓reduceIte,Za,hi,hj,ho,hoj,hlr,d1,d2,d3,d4]
  refine And.intro rfl (Yx hU rfl ?_)
  simp only [push_cast,seval,↓reduceIte,Za,hi,hj,ho,hoj,hlr]
 refine Zg (t:=true) rfl (fun c15 => ?_) (fun c15=>by cases c15)
 refine Zh [6] (Zb Zc [] ?_)
 simp only [push_cast,seval,↓reduceIte,Za]
 refine Yy ?_
 try simp only [Zn,Zi]
 refine Yk (P:=Try.prog) (.inr rfl) hU [.val (.int .i64 (-1))] (Nat.le_refl _) ?_
 simp only [push_cast,seval,↓reduceIte,Za,Try.results25]
theorem Zpb {O:Objs} {n i j:Nat} {L:List NR} {size most used s k:Int} {x:NR} (hi:i < n) (hj:j < n) (hν:∀ y∈L,y.1 < n) (hij:i≠j) (hiν:i≠x.1) (hjν:j≠x.1)
  (ho:O i=some ⟨false,34,4,1,[.row j L.length,.val (.int .i64 size),.val (.int .i64 most),.val (.int .i64 used)]⟩) (hoj:O j=some ⟨true,40,1,L.length,fl eN L⟩) (hx:Zv L s=some x)
  (hox:O x.1=some ⟨true,27,1,x.2.length,fl (eI .u64) x.2⟩) (hk:0≤k) (hb:(x.2.length:Int)+k≤1000000) (hc1:k≤IntKind.i64.wrap (most - used)) (hc2:k≤IntKind.i64.wrap (size - (x.2.length:Int))) :
  GTo Try.prog 25 [.ref i 0,.val (.int .i64 s),.val (.int .i64 k)] O n (.val (.int .i64 (x.2.length:Int)))
   (((O.upd x.1 (some ⟨true,27,1,(zl x.2 k).length,fl (eI .u64) (zl x.2 k)⟩)).upd j (some ⟨true,40,1,L.length,fl eN (Yr L s (x.1,zl x.2 k))⟩)).upd i (some ⟨false,34,4,1,[.row j L.length,.val (.int .i64 size),.val (.int .i64 most),.val (.int .i64 (IntKind.i64.wrap (used+k)))]⟩)) n:=by
 refine Xq Zc Try.call25 Try.func25 rfl (Nat.le_of_ble_eq_true rfl) (by omega) fun hU => ?_
 have hlr:∀ i k,Yv O (.row i k)=True:=fun i k=>by simp [Yv]
 have hx1:=hν x (Zw hx)
 show W _ _ _ _ ⟨44,[],[(0,.ref i 0),(1,.val (.int .i64 s)),(2,.val (.int .i64 k))]⟩ (Zu O n []) _
 rw [Xe hU.fresh]
 refine Zh [0,1,2] (Zb Zc [] ?_)
 simp only [push_cast,seval,↓reduceIte,Za,hi]
 refine Zt ?_
 refine Z0 (E':=⟨44,[],[(0,.ref i 0),(1,.val (.int .i64 s)),(2,.val (.int .i64 k)),(39,.val (.bool false))]⟩) (O':=O) (n0:=n) ?_ ?_
 ·have d1:decide ((x.2.length:Int) < 0)=false:=decide_eq_false (by omega)
  have d2:decide (k < 0)=false:=decide_eq_false (by omega)
  have d3:decide (IntKind.i64.wrap (most - used) < k)=false:=decide_eq_false (by omega)
  have d4:decide (IntKind.i64.wrap (size - (x.2.length:Int)) < k)=false:=decide_eq_false (by omega)
  refine Qb Zc (by kernel_rfl) (Zrs []) (Y2 (by kernel_rfl)) ?_
  simp only [push_cast,seval,↓reduceIte,Za,hi,hj,ho,hoj,hlr,d1,d2,d3,d4]
  refine PCall.of (Gc hi hj ho hoj) ?_
  rw [Za8 hx]
  simp only [push_cast,seval,↓reduceIte,Za,hi,hj,ho,hoj,hlr,d1,d2,d3,d4]
  refine PCall.of (Gc hi hj ho hoj) ?_
  rw [Za8 hx]
  simp only [push_cast,seval,↓reduceIte,Za,hi,hj,ho,hoj,hlr,d1,d2,d3,d4]
  refine And.intro rfl (Yx hU rfl ?_)
  simp only [push_cast,seval,↓reduceIte,Za,hi,hj,ho,hoj,hlr]
 refine Zg (t:=false) rfl (fun c15=>by cases c15) (fun c15 => ?_)
 refine Zr ?_
 try simp only [Zn,Zi]
 refine Zt ?_
 refine Zb Zc [] ?_
 simp only [push_cast,seval,↓reduceIte,Za,hi,hj,ho,hoj,hlr]
 refine (Znq hi hj hν hij hiν hjν ho hoj hx hox hk hb).then ?_
 simp only [push_cast,seval,↓reduceIte,Za]
 refine Yy ?_
 try simp only [Zn,Zi]
 refine Yk (P:=Try.prog) (.inr rfl) (((hU.set hx1 (Yj _)).set hj (Je _ fun y hy => ?_)).set hi ?_) [.val (.int .i64 (x.2.length:Int))] (Nat.le_refl _) ?_
 ·rcases List.mem_or_eq_of_mem_set hy with h | h
  ·exact hν y h
  subst h;exact hx1
 ·simp [G.unders,G.under,hj]
 simp only [push_cast,seval,↓reduceIte,Za,Try.results25]
theorem Zm7 {O:Objs} {n i j:Nat} {L:List NR} {size most used k:Int} (hi:i < n) (hj:j < n)
  (ho:O i=some ⟨false,34,4,1,[.row j L.length,.val (.int .i64 size),.val (.int .i64 most),.val (.int .i64 used)]⟩) (hoj:O j=some ⟨true,40,1,L.length,fl eN L⟩)
  (hc:k < 0∨IntKind.i64.wrap (most - used) < k) :
  GTo Try.prog 24 [.ref i 0,.val (.int .i64 k)] O n (.tup [.val (.int .i64 (-1)),.val (.int .i64 (-1))]) O n:=by
 refine Xq Zc Try.call24 Try.func24 rfl (Nat.le_of_ble_eq_true rfl) (by omega) fun hU => ?_
 have hlr:∀ i k,Yv O (.row i k)=True:=fun i k=>by simp [Yv]
 have hN0:O n=none:=hU.fresh _ (Nat.le_refl _)
 have hN:∀ k,O (n+k)=none:=fun k=>hU.fresh _ (Nat.le_add_right _ _)
 show W _ _ _ _ ⟨64,[],[(0,.ref i 0),(1,.val (.int .i64 k))]⟩ (Zu O n []) _
 rw [Xe hU.fresh]
 refine Zh [0,1] (Zb Zc [] ?_)
 simp only [push_cast,seval,↓reduceIte,Za,hi]
 refine Zt ?_
 refine Z0 (E':=⟨64,[],[(0,.ref i 0),(1,.val (.int .i64 k)),(21,.val (.bool true))]⟩) (O':=O) (n0:=n) ?_ ?_
 ·by_cases c1:k < 0
  ·have d1:decide (k < 0)=true:=decide_eq_true c1
   refine Qb Zc (by kernel_rfl) (Zro []) (Y2 (by kernel_rfl)) ?_
   simp only [push_cast,seval,↓reduceIte,Za,hi,hj,ho,hoj,hlr,d1]
   refine And.intro rfl (Yx hU rfl ?_)
   simp only [push_cast,seval,↓reduceIte,Za,hi,hj,ho,hoj,hlr]
  have d1:decide (k < 0)=false:=decide_eq_false c1
  have d2:decide (IntKind.i64.wrap (most - used) < k)=true:=decide_eq_true (hc.resolve_left c1)
  refine Qb Zc (by kernel_rfl) (Zmz []) (Y2 (by kernel_rfl)) ?_
  simp only [push_cast,seval,↓reduceIte,Za,hi,hj,ho,hoj,hlr,d1,d2]
  refine And.intro rfl (Yx hU rfl ?_)
  simp only [push_cast,seval,↓reduceIte,Za,hi,hj,ho,hoj,hlr]
 refine Zg (t:=true) rfl (fun c15 => ?_) (fun c15=>by cases c15)
 refine Zh [4,5] (Zb Zc [] ?_)
 simp only [push_cast,seval,↓reduceIte,Za]
 refine Yy ?_
 try simp only [Zn,Zi]
 refine Yk (P:=Try.prog) (.inr rfl) hU [.val (.int .i64 (-1)),.val (.int .i64 (-1))] (Nat.le_refl _) ?_
 simp only [push_cast,seval,↓reduceIte,Za,Try.results24]
theorem Zm6 {O:Objs} {n i j:Nat} {L:List NR} {size most used k:Int} {x:NR} (hi:i < n) (hj:j < n) (hν:∀ y∈L,y.1 < n) (hij:i≠j) (hiν:i≠x.1) (hjν:j≠x.1)
  (ho:O i=some ⟨false,34,4,1,[.row j L.length,.val (.int .i64 size),.val (.int .i64 most),.val (.int .i64 used)]⟩) (hoj:O j=some ⟨true,40,1,L.length,fl eN L⟩) (hx:Zv L ((L.length:Int) - 1)=some x)
  (hox:O x.1=some ⟨true,27,1,x.2.length,fl (eI .u64) x.2⟩) (hk:0≤k) (hk2:k≤IntKind.i64.wrap (most - used)) (hb:(x.2.length:Int)+k≤1000000) (hL:L.length≤1000000)
  (hf:k≤IntKind.i64.wrap (size - (x.2.length:Int))∨16≤L.length) :
  GTo Try.prog 24 [.ref i 0,.val (.int .i64 k)] O n (.tup [.val (.int .i64 ((L.length:Int) - 1)),.val (.int .i64 (x.2.length:Int))])
   (((O.upd x.1 (some ⟨true,27,1,(zl x.2 k).length,fl (eI .u64) (zl x.2 k)⟩)).upd j (some ⟨true,40,1,L.length,fl eN (Yr L ((L.length:Int) - 1) (x.1,zl x.2 k))⟩)).upd i (some ⟨false,34,4,1,[.row j L.length,.val (.int .i64 size),.val (.int .i64 most),.val (.int .i64 (IntKind.i64.wrap (used+k)))]⟩)) n:=by
 have hx1:=hν x (Zw hx)
 have h0:0 < L.length:=List.length_pos_of_mem (Zw hx)
 refine Xq Zc Try.call24 Try.func24 rfl (Nat.le_of_ble_eq_true rfl) (by omega) fun hU => ?_
 have hlr:∀ i k,Yv O (.row i k)=True:=fun i k=>by simp [Yv]
 have hN0:O n=none:=hU.fresh _ (Nat.le_refl _)
 have hN:∀ k,O (n+k)=none:=fun k=>hU.fresh _ (Nat.le_add_right _ _)
 show W _ _ _ _ ⟨64,[],[(0,.ref i 0),(1,.val (.int .i64 k))]⟩ (Zu O n []) _
 rw [Xe hU.fresh]
 refine Zh [0,1] (Zb Zc [] ?_)
 simp only [push_cast,seval,↓reduceIte,Za,hi]
 refine Zt ?_
 refine Z0 (E':=⟨64,[],[(0,.ref i 0),(1,.val (.int .i64 k)),(21,.val (.bool false))]⟩) (O':=O) (n0:=n) ?_ ?_
 ·have d1:decide (k < 0)=false:=decide_eq_false (by omega)
  have d2:decide (IntKind.i64.wrap (most - used) < k)=false:=decide_eq_false (by omega)
  refine Qb Zc (by kernel_rfl) (Zmz []) (Y2 (by kernel_rfl)) ?_
  simp only [push_cast,seval,↓reduceIte,Za,hi,hj,ho,hoj,hlr,d1,d2]
  refine And.intro rfl (Yx hU rfl ?_)
  simp only [push_cast,seval,↓reduceIte,Za,hi,hj,ho,hoj,hlr]
 refine Zg (t:=false) rfl (fun c15=>by cases c15) (fun c15 => ?_)
 refine Zr ?_
 try simp only [Zn,Zi]
 have hw:IntKind.i64.wrap ((L.length:Int) - 1)=(L.length:Int) - 1:=Gv (by omega)
 refine Zh [0,1,6] (Zb Zc [] ?_)
 simp only [push_cast,seval,↓reduceIte,Za,hi,hj,ho,hoj,hlr]
 refine Z0 (E':=⟨64,[],[(0,.ref i 0),(1,.val (.int .i64 k)),(6,.val (.int .i64 (L.length:Int)))]⟩) (O':=O) (n0:=n) ?_ ?_
 ·have c8:decide ((L.length:Int)=0)=false:=decide_eq_false (by omega)
  have c8b:((L.length:Int) == 0)=false:=by rw [beq_eq_false_iff_ne];omega
  refine Z0 (E':=⟨64,[],[(0,.ref i 0),(1,.val (.int .i64 k)),(6,.val (.int .i64 (L.length:Int))),(45,.val (.bool false))]⟩) (O':=O) (n0:=n) ?_ ?_
  ·by_cases c:k≤IntKind.i64.wrap (size - (x.2.length:Int))
   ·have c9:decide (IntKind.i64.wrap (size - (x.2.length:Int)) < k)=false:=decide_eq_false (by omega)
    refine Qb Zc (by kernel_rfl) (Zp1 (Yw::Yw::[Zy])) (Y2 (by kernel_rfl)) ?_
    simp only [push_cast,seval,↓reduceIte,Za,hi,hj,ho,hoj,hlr,hw,c8,c8b,c9]
    refine PCall.of (Gc hi hj ho hoj) ?_
    rw [Za8 hx]
    simp only [push_cast,seval,↓reduceIte,Za,hi,hj,ho,hoj,hlr,hw,c8,c8b,c9]
    refine And.intro rfl (Yx hU rfl ?_)
    simp only [push_cast,seval,↓reduceIte,Za,hi,hj,ho,hoj,hlr]
   have c9:decide (IntKind.i64.wrap (size - (x.2.length:Int)) < k)=true:=decide_eq_true (by omega)
   have c10:decide ((L.length:Int) < 16)=false:=decide_eq_false (by have:=hf.resolve_left c;omega)
   refine Qb Zc (by kernel_rfl) (Zrr []) (Y2 (by kernel_rfl)) ?_
   simp only [push_cast,seval,↓reduceIte,Za,hi,hj,ho,hoj,hlr,hw,c8,c8b,c9,c10]
   refine PCall.of (Gc hi hj ho hoj) ?_
   rw [Za8 hx]
   simp only [push_cast,seval,↓reduceIte,Za,hi,hj,ho,hoj,hlr,hw,c8,c8b,c9,c10]
   refine And.intro rfl (Yx hU rfl ?_)
   simp only [push_cast,seval,↓reduceIte,Za,hi,hj,ho,hoj,hlr]
  refine Zg (t:=false) rfl (fun c15=>by cases c15) (fun c15 => ?_)
  refine Zr ?_
  refine And.intro rfl (Yx hU rfl ?_)
  simp only [push_cast,seval,↓reduceIte,Za,hi,hj,ho,hoj,hlr]
 refine Zt ?_
 refine Zb Zc [] ?_
 simp only [push_cast,seval,↓reduceIte,Za,hi,hj,ho,hoj,hlr,hw]
 refine (Znq hi hj hν hij hiν hjν ho hoj hx hox hk hb).then ?_
 simp only [push_cast,seval,↓reduceIte,Za]
 refine Yy ?_
 try simp only [Zn,Zi]
 refine Yk (P:=Try.prog) (.inr rfl) (((hU.set hx1 (Yj _)).set hj (Je _ fun y hy => ?_)).set hi ?_) [.val (.int .i64 ((L.length:Int) - 1)),.val (.int .i64 (x.2.length:Int))] (Nat.le_refl _) ?_
 ·rcases List.mem_or_eq_of_mem_set hy with h | h
  ·exact hν y h
  subst h;exact hx1
 ·simp [G.unders,G.under,hj]
 simp only [push_cast,seval,↓reduceIte,Za,Try.results24]
theorem Zl5 {O:Objs} {n i j:Nat} {L:List NR} {size most used k:Int} (hi:i < n) (hj:j < n) (hν:∀ y∈L,y.1 < n) (hij:i≠j)
  (ho:O i=some ⟨false,34,4,1,[.row j L.length,.val (.int .i64 size),.val (.int .i64 most),.val (.int .i64 used)]⟩) (hoj:O j=some ⟨true,40,1,L.length,fl eN L⟩) (hk:0≤k) (hk2:k≤IntKind.i64.wrap (most - used)) (hb:k≤1000000) (hL:L.length≤1000000)
  (hf:L.length=0∨L.length < 16∧∃ x,Zv L ((L.length:Int) - 1)=some x∧¬ k≤IntKind.i64.wrap (size - (x.2.length:Int))) :
  GTo Try.prog 24 [.ref i 0,.val (.int .i64 k)] O n (.tup [.val (.int .i64 (L.length:Int)),.val (.int .i64 0)])
   (((O.upd n (some ⟨true,27,1,(zl [] k).length,fl (eI .u64) (zl [] k)⟩)).upd j (some ⟨true,40,1,L.length+1,fl eN (L++[(n,zl [] k)])⟩)).upd i (some ⟨false,34,4,1,[.row j (L.length+1),.val (.int .i64 size),.val (.int .i64 most),.val (.int .i64 (IntKind.i64.wrap (used+k)))]⟩)) (n+1):=by
 refine Xq Zc Try.call24 Try.func24 rfl (Nat.le_of_ble_eq_true rfl) (by omega) fun hU => ?_
 have hlr:∀ i k,Yv O (.row i k)=True:=fun i k=>by simp [Yv]
 have hN0:O n=none:=hU.fresh _ (Nat.le_refl _)
 have hN:∀ k,O (n+k)=none:=fun k=>hU.fresh _ (Nat.le_add_right _ _)
 show W _ _ _ _ ⟨64,[],[(0,.ref i 0),(1,.val (.int .i64 k))]⟩ (Zu O n []) _
 rw [Xe hU.fresh]
 refine Zh [0,1] (Zb Zc [] ?_)
 simp only [push_cast,seval,↓reduceIte,Za,hi]
 refine Zt ?_
 refine Z0 (E':=⟨64,[],[(0,.ref i 0),(1,.val (.int .i64 k)),(21,.val (.bool false))]⟩) (O':=O) (n0:=n) ?_ ?_
 ·have d1:decide (k < 0)=false:=decide_eq_false (by omega)
  have d2:decide (IntKind.i64.wrap (most - used) < k)=false:=decide_eq_false (by omega)
  refine Qb Zc (by kernel_rfl) (Zmz []) (Y2 (by kernel_rfl)) ?_
  simp only [push_cast,seval,↓reduceIte,Za,hi,hj,ho,hoj,hlr,d1,d2]
  refine And.intro rfl (Yx hU rfl ?_)
  simp only [push_cast,seval,↓reduceIte,Za,hi,hj,ho,hoj,hlr]
 refine Zg (t:=false) rfl (fun c15=>by cases c15) (fun c15 => ?_)
 refine Zr ?_
 try simp only [Zn,Zi]
 have hw:IntKind.i64.wrap ((L.length:Int) - 1)=(L.length:Int) - 1:=Gv (by omega)
 refine Zh [0,1,6] (Zb Zc [] ?_)
 simp only [push_cast,seval,↓reduceIte,Za,hi,hj,ho,hoj,hlr]
 refine Z0 (E':=⟨64,[],[(0,.ref i 0),(1,.val (.int .i64 k)),(6,.val (.int .i64 ((L.length:Int)+1)))]⟩) (O':=(((O.upd j (some ⟨true,40,1,L.length+1,fl eN L++[.val (.slice none 0 0)]⟩)).upd i (some ⟨false,34,4,1,[.row j (L.length+1),.val (.int .i64 size),.val (.int .i64 most),.val (.int .i64 used)]⟩)).upd n (some ⟨true,27,1,0,[]⟩)).upd j (some ⟨true,40,1,L.length+1,fl eN (L++[(n,[])])⟩)) (n0:=n+1) ?_ ?_
 ·refine Z0 (E':=⟨64,[],[(0,.ref i 0),(1,.val (.int .i64 k)),(6,.val (.int .i64 (L.length:Int))),(45,.val (.bool true))]⟩) (O':=O) (n0:=n) ?_ ?_
  ·by_cases c:L.length=0
   ·have c8:decide ((L.length:Int)=0)=true:=decide_eq_true (by omega)
    have c8b:((L.length:Int) == 0)=true:=by rw [beq_iff_eq];omega
    refine Qb Zc (by kernel_rfl) (Zsx []) (Y2 (by kernel_rfl)) ?_
    simp only [push_cast,seval,↓reduceIte,Za,hi,hj,ho,hoj,hlr,c8,c8b]
    refine And.intro rfl (Yx hU rfl ?_)
    simp only [push_cast,seval,↓reduceIte,Za,hi,hj,ho,hoj,hlr]
   obtain ⟨hlt,x,hx,hnf⟩:=hf.resolve_left c
   have c8:decide ((L.length:Int)=0)=false:=decide_eq_false (by omega)
   have c8b:((L.length:Int) == 0)=false:=by rw [beq_eq_false_iff_ne];omega
   have c9:decide (IntKind.i64.wrap (size - (x.2.length:Int)) < k)=true:=decide_eq_true (by omega)
   have c10:decide ((L.length:Int) < 16)=true:=decide_eq_true (by omega)
   refine Qb Zc (by kernel_rfl) (Zrr []) (Y2 (by kernel_rfl)) ?_
   simp only [push_cast,seval,↓reduceIte,Za,hi,hj,ho,hoj,hlr,hw,c8,c8b,c9,c10]
   refine PCall.of (Gc hi hj ho hoj) ?_
   rw [Za8 hx]
   simp only [push_cast,seval,↓reduceIte,Za,hi,hj,ho,hoj,hlr,hw,c8,c8b,c9,c10]
   refine And.intro rfl (Yx hU rfl ?_)
   simp only [push_cast,seval,↓reduceIte,Za,hi,hj,ho,hoj,hlr]
  refine Zg (t:=true) rfl (fun c15 => ?_) (fun c15=>by cases c15)
  refine Zt ?_
  have h5:∀ o,O.upd n o j=some ⟨true,40,1,L.length,fl eN L⟩:=fun o=>(Zj O o (by omega)).trans hoj
  have h6:∀ o o',(O.upd n o).upd j o' i=some ⟨false,34,4,1,[.row j L.length,.val (.int .i64 size),.val (.int .i64 most),.val (.int .i64 used)]⟩:=fun o o'=>(Zj _ o' hij).trans ((Zj O o (by omega)).trans ho)
  refine Zb Zc [] ?_
  simp only [push_cast,seval,↓reduceIte,Za,hi,hj,ho,hoj,hlr,hN0,hN,h5,h6]
  refine ⟨⟨by omega,by omega⟩,?_⟩
  have hU1:Und ((O.upd j (some ⟨true,40,1,L.length+1,fl eN L++[.val (.slice none 0 0)]⟩)).upd i (some ⟨false,34,4,1,[.row j (L.length+1),.val (.int .i64 size),.val (.int .i64 most),.val (.int .i64 used)]⟩)) n :=
   (hU.set hj (Zgw _ _ (Je _ hν) (by simp [G.unders,G.under]))).set hi (by simp [G.unders,G.under,hj])
  refine Zgg (E':=⟨64,[],[(0,.ref i 0),(1,.val (.int .i64 k)),(6,.val (.int .i64 (L.length:Int)))]⟩) (O':=((O.upd j (some ⟨true,40,1,L.length+1,fl eN L++[.val (.slice none 0 0)]⟩)).upd i (some ⟨false,34,4,1,[.row j (L.length+1),.val (.int .i64 size),.val (.int .i64 most),.val (.int .i64 used)]⟩))) (n':=n) (Fit2.of ⟨rfl,K9 hU1 fun t o ht => ?_,?_⟩ (Nat.le_refl _)) ?_
  ·by_cases e1:t=i
   ·subst e1;rw [Zk] at ht ⊢;exact ht
   rw [Zj _ _ e1] at ht ⊢
   by_cases e2:t=j
   ·subst e2;rw [Zk] at ht ⊢;exact ht
   rw [Zj _ _ e2] at ht ⊢
   by_cases e3:t=n
   ·subst e3;rw [hN0] at ht;cases ht
   rw [Zj _ _ e3];exact ht
  ·simp only [push_cast,seval,↓reduceIte,Za,hi,hj]
  refine Zl9 (p:=j) (k:=L.length) (q:=⟨true,40,1,L.length+1,fl eN L++[.val (.slice none 0 0)]⟩) 27 1 (by rw [Zj _ _ (Ne.symm hij),Zk]) (by rw [List.getElem?_append_right (by rw [Vi];omega),Vi];simp) ?_
  have hset:(fl eN L++[G.val (.slice none 0 0)]).set L.length (.row n 0)=fl eN (L++[(n,[])]):=by
   rw [List.set_append_right _ _ (by rw [Vi];omega),Vi,← Zbp];simp [eN]
  simp only [hset]
  have hlt:∀ y∈L++[(n,([]:List Int))],y.1 < n+1:=fun y hy=>by
   rcases List.mem_append.1 hy with h | h
   ·have:=hν y h;omega
   rw [List.mem_singleton.1 h];exact Nat.lt_succ_self _
  have hU2:=((hU1.more (Nat.le_succ n)).set (q:=⟨true,27,1,0,[]⟩) (Nat.lt_succ_self n) (by simp [G.unders])).set (q:=⟨true,40,1,L.length+1,fl eN (L++[(n,[])])⟩) (i:=j) (by omega) (Je _ hlt)
  have hi1:i < n+1:=by omega
  refine Zb Zc [] ?_
  have hw2:IntKind.i64.wrap ((L.length:Int)+1)=(L.length:Int)+1:=Gv (by omega)
  simp only [push_cast,seval,↓reduceIte,Za,hw2]
  simp only [Zbp]
  refine And.intro rfl (Zm hU2 (Nat.le_succ n) rfl ?_)
  simp only [push_cast,seval,↓reduceIte,Za,hi1]
 refine Zt ?_
 have hi1:i < n+1:=by omega
 refine Zb Zc [] ?_
 have hw3:IntKind.i64.wrap ((L.length:Int)+1 - 1)=(L.length:Int):=by rw [Gv (by omega)];omega
 simp only [push_cast,seval,↓reduceIte,Za,hi1,hw3]
 simp only [Zbp]
 have hin:i≠n:=by omega
 have hjn:j≠n:=by omega
 have hlt:∀ y∈L++[(n,([]:List Int))],y.1 < n+1:=fun y hy=>by
  rcases List.mem_append.1 hy with h | h
  ·have:=hν y h;omega
  rw [List.mem_singleton.1 h];exact Nat.lt_succ_self _
 have hlen:(L++[(n,([]:List Int))]).length=L.length+1:=by simp
 have hget:Zv (L++[(n,([]:List Int))]) (L.length:Int)=some (n,[]):=by
  unfold Zv;rw [if_pos (by omega),Int.toNat_natCast,List.getElem?_append_right (Nat.le_refl _)];simp
 have g:=Znq (O:=(((O.upd j (some ⟨true,40,1,L.length+1,fl eN L++[.val (.slice none 0 0)]⟩)).upd i (some ⟨false,34,4,1,[.row j (L.length+1),.val (.int .i64 size),.val (.int .i64 most),.val (.int .i64 used)]⟩)).upd n (some ⟨true,27,1,0,[]⟩)).upd j (some ⟨true,40,1,L.length+1,fl eN (L++[(n,[])])⟩)) (n:=n+1) (i:=i) (j:=j) (L:=L++[(n,[])]) (size:=size) (most:=most) (used:=used) (s:=(L.length:Int)) (k:=k) (x:=(n,[])) (by omega) (by omega) hlt hij hin hjn
  (by rw [Zj _ _ hij,Zj _ _ hin,Zk,hlen]) (by rw [Zk,hlen]) hget (by rw [Zj _ _ (Ne.symm hjn),Zk];rfl) hk (by simp;omega)
 rw [hlen] at g
 refine g.then ?_
 simp only [push_cast,seval,↓reduceIte,Za]
 have hs:Yr (L++[(n,([]:List Int))]) (L.length:Int) (n,zl [] k)=L++[(n,zl [] k)]:=by
  unfold Yr;rw [Int.toNat_natCast,List.set_append_right _ _ (Nat.le_refl _)];simp
 have hlt2:∀ y∈L++[(n,zl [] k)],y.1 < n+1:=fun y hy=>by
  rcases List.mem_append.1 hy with h | h
  ·have:=hν y h;omega
  rw [List.mem_singleton.1 h];exact Nat.lt_succ_self _
 simp only [hs,Zbp,Zlg hin hjn hij]
 refine Yy ?_
 try simp only [Zn,Zi]
 refine Yk (P:=Try.prog) (.inr rfl) ((((hU.more (Nat.le_succ n)).set (Nat.lt_succ_self n) (Yj _)).set (by omega) (Je _ hlt2)).set (by omega) ?_) [.val (.int .i64 (L.length:Int)),.val (.int .i64 0)] (Nat.le_succ _) ?_
 ·have:j < n+1:=by omega
  simp [G.unders,G.under,this]
 simp only [push_cast,seval,↓reduceIte,Za,Try.results24]
theorem Zpr {O Z:Objs} {n n1:Nat} {E E':Env} (hU:Und O n) (hZ:∀ i,i < n→Z i=O i) (hn:E'.n=E.n) (h:Zd2 Z O n E.l E'.l):Fit2 n E Z n1 E' O n :=
 Fit2.of ⟨hn,K9 hU (fun t o ht=>by
  rcases Nat.lt_or_ge t n with h | h
  ·rw [hZ t h];exact ht
  rw [hU.fresh t h] at ht;exact absurd ht (by simp)),h⟩ (Nat.le_refl _)
theorem Zes {P:Program} {ba n:Nat} {c:Code} {Q:GQ} {E:Env} {O:Objs} (h:Und O n→W P ba c Q E O n):W P ba c Q E O n:=fun hb w m a hM hE=>h ⟨hM.fresh,fun i o hi=>by obtain ⟨vs,hv,_⟩:=hM.obj i o hi;exact Qy _ _ hv⟩ hb w m a hM hE
theorem Zjw {Z:Objs}:∀ L:List NR,(∀ x∈L,Z x.1=some ⟨true,27,1,x.2.length,fl (eI .u64) x.2⟩)→Q4 Z Yt 0 (fl eN L) (fl (eL (eI .u64)) (L.map (·.2)))
 | [],_=>by simp [fl,Q4]
 | x::L,h=>by
  show Q4 Z Yt 0 (.row x.1 x.2.length::fl eN L) (.sl x.2.length (fl (eI .u64) x.2)::fl (eL (eI .u64)) (L.map (·.2)))
  unfold Q4
  refine ⟨_,_,rfl,?_,Zjw L fun y hy=>h y (List.mem_cons_of_mem _ hy)⟩
  unfold wk
  exact ⟨rfl,rfl,_,h x List.mem_cons_self,rfl,rfl,Jv _⟩
theorem Zcj (n:Nat) (segs:List (List Int)):(J4 n segs).map (·.2)=segs:=by
 apply List.ext_getElem?
 intro i
 rw [List.getElem?_map,Zki]
 cases segs[i]? <;> rfl
theorem Zqv {segs:List (List Int)} (h:segs.length≠0):segs[segs.length - 1]? = some (Za7 segs):=by
 unfold Za7
 cases e:segs[segs.length - 1]? with
 | none=>rw [List.getElem?_eq_none_iff] at e;omega
 | some s=>rfl
theorem Za3 {L:List NR} {s:Int} {x:NR} (h:Zv L s=some x):Zv (L.map (·.2)) s=some x.2:=by
 unfold Zv at *
 split at h
 ·rename_i c;rw [if_pos c,List.getElem?_map,h];rfl
 cases h
theorem Zef {Z:Objs} {i j:Nat} {L:List NR} {size left:Int} (hi:Z i=some ⟨false,59,3,1,[.row j L.length,.val (.int .i64 size),.val (.int .i64 left)]⟩)
  (hj:Z j=some ⟨true,40,1,L.length,fl eN L⟩) (h:∀ x∈L,Z x.1=some ⟨true,27,1,x.2.length,fl (eI .u64) x.2⟩):wk Z Yt 0 (.ref i 0) (gP Zf (some ⟨L.map (·.2),size,left⟩)):=by
 show wk Z Yt 0 (.ref i 0) (.ip (Zf ⟨L.map (·.2),size,left⟩) 0)
 unfold wk
 refine ⟨rfl,rfl,_,hi,rfl,?_⟩
 show Q4 Z Yt 0 _ [.sl (L.map (·.2)).length (fl (eL (eI .u64)) (L.map (·.2))),.val (.int .i64 size),.val (.int .i64 left)]
 unfold Q4
 refine ⟨_,_,rfl,?_,Y7 rfl⟩
 unfold wk
 exact ⟨by rw [List.length_map],rfl,_,hj,rfl,rfl,Zjw L h⟩
theorem Zn1 {Z:Objs} {i j:Nat} {L:List NR} {size most used:Int} (hi:Z i=some ⟨false,34,4,1,[.row j L.length,.val (.int .i64 size),.val (.int .i64 most),.val (.int .i64 used)]⟩)
  (hj:Z j=some ⟨true,40,1,L.length,fl eN L⟩) (h:∀ x∈L,Z x.1=some ⟨true,27,1,x.2.length,fl (eI .u64) x.2⟩):wk Z Yt 0 (.ref i 0) (gP Ze (some ⟨L.map (·.2),size,most,used⟩)):=by
 show wk Z Yt 0 (.ref i 0) (.ip (Ze ⟨L.map (·.2),size,most,used⟩) 0)
 unfold wk
 refine ⟨rfl,rfl,_,hi,rfl,?_⟩
 show Q4 Z Yt 0 _ [.sl (L.map (·.2)).length (fl (eL (eI .u64)) (L.map (·.2))),.val (.int .i64 size),.val (.int .i64 most),.val (.int .i64 used)]
 unfold Q4
 refine ⟨_,_,rfl,?_,Y7 rfl⟩
 unfold wk
 exact ⟨by rw [List.length_map],rfl,_,hj,rfl,rfl,Zjw L h⟩
def Kp (segs:List (List Int)) (s p k:Int):Bool:=match Zv segs s with
 | none=>false
 | some t=>decide (0≤p∧0≤k∧k≤(t.length:Int)∧p≤(t.length:Int) - k)
theorem Zh8 (A:Zl) (s:Int):Xv (some A) s=some (decide (0≤s∧s < (A.segments.length:Int))):=by
 unfold Xv J7
 by_cases c:0≤s <;> simp [c]
theorem Zg9 (A:Zl) (s p k:Int) (hb:∀ t∈A.segments,t.length≤1000000):Qc (some A) s p k=some (Kp A.segments s p k):=by
 unfold Qc Qt
 simp only [Zh8]
 cases hx:Zv A.segments s with
 | none =>
  have:=Zax hx
  have c:decide (0≤s∧s < (A.segments.length:Int))=false:=decide_eq_false (by omega)
  simp [Kp,hx,c]
 | some t =>
  have:=Zg7 hx
  have hl:=hb t (Zw hx)
  have c:decide (0≤s∧s < (A.segments.length:Int))=true:=decide_eq_true (by omega)
  simp only [Kp,hx,c,Option.bind_some,cond_true,Bool.not_true,cond_false]
  by_cases c1:0≤p <;> by_cases c2:0≤k <;> by_cases c3:k≤(t.length:Int) <;> simp [c1,c2,c3]
  rw [Gv (by omega)]
theorem Zkb (A:Zo) (s p k:Int) (hb:∀ t∈A.L,t.length≤1000000):Qj (some A) s p k=some (Kp A.L s p k):=by
 unfold Qj Qd
 cases hx:Zv A.L s with
 | none =>
  have:=Zax hx
  by_cases c0:s < 0
  ·simp [Kp,hx,c0]
  have c1:(A.L.length:Int)≤s:=by omega
  simp [Kp,hx,c0,c1]
 | some t =>
  have:=Zg7 hx
  have hl:=hb t (Zw hx)
  have c0:¬ s < 0:=by omega
  have c1:¬ (A.L.length:Int)≤s:=by omega
  simp only [Kp,hx,c0,c1,Option.bind_some,cond_true,cond_false,decide_false,decide_true]
  congr 1
  by_cases c1:0≤p <;> by_cases c2:0≤k <;> by_cases c3:p≤(t.length:Int) <;> simp [c1,c2,c3]
  ·rw [Gv (by omega),Bool.eq_iff_iff]
   simp only [decide_eq_true_eq,Bool.and_eq_true]
   omega
  intros;omega
theorem Zst {O:Objs} {n i j:Nat} {L:List NR} {size left s k:Int} (hi:i < n) (hj:j < n)
  (ho:O i=some ⟨false,59,3,1,[.row j L.length,.val (.int .i64 size),.val (.int .i64 left)]⟩) (hoj:O j=some ⟨true,40,1,L.length,fl eN L⟩) (hL:∀ x∈L,O x.1=some ⟨true,27,1,x.2.length,fl (eI .u64) x.2⟩)
  (hc:¬ (0≤s∧s < (L.length:Int))∨k < 0∨left < k∨∃ x,Zv L s=some x∧¬ k≤IntKind.i64.wrap (size - (x.2.length:Int))) :
  GTo Try.prog 21 [.ref i 0,.val (.int .i64 s),.val (.int .i64 k)] O n (.tup [.val (.int .i64 0),.val (.bool false)]) O n:=by
 refine Xq Zc Try.call21 Try.func21 rfl (Nat.le_of_ble_eq_true rfl) (by omega) fun hU => ?_
 have hlr:∀ i k,Yv O (.row i k)=True:=fun i k=>by simp [Yv]
 have HL:=Zef ho hoj hL
 have hth:=Zh8 ⟨L.map (·.2),size,left⟩ s
 simp only [List.length_map] at hth
 show W _ _ _ _ ⟨35,[],[(0,.ref i 0),(1,.val (.int .i64 s)),(2,.val (.int .i64 k))]⟩ (Zu O n []) _
 rw [Xe hU.fresh]
 refine Zh [0,1,2] (Zb Zc [] ?_)
 simp only [push_cast,seval,↓reduceIte,Za,hi]
 refine Zt ?_
 refine Z0 (E':=⟨35,[],[(0,.ref i 0),(1,.val (.int .i64 s)),(2,.val (.int .i64 k)),(30,.val (.bool true))]⟩) (O':=O) (n0:=n) ?_ ?_
 ·by_cases c1:0≤s∧s < (L.length:Int)
  ·have d1:decide (0≤s∧s < (L.length:Int))=true:=decide_eq_true c1
   by_cases c2:k < 0
   ·have d2:decide (k < 0)=true:=decide_eq_true c2
    refine Zb Zc (Zy::Zy::Zro []) ?_
    simp only [push_cast,seval,↓reduceIte,Za,hi,hj,ho,hoj,hlr,d1,d2]
    refine GCalls.lend (Z3 hth) rfl (by unfold Q4;exact ⟨_,_,rfl,HL,Y7 rfl⟩) ?_
    simp only [push_cast,seval,↓reduceIte,Za,hi,hj,ho,hoj,hlr,d1,d2]
    refine And.intro rfl (Yx hU rfl ?_)
    simp only [push_cast,seval,↓reduceIte,Za,hi,hj,ho,hoj,hlr]
   have d2:decide (k < 0)=false:=decide_eq_false c2
   by_cases c3:left < k
   ·have d3:decide (left < k)=true:=decide_eq_true c3
    refine Zb Zc (Zq1 (Ztv [])) ?_
    simp only [push_cast,seval,↓reduceIte,Za,hi,hj,ho,hoj,hlr,d1,d2,d3]
    refine GCalls.lend (Z3 hth) rfl (by unfold Q4;exact ⟨_,_,rfl,HL,Y7 rfl⟩) ?_
    simp only [push_cast,seval,↓reduceIte,Za,hi,hj,ho,hoj,hlr,d1,d2,d3]
    refine And.intro rfl (Yx hU rfl ?_)
    simp only [push_cast,seval,↓reduceIte,Za,hi,hj,ho,hoj,hlr]
   have d3:decide (left < k)=false:=decide_eq_false c3
   obtain ⟨x,hx,c4⟩:=((hc.resolve_left (fun h=>h c1)).resolve_left c2).resolve_left c3
   have d4:decide (k≤IntKind.i64.wrap (size - (x.2.length:Int)))=false:=decide_eq_false c4
   refine Zb Zc (Zm0 []) ?_
   simp only [push_cast,seval,↓reduceIte,Za,hi,hj,ho,hoj,hlr,d1,d2,d3,d4]
   refine GCalls.lend (Z3 hth) rfl (by unfold Q4;exact ⟨_,_,rfl,HL,Y7 rfl⟩) ?_
   simp only [push_cast,seval,↓reduceIte,Za,hi,hj,ho,hoj,hlr,d1,d2,d3,d4]
   refine (Zg2 hi hj ho hoj hx).then ?_
   simp only [push_cast,seval,↓reduceIte,Za,hi,hj,ho,hoj,hlr,d1,d2,d3,d4]
   refine And.intro rfl (Yx hU rfl ?_)
   simp only [push_cast,seval,↓reduceIte,Za,hi,hj,ho,hoj,hlr]
  have d1:decide (0≤s∧s < (L.length:Int))=false:=decide_eq_false c1
  refine Zb Zc (Zrp []) ?_
  simp only [push_cast,seval,↓reduceIte,Za,hi,hj,ho,hoj,hlr,d1]
  refine GCalls.lend (Z3 hth) rfl (by unfold Q4;exact ⟨_,_,rfl,HL,Y7 rfl⟩) ?_
  simp only [push_cast,seval,↓reduceIte,Za,hi,hj,ho,hoj,hlr,d1]
  refine And.intro rfl (Yx hU rfl ?_)
  simp only [push_cast,seval,↓reduceIte,Za,hi,hj,ho,hoj,hlr]
 refine Zg (t:=true) rfl (fun c15 => ?_) (fun c15=>by cases c15)
 refine Zh [6,7] (Zb Zc [] ?_)
 simp only [push_cast,seval,↓reduceIte,Za]
 refine Yy ?_
 try simp only [Zn,Zi]
 refine Yk (P:=Try.prog) (.inr rfl) hU [.val (.int .i64 0),.val (.bool false)] (Nat.le_refl _) ?_
 simp only [push_cast,seval,↓reduceIte,Za,Try.results21]
theorem Zss {O:Objs} {n i j:Nat} {L:List NR} {size left s k:Int} {x:NR} (hi:i < n) (hj:j < n) (hν:∀ y∈L,y.1 < n) (hij:i≠j) (hiν:i≠x.1) (hjν:j≠x.1)
  (ho:O i=some ⟨false,59,3,1,[.row j L.length,.val (.int .i64 size),.val (.int .i64 left)]⟩) (hoj:O j=some ⟨true,40,1,L.length,fl eN L⟩) (hL:∀ x∈L,O x.1=some ⟨true,27,1,x.2.length,fl (eI .u64) x.2⟩) (hx:Zv L s=some x)
  (hk:0≤k) (hk2:k≤left) (hb:(x.2.length:Int)+k≤1000000) (hf:k≤IntKind.i64.wrap (size - (x.2.length:Int))) :
  GTo Try.prog 21 [.ref i 0,.val (.int .i64 s),.val (.int .i64 k)] O n (.tup [.val (.int .i64 (x.2.length:Int)),.val (.bool true)])
   (((O.upd x.1 (some ⟨true,27,1,(zl x.2 k).length,fl (eI .u64) (zl x.2 k)⟩)).upd j (some ⟨true,40,1,(Yr L s (x.1,zl x.2 k)).length,fl eN (Yr L s (x.1,zl x.2 k))⟩)).upd i (some ⟨false,59,3,1,[.row j L.length,.val (.int .i64 size),.val (.int .i64 (IntKind.i64.wrap (left - k)))]⟩)) n:=by
 have hx1:=hν x (Zw hx)
 have hox:=hL x (Zw hx)
 refine Xq Zc Try.call21 Try.func21 rfl (Nat.le_of_ble_eq_true rfl) (by omega) fun hU => ?_
 have hlr:∀ i k,Yv O (.row i k)=True:=fun i k=>by simp [Yv]
 have HL:=Zef ho hoj hL
 have hth:=Zh8 ⟨L.map (·.2),size,left⟩ s
 simp only [List.length_map] at hth
 show W _ _ _ _ ⟨35,[],[(0,.ref i 0),(1,.val (.int .i64 s)),(2,.val (.int .i64 k))]⟩ (Zu O n []) _
 rw [Xe hU.fresh]
 refine Zh [0,1,2] (Zb Zc [] ?_)
 simp only [push_cast,seval,↓reduceIte,Za,hi]
 refine Zt ?_
 refine Z0 (E':=⟨35,[],[(0,.ref i 0),(1,.val (.int .i64 s)),(2,.val (.int .i64 k)),(30,.val (.bool false))]⟩) (O':=O) (n0:=n) ?_ ?_
 ·have d1:decide (0≤s∧s < (L.length:Int))=true:=decide_eq_true (Zg7 hx)
  have d2:decide (k < 0)=false:=decide_eq_false (by omega)
  have d3:decide (left < k)=false:=decide_eq_false (by omega)
  have d4:decide (k≤IntKind.i64.wrap (size - (x.2.length:Int)))=true:=decide_eq_true hf
  refine Zb Zc (Zm0 []) ?_
  simp only [push_cast,seval,↓reduceIte,Za,hi,hj,ho,hoj,hlr,d1,d2,d3,d4]
  refine GCalls.lend (Z3 hth) rfl (by unfold Q4;exact ⟨_,_,rfl,HL,Y7 rfl⟩) ?_
  simp only [push_cast,seval,↓reduceIte,Za,hi,hj,ho,hoj,hlr,d1,d2,d3,d4]
  refine (Zg2 hi hj ho hoj hx).then ?_
  simp only [push_cast,seval,↓reduceIte,Za,hi,hj,ho,hoj,hlr,d1,d2,d3,d4]
  refine And.intro rfl (Yx hU rfl ?_)
  simp only [push_cast,seval,↓reduceIte,Za,hi,hj,ho,hoj,hlr]
 refine Zg (t:=false) rfl (fun c15=>by cases c15) (fun c15 => ?_)
 refine Zr ?_
 try simp only [Zn,Zi]
 refine Zt ?_
 refine Zb Zc [] ?_
 simp only [push_cast,seval,↓reduceIte,Za,hi,hj,ho,hoj,hlr]
 refine (Zlu hi hj hν hij hiν hjν ho hoj hx hox hk hb).then ?_
 simp only [push_cast,seval,↓reduceIte,Za]
 refine Yy ?_
 try simp only [Zn,Zi]
 refine Yk (P:=Try.prog) (.inr rfl) (((hU.set hx1 (Yj _)).set hj (Je _ fun y hy => ?_)).set hi ?_) [.val (.int .i64 (x.2.length:Int)),.val (.bool true)] (Nat.le_refl _) ?_
 ·rcases List.mem_or_eq_of_mem_set hy with h | h
  ·exact hν y h
  subst h;exact hx1
 ·simp [G.unders,G.under,hj]
 simp only [push_cast,seval,↓reduceIte,Za,Try.results21]
theorem Zsa {O:Objs} {n i j:Nat} {L:List NR} {size left s p v:Int} (hi:i < n) (hj:j < n)
  (ho:O i=some ⟨false,59,3,1,[.row j L.length,.val (.int .i64 size),.val (.int .i64 left)]⟩) (hoj:O j=some ⟨true,40,1,L.length,fl eN L⟩) (hL:∀ x∈L,O x.1=some ⟨true,27,1,x.2.length,fl (eI .u64) x.2⟩) (hb:∀ x∈L,x.2.length≤1000000) (hh:Kp (L.map (·.2)) s p 1=false) :
  GTo Try.prog 22 [.ref i 0,.val (.int .i64 s),.val (.int .i64 p),.val (.int .u64 v)] O n (.val (.bool false)) O n:=by
 refine Xq Zc Try.call22 Try.func22 rfl (Nat.le_of_ble_eq_true rfl) (by omega) fun hU => ?_
 have hlr:∀ i k,Yv O (.row i k)=True:=fun i k=>by simp [Yv]
 have HL:=Zef ho hoj hL
 have hth:=(Zg9 ⟨L.map (·.2),size,left⟩ s p 1 (fun t ht=>by obtain ⟨x,hx,rfl⟩:=List.mem_map.1 ht;exact hb x hx)).trans (congrArg some hh)
 show W _ _ _ _ ⟨24,[],[(0,.ref i 0),(1,.val (.int .i64 s)),(2,.val (.int .i64 p)),(3,.val (.int .u64 v))]⟩ (Zu O n []) _
 rw [Xe hU.fresh]
 refine Zh [0,1,2,3] (Zb Zc [] ?_)
 simp only [push_cast,seval,↓reduceIte,Za,hi]
 refine Zt ?_
 refine Zh [0,1,2,3,13] (Zb Zc [] ?_)
 simp only [push_cast,seval,↓reduceIte,Za,hi,hj,ho,hoj,hlr]
 refine GCalls.lend (Qu hth) rfl (by unfold Q4;exact ⟨_,_,rfl,HL,Y7 rfl⟩) ?_
 simp only [push_cast,seval,↓reduceIte,Za,hi,hj,ho,hoj,hlr]
 refine Zg (t:=true) rfl (fun c15 => ?_) (fun c15=>by cases c15)
 refine Zh [8] (Zb Zc [] ?_)
 simp only [push_cast,seval,↓reduceIte,Za]
 refine Yy ?_
 try simp only [Zn,Zi]
 refine Yk (P:=Try.prog) (.inr rfl) hU [.val (.bool false)] (Nat.le_refl _) ?_
 simp only [push_cast,seval,↓reduceIte,Za,Try.results22]
theorem Zr9 {O:Objs} {n i j:Nat} {L:List NR} {size left s p v:Int} {x:NR} (hi:i < n) (hj:j < n) (hν:∀ y∈L,y.1 < n)
  (ho:O i=some ⟨false,59,3,1,[.row j L.length,.val (.int .i64 size),.val (.int .i64 left)]⟩) (hoj:O j=some ⟨true,40,1,L.length,fl eN L⟩) (hL:∀ x∈L,O x.1=some ⟨true,27,1,x.2.length,fl (eI .u64) x.2⟩) (hb:∀ x∈L,x.2.length≤1000000) (hx:Zv L s=some x) (hh:Kp (L.map (·.2)) s p 1=true) :
  GTo Try.prog 22 [.ref i 0,.val (.int .i64 s),.val (.int .i64 p),.val (.int .u64 v)] O n (.val (.bool true))
   (O.upd x.1 (some ⟨true,27,1,x.2.length,fl (eI .u64) (Yr x.2 p v)⟩)) n:=by
 have hx1:=hν x (Zw hx)
 have hox:=hL x (Zw hx)
 have hp:0≤p∧p < (x.2.length:Int):=by
  have e:Zv (L.map (·.2)) s=some x.2:=Za3 hx
  unfold Kp at hh
  rw [e] at hh
  have:=of_decide_eq_true hh
  omega
 refine Xq Zc Try.call22 Try.func22 rfl (Nat.le_of_ble_eq_true rfl) (by omega) fun hU => ?_
 have hlr:∀ i k,Yv O (.row i k)=True:=fun i k=>by simp [Yv]
 have HL:=Zef ho hoj hL
 have hth:=(Zg9 ⟨L.map (·.2),size,left⟩ s p 1 (fun t ht=>by obtain ⟨x,hx,rfl⟩:=List.mem_map.1 ht;exact hb x hx)).trans (congrArg some hh)
 show W _ _ _ _ ⟨24,[],[(0,.ref i 0),(1,.val (.int .i64 s)),(2,.val (.int .i64 p)),(3,.val (.int .u64 v))]⟩ (Zu O n []) _
 rw [Xe hU.fresh]
 refine Zh [0,1,2,3] (Zb Zc [] ?_)
 simp only [push_cast,seval,↓reduceIte,Za,hi]
 refine Zt ?_
 refine Zh [0,1,2,3,13] (Zb Zc [] ?_)
 simp only [push_cast,seval,↓reduceIte,Za,hi,hj,ho,hoj,hlr]
 refine GCalls.lend (Qu hth) rfl (by unfold Q4;exact ⟨_,_,rfl,HL,Y7 rfl⟩) ?_
 simp only [push_cast,seval,↓reduceIte,Za,hi,hj,ho,hoj,hlr]
 refine Zg (t:=false) rfl (fun c15=>by cases c15) (fun c15 => ?_)
 refine Zr ?_
 try simp only [Zn,Zi]
 obtain ⟨x2,hx2,ax2,bx2,cx2,h⟩:=bE (f:=eN) (K:=fun y=>some y) (r:=x) Jr (fun _=>rfl) (by decide) (by rw [hx];rfl)
 obtain rfl:x2=x:=Option.some.inj (hx2.symm.trans hx)
 have hE:(eN x2)[0]? = some (.row x2.1 x2.2.length):=rfl
 obtain ⟨w0,hw0⟩:∃ w0,Zv x2.2 p=some w0:=⟨x2.2[p.toNat]'(by omega),by unfold Zv;rw [if_pos hp.1];exact List.getElem?_eq_getElem (by omega)⟩
 have gu:Jt (fl (eI .u64) x2.2) [.val (.int .u64 v)] (Int.toNat p * 1)=some (fl (eI .u64) (Yr x2.2 p v)):=Zay (f:=eI .u64) (ti:=⟨.bool,1,0,[],false⟩) (x:=v) (fun _=>rfl) (Gr hw0)
 have hpl:=hp.1
 have hpr:=hp.2
 refine Zt ?_
 refine Zb Zc [] ?_
 simp only [push_cast,Nat.reduceAdd,Nat.reduceSub,Nat.reduceMul,Nat.reduceLeDiff,Nat.reduceLT,Nat.reduceEqDiff,↓reduceIte,reduceCtorEq,Int.reduceBEq,Int.reduceBNe,Nat.reduceBEq,Int.reduceLE,Int.reduceLT,Int.reduceEq,Int.reduceNe,Int.reduceNeg,Nat.reduceDiv,Nat.reduceMod,Nat.reducePow,Za,ax2,bx2,cx2,hi,ho,hoj,hj,Vi,Zeg,hE,hlr,hox,hx1,hpl,hpr,gu]
 refine Zh [8] (Zb Zc [] ?_)
 simp only [push_cast,seval,↓reduceIte,Za]
 refine Yy ?_
 refine Yk (P:=Try.prog) (.inr rfl) (hU.set hx1 (Yj _)) [.val (.bool true)] (Nat.le_refl _) ?_
 simp only [push_cast,seval,↓reduceIte,Za,Try.results22]
end Go.Proofs.Ytpggbianhdebmaa
