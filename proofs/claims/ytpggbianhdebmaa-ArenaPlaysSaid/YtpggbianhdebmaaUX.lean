/- Part X: arenas of one's own, whatever their numbers; each theorem bears its own conditions. -/
import Derived.Test.YtpggbianhdebmaaUR
namespace Go.Proofs.Ytpggbianhdebmaa
open Go.RowKit
set_option linter.unusedVariables false
set_option linter.unusedSimpArgs false
set_option maxRecDepth 100000
set_option maxHeartbeats 4000000
attribute [local push_cast] Zb2 Zb1 Zcs Zcr Zn Zi Gu Km Kl onW Yi Vg Ka Zel Zdx Uh Ul Ug Uk Zal Zah Uj Zak Zaj Zai Ui Zaf Ky evS wok Xg Op.operands Call.operands gop onK onP atK List.all_cons List.all_nil Bool.and_true Bool.true_and Bool.and_self Value.oneCell' List.take_zero List.take_succ_cons List.take_nil List.drop_zero List.drop_succ_cons List.drop_nil List.append_nil Nat.add_zero Nat.zero_add Qi Zp ev Xo Zhw Zbu Zbt Zbz Zbx Zby Zbv Zbw Zbs Zf7 Zgk Zhz U4 Q8 Gs J3 V6 Vn Jf Jk Kj Kf Ji Ki Kh Kg Jh Kc Jg Jj Qz Ke Zdy Ko Qg Up Qh Zaq U2 Zg8 K5 bHi bMx Q9 Zap Zjl U0 Za4 K7 Xx Zew Zjm Uo Kk Zjn Q7 Zj9 Gx G3 Gw G0 Zch Zcd Zcb V7 Gy Zcg Zcf Zce Gz Zb7 Zca Zb6 Zb9 Ze6 Ze3 Ze2 Zb8 Ze4 Ze5 Zcc Zbo Zex Zad Kx Kw pop TK.isAgg Zcm Zcq Zcl Zcp G7 Zfd Ze9 Zco Zfc Zfb Zfa Zcn Ze8 G.under G.unders List.getD_cons_zero List.getD_cons_succ List.set_cons_zero List.set_cons_succ List.map_cons List.map_nil List.toList_toArray Array.toList_append Option.toArray_none Option.toArray_some Array.toList_map Option.map_some Option.map_none Option.bind_some Option.bind_none List.getElem?_cons_zero List.getElem?_cons_succ List.getElem?_nil List.nil_append List.cons_append List.replicate_succ List.replicate_zero List.length_cons List.length_nil and_true true_and and_false false_and Bool.true_eq_false Bool.false_eq_true forall_const false_implies implies_true IntKind.bits if_true if_false ite_true ite_false eq_self true_implies false_or or_false or_true true_or not_true_eq_false not_false_eq_true decide_true decide_false decide_eq_true_eq decide_eq_false_iff_not beq_iff_eq bne_iff_ne ne_eq Bool.not_eq_true Bool.not_eq_false beq_eq_false_iff_ne bne_eq_false_iff_eq beq_self_eq_true bne_self_eq_false Option.some.injEq exists_eq_left' exists_eq_left ge_iff_le gt_iff_lt decide_not Bool.not_true Bool.not_false imp_self Zey cond_true cond_false Zmh Zmg Bool.not_not Bool.and_false Bool.false_and Bool.or_true Bool.true_or Bool.or_false Bool.false_or Xy Un K4 Jw Q6 Qa Option.join_some Nat.add_assoc Int.toNat_natCast eI eB eS eL Vm K6 Jl Zb5 Zb3 Zb4 Zkl Zkw Vc Jo Zcy Zcw Zcx Zh2 Zeu Zga Zem Zd2 Jz Zec List.length_append G.agg.injEq G.row.injEq G.ref.injEq G.val.injEq G.sl.injEq G.tup.injEq Value.int.injEq Value.bool.injEq Value.string.injEq List.cons.injEq exists_and_left exists_const List.flatten_cons List.flatten_nil Int.le_refl Nat.le_refl Zam Xi Gq Bool.not_eq_true' Bool.not_eq_false' Zdw Vl Zfr Zfv Zfq Zfu Zjk Zjf List.size_toArray Zgs Zfg G.ren G.rens Zff Zat Zcz Zbq Zbr Zag Zfw U6 G.fn.injEq Ux Zao Zdv Zjg Zan Zft Zjj Zji Zjh Zfs Ze7 Zih Option.join_none Zk Q0 undef Za6 Arr.len Arr.put_eq Ub Ua Kt Jn Zcv Zct Zcu onB Zkk Zev X7 V3 Gf Gg Gh Gi Gj Gk V8 Ue Uc Kv Jp Ud Zac Zab Zaa G9 Zkm Zkv Zh1 Zhi Xu Zh0 Zep Uf Ku Zbg Zbf Zic Zjo Zen Uz Za0 Us Ur Gl Gm Gn Gp Vq Vr Vs Vt Vu Vv Vw Vx Vy Vz V0 V1 V2 V4 prT Vo Zne Zfi Znf Zfj Zng Zfk Znh Zfl Zni Zfm Znj Zfn Znk Zfo Znl Zfp Zin Zc1 Zio Zc2 Zip Zc3 Ziq Zc4 Zir Zc5 Zis Zc6 Zit Zc7 Ziu Zc8 Ziv Zc9 Ziw Zda Zix Zdb Ziy Zdc Ziz Gd Zi0 Zdd Zbn Zde Zi1 Zdf Zhp Zdg Zi2 Zdh Zi3 Zdi Zi4 Zdj Jr Uw Zi5 Zdk Zi6 Zdl Zi7 Zdm Zi8 Zdn Zi9 Zdo Zja Zdp Zjb Zdq Zjc Zdr Zjd Zds Zje Zdt Zd Yp Yo Yl Ym Yq Ye Zz Yc Yn Zf Jv Kz Kr Ks K0 Js Xk Jq Yj Qq Qp Ql Qm Qr X8 X6 X5 Qo Ze Xc Xb Y8 Y9 Xd Y5 Y4 Y3 Xa Yg Yf Ya Yb Yh Z7 Z6 Z5 Yd
structure PX (H:Nat→GObj) (O:Objs) (n i j:Nat) (L:List NR):Prop where
 hi:i < n
 hj:j < n
 hij:i≠j
 ho:O i=some (H L.length)
 hoj:O j=some ⟨true,40,1,L.length,fl eN L⟩
 lt:∀ x∈L,x.1 < n
 ni:∀ x∈L,i≠x.1
 nj:∀ x∈L,j≠x.1
 hL:∀ x∈L,O x.1=some ⟨true,27,1,x.2.length,fl (eI .u64) x.2⟩
 nd:(L.map (·.1)).Nodup
def ter (i j:Nat) (L:List NR) (t:Nat):Prop:=t=i∨t=j∨∃ x∈L,t=x.1
theorem PX.frame {H:Nat→GObj} {O O':Objs} {n n' i j:Nat} {L:List NR} (h:PX H O n i j L) (hO:∀ t,ter i j L t→O' t=O t) (hn:n≤n'):PX H O' n' i j L :=
 ⟨by have:=h.hi;omega,by have:=h.hj;omega,h.hij,(hO i (.inl rfl)).trans h.ho,(hO j (.inr (.inl rfl))).trans h.hoj,fun x hx=>by have:=h.lt x hx;omega,h.ni,h.nj,fun x hx=>(hO _ (.inr (.inr ⟨x,hx,rfl⟩))).trans (h.hL x hx),h.nd⟩
theorem Zd8 {L:List NR} {s:Int} {x:NR} (hx:Zv L s=some x) (z:List Int):(Yr L s (x.1,z)).map (·.1)=L.map (·.1):=by
 have h:=Zh7 (L:=L.map (·.1)) (s:=s) (x:=x.1) (by
  unfold Zv at *
  split at hx
  ·rename_i c;rw [if_pos c,List.getElem?_map,hx];rfl
  cases hx)
 unfold Yr at *
 rw [List.map_set];exact h
theorem Zho {L:List NR} {s:Int} (a:Nat) (z:List Int):(Yr L s (a,z)).map (·.2)=Yr (L.map (·.2)) s z:=by unfold Yr;rw [List.map_set]
theorem Zkh {α:Type} {L:List α} {s:Int} {y z:α} (h:y∈Yr L s z):y∈L∨y=z:=List.mem_or_eq_of_mem_set h
theorem Zot {i j t:Nat} {L:List NR} {s:Int} {x:NR} (hx:Zv L s=some x) (z:List Int) (h:ter i j (Yr L s (x.1,z)) t):ter i j L t:=by
 rcases h with h | h | ⟨y,hy,rfl⟩
 ·exact .inl h
 ·exact .inr (.inl h)
 rcases Zkh hy with h | rfl
 ·exact .inr (.inr ⟨y,h,rfl⟩)
 exact .inr (.inr ⟨x,Zw hx,rfl⟩)
theorem V9 {L:List NR} {s:Int} {x y:NR} (hn:(L.map (·.1)).Nodup) (hx:Zv L s=some x) (z:List Int) (hy:y∈Yr L s (x.1,z)):y=(x.1,z)∨(y∈L∧y.1≠x.1):=by
 obtain ⟨p,hp⟩:=List.getElem?_of_mem hy
 unfold Yr at hp
 rw [List.getElem?_set] at hp
 unfold Zv at hx
 split at hx
 ·by_cases c:s.toNat=p
  ·subst c
   rw [if_pos rfl] at hp
   split at hp
   ·exact .inl (Option.some.inj hp).symm
   cases hp
  rw [if_neg c] at hp
  refine .inr ⟨List.mem_of_getElem? hp,fun e=>c ?_⟩
  have h1:(L.map (·.1))[p]? = some x.1:=by rw [List.getElem?_map,hp];exact congrArg some e
  have h2:(L.map (·.1))[s.toNat]? = some x.1:=by rw [List.getElem?_map,hx];rfl
  obtain ⟨l1,g1⟩:=List.getElem?_eq_some_iff.1 h1
  obtain ⟨l2,g2⟩:=List.getElem?_eq_some_iff.1 h2
  exact (List.getElem_inj (h₀:=l2) (h₁:=l1) hn).1 (g2.trans g1.symm)
 cases hx
theorem PX.set {H:Nat→GObj} {O:Objs} {n i j:Nat} {L:List NR} {s:Int} {x:NR} (h:PX H O n i j L) (hx:Zv L s=some x) (z:List Int) (H':Nat→GObj) :
  PX H' (((O.upd x.1 (some ⟨true,27,1,z.length,fl (eI .u64) z⟩)).upd j (some ⟨true,40,1,L.length,fl eN (Yr L s (x.1,z))⟩)).upd i (some (H' L.length))) n i j (Yr L s (x.1,z)):=by
 have hxm:=Zw hx
 have e:(Yr L s (x.1,z)).length=L.length:=X7 _ _ _
 refine ⟨h.hi,h.hj,h.hij,by rw [Zk,e],by rw [Zj _ _ (Ne.symm h.hij),Zk,e],fun y hy => ?_,fun y hy => ?_,fun y hy => ?_,fun y hy => ?_,by rw [Zd8 hx];exact h.nd⟩
 ·rcases V9 h.nd hx z hy with rfl | ⟨q,_⟩
  ·exact h.lt x hxm
  exact h.lt y q
 ·rcases V9 h.nd hx z hy with rfl | ⟨q,_⟩
  ·exact h.ni x hxm
  exact h.ni y q
 ·rcases V9 h.nd hx z hy with rfl | ⟨q,_⟩
  ·exact h.nj x hxm
  exact h.nj y q
 rcases V9 h.nd hx z hy with rfl | ⟨q,q2⟩
 ·rw [Zj _ _ (Ne.symm (h.ni x hxm)),Zj _ _ (Ne.symm (h.nj x hxm)),Zk]
 rw [Zj _ _ (Ne.symm (h.ni y q)),Zj _ _ (Ne.symm (h.nj y q)),Zj _ _ q2];exact h.hL y q
theorem Zry {L:List NR} {s:Int} {x:NR} (hx:Zv L s=some x) {z:List Int} (hz:z.length=x.2.length):fl eN (Yr L s (x.1,z))=fl eN L:=by
 have e:∀ L:List NR,fl eN L=(L.map fun y=>(y.1,y.2.length)).map fun y=>G.row y.1 y.2:=fun L=>by
  induction L with
  | nil=>rfl
  | cons y L ih =>
   rw [List.map_cons,List.map_cons,← ih];rfl
 rw [e,e]
 congr 1
 have h2:=Zh7 (L:=L.map fun y=>(y.1,y.2.length)) (s:=s) (x:=(x.1,x.2.length)) (by
  unfold Zv at *
  split at hx
  ·rename_i c;rw [if_pos c,List.getElem?_map,hx];rfl
  cases hx)
 unfold Yr at *
 rw [List.map_set,hz];exact h2
theorem PX.put {H:Nat→GObj} {O:Objs} {n i j:Nat} {L:List NR} {s:Int} {x:NR} (h:PX H O n i j L) (hx:Zv L s=some x) {z:List Int} (hz:z.length=x.2.length) :
  PX H (O.upd x.1 (some ⟨true,27,1,x.2.length,fl (eI .u64) z⟩)) n i j (Yr L s (x.1,z)):=by
 have hxm:=Zw hx
 have e:(Yr L s (x.1,z)).length=L.length:=X7 _ _ _
 refine ⟨h.hi,h.hj,h.hij,by rw [Zj _ _ (h.ni x hxm),e];exact h.ho,by rw [Zj _ _ (h.nj x hxm),e,Zry hx hz];exact h.hoj,fun y hy => ?_,fun y hy => ?_,fun y hy => ?_,fun y hy => ?_,by rw [Zd8 hx];exact h.nd⟩
 ·rcases V9 h.nd hx z hy with rfl | ⟨q,_⟩
  ·exact h.lt x hxm
  exact h.lt y q
 ·rcases V9 h.nd hx z hy with rfl | ⟨q,_⟩
  ·exact h.ni x hxm
  exact h.ni y q
 ·rcases V9 h.nd hx z hy with rfl | ⟨q,_⟩
  ·exact h.nj x hxm
  exact h.nj y q
 rcases V9 h.nd hx z hy with rfl | ⟨q,q2⟩
 ·rw [Zk,hz]
 rw [Zj _ _ q2];exact h.hL y q
theorem PX.new {H:Nat→GObj} {O:Objs} {n i j:Nat} {L:List NR} (h:PX H O n i j L) (z:List Int) (H':Nat→GObj) :
  PX H' (((O.upd n (some ⟨true,27,1,z.length,fl (eI .u64) z⟩)).upd j (some ⟨true,40,1,L.length+1,fl eN (L++[(n,z)])⟩)).upd i (some (H' (L.length+1)))) (n+1) i j (L++[(n,z)]):=by
 have e:(L++[(n,z)]).length=L.length+1:=by simp
 have h1:=h.hi
 have h2:=h.hj
 refine ⟨by omega,by omega,h.hij,by rw [Zk,e],by rw [Zj _ _ (Ne.symm h.hij),Zk,e],fun y hy => ?_,fun y hy => ?_,fun y hy => ?_,fun y hy => ?_,?_⟩
 ·rcases List.mem_append.1 hy with q | q
  ·have:=h.lt y q;omega
  rw [List.mem_singleton.1 q];exact Nat.lt_succ_self _
 ·rcases List.mem_append.1 hy with q | q
  ·exact h.ni y q
  rw [List.mem_singleton.1 q];exact Nat.ne_of_lt h1
 ·rcases List.mem_append.1 hy with q | q
  ·exact h.nj y q
  rw [List.mem_singleton.1 q];exact Nat.ne_of_lt h2
 ·rcases List.mem_append.1 hy with q | q
  ·rw [Zj _ _ (Ne.symm (h.ni y q)),Zj _ _ (Ne.symm (h.nj y q)),Zj _ _ (by have:=h.lt y q;omega)];exact h.hL y q
  rw [List.mem_singleton.1 q]
  rw [Zj _ _ (show n≠i by omega),Zj _ _ (show n≠j by omega),Zk]
 rw [List.map_append,List.nodup_append]
 refine ⟨h.nd,by simp,fun a ha b hb => ?_⟩
 obtain ⟨y,hy,rfl⟩:=List.mem_map.1 ha
 have:=h.lt y hy
 simp at hb
 omega
theorem Zjt {O:Objs} {i j t:Nat} {L:List NR} {s:Int} {x:NR} (hx:Zv L s=some x) (a b c:Option GObj) (h:¬ ter i j L t):(((O.upd x.1 a).upd j b).upd i c) t=O t:=by
 rw [Zj _ _ (fun e=>h (.inl e)),Zj _ _ (fun e=>h (.inr (.inl e))),Zj _ _ (fun e=>h (.inr (.inr ⟨x,Zw hx,e⟩)))]
theorem Zl0 {O:Objs} {i j t:Nat} {L:List NR} {s:Int} {x:NR} (hx:Zv L s=some x) (a:Option GObj) (h:¬ ter i j L t):(O.upd x.1 a) t=O t:=by
 rw [Zj _ _ (fun e=>h (.inr (.inr ⟨x,Zw hx,e⟩)))]
theorem Zoh {O:Objs} {n i j t:Nat} {L:List NR} (a b c:Option GObj) (h:¬ ter i j L t) (hn:t≠n):(((O.upd n a).upd j b).upd i c) t=O t:=by
 rw [Zj _ _ (fun e=>h (.inl e)),Zj _ _ (fun e=>h (.inr (.inl e))),Zj _ _ hn]
theorem Zrf {n i j t:Nat} {L:List NR} {z:List Int} (h:ter i j (L++[(n,z)]) t):ter i j L t∨t=n:=by
 rcases h with h | h | ⟨y,hy,rfl⟩
 ·exact .inl (.inl h)
 ·exact .inl (.inr (.inl h))
 rcases List.mem_append.1 hy with q | q
 ·exact .inl (.inr (.inr ⟨y,q,rfl⟩))
 rw [List.mem_singleton.1 q];exact .inr rfl
theorem PX.ter_lt {H:Nat→GObj} {O:Objs} {n i j t:Nat} {L:List NR} (h:PX H O n i j L) (ht:ter i j L t):t < n:=by
 rcases ht with rfl | rfl | ⟨y,hy,rfl⟩
 ·exact h.hi
 ·exact h.hj
 exact h.lt y hy
def HP (j:Nat) (size left:Int) (k:Nat):GObj:=⟨false,59,3,1,[.row j k,.val (.int .i64 size),.val (.int .i64 left)]⟩
def HR (j:Nat) (size most used:Int) (k:Nat):GObj:=⟨false,34,4,1,[.row j k,.val (.int .i64 size),.val (.int .i64 most),.val (.int .i64 used)]⟩
def Zs (N:Int):Int:=if 300 < N∧N < 200000 then 300 else N
open Classical in
noncomputable def inR (segs:List (List Int)) (size left s k:Int):List (List Int)×Int:=match Zv segs s with
 | none=>(segs,left)
 | some t=>if 0≤k∧k≤left∧k≤IntKind.i64.wrap (size - (t.length:Int)) then (Yr segs s (zl t k),IntKind.i64.wrap (left - k)) else (segs,left)
noncomputable def Zn3 (segs:List (List Int)) (s p v:Int):List (List Int):=if Kp segs s p 1=true then Yr segs s (Yr ((Zv segs s).getD []) p v) else segs
open Classical in
noncomputable def Jx (segs:List (List Int)) (size left K S A N v:Int):List (List Int)×Int :=
 if K=0∨K=1∨K=2∨K=3 then (Zgb segs size left (Zs N)).2.2.2
 else if K=4∨K=5 then inR segs size left S (Zs N)
 else if K=6∨K=7∨K=8 then (Zn3 segs S A v,left)
 else (segs,left)
structure Rel (O:Objs) (n i j i' j':Nat) (L L':List NR) (size most:Int) (r:List (List Int)×Int) (O':Objs) (n':Nat) (L1 L1':List NR):Prop where
 le:n≤n'
 a:PX (HP j size r.2) O' n' i j L1
 b:PX (HR j' size most (most - r.2)) O' n' i' j' L1'
 s1:L1.map (·.2)=r.1
 s2:L1'.map (·.2)=r.1
 off:∀ t,t < n→¬ ter i j L t→¬ ter i' j' L' t→O' t=O t
 nums:(L1.map (·.1)=L.map (·.1)∧L1'.map (·.1)=L'.map (·.1))∨(L.length < 16∧∃ z ν ν',L1=L++[(ν,z)]∧L1'=L'++[(ν',z)]∧n≤ν∧ν < ν'∧n'=ν'+1)
theorem Zo1 {O:Objs} {n i i':Nat} {K S A N v:Int} (hi0:i < n) (hi20:i' < n) (hK:¬ (0≤K∧K≤8)) :
  GTo Try.prog 9 [.ref i 0,.ref i' 0,.agg [.val (.int .i64 K),.val (.int .i64 S),.val (.int .i64 A),.val (.int .i64 N),.val (.int .u64 v)]] O n (.val (.bool true)) (O.upd n (some ⟨false,29,5,1,[.val (.int .i64 K),.val (.int .i64 S),.val (.int .i64 A),.val (.int .i64 N),.val (.int .u64 v)]⟩)) (n+1):=by
 refine Xq Zc Try.call9 Try.func9 rfl (Nat.le_of_ble_eq_true rfl) (by omega) fun hU => ?_
 have hN0:O n=none:=hU.fresh _ (Nat.le_refl _)
 have hi:i < n+1:=by omega
 have hi2:i' < n+1:=by omega
 have hn1:n < n+1:=Nat.lt_succ_self n
 have hN:∀ k,O (n+k)=none:=fun k=>hU.fresh _ (Nat.le_add_right _ _)
 show W _ _ _ _ ⟨142,[],[(0,.ref i 0),(1,.ref i' 0),(2,.agg [.val (.int .i64 K),.val (.int .i64 S),.val (.int .i64 A),.val (.int .i64 N),.val (.int .u64 v)])]⟩ (Zu O n []) _
 rw [Xe hU.fresh]
 refine Zh [0,1,5] (Zb Zc [] ?_)
 simp only [push_cast,seval,↓reduceIte,Za,hi0,hi20,hN0,hN]
 obtain ⟨O0,hO0⟩:∃ O0,O0=O.upd n (some ⟨false,29,5,1,[.val (.int .i64 K),.val (.int .i64 S),.val (.int .i64 A),.val (.int .i64 N),.val (.int .u64 v)]⟩):=⟨_,rfl⟩
 have hOn:O0 n=some ⟨false,29,5,1,[.val (.int .i64 K),.val (.int .i64 S),.val (.int .i64 A),.val (.int .i64 N),.val (.int .u64 v)]⟩:=by rw [hO0];exact Zk _ _ _
 have hU0:Und O0 (n+1):=by rw [hO0];exact (hU.more (Nat.le_succ n)).set hn1 (by simp [G.unders,G.under])
 simp only [← hO0]
 refine Zh [0,1,5,7] (Zb Zc [] ?_)
 simp only [push_cast,seval,↓reduceIte,Za,hi,hi2,hn1,hOn]
 refine Z0 (E':=⟨142,[],[(0,.ref i 0),(1,.ref i' 0),(5,.ref n 0),(7,.val (.int .i64 (Zs N)))]⟩) (O':=O0) (n0:=n+1) ?_ ?_
 ·by_cases c1:300 < N
  ·have d1:decide (300 < N)=true:=decide_eq_true c1
   by_cases c2:N < 200000
   ·have d2:decide (N < 200000)=true:=decide_eq_true c2
    have e:Zs N=300:=if_pos ⟨c1,c2⟩
    rw [e]
    refine Zh [0,1,5,7,24] (Zb Zc [Zy,Zy] ?_)
    simp only [push_cast,seval,↓reduceIte,Za,hi,hi2,hn1,hOn,d1,d2]
    refine Zg (t:=true) rfl (fun c15 => ?_) (fun c15=>by cases c15)
    refine Zb Zc [] ?_
    simp only [push_cast,seval,↓reduceIte,Za,hi,hi2,hn1,hOn]
    refine And.intro rfl (Zm hU0 (Nat.le_succ n) rfl ?_)
    simp only [push_cast,seval,↓reduceIte,Za,hi,hi2,hn1,hOn]
   have d2:decide (N < 200000)=false:=decide_eq_false c2
   have e:Zs N=N:=if_neg (fun h=>c2 h.2)
   rw [e]
   refine Zh [0,1,5,7,24] (Zb Zc [Zy,Zy] ?_)
   simp only [push_cast,seval,↓reduceIte,Za,hi,hi2,hn1,hOn,d1,d2]
   refine Zg (t:=false) rfl (fun c15=>by cases c15) (fun c15 => ?_)
   refine Zr ?_
   refine And.intro rfl (Zm hU0 (Nat.le_succ n) rfl ?_)
   simp only [push_cast,seval,↓reduceIte,Za,hi,hi2,hn1,hOn]
  have d1:decide (300 < N)=false:=decide_eq_false c1
  have e:Zs N=N:=if_neg (fun h=>c1 h.1)
  rw [e]
  refine Zh [0,1,5,7,24] (Zb Zc [Yw,Yw] ?_)
  simp only [push_cast,seval,↓reduceIte,Za,hi,hi2,hn1,hOn,d1]
  refine Zg (t:=false) rfl (fun c15=>by cases c15) (fun c15 => ?_)
  refine Zr ?_
  refine And.intro rfl (Zm hU0 (Nat.le_succ n) rfl ?_)
  simp only [push_cast,seval,↓reduceIte,Za,hi,hi2,hn1,hOn]
 refine Zh [0,1,5,7,26] (Zb Zc [] ?_)
 simp only [push_cast,seval,↓reduceIte,Za,hi,hi2,hn1,hOn]
 refine J5 ?_
 refine Z0 (E':=⟨142,[],[(0,.ref i 0),(1,.ref i' 0),(5,.ref n 0),(7,.val (.int .i64 (Zs N))),(26,.val (.int .i64 K)),(27,.val (.bool false))]⟩) (O':=O0) (n0:=n+1) ?_ ?_
 ·have d0:decide (K=0)=false:=decide_eq_false (by omega)
  have b0:(K == 0)=false:=by rw [beq_eq_false_iff_ne];omega
  refine Zh [0,1,5,7,26,27] (Zb Zc [] ?_)
  simp only [push_cast,seval,↓reduceIte,Za,hi,hi2,hn1,hOn,d0,b0]
  refine Zg (t:=false) rfl (fun c15=>by cases c15) (fun c15 => ?_)
  have d1:decide (K=1)=false:=decide_eq_false (by omega)
  have b1:(K == 1)=false:=by rw [beq_eq_false_iff_ne];omega
  refine Zh [0,1,5,7,26,27] (Zb Zc [] ?_)
  simp only [push_cast,seval,↓reduceIte,Za,hi,hi2,hn1,hOn,d1,b1]
  refine Zg (t:=false) rfl (fun c15=>by cases c15) (fun c15 => ?_)
  have d2:decide (K=2)=false:=decide_eq_false (by omega)
  have b2:(K == 2)=false:=by rw [beq_eq_false_iff_ne];omega
  refine Zh [0,1,5,7,26,27] (Zb Zc [] ?_)
  simp only [push_cast,seval,↓reduceIte,Za,hi,hi2,hn1,hOn,d2,b2]
  refine Zg (t:=false) rfl (fun c15=>by cases c15) (fun c15 => ?_)
  have d3:decide (K=3)=false:=decide_eq_false (by omega)
  have b3:(K == 3)=false:=by rw [beq_eq_false_iff_ne];omega
  refine Zb Zc [] ?_
  simp only [push_cast,seval,↓reduceIte,Za,hi,hi2,hn1,hOn,d3,b3]
  refine And.intro rfl (Zm hU0 (Nat.le_succ n) rfl ?_)
  simp only [push_cast,seval,↓reduceIte,Za,hi,hi2,hn1,hOn]
 refine Zg (t:=false) rfl (fun c15=>by cases c15) (fun c15 => ?_)
 refine Z0 (E':=⟨142,[],[(0,.ref i 0),(1,.ref i' 0),(5,.ref n 0),(7,.val (.int .i64 (Zs N))),(26,.val (.int .i64 K)),(72,.val (.bool false))]⟩) (O':=O0) (n0:=n+1) ?_ ?_
 ·have d4:decide (K=4)=false:=decide_eq_false (by omega)
  have b4:(K == 4)=false:=by rw [beq_eq_false_iff_ne];omega
  refine Zh [0,1,5,7,26,72] (Zb Zc [] ?_)
  simp only [push_cast,seval,↓reduceIte,Za,hi,hi2,hn1,hOn,d4,b4]
  refine Zg (t:=false) rfl (fun c15=>by cases c15) (fun c15 => ?_)
  have d5:decide (K=5)=false:=decide_eq_false (by omega)
  have b5:(K == 5)=false:=by rw [beq_eq_false_iff_ne];omega
  refine Zb Zc [] ?_
  simp only [push_cast,seval,↓reduceIte,Za,hi,hi2,hn1,hOn,d5,b5]
  refine And.intro rfl (Zm hU0 (Nat.le_succ n) rfl ?_)
  simp only [push_cast,seval,↓reduceIte,Za,hi,hi2,hn1,hOn]
 refine Zg (t:=false) rfl (fun c15=>by cases c15) (fun c15 => ?_)
 refine Z0 (E':=⟨142,[],[(0,.ref i 0),(1,.ref i' 0),(5,.ref n 0),(7,.val (.int .i64 (Zs N))),(26,.val (.int .i64 K)),(108,.val (.bool false))]⟩) (O':=O0) (n0:=n+1) ?_ ?_
 ·have d6:decide (K=6)=false:=decide_eq_false (by omega)
  have b6:(K == 6)=false:=by rw [beq_eq_false_iff_ne];omega
  refine Zh [0,1,5,7,26,108] (Zb Zc [] ?_)
  simp only [push_cast,seval,↓reduceIte,Za,hi,hi2,hn1,hOn,d6,b6]
  refine Zg (t:=false) rfl (fun c15=>by cases c15) (fun c15 => ?_)
  have d7:decide (K=7)=false:=decide_eq_false (by omega)
  have b7:(K == 7)=false:=by rw [beq_eq_false_iff_ne];omega
  refine Zh [0,1,5,7,26,108] (Zb Zc [] ?_)
  simp only [push_cast,seval,↓reduceIte,Za,hi,hi2,hn1,hOn,d7,b7]
  refine Zg (t:=false) rfl (fun c15=>by cases c15) (fun c15 => ?_)
  have d8:decide (K=8)=false:=decide_eq_false (by omega)
  have b8:(K == 8)=false:=by rw [beq_eq_false_iff_ne];omega
  refine Zb Zc [] ?_
  simp only [push_cast,seval,↓reduceIte,Za,hi,hi2,hn1,hOn,d8,b8]
  refine And.intro rfl (Zm hU0 (Nat.le_succ n) rfl ?_)
  simp only [push_cast,seval,↓reduceIte,Za,hi,hi2,hn1,hOn]
 refine Zg (t:=false) rfl (fun c15=>by cases c15) (fun c15 => ?_)
 refine Zh [6] (Zb Zc [] ?_)
 simp only [push_cast,seval,↓reduceIte,Za]
 refine Yy ?_
 try simp only [Zn,Zi]
 rw [hO0]
 refine Yk (P:=Try.prog) (.inr rfl) (hO0 ▸ hU0) [.val (.bool true)] (Nat.le_succ n) ?_
 simp only [push_cast,seval,↓reduceIte,Za,Try.results9]
theorem Zg0 {O:Objs} {n i i':Nat} {K S A N v:Int} (hi0:i < n) (hi20:i' < n) (hK:K=0∨K=1∨K=2∨K=3) {O1 O2:Objs} {n1 n2:Nat} (h1:n+1≤n1) (h2:n1≤n2) {a b:Int} (h0:0≤a)
  (g1:GTo Try.prog 19 [.ref i 0,.val (.int .i64 (Zs N))] (O.upd n (some ⟨false,29,5,1,[.val (.int .i64 K),.val (.int .i64 S),.val (.int .i64 A),.val (.int .i64 N),.val (.int .u64 v)]⟩)) (n+1) (.tup [.val (.int .i64 a),.val (.int .i64 b),.val (.bool true)]) O1 n1) (g2:GTo Try.prog 24 [.ref i' 0,.val (.int .i64 (Zs N))] O1 n1 (.tup [.val (.int .i64 a),.val (.int .i64 b)]) O2 n2) :
  GTo Try.prog 9 [.ref i 0,.ref i' 0,.agg [.val (.int .i64 K),.val (.int .i64 S),.val (.int .i64 A),.val (.int .i64 N),.val (.int .u64 v)]] O n (.val (.bool true)) O2 n2:=by
 refine Xq Zc Try.call9 Try.func9 rfl (Nat.le_of_ble_eq_true rfl) (by omega) fun hU => ?_
 have hN0:O n=none:=hU.fresh _ (Nat.le_refl _)
 have hi:i < n+1:=by omega
 have hi2:i' < n+1:=by omega
 have hn1:n < n+1:=Nat.lt_succ_self n
 have hN:∀ k,O (n+k)=none:=fun k=>hU.fresh _ (Nat.le_add_right _ _)
 show W _ _ _ _ ⟨142,[],[(0,.ref i 0),(1,.ref i' 0),(2,.agg [.val (.int .i64 K),.val (.int .i64 S),.val (.int .i64 A),.val (.int .i64 N),.val (.int .u64 v)])]⟩ (Zu O n []) _
 rw [Xe hU.fresh]
 refine Zh [0,1,5] (Zb Zc [] ?_)
 simp only [push_cast,seval,↓reduceIte,Za,hi0,hi20,hN0,hN]
 obtain ⟨O0,hO0⟩:∃ O0,O0=O.upd n (some ⟨false,29,5,1,[.val (.int .i64 K),.val (.int .i64 S),.val (.int .i64 A),.val (.int .i64 N),.val (.int .u64 v)]⟩):=⟨_,rfl⟩
 have hOn:O0 n=some ⟨false,29,5,1,[.val (.int .i64 K),.val (.int .i64 S),.val (.int .i64 A),.val (.int .i64 N),.val (.int .u64 v)]⟩:=by rw [hO0];exact Zk _ _ _
 have hU0:Und O0 (n+1):=by rw [hO0];exact (hU.more (Nat.le_succ n)).set hn1 (by simp [G.unders,G.under])
 simp only [← hO0]
 rw [← hO0] at g1
 refine Zh [0,1,5,7] (Zb Zc [] ?_)
 simp only [push_cast,seval,↓reduceIte,Za,hi,hi2,hn1,hOn]
 refine Z0 (E':=⟨142,[],[(0,.ref i 0),(1,.ref i' 0),(5,.ref n 0),(7,.val (.int .i64 (Zs N)))]⟩) (O':=O0) (n0:=n+1) ?_ ?_
 ·by_cases c1:300 < N
  ·have d1:decide (300 < N)=true:=decide_eq_true c1
   by_cases c2:N < 200000
   ·have d2:decide (N < 200000)=true:=decide_eq_true c2
    have e:Zs N=300:=if_pos ⟨c1,c2⟩
    rw [e]
    refine Zh [0,1,5,7,24] (Zb Zc [Zy,Zy] ?_)
    simp only [push_cast,seval,↓reduceIte,Za,hi,hi2,hn1,hOn,d1,d2]
    refine Zg (t:=true) rfl (fun c15 => ?_) (fun c15=>by cases c15)
    refine Zb Zc [] ?_
    simp only [push_cast,seval,↓reduceIte,Za,hi,hi2,hn1,hOn]
    refine And.intro rfl (Zm hU0 (Nat.le_succ n) rfl ?_)
    simp only [push_cast,seval,↓reduceIte,Za,hi,hi2,hn1,hOn]
   have d2:decide (N < 200000)=false:=decide_eq_false c2
   have e:Zs N=N:=if_neg (fun h=>c2 h.2)
   rw [e]
   refine Zh [0,1,5,7,24] (Zb Zc [Zy,Zy] ?_)
   simp only [push_cast,seval,↓reduceIte,Za,hi,hi2,hn1,hOn,d1,d2]
   refine Zg (t:=false) rfl (fun c15=>by cases c15) (fun c15 => ?_)
   refine Zr ?_
   refine And.intro rfl (Zm hU0 (Nat.le_succ n) rfl ?_)
   simp only [push_cast,seval,↓reduceIte,Za,hi,hi2,hn1,hOn]
  have d1:decide (300 < N)=false:=decide_eq_false c1
  have e:Zs N=N:=if_neg (fun h=>c1 h.1)
  rw [e]
  refine Zh [0,1,5,7,24] (Zb Zc [Yw,Yw] ?_)
  simp only [push_cast,seval,↓reduceIte,Za,hi,hi2,hn1,hOn,d1]
  refine Zg (t:=false) rfl (fun c15=>by cases c15) (fun c15 => ?_)
  refine Zr ?_
  refine And.intro rfl (Zm hU0 (Nat.le_succ n) rfl ?_)
  simp only [push_cast,seval,↓reduceIte,Za,hi,hi2,hn1,hOn]
 refine Zh [0,1,5,7,26] (Zb Zc [] ?_)
 simp only [push_cast,seval,↓reduceIte,Za,hi,hi2,hn1,hOn]
 refine J5 ?_
 refine Z0 (E':=⟨142,[],[(0,.ref i 0),(1,.ref i' 0),(5,.ref n 0),(7,.val (.int .i64 (Zs N))),(26,.val (.int .i64 K)),(27,.val (.bool true))]⟩) (O':=O0) (n0:=n+1) ?_ ?_
 ·by_cases c0:K=0
  ·have d0:decide (K=0)=true:=decide_eq_true c0
   have b0:(K == 0)=true:=by rw [beq_iff_eq];exact c0
   refine Zh [0,1,5,7,26,27] (Zb Zc [] ?_)
   simp only [push_cast,seval,↓reduceIte,Za,hi,hi2,hn1,hOn,d0,b0]
   refine Zg (t:=true) rfl (fun c15 => ?_) (fun c15=>by cases c15)
   refine Zr ?_
   refine And.intro rfl (Zm hU0 (Nat.le_succ n) rfl ?_)
   simp only [push_cast,seval,↓reduceIte,Za,hi,hi2,hn1,hOn]
  have d0:decide (K=0)=false:=decide_eq_false c0
  have b0:(K == 0)=false:=by rw [beq_eq_false_iff_ne];exact c0
  refine Zh [0,1,5,7,26,27] (Zb Zc [] ?_)
  simp only [push_cast,seval,↓reduceIte,Za,hi,hi2,hn1,hOn,d0,b0]
  refine Zg (t:=false) rfl (fun c15=>by cases c15) (fun c15 => ?_)
  by_cases c1:K=1
  ·have d1:decide (K=1)=true:=decide_eq_true c1
   have b1:(K == 1)=true:=by rw [beq_iff_eq];exact c1
   refine Zh [0,1,5,7,26,27] (Zb Zc [] ?_)
   simp only [push_cast,seval,↓reduceIte,Za,hi,hi2,hn1,hOn,d1,b1]
   refine Zg (t:=true) rfl (fun c15 => ?_) (fun c15=>by cases c15)
   refine Zr ?_
   refine And.intro rfl (Zm hU0 (Nat.le_succ n) rfl ?_)
   simp only [push_cast,seval,↓reduceIte,Za,hi,hi2,hn1,hOn]
  have d1:decide (K=1)=false:=decide_eq_false c1
  have b1:(K == 1)=false:=by rw [beq_eq_false_iff_ne];exact c1
  refine Zh [0,1,5,7,26,27] (Zb Zc [] ?_)
  simp only [push_cast,seval,↓reduceIte,Za,hi,hi2,hn1,hOn,d1,b1]
  refine Zg (t:=false) rfl (fun c15=>by cases c15) (fun c15 => ?_)
  by_cases c2:K=2
  ·have d2:decide (K=2)=true:=decide_eq_true c2
   have b2:(K == 2)=true:=by rw [beq_iff_eq];exact c2
   refine Zh [0,1,5,7,26,27] (Zb Zc [] ?_)
   simp only [push_cast,seval,↓reduceIte,Za,hi,hi2,hn1,hOn,d2,b2]
   refine Zg (t:=true) rfl (fun c15 => ?_) (fun c15=>by cases c15)
   refine Zr ?_
   refine And.intro rfl (Zm hU0 (Nat.le_succ n) rfl ?_)
   simp only [push_cast,seval,↓reduceIte,Za,hi,hi2,hn1,hOn]
  have d2:decide (K=2)=false:=decide_eq_false c2
  have b2:(K == 2)=false:=by rw [beq_eq_false_iff_ne];exact c2
  refine Zh [0,1,5,7,26,27] (Zb Zc [] ?_)
  simp only [push_cast,seval,↓reduceIte,Za,hi,hi2,hn1,hOn,d2,b2]
  refine Zg (t:=false) rfl (fun c15=>by cases c15) (fun c15 => ?_)
  have d3:decide (K=3)=true:=decide_eq_true (by omega)
  have b3:(K == 3)=true:=by rw [beq_iff_eq];omega
  refine Zb Zc [] ?_
  simp only [push_cast,seval,↓reduceIte,Za,hi,hi2,hn1,hOn,d3,b3]
  refine And.intro rfl (Zm hU0 (Nat.le_succ n) rfl ?_)
  simp only [push_cast,seval,↓reduceIte,Za,hi,hi2,hn1,hOn]
 refine Zg (t:=true) rfl (fun c15 => ?_) (fun c15=>by cases c15)
 have hi1:i < n1:=by omega
 have hi3:i' < n1:=by omega
 refine Zh [1,7,8,9,10] (Zb Zc [] ?_)
 simp only [push_cast,seval,↓reduceIte,Za,hi,hi2,hn1,hOn]
 refine g1.then ?_
 simp only [push_cast,seval,↓reduceIte,Za,hi,hi2,hn1,hOn,hi1,hi3]
 refine Zh [8,9,10,11,12] (Zb Zc [] ?_)
 simp only [push_cast,seval,↓reduceIte,Za,hi3]
 refine g2.then ?_
 simp only [push_cast,seval,↓reduceIte,Za]
 have d1:decide (0≤a)=true:=decide_eq_true h0
 refine Zh [6] (Zb Zc (Zp1 (Ztw [Zy])) ?_)
 simp only [push_cast,seval,↓reduceIte,Za,d1,beq_self_eq_true,decide_true]
 refine Zes fun hU2 => ?_
 refine Yy ?_
 try simp only [Zn,Zi]
 refine Yk (P:=Try.prog) (.inr rfl) hU2 [.val (.bool true)] (by omega) ?_
 simp only [push_cast,seval,↓reduceIte,Za,Try.results9]
theorem Zlm {O:Objs} {n i i':Nat} {K S A N v:Int} (hi0:i < n) (hi20:i' < n) (hK:K=0∨K=1∨K=2∨K=3) {O1 O2:Objs} {n1 n2:Nat} (h1:n+1≤n1) (h2:n1≤n2)
  (g1:GTo Try.prog 19 [.ref i 0,.val (.int .i64 (Zs N))] (O.upd n (some ⟨false,29,5,1,[.val (.int .i64 K),.val (.int .i64 S),.val (.int .i64 A),.val (.int .i64 N),.val (.int .u64 v)]⟩)) (n+1) (.tup [.val (.int .i64 0),.val (.int .i64 0),.val (.bool false)]) O1 n1) (g2:GTo Try.prog 24 [.ref i' 0,.val (.int .i64 (Zs N))] O1 n1 (.tup [.val (.int .i64 (-1)),.val (.int .i64 (-1))]) O2 n2) :
  GTo Try.prog 9 [.ref i 0,.ref i' 0,.agg [.val (.int .i64 K),.val (.int .i64 S),.val (.int .i64 A),.val (.int .i64 N),.val (.int .u64 v)]] O n (.val (.bool true)) O2 n2:=by
 refine Xq Zc Try.call9 Try.func9 rfl (Nat.le_of_ble_eq_true rfl) (by omega) fun hU => ?_
 have hN0:O n=none:=hU.fresh _ (Nat.le_refl _)
 have hi:i < n+1:=by omega
 have hi2:i' < n+1:=by omega
 have hn1:n < n+1:=Nat.lt_succ_self n
 have hN:∀ k,O (n+k)=none:=fun k=>hU.fresh _ (Nat.le_add_right _ _)
 show W _ _ _ _ ⟨142,[],[(0,.ref i 0),(1,.ref i' 0),(2,.agg [.val (.int .i64 K),.val (.int .i64 S),.val (.int .i64 A),.val (.int .i64 N),.val (.int .u64 v)])]⟩ (Zu O n []) _
 rw [Xe hU.fresh]
 refine Zh [0,1,5] (Zb Zc [] ?_)
 simp only [push_cast,seval,↓reduceIte,Za,hi0,hi20,hN0,hN]
 obtain ⟨O0,hO0⟩:∃ O0,O0=O.upd n (some ⟨false,29,5,1,[.val (.int .i64 K),.val (.int .i64 S),.val (.int .i64 A),.val (.int .i64 N),.val (.int .u64 v)]⟩):=⟨_,rfl⟩
 have hOn:O0 n=some ⟨false,29,5,1,[.val (.int .i64 K),.val (.int .i64 S),.val (.int .i64 A),.val (.int .i64 N),.val (.int .u64 v)]⟩:=by rw [hO0];exact Zk _ _ _
 have hU0:Und O0 (n+1):=by rw [hO0];exact (hU.more (Nat.le_succ n)).set hn1 (by simp [G.unders,G.under])
 simp only [← hO0]
 rw [← hO0] at g1
 refine Zh [0,1,5,7] (Zb Zc [] ?_)
 simp only [push_cast,seval,↓reduceIte,Za,hi,hi2,hn1,hOn]
 refine Z0 (E':=⟨142,[],[(0,.ref i 0),(1,.ref i' 0),(5,.ref n 0),(7,.val (.int .i64 (Zs N)))]⟩) (O':=O0) (n0:=n+1) ?_ ?_
 ·by_cases c1:300 < N
  ·have d1:decide (300 < N)=true:=decide_eq_true c1
   by_cases c2:N < 200000
   ·have d2:decide (N < 200000)=true:=decide_eq_true c2
    have e:Zs N=300:=if_pos ⟨c1,c2⟩
    rw [e]
    refine Zh [0,1,5,7,24] (Zb Zc [Zy,Zy] ?_)
    simp only [push_cast,seval,↓reduceIte,Za,hi,hi2,hn1,hOn,d1,d2]
    refine Zg (t:=true) rfl (fun c15 => ?_) (fun c15=>by cases c15)
    refine Zb Zc [] ?_
    simp only [push_cast,seval,↓reduceIte,Za,hi,hi2,hn1,hOn]
    refine And.intro rfl (Zm hU0 (Nat.le_succ n) rfl ?_)
    simp only [push_cast,seval,↓reduceIte,Za,hi,hi2,hn1,hOn]
   have d2:decide (N < 200000)=false:=decide_eq_false c2
   have e:Zs N=N:=if_neg (fun h=>c2 h.2)
   rw [e]
   refine Zh [0,1,5,7,24] (Zb Zc [Zy,Zy] ?_)
   simp only [push_cast,seval,↓reduceIte,Za,hi,hi2,hn1,hOn,d1,d2]
   refine Zg (t:=false) rfl (fun c15=>by cases c15) (fun c15 => ?_)
   refine Zr ?_
   refine And.intro rfl (Zm hU0 (Nat.le_succ n) rfl ?_)
   simp only [push_cast,seval,↓reduceIte,Za,hi,hi2,hn1,hOn]
  have d1:decide (300 < N)=false:=decide_eq_false c1
  have e:Zs N=N:=if_neg (fun h=>c1 h.1)
  rw [e]
  refine Zh [0,1,5,7,24] (Zb Zc [Yw,Yw] ?_)
  simp only [push_cast,seval,↓reduceIte,Za,hi,hi2,hn1,hOn,d1]
  refine Zg (t:=false) rfl (fun c15=>by cases c15) (fun c15 => ?_)
  refine Zr ?_
  refine And.intro rfl (Zm hU0 (Nat.le_succ n) rfl ?_)
  simp only [push_cast,seval,↓reduceIte,Za,hi,hi2,hn1,hOn]
 refine Zh [0,1,5,7,26] (Zb Zc [] ?_)
 simp only [push_cast,seval,↓reduceIte,Za,hi,hi2,hn1,hOn]
 refine J5 ?_
 refine Z0 (E':=⟨142,[],[(0,.ref i 0),(1,.ref i' 0),(5,.ref n 0),(7,.val (.int .i64 (Zs N))),(26,.val (.int .i64 K)),(27,.val (.bool true))]⟩) (O':=O0) (n0:=n+1) ?_ ?_
 ·by_cases c0:K=0
  ·have d0:decide (K=0)=true:=decide_eq_true c0
   have b0:(K == 0)=true:=by rw [beq_iff_eq];exact c0
   refine Zh [0,1,5,7,26,27] (Zb Zc [] ?_)
   simp only [push_cast,seval,↓reduceIte,Za,hi,hi2,hn1,hOn,d0,b0]
   refine Zg (t:=true) rfl (fun c15 => ?_) (fun c15=>by cases c15)
   refine Zr ?_
   refine And.intro rfl (Zm hU0 (Nat.le_succ n) rfl ?_)
   simp only [push_cast,seval,↓reduceIte,Za,hi,hi2,hn1,hOn]
  have d0:decide (K=0)=false:=decide_eq_false c0
  have b0:(K == 0)=false:=by rw [beq_eq_false_iff_ne];exact c0
  refine Zh [0,1,5,7,26,27] (Zb Zc [] ?_)
  simp only [push_cast,seval,↓reduceIte,Za,hi,hi2,hn1,hOn,d0,b0]
  refine Zg (t:=false) rfl (fun c15=>by cases c15) (fun c15 => ?_)
  by_cases c1:K=1
  ·have d1:decide (K=1)=true:=decide_eq_true c1
   have b1:(K == 1)=true:=by rw [beq_iff_eq];exact c1
   refine Zh [0,1,5,7,26,27] (Zb Zc [] ?_)
   simp only [push_cast,seval,↓reduceIte,Za,hi,hi2,hn1,hOn,d1,b1]
   refine Zg (t:=true) rfl (fun c15 => ?_) (fun c15=>by cases c15)
   refine Zr ?_
   refine And.intro rfl (Zm hU0 (Nat.le_succ n) rfl ?_)
   simp only [push_cast,seval,↓reduceIte,Za,hi,hi2,hn1,hOn]
  have d1:decide (K=1)=false:=decide_eq_false c1
  have b1:(K == 1)=false:=by rw [beq_eq_false_iff_ne];exact c1
  refine Zh [0,1,5,7,26,27] (Zb Zc [] ?_)
  simp only [push_cast,seval,↓reduceIte,Za,hi,hi2,hn1,hOn,d1,b1]
  refine Zg (t:=false) rfl (fun c15=>by cases c15) (fun c15 => ?_)
  by_cases c2:K=2
  ·have d2:decide (K=2)=true:=decide_eq_true c2
   have b2:(K == 2)=true:=by rw [beq_iff_eq];exact c2
   refine Zh [0,1,5,7,26,27] (Zb Zc [] ?_)
   simp only [push_cast,seval,↓reduceIte,Za,hi,hi2,hn1,hOn,d2,b2]
   refine Zg (t:=true) rfl (fun c15 => ?_) (fun c15=>by cases c15)
   refine Zr ?_
   refine And.intro rfl (Zm hU0 (Nat.le_succ n) rfl ?_)
   simp only [push_cast,seval,↓reduceIte,Za,hi,hi2,hn1,hOn]
  have d2:decide (K=2)=false:=decide_eq_false c2
  have b2:(K == 2)=false:=by rw [beq_eq_false_iff_ne];exact c2
  refine Zh [0,1,5,7,26,27] (Zb Zc [] ?_)
  simp only [push_cast,seval,↓reduceIte,Za,hi,hi2,hn1,hOn,d2,b2]
  refine Zg (t:=false) rfl (fun c15=>by cases c15) (fun c15 => ?_)
  have d3:decide (K=3)=true:=decide_eq_true (by omega)
  have b3:(K == 3)=true:=by rw [beq_iff_eq];omega
  refine Zb Zc [] ?_
  simp only [push_cast,seval,↓reduceIte,Za,hi,hi2,hn1,hOn,d3,b3]
  refine And.intro rfl (Zm hU0 (Nat.le_succ n) rfl ?_)
  simp only [push_cast,seval,↓reduceIte,Za,hi,hi2,hn1,hOn]
 refine Zg (t:=true) rfl (fun c15 => ?_) (fun c15=>by cases c15)
 have hi1:i < n1:=by omega
 have hi3:i' < n1:=by omega
 refine Zh [1,7,8,9,10] (Zb Zc [] ?_)
 simp only [push_cast,seval,↓reduceIte,Za,hi,hi2,hn1,hOn]
 refine g1.then ?_
 simp only [push_cast,seval,↓reduceIte,Za,hi,hi2,hn1,hOn,hi1,hi3]
 refine Zh [8,9,10,11,12] (Zb Zc [] ?_)
 simp only [push_cast,seval,↓reduceIte,Za,hi3]
 refine g2.then ?_
 simp only [push_cast,seval,↓reduceIte,Za]
 have w0:IntKind.i64.wrap 0=0:=Gv (by omega)
 have b0:((0:Int) == 0)=true:=rfl
 refine Zh [6] (Zb Zc (Zy::Zy::Zr6 (Zy::Zy::Zr6 (Zmz []))) ?_)
 simp only [push_cast,seval,↓reduceIte,Za,w0,b0]
 refine Zes fun hU2 => ?_
 refine Yy ?_
 try simp only [Zn,Zi]
 refine Yk (P:=Try.prog) (.inr rfl) hU2 [.val (.bool true)] (by omega) ?_
 simp only [push_cast,seval,↓reduceIte,Za,Try.results9]
theorem Znt {O:Objs} {n i i':Nat} {K S A N v:Int} (hi0:i < n) (hi20:i' < n) (hK:K=4∨K=5) {O1 O2:Objs} {n1 n2:Nat} (h1:n+1≤n1) (h2:n1≤n2) {a:Int} (h0:0≤a)
  (g1:GTo Try.prog 21 [.ref i 0,.val (.int .i64 S),.val (.int .i64 (Zs N))] (O.upd n (some ⟨false,29,5,1,[.val (.int .i64 K),.val (.int .i64 S),.val (.int .i64 A),.val (.int .i64 N),.val (.int .u64 v)]⟩)) (n+1) (.tup [.val (.int .i64 a),.val (.bool true)]) O1 n1) (g2:GTo Try.prog 25 [.ref i' 0,.val (.int .i64 S),.val (.int .i64 (Zs N))] O1 n1 (.val (.int .i64 a)) O2 n2)
  (hb:O1 n=some ⟨false,29,5,1,[.val (.int .i64 K),.val (.int .i64 S),.val (.int .i64 A),.val (.int .i64 N),.val (.int .u64 v)]⟩) :
  GTo Try.prog 9 [.ref i 0,.ref i' 0,.agg [.val (.int .i64 K),.val (.int .i64 S),.val (.int .i64 A),.val (.int .i64 N),.val (.int .u64 v)]] O n (.val (.bool true)) O2 n2:=by
 refine Xq Zc Try.call9 Try.func9 rfl (Nat.le_of_ble_eq_true rfl) (by omega) fun hU => ?_
 have hN0:O n=none:=hU.fresh _ (Nat.le_refl _)
 have hi:i < n+1:=by omega
 have hi2:i' < n+1:=by omega
 have hn1:n < n+1:=Nat.lt_succ_self n
 have hN:∀ k,O (n+k)=none:=fun k=>hU.fresh _ (Nat.le_add_right _ _)
 show W _ _ _ _ ⟨142,[],[(0,.ref i 0),(1,.ref i' 0),(2,.agg [.val (.int .i64 K),.val (.int .i64 S),.val (.int .i64 A),.val (.int .i64 N),.val (.int .u64 v)])]⟩ (Zu O n []) _
 rw [Xe hU.fresh]
 refine Zh [0,1,5] (Zb Zc [] ?_)
 simp only [push_cast,seval,↓reduceIte,Za,hi0,hi20,hN0,hN]
 obtain ⟨O0,hO0⟩:∃ O0,O0=O.upd n (some ⟨false,29,5,1,[.val (.int .i64 K),.val (.int .i64 S),.val (.int .i64 A),.val (.int .i64 N),.val (.int .u64 v)]⟩):=⟨_,rfl⟩
 have hOn:O0 n=some ⟨false,29,5,1,[.val (.int .i64 K),.val (.int .i64 S),.val (.int .i64 A),.val (.int .i64 N),.val (.int .u64 v)]⟩:=by rw [hO0];exact Zk _ _ _
 have hU0:Und O0 (n+1):=by rw [hO0];exact (hU.more (Nat.le_succ n)).set hn1 (by simp [G.unders,G.under])
 simp only [← hO0]
 rw [← hO0] at g1
 refine Zh [0,1,5,7] (Zb Zc [] ?_)
 simp only [push_cast,seval,↓reduceIte,Za,hi,hi2,hn1,hOn]
 refine Z0 (E':=⟨142,[],[(0,.ref i 0),(1,.ref i' 0),(5,.ref n 0),(7,.val (.int .i64 (Zs N)))]⟩) (O':=O0) (n0:=n+1) ?_ ?_
 ·by_cases c1:300 < N
  ·have d1:decide (300 < N)=true:=decide_eq_true c1
   by_cases c2:N < 200000
   ·have d2:decide (N < 200000)=true:=decide_eq_true c2
    have e:Zs N=300:=if_pos ⟨c1,c2⟩
    rw [e]
    refine Zh [0,1,5,7,24] (Zb Zc [Zy,Zy] ?_)
    simp only [push_cast,seval,↓reduceIte,Za,hi,hi2,hn1,hOn,d1,d2]
    refine Zg (t:=true) rfl (fun c15 => ?_) (fun c15=>by cases c15)
    refine Zb Zc [] ?_
    simp only [push_cast,seval,↓reduceIte,Za,hi,hi2,hn1,hOn]
    refine And.intro rfl (Zm hU0 (Nat.le_succ n) rfl ?_)
    simp only [push_cast,seval,↓reduceIte,Za,hi,hi2,hn1,hOn]
   have d2:decide (N < 200000)=false:=decide_eq_false c2
   have e:Zs N=N:=if_neg (fun h=>c2 h.2)
   rw [e]
   refine Zh [0,1,5,7,24] (Zb Zc [Zy,Zy] ?_)
   simp only [push_cast,seval,↓reduceIte,Za,hi,hi2,hn1,hOn,d1,d2]
   refine Zg (t:=false) rfl (fun c15=>by cases c15) (fun c15 => ?_)
   refine Zr ?_
   refine And.intro rfl (Zm hU0 (Nat.le_succ n) rfl ?_)
   simp only [push_cast,seval,↓reduceIte,Za,hi,hi2,hn1,hOn]
  have d1:decide (300 < N)=false:=decide_eq_false c1
  have e:Zs N=N:=if_neg (fun h=>c1 h.1)
  rw [e]
  refine Zh [0,1,5,7,24] (Zb Zc [Yw,Yw] ?_)
  simp only [push_cast,seval,↓reduceIte,Za,hi,hi2,hn1,hOn,d1]
  refine Zg (t:=false) rfl (fun c15=>by cases c15) (fun c15 => ?_)
  refine Zr ?_
  refine And.intro rfl (Zm hU0 (Nat.le_succ n) rfl ?_)
  simp only [push_cast,seval,↓reduceIte,Za,hi,hi2,hn1,hOn]
 refine Zh [0,1,5,7,26] (Zb Zc [] ?_)
 simp only [push_cast,seval,↓reduceIte,Za,hi,hi2,hn1,hOn]
 refine J5 ?_
 refine Z0 (E':=⟨142,[],[(0,.ref i 0),(1,.ref i' 0),(5,.ref n 0),(7,.val (.int .i64 (Zs N))),(26,.val (.int .i64 K)),(27,.val (.bool false))]⟩) (O':=O0) (n0:=n+1) ?_ ?_
 ·have d0:decide (K=0)=false:=decide_eq_false (by omega)
  have b0:(K == 0)=false:=by rw [beq_eq_false_iff_ne];omega
  refine Zh [0,1,5,7,26,27] (Zb Zc [] ?_)
  simp only [push_cast,seval,↓reduceIte,Za,hi,hi2,hn1,hOn,d0,b0]
  refine Zg (t:=false) rfl (fun c15=>by cases c15) (fun c15 => ?_)
  have d1:decide (K=1)=false:=decide_eq_false (by omega)
  have b1:(K == 1)=false:=by rw [beq_eq_false_iff_ne];omega
  refine Zh [0,1,5,7,26,27] (Zb Zc [] ?_)
  simp only [push_cast,seval,↓reduceIte,Za,hi,hi2,hn1,hOn,d1,b1]
  refine Zg (t:=false) rfl (fun c15=>by cases c15) (fun c15 => ?_)
  have d2:decide (K=2)=false:=decide_eq_false (by omega)
  have b2:(K == 2)=false:=by rw [beq_eq_false_iff_ne];omega
  refine Zh [0,1,5,7,26,27] (Zb Zc [] ?_)
  simp only [push_cast,seval,↓reduceIte,Za,hi,hi2,hn1,hOn,d2,b2]
  refine Zg (t:=false) rfl (fun c15=>by cases c15) (fun c15 => ?_)
  have d3:decide (K=3)=false:=decide_eq_false (by omega)
  have b3:(K == 3)=false:=by rw [beq_eq_false_iff_ne];omega
  refine Zb Zc [] ?_
  simp only [push_cast,seval,↓reduceIte,Za,hi,hi2,hn1,hOn,d3,b3]
  refine And.intro rfl (Zm hU0 (Nat.le_succ n) rfl ?_)
  simp only [push_cast,seval,↓reduceIte,Za,hi,hi2,hn1,hOn]
 refine Zg (t:=false) rfl (fun c15=>by cases c15) (fun c15 => ?_)
 refine Z0 (E':=⟨142,[],[(0,.ref i 0),(1,.ref i' 0),(5,.ref n 0),(7,.val (.int .i64 (Zs N))),(26,.val (.int .i64 K)),(72,.val (.bool true))]⟩) (O':=O0) (n0:=n+1) ?_ ?_
 ·by_cases c4:K=4
  ·have d4:decide (K=4)=true:=decide_eq_true c4
   have b4:(K == 4)=true:=by rw [beq_iff_eq];exact c4
   refine Zh [0,1,5,7,26,72] (Zb Zc [] ?_)
   simp only [push_cast,seval,↓reduceIte,Za,hi,hi2,hn1,hOn,d4,b4]
   refine Zg (t:=true) rfl (fun c15 => ?_) (fun c15=>by cases c15)
   refine Zr ?_
   refine And.intro rfl (Zm hU0 (Nat.le_succ n) rfl ?_)
   simp only [push_cast,seval,↓reduceIte,Za,hi,hi2,hn1,hOn]
  have d4:decide (K=4)=false:=decide_eq_false c4
  have b4:(K == 4)=false:=by rw [beq_eq_false_iff_ne];exact c4
  refine Zh [0,1,5,7,26,72] (Zb Zc [] ?_)
  simp only [push_cast,seval,↓reduceIte,Za,hi,hi2,hn1,hOn,d4,b4]
  refine Zg (t:=false) rfl (fun c15=>by cases c15) (fun c15 => ?_)
  have d5:decide (K=5)=true:=decide_eq_true (by omega)
  have b5:(K == 5)=true:=by rw [beq_iff_eq];omega
  refine Zb Zc [] ?_
  simp only [push_cast,seval,↓reduceIte,Za,hi,hi2,hn1,hOn,d5,b5]
  refine And.intro rfl (Zm hU0 (Nat.le_succ n) rfl ?_)
  simp only [push_cast,seval,↓reduceIte,Za,hi,hi2,hn1,hOn]
 refine Zg (t:=true) rfl (fun c15 => ?_) (fun c15=>by cases c15)
 have hi1:i < n1:=by omega
 have hi3:i' < n1:=by omega
 have hn3:n < n1:=by omega
 refine Zh [1,5,7,13,14] (Zb Zc [] ?_)
 simp only [push_cast,seval,↓reduceIte,Za,hi,hi2,hn1,hOn]
 refine g1.then ?_
 simp only [push_cast,seval,↓reduceIte,Za,hi,hi2,hn1,hOn,hi1,hi3,hn3]
 refine Zh [13,14,15] (Zb Zc [] ?_)
 simp only [push_cast,seval,↓reduceIte,Za,hi3,hn3,hb]
 refine g2.then ?_
 simp only [push_cast,seval,↓reduceIte,Za]
 have d1:decide (0≤a)=true:=decide_eq_true h0
 refine Zh [6] (Zb Zc (Zq0 (Zr7 [Zy])) ?_)
 simp only [push_cast,seval,↓reduceIte,Za,d1,beq_self_eq_true,decide_true]
 refine Zes fun hU2 => ?_
 refine Yy ?_
 try simp only [Zn,Zi]
 refine Yk (P:=Try.prog) (.inr rfl) hU2 [.val (.bool true)] (by omega) ?_
 simp only [push_cast,seval,↓reduceIte,Za,Try.results9]
theorem Znu {O:Objs} {n i i':Nat} {K S A N v:Int} (hi0:i < n) (hi20:i' < n) (hK:K=4∨K=5) {O1 O2:Objs} {n1 n2:Nat} (h1:n+1≤n1) (h2:n1≤n2)
  (g1:GTo Try.prog 21 [.ref i 0,.val (.int .i64 S),.val (.int .i64 (Zs N))] (O.upd n (some ⟨false,29,5,1,[.val (.int .i64 K),.val (.int .i64 S),.val (.int .i64 A),.val (.int .i64 N),.val (.int .u64 v)]⟩)) (n+1) (.tup [.val (.int .i64 0),.val (.bool false)]) O1 n1) (g2:GTo Try.prog 25 [.ref i' 0,.val (.int .i64 S),.val (.int .i64 (Zs N))] O1 n1 (.val (.int .i64 (-1))) O2 n2)
  (hb:O1 n=some ⟨false,29,5,1,[.val (.int .i64 K),.val (.int .i64 S),.val (.int .i64 A),.val (.int .i64 N),.val (.int .u64 v)]⟩) :
  GTo Try.prog 9 [.ref i 0,.ref i' 0,.agg [.val (.int .i64 K),.val (.int .i64 S),.val (.int .i64 A),.val (.int .i64 N),.val (.int .u64 v)]] O n (.val (.bool true)) O2 n2:=by
 refine Xq Zc Try.call9 Try.func9 rfl (Nat.le_of_ble_eq_true rfl) (by omega) fun hU => ?_
 have hN0:O n=none:=hU.fresh _ (Nat.le_refl _)
 have hi:i < n+1:=by omega
 have hi2:i' < n+1:=by omega
 have hn1:n < n+1:=Nat.lt_succ_self n
 have hN:∀ k,O (n+k)=none:=fun k=>hU.fresh _ (Nat.le_add_right _ _)
 show W _ _ _ _ ⟨142,[],[(0,.ref i 0),(1,.ref i' 0),(2,.agg [.val (.int .i64 K),.val (.int .i64 S),.val (.int .i64 A),.val (.int .i64 N),.val (.int .u64 v)])]⟩ (Zu O n []) _
 rw [Xe hU.fresh]
 refine Zh [0,1,5] (Zb Zc [] ?_)
 simp only [push_cast,seval,↓reduceIte,Za,hi0,hi20,hN0,hN]
 obtain ⟨O0,hO0⟩:∃ O0,O0=O.upd n (some ⟨false,29,5,1,[.val (.int .i64 K),.val (.int .i64 S),.val (.int .i64 A),.val (.int .i64 N),.val (.int .u64 v)]⟩):=⟨_,rfl⟩
 have hOn:O0 n=some ⟨false,29,5,1,[.val (.int .i64 K),.val (.int .i64 S),.val (.int .i64 A),.val (.int .i64 N),.val (.int .u64 v)]⟩:=by rw [hO0];exact Zk _ _ _
 have hU0:Und O0 (n+1):=by rw [hO0];exact (hU.more (Nat.le_succ n)).set hn1 (by simp [G.unders,G.under])
 simp only [← hO0]
 rw [← hO0] at g1
 refine Zh [0,1,5,7] (Zb Zc [] ?_)
 simp only [push_cast,seval,↓reduceIte,Za,hi,hi2,hn1,hOn]
 refine Z0 (E':=⟨142,[],[(0,.ref i 0),(1,.ref i' 0),(5,.ref n 0),(7,.val (.int .i64 (Zs N)))]⟩) (O':=O0) (n0:=n+1) ?_ ?_
 ·by_cases c1:300 < N
  ·have d1:decide (300 < N)=true:=decide_eq_true c1
   by_cases c2:N < 200000
   ·have d2:decide (N < 200000)=true:=decide_eq_true c2
    have e:Zs N=300:=if_pos ⟨c1,c2⟩
    rw [e]
    refine Zh [0,1,5,7,24] (Zb Zc [Zy,Zy] ?_)
    simp only [push_cast,seval,↓reduceIte,Za,hi,hi2,hn1,hOn,d1,d2]
    refine Zg (t:=true) rfl (fun c15 => ?_) (fun c15=>by cases c15)
    refine Zb Zc [] ?_
    simp only [push_cast,seval,↓reduceIte,Za,hi,hi2,hn1,hOn]
    refine And.intro rfl (Zm hU0 (Nat.le_succ n) rfl ?_)
    simp only [push_cast,seval,↓reduceIte,Za,hi,hi2,hn1,hOn]
   have d2:decide (N < 200000)=false:=decide_eq_false c2
   have e:Zs N=N:=if_neg (fun h=>c2 h.2)
   rw [e]
   refine Zh [0,1,5,7,24] (Zb Zc [Zy,Zy] ?_)
   simp only [push_cast,seval,↓reduceIte,Za,hi,hi2,hn1,hOn,d1,d2]
   refine Zg (t:=false) rfl (fun c15=>by cases c15) (fun c15 => ?_)
   refine Zr ?_
   refine And.intro rfl (Zm hU0 (Nat.le_succ n) rfl ?_)
   simp only [push_cast,seval,↓reduceIte,Za,hi,hi2,hn1,hOn]
  have d1:decide (300 < N)=false:=decide_eq_false c1
  have e:Zs N=N:=if_neg (fun h=>c1 h.1)
  rw [e]
  refine Zh [0,1,5,7,24] (Zb Zc [Yw,Yw] ?_)
  simp only [push_cast,seval,↓reduceIte,Za,hi,hi2,hn1,hOn,d1]
  refine Zg (t:=false) rfl (fun c15=>by cases c15) (fun c15 => ?_)
  refine Zr ?_
  refine And.intro rfl (Zm hU0 (Nat.le_succ n) rfl ?_)
  simp only [push_cast,seval,↓reduceIte,Za,hi,hi2,hn1,hOn]
 refine Zh [0,1,5,7,26] (Zb Zc [] ?_)
 simp only [push_cast,seval,↓reduceIte,Za,hi,hi2,hn1,hOn]
 refine J5 ?_
 refine Z0 (E':=⟨142,[],[(0,.ref i 0),(1,.ref i' 0),(5,.ref n 0),(7,.val (.int .i64 (Zs N))),(26,.val (.int .i64 K)),(27,.val (.bool false))]⟩) (O':=O0) (n0:=n+1) ?_ ?_
 ·have d0:decide (K=0)=false:=decide_eq_false (by omega)
  have b0:(K == 0)=false:=by rw [beq_eq_false_iff_ne];omega
  refine Zh [0,1,5,7,26,27] (Zb Zc [] ?_)
  simp only [push_cast,seval,↓reduceIte,Za,hi,hi2,hn1,hOn,d0,b0]
  refine Zg (t:=false) rfl (fun c15=>by cases c15) (fun c15 => ?_)
  have d1:decide (K=1)=false:=decide_eq_false (by omega)
  have b1:(K == 1)=false:=by rw [beq_eq_false_iff_ne];omega
  refine Zh [0,1,5,7,26,27] (Zb Zc [] ?_)
  simp only [push_cast,seval,↓reduceIte,Za,hi,hi2,hn1,hOn,d1,b1]
  refine Zg (t:=false) rfl (fun c15=>by cases c15) (fun c15 => ?_)
  have d2:decide (K=2)=false:=decide_eq_false (by omega)
  have b2:(K == 2)=false:=by rw [beq_eq_false_iff_ne];omega
  refine Zh [0,1,5,7,26,27] (Zb Zc [] ?_)
  simp only [push_cast,seval,↓reduceIte,Za,hi,hi2,hn1,hOn,d2,b2]
  refine Zg (t:=false) rfl (fun c15=>by cases c15) (fun c15 => ?_)
  have d3:decide (K=3)=false:=decide_eq_false (by omega)
  have b3:(K == 3)=false:=by rw [beq_eq_false_iff_ne];omega
  refine Zb Zc [] ?_
  simp only [push_cast,seval,↓reduceIte,Za,hi,hi2,hn1,hOn,d3,b3]
  refine And.intro rfl (Zm hU0 (Nat.le_succ n) rfl ?_)
  simp only [push_cast,seval,↓reduceIte,Za,hi,hi2,hn1,hOn]
 refine Zg (t:=false) rfl (fun c15=>by cases c15) (fun c15 => ?_)
 refine Z0 (E':=⟨142,[],[(0,.ref i 0),(1,.ref i' 0),(5,.ref n 0),(7,.val (.int .i64 (Zs N))),(26,.val (.int .i64 K)),(72,.val (.bool true))]⟩) (O':=O0) (n0:=n+1) ?_ ?_
 ·by_cases c4:K=4
  ·have d4:decide (K=4)=true:=decide_eq_true c4
   have b4:(K == 4)=true:=by rw [beq_iff_eq];exact c4
   refine Zh [0,1,5,7,26,72] (Zb Zc [] ?_)
   simp only [push_cast,seval,↓reduceIte,Za,hi,hi2,hn1,hOn,d4,b4]
   refine Zg (t:=true) rfl (fun c15 => ?_) (fun c15=>by cases c15)
   refine Zr ?_
   refine And.intro rfl (Zm hU0 (Nat.le_succ n) rfl ?_)
   simp only [push_cast,seval,↓reduceIte,Za,hi,hi2,hn1,hOn]
  have d4:decide (K=4)=false:=decide_eq_false c4
  have b4:(K == 4)=false:=by rw [beq_eq_false_iff_ne];exact c4
  refine Zh [0,1,5,7,26,72] (Zb Zc [] ?_)
  simp only [push_cast,seval,↓reduceIte,Za,hi,hi2,hn1,hOn,d4,b4]
  refine Zg (t:=false) rfl (fun c15=>by cases c15) (fun c15 => ?_)
  have d5:decide (K=5)=true:=decide_eq_true (by omega)
  have b5:(K == 5)=true:=by rw [beq_iff_eq];omega
  refine Zb Zc [] ?_
  simp only [push_cast,seval,↓reduceIte,Za,hi,hi2,hn1,hOn,d5,b5]
  refine And.intro rfl (Zm hU0 (Nat.le_succ n) rfl ?_)
  simp only [push_cast,seval,↓reduceIte,Za,hi,hi2,hn1,hOn]
 refine Zg (t:=true) rfl (fun c15 => ?_) (fun c15=>by cases c15)
 have hi1:i < n1:=by omega
 have hi3:i' < n1:=by omega
 have hn3:n < n1:=by omega
 refine Zh [1,5,7,13,14] (Zb Zc [] ?_)
 simp only [push_cast,seval,↓reduceIte,Za,hi,hi2,hn1,hOn]
 refine g1.then ?_
 simp only [push_cast,seval,↓reduceIte,Za,hi,hi2,hn1,hOn,hi1,hi3,hn3]
 refine Zh [13,14,15] (Zb Zc [] ?_)
 simp only [push_cast,seval,↓reduceIte,Za,hi3,hn3,hb]
 refine g2.then ?_
 simp only [push_cast,seval,↓reduceIte,Za]
 refine Zh [6] (Zb Zc (Zy::Zy::Zr6 (Ztz [])) ?_)
 simp only [push_cast,seval,↓reduceIte,Za]
 refine Zes fun hU2 => ?_
 refine Yy ?_
 try simp only [Zn,Zi]
 refine Yk (P:=Try.prog) (.inr rfl) hU2 [.val (.bool true)] (by omega) ?_
 simp only [push_cast,seval,↓reduceIte,Za,Try.results9]
theorem Zmj {O:Objs} {n i i':Nat} {K S A N v:Int} (hi0:i < n) (hi20:i' < n) (hK:K=6∨K=7∨K=8) {j' n2:Nat} {O2:Objs} {L':List NR} {size most used:Int} (hb:PX (HR j' size most used) O n i' j' L') (hbd:∀ x∈L',x.2.length≤1000000) {x':NR} (hx:Zv L' S=some x')
  (hh:Kp (L'.map (·.2)) S A 1=true) (h2:n+1≤n2) (g2:GTo Try.prog 22 [.ref i 0,.val (.int .i64 S),.val (.int .i64 A),.val (.int .u64 v)] ((O.upd n (some ⟨false,29,5,1,[.val (.int .i64 K),.val (.int .i64 S),.val (.int .i64 A),.val (.int .i64 N),.val (.int .u64 v)]⟩)).upd x'.1 (some ⟨true,27,1,x'.2.length,fl (eI .u64) (Yr x'.2 A v)⟩)) (n+1) (.val (.bool true)) O2 n2) :
  GTo Try.prog 9 [.ref i 0,.ref i' 0,.agg [.val (.int .i64 K),.val (.int .i64 S),.val (.int .i64 A),.val (.int .i64 N),.val (.int .u64 v)]] O n (.val (.bool true)) O2 n2:=by
 refine Xq Zc Try.call9 Try.func9 rfl (Nat.le_of_ble_eq_true rfl) (by omega) fun hU => ?_
 have hN0:O n=none:=hU.fresh _ (Nat.le_refl _)
 have hi:i < n+1:=by omega
 have hi2:i' < n+1:=by omega
 have hn1:n < n+1:=Nat.lt_succ_self n
 have hN:∀ k,O (n+k)=none:=fun k=>hU.fresh _ (Nat.le_add_right _ _)
 show W _ _ _ _ ⟨142,[],[(0,.ref i 0),(1,.ref i' 0),(2,.agg [.val (.int .i64 K),.val (.int .i64 S),.val (.int .i64 A),.val (.int .i64 N),.val (.int .u64 v)])]⟩ (Zu O n []) _
 rw [Xe hU.fresh]
 refine Zh [0,1,5] (Zb Zc [] ?_)
 simp only [push_cast,seval,↓reduceIte,Za,hi0,hi20,hN0,hN]
 obtain ⟨O0,hO0⟩:∃ O0,O0=O.upd n (some ⟨false,29,5,1,[.val (.int .i64 K),.val (.int .i64 S),.val (.int .i64 A),.val (.int .i64 N),.val (.int .u64 v)]⟩):=⟨_,rfl⟩
 have hOn:O0 n=some ⟨false,29,5,1,[.val (.int .i64 K),.val (.int .i64 S),.val (.int .i64 A),.val (.int .i64 N),.val (.int .u64 v)]⟩:=by rw [hO0];exact Zk _ _ _
 have hU0:Und O0 (n+1):=by rw [hO0];exact (hU.more (Nat.le_succ n)).set hn1 (by simp [G.unders,G.under])
 simp only [← hO0]
 rw [← hO0] at g2
 refine Zh [0,1,5,7] (Zb Zc [] ?_)
 simp only [push_cast,seval,↓reduceIte,Za,hi,hi2,hn1,hOn]
 refine Z0 (E':=⟨142,[],[(0,.ref i 0),(1,.ref i' 0),(5,.ref n 0),(7,.val (.int .i64 (Zs N)))]⟩) (O':=O0) (n0:=n+1) ?_ ?_
 ·by_cases c1:300 < N
  ·have d1:decide (300 < N)=true:=decide_eq_true c1
   by_cases c2:N < 200000
   ·have d2:decide (N < 200000)=true:=decide_eq_true c2
    have e:Zs N=300:=if_pos ⟨c1,c2⟩
    rw [e]
    refine Zh [0,1,5,7,24] (Zb Zc [Zy,Zy] ?_)
    simp only [push_cast,seval,↓reduceIte,Za,hi,hi2,hn1,hOn,d1,d2]
    refine Zg (t:=true) rfl (fun c15 => ?_) (fun c15=>by cases c15)
    refine Zb Zc [] ?_
    simp only [push_cast,seval,↓reduceIte,Za,hi,hi2,hn1,hOn]
    refine And.intro rfl (Zm hU0 (Nat.le_succ n) rfl ?_)
    simp only [push_cast,seval,↓reduceIte,Za,hi,hi2,hn1,hOn]
   have d2:decide (N < 200000)=false:=decide_eq_false c2
   have e:Zs N=N:=if_neg (fun h=>c2 h.2)
   rw [e]
   refine Zh [0,1,5,7,24] (Zb Zc [Zy,Zy] ?_)
   simp only [push_cast,seval,↓reduceIte,Za,hi,hi2,hn1,hOn,d1,d2]
   refine Zg (t:=false) rfl (fun c15=>by cases c15) (fun c15 => ?_)
   refine Zr ?_
   refine And.intro rfl (Zm hU0 (Nat.le_succ n) rfl ?_)
   simp only [push_cast,seval,↓reduceIte,Za,hi,hi2,hn1,hOn]
  have d1:decide (300 < N)=false:=decide_eq_false c1
  have e:Zs N=N:=if_neg (fun h=>c1 h.1)
  rw [e]
  refine Zh [0,1,5,7,24] (Zb Zc [Yw,Yw] ?_)
  simp only [push_cast,seval,↓reduceIte,Za,hi,hi2,hn1,hOn,d1]
  refine Zg (t:=false) rfl (fun c15=>by cases c15) (fun c15 => ?_)
  refine Zr ?_
  refine And.intro rfl (Zm hU0 (Nat.le_succ n) rfl ?_)
  simp only [push_cast,seval,↓reduceIte,Za,hi,hi2,hn1,hOn]
 refine Zh [0,1,5,7,26] (Zb Zc [] ?_)
 simp only [push_cast,seval,↓reduceIte,Za,hi,hi2,hn1,hOn]
 refine J5 ?_
 refine Z0 (E':=⟨142,[],[(0,.ref i 0),(1,.ref i' 0),(5,.ref n 0),(7,.val (.int .i64 (Zs N))),(26,.val (.int .i64 K)),(27,.val (.bool false))]⟩) (O':=O0) (n0:=n+1) ?_ ?_
 ·have d0:decide (K=0)=false:=decide_eq_false (by omega)
  have b0:(K == 0)=false:=by rw [beq_eq_false_iff_ne];omega
  refine Zh [0,1,5,7,26,27] (Zb Zc [] ?_)
  simp only [push_cast,seval,↓reduceIte,Za,hi,hi2,hn1,hOn,d0,b0]
  refine Zg (t:=false) rfl (fun c15=>by cases c15) (fun c15 => ?_)
  have d1:decide (K=1)=false:=decide_eq_false (by omega)
  have b1:(K == 1)=false:=by rw [beq_eq_false_iff_ne];omega
  refine Zh [0,1,5,7,26,27] (Zb Zc [] ?_)
  simp only [push_cast,seval,↓reduceIte,Za,hi,hi2,hn1,hOn,d1,b1]
  refine Zg (t:=false) rfl (fun c15=>by cases c15) (fun c15 => ?_)
  have d2:decide (K=2)=false:=decide_eq_false (by omega)
  have b2:(K == 2)=false:=by rw [beq_eq_false_iff_ne];omega
  refine Zh [0,1,5,7,26,27] (Zb Zc [] ?_)
  simp only [push_cast,seval,↓reduceIte,Za,hi,hi2,hn1,hOn,d2,b2]
  refine Zg (t:=false) rfl (fun c15=>by cases c15) (fun c15 => ?_)
  have d3:decide (K=3)=false:=decide_eq_false (by omega)
  have b3:(K == 3)=false:=by rw [beq_eq_false_iff_ne];omega
  refine Zb Zc [] ?_
  simp only [push_cast,seval,↓reduceIte,Za,hi,hi2,hn1,hOn,d3,b3]
  refine And.intro rfl (Zm hU0 (Nat.le_succ n) rfl ?_)
  simp only [push_cast,seval,↓reduceIte,Za,hi,hi2,hn1,hOn]
 refine Zg (t:=false) rfl (fun c15=>by cases c15) (fun c15 => ?_)
 refine Z0 (E':=⟨142,[],[(0,.ref i 0),(1,.ref i' 0),(5,.ref n 0),(7,.val (.int .i64 (Zs N))),(26,.val (.int .i64 K)),(72,.val (.bool false))]⟩) (O':=O0) (n0:=n+1) ?_ ?_
 ·have d4:decide (K=4)=false:=decide_eq_false (by omega)
  have b4:(K == 4)=false:=by rw [beq_eq_false_iff_ne];omega
  refine Zh [0,1,5,7,26,72] (Zb Zc [] ?_)
  simp only [push_cast,seval,↓reduceIte,Za,hi,hi2,hn1,hOn,d4,b4]
  refine Zg (t:=false) rfl (fun c15=>by cases c15) (fun c15 => ?_)
  have d5:decide (K=5)=false:=decide_eq_false (by omega)
  have b5:(K == 5)=false:=by rw [beq_eq_false_iff_ne];omega
  refine Zb Zc [] ?_
  simp only [push_cast,seval,↓reduceIte,Za,hi,hi2,hn1,hOn,d5,b5]
  refine And.intro rfl (Zm hU0 (Nat.le_succ n) rfl ?_)
  simp only [push_cast,seval,↓reduceIte,Za,hi,hi2,hn1,hOn]
 refine Zg (t:=false) rfl (fun c15=>by cases c15) (fun c15 => ?_)
 refine Z0 (E':=⟨142,[],[(0,.ref i 0),(1,.ref i' 0),(5,.ref n 0),(7,.val (.int .i64 (Zs N))),(26,.val (.int .i64 K)),(108,.val (.bool true))]⟩) (O':=O0) (n0:=n+1) ?_ ?_
 ·by_cases c6:K=6
  ·have d6:decide (K=6)=true:=decide_eq_true c6
   have b6:(K == 6)=true:=by rw [beq_iff_eq];exact c6
   refine Zh [0,1,5,7,26,108] (Zb Zc [] ?_)
   simp only [push_cast,seval,↓reduceIte,Za,hi,hi2,hn1,hOn,d6,b6]
   refine Zg (t:=true) rfl (fun c15 => ?_) (fun c15=>by cases c15)
   refine Zr ?_
   refine And.intro rfl (Zm hU0 (Nat.le_succ n) rfl ?_)
   simp only [push_cast,seval,↓reduceIte,Za,hi,hi2,hn1,hOn]
  have d6:decide (K=6)=false:=decide_eq_false c6
  have b6:(K == 6)=false:=by rw [beq_eq_false_iff_ne];exact c6
  refine Zh [0,1,5,7,26,108] (Zb Zc [] ?_)
  simp only [push_cast,seval,↓reduceIte,Za,hi,hi2,hn1,hOn,d6,b6]
  refine Zg (t:=false) rfl (fun c15=>by cases c15) (fun c15 => ?_)
  by_cases c7:K=7
  ·have d7:decide (K=7)=true:=decide_eq_true c7
   have b7:(K == 7)=true:=by rw [beq_iff_eq];exact c7
   refine Zh [0,1,5,7,26,108] (Zb Zc [] ?_)
   simp only [push_cast,seval,↓reduceIte,Za,hi,hi2,hn1,hOn,d7,b7]
   refine Zg (t:=true) rfl (fun c15 => ?_) (fun c15=>by cases c15)
   refine Zr ?_
   refine And.intro rfl (Zm hU0 (Nat.le_succ n) rfl ?_)
   simp only [push_cast,seval,↓reduceIte,Za,hi,hi2,hn1,hOn]
  have d7:decide (K=7)=false:=decide_eq_false c7
  have b7:(K == 7)=false:=by rw [beq_eq_false_iff_ne];exact c7
  refine Zh [0,1,5,7,26,108] (Zb Zc [] ?_)
  simp only [push_cast,seval,↓reduceIte,Za,hi,hi2,hn1,hOn,d7,b7]
  refine Zg (t:=false) rfl (fun c15=>by cases c15) (fun c15 => ?_)
  have d8:decide (K=8)=true:=decide_eq_true (by omega)
  have b8:(K == 8)=true:=by rw [beq_iff_eq];omega
  refine Zb Zc [] ?_
  simp only [push_cast,seval,↓reduceIte,Za,hi,hi2,hn1,hOn,d8,b8]
  refine And.intro rfl (Zm hU0 (Nat.le_succ n) rfl ?_)
  simp only [push_cast,seval,↓reduceIte,Za,hi,hi2,hn1,hOn]
 refine Zg (t:=true) rfl (fun c15 => ?_) (fun c15=>by cases c15)
 have hb0:PX (HR j' size most used) O0 (n+1) i' j' L':=hb.frame (fun t ht=>by rw [hO0];exact Zj _ _ (by have:=hb.ter_lt ht;omega)) (Nat.le_succ n)
 have HL:=Zn1 hb0.ho hb0.hoj hb0.hL
 have hth:=(Zkb ⟨L'.map (·.2),size,most,used⟩ S A 1 (fun t ht=>by obtain ⟨x,hx,rfl⟩:=List.mem_map.1 ht;exact hbd x hx)).trans (congrArg some hh)
 refine Zh [0,1,5,16] (Zb Zc [] ?_)
 simp only [push_cast,seval,↓reduceIte,Za,hi,hi2,hn1,hOn]
 refine GCalls.lend (Jb hth) rfl (by unfold Q4;exact ⟨_,_,rfl,HL,Y7 rfl⟩) ?_
 simp only [push_cast,seval,↓reduceIte,Za,hi,hi2,hn1,hOn]
 obtain ⟨O1,hO1⟩:∃ O1,O1=O0.upd x'.1 (some ⟨true,27,1,x'.2.length,fl (eI .u64) (Yr x'.2 A v)⟩):=⟨_,rfl⟩
 rw [← hO1] at g2
 have hxl:=hb0.lt x' (Zw hx)
 have hox:=hb0.hL x' (Zw hx)
 have ho:=hb0.ho
 have hoj:=hb0.hoj
 have hj:=hb0.hj
 have hnx:n≠x'.1:=by have:=hb.lt x' (Zw hx);omega
 have hO1n:O1 n=some ⟨false,29,5,1,[.val (.int .i64 K),.val (.int .i64 S),.val (.int .i64 A),.val (.int .i64 N),.val (.int .u64 v)]⟩:=by rw [hO1,Zj _ _ hnx];exact hOn
 have hU1:Und O1 (n+1):=by rw [hO1];exact hU0.set hxl (Yj _)
 have hp:0≤A∧A < (x'.2.length:Int):=by
  have e:Zv (L'.map (·.2)) S=some x'.2:=Za3 hx
  unfold Kp at hh
  rw [e] at hh
  have:=of_decide_eq_true hh
  omega
 have hpl:=hp.1
 have hpr:=hp.2
 have hlr:∀ i k,Yv O0 (.row i k)=True:=fun i k=>by simp [Yv]
 unfold HR at ho
 obtain ⟨x2,hx2,ax2,bx2,cx2,h⟩:=bE (f:=eN) (K:=fun y=>some y) (r:=x') Jr (fun _=>rfl) (by decide) (by rw [hx];rfl)
 obtain rfl:x2=x':=Option.some.inj (hx2.symm.trans hx)
 have hE:(eN x2)[0]? = some (.row x2.1 x2.2.length):=rfl
 obtain ⟨w0,hw0⟩:∃ w0,Zv x2.2 A=some w0:=⟨x2.2[A.toNat]'(by omega),by unfold Zv;rw [if_pos hp.1];exact List.getElem?_eq_getElem (by omega)⟩
 have gu:Jt (fl (eI .u64) x2.2) [.val (.int .u64 v)] (Int.toNat A * 1)=some (fl (eI .u64) (Yr x2.2 A v)):=Zay (f:=eI .u64) (ti:=⟨.bool,1,0,[],false⟩) (x:=v) (fun _=>rfl) (Gr hw0)
 refine Z0 (E':=⟨142,[],[(0,.ref i 0),(1,.ref i' 0),(5,.ref n 0),(16,.val (.bool true))]⟩) (O':=O1) (n0:=n+1) ?_ ?_
 ·refine Zh [0,1,5,16,118] (Zb Zc [] ?_)
  simp only [push_cast,seval,↓reduceIte,Za,hi,hi2,hn1,hOn]
  refine Zg (t:=true) rfl (fun c15 => ?_) (fun c15=>by cases c15)
  refine Zjp Zc (by kernel_rfl) [.plain,.plain,.plain,.plain,.plain,.plain,.plain,.plain,.plain,.plain,.plain,.plain,.plain,.bar] (fun t=>t=i') [0,1,2,3,4,5,6,7,8,9,10,11,12,13] [.plain,.plain,.plain,.plain,.plain,.plain,.plain,.plain,.plain,.plain,.plain,.plain,.plain,.bar] [] (by kernel_rfl) rfl ?_
  simp only [push_cast,Nat.reduceAdd,Nat.reduceSub,Nat.reduceMul,Nat.reduceLeDiff,Nat.reduceLT,Nat.reduceEqDiff,↓reduceIte,reduceCtorEq,Int.reduceBEq,Int.reduceBNe,Nat.reduceBEq,Int.reduceLE,Int.reduceLT,Int.reduceEq,Int.reduceNe,Int.reduceNeg,Nat.reduceDiv,Nat.reduceMod,Nat.reducePow,Za,ax2,bx2,cx2,hi,hi2,hn1,hOn,ho,hoj,hj,Vi,Zeg,hE,hlr,hox,hxl,hpl,hpr,gu]
  rw [← hO1]
  refine And.intro rfl (Zm hU1 (Nat.le_succ n) rfl ?_)
  simp only [push_cast,seval,↓reduceIte,Za,hi,hi2,hn1,hOn]
 refine Zh [6] (Zb Zc [] ?_)
 simp only [push_cast,seval,↓reduceIte,Za,hi,hi2,hn1,hOn,hO1n]
 refine g2.then ?_
 simp only [push_cast,seval,↓reduceIte,Za,beq_self_eq_true,BEq.rfl]
 refine Zes fun hU2 => ?_
 refine Yy ?_
 try simp only [Zn,Zi]
 refine Yk (P:=Try.prog) (.inr rfl) hU2 [.val (.bool true)] (by omega) ?_
 simp only [push_cast,seval,↓reduceIte,Za,Try.results9,beq_self_eq_true]
theorem Zmk {O:Objs} {n i i':Nat} {K S A N v:Int} (hi0:i < n) (hi20:i' < n) (hK:K=6∨K=7∨K=8) {j' n2:Nat} {O2:Objs} {L':List NR} {size most used:Int} (hb:PX (HR j' size most used) O n i' j' L') (hbd:∀ x∈L',x.2.length≤1000000)
  (hh:Kp (L'.map (·.2)) S A 1=false) (h2:n+1≤n2) (g2:GTo Try.prog 22 [.ref i 0,.val (.int .i64 S),.val (.int .i64 A),.val (.int .u64 v)] (O.upd n (some ⟨false,29,5,1,[.val (.int .i64 K),.val (.int .i64 S),.val (.int .i64 A),.val (.int .i64 N),.val (.int .u64 v)]⟩)) (n+1) (.val (.bool false)) O2 n2) :
  GTo Try.prog 9 [.ref i 0,.ref i' 0,.agg [.val (.int .i64 K),.val (.int .i64 S),.val (.int .i64 A),.val (.int .i64 N),.val (.int .u64 v)]] O n (.val (.bool true)) O2 n2:=by
 refine Xq Zc Try.call9 Try.func9 rfl (Nat.le_of_ble_eq_true rfl) (by omega) fun hU => ?_
 have hN0:O n=none:=hU.fresh _ (Nat.le_refl _)
 have hi:i < n+1:=by omega
 have hi2:i' < n+1:=by omega
 have hn1:n < n+1:=Nat.lt_succ_self n
 have hN:∀ k,O (n+k)=none:=fun k=>hU.fresh _ (Nat.le_add_right _ _)
 show W _ _ _ _ ⟨142,[],[(0,.ref i 0),(1,.ref i' 0),(2,.agg [.val (.int .i64 K),.val (.int .i64 S),.val (.int .i64 A),.val (.int .i64 N),.val (.int .u64 v)])]⟩ (Zu O n []) _
 rw [Xe hU.fresh]
 refine Zh [0,1,5] (Zb Zc [] ?_)
 simp only [push_cast,seval,↓reduceIte,Za,hi0,hi20,hN0,hN]
 obtain ⟨O0,hO0⟩:∃ O0,O0=O.upd n (some ⟨false,29,5,1,[.val (.int .i64 K),.val (.int .i64 S),.val (.int .i64 A),.val (.int .i64 N),.val (.int .u64 v)]⟩):=⟨_,rfl⟩
 have hOn:O0 n=some ⟨false,29,5,1,[.val (.int .i64 K),.val (.int .i64 S),.val (.int .i64 A),.val (.int .i64 N),.val (.int .u64 v)]⟩:=by rw [hO0];exact Zk _ _ _
 have hU0:Und O0 (n+1):=by rw [hO0];exact (hU.more (Nat.le_succ n)).set hn1 (by simp [G.unders,G.under])
 simp only [← hO0]
 rw [← hO0] at g2
 refine Zh [0,1,5,7] (Zb Zc [] ?_)
 simp only [push_cast,seval,↓reduceIte,Za,hi,hi2,hn1,hOn]
 refine Z0 (E':=⟨142,[],[(0,.ref i 0),(1,.ref i' 0),(5,.ref n 0),(7,.val (.int .i64 (Zs N)))]⟩) (O':=O0) (n0:=n+1) ?_ ?_
 ·by_cases c1:300 < N
  ·have d1:decide (300 < N)=true:=decide_eq_true c1
   by_cases c2:N < 200000
   ·have d2:decide (N < 200000)=true:=decide_eq_true c2
    have e:Zs N=300:=if_pos ⟨c1,c2⟩
    rw [e]
    refine Zh [0,1,5,7,24] (Zb Zc [Zy,Zy] ?_)
    simp only [push_cast,seval,↓reduceIte,Za,hi,hi2,hn1,hOn,d1,d2]
    refine Zg (t:=true) rfl (fun c15 => ?_) (fun c15=>by cases c15)
    refine Zb Zc [] ?_
    simp only [push_cast,seval,↓reduceIte,Za,hi,hi2,hn1,hOn]
    refine And.intro rfl (Zm hU0 (Nat.le_succ n) rfl ?_)
    simp only [push_cast,seval,↓reduceIte,Za,hi,hi2,hn1,hOn]
   have d2:decide (N < 200000)=false:=decide_eq_false c2
   have e:Zs N=N:=if_neg (fun h=>c2 h.2)
   rw [e]
   refine Zh [0,1,5,7,24] (Zb Zc [Zy,Zy] ?_)
   simp only [push_cast,seval,↓reduceIte,Za,hi,hi2,hn1,hOn,d1,d2]
   refine Zg (t:=false) rfl (fun c15=>by cases c15) (fun c15 => ?_)
   refine Zr ?_
   refine And.intro rfl (Zm hU0 (Nat.le_succ n) rfl ?_)
   simp only [push_cast,seval,↓reduceIte,Za,hi,hi2,hn1,hOn]
  have d1:decide (300 < N)=false:=decide_eq_false c1
  have e:Zs N=N:=if_neg (fun h=>c1 h.1)
  rw [e]
  refine Zh [0,1,5,7,24] (Zb Zc [Yw,Yw] ?_)
  simp only [push_cast,seval,↓reduceIte,Za,hi,hi2,hn1,hOn,d1]
  refine Zg (t:=false) rfl (fun c15=>by cases c15) (fun c15 => ?_)
  refine Zr ?_
  refine And.intro rfl (Zm hU0 (Nat.le_succ n) rfl ?_)
  simp only [push_cast,seval,↓reduceIte,Za,hi,hi2,hn1,hOn]
 refine Zh [0,1,5,7,26] (Zb Zc [] ?_)
 simp only [push_cast,seval,↓reduceIte,Za,hi,hi2,hn1,hOn]
 refine J5 ?_
 refine Z0 (E':=⟨142,[],[(0,.ref i 0),(1,.ref i' 0),(5,.ref n 0),(7,.val (.int .i64 (Zs N))),(26,.val (.int .i64 K)),(27,.val (.bool false))]⟩) (O':=O0) (n0:=n+1) ?_ ?_
 ·have d0:decide (K=0)=false:=decide_eq_false (by omega)
  have b0:(K == 0)=false:=by rw [beq_eq_false_iff_ne];omega
  refine Zh [0,1,5,7,26,27] (Zb Zc [] ?_)
  simp only [push_cast,seval,↓reduceIte,Za,hi,hi2,hn1,hOn,d0,b0]
  refine Zg (t:=false) rfl (fun c15=>by cases c15) (fun c15 => ?_)
  have d1:decide (K=1)=false:=decide_eq_false (by omega)
  have b1:(K == 1)=false:=by rw [beq_eq_false_iff_ne];omega
  refine Zh [0,1,5,7,26,27] (Zb Zc [] ?_)
  simp only [push_cast,seval,↓reduceIte,Za,hi,hi2,hn1,hOn,d1,b1]
  refine Zg (t:=false) rfl (fun c15=>by cases c15) (fun c15 => ?_)
  have d2:decide (K=2)=false:=decide_eq_false (by omega)
  have b2:(K == 2)=false:=by rw [beq_eq_false_iff_ne];omega
  refine Zh [0,1,5,7,26,27] (Zb Zc [] ?_)
  simp only [push_cast,seval,↓reduceIte,Za,hi,hi2,hn1,hOn,d2,b2]
  refine Zg (t:=false) rfl (fun c15=>by cases c15) (fun c15 => ?_)
  have d3:decide (K=3)=false:=decide_eq_false (by omega)
  have b3:(K == 3)=false:=by rw [beq_eq_false_iff_ne];omega
  refine Zb Zc [] ?_
  simp only [push_cast,seval,↓reduceIte,Za,hi,hi2,hn1,hOn,d3,b3]
  refine And.intro rfl (Zm hU0 (Nat.le_succ n) rfl ?_)
  simp only [push_cast,seval,↓reduceIte,Za,hi,hi2,hn1,hOn]
 refine Zg (t:=false) rfl (fun c15=>by cases c15) (fun c15 => ?_)
 refine Z0 (E':=⟨142,[],[(0,.ref i 0),(1,.ref i' 0),(5,.ref n 0),(7,.val (.int .i64 (Zs N))),(26,.val (.int .i64 K)),(72,.val (.bool false))]⟩) (O':=O0) (n0:=n+1) ?_ ?_
 ·have d4:decide (K=4)=false:=decide_eq_false (by omega)
  have b4:(K == 4)=false:=by rw [beq_eq_false_iff_ne];omega
  refine Zh [0,1,5,7,26,72] (Zb Zc [] ?_)
  simp only [push_cast,seval,↓reduceIte,Za,hi,hi2,hn1,hOn,d4,b4]
  refine Zg (t:=false) rfl (fun c15=>by cases c15) (fun c15 => ?_)
  have d5:decide (K=5)=false:=decide_eq_false (by omega)
  have b5:(K == 5)=false:=by rw [beq_eq_false_iff_ne];omega
  refine Zb Zc [] ?_
  simp only [push_cast,seval,↓reduceIte,Za,hi,hi2,hn1,hOn,d5,b5]
  refine And.intro rfl (Zm hU0 (Nat.le_succ n) rfl ?_)
  simp only [push_cast,seval,↓reduceIte,Za,hi,hi2,hn1,hOn]
 refine Zg (t:=false) rfl (fun c15=>by cases c15) (fun c15 => ?_)
 refine Z0 (E':=⟨142,[],[(0,.ref i 0),(1,.ref i' 0),(5,.ref n 0),(7,.val (.int .i64 (Zs N))),(26,.val (.int .i64 K)),(108,.val (.bool true))]⟩) (O':=O0) (n0:=n+1) ?_ ?_
 ·by_cases c6:K=6
  ·have d6:decide (K=6)=true:=decide_eq_true c6
   have b6:(K == 6)=true:=by rw [beq_iff_eq];exact c6
   refine Zh [0,1,5,7,26,108] (Zb Zc [] ?_)
   simp only [push_cast,seval,↓reduceIte,Za,hi,hi2,hn1,hOn,d6,b6]
   refine Zg (t:=true) rfl (fun c15 => ?_) (fun c15=>by cases c15)
   refine Zr ?_
   refine And.intro rfl (Zm hU0 (Nat.le_succ n) rfl ?_)
   simp only [push_cast,seval,↓reduceIte,Za,hi,hi2,hn1,hOn]
  have d6:decide (K=6)=false:=decide_eq_false c6
  have b6:(K == 6)=false:=by rw [beq_eq_false_iff_ne];exact c6
  refine Zh [0,1,5,7,26,108] (Zb Zc [] ?_)
  simp only [push_cast,seval,↓reduceIte,Za,hi,hi2,hn1,hOn,d6,b6]
  refine Zg (t:=false) rfl (fun c15=>by cases c15) (fun c15 => ?_)
  by_cases c7:K=7
  ·have d7:decide (K=7)=true:=decide_eq_true c7
   have b7:(K == 7)=true:=by rw [beq_iff_eq];exact c7
   refine Zh [0,1,5,7,26,108] (Zb Zc [] ?_)
   simp only [push_cast,seval,↓reduceIte,Za,hi,hi2,hn1,hOn,d7,b7]
   refine Zg (t:=true) rfl (fun c15 => ?_) (fun c15=>by cases c15)
   refine Zr ?_
   refine And.intro rfl (Zm hU0 (Nat.le_succ n) rfl ?_)
   simp only [push_cast,seval,↓reduceIte,Za,hi,hi2,hn1,hOn]
  have d7:decide (K=7)=false:=decide_eq_false c7
  have b7:(K == 7)=false:=by rw [beq_eq_false_iff_ne];exact c7
  refine Zh [0,1,5,7,26,108] (Zb Zc [] ?_)
  simp only [push_cast,seval,↓reduceIte,Za,hi,hi2,hn1,hOn,d7,b7]
  refine Zg (t:=false) rfl (fun c15=>by cases c15) (fun c15 => ?_)
  have d8:decide (K=8)=true:=decide_eq_true (by omega)
  have b8:(K == 8)=true:=by rw [beq_iff_eq];omega
  refine Zb Zc [] ?_
  simp only [push_cast,seval,↓reduceIte,Za,hi,hi2,hn1,hOn,d8,b8]
  refine And.intro rfl (Zm hU0 (Nat.le_succ n) rfl ?_)
  simp only [push_cast,seval,↓reduceIte,Za,hi,hi2,hn1,hOn]
 refine Zg (t:=true) rfl (fun c15 => ?_) (fun c15=>by cases c15)
 have hb0:PX (HR j' size most used) O0 (n+1) i' j' L':=hb.frame (fun t ht=>by rw [hO0];exact Zj _ _ (by have:=hb.ter_lt ht;omega)) (Nat.le_succ n)
 have HL:=Zn1 hb0.ho hb0.hoj hb0.hL
 have hth:=(Zkb ⟨L'.map (·.2),size,most,used⟩ S A 1 (fun t ht=>by obtain ⟨x,hx,rfl⟩:=List.mem_map.1 ht;exact hbd x hx)).trans (congrArg some hh)
 refine Zh [0,1,5,16] (Zb Zc [] ?_)
 simp only [push_cast,seval,↓reduceIte,Za,hi,hi2,hn1,hOn]
 refine GCalls.lend (Jb hth) rfl (by unfold Q4;exact ⟨_,_,rfl,HL,Y7 rfl⟩) ?_
 simp only [push_cast,seval,↓reduceIte,Za,hi,hi2,hn1,hOn]
 refine Z0 (E':=⟨142,[],[(0,.ref i 0),(1,.ref i' 0),(5,.ref n 0),(16,.val (.bool false))]⟩) (O':=O0) (n0:=n+1) ?_ ?_
 ·refine Zh [0,1,5,16,118] (Zb Zc [] ?_)
  simp only [push_cast,seval,↓reduceIte,Za,hi,hi2,hn1,hOn]
  refine Zg (t:=false) rfl (fun c15=>by cases c15) (fun c15 => ?_)
  refine Zr ?_
  refine And.intro rfl (Zm hU0 (Nat.le_succ n) rfl ?_)
  simp only [push_cast,seval,↓reduceIte,Za,hi,hi2,hn1,hOn]
 refine Zh [6] (Zb Zc [] ?_)
 simp only [push_cast,seval,↓reduceIte,Za,hi,hi2,hn1,hOn]
 refine g2.then ?_
 simp only [push_cast,seval,↓reduceIte,Za,beq_self_eq_true,BEq.rfl]
 refine Zes fun hU2 => ?_
 refine Yy ?_
 try simp only [Zn,Zi]
 refine Yk (P:=Try.prog) (.inr rfl) hU2 [.val (.bool true)] (by omega) ?_
 simp only [push_cast,seval,↓reduceIte,Za,Try.results9,beq_self_eq_true]
end Go.Proofs.Ytpggbianhdebmaa
