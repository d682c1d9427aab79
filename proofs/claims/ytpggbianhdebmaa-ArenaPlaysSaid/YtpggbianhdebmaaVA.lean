/- Part VA: the law; each theorem bears its own conditions. -/
import Derived.Test.YtpggbianhdebmaaUX
import Derived.Test.YtpggbianhdebmaaUJ
namespace Go.Proofs.Ytpggbianhdebmaa
open Go.RowKit
set_option linter.unusedVariables false
set_option linter.unusedSimpArgs false
set_option maxRecDepth 100000
set_option maxHeartbeats 4000000
attribute [local push_cast] Zb2 Zb1 Zcs Zcr Zn Zi Gu Km Kl onW Yi Vg Ka Zel Zdx Uh Ul Ug Uk Zal Zah Uj Zak Zaj Zai Ui Zaf Ky evS wok Xg Op.operands Call.operands gop onK onP atK List.all_cons List.all_nil Bool.and_true Bool.true_and Bool.and_self Value.oneCell' List.take_zero List.take_succ_cons List.take_nil List.drop_zero List.drop_succ_cons List.drop_nil List.append_nil Nat.add_zero Nat.zero_add Qi Zp ev Xo Zhw Zbu Zbt Zbz Zbx Zby Zbv Zbw Zbs Zf7 Zgk Zhz U4 Q8 Gs J3 V6 Vn Jf Jk Kj Kf Ji Ki Kh Kg Jh Kc Jg Jj Qz Ke Zdy Ko Qg Up Qh Zaq U2 Zg8 K5 bHi bMx Q9 Zap Zjl U0 Za4 K7 Xx Zew Zjm Uo Kk Zjn Q7 Zj9 Gx G3 Gw G0 Zch Zcd Zcb V7 Gy Zcg Zcf Zce Gz Zb7 Zca Zb6 Zb9 Ze6 Ze3 Ze2 Zb8 Ze4 Ze5 Zcc Zbo Zex Zad Kx Kw pop TK.isAgg Zcm Zcq Zcl Zcp G7 Zfd Ze9 Zco Zfc Zfb Zfa Zcn Ze8 G.under G.unders List.getD_cons_zero List.getD_cons_succ List.set_cons_zero List.set_cons_succ List.map_cons List.map_nil List.toList_toArray Array.toList_append Option.toArray_none Option.toArray_some Array.toList_map Option.map_some Option.map_none Option.bind_some Option.bind_none List.getElem?_cons_zero List.getElem?_cons_succ List.getElem?_nil List.nil_append List.cons_append List.replicate_succ List.replicate_zero List.length_cons List.length_nil and_true true_and and_false false_and Bool.true_eq_false Bool.false_eq_true forall_const false_implies implies_true IntKind.bits if_true if_false ite_true ite_false eq_self true_implies false_or or_false or_true true_or not_true_eq_false not_false_eq_true decide_true decide_false decide_eq_true_eq decide_eq_false_iff_not beq_iff_eq bne_iff_ne ne_eq Bool.not_eq_true Bool.not_eq_false beq_eq_false_iff_ne bne_eq_false_iff_eq beq_self_eq_true bne_self_eq_false Option.some.injEq exists_eq_left' exists_eq_left ge_iff_le gt_iff_lt decide_not Bool.not_true Bool.not_false imp_self Zey cond_true cond_false Zmh Zmg Bool.not_not Bool.and_false Bool.false_and Bool.or_true Bool.true_or Bool.or_false Bool.false_or Xy Un K4 Jw Q6 Qa Option.join_some Nat.add_assoc Int.toNat_natCast eI eB eS eL Vm K6 Jl Zb5 Zb3 Zb4 Zkl Zkw Vc Jo Zcy Zcw Zcx Zh2 Zeu Zga Zem Zd2 Jz Zec List.length_append G.agg.injEq G.row.injEq G.ref.injEq G.val.injEq G.sl.injEq G.tup.injEq Value.int.injEq Value.bool.injEq Value.string.injEq List.cons.injEq exists_and_left exists_const List.flatten_cons List.flatten_nil Int.le_refl Nat.le_refl Zam Xi Gq Bool.not_eq_true' Bool.not_eq_false' Zdw Vl Zfr Zfv Zfq Zfu Zjk Zjf List.size_toArray Zgs Zfg G.ren G.rens Zff Zat Zcz Zbq Zbr Zag Zfw U6 G.fn.injEq Ux Zao Zdv Zjg Zan Zft Zjj Zji Zjh Zfs Ze7 Zih Option.join_none Zk Q0 undef Za6 Arr.len Arr.put_eq Ub Ua Kt Jn Zcv Zct Zcu onB Zkk Zev X7 V3 Gf Gg Gh Gi Gj Gk V8 Ue Uc Kv Jp Ud Zac Zab Zaa G9 Zkm Zkv Zh1 Zhi Xu Zh0 Zep Uf Ku Zbg Zbf Zic Zjo Zen Uz Za0 Us Ur Gl Gm Gn Gp Vq Vr Vs Vt Vu Vv Vw Vx Vy Vz V0 V1 V2 V4 prT Vo Zne Zfi Znf Zfj Zng Zfk Znh Zfl Zni Zfm Znj Zfn Znk Zfo Znl Zfp Zin Zc1 Zio Zc2 Zip Zc3 Ziq Zc4 Zir Zc5 Zis Zc6 Zit Zc7 Ziu Zc8 Ziv Zc9 Ziw Zda Zix Zdb Ziy Zdc Ziz Gd Zi0 Zdd Zbn Zde Zi1 Zdf Zhp Zdg Zi2 Zdh Zi3 Zdi Zi4 Zdj Jr Uw Zi5 Zdk Zi6 Zdl Zi7 Zdm Zi8 Zdn Zi9 Zdo Zja Zdp Zjb Zdq Zjc Zdr Zjd Zds Zje Zdt Zd Yp Yo Yl Ym Yq Ye Zz Yc Yn Zf Jv Kz Kr Ks K0 Js Xk Jq Yj Qq Qp Ql Qm Qr X8 X6 X5 Qo Ze Xc Xb Y8 Y9 Xd Y5 Y4 Y3 Xa Yg Yf Ya Yb Yh Z7 Z6 Z5 Yd
theorem Zph {L L':List NR} {s:Int} {x:NR} (hs:L.map (·.2)=L'.map (·.2)) (hx:Zv L s=some x):∃ x',Zv L' s=some x'∧x'.2=x.2:=by
 have h:=Za3 hx
 rw [hs] at h
 unfold Zv at *
 split at h
 ·rename_i c
  rw [if_pos c]
  rw [List.getElem?_map] at h
  cases e:L'[s.toNat]? with
  | none=>rw [e] at h;cases h
  | some y=>rw [e] at h;exact ⟨y,rfl,Option.some.inj h⟩
 cases h
theorem U1 {α:Type} {L:List α} {s:Int} (h0:0≤s) (h:s < (L.length:Int)):∃ x,Zv L s=some x:=⟨L[s.toNat]'(by omega),by unfold Zv;rw [if_pos h0];exact List.getElem?_eq_getElem (by omega)⟩
section
variable {O:Objs} {n i j i' j':Nat} {L L':List NR} {size most left:Int}
theorem Zom {O0 O1 O2:Objs} {n1 n2:Nat} {L1 L1':List NR} {r:List (List Int)×Int} (hO0:∀ t,t < n→O0 t=O t) (hb:PX (HR j' size most (most - left)) O n i' j' L') (dj:∀ t,ter i j L t→¬ ter i' j' L' t)
  (le1:n+1≤n1) (le2:n1≤n2) (a1:PX (HP j size r.2) O1 n1 i j L1) (f1:∀ t,¬ ter i j L t→t < n+1→O1 t=O0 t) (b2:PX (HR j' size most (most - r.2)) O2 n2 i' j' L1') (f2:∀ t,¬ ter i' j' L' t→t < n1→O2 t=O1 t)
  (hT:∀ t,ter i j L1 t→ter i j L t∨n < t) (s1:L1.map (·.2)=r.1) (s2:L1'.map (·.2)=r.1)
  (nums:(L1.map (·.1)=L.map (·.1)∧L1'.map (·.1)=L'.map (·.1))∨(L.length < 16∧∃ z ν ν',L1=L++[(ν,z)]∧L1'=L'++[(ν',z)]∧n≤ν∧ν < ν'∧n2=ν'+1)):Rel O n i j i' j' L L' size most r O2 n2 L1 L1':=by
 refine ⟨by omega,a1.frame (fun t ht=>f2 t (fun q => ?_) (a1.ter_lt ht)) le2,b2,s1,s2,fun t h1 h2 h3 => ?_,nums⟩
 ·rcases hT t ht with h | h
  ·exact dj t h q
  have:=hb.ter_lt q;omega
 rw [f2 t h3 (by omega),f1 t h2 (by omega),hO0 t h1]
theorem Zqp {K S A N v:Int} (ha:PX (HP j size left) O n i j L) (hb:PX (HR j' size most (most - left)) O n i' j' L') (dj:∀ t,ter i j L t→¬ ter i' j' L' t) (hs:L.map (·.2)=L'.map (·.2))
  (hl:0≤left) (hlm:left≤most) (hm:most≤131072) (hbd:∀ x∈L,(x.2.length:Int)+left≤131072) (h16:L.length≤16) :
  ∃ O' n' L1 L1',GTo Try.prog 9 [.ref i 0,.ref i' 0,.agg [.val (.int .i64 K),.val (.int .i64 S),.val (.int .i64 A),.val (.int .i64 N),.val (.int .u64 v)]] O n (.val (.bool true)) O' n' ∧
   Rel O n i j i' j' L L' size most (Jx (L.map (·.2)) size left K S A N v) O' n' L1 L1':=by
 obtain ⟨O0,hO0⟩:∃ O0,O0=O.upd n (some ⟨false,29,5,1,[.val (.int .i64 K),.val (.int .i64 S),.val (.int .i64 A),.val (.int .i64 N),.val (.int .u64 v)]⟩):=⟨_,rfl⟩
 have hOn:O0 n=some ⟨false,29,5,1,[.val (.int .i64 K),.val (.int .i64 S),.val (.int .i64 A),.val (.int .i64 N),.val (.int .u64 v)]⟩:=by rw [hO0];exact Zk _ _ _
 have hOO:∀ t,t < n→O0 t=O t:=fun t ht=>by rw [hO0];exact Zj _ _ (by omega)
 have ha0:PX (HP j size left) O0 (n+1) i j L:=ha.frame (fun t ht=>hOO t (ha.ter_lt ht)) (Nat.le_succ n)
 have hb0:PX (HR j' size most (most - left)) O0 (n+1) i' j' L':=hb.frame (fun t ht=>hOO t (hb.ter_lt ht)) (Nat.le_succ n)
 have hlen:L.length=L'.length:=by have:=congrArg List.length hs;simpa using this
 have hbd':∀ x∈L',(x.2.length:Int)+left≤131072:=fun x hx=>by
  have:x.2∈L.map (·.2):=by rw [hs];exact List.mem_map.2 ⟨x,hx,rfl⟩
  obtain ⟨u,hu,e⟩:=List.mem_map.1 this
  rw [← e];exact hbd u hu
 have hwl:IntKind.i64.wrap (most - (most - left))=left:=by rw [Gv (by omega)];omega
 have same:∀ r:List (List Int)×Int,r=(L.map (·.2),left)→Rel O n i j i' j' L L' size most r O0 (n+1) L L':=fun r hr=>by
  subst hr
  exact ⟨Nat.le_succ n,ha0,hb0,rfl,hs.symm,fun t h1 _ _=>hOO t h1,.inl ⟨rfl,rfl⟩⟩
 -- a segment grows, of both
 have go:∀ (O1 O2:Objs) (s:Int) (x x':NR) (k:Int) (r:List (List Int)×Int),Zv L s=some x→Zv L' s=some x'→x'.2=x.2→0≤k→k≤left→r=(Yr (L.map (·.2)) s (zl x.2 k),IntKind.i64.wrap (left - k)) →
   O1=(((O0.upd x.1 (some ⟨true,27,1,(zl x.2 k).length,fl (eI .u64) (zl x.2 k)⟩)).upd j (some ⟨true,40,1,L.length,fl eN (Yr L s (x.1,zl x.2 k))⟩)).upd i (some (HP j size (IntKind.i64.wrap (left - k)) L.length))) →
   O2=(((O1.upd x'.1 (some ⟨true,27,1,(zl x'.2 k).length,fl (eI .u64) (zl x'.2 k)⟩)).upd j' (some ⟨true,40,1,L'.length,fl eN (Yr L' s (x'.1,zl x'.2 k))⟩)).upd i' (some (HR j' size most (IntKind.i64.wrap ((most - left)+k)) L'.length))) →
   PX (HR j' size most (most - left)) O1 (n+1) i' j' L'∧Rel O n i j i' j' L L' size most r O2 (n+1) (Yr L s (x.1,zl x.2 k)) (Yr L' s (x'.1,zl x'.2 k)):=fun O1 O2 s x x' k r hx hx' e hk hk2 hr h1 h2=>by
  subst hr h1 h2
  have hb1:PX (HR j' size most (most - left)) (((O0.upd x.1 (some ⟨true,27,1,(zl x.2 k).length,fl (eI .u64) (zl x.2 k)⟩)).upd j (some ⟨true,40,1,L.length,fl eN (Yr L s (x.1,zl x.2 k))⟩)).upd i (some (HP j size (IntKind.i64.wrap (left - k)) L.length))) (n+1) i' j' L':=hb0.frame (fun t ht=>Zjt hx _ _ _ fun q=>dj t q ht) (Nat.le_refl _)
  have hw:IntKind.i64.wrap ((most - left)+k)=most - IntKind.i64.wrap (left - k):=by rw [Gv (by omega),Gv (by omega)];omega
  refine ⟨hb1,Zom hOO hb dj (Nat.le_refl _) (Nat.le_refl _) (ha0.set hx _ _) (fun t ht _=>Zjt hx _ _ _ ht) ?_ (fun t ht _=>Zjt hx' _ _ _ ht) (fun t ht => .inl (Zot hx _ ht)) (Zho _ _) ?_ (.inl ⟨Zd8 hx _,Zd8 hx' _⟩)⟩
  ·rw [hw];exact hb1.set hx' _ _
  rw [Zho,← hs,e]
 by_cases K1:K=0∨K=1∨K=2∨K=3
 ·have hd:Jx (L.map (·.2)) size left K S A N v=(Zgb (L.map (·.2)) size left (Zs N)).2.2.2:=if_pos K1
  rw [hd]
  by_cases c:Zs N < 0∨left < Zs N
  ·have e:Zgb (L.map (·.2)) size left (Zs N)=(0,0,false,L.map (·.2),left):=if_pos c
   have g1:=Zod ha0.hi ha0.hj ha0.ho ha0.hoj c
   have g2:=Zm7 hb0.hi hb0.hj hb0.ho hb0.hoj (k:=Zs N) (by rw [hwl];exact c)
   rw [hO0] at g1
   rw [← hO0] at g1
   refine ⟨O0,n+1,L,L',Zlm ha.hi hb.hi K1 (Nat.le_refl _) (Nat.le_refl _) (by rw [← hO0];exact g1) g2,same _ (by rw [e])⟩
  by_cases c2:(L.map (·.2)).length=0∨(L.map (·.2)).length < 16∧¬ Zs N≤IntKind.i64.wrap (size - ((Za7 (L.map (·.2))).length:Int))
  ·have hk:0≤Zs N:=by omega
   have hk2:Zs N≤left:=by omega
   have e:Zgb (L.map (·.2)) size left (Zs N)=(((L.map (·.2)).length:Int),0,true,L.map (·.2)++[zl [] (Zs N)],IntKind.i64.wrap (left - Zs N)):=(if_neg c).trans (if_pos c2)
   rw [List.length_map] at c2 e
   have hf:L.length=0∨L.length < 16∧∃ x,Zv L ((L.length:Int) - 1)=some x∧¬ Zs N≤IntKind.i64.wrap (size - (x.2.length:Int)):=by
    by_cases h0:L.length=0
    ·exact .inl h0
    obtain ⟨q1,q2⟩:=c2.resolve_left h0
    obtain ⟨x,hx⟩:=U1 (L:=L) (s:=(L.length:Int) - 1) (by omega) (by omega)
    refine .inr ⟨q1,x,hx,?_⟩
    have hla:Za7 (L.map (·.2))=x.2:=by
     have h:=Za3 hx
     unfold Zv at h
     rw [if_pos (by omega),show ((L.length:Int) - 1).toNat=L.length - 1 by omega] at h
     unfold Za7
     rw [List.length_map,h];rfl
    rw [← hla];exact q2
   have hf':L'.length=0∨L'.length < 16∧∃ x,Zv L' ((L'.length:Int) - 1)=some x∧¬ Zs N≤IntKind.i64.wrap (size - (x.2.length:Int)):=by
    rw [← hlen]
    rcases hf with h | ⟨h,x,hx,q⟩
    ·exact .inl h
    obtain ⟨x',hx',ex⟩:=Zph hs hx
    exact .inr ⟨h,x',hx',by rw [ex];exact q⟩
   have hlt:L.length < 16:=by rcases hf with h | h <;> omega
   have g1:=Zj8 (k:=Zs N) ha0.hi ha0.hj ha0.lt ha0.hij ha0.ho ha0.hoj hk hk2 (by omega) (by omega) hf
   have ea:(L++[(n+1,zl [] (Zs N))]).length=L.length+1:=by simp
   rw [ea] at g1
   have hw:IntKind.i64.wrap ((most - left)+Zs N)=most - IntKind.i64.wrap (left - Zs N):=by rw [Gv (by omega),Gv (by omega)];omega
   have a1:=ha0.new (zl [] (Zs N)) (HP j size (IntKind.i64.wrap (left - Zs N)))
   obtain ⟨O1,hO1⟩:∃ O1,O1=(((O0.upd (n+1) (some ⟨true,27,1,(zl [] (Zs N)).length,fl (eI .u64) (zl [] (Zs N))⟩)).upd j (some ⟨true,40,1,L.length+1,fl eN (L++[(n+1,zl [] (Zs N))])⟩)).upd i (some (HP j size (IntKind.i64.wrap (left - Zs N)) (L.length+1)))):=⟨_,rfl⟩
   have f1:∀ t,¬ ter i j L t→t < n+1→O1 t=O0 t:=fun t ht h=>by rw [hO1];exact Zoh _ _ _ ht (by omega)
   have hb1:PX (HR j' size most (most - left)) O1 (n+1+1) i' j' L':=hb0.frame (fun t ht=>f1 t (fun q=>dj t q ht) (hb0.ter_lt ht)) (Nat.le_succ _)
   have g2:=Zl5 (k:=Zs N) hb1.hi hb1.hj hb1.lt hb1.hij hb1.ho hb1.hoj hk (by rw [hwl];exact hk2) (by omega) (by omega) hf'
   rw [← hlen,hw] at g2
   have b2:=hb1.new (zl [] (Zs N)) (HR j' size most (most - IntKind.i64.wrap (left - Zs N)))
   rw [← hlen] at b2
   refine ⟨_,n+1+1+1,L++[(n+1,zl [] (Zs N))],L'++[(n+1+1,zl [] (Zs N))],Zg0 ha.hi hb.hi K1 (n1:=n+1+1) (O1:=O1) (a:=(L.length:Int)) (b:=0) (by omega) (by omega) (by omega) (by rw [← hO0,hO1];exact g1) g2,?_⟩
   rw [← hO1] at a1
   rw [e]
   refine Zom (O0:=O0) (n1:=n+1+1) hOO hb dj (by omega) (by omega) a1 f1 b2 (fun t ht h=>Zoh _ _ _ ht (by omega)) (fun t ht => ?_) (by simp) (by simp [hs]) (.inr ⟨hlt,_,_,_,rfl,rfl,by omega,by omega,rfl⟩)
   rcases Zrf ht with h | h
   ·exact .inl h
   exact .inr (by omega)
  have hk:0≤Zs N:=by omega
  have hk2:Zs N≤left:=by omega
  have e:Zgb (L.map (·.2)) size left (Zs N)=(((L.map (·.2)).length:Int) - 1,((Za7 (L.map (·.2))).length:Int),true,(L.map (·.2)).set ((L.map (·.2)).length - 1) (zl (Za7 (L.map (·.2))) (Zs N)),IntKind.i64.wrap (left - Zs N)):=(if_neg c).trans (if_neg c2)
  rw [List.length_map] at c2 e
  obtain ⟨x,hx⟩:=U1 (L:=L) (s:=(L.length:Int) - 1) (by omega) (by omega)
  obtain ⟨x',hx',ex⟩:=Zph hs hx
  have hla:Za7 (L.map (·.2))=x.2:=by
   have h:=Za3 hx
   unfold Zv at h
   rw [if_pos (by omega),show ((L.length:Int) - 1).toNat=L.length - 1 by omega] at h
   unfold Za7
   rw [List.length_map,h];rfl
  rw [hla] at c2 e
  have bx:=hbd x (Zw hx)
  have bx':=hbd' x' (Zw hx')
  have g1:=Zqt (k:=Zs N) ha0.hi ha0.hj ha0.lt ha0.hij (ha0.ni x (Zw hx)) (ha0.nj x (Zw hx)) ha0.ho ha0.hoj hx (ha0.hL x (Zw hx)) hk hk2 (by omega) (by omega) (by
   by_cases q:Zs N≤IntKind.i64.wrap (size - (x.2.length:Int))
   ·exact .inl q
   exact .inr (by omega))
  rw [X7] at g1
  obtain ⟨hb1,hR⟩:=go _ _ ((L.length:Int) - 1) x x' (Zs N) ((Zgb (L.map (·.2)) size left (Zs N)).2.2.2) hx hx' ex hk hk2 (by rw [e];unfold Yr;rw [show ((L.length:Int) - 1).toNat=L.length - 1 by omega]) rfl rfl
  have g2:=Zm6 (k:=Zs N) (x:=x') hb1.hi hb1.hj hb1.lt hb1.hij (hb1.ni x' (Zw hx')) (hb1.nj x' (Zw hx')) hb1.ho hb1.hoj (by rw [← hlen];exact hx') (hb1.hL x' (Zw hx')) hk (by rw [hwl];exact hk2) (by omega) (by omega) (by
   rw [ex,← hlen]
   by_cases q:Zs N≤IntKind.i64.wrap (size - (x.2.length:Int))
   ·exact .inl q
   exact .inr (by omega))
  rw [← hlen,ex] at g2
  rw [ex,← hlen] at hR
  exact ⟨_,n+1,_,_,Zg0 ha.hi hb.hi K1 (Nat.le_refl _) (Nat.le_refl _) (by omega) (by rw [← hO0];exact g1) g2,hR⟩
 by_cases K2:K=4∨K=5
 ·have hd:Jx (L.map (·.2)) size left K S A N v=inR (L.map (·.2)) size left S (Zs N):=(if_neg K1).trans (if_pos K2)
  rw [hd]
  have no:(¬ (0≤S∧S < (L.length:Int))∨Zs N < 0∨left < Zs N∨∃ x,Zv L S=some x∧¬ Zs N≤IntKind.i64.wrap (size - (x.2.length:Int)))→(Zd4 L' S < 0∨Zs N < 0∨IntKind.i64.wrap (most - (most - left)) < Zs N∨IntKind.i64.wrap (size - Zd4 L' S) < Zs N)→inR (L.map (·.2)) size left S (Zs N)=(L.map (·.2),left) →
    ∃ O' n' L1 L1',GTo Try.prog 9 [.ref i 0,.ref i' 0,.agg [.val (.int .i64 K),.val (.int .i64 S),.val (.int .i64 A),.val (.int .i64 N),.val (.int .u64 v)]] O n (.val (.bool true)) O' n' ∧
     Rel O n i j i' j' L L' size most (inR (L.map (·.2)) size left S (Zs N)) O' n' L1 L1':=fun h1 h2 h3 =>
   ⟨O0,n+1,L,L',Znu ha.hi hb.hi K2 (Nat.le_refl _) (Nat.le_refl _) (by rw [← hO0];exact Zst ha0.hi ha0.hj ha0.ho ha0.hoj ha0.hL h1) (Zpc hb0.hi hb0.hj hb0.ho hb0.hoj h2) hOn,same _ h3⟩
  cases hx:Zv L S with
  | none =>
   have hx':Zv L' S=none:=by
    have:=Zax hx
    unfold Zv
    split
    ·exact List.getElem?_eq_none (by omega)
    rfl
   refine no (.inl (by have:=Zax hx;omega)) (.inl (by rw [Zmx hx'];omega)) ?_
   unfold inR
   have:Zv (L.map (·.2)) S=none:=by
    have:=Zax hx
    unfold Zv
    split
    ·exact List.getElem?_eq_none (by rw [List.length_map];omega)
    rfl
   rw [this]
  | some x =>
   obtain ⟨x',hx',ex⟩:=Zph hs hx
   have hin:inR (L.map (·.2)) size left S (Zs N)=if 0≤Zs N∧Zs N≤left∧Zs N≤IntKind.i64.wrap (size - (x.2.length:Int)) then (Yr (L.map (·.2)) S (zl x.2 (Zs N)),IntKind.i64.wrap (left - Zs N)) else (L.map (·.2),left):=by
    unfold inR;rw [Za3 hx]
   by_cases c:0≤Zs N∧Zs N≤left∧Zs N≤IntKind.i64.wrap (size - (x.2.length:Int))
   ·obtain ⟨hk,hk2,hf⟩:=c
    have bx:=hbd x (Zw hx)
    have bx':=hbd' x' (Zw hx')
    have hin2:=hin.trans (if_pos ⟨hk,hk2,hf⟩)
    have g1:=Zss ha0.hi ha0.hj ha0.lt ha0.hij (ha0.ni x (Zw hx)) (ha0.nj x (Zw hx)) ha0.ho ha0.hoj ha0.hL hx hk hk2 (by omega) hf
    rw [X7] at g1
    obtain ⟨hb1,hR⟩:=go _ _ S x x' (Zs N) _ hx hx' ex hk hk2 hin2 rfl rfl
    have g2:=Zpb (k:=Zs N) (x:=x') hb1.hi hb1.hj hb1.lt hb1.hij (hb1.ni x' (Zw hx')) (hb1.nj x' (Zw hx')) hb1.ho hb1.hoj hx' (hb1.hL x' (Zw hx')) hk (by omega) (by rw [hwl];exact hk2) (by rw [ex];exact hf)
    rw [ex] at g2 hR
    exact ⟨_,n+1,_,_,Znt ha.hi hb.hi K2 (Nat.le_refl _) (Nat.le_refl _) (by omega) (by rw [← hO0];exact g1) g2 (by
     rw [Zjt hx _ _ _ (fun q=>by have:=ha.ter_lt q;omega)];exact hOn),hR⟩
   refine no ?_ ?_ (hin.trans (if_neg c))
   ·by_cases c1:Zs N < 0
    ·exact .inr (.inl c1)
    by_cases c2:left < Zs N
    ·exact .inr (.inr (.inl c2))
    exact .inr (.inr (.inr ⟨x,hx,fun h=>c ⟨by omega,by omega,h⟩⟩))
   rw [Za8 hx',ex,hwl]
   by_cases c1:Zs N < 0
   ·exact .inr (.inl c1)
   by_cases c2:left < Zs N
   ·exact .inr (.inr (.inl c2))
   refine .inr (.inr (.inr ?_))
   have:¬ Zs N≤IntKind.i64.wrap (size - (x.2.length:Int)):=fun h=>c ⟨by omega,by omega,h⟩
   omega
 by_cases K3:K=6∨K=7∨K=8
 ·have hd:Jx (L.map (·.2)) size left K S A N v=(Zn3 (L.map (·.2)) S A v,left):=(if_neg K1).trans ((if_neg K2).trans (if_pos K3))
  rw [hd]
  have hB:∀ x∈L,x.2.length≤1000000:=fun x hx=>by have:=hbd x hx;omega
  have hB':∀ x∈L',x.2.length≤1000000:=fun x hx=>by have:=hbd' x hx;omega
  by_cases c:Kp (L.map (·.2)) S A 1=true
  ·have hp:Zn3 (L.map (·.2)) S A v=Yr (L.map (·.2)) S (Yr ((Zv (L.map (·.2)) S).getD []) A v):=if_pos c
   obtain ⟨t,ht⟩:∃ t,Zv (L.map (·.2)) S=some t:=by
    unfold Kp at c
    cases e:Zv (L.map (·.2)) S with
    | none=>rw [e] at c;cases c
    | some t=>exact ⟨t,rfl⟩
   have hS:=Zg7 ht
   rw [List.length_map] at hS
   obtain ⟨x,hx⟩:=U1 (L:=L) hS.1 hS.2
   obtain ⟨x',hx',ex⟩:=Zph hs hx
   have et:t=x.2:=Option.some.inj (ht.symm.trans (Za3 hx))
   subst et
   rw [ht] at hp
   have hp:Zn3 (L.map (·.2)) S A v=Yr (L.map (·.2)) S (Yr x.2 A v):=hp
   obtain ⟨O1,hO1⟩:∃ O1,O1=O0.upd x'.1 (some ⟨true,27,1,x'.2.length,fl (eI .u64) (Yr x'.2 A v)⟩):=⟨_,rfl⟩
   have f1:∀ t,¬ ter i' j' L' t→O1 t=O0 t:=fun t ht=>by rw [hO1];exact Zl0 hx' _ ht
   have b1:PX (HR j' size most (most - left)) O1 (n+1) i' j' (Yr L' S (x'.1,Yr x'.2 A v)):=by rw [hO1];exact hb0.put hx' (X7 _ _ _)
   have a1:PX (HP j size left) O1 (n+1) i j L:=ha0.frame (fun t ht=>f1 t (dj t ht)) (Nat.le_refl _)
   have g2:=Zr9 (v:=v) (p:=A) a1.hi a1.hj a1.lt a1.ho a1.hoj a1.hL hB hx c
   have a2:=a1.put hx (z:=Yr x.2 A v) (X7 _ _ _)
   refine ⟨_,n+1,Yr L S (x.1,Yr x.2 A v),Yr L' S (x'.1,Yr x'.2 A v),Zmj ha.hi hb.hi K3 hb hB' hx' (by rw [← hs];exact c) (Nat.le_refl _) (by rw [← hO0,← hO1];exact g2),?_⟩
   refine ⟨Nat.le_succ n,a2,b1.frame (fun t ht=>Zl0 hx _ fun q=>dj t q (Zot hx' _ ht)) (Nat.le_refl _),?_,?_,fun t h1 h2 h3 => ?_,.inl ⟨Zd8 hx _,Zd8 hx' _⟩⟩
   ·rw [Zho,hp]
   ·rw [Zho,hp,← hs,ex]
   rw [Zl0 hx _ h2,f1 t h3,hOO t h1]
  have c':Kp (L.map (·.2)) S A 1=false:=by simpa using c
  have hp:Zn3 (L.map (·.2)) S A v=L.map (·.2):=if_neg c
  exact ⟨O0,n+1,L,L',Zmk ha.hi hb.hi K3 hb hB' (by rw [← hs];exact c') (Nat.le_refl _) (by rw [← hO0];exact Zsa ha0.hi ha0.hj ha0.ho ha0.hoj ha0.hL hB c'),same _ (by rw [hp])⟩
 have hd:Jx (L.map (·.2)) size left K S A N v=(L.map (·.2),left):=(if_neg K1).trans ((if_neg K2).trans (if_neg K3))
 rw [hd]
 exact ⟨O0,n+1,L,L',by rw [hO0];exact Zo1 ha.hi hb.hi (by omega),same _ rfl⟩
end
abbrev LSt:=Int×List (List Int)×Int
def Zpj (most:Int) (s:LSt):Prop:=(0≤s.1∧s.1≤40)∧s.2.1.length≤16∧(0≤s.2.2∧s.2.2≤most∧most≤131072)∧∀ t∈s.2.1,(t.length:Int)+s.2.2≤131072
theorem Zqj {t:List Int} {k left:Int} (hk:0≤k) (hk2:k≤left) (hl:left≤131072) (h:(t.length:Int)+left≤131072):((zl t k).length:Int)+IntKind.i64.wrap (left - k)≤131072:=by
 rw [Zh9,Gv (by omega)];omega
theorem Zlz {t:List Int} {k left:Int} (hk:0≤k) (hk2:k≤left) (hl:left≤131072) (h:(t.length:Int)+left≤131072):(t.length:Int)+IntKind.i64.wrap (left - k)≤131072:=by
 rw [Gv (by omega)];omega
theorem Zk6 {segs:List (List Int)} {size left most K S A N v:Int} (h16:segs.length≤16) (hl:0≤left) (hlm:left≤most) (hm:most≤131072) (hb:∀ t∈segs,(t.length:Int)+left≤131072) :
  (Jx segs size left K S A N v).1.length≤16∧(0≤(Jx segs size left K S A N v).2∧(Jx segs size left K S A N v).2≤most)∧∀ t∈(Jx segs size left K S A N v).1,(t.length:Int)+(Jx segs size left K S A N v).2≤131072:=by
 have hw:∀ k,0≤k→k≤left→0≤IntKind.i64.wrap (left - k)∧IntKind.i64.wrap (left - k)≤most:=fun k h1 h2=>by rw [Gv (by omega)];omega
 by_cases K1:K=0∨K=1∨K=2∨K=3
 ·have hd:Jx segs size left K S A N v=(Zgb segs size left (Zs N)).2.2.2:=if_pos K1
  rw [hd]
  by_cases c:Zs N < 0∨left < Zs N
  ·have e:Zgb segs size left (Zs N)=(0,0,false,segs,left):=if_pos c
   rw [e];exact ⟨h16,⟨hl,hlm⟩,hb⟩
  by_cases c2:segs.length=0∨segs.length < 16∧¬ Zs N≤IntKind.i64.wrap (size - ((Za7 segs).length:Int))
  ·have e:Zgb segs size left (Zs N)=((segs.length:Int),0,true,segs++[zl [] (Zs N)],IntKind.i64.wrap (left - Zs N)):=(if_neg c).trans (if_pos c2)
   rw [e]
   refine ⟨by simp;omega,hw _ (by omega) (by omega),fun t ht => ?_⟩
   rcases List.mem_append.1 ht with h | h
   ·exact Zlz (by omega) (by omega) (by omega) (hb t h)
   rw [List.mem_singleton.1 h];exact Zqj (by omega) (by omega) (by omega) (by simp;omega)
  have e:Zgb segs size left (Zs N)=((segs.length:Int) - 1,((Za7 segs).length:Int),true,segs.set (segs.length - 1) (zl (Za7 segs) (Zs N)),IntKind.i64.wrap (left - Zs N)):=(if_neg c).trans (if_neg c2)
  rw [e]
  refine ⟨by simp;omega,hw _ (by omega) (by omega),fun t ht => ?_⟩
  rcases List.mem_or_eq_of_mem_set ht with h | h
  ·exact Zlz (by omega) (by omega) (by omega) (hb t h)
  rw [h]
  exact Zqj (by omega) (by omega) (by omega) (hb _ (List.mem_of_getElem? (Zqv (by omega))))
 by_cases K2:K=4∨K=5
 ·have hd:Jx segs size left K S A N v=inR segs size left S (Zs N):=(if_neg K1).trans (if_pos K2)
  rw [hd]
  unfold inR
  cases hx:Zv segs S with
  | none=>exact ⟨h16,⟨hl,hlm⟩,hb⟩
  | some x =>
   dsimp only
   by_cases c:0≤Zs N∧Zs N≤left∧Zs N≤IntKind.i64.wrap (size - (x.length:Int))
   ·rw [if_pos c]
    refine ⟨by rw [X7];exact h16,hw _ c.1 c.2.1,fun t ht => ?_⟩
    rcases Zkh ht with h | h
    ·exact Zlz c.1 c.2.1 (by omega) (hb t h)
    rw [h];exact Zqj c.1 c.2.1 (by omega) (hb _ (Zw hx))
   rw [if_neg c];exact ⟨h16,⟨hl,hlm⟩,hb⟩
 by_cases K3:K=6∨K=7∨K=8
 ·have hd:Jx segs size left K S A N v=(Zn3 segs S A v,left):=(if_neg K1).trans ((if_neg K2).trans (if_pos K3))
  rw [hd]
  unfold Zn3
  by_cases c:Kp segs S A 1=true
  ·rw [if_pos c]
   cases hx:Zv segs S with
   | none=>unfold Kp at c;rw [hx] at c;cases c
   | some x =>
    refine ⟨by rw [X7];exact h16,⟨hl,hlm⟩,fun t ht => ?_⟩
    rcases Zkh ht with h | h
    ·exact hb t h
    rw [h]
    have e:(Yr ((some x).getD []) A v).length=x.length:=X7 _ _ _
    rw [e];exact hb _ (Zw hx)
  rw [if_neg c];exact ⟨h16,⟨hl,hlm⟩,hb⟩
 have hd:Jx segs size left K S A N v=(segs,left):=(if_neg K1).trans ((if_neg K2).trans (if_neg K3))
 rw [hd];exact ⟨h16,⟨hl,hlm⟩,hb⟩
open Classical in
noncomputable def Zlf (l:List Zq) (size most:Int) (s:LSt):Option (LSt ⊕ Unit) :=
 if Zpj most s then
  if s.1 < (l.length:Int)∧s.1 < 40 then (Zv l s.1).map fun d => .inl (s.1+1,Jx s.2.1 size s.2.2 d.Kind d.S d.At d.N d.W) else some (.inr ())
 else none
theorem Zt1 (l:List Zq) (size most:Int) (s:LSt) (h:Zpj most s):Qk (Zlf l size most) s=some ():=by
 obtain ⟨r,h1,_⟩:=Zej (step:=Zlf l size most) (Zpj most) (fun s=>(40 - s.1).toNat) (fun _=>True) (fun s hs=>by
  by_cases c:s.1 < (l.length:Int)∧s.1 < 40
  ·obtain ⟨d,hd⟩:=U1 (L:=l) hs.1.1 c.1
   obtain ⟨q1,q2,q3⟩:=Zk6 (size:=size) (K:=d.Kind) (S:=d.S) (A:=d.At) (N:=d.N) (v:=d.W) hs.2.1 hs.2.2.1.1 hs.2.2.1.2.1 hs.2.2.1.2.2 hs.2.2.2
   refine .inl ⟨_,by unfold Zlf;rw [if_pos hs,if_pos c,hd];rfl,⟨⟨by have:=hs.1.1;show 0≤s.1+1;omega,by show s.1+1≤40;omega⟩,q1,⟨q2.1,q2.2,hs.2.2.1.2.2⟩,q3⟩,?_⟩
   show (40 - (s.1+1)).toNat < (40 - s.1).toNat
   omega
  exact .inr ⟨(),by unfold Zlf;rw [if_pos hs,if_neg c],True.intro⟩) s h
 exact h1
def SO (O:Objs) (n:Nat) (size most:Int) (segs:List (List Int)) (left:Int) (Zaw:List (Option GObj)):Objs :=
 Zu (XO (XO O n segs) (n+16) segs) (n+32) (some (HP (n+33) size left segs.length)::some ⟨true,40,1,segs.length,fl eN (J4 n segs)⟩::some (HR (n+35) size most (most - left) segs.length)::some ⟨true,40,1,segs.length,fl eN (J4 (n+16) segs)⟩::Zaw)
section
variable {O:Objs} {n:Nat} {size most left:Int} {segs:List (List Int)} {Zaw:List (Option GObj)}
theorem Ztn:SO O n size most segs left Zaw (n+32)=some (HP (n+33) size left segs.length):=by unfold SO;rw [Un];rfl
theorem Zto:SO O n size most segs left Zaw (n+33)=some ⟨true,40,1,segs.length,fl eN (J4 n segs)⟩:=by unfold SO;exact Xy _ 1
theorem Ztp:SO O n size most segs left Zaw (n+34)=some (HR (n+35) size most (most - left) segs.length):=by unfold SO;exact Xy _ 2
theorem Ztq:SO O n size most segs left Zaw (n+35)=some ⟨true,40,1,segs.length,fl eN (J4 (n+16) segs)⟩:=by unfold SO;exact Xy _ 3
theorem Zsj {t:Nat} (h:t < n):SO O n size most segs left Zaw t=O t:=by
 unfold SO;rw [Xi _ (by omega),Zd1 (by omega),Zd1 h]
theorem Ztr {p:Nat} (h:p < 16):SO O n size most segs left Zaw (n+p)=segs[p]?.map fun s=>⟨true,27,1,s.length,fl (eI .u64) s⟩:=by
 unfold SO;rw [Xi _ (by omega),Zd1 (by omega),Zia p h]
theorem Zts {p:Nat} (h:p < 16):SO O n size most segs left Zaw (n+16+p)=segs[p]?.map fun s=>⟨true,27,1,s.length,fl (eI .u64) s⟩:=by
 unfold SO;rw [Xi _ (by omega),Zia p h]
theorem Zck {m:Nat} {x:NR} (h:x∈J4 m segs):∃ p,x.1=m+p∧segs[p]? = some x.2:=by
 obtain ⟨p,hp⟩:=List.getElem?_of_mem h
 rw [Zki] at hp
 cases e:segs[p]? with
 | none=>rw [e] at hp;cases hp
 | some s=>rw [e] at hp;have:=Option.some.inj hp;subst this;exact ⟨p,rfl,e⟩
theorem Zhe (m:Nat) (segs:List (List Int)):(J4 m segs).map (·.1)=(List.range segs.length).map (m+·):=by
 apply List.ext_getElem?
 intro i
 rw [List.getElem?_map,Zki,List.getElem?_map]
 by_cases h:i < segs.length
 ·rw [List.getElem?_eq_getElem h,List.getElem?_range h];rfl
 rw [List.getElem?_eq_none (by omega),List.getElem?_eq_none (by simp;omega)];rfl
theorem Zpx (m:Nat) (segs:List (List Int)):((J4 m segs).map (·.1)).Nodup:=by
 rw [Zhe]
 exact List.Pairwise.map (m+·) (fun a b (h:a≠b)=>by show m+a≠m+b;omega) List.nodup_range
theorem Zsf (h16:segs.length≤16) {N:Nat} (hN:n+36≤N):PX (HP (n+33) size left) (SO O n size most segs left Zaw) N (n+32) (n+33) (J4 n segs):=by
 have hp:∀ x∈J4 n segs,∃ p,x.1=n+p∧segs[p]? = some x.2∧p < 16:=fun x hx=>by
  obtain ⟨p,h1,h2⟩:=Zck hx
  obtain ⟨hl,_⟩:=List.getElem?_eq_some_iff.1 h2
  exact ⟨p,h1,h2,by omega⟩
 refine ⟨by omega,by omega,by omega,by rw [J9];exact Ztn,by rw [J9];exact Zto,fun x hx => ?_,fun x hx => ?_,fun x hx => ?_,fun x hx => ?_,Zpx _ _⟩
 ·obtain ⟨p,h1,h2,h3⟩:=hp x hx;omega
 ·obtain ⟨p,h1,h2,h3⟩:=hp x hx;omega
 ·obtain ⟨p,h1,h2,h3⟩:=hp x hx;omega
 obtain ⟨p,h1,h2,h3⟩:=hp x hx;rw [h1,Ztr h3,h2];rfl
theorem Zsg (h16:segs.length≤16) {N:Nat} (hN:n+36≤N):PX (HR (n+35) size most (most - left)) (SO O n size most segs left Zaw) N (n+34) (n+35) (J4 (n+16) segs):=by
 have hp:∀ x∈J4 (n+16) segs,∃ p,x.1=n+16+p∧segs[p]? = some x.2∧p < 16:=fun x hx=>by
  obtain ⟨p,h1,h2⟩:=Zck hx
  obtain ⟨hl,_⟩:=List.getElem?_eq_some_iff.1 h2
  exact ⟨p,h1,h2,by omega⟩
 refine ⟨by omega,by omega,by omega,by rw [J9];exact Ztp,by rw [J9];exact Ztq,fun x hx => ?_,fun x hx => ?_,fun x hx => ?_,fun x hx => ?_,Zpx _ _⟩
 ·obtain ⟨p,h1,h2,h3⟩:=hp x hx;omega
 ·obtain ⟨p,h1,h2,h3⟩:=hp x hx;omega
 ·obtain ⟨p,h1,h2,h3⟩:=hp x hx;omega
 obtain ⟨p,h1,h2,h3⟩:=hp x hx;rw [h1,Zts h3,h2];rfl
theorem Zqf (h16:segs.length≤16) {t:Nat} (h:ter (n+32) (n+33) (J4 n segs) t):n≤t∧(t < n+16∨t=n+32∨t=n+33):=by
 rcases h with h | h | ⟨x,hx,h⟩
 ·omega
 ·omega
 obtain ⟨p,h1,h2⟩:=Zck hx
 obtain ⟨hl,_⟩:=List.getElem?_eq_some_iff.1 h2
 omega
theorem Zqg (h16:segs.length≤16) {t:Nat} (h:ter (n+34) (n+35) (J4 (n+16) segs) t):n+16≤t∧(t < n+32∨t=n+34∨t=n+35):=by
 rcases h with h | h | ⟨x,hx,h⟩
 ·omega
 ·omega
 obtain ⟨p,h1,h2⟩:=Zck hx
 obtain ⟨hl,_⟩:=List.getElem?_eq_some_iff.1 h2
 omega
end
end Go.Proofs.Ytpggbianhdebmaa
