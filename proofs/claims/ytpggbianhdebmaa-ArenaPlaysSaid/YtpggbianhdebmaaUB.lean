/- Part B: the example of the document; each theorem bears its own conditions. -/
import Derived.Test.YtpggbianhdebmaaUA
import Derived.Test.YtpggbianhdebmaaUM1
namespace Go.Proofs.Ytpggbianhdebmaa
open Go.RowKit
set_option linter.unusedVariables false
set_option linter.unusedSimpArgs false
set_option maxRecDepth 100000
set_option maxHeartbeats 4000000
attribute [local push_cast] Zb2 Zb1 Zcs Zcr Zn Zi Gu Km Kl onW Yi Vg Ka Zel Zdx Uh Ul Ug Uk Zal Zah Uj Zak Zaj Zai Ui Zaf Ky evS wok Xg Op.operands Call.operands gop onK onP atK List.all_cons List.all_nil Bool.and_true Bool.true_and Bool.and_self Value.oneCell' List.take_zero List.take_succ_cons List.take_nil List.drop_zero List.drop_succ_cons List.drop_nil List.append_nil Nat.add_zero Nat.zero_add Qi Zp ev Xo Zhw Zbu Zbt Zbz Zbx Zby Zbv Zbw Zbs Zf7 Zgk Zhz U4 Q8 Gs J3 V6 Vn Jf Jk Kj Kf Ji Ki Kh Kg Jh Kc Jg Jj Qz Ke Zdy Ko Qg Up Qh Zaq U2 Zg8 K5 bHi bMx Q9 Zap Zjl U0 Za4 K7 Xx Zew Zjm Uo Kk Zjn Q7 Zj9 Gx G3 Gw G0 Zch Zcd Zcb V7 Gy Zcg Zcf Zce Gz Zb7 Zca Zb6 Zb9 Ze6 Ze3 Ze2 Zb8 Ze4 Ze5 Zcc Zbo Zex Zad Kx Kw pop TK.isAgg Zcm Zcq Zcl Zcp G7 Zfd Ze9 Zco Zfc Zfb Zfa Zcn Ze8 G.under G.unders List.getD_cons_zero List.getD_cons_succ List.set_cons_zero List.set_cons_succ List.map_cons List.map_nil List.toList_toArray Array.toList_append Option.toArray_none Option.toArray_some Array.toList_map Option.map_some Option.map_none Option.bind_some Option.bind_none List.getElem?_cons_zero List.getElem?_cons_succ List.getElem?_nil List.nil_append List.cons_append List.replicate_succ List.replicate_zero List.length_cons List.length_nil and_true true_and and_false false_and Bool.true_eq_false Bool.false_eq_true forall_const false_implies implies_true IntKind.bits if_true if_false ite_true ite_false eq_self true_implies false_or or_false or_true true_or not_true_eq_false not_false_eq_true decide_true decide_false decide_eq_true_eq decide_eq_false_iff_not beq_iff_eq bne_iff_ne ne_eq Bool.not_eq_true Bool.not_eq_false beq_eq_false_iff_ne bne_eq_false_iff_eq beq_self_eq_true bne_self_eq_false Option.some.injEq exists_eq_left' exists_eq_left ge_iff_le gt_iff_lt decide_not Bool.not_true Bool.not_false imp_self Zey cond_true cond_false Zmh Zmg Bool.not_not Bool.and_false Bool.false_and Bool.or_true Bool.true_or Bool.or_false Bool.false_or Xy Un K4 Jw Q6 Qa Option.join_some Nat.add_assoc Int.toNat_natCast eI eB eS eL Vm K6 Jl Zb5 Zb3 Zb4 Zkl Zkw Vc Jo Zcy Zcw Zcx Zh2 Zeu Zga Zem Zd2 Jz Zec List.length_append G.agg.injEq G.row.injEq G.ref.injEq G.val.injEq G.sl.injEq G.tup.injEq Value.int.injEq Value.bool.injEq Value.string.injEq List.cons.injEq exists_and_left exists_const List.flatten_cons List.flatten_nil Int.le_refl Nat.le_refl Zam Xi Gq Bool.not_eq_true' Bool.not_eq_false' Zdw Vl Zfr Zfv Zfq Zfu Zjk Zjf List.size_toArray Zgs Zfg G.ren G.rens Zff Zat Zcz Zbq Zbr Zag Zfw U6 G.fn.injEq Ux Zao Zdv Zjg Zan Zft Zjj Zji Zjh Zfs Ze7 Zih Option.join_none Zk Q0 undef Za6 Arr.len Arr.put_eq Ub Ua Kt Jn Zcv Zct Zcu onB Zkk Zev X7 V3 Gf Gg Gh Gi Gj Gk V8 Ue Uc Kv Jp Ud Zac Zab Zaa G9 Zkm Zkv Zh1 Zhi Xu Zh0 Zep Uf Ku Zbg Zbf Zic Zjo Zen Uz Za0 Us Ur Gl Gm Gn Gp Vq Vr Vs Vt Vu Vv Vw Vx Vy Vz V0 V1 V2 V4 prT Vo Zne Zfi Znf Zfj Zng Zfk Znh Zfl Zni Zfm Znj Zfn Znk Zfo Znl Zfp Zin Zc1 Zio Zc2 Zip Zc3 Ziq Zc4 Zir Zc5 Zis Zc6 Zit Zc7 Ziu Zc8 Ziv Zc9 Ziw Zda Zix Zdb Ziy Zdc Ziz Gd Zi0 Zdd Zbn Zde Zi1 Zdf Zhp Zdg Zi2 Zdh Zi3 Zdi Zi4 Zdj Jr Uw Zi5 Zdk Zi6 Zdl Zi7 Zdm Zi8 Zdn Zi9 Zdo Zja Zdp Zjb Zdq Zjc Zdr Zjd Zds Zje Zdt Zd Yp Yo Yl Ym Yq Ye Zz Yc Yn Zf Jv Kz Kr Ks K0 Js Xk Jq Yj Qq Qp Ql Qm Qr X8 X6 X5 Qo Ze Xc Xb Y8 Y9 Xd Y5 Y4 Y3 Xa Yg Yf Ya Yb Yh Z7 Z6 Z5 Yd
theorem awake_ok {O:Objs} {n:Nat}:GTo Try.prog 18 [] O n (.val (.bool true)) O n:=by
 refine Xq Zc Try.call18 Try.func18 rfl (Nat.le_of_ble_eq_true rfl) (Nat.le_refl _) fun hU => ?_
 have hN0:O n=none:=hU.fresh _ (Nat.le_refl _)
 have hN:∀ k,O (n+k)=none:=fun k=>hU.fresh _ (Nat.le_add_right _ _)
 show W _ _ _ _ ⟨54,[],[]⟩ (Zu O n []) _
 refine Zh [] (Zb Zc [] ?_)
 simp only [push_cast,seval,↓reduceIte,Za,hN0,hN]
 refine Zt ?_
 obtain ⟨y2,hy2⟩:∃ y,Zci 4 9=some y:=⟨_,rfl⟩
 have hv:y2=⟨[],4,9⟩:=(Option.some.inj hy2).symm
 refine Zb Zc [] ?_
 simp only [push_cast,seval,↓reduceIte,Za,hN0,hN]
 refine (Zhf hy2).then ?_
 subst hv
 simp only [push_cast,seval,↓reduceIte,Za,hN0,hN]
 refine Xl [1] [true,true] ?_
 simp only [push_cast,seval,↓reduceIte]
 refine Zt ?_
 refine Zb Zc [] ?_
 simp only [push_cast,seval,↓reduceIte,Za,hN0,hN]
 refine (Zj8 (n:=n+2) (i:=n) (j:=n+1) (L:=[]) (size:=4) (left:=9) (k:=3) (by omega) (by omega) (fun y hy=>by cases hy) (by omega) (by simp only [push_cast,seval,↓reduceIte,Za,Vm,hN0,hN] <;> rfl) (by simp only [push_cast,seval,↓reduceIte,Za,Vm,hN0,hN] <;> rfl) (by decide) (by decide) (by decide) (by decide) (.inl rfl)).then ?_
 simp only [push_cast,seval,↓reduceIte,Za,hN0,hN]
 refine Xl [1,2,3,4] [true,true,true] ?_
 simp only [push_cast,seval,↓reduceIte]
 refine Zt ?_
 refine Zb Zc [] ?_
 simp only [push_cast,seval,↓reduceIte,Za,hN0,hN]
 refine (Zj8 (n:=n+3) (i:=n) (j:=n+1) (L:=[(n+2,zl [] 3)]) (size:=4) (left:=IntKind.i64.wrap 6) (k:=2) (by omega) (by omega) (fun y hy=>by rw [List.mem_singleton.1 hy];show n+2 < n+3;omega) (by omega) (by simp only [push_cast,seval,↓reduceIte,Za,Vm,hN0,hN] <;> rfl) (by simp only [push_cast,seval,↓reduceIte,Za,Vm,hN0,hN] <;> rfl) (by decide) (by decide) (by decide) (by simp) (.inr ⟨by simp,(n+2,zl [] 3),rfl,show ¬ (2:Int)≤IntKind.i64.wrap (4 - ((zl [] 3).length:Int)) by decide⟩)).then ?_
 simp only [push_cast,seval,↓reduceIte,Za,hN0,hN]
 refine Xl [1,2,3,4,5,6,7] [true,true,true,true] ?_
 simp only [push_cast,seval,↓reduceIte]
 refine Zt ?_
 refine Zb Zc [] ?_
 simp only [push_cast,seval,↓reduceIte,Za,hN0,hN]
 refine (Zod (n:=n+4) (i:=n) (j:=n+1) (L:=[(n+2,zl [] 3),(n+3,zl [] 2)]) (size:=4) (left:=IntKind.i64.wrap (IntKind.i64.wrap 6 - 2)) (k:=5) (by omega) (by omega) (by simp only [push_cast,seval,↓reduceIte,Za,Vm,hN0,hN] <;> rfl) (by simp only [push_cast,seval,↓reduceIte,Za,Vm,hN0,hN] <;> rfl) (.inr (by decide))).then ?_
 simp only [push_cast,seval,↓reduceIte,Za,hN0,hN]
 refine Xl [2,3,4,5,6,7,10] [false,false,false,false] ?_
 simp only [push_cast,seval,↓reduceIte]
 refine Zh [0] (Zb Zc [none,none,none,none,none,none,none,none,none,none] ?_)
 simp only [push_cast,seval,↓reduceIte,Za,hN0,hN]
 repeat (with_reducible refine And.intro (by first | (intro h0;simp only [h0,and_self];done) | (intro h0;simp only [h0,Bool.not_false,Bool.not_true,Bool.true_and,Bool.and_true,true_and,and_true,and_self,imp_self,implies_true,bne_iff_ne,ne_eq,beq_iff_eq];done) | (intros;simp_all;done) | exact True.intro) ?_)
 refine Yy ?_
 try simp only [Zn,Zi]
 refine X1 (.inr rfl) hU [.val (.bool true)] (by omega) ?_
 simp only [push_cast,seval,↓reduceIte,Za,Try.results18,hN0,hN]
section
variable {P:Program} {T:X0} {O:Objs} {n:Nat} {f:FuncId} {gs:List G} {K:G→Objs→Nat→Prop}
theorem GCalls.lendTup {gs':List G} {k ty sz:Nat} {cs:List G} {u:Value} (h:GTo P f gs' Yt 0 (.tup [.row 0 k,.val u]) (Zu Yt 0 [some ⟨true,ty,sz,k,cs⟩]) 1) (hp:G.scals cs=true) (hw:Q4 O Yt 0 gs gs')
  (hK:K (.tup [.row n k,.val u]) (O.upd n (some ⟨true,ty,sz,k,cs⟩)) (n+1)):GCalls P f gs O n K:=by
 refine ⟨h.1,fun w m vs hM hr => ?_⟩
 have hL:LessO O Yt 0:=⟨fun _ _=>rfl,fun i o' h=>by simp [Yt] at h⟩
 refine (h.2 w m vs (hM.weak hL) (Xz hM hL _ _ hr _ hw)).mono fun e w' ⟨v,g,O',n',m',h1,h2,h3,h4,h5,h6,h7⟩ => ?_
 subst h5 h6 h7
 have hk:∀ b,b < w.heap.size→w'.heap[b]? = w.heap[b]? ∧ ¬ owns (Zu Yt 0 [some ⟨true,ty,sz,k,cs⟩]) m' b:=fun b hb=>h3.keep b hb (fun ⟨i,o,q,_⟩=>by simp [Yt] at q)
 have hq:Zu Yt 0 [some ⟨true,ty,sz,k,cs⟩] 0=some ⟨true,ty,sz,k,cs⟩:=rfl
 have hup:∀ i,i≠n→(O.upd n (some ⟨true,ty,sz,k,cs⟩)) i=O i:=fun i hi=>Zj O _ hi
 have hmu:∀ i,i≠n→(m.upd n (m' 0)) i=m i:=fun i hi=>by unfold Hands.upd;rw [if_neg hi]
 have hmn:(m.upd n (m' 0)) n=m' 0:=by unfold Hands.upd;rw [if_pos rfl]
 have hon:O n=none:=hM.fresh n (Nat.le_refl _)
 have hE:Ext w O m n w' (O.upd n (some ⟨true,ty,sz,k,cs⟩)) (m.upd n (m' 0)) (n+1):=by
  refine ⟨h3.os,h3.tape,h3.output,h3.size,Nat.le_succ _,fun b hb ho=>⟨(hk b hb).1,fun ⟨i,o,q1,q2⟩ => ?_⟩,fun i hi o ho => ?_⟩
  ·by_cases e:i=n
   ·subst e;rw [hmn] at q2;exact (hk b hb).2 ⟨0,_,hq,q2⟩
   rw [hup i e] at q1;rw [hmu i e] at q2;exact ho ⟨i,o,q1,q2⟩
  rw [hup i (by omega)] at ho
  exact ⟨o,ho,rfl,Nat.le_refl _,fun _=>hmu i (by omega)⟩
 have hlt:∀ j o b,O j=some o→Q5 (m j)=some b→b < w.heap.size:=fun j o b hj hb=>Zhb (hM.obj j o hj) b hb
 refine ⟨v,_,_,n+1,m.upd n (m' 0),h1,⟨fun i hi => ?_,fun i o hi => ?_,fun i j oi oj b hi hj hbi hbj => ?_⟩,hE,?_,hK⟩
 ·rw [hup i (by omega)];exact hM.fresh i (by omega)
 ·by_cases e:i=n
  ·subst e
   rw [Zk] at hi
   have:=Option.some.inj hi;subst this
   obtain ⟨us,hus,hl⟩:=h2.obj 0 _ hq
   rw [hmn]
   exact ⟨us,Zf6 _ _ hp hus,hl⟩
  rw [hup i e] at hi;rw [hmu i e]
  exact Zaz hM hi hE fun b hb=>(hk b (Zhb (hM.obj i o hi) b hb)).1
 ·by_cases ei:i=n
  ·by_cases ej:j=n
   ·rw [ei,ej]
   subst ei
   rw [hup j ej] at hj;rw [hmu j ej] at hbj;rw [hmn] at hbi
   exact absurd ⟨0,_,hq,hbi⟩ (hk b (hlt j oj b hj hbj)).2
  by_cases ej:j=n
  ·subst ej
   rw [hup i ei] at hi;rw [hmu i ei] at hbi;rw [hmn] at hbj
   exact absurd ⟨0,_,hq,hbj⟩ (hk b (hlt i oi b hi hbi)).2
  rw [hup i ei] at hi;rw [hmu i ei] at hbi;rw [hup j ej] at hj;rw [hmu j ej] at hbj
  exact hM.apart i j oi oj b hi hj hbi hbj
 simp only [G.rep,G.reps] at h4 ⊢
 obtain ⟨us,rfl,a1,l1,e1,⟨_,hA,ho⟩,a2,l2,e2,h5,h6⟩:=h4
 refine ⟨us,rfl,a1,l1,e1,⟨Nat.lt_succ_self _,hA,fun o ho' => ?_⟩,a2,l2,e2,h5,h6⟩
 rw [Zk] at ho'
 have:=Option.some.inj ho';subst this
 refine ⟨Nat.le_refl _,fun q1 q2 => ?_⟩
 rw [hmn]
 exact (ho _ hq).2 q1 q2
end
theorem Zpd (xs:List Int):G.scals (fl (eI .u64) xs)=true:=by
 induction xs with
 | nil=>rfl
 | cons x xs ih=>show (G.scal (.val _) && G.scals (fl (eI .u64) xs))=true;rw [ih];rfl
end Go.Proofs.Ytpggbianhdebmaa
