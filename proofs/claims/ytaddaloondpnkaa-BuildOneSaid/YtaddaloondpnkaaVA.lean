/- Part VA: the law; each theorem bears its own conditions. -/
import Derived.Test.YtaddaloondpnkaaUA
import Derived.Test.YtaddaloondpnkaaUP
namespace Go.Proofs.Ytaddaloondpnkaa
open Go.RowKit
set_option linter.unusedVariables false
set_option linter.unusedSimpArgs false
set_option maxRecDepth 100000
set_option maxHeartbeats 4000000
attribute [local push_cast] Zf Z3 Zhy Zhx Ziw Ziv Zj Zh Zel Zai Zah onW Yp Gl Us Zkz Zh2 Zcx Zc1 Zcw Zc0 Zfm Zfi Zcz Zfl Zfk Zfj Zcy Zfg Zaw evS wok Xj Op.operands Call.operands gop onK onP atK List.all_cons List.all_nil Bool.and_true Bool.true_and Bool.and_self Value.oneCell' List.take_zero List.take_succ_cons List.take_nil List.drop_zero List.drop_succ_cons List.drop_nil List.append_nil Nat.add_zero Nat.zero_add Jr Z8 ev Xi Zg1 Zhr Zhq Zhw Zhu Zhv Zhs Zht Zhp Zmq Zov Zql Zdr Vw Zdv Ut Zci Zbl Ul Uq Zag Zac Uo Zaf Zae Zad Un Zaa Um Up Vp Zab Zg3 Zaj Jw Zc6 Jx Zek Zdq Zpr Gd bHi bMx Vy Zei Zrc Zdp Zgd G0 Q6 Zmf Zrh Zc5 Gu Zrj Vv Ztw Zeq Zeu Zep Zet Zii Zie Zic Zck Zer Zih Zig Zif Zes Zh8 Zib Zh7 Zia Zm2 Zmz Zmy Zh9 Zm0 Zm1 Zid Zem Zkr Ze8 Zau Zat pop TK.isAgg Zip Zit Zio Zis Ze2 Znc Zm8 Zir Znb Zna Zm9 Ziq Zm7 G.under G.unders List.getD_cons_zero List.getD_cons_succ List.set_cons_zero List.set_cons_succ List.map_cons List.map_nil List.toList_toArray Array.toList_append Option.toArray_none Option.toArray_some Array.toList_map Option.map_some Option.map_none Option.bind_some Option.bind_none List.getElem?_cons_zero List.getElem?_cons_succ List.getElem?_nil List.nil_append List.cons_append List.replicate_succ List.replicate_zero List.length_cons List.length_nil and_true true_and and_false false_and Bool.true_eq_false Bool.false_eq_true forall_const false_implies implies_true IntKind.bits if_true if_false ite_true ite_false eq_self true_implies false_or or_false or_true true_or not_true_eq_false not_false_eq_true decide_true decide_false decide_eq_true_eq decide_eq_false_iff_not beq_iff_eq bne_iff_ne ne_eq Bool.not_eq_true Bool.not_eq_false beq_eq_false_iff_ne bne_eq_false_iff_eq beq_self_eq_true bne_self_eq_false Option.some.injEq exists_eq_left' exists_eq_left ge_iff_le gt_iff_lt decide_not Bool.not_true Bool.not_false imp_self Zms cond_true cond_false Zx7 Zx6 Bool.not_not Bool.and_false Bool.false_and Bool.or_true Bool.true_or Bool.or_false Bool.false_or Vc Zc3 Gy Ui Jk X8 Option.join_some Nat.add_assoc Int.toNat_natCast eI eB eS eL Ke Za3 Uu Zh1 Zhz Zh0 Zt2 Zvr Zba U1 Zi2 Zi0 Zi1 Zqq Zkq Zon Zhg Zmb Vf Zkw List.length_append G.agg.injEq G.row.injEq G.ref.injEq G.val.injEq G.sl.injEq G.tup.injEq Value.int.injEq Value.bool.injEq Value.string.injEq List.cons.injEq exists_and_left exists_const List.flatten_cons List.flatten_nil Int.le_refl Nat.le_refl Gb Yy Jt Bool.not_eq_true' Bool.not_eq_false' Zkj Zby Zoe Zoi Zod Zoh Ztt Zto List.size_toArray Zmc Zlm G.ren G.rens Zpb Zbu Zi5 Zhn Zho Zfh Zoj Zdt G.fn.injEq Zdn Zf9 Zki Ztp Zf8 Zog Zts Ztr Ztq Zof Zm3 Zrp Option.join_none Zs Jn undef Zgh Arr.len Arr.put_eq Za9 Zco Zaq U0 Ziz Zix Ziy onB Zt1 Zme Ya Zcf Zd5 Zd6 Zd7 Zd8 Zd9 Zea Zcm Zcr Zcp Zas U2 Zcq Ze7 Ze6 Ze5 Ze4 Zt3 Zvq Zqp Zp1 Kc Zqm Zk9 Zcs Zar Zlk Zlj Zwm Zr4 Zln Zdo Zgc Gi Zdl Zeb Zec Zed Zee Zb1 Zb2 Zb3 Zb4 Zb5 Zb6 Zb7 Zb8 Zb9 Zca Zcb Zcc Zcd Zbi prT Zga Zyz Zn3 Zt7 Zn4 Zy0 Zn5 Zy1 Zn6 Zy2 Zn7 Zy3 Zn8 Zy4 Zn9 Zy5 Zoa Zsg Zjc Zsh Zjd Zsi Zje Zsj Zjf Zsk Zjg Zsl Zjh Zsm Zji Zsn Zjj Zso Zjk Zsp Zjl Zsq Zjm Zdx Zbw Zsr Zgm Zss Zjn Vo Zjo Zst Zgn Zsu Zjp Zsv Zjq Zsw Zjr Zsx Zjs Zsy Zjt Zsz Zju Zs0 Zjv Zs1 Zjw U8 Zjx Zs2 Zjy Zs3 Zjz Zs4 Zj0 Zs5 Zj1 Zs6 Zj2 Zs7 Zj3 Zs8 Zj4 Zs9 Zj5 Zta Zj6 Ztb Zj7 Ztc Zj8 Ztd Zj9 Zte Zka Ztf Zkb Ztg Zkc Zth Zkd Zti Zke Ztj Zkf Ztk Zkg Zni Zfn Znj Zfo Znk Zfp Znl Zfq Znm Zfr Znn Zfs Zno Zft Znp Zfu Znq Zfv Znr Zfw Zns Zfx Znt Zfy Znu Zfz Znv Zf0 Znw Zf1 Znx Zf2 Zny Zf3 Znz Zf4 Zn0 Zf5 Zn1 Zf6 Zn2 Zf7 Zo Gc Zaz Zal Zap Za2 Ga U6 U4 Jj K2 K1 Kx Kz K3 J8 J6 J5 K0 Xk X0 Xz Xw Xx X1 Xp Xo Xn Xy Zg Ys Qy Qx Qr Qu Q0 Qk Qj Qi Qv Za0 Zay Zak Zao Za1 U9 U5 U3 Zax Ur Jg
theorem Zmx (s:Int):∀ (ws:List Int) (segs:List (List Int)) (p w:Int),Xq segs s p (ws++[w])=Xb (Xq segs s p ws) s (p+(ws.length:Int)) w
 | [],segs,p,w=>by simp [Xq]
 | v::ws,segs,p,w=>by
  rw [List.cons_append,Xq,Zmx s ws,Xq,List.length_cons]
  congr 1
  omega
theorem Zhj {i j:Nat} {L L1:List NR} (h:L1.map (·.1)=L.map (·.1)) {t:Nat} (ht:ter i j L1 t):ter i j L t:=by
 rcases ht with h | h | ⟨y,hy,rfl⟩
 ·exact .inl h
 ·exact .inr (.inl h)
 have:y.1∈L.map (·.1):=by rw [← h];exact List.mem_map.2 ⟨y,hy,rfl⟩
 obtain ⟨u,hu,e⟩:=List.mem_map.1 this
 exact .inr (.inr ⟨u,hu,e.symm⟩)
theorem Z5o {O:Objs} {n i j:Nat} {L:List NR} {size left:Int} (h:PX (HP j size left) O n i j L) (hB:∀ x∈L,x.2.length≤1000000) (s p:Int) (ws:List Int) (hp:0≤p∧p+(ws.length:Int)≤1000000) :
  GCalls Try.prog 89 [.agg [.ref i 0],.val (.int .i64 s),.val (.int .i64 p),.sl ws.length (fl (eI .u64) ws)] O n fun r O' n'=>r = .tup []∧n≤n'∧∃ L',PX (HP j size left) O' n' i j L'∧L'.map (·.1)=L.map (·.1)∧L'.map (·.2)=Xq (L.map (·.2)) s p ws∧(∀ t,t < n→¬ ter i j L t→O' t=O t)∧∀ x∈L',x.2.length≤1000000:=by
 refine Zhm Zd Try.call89 Try.func89 rfl (Nat.le_of_ble_eq_true rfl) fun hU => ?_
 have hN0:O n=none:=hU.fresh _ (Nat.le_refl _)
 have hN:∀ k,O (n+k)=none:=fun k=>hU.fresh _ (Nat.le_add_right _ _)
 have hi0:=h.hi
 have hi:i < n+1:=by omega
 have hn1:n < n+1:=Nat.lt_succ_self n
 show W _ _ _ _ ⟨26,[],[(0,.agg [.ref i 0]),(1,.val (.int .i64 s)),(2,.val (.int .i64 p)),(3,.sl ws.length (fl (eI .u64) ws))]⟩ (Zu O n []) _
 rw [Qd hU.fresh]
 refine Zl [1,2,3,4] (Zb Zd [] ?_)
 simp only [push_cast,seval,↓reduceIte,Za,hi0,hN0,hN]
 refine Zl [1,2,4,10,11,12] (Zb Zd [] ?_)
 simp only [push_cast,seval,↓reduceIte,Za,hi,hn1]
 refine Yk ?_
 obtain ⟨O0,hO0⟩:∃ O0,O0=O.upd n (some ⟨false,61,1,1,[.ref i 0]⟩):=⟨_,rfl⟩
 have hOn:O0 n=some ⟨false,61,1,1,[.ref i 0]⟩:=by rw [hO0];exact Zs _ _ _
 have h0:PX (HP j size left) O0 (n+1) i j L:=h.frame (fun t ht=>by rw [hO0];exact Zr _ _ (by have:=h.ter_lt ht;omega)) (Nat.le_succ n)
 rw [← hO0]
 refine Zok (S:=Int×Objs×List NR) (fun q=>⟨26,[],[(1,.val (.int .i64 s)),(2,.val (.int .i64 p)),(4,.ref n 0),(10,.sl ws.length (fl (eI .u64) ws)),(11,.val (.int .i64 (ws.length:Int))),(12,.val (.int .i64 q.1))]⟩) (fun q=>q.2.1) (fun _=>n+1)
  (fun q=>(0≤q.1∧q.1≤(ws.length:Int))∧PX (HP j size left) q.2.1 (n+1) i j q.2.2∧q.2.2.map (·.1)=L.map (·.1)∧q.2.2.map (·.2)=Xq (L.map (·.2)) s p (ws.take q.1.toNat)∧q.2.1 n=some ⟨false,61,1,1,[.ref i 0]⟩∧(∀ t,t < n→¬ ter i j L t→q.2.1 t=O t)∧∀ x∈q.2.2,x.2.length≤1000000)
  (fun q=>((ws.length:Int) - q.1).toNat) (fun _ _=>Nat.le_succ n) (fun q hq => ?_) (0,O0,L) ⟨⟨Int.le_refl _,by omega⟩,h0,rfl,rfl,hOn,fun t ht _=>by rw [hO0];exact Zr _ _ (by omega),hB⟩
 obtain ⟨k,Y,M⟩:=q
 obtain ⟨⟨k0,k1⟩,g1,g2,g3,g4,g5,g6⟩:=hq
 dsimp only at k0 k1 g1 g2 g3 g4 g5 g6 ⊢
 refine Yl fun hUY => ?_
 refine Zk ?_
 refine Zb Zd [] ?_
 simp only [push_cast,seval,↓reduceIte,Za,hi,hn1]
 refine Zk ?_
 refine Zq (t:=decide (k < (ws.length:Int))) rfl (fun c => ?_) (fun c => ?_)
 ·have c1:k < (ws.length:Int):=of_decide_eq_true c
  refine Z0 ?_
  try simp only [Zj,Zh]
  refine Gn (E':=⟨26,[],[(1,.val (.int .i64 s)),(2,.val (.int .i64 p)),(4,.ref n 0),(10,.sl ws.length (fl (eI .u64) ws)),(11,.val (.int .i64 (ws.length:Int))),(12,.val (.int .i64 k))]⟩) (Qp hUY (Nat.le_succ n) rfl ?_) ?_
  ·simp only [push_cast,seval,↓reduceIte,Za,hi,hn1]
  obtain ⟨w,hw⟩:∃ w,Zx ws k=some w:=⟨ws[k.toNat]'(by omega),by unfold Zx;rw [if_pos k0];exact List.getElem?_eq_getElem (by omega)⟩
  obtain ⟨x5,hx5,ax5,bx5,cx5,_⟩:=bE (f:=eI .u64) (K:=fun y=>some y) (r:=w) U8 (fun _=>rfl) (by decide) (by rw [hw];rfl)
  obtain rfl:x5=w:=Option.some.inj (hx5.symm.trans hw)
  refine Zk ?_
  refine Yk ?_
  refine Zl [1,2,4,8,9,10,11,12] (Zb Zd [] ?_)
  simp only [push_cast,Nat.reduceAdd,Nat.reduceSub,Nat.reduceMul,Nat.reduceLeDiff,Nat.reduceLT,Nat.reduceEqDiff,↓reduceIte,reduceCtorEq,Int.reduceBEq,Int.reduceBNe,Nat.reduceBEq,Int.reduceLE,Int.reduceLT,Int.reduceEq,Int.reduceNe,Int.reduceNeg,Nat.reduceDiv,Nat.reduceMod,Nat.reducePow,Za,hi,hn1,ax5,bx5,cx5]
  obtain ⟨Y',M',q1,q2,q3,q4,q5,q6⟩:=Z2e g1 g6 s (p+k) x5
  have hwp:IntKind.i64.wrap (p+k)=p+k:=Gp (by omega)
  refine Zb Zd [] ?_
  simp only [push_cast,seval,↓reduceIte,Za,hi,hn1,g4,hwp]
  refine q1.then ?_
  simp only [push_cast,seval,↓reduceIte,Za,hi,hn1]
  refine Yl fun hUY' => ?_
  refine Zb Zd [] ?_
  have hwk:IntKind.i64.wrap (k+1)=k+1:=Gp (by omega)
  simp only [push_cast,seval,↓reduceIte,Za,hi,hn1,hwk]
  refine .inl ⟨rfl,(k+1,Y',M'),⟨⟨by omega,by omega⟩,q2,q3.trans g2,?_,?_,fun t h1 h2 => ?_,q6⟩,by show ((ws.length:Int) - (k+1)).toNat < ((ws.length:Int) - k).toNat;omega,Qp hUY' (Nat.le_succ n) rfl ?_⟩
  ·have e:ws.take (k+1).toNat=ws.take k.toNat++[x5]:=by
    have h3:=hw
    unfold Zx at h3
    rw [if_pos k0] at h3
    rw [show (k+1).toNat=k.toNat+1 by omega,List.take_add_one,h3];rfl
   show M'.map (·.2)=Xq (L.map (·.2)) s p (ws.take (k+1).toNat)
   rw [e,Zmx,q4,g3]
   congr 1
   rw [List.length_take]
   omega
  ·show Y' n=_
   rw [q5 n (fun q=>by have:=g1.ter_lt q;have hz:=Zhj g2 q;have:=h.ter_lt hz;omega)];exact g4
  ·show Y' t=O t
   rw [q5 t (fun q=>h2 (Zhj g2 q))];exact g5 t h1 h2
  simp only [push_cast,seval,↓reduceIte,Za,hi,hn1]
 have c1:¬ k < (ws.length:Int):=of_decide_eq_false c
 refine Jf ?_
 try simp only [Zj,Zh,↓reduceIte,Nat.reduceEqDiff]
 refine .inr ⟨(fun h=>by cases h),?_⟩
 have ek:ws.take k.toNat=ws:=List.take_of_length_le (by omega)
 rw [ek] at g3
 show Zxz _ _ _ _ .normal _ _ _
 refine ⟨.tup [],Y,n+1,Nat.le_succ n,⟨rfl,Nat.le_succ n,M,g1,g2,g3,g5,g6⟩,?_⟩
 refine Ye (P:=Try.prog) (.inl rfl) hUY [] (Nat.le_succ n) ?_
 simp only [push_cast,seval,↓reduceIte,Za,Try.results89]
theorem Zen (segs:List (List Int)) (s p v s' p' k:Int):Xh (Xb segs s p v) s' p' k=Xh segs s' p' k:=by
 unfold Xb
 by_cases c:Xh segs s p 1=true
 ·rw [if_pos c]
  cases ht:Zx segs s with
  | none=>unfold Xh at c;rw [ht] at c;cases c
  | some t =>
   have hs:=Q1 ht
   unfold Xh
   by_cases e:s'=s
   ·subst e
    rw [Qg ht,ht]
    show decide _=decide _
    have:(Z9 ((some t).getD []) p v).length=t.length:=Ya _ _ _
    rw [this]
   have:Zx (Z9 segs s (Z9 ((some t).getD []) p v)) s'=Zx segs s':=by
    unfold Zx Z9
    by_cases c0:0≤s'
    ·rw [if_pos c0,if_pos c0,List.getElem?_set_ne (by omega)]
    rw [if_neg c0,if_neg c0]
   rw [this]
 rw [if_neg c]
theorem Zps (s s' p' k:Int):∀ (ws:List Int) (segs:List (List Int)) (p:Int),Xh (Xq segs s p ws) s' p' k=Xh segs s' p' k
 | [],_,_=>rfl
 | w::ws,segs,p=>by rw [Xq,Zps s s' p' k ws,Zen]
theorem Zk1 {segs:List (List Int)} {s p q k:Int} (h:Xh segs s p k=true) (h1:p≤q) (h2:q < p+k):Xh segs s q 1=true:=by
 unfold Xh at h ⊢
 cases e:Zx segs s with
 | none=>rw [e] at h;cases h
 | some t =>
  rw [e] at h
  have:=of_decide_eq_true h
  exact decide_eq_true (by omega)
theorem Zwz {L:List NR} {x:NR} (h0:0 < L.length) (hx:Zx L ((L.length:Int) - 1)=some x):Qh (L.map (·.2))=x.2:=by
 have h:=Zky hx
 unfold Zx at h
 rw [if_pos (by omega),show ((L.length:Int) - 1).toNat=L.length - 1 by omega] at h
 unfold Qh
 rw [List.length_map,h];rfl
theorem Z4p {L:List NR} (h0:0 < L.length):∃ x,Zx L ((L.length:Int) - 1)=some x:=⟨L[((L.length:Int) - 1).toNat]'(by omega),by unfold Zx;rw [if_pos (by omega)];exact List.getElem?_eq_getElem (by omega)⟩
theorem Zzh {O:Objs} {n i j:Nat} {L:List NR} {size left:Int} (h:PX (HP j size left) O n i j L) (h16:L.length≤16) (hl:left≤131072) (hB:∀ x∈L,(x.2.length:Int)+left≤131072) (k:Int) :
  ∃ O' n' L',GTo Try.prog 24 [.ref i 0,.val (.int .i64 k)] O n (.tup [.val (.int .i64 (X4 (L.map (·.2)) size left k).1),.val (.int .i64 (X4 (L.map (·.2)) size left k).2.1),.val (.bool (X4 (L.map (·.2)) size left k).2.2.1)]) O' n'∧n≤n' ∧
   PX (HP j size (X4 (L.map (·.2)) size left k).2.2.2.2) O' n' i j L'∧L'.map (·.2)=(X4 (L.map (·.2)) size left k).2.2.2.1∧(∀ t,ter i j L' t→ter i j L t∨n≤t)∧(∀ t,t < n→¬ ter i j L t→O' t=O t):=by
 by_cases c:k < 0∨left < k
 ·have e:X4 (L.map (·.2)) size left k=(0,0,false,L.map (·.2),left):=if_pos c
  rw [e]
  exact ⟨O,n,L,Z3g h.hi h.hj h.ho h.hoj c,Nat.le_refl _,h,rfl,fun t ht => .inl ht,fun _ _ _=>rfl⟩
 by_cases c2:(L.map (·.2)).length=0∨(L.map (·.2)).length < 16∧¬ k≤IntKind.i64.wrap (size - ((Qh (L.map (·.2))).length:Int))
 ·have e:X4 (L.map (·.2)) size left k=(((L.map (·.2)).length:Int),0,true,L.map (·.2)++[zl [] k],IntKind.i64.wrap (left - k)):=(if_neg c).trans (if_pos c2)
  rw [List.length_map] at c2 e
  have hf:L.length=0∨L.length < 16∧∃ x,Zx L ((L.length:Int) - 1)=some x∧¬ k≤IntKind.i64.wrap (size - (x.2.length:Int)):=by
   by_cases h0:L.length=0
   ·exact .inl h0
   obtain ⟨q1,q2⟩:=c2.resolve_left h0
   obtain ⟨x,hx⟩:=Z4p (L:=L) (by omega)
   exact .inr ⟨q1,x,hx,by rw [← Zwz (by omega) hx];exact q2⟩
  have g:=Z1l (k:=k) h.hi h.hj h.lt h.hij h.ho h.hoj (by omega) (by omega) (by omega) (by omega) hf
  have ea:(L++[(n,zl [] k)]).length=L.length+1:=by simp
  rw [ea] at g
  rw [e]
  exact ⟨_,n+1,L++[(n,zl [] k)],g,Nat.le_succ n,h.new _ _,by simp,fun t ht=>(Z4m ht).imp id (fun q=>by omega),fun t ht h1=>Z3z _ _ _ h1 (by omega)⟩
 have e:X4 (L.map (·.2)) size left k=(((L.map (·.2)).length:Int) - 1,((Qh (L.map (·.2))).length:Int),true,(L.map (·.2)).set ((L.map (·.2)).length - 1) (zl (Qh (L.map (·.2))) k),IntKind.i64.wrap (left - k)):=(if_neg c).trans (if_neg c2)
 rw [List.length_map] at c2 e
 obtain ⟨x,hx⟩:=Z4p (L:=L) (by omega)
 have hla:=Zwz (by omega) hx
 rw [hla] at c2 e
 have bx:=hB x (Y9 hx)
 have g:=Z3f (k:=k) h.hi h.hj h.lt h.hij (h.ni x (Y9 hx)) (h.nj x (Y9 hx)) h.ho h.hoj hx (h.hL x (Y9 hx)) (by omega) (by omega) (by omega) (by omega) (by
  by_cases q:k≤IntKind.i64.wrap (size - (x.2.length:Int))
  ·exact .inl q
  exact .inr (by omega))
 rw [Ya] at g
 rw [e]
 refine ⟨_,n,Z9 L ((L.length:Int) - 1) (x.1,zl x.2 k),g,Nat.le_refl n,h.set hx _ _,?_,fun t ht => .inl (Z0b hx _ ht),fun t ht h1=>Zzv hx _ _ _ h1⟩
 rw [Zsb]
 unfold Z9
 rw [show ((L.length:Int) - 1).toNat=L.length - 1 by omega]
theorem Zg2 {α:Type} {L:List α} {s:Int} (h0:0≤s) (h:s < (L.length:Int)):∃ x,Zx L s=some x:=⟨L[s.toNat]'(by omega),by unfold Zx;rw [if_pos h0];exact List.getElem?_eq_getElem (by omega)⟩
def vA (A:List (List Int)) (s p:Int):Option Int:=(Zx A s).bind fun x=>Zx x p
theorem Zcg {α:Type} {L:List α} {s q:Int} (y:α) (h:q≠s):Zx (Z9 L s y) q=Zx L q∨(s < 0):=by
 by_cases c:s < 0
 ·exact .inr c
 left
 unfold Zx Z9
 by_cases c0:0≤q
 ·rw [if_pos c0,if_pos c0,List.getElem?_set_ne (by omega)]
 rw [if_neg c0,if_neg c0]
theorem Zwq {α:Type} {x y:List α} (h:∀ p,Zx x p=Zx y p):x=y:=by
 apply List.ext_getElem?
 intro i
 have:=h (i:Int)
 unfold Zx at this
 rwa [if_pos (by omega),if_pos (by omega),Int.toNat_natCast] at this
theorem Zv4 {A B:List (List Int)} (hl:A.length=B.length) (h:∀ s p,vA A s p=vA B s p):A=B:=by
 apply Zwq
 intro s
 cases ha:Zx A s with
 | none =>
  cases hb:Zx B s with
  | none=>rfl
  | some y =>
   have h1:=Zd2 ha
   have h2:=Q1 hb
   omega
 | some x =>
  cases hb:Zx B s with
  | none =>
   have h1:=Zd2 hb
   have h2:=Q1 ha
   omega
  | some y =>
   refine congrArg some (Zwq fun p => ?_)
   have:=h s p
   unfold vA at this
   rw [ha,hb] at this
   exact this
theorem hasB_iff {A:List (List Int)} {s p:Int}:Xh A s p 1=true↔∃ v,vA A s p=some v:=by
 unfold Xh vA
 cases ha:Zx A s with
 | none=>simp
 | some x =>
  rw [Option.bind_some,decide_eq_true_eq]
  constructor
  ·intro h;exact Zg2 (by omega) (by omega)
  intro ⟨v,hv⟩;have:=Q1 hv;omega
theorem Kj {A:List (List Int)} {s p k:Int} (h:Xh A s p k=true):∃ x,Zx A s=some x∧0≤p∧0≤k∧p+k≤(x.length:Int):=by
 unfold Xh at h
 cases e:Zx A s with
 | none=>rw [e] at h;cases h
 | some t=>rw [e] at h;have:=of_decide_eq_true h;exact ⟨t,rfl,by omega⟩
theorem Zh6 {A:List (List Int)} {s p k:Int} {x:List Int} (h:Zx A s=some x) (h0:0≤p) (h1:0≤k) (h2:p+k≤(x.length:Int)):Xh A s p k=true:=by
 unfold Xh
 rw [h]
 exact decide_eq_true (by omega)
theorem Jm (A:List (List Int)) (s p v:Int):(Xb A s p v).length=A.length:=by
 unfold Xb
 split
 ·exact Ya _ _ _
 rfl
theorem Zl5 {A:List (List Int)} {s p:Int} (v:Int) (h:¬ Xh A s p 1=true):Xb A s p v=A:=by unfold Xb;rw [if_neg h]
theorem Zbx {A:List (List Int)} {s p:Int} (v:Int) (h:Xh A s p 1=true) (s' p':Int):vA (Xb A s p v) s' p'=if s'=s∧p'=p then some v else vA A s' p':=by
 obtain ⟨x,hx,h0,_,h2⟩:=Kj h
 have hs:=Q1 hx
 unfold Xb vA
 rw [if_pos h,hx,Option.getD_some]
 by_cases c:s'=s
 ·subst c
  rw [Qg hx,hx,Option.bind_some,Option.bind_some]
  by_cases c2:p'=p
  ·subst c2
   obtain ⟨w,hw⟩:=Zg2 (L:=x) h0 (by omega)
   rw [Qg hw,if_pos ⟨rfl,rfl⟩]
  rw [if_neg (fun q=>c2 q.2)]
  rcases Zcg (L:=x) v c2 with q | q
  ·exact q
  omega
 rw [if_neg (fun q=>c q.1)]
 rcases Zcg (L:=A) (Z9 x p v) c with q | q
 ·rw [q]
 omega
theorem Zvy (A:List (List Int)) {s p s' p':Int} (v v':Int) (h:¬ (s'=s∧p'=p)):Xb (Xb A s p v) s' p' v'=Xb (Xb A s' p' v') s p v:=by
 by_cases c:Xh A s p 1=true
 ·by_cases c':Xh A s' p' 1=true
  ·have d:Xh (Xb A s p v) s' p' 1=true:=by rw [Zen];exact c'
   have d':Xh (Xb A s' p' v') s p 1=true:=by rw [Zen];exact c
   refine Zv4 (by simp only [Jm]) fun a b => ?_
   rw [Zbx _ d,Zbx _ c,Zbx _ d',Zbx _ c']
   by_cases e:a=s'∧b=p'
   ·rw [if_pos e,if_pos e,if_neg (fun q=>h ⟨e.1.symm.trans q.1,e.2.symm.trans q.2⟩)]
   rw [if_neg e,if_neg e]
  rw [Zl5 v' c',Zl5 v' (by rw [Zen];exact c')]
 rw [Zl5 v c,Zl5 v (by rw [Zen];exact c)]
theorem Zhe (s p v s':Int):∀ (ws:List Int) (A:List (List Int)) (p':Int),¬ (s=s'∧p'≤p∧p < p'+(ws.length:Int))→Xq (Xb A s p v) s' p' ws=Xb (Xq A s' p' ws) s p v
 | [],_,_,_=>rfl
 | w::ws,A,p',h=>by
  rw [List.length_cons] at h
  rw [Xq,Xq,Zvy A v w (fun q=>h ⟨q.1.symm,by omega⟩),Zhe s p v s' ws _ _ (fun q=>h ⟨q.1,by omega⟩)]
theorem Zwr {A:List (List Int)} {s p:Int} (v:Int) {q:Int} {x:List Int} (h:Zx A q=some x):∃ y,Zx (Xb A s p v) q=some y∧y.length=x.length:=by
 unfold Xb
 split
 ·rename_i c
  obtain ⟨z,hz,_⟩:=Kj c
  by_cases e:q=s
  ·subst e
   rw [h]
   exact ⟨_,Qg h,Ya _ _ _⟩
  rcases Zcg (L:=A) (Z9 ((Zx A s).getD []) p v) e with g | g
  ·rw [g];exact ⟨x,h,rfl⟩
  have:=Q1 hz;omega
 exact ⟨x,h,rfl⟩
theorem Zg5 {A:List (List Int)} (h:A.length≠0):Zx A ((A.length:Int) - 1)=some (Qh A):=by
 unfold Zx Qh
 rw [if_pos (by omega),show ((A.length:Int) - 1).toNat=A.length - 1 by omega]
 rw [List.getElem?_eq_getElem (by omega)];rfl
theorem Zly (A:List (List Int)) (s p v:Int):(Qh (Xb A s p v)).length=(Qh A).length:=by
 by_cases h:A.length=0
 ·have:A=[]:=List.length_eq_zero_iff.1 h
  subst this
  rw [Zl5]
  unfold Xh Zx
  simp
 obtain ⟨y,h1,h2⟩:=Zwr (s:=s) (p:=p) v (Zg5 h)
 have:=Zg5 (A:=Xb A s p v) (by rw [Jm];exact h)
 rw [Jm,h1] at this
 rw [← Option.some.inj this,h2]
theorem Zgo {A:List (List Int)} {s0:Int} {x:List Int} (h:Zx A s0=some x) {k:Int} (hk:0≤k) (s p:Int):vA (Z9 A s0 (zl x k)) s p=if s=s0∧(x.length:Int)≤p∧p < (x.length:Int)+k then some 0 else vA A s p:=by
 have hs:=Q1 h
 unfold vA
 by_cases c:s=s0
 ·subst c
  rw [Qg h,h,Option.bind_some,Option.bind_some]
  unfold Zx zl
  by_cases c0:0≤p
  ·rw [if_pos c0]
   by_cases c1:p < (x.length:Int)
   ·rw [if_neg (by omega),List.getElem?_append_left (by omega),if_pos c0]
   rw [List.getElem?_append_right (by omega),List.getElem?_replicate]
   by_cases c2:p < (x.length:Int)+k
   ·rw [if_pos (by omega),if_pos ⟨rfl,by omega,c2⟩]
   rw [if_neg (by omega),if_neg (by omega),if_pos c0,List.getElem?_eq_none (by omega)]
  rw [if_neg c0,if_neg (by omega),if_neg c0]
 rw [if_neg (fun q=>c q.1)]
 rcases Zcg (L:=A) (zl x k) c with q | q
 ·rw [q]
 omega
theorem Zv5 {A:List (List Int)} {k:Int} (hk:0≤k) (s p:Int):vA (A++[zl [] k]) s p=if s=(A.length:Int)∧0≤p∧p < k then some 0 else vA A s p:=by
 unfold vA
 have e:Zx (A++[zl [] k]) s=if s=(A.length:Int) then some (zl [] k) else Zx A s:=by
  unfold Zx
  by_cases c:0≤s
  ·rw [if_pos c,if_pos c]
   by_cases c1:s=(A.length:Int)
   ·rw [if_pos c1,c1,Int.toNat_natCast,List.getElem?_append_right (Nat.le_refl _),Nat.sub_self];rfl
   rw [if_neg c1]
   by_cases c2:s < (A.length:Int)
   ·rw [List.getElem?_append_left (by omega)]
   rw [List.getElem?_eq_none (by simp;omega),List.getElem?_eq_none (by omega)]
  rw [if_neg c,if_neg c,if_neg (by omega)]
 rw [e]
 by_cases c:s=(A.length:Int)
 ·rw [if_pos c,Option.bind_some]
  have hn:Zx A s=none:=by
   cases h:Zx A s with
   | none=>rfl
   | some x=>have:=Q1 h;omega
  rw [hn]
  unfold Zx zl
  by_cases c0:0≤p
  ·rw [if_pos c0,List.nil_append,List.getElem?_replicate]
   by_cases c2:p < k
   ·rw [if_pos (by omega),if_pos ⟨c,c0,c2⟩]
   rw [if_neg (by omega),if_neg (by omega)];rfl
  rw [if_neg c0,if_neg (by omega)];rfl
 rw [if_neg c,if_neg (fun q=>c q.1)]
theorem Z1m {A:List (List Int)} {s p:Int} (v:Int) (h:Xh A s p 1=true) (size left k:Int) :
  X4 (Xb A s p v) size left k=((X4 A size left k).1,(X4 A size left k).2.1,(X4 A size left k).2.2.1,Xb (X4 A size left k).2.2.2.1 s p v,(X4 A size left k).2.2.2.2):=by
 by_cases c:k < 0∨left < k
 ·have e:∀ A,X4 A size left k=(0,0,false,A,left):=fun A=>if_pos c
  rw [e,e]
 obtain ⟨x,hx,h0,_,h2⟩:=Kj h
 have hs:=Q1 hx
 by_cases c2:A.length=0∨A.length < 16∧¬ k≤IntKind.i64.wrap (size - ((Qh A).length:Int))
 ·have e:X4 A size left k=((A.length:Int),0,true,A++[zl [] k],IntKind.i64.wrap (left - k)):=(if_neg c).trans (if_pos c2)
  have e':X4 (Xb A s p v) size left k=((A.length:Int),0,true,Xb A s p v++[zl [] k],IntKind.i64.wrap (left - k)):=by
   have:=(if_neg c).trans (if_pos (by rw [Jm,Zly];exact c2)) (a:=X4 (Xb A s p v) size left k)
   rw [Jm] at this
   exact this
  rw [e,e']
  have hb:Xh (A++[zl [] k]) s p 1=true:=hasB_iff.2 (by
   obtain ⟨w,hw⟩:=hasB_iff.1 h
   rw [Zv5 (by omega),if_neg (by omega)];exact ⟨w,hw⟩)
  have:Xb A s p v++[zl [] k]=Xb (A++[zl [] k]) s p v:=by
   refine Zv4 (by simp [Jm]) fun a b => ?_
   rw [Zv5 (by omega),Zbx _ hb,Zv5 (by omega),Zbx _ h,Jm]
   by_cases q:a=s∧b=p
   ·rw [if_pos q,if_pos q,if_neg (by omega)]
   rw [if_neg q,if_neg q]
  rw [this]
 have e:X4 A size left k=((A.length:Int) - 1,((Qh A).length:Int),true,A.set (A.length - 1) (zl (Qh A) k),IntKind.i64.wrap (left - k)):=(if_neg c).trans (if_neg c2)
 have e':X4 (Xb A s p v) size left k=((A.length:Int) - 1,((Qh A).length:Int),true,(Xb A s p v).set (A.length - 1) (zl (Qh (Xb A s p v)) k),IntKind.i64.wrap (left - k)):=by
  have:=(if_neg c).trans (if_neg (by rw [Jm,Zly];exact c2)) (a:=X4 (Xb A s p v) size left k)
  rw [Jm,Zly] at this
  exact this
 rw [e,e']
 have hA:A.length≠0:=by omega
 have se:∀ (B:List (List Int)) (z:List Int),B.length=A.length→B.set (A.length - 1) z=Z9 B ((A.length:Int) - 1) z:=fun B z hB=>by
  unfold Z9;rw [show ((A.length:Int) - 1).toNat=A.length - 1 by omega]
 have l1:=Zg5 hA
 have l2:=Zg5 (A:=Xb A s p v) (by rw [Jm];exact hA)
 rw [Jm] at l2
 have hb:Xh (Z9 A ((A.length:Int) - 1) (zl (Qh A) k)) s p 1=true:=hasB_iff.2 (by
  obtain ⟨w,hw⟩:=hasB_iff.1 h
  rw [Zgo l1 (by omega)]
  split
  ·exact ⟨0,rfl⟩
  exact ⟨w,hw⟩)
 have:(Xb A s p v).set (A.length - 1) (zl (Qh (Xb A s p v)) k)=Xb (A.set (A.length - 1) (zl (Qh A) k)) s p v:=by
  rw [se _ _ (Jm _ _ _ _),se _ _ rfl]
  refine Zv4 (by simp only [Ya,Jm]) fun a b => ?_
  rw [Zgo l2 (by omega),Zbx _ hb,Zgo l1 (by omega),Zbx _ h,Zly]
  by_cases q:a=s∧b=p
  ·rw [if_pos q,if_pos q,if_neg]
   intro q2
   rw [q.1] at q2
   rw [← q2.1,hx] at l1
   have:=Option.some.inj l1
   rw [← this] at q2
   omega
  rw [if_neg q,if_neg q]
 rw [this]
abbrev SG:=List (List Int)×Int
noncomputable def pt1 (s p v:Int) (σ:SG):SG:=(Xb σ.1 s p v,σ.2)
noncomputable def Jy (size:Int) (σ:SG) (k:Int):Option (Int×Int×SG):=bif (X4 σ.1 size σ.2 k).2.2.1 then some ((X4 σ.1 size σ.2 k).1,(X4 σ.1 size σ.2 k).2.1,(X4 σ.1 size σ.2 k).2.2.2) else none
open Classical in
noncomputable def inO (size:Int) (σ:SG) (s:Int):Option (Int×SG):=match Zx σ.1 s with
 | none=>none
 | some x=>if 1≤σ.2∧1≤IntKind.i64.wrap (size - (x.length:Int)) then some ((x.length:Int),Z9 σ.1 s (zl x 1),IntKind.i64.wrap (σ.2 - 1)) else none
def nw (a b k u:Int):Int:=(b - a - 1) % 1073741824 * 4+k+u * 4294967296
def fw (h b d:Int):Int:=2+4 * d+8 * b+4294967296 * h
open Classical in
/-- a pointer, and its pads -/
noncomputable def Zko (size:Int) (σ:SG) (s p k u h b:Int):Option SG :=
 if k=0∧u=0 then some (pt1 s p 4294967292 σ)
 else if h=s then some (pt1 s p (nw p b k u) σ)
 else match inO size σ h with
  | some r=>some (pt1 s p (fw h r.1 0) (pt1 h r.1 (nw r.1 b k u) r.2))
  | none=>(Jy size σ 2).map fun r=>pt1 s p (fw r.1 r.2.1 1) (Xq r.2.2.1 r.1 r.2.1 [fw h b 0,k+u * 4294967296],r.2.2.2)
structure St (size most:Int) (σ:SG):Prop where
 h16:σ.1.length≤16
 hl0:0≤σ.2
 hm:σ.2≤most
 hmm:most≤131072
 hB:∀ x∈σ.1,(x.length:Int)+σ.2≤131072
def Ex (σ τ:SG):Prop:=∀ s p m,Xh σ.1 s p m=true→Xh τ.1 s p m=true
theorem Ex.refl (σ:SG):Ex σ σ:=fun _ _ _ h=>h
theorem Ex.trans {σ τ ρ:SG} (h:Ex σ τ) (h':Ex τ ρ):Ex σ ρ:=fun s p m q=>h' s p m (h s p m q)
theorem Ex.put (s p v:Int) (σ:SG):Ex σ (pt1 s p v σ):=fun s' p' m h=>by show Xh (Xb σ.1 s p v) s' p' m=true;rw [Zen];exact h
theorem Ex.lays (s p:Int) (ws:List Int) (σ:SG):Ex σ (Xq σ.1 s p ws,σ.2):=fun s' p' m h=>by show Xh (Xq σ.1 s p ws) s' p' m=true;rw [Zps];exact h
theorem Z3t {A:List (List Int)} {s p v:Int} {y:List Int} (h:y∈Xb A s p v):∃ x∈A,y.length=x.length:=by
 unfold Xb at h
 split at h
 ·rename_i c
  obtain ⟨z,hz,_⟩:=Kj c
  rcases List.mem_or_eq_of_mem_set h with q | q
  ·exact ⟨y,q,rfl⟩
  rw [hz] at q
  exact ⟨z,Y9 hz,by rw [q];exact Ya _ _ _⟩
 exact ⟨y,h,rfl⟩
theorem St.put {size most:Int} {σ:SG} (h:St size most σ) (s p v:Int):St size most (pt1 s p v σ) :=
 ⟨by show (Xb σ.1 s p v).length≤16;rw [Jm];exact h.h16,h.hl0,h.hm,h.hmm,fun y hy=>by obtain ⟨x,hx,e⟩:=Z3t hy;rw [e];exact h.hB x hx⟩
theorem St.lays {size most:Int} (s:Int):∀ (ws:List Int) {σ:SG} (_:St size most σ) (p:Int),St size most (Xq σ.1 s p ws,σ.2)
 | [],_,h,_=>h
 | w::ws,σ,h,p=>St.lays s ws (h.put s p w) (p+1)
theorem Zws {size:Int} {σ:SG} {k:Int} {r:Int×Int×SG} (h:Jy size σ k=some r):(X4 σ.1 size σ.2 k).2.2.1=true∧r=((X4 σ.1 size σ.2 k).1,(X4 σ.1 size σ.2 k).2.1,(X4 σ.1 size σ.2 k).2.2.2):=by
 unfold Jy at h
 cases c:(X4 σ.1 size σ.2 k).2.2.1 with
 | true=>rw [c,cond_true] at h;exact ⟨rfl,(Option.some.inj h).symm⟩
 | false=>rw [c,cond_false] at h;cases h
theorem Zdb {size most:Int} {σ:SG} {k:Int} {r:Int×Int×SG} (hs:St size most σ) (h:Jy size σ k=some r) :
  0≤k∧0≤r.1∧0≤r.2.1∧r.2.1+k≤131072∧St size most r.2.2∧Ex σ r.2.2∧Xh r.2.2.1 r.1 r.2.1 k=true∧(∀ s p,vA r.2.2.1 s p=if s=r.1∧r.2.1≤p∧p < r.2.1+k then some 0 else vA σ.1 s p)∧(∀ p,Xh σ.1 r.1 p 1=true→p < r.2.1):=by
 obtain ⟨h1,rfl⟩:=Zws h
 have ex:∀ (A B:List (List Int)),(∀ s x,Zx A s=some x→∃ y,Zx B s=some y∧x.length≤y.length)→∀ s p m,Xh A s p m=true→Xh B s p m=true:=fun A B hAB s p m q=>by
  obtain ⟨x,hx,a,b,c⟩:=Kj q
  obtain ⟨y,hy,hl⟩:=hAB s x hx
  exact Zh6 hy a b (by omega)
 by_cases c:k < 0∨σ.2 < k
 ·have e:X4 σ.1 size σ.2 k=(0,0,false,σ.1,σ.2):=if_pos c
  rw [e] at h1;cases h1
 have:=hs.hm
 have:=hs.hmm
 have hw:IntKind.i64.wrap (σ.2 - k)=σ.2 - k:=Gp (by omega)
 by_cases c2:σ.1.length=0∨σ.1.length < 16∧¬ k≤IntKind.i64.wrap (size - ((Qh σ.1).length:Int))
 ·have e:X4 σ.1 size σ.2 k=((σ.1.length:Int),0,true,σ.1++[zl [] k],IntKind.i64.wrap (σ.2 - k)):=(if_neg c).trans (if_pos c2)
  rw [e,hw]
  have hz:(zl [] k).length=k.toNat:=by unfold zl;simp
  refine ⟨by omega,by show (0:Int)≤(σ.1.length:Int);omega,Int.le_refl _,by show 0+k≤131072;omega,⟨by show (σ.1++[zl [] k]).length≤16;rw [List.length_append,List.length_singleton];omega,by show 0≤σ.2 - k;omega,by show σ.2 - k≤most;omega,hs.hmm,fun x hx => ?_⟩,ex _ _ fun s x hx=>⟨x,?_,Nat.le_refl _⟩,?_,fun s p => ?_,fun p hp => ?_⟩
  ·show (x.length:Int)+(σ.2 - k)≤131072
   rcases List.mem_append.1 hx with q | q
   ·have:=hs.hB x q;omega
   rw [List.mem_singleton.1 q,hz];omega
  ·have:=Q1 hx
   unfold Zx at hx ⊢
   rw [if_pos this.1] at hx ⊢
   rw [List.getElem?_append_left (by omega)];exact hx
  ·refine Zh6 (x:=zl [] k) ?_ (Int.le_refl _) (by omega) (by rw [hz];show 0+k≤_;omega)
   show Zx (σ.1++[zl [] k]) (σ.1.length:Int)=_
   unfold Zx
   rw [if_pos (by omega),Int.toNat_natCast,List.getElem?_append_right (Nat.le_refl _),Nat.sub_self];rfl
  ·show vA (σ.1++[zl [] k]) s p=if s=(σ.1.length:Int)∧0≤p∧p < 0+k then some 0 else vA σ.1 s p
   rw [Zv5 (by omega),Int.zero_add]
  obtain ⟨x,hx,_⟩:=Kj hp
  have:=Q1 hx
  have:(σ.1.length:Int) < σ.1.length:=this.2
  omega
 have e:X4 σ.1 size σ.2 k=((σ.1.length:Int) - 1,((Qh σ.1).length:Int),true,σ.1.set (σ.1.length - 1) (zl (Qh σ.1) k),IntKind.i64.wrap (σ.2 - k)):=(if_neg c).trans (if_neg c2)
 have hA:σ.1.length≠0:=by omega
 have l1:=Zg5 hA
 have hm:=hs.hB _ (Y9 l1)
 have hz:(zl (Qh σ.1) k).length=(Qh σ.1).length+k.toNat:=by unfold zl;simp
 have se:σ.1.set (σ.1.length - 1) (zl (Qh σ.1) k)=Z9 σ.1 ((σ.1.length:Int) - 1) (zl (Qh σ.1) k):=by
  unfold Z9;rw [show ((σ.1.length:Int) - 1).toNat=σ.1.length - 1 by omega]
 rw [e,hw,se]
 refine ⟨by omega,by show (0:Int)≤(σ.1.length:Int) - 1;omega,by show (0:Int)≤((Qh σ.1).length:Int);omega,by show ((Qh σ.1).length:Int)+k≤131072;omega,⟨by show (Z9 σ.1 ((σ.1.length:Int) - 1) (zl (Qh σ.1) k)).length≤16;rw [Ya];exact hs.h16,by show 0≤σ.2 - k;omega,by show σ.2 - k≤most;omega,hs.hmm,fun x hx => ?_⟩,ex _ _ fun s x hx => ?_,?_,fun s p => ?_,fun p hp => ?_⟩
 ·show (x.length:Int)+(σ.2 - k)≤131072
  rcases List.mem_or_eq_of_mem_set hx with q | q
  ·have:=hs.hB x q;omega
  rw [q,hz];omega
 ·by_cases q:s=(σ.1.length:Int) - 1
  ·rw [q] at hx ⊢
   rw [l1] at hx
   have:=Option.some.inj hx;subst this
   exact ⟨_,Qg l1,by rw [hz];omega⟩
  rcases Zcg (L:=σ.1) (zl (Qh σ.1) k) q with g | g
  ·exact ⟨x,g.trans hx,Nat.le_refl _⟩
  omega
 ·exact Zh6 (Qg l1) (by show (0:Int)≤((Qh σ.1).length:Int);omega) (by omega) (by rw [hz];show ((Qh σ.1).length:Int)+k≤_;omega)
 ·exact Zgo l1 (by omega) s p
 obtain ⟨x,hx,a,b,c⟩:=Kj hp
 rw [show Zx σ.1 _=some (Qh σ.1) from l1] at hx
 have:=Option.some.inj hx;subst this
 show p < ((Qh σ.1).length:Int)
 omega
theorem Zyi {size most:Int} {σ:SG} {h:Int} {r:Int×SG} (hs:St size most σ) (e:inO size σ h=some r) :
  0≤r.1∧r.1+1≤131072∧St size most r.2∧Ex σ r.2∧Xh r.2.1 h r.1 1=true∧(∀ s p,vA r.2.1 s p=if s=h∧r.1≤p∧p < r.1+1 then some 0 else vA σ.1 s p)∧(∀ p,Xh σ.1 h p 1=true→p < r.1):=by
 unfold inO at e
 cases hx:Zx σ.1 h with
 | none=>rw [hx] at e;cases e
 | some x =>
  rw [hx] at e
  dsimp only at e
  split at e
  ·rename_i c
   have:=Option.some.inj e;subst this
   have:=hs.hm
   have:=hs.hmm
   have hw:IntKind.i64.wrap (σ.2 - 1)=σ.2 - 1:=Gp (by omega)
   have hl:=Q1 hx
   have hb:=hs.hB x (Y9 hx)
   have hz:(zl x 1).length=x.length+1:=by unfold zl;simp
   rw [hw]
   refine ⟨by show (0:Int)≤(x.length:Int);omega,by show (x.length:Int)+1≤131072;omega,⟨by show (Z9 σ.1 h (zl x 1)).length≤16;rw [Ya];exact hs.h16,by show 0≤σ.2 - 1;omega,by show σ.2 - 1≤most;omega,hs.hmm,fun y hy => ?_⟩,fun s p m q => ?_,?_,fun s p=>Zgo hx (by omega) s p,fun p hp => ?_⟩
   ·show (y.length:Int)+(σ.2 - 1)≤131072
    rcases List.mem_or_eq_of_mem_set hy with q | q
    ·have:=hs.hB y q;omega
    rw [q,hz];omega
   ·obtain ⟨y,hy,a,b,c⟩:=Kj q
    show Xh (Z9 σ.1 h (zl x 1)) s p m=true
    by_cases q2:s=h
    ·subst q2
     rw [hx] at hy
     have:=Option.some.inj hy;subst this
     exact Zh6 (Qg hx) a b (by rw [hz];omega)
    rcases Zcg (L:=σ.1) (zl x 1) q2 with g | g
    ·exact Zh6 (g.trans hy) a b c
    omega
   ·exact Zh6 (Qg hx) (by show (0:Int)≤(x.length:Int);omega) (by omega) (by rw [hz];show (x.length:Int)+1≤_;omega)
   obtain ⟨y,hy,a,b,c⟩:=Kj hp
   rw [hx] at hy
   have:=Option.some.inj hy;subst this
   show p < (x.length:Int)
   omega
  cases e
theorem Zuj {σ:SG} {s p:Int} (v:Int) (h:Xh σ.1 s p 1=true) (size k:Int):Jy size (pt1 s p v σ) k=(Jy size σ k).map fun r=>(r.1,r.2.1,pt1 s p v r.2.2):=by
 unfold Jy
 have:=Z1m v h size σ.2 k
 show (bif (X4 (Xb σ.1 s p v) size σ.2 k).2.2.1 then some ((X4 (Xb σ.1 s p v) size σ.2 k).1,(X4 (Xb σ.1 s p v) size σ.2 k).2.1,(X4 (Xb σ.1 s p v) size σ.2 k).2.2.2) else none)=_
 rw [this]
 dsimp only
 cases (X4 σ.1 size σ.2 k).2.2.1 <;> rfl
theorem Z3h {σ:SG} {s p:Int} (v:Int) (h:Xh σ.1 s p 1=true) (size h':Int):inO size (pt1 s p v σ) h'=(inO size σ h').map fun r=>(r.1,pt1 s p v r.2):=by
 unfold inO
 show (match Zx (Xb σ.1 s p v) h' with | none=>none | some x=>_)=_
 cases hx:Zx σ.1 h' with
 | none =>
  have hl:=Zd2 hx
  have:Zx (Xb σ.1 s p v) h'=none:=by
   cases e:Zx (Xb σ.1 s p v) h' with
   | none=>rfl
   | some y=>have:=Q1 e;rw [Jm] at this;omega
  rw [this];rfl
 | some x =>
  obtain ⟨y,hy,e⟩:=Zwr (s:=s) (p:=p) v hx
  rw [hy]
  dsimp only
  rw [e]
  have e2:(pt1 s p v σ).2=σ.2:=rfl
  rw [e2]
  by_cases c:1≤σ.2∧1≤IntKind.i64.wrap (size - (x.length:Int))
  ·rw [if_pos c,if_pos c]
   refine congrArg some (Prod.ext rfl (Prod.ext ?_ rfl))
   show Z9 (Xb σ.1 s p v) h' (zl y 1)=Xb (Z9 σ.1 h' (zl x 1)) s p v
   have hb:Xh (Z9 σ.1 h' (zl x 1)) s p 1=true:=hasB_iff.2 (by
    obtain ⟨w,hw⟩:=hasB_iff.1 h
    rw [Zgo hx (by omega)]
    split
    ·exact ⟨0,rfl⟩
    exact ⟨w,hw⟩)
   obtain ⟨z,hz,h0,_,h2⟩:=Kj h
   refine Zv4 (by simp only [Ya,Jm]) fun a b => ?_
   rw [Zgo hy (by omega),Zbx _ hb,Zgo hx (by omega),Zbx _ h,e]
   by_cases q:a=s∧b=p
   ·rw [if_pos q,if_pos q,if_neg]
    intro q2
    rw [← q2.1,q.1,hz] at hx
    have:=Option.some.inj hx
    rw [← this] at q2
    omega
   rw [if_neg q,if_neg q]
  rw [if_neg c,if_neg c];rfl
theorem Zl3 (σ:SG) {s p s' p':Int} (v v':Int) (h:¬ (s'=s∧p'=p)):pt1 s' p' v' (pt1 s p v σ)=pt1 s p v (pt1 s' p' v' σ):=Prod.ext (Zvy σ.1 v v' h) rfl
theorem Z1c {size most:Int} {σ:SG} {s p s' p':Int} (v:Int) (hs:St size most σ) (h:Xh σ.1 s p 1=true) (hne:¬ (s'=s∧p'=p)) (k u h' b:Int):Zko size (pt1 s p v σ) s' p' k u h' b=(Zko size σ s' p' k u h' b).map (pt1 s p v):=by
 unfold Zko
 by_cases c1:k=0∧u=0
 ·rw [if_pos c1,if_pos c1,Zl3 _ _ _ hne];rfl
 rw [if_neg c1,if_neg c1]
 by_cases c2:h'=s'
 ·rw [if_pos c2,if_pos c2,Zl3 _ _ _ hne];rfl
 rw [if_neg c2,if_neg c2,Z3h v h]
 cases hi:inO size σ h' with
 | some r =>
  have o:=Zyi hs hi
  show some _=some _
  dsimp only
  rw [Zl3 (s:=s) (p:=p) r.2 (s':=h') (p':=r.1) _ _ (fun q=>by have:=o.2.2.2.2.2.2 p (by rw [q.1];exact h);omega),Zl3 _ _ _ hne]
 | none =>
  show Option.map _ _=Option.map _ _
  rw [Zuj v h]
  cases hg:Jy size σ 2 with
  | none=>rfl
  | some r =>
   have o:=Zdb hs hg
   show some _=some _
   dsimp only
   have e:((Xq (pt1 s p v r.2.2).1 r.1 r.2.1 [fw h' b 0,k+u * 4294967296],(pt1 s p v r.2.2).2):SG)=pt1 s p v (Xq r.2.2.1 r.1 r.2.1 [fw h' b 0,k+u * 4294967296],r.2.2.2) :=
    Prod.ext (Zhe s p v r.1 _ r.2.2.1 r.2.1 (fun q=>by have:=o.2.2.2.2.2.2.2.2 p (by rw [← q.1];exact h);omega)) rfl
   rw [e,Zl3 _ _ _ hne]
theorem Zuy {size most:Int} {σ τ:SG} {s p k u h b:Int} (hs:St size most σ) (e:Zko size σ s p k u h b=some τ):St size most τ∧Ex σ τ∧∀ s' p',Xh σ.1 s' p' 1=true→¬ (s'=s∧p'=p)→vA τ.1 s' p'=vA σ.1 s' p':=by
 have one:∀ (ρ:SG) (v:Int) (s' p':Int),¬ (s'=s∧p'=p)→vA (pt1 s p v ρ).1 s' p'=vA ρ.1 s' p':=fun ρ v s' p' hne=>by
  show vA (Xb ρ.1 s p v) s' p'=_
  by_cases c:Xh ρ.1 s p 1=true
  ·rw [Zbx _ c,if_neg hne]
  rw [Zl5 v c]
 unfold Zko at e
 split at e
 ·have:=Option.some.inj e;subst this
  exact ⟨hs.put _ _ _,Ex.put _ _ _ _,fun s' p' _ hne=>one _ _ _ _ hne⟩
 split at e
 ·have:=Option.some.inj e;subst this
  exact ⟨hs.put _ _ _,Ex.put _ _ _ _,fun s' p' _ hne=>one _ _ _ _ hne⟩
 cases hi:inO size σ h with
 | some r =>
  rw [hi] at e
  have:=Option.some.inj e;subst this
  have o:=Zyi hs hi
  refine ⟨(o.2.2.1.put _ _ _).put _ _ _,o.2.2.2.1.trans ((Ex.put _ _ _ _).trans (Ex.put _ _ _ _)),fun s' p' hb hne => ?_⟩
  rw [one _ _ _ _ hne]
  show vA (Xb r.2.1 h r.1 _) s' p'=_
  rw [Zbx _ o.2.2.2.2.1,o.2.2.2.2.2.1]
  have:¬ (s'=h∧r.1≤p'):=fun q=>by have:=o.2.2.2.2.2.2 p' (by rw [← q.1];exact hb);omega
  rw [if_neg (fun q=>this ⟨q.1,by omega⟩),if_neg (fun q=>this ⟨q.1,q.2.1⟩)]
 | none =>
  rw [hi] at e
  dsimp only at e
  cases hg:Jy size σ 2 with
  | none=>rw [hg] at e;cases e
  | some r =>
   rw [hg] at e
   have:=Option.some.inj e;subst this
   have o:=Zdb hs hg
   refine ⟨(St.lays r.1 _ o.2.2.2.2.1 r.2.1).put _ _ _,o.2.2.2.2.2.1.trans ((Ex.lays _ _ _ _).trans (Ex.put _ _ _ _)),fun s' p' hb hne => ?_⟩
   rw [one _ _ _ _ hne]
   have hf:¬ (s'=r.1∧r.2.1≤p'):=fun q=>by have:=o.2.2.2.2.2.2.2.2 p' (by rw [← q.1];exact hb);omega
   have h0:=o.2.2.2.2.2.2.1
   have b0:Xh r.2.2.1 r.1 r.2.1 1=true:=Zk1 h0 (Int.le_refl _) (by omega)
   have b1:Xh (Xb r.2.2.1 r.1 r.2.1 (fw h b 0)) r.1 (r.2.1+1) 1=true:=by rw [Zen];exact Zk1 h0 (by omega) (by omega)
   show vA (Xb (Xb r.2.2.1 r.1 r.2.1 _) r.1 (r.2.1+1) _) s' p'=_
   rw [Zbx _ b1,Zbx _ b0,o.2.2.2.2.2.2.2.1,if_neg (fun q=>hf ⟨q.1,by omega⟩),if_neg (fun q=>hf ⟨q.1,by omega⟩),if_neg (fun q=>hf ⟨q.1,q.2.1⟩)]
noncomputable def Gq (f:Tr→Int→Int→SG→Option SG) (s:Int):Int→List Tr→SG→Option SG
 | _,[],σ=>some σ
 | p,t::ts,σ=>(f t s p σ).bind (Gq f s (p+1) ts)
noncomputable def Kf (s m:Int):Int→List Tr→List (List Int)→List (List Int)
 | _,[],A=>A
 | p,t::ts,A=>Kf s m (p+m) ts (Xq A s p t.Words)
noncomputable def Gv (f:Tr→Int→Int→SG→Option SG) (s m w:Int):Int→List Tr→SG→Option SG
 | _,[],σ=>some σ
 | p,t::ts,σ=>(Gq f s (p+w) t.Kids σ).bind (Gv f s m w (p+m) ts)
noncomputable def Zqa (f:Tr→Int→Int→SG→Option SG) (s m w:Int):Int→List Tr→SG→Option SG
 | _,[],σ=>some σ
 | p,t::ts,σ=>(Gq f s (p+w) t.Kids (Xq σ.1 s p t.Words,σ.2)).bind (Zqa f s m w (p+m) ts)
def Zhi (t:Tr):Int:=(t.Kids.length:Int) * 4+(fr t.Kids).1 * 4294967296+(fr t.Kids).2 * 281474976710656
def pkd (t:Tr):Int:=if t.Kind=1 then 0 else 1
def pup (t:Tr):Int:=if t.Kind=1 then (t.Words.length:Int)+65536 * (t.Kids.length:Int) else if t.Kind=9 then 7+8 * ((t.Kids.length:Int) * ((fr t.Kids).1+(fr t.Kids).2)) else t.Kind - 2+8 * (t.Kids.length:Int)
def pwd (t:Tr):Int:=if t.Kind=1 then (t.Words.length:Int)+(t.Kids.length:Int) else if t.Kind=9 then 1+(t.Kids.length:Int) * ((fr t.Kids).1+(fr t.Kids).2) else if t.Kind=8 then (t.Kids.length:Int) else ((Ze9 (t.Kind - 2) (ato t)).length:Int)
noncomputable def inT (o:Bool) (f:Tr→Int→Int→SG→Option SG) (h b:Int) (t:Tr) (σ:SG):Option SG :=
 if t.Kind=1 then Gq f h (b+(t.Words.length:Int)) t.Kids (Xq σ.1 h b t.Words,σ.2)
 else if t.Kind=8 then Gq f h b t.Kids σ
 else if t.Kind=9 then
  (if o=true then Gv f h ((fr t.Kids).1+(fr t.Kids).2) (fr t.Kids).1 (b+1) t.Kids (Kf h ((fr t.Kids).1+(fr t.Kids).2) (b+1) t.Kids (if t.Kids=[] then σ.1 else Xb σ.1 h b (Zhi t)),σ.2)
  else Zqa f h ((fr t.Kids).1+(fr t.Kids).2) (fr t.Kids).1 (b+1) t.Kids (Xb σ.1 h b (Zhi t),σ.2))
 else some (Xq σ.1 h b (Ze9 (t.Kind - 2) (ato t)),σ.2)
noncomputable def Zgr (o:Bool) (size:Int):Nat→Tr→Int→Int→SG→Option SG
 | 0,_,_,_,σ=>some σ
 | d+1,t,s,p,σ=>if t.Kind=0 then some σ else (Jy size σ (pwd t)).bind fun r=>(Zko size r.2.2 s p (pkd t) (pup t) r.1 r.2.1).bind fun τ=>inT o (Zgr o size d) r.1 r.2.1 t τ
def Zp8 (size most:Int) (f:Tr→Int→Int→SG→Option SG):Prop:=∀ t s' p' σ,St size most σ →
 (∀ τ,f t s' p' σ=some τ→St size most τ∧Ex σ τ)∧∀ s p v,Xh σ.1 s p 1=true→¬ (s'=s∧p'=p)→f t s' p' (pt1 s p v σ)=(f t s' p' σ).map (pt1 s p v)
theorem Zcj {size most:Int} {f:Tr→Int→Int→SG→Option SG} (hf:Zp8 size most f) (s':Int):∀ (ts:List Tr) (p':Int) (σ:SG),St size most σ →
  (∀ τ,Gq f s' p' ts σ=some τ→St size most τ∧Ex σ τ)∧∀ s p v,Xh σ.1 s p 1=true→¬ (s=s'∧p'≤p∧p < p'+(ts.length:Int))→Gq f s' p' ts (pt1 s p v σ)=(Gq f s' p' ts σ).map (pt1 s p v)
 | [],p',σ,hs=>⟨fun τ e=>by have:=Option.some.inj e;subst this;exact ⟨hs,Ex.refl _⟩,fun _ _ _ _ _=>rfl⟩
 | t::ts,p',σ,hs=>by
  obtain ⟨a,b⟩:=hf t s' p' σ hs
  refine ⟨fun τ e => ?_,fun s p v hb hne => ?_⟩
  ·rw [Gq] at e
   cases h1:f t s' p' σ with
   | none=>rw [h1] at e;cases e
   | some ρ =>
    rw [h1] at e
    obtain ⟨c1,c2⟩:=a ρ h1
    obtain ⟨d1,d2⟩:=(Zcj hf s' ts (p'+1) ρ c1).1 τ e
    exact ⟨d1,c2.trans d2⟩
  rw [List.length_cons] at hne
  rw [Gq,Gq,b s p v hb (fun q=>hne ⟨q.1.symm,by omega⟩)]
  cases h1:f t s' p' σ with
  | none=>rfl
  | some ρ =>
   obtain ⟨c1,c2⟩:=a ρ h1
   show Gq f s' (p'+1) ts (pt1 s p v ρ)=(Gq f s' (p'+1) ts ρ).map (pt1 s p v)
   exact (Zcj hf s' ts (p'+1) ρ c1).2 s p v (c2 _ _ _ hb) (fun q=>hne ⟨q.1,by omega⟩)
theorem Zrl (s m s' p' k:Int):∀ (ts:List Tr) (p:Int) (A:List (List Int)),Xh (Kf s m p ts A) s' p' k=Xh A s' p' k
 | [],_,_=>rfl
 | t::ts,p,A=>by rw [Kf,Zrl s m s' p' k ts,Zps]
theorem St.words {size most:Int} (s m:Int):∀ (ts:List Tr) (p:Int) {σ:SG},St size most σ→St size most (Kf s m p ts σ.1,σ.2)
 | [],_,_,h=>h
 | t::ts,p,σ,h=>St.words s m ts (p+m) (St.lays s t.Words h p)
theorem Ex.words (s m:Int) (ts:List Tr) (p:Int) (σ:SG):Ex σ (Kf s m p ts σ.1,σ.2):=fun s' p' k h=>by show Xh (Kf s m p ts σ.1) s' p' k=true;rw [Zrl];exact h
theorem Zup (s p v s' m:Int):∀ (ts:List Tr) (p':Int) (A:List (List Int)),(0≤m)→(s=s'→p < p')→Kf s' m p' ts (Xb A s p v)=Xb (Kf s' m p' ts A) s p v
 | [],_,_,_,_=>rfl
 | t::ts,p',A,hm,h=>by
  rw [Kf,Kf,Zhe s p v s' t.Words A p' (fun q=>by have:=h q.1;omega),Zup s p v s' m ts (p'+m) _ hm (fun q=>by have:=h q;omega)]
theorem Zmw {size most:Int} {f:Tr→Int→Int→SG→Option SG} (hf:Zp8 size most f) (s' m w:Int) (hm:0≤m) (hw:0≤w):∀ (ts:List Tr) (p':Int) (σ:SG),St size most σ →
  (∀ τ,Gv f s' m w p' ts σ=some τ→St size most τ∧Ex σ τ)∧∀ s p v,Xh σ.1 s p 1=true→(s=s'→p < p')→Gv f s' m w p' ts (pt1 s p v σ)=(Gv f s' m w p' ts σ).map (pt1 s p v)
 | [],p',σ,hs=>⟨fun τ e=>by have:=Option.some.inj e;subst this;exact ⟨hs,Ex.refl _⟩,fun _ _ _ _ _=>rfl⟩
 | t::ts,p',σ,hs=>by
  obtain ⟨a,b⟩:=Zcj hf s' t.Kids (p'+w) σ hs
  refine ⟨fun τ e => ?_,fun s p v hb hne => ?_⟩
  ·rw [Gv] at e
   cases h1:Gq f s' (p'+w) t.Kids σ with
   | none=>rw [h1] at e;cases e
   | some ρ =>
    rw [h1] at e
    obtain ⟨c1,c2⟩:=a ρ h1
    obtain ⟨d1,d2⟩:=(Zmw hf s' m w hm hw ts (p'+m) ρ c1).1 τ e
    exact ⟨d1,c2.trans d2⟩
  rw [Gv,Gv,b s p v hb (fun q=>by have:=hne q.1;omega)]
  cases h1:Gq f s' (p'+w) t.Kids σ with
  | none=>rfl
  | some ρ =>
   obtain ⟨c1,c2⟩:=a ρ h1
   exact (Zmw hf s' m w hm hw ts (p'+m) ρ c1).2 s p v (c2 _ _ _ hb) (fun q=>by have:=hne q;omega)
theorem Zmn {size most:Int} {f:Tr→Int→Int→SG→Option SG} (hf:Zp8 size most f) (s' m w:Int) (hm:0≤m) (hw:0≤w):∀ (ts:List Tr) (p':Int) (σ:SG),St size most σ →
  (∀ τ,Zqa f s' m w p' ts σ=some τ→St size most τ∧Ex σ τ)∧∀ s p v,Xh σ.1 s p 1=true→(s=s'→p < p')→Zqa f s' m w p' ts (pt1 s p v σ)=(Zqa f s' m w p' ts σ).map (pt1 s p v)
 | [],p',σ,hs=>⟨fun τ e=>by have:=Option.some.inj e;subst this;exact ⟨hs,Ex.refl _⟩,fun _ _ _ _ _=>rfl⟩
 | t::ts,p',σ,hs=>by
  have hs2:St size most (Xq σ.1 s' p' t.Words,σ.2):=St.lays s' _ hs _
  obtain ⟨a,b⟩:=Zcj hf s' t.Kids (p'+w) _ hs2
  refine ⟨fun τ e => ?_,fun s p v hb hne => ?_⟩
  ·rw [Zqa] at e
   cases h1:Gq f s' (p'+w) t.Kids (Xq σ.1 s' p' t.Words,σ.2) with
   | none=>rw [h1] at e;cases e
   | some ρ =>
    rw [h1] at e
    obtain ⟨c1,c2⟩:=a ρ h1
    obtain ⟨d1,d2⟩:=(Zmn hf s' m w hm hw ts (p'+m) ρ c1).1 τ e
    exact ⟨d1,(Ex.lays _ _ _ _).trans (c2.trans d2)⟩
  have e1:((Xq (pt1 s p v σ).1 s' p' t.Words,(pt1 s p v σ).2):SG)=pt1 s p v (Xq σ.1 s' p' t.Words,σ.2):=Prod.ext (Zhe s p v s' t.Words σ.1 p' (fun q=>by have:=hne q.1;omega)) rfl
  rw [Zqa,Zqa,e1,b s p v (Ex.lays _ _ _ _ _ _ _ hb) (fun q=>by have:=hne q.1;omega)]
  cases h1:Gq f s' (p'+w) t.Kids (Xq σ.1 s' p' t.Words,σ.2) with
  | none=>rfl
  | some ρ =>
   obtain ⟨c1,c2⟩:=a ρ h1
   exact (Zmn hf s' m w hm hw ts (p'+m) ρ c1).2 s p v (c2 _ _ _ (Ex.lays _ _ _ _ _ _ _ hb)) (fun q=>by have:=hne q;omega)
theorem Z6m (l:List Tr):0≤(fr l).1∧0≤(fr l).2:=by
 unfold fr
 have:∀ (l:List Tr) (s:Int×Int),0≤s.1→0≤s.2→0≤(l.foldl frS s).1∧0≤(l.foldl frS s).2:=fun l=>by
  induction l with
  | nil=>intro s a b;exact ⟨a,b⟩
  | cons x l ih=>intro s a b;exact ih _ (by unfold frS;dsimp only;omega) (by unfold frS;dsimp only;omega)
 exact this l (0,0) (Int.le_refl _) (Int.le_refl _)
theorem Zwy {size most:Int} {f:Tr→Int→Int→SG→Option SG} (hf:Zp8 size most f) (o:Bool) (h b:Int) (t:Tr) {σ:SG} (hs:St size most σ) :
  (∀ τ,inT o f h b t σ=some τ→St size most τ∧Ex σ τ)∧∀ s p v,Xh σ.1 s p 1=true→(s=h→p < b)→inT o f h b t (pt1 s p v σ)=(inT o f h b t σ).map (pt1 s p v):=by
 obtain ⟨w0,k0⟩:=Z6m t.Kids
 unfold inT
 by_cases c1:t.Kind=1
 ·simp only [if_pos c1]
  obtain ⟨a,b'⟩:=Zcj hf h t.Kids (b+(t.Words.length:Int)) (Xq σ.1 h b t.Words,σ.2) (St.lays h _ hs b)
  refine ⟨fun τ e => ?_,fun s p v hb hne => ?_⟩
  ·obtain ⟨q1,q2⟩:=a τ e
   exact ⟨q1,(Ex.lays _ _ _ _).trans q2⟩
  rw [← b' s p v (Ex.lays _ _ _ _ _ _ _ hb) (fun q=>by have:=hne q.1;omega)]
  congr 1
  exact Prod.ext (Zhe s p v h t.Words σ.1 b (fun q=>by have:=hne q.1;omega)) rfl
 by_cases c8:t.Kind=8
 ·simp only [if_neg c1,if_pos c8]
  obtain ⟨a,b'⟩:=Zcj hf h t.Kids b σ hs
  exact ⟨a,fun s p v hb hne=>b' s p v hb (fun q=>by have:=hne q.1;omega)⟩
 by_cases c9:t.Kind=9
 ·simp only [if_neg c1,if_neg c8,if_pos c9]
  cases o with
  | true =>
   simp only [if_true]
   have htag:∀ s p v,(s=h→p < b)→(if t.Kids=[] then (pt1 s p v σ).1 else Xb (pt1 s p v σ).1 h b (Zhi t))=Xb (if t.Kids=[] then σ.1 else Xb σ.1 h b (Zhi t)) s p v:=fun s p v hne=>by
    by_cases e:t.Kids=[]
    ·rw [if_pos e,if_pos e];rfl
    rw [if_neg e,if_neg e]
    exact Zvy σ.1 _ _ (fun q=>by have:=hne q.1.symm;omega)
   have hs1:St size most ((if t.Kids=[] then σ.1 else Xb σ.1 h b (Zhi t)),σ.2):=by
    split
    ·exact hs
    exact hs.put _ _ _
   have he1:Ex σ ((if t.Kids=[] then σ.1 else Xb σ.1 h b (Zhi t)),σ.2):=by
    split
    ·exact Ex.refl _
    exact Ex.put _ _ _ _
   have hs2:=St.words h ((fr t.Kids).1+(fr t.Kids).2) t.Kids (b+1) hs1
   obtain ⟨a,b'⟩:=Zmw hf h ((fr t.Kids).1+(fr t.Kids).2) (fr t.Kids).1 (by omega) w0 t.Kids (b+1) _ hs2
   refine ⟨fun τ e => ?_,fun s p v hb hne => ?_⟩
   ·obtain ⟨q1,q2⟩:=a τ e
    exact ⟨q1,(he1.trans (Ex.words _ _ _ _ _)).trans q2⟩
   rw [htag s p v hne,Zup s p v h _ t.Kids (b+1) _ (by omega) (fun q=>by have:=hne q;omega)]
   exact b' s p v (he1.trans (Ex.words _ _ _ _ _) _ _ _ hb) (fun q=>by have:=hne q;omega)
  | false =>
   simp only [Bool.false_eq_true,if_false]
   obtain ⟨a,b'⟩:=Zmn hf h ((fr t.Kids).1+(fr t.Kids).2) (fr t.Kids).1 (by omega) w0 t.Kids (b+1) (pt1 h b (Zhi t) σ) (hs.put _ _ _)
   refine ⟨fun τ e => ?_,fun s p v hb hne => ?_⟩
   ·obtain ⟨q1,q2⟩:=a τ e
    exact ⟨q1,(Ex.put _ _ _ _).trans q2⟩
   have e1:((Xb (pt1 s p v σ).1 h b (Zhi t),(pt1 s p v σ).2):SG)=pt1 s p v (pt1 h b (Zhi t) σ):=Zl3 σ _ _ (fun q=>by have:=hne q.1.symm;omega)
   rw [e1]
   exact b' s p v (Ex.put _ _ _ _ _ _ _ hb) (fun q=>by have:=hne q;omega)
 simp only [if_neg c1,if_neg c8,if_neg c9]
 refine ⟨fun τ e => ?_,fun s p v hb hne => ?_⟩
 ·have:=Option.some.inj e;subst this
  exact ⟨St.lays h _ hs b,Ex.lays _ _ _ _⟩
 exact congrArg some (Prod.ext (Zhe s p v h _ σ.1 b (fun q=>by have:=hne q.1;omega)) rfl)
theorem Zpt (o:Bool) (size most:Int):∀ d,Zp8 size most (Zgr o size d)
 | 0=>fun t s' p' σ hs=>⟨fun τ e=>by have:=Option.some.inj e;subst this;exact ⟨hs,Ex.refl _⟩,fun _ _ _ _ _=>rfl⟩
 | d+1=>fun t s' p' σ hs=>by
  have ih:=Zpt o size most d
  simp only [Zgr]
  by_cases c0:t.Kind=0
  ·simp only [if_pos c0]
   exact ⟨fun τ e=>by have:=Option.some.inj e;subst this;exact ⟨hs,Ex.refl _⟩,fun _ _ _ _ _=>rfl⟩
  simp only [if_neg c0]
  refine ⟨fun τ e => ?_,fun s p v hb hne => ?_⟩
  ·cases hg:Jy size σ (pwd t) with
   | none=>rw [hg] at e;cases e
   | some r =>
    rw [hg,Option.bind_some] at e
    have g:=Zdb hs hg
    cases ha:Zko size r.2.2 s' p' (pkd t) (pup t) r.1 r.2.1 with
    | none=>rw [ha] at e;cases e
    | some ρ =>
     rw [ha,Option.bind_some] at e
     have a:=Zuy g.2.2.2.2.1 ha
     have i:=(Zwy ih o r.1 r.2.1 t a.1).1 τ e
     exact ⟨i.1,g.2.2.2.2.2.1.trans (a.2.1.trans i.2)⟩
  rw [Zuj v hb]
  cases hg:Jy size σ (pwd t) with
  | none=>rfl
  | some r =>
   have g:=Zdb hs hg
   rw [Option.map_some,Option.bind_some,Option.bind_some]
   dsimp only
   rw [Z1c v g.2.2.2.2.1 (g.2.2.2.2.2.1 _ _ _ hb) hne]
   cases ha:Zko size r.2.2 s' p' (pkd t) (pup t) r.1 r.2.1 with
   | none=>rfl
   | some ρ =>
    have a:=Zuy g.2.2.2.2.1 ha
    rw [Option.map_some,Option.bind_some,Option.bind_some]
    exact (Zwy ih o r.1 r.2.1 t a.1).2 s p v (a.2.1 _ _ _ (g.2.2.2.2.2.1 _ _ _ hb)) (fun q=>g.2.2.2.2.2.2.2.2 p (by rw [← q];exact hb))
theorem Zzf {t:Tr} {d:Nat} (h:Fine t d) (h9:t.Kind=9):0≤(t.Kids.length:Int) * ((fr t.Kids).1+(fr t.Kids).2)∧(t.Kids.length:Int) * ((fr t.Kids).1+(fr t.Kids).2)≤26214000000∧(0≤(fr t.Kids).1∧(fr t.Kids).1≤65535∧0≤(fr t.Kids).2∧(fr t.Kids).2≤65535∧∀ x∈t.Kids,(x.Words.length:Int)≤(fr t.Kids).1∧(x.Kids.length:Int)≤(fr t.Kids).2):=by
 have p:=h.pt
 have pk:=Zd0 t
 exact (Z1p (l:=t.Kids) (by omega) (fun x hx=>by
  obtain ⟨r1,r2⟩:=(Zav h.rt (by omega) (by omega)).2.2.2 x hx
  have k1:=(Uf (by omega) r2).2 h9
  obtain ⟨a1,a2,_⟩:=Zav r1 (by omega) (by omega)
  have:=a2 k1
  omega)).2
theorem Zne {t:Tr} (h:t.Kind=1):pwd t=(t.Words.length:Int)+(t.Kids.length:Int):=by unfold pwd;rw [if_pos h]
theorem Zpa {t:Tr} (h:t.Kind=9):pwd t=1+(t.Kids.length:Int) * ((fr t.Kids).1+(fr t.Kids).2):=by unfold pwd;rw [if_neg (by omega),if_pos h]
theorem Zxh {t:Tr} (h:t.Kind=8):pwd t=(t.Kids.length:Int):=by unfold pwd;rw [if_neg (by omega),if_neg (by omega),if_pos h]
theorem Zzj {t:Tr} {d:Nat} (h:Fine t d) (h0:¬ t.Kind=0) (h10:¬ t.Kind=10):1≤t.Kind∧t.Kind≤9:=by
 have:=(Zi6 h.rt).1
 have:=(Zi6 h.rt).2.1
 have hr:=h.rt
 rw [Zgl,if_neg h0,if_neg h10] at hr
 by_cases hb:t.Kind < 0∨10 < t.Kind∨d=0∨65536≤t.Words.length∨(t.Kind=1∧65536≤t.Kids.length)∨1048576≤t.Kids.length∨(1 < t.Kind∧0 < t.Words.length)
 ·rw [if_pos hb] at hr;cases hr
 omega
structure Fr (X:Nat→Prop) (i j:Nat) (O:Objs) (n:Nat) (L:List NR) (O':Objs) (n':Nat) (L':List NR):Prop where
 le:n≤n'
 off:∀ u,u < n→¬ X u→¬ ter i j L u→O' u=O u
 ter:∀ u,ter i j L' u→ter i j L u∨n≤u
theorem Fr.refl (X:Nat→Prop) (i j:Nat) (O:Objs) (n:Nat) (L:List NR):Fr X i j O n L O n L:=⟨Nat.le_refl _,fun _ _ _ _=>rfl,fun _ h => .inl h⟩
theorem Fr.trans {X:Nat→Prop} {i j:Nat} {O O' O'':Objs} {n n' n'':Nat} {L L' L'':List NR} (h:Fr X i j O n L O' n' L') (h':Fr X i j O' n' L' O'' n'' L''):Fr X i j O n L O'' n'' L'' :=
 ⟨Nat.le_trans h.le h'.le,fun u a b c=>(h'.off u (Nat.lt_of_lt_of_le a h.le) b (fun q=>by rcases h.ter u q with q | q;exact c q;omega)).trans (h.off u a b c),fun u q=>by
  rcases h'.ter u q with q | q
  ·exact h.ter u q
  exact .inr (Nat.le_trans h.le q)⟩
theorem Fr.own {X:Nat→Prop} {i j:Nat} {O:Objs} {n:Nat} (L:List NR) (x:Option GObj):Fr X i j O n L (O.upd n x) (n+1) L:=⟨Nat.le_succ n,fun u a _ _=>Zr _ _ (by omega),fun _ h => .inl h⟩
theorem Fr.set {X:Nat→Prop} {i j a:Nat} {O:Objs} {n0 n:Nat} {L0 L:List NR} {O0:Objs} (h:Fr X i j O0 n0 L0 O n L) (x:Option GObj) (ha:n0≤a):Fr X i j O0 n0 L0 (O.upd a x) n L:=⟨h.le,fun u p q r=>by rw [Zr _ _ (by omega)];exact h.off u p q r,h.ter⟩
theorem Fr.keep {X:Nat→Prop} {i j:Nat} {O:Objs} {n:Nat} {L L':List NR} {O':Objs} {n':Nat} (h:Fr X i j O n L O' n' L') {u:Nat} (hu:u < n) (hx:¬ X u) (ht:¬ Go.Proofs.Ytaddaloondpnkaa.ter i j L u):O' u=O u∧u < n'∧¬ Go.Proofs.Ytaddaloondpnkaa.ter i j L' u:=⟨h.off u hu hx ht,Nat.lt_of_lt_of_le hu h.le,fun q=>by rcases h.ter u q with q | q;exact ht q;omega⟩
abbrev NoX:Nat→Prop:=fun _=>False
def AP (size:Int) (O:Objs) (n i j:Nat) (L:List NR) (σ:SG):Prop:=PX (HP j size σ.2) O n i j L∧L.map (·.2)=σ.1
def AR (size most:Int) (O:Objs) (n i j:Nat) (L:List NR) (σ:SG):Prop:=PX (HR j size most (most - σ.2)) O n i j L∧L.map (·.2)=σ.1
theorem AP.frame {size:Int} {O O':Objs} {n n' i j:Nat} {L:List NR} {σ:SG} (h:AP size O n i j L σ) (hO:∀ t,ter i j L t→O' t=O t) (hn:n≤n'):AP size O' n' i j L σ:=⟨h.1.frame hO hn,h.2⟩
theorem AR.frame {size most:Int} {O O':Objs} {n n' i j:Nat} {L:List NR} {σ:SG} (h:AR size most O n i j L σ) (hO:∀ t,ter i j L t→O' t=O t) (hn:n≤n'):AR size most O' n' i j L σ:=⟨h.1.frame hO hn,h.2⟩
theorem AP.own {size:Int} {O:Objs} {n i j:Nat} {L:List NR} {σ:SG} (h:AP size O n i j L σ) (x:Option GObj):AP size (O.upd n x) (n+1) i j L σ:=h.frame (fun t ht=>Zr _ _ (by have:=h.1.ter_lt ht;omega)) (Nat.le_succ n)
theorem AP.set {size:Int} {O:Objs} {n i j a:Nat} {L:List NR} {σ:SG} (h:AP size O n i j L σ) (x:Option GObj) (ha:¬ ter i j L a):AP size (O.upd a x) n i j L σ:=h.frame (fun t ht=>Zr _ _ (fun e=>ha (e ▸ ht))) (Nat.le_refl n)
theorem AR.own {size most:Int} {O:Objs} {n i j:Nat} {L:List NR} {σ:SG} (h:AR size most O n i j L σ) (x:Option GObj):AR size most (O.upd n x) (n+1) i j L σ:=h.frame (fun t ht=>Zr _ _ (by have:=h.1.ter_lt ht;omega)) (Nat.le_succ n)
theorem St.b1 {size most:Int} {σ:SG} {O:Objs} {n i j:Nat} {L:List NR} (hs:St size most σ) (h:L.map (·.2)=σ.1):L.length≤16∧(∀ x∈L,(x.2.length:Int)+σ.2≤131072)∧∀ x∈L,x.2.length≤1000000:=by
 have e:∀ x∈L,(x.2.length:Int)+σ.2≤131072:=fun x hx=>hs.hB _ (by rw [← h];exact List.mem_map.2 ⟨x,hx,rfl⟩)
 have:=hs.hl0
 refine ⟨by have:=hs.h16;rw [← h,List.length_map] at this;exact this,e,fun x hx=>by have:=e x hx;omega⟩
theorem Zpp {O:Objs} {n i j:Nat} {L:List NR} {size most k:Int} {σ:SG} (h:AP size O n i j L σ) (hs:St size most σ) (e:Jy size σ k=none) :
  ∃ a b O' n' L',GTo Try.prog 24 [.ref i 0,.val (.int .i64 k)] O n (.tup [.val (.int .i64 a),.val (.int .i64 b),.val (.bool false)]) O' n'∧Fr NoX i j O n L O' n' L':=by
 obtain ⟨b1,b2,b3⟩:=hs.b1 (O:=O) (n:=n) (i:=i) (j:=j) h.2
 have hl:σ.2≤131072:=by have:=hs.hm;have:=hs.hmm;omega
 obtain ⟨O',n',L',g1,g2,g3,g4,g5,g6⟩:=Zzh h.1 b1 hl b2 k
 rw [h.2] at g1
 have c:(X4 σ.1 size σ.2 k).2.2.1=false:=by
  unfold Jy at e
  cases c:(X4 σ.1 size σ.2 k).2.2.1 with
  | true=>rw [c] at e;cases e
  | false=>rfl
 rw [c] at g1
 exact ⟨_,_,O',n',L',g1,g2,fun u a _ b=>g6 u a b,g5⟩
theorem Zpq {O:Objs} {n i j:Nat} {L:List NR} {size most k:Int} {σ:SG} {r:Int×Int×SG} (h:AP size O n i j L σ) (hs:St size most σ) (e:Jy size σ k=some r) :
  ∃ O' n' L',GTo Try.prog 24 [.ref i 0,.val (.int .i64 k)] O n (.tup [.val (.int .i64 r.1),.val (.int .i64 r.2.1),.val (.bool true)]) O' n'∧AP size O' n' i j L' r.2.2∧Fr NoX i j O n L O' n' L':=by
 obtain ⟨b1,b2,b3⟩:=hs.b1 (O:=O) (n:=n) (i:=i) (j:=j) h.2
 have hl:σ.2≤131072:=by have:=hs.hm;have:=hs.hmm;omega
 obtain ⟨O',n',L',g1,g2,g3,g4,g5,g6⟩:=Zzh h.1 b1 hl b2 k
 obtain ⟨c,rfl⟩:=Zws e
 rw [h.2] at g1 g3 g4
 rw [c] at g1
 exact ⟨O',n',L',g1,⟨g3,g4⟩,g2,fun u a _ b=>g6 u a b,g5⟩
theorem Z3i {O:Objs} {n i j:Nat} {L:List NR} {size s:Int} {σ:SG} (h:AP size O n i j L σ) (e:inO size σ s=none) :
  GTo Try.prog 91 [.ref i 0,.val (.int .i64 s),.val (.int .i64 1)] O n (.tup [.val (.int .i64 0),.val (.bool false)]) O n:=by
 refine Z6q h.1.hi h.1.hj h.1.ho h.1.hoj h.1.hL ?_
 unfold inO at e
 rw [← h.2] at e
 cases hx:Zx L s with
 | none =>
  have:=Zd2 hx
  exact .inl (by omega)
 | some x =>
  rw [Zky hx] at e
  dsimp only at e
  split at e
  ·cases e
  rename_i c
  by_cases c2:σ.2 < 1
  ·exact .inr (.inr (.inl c2))
  exact .inr (.inr (.inr ⟨x,rfl,fun q=>c ⟨by omega,q⟩⟩))
theorem Z3j {O:Objs} {n i j:Nat} {L:List NR} {size most s:Int} {σ:SG} {r:Int×SG} (h:AP size O n i j L σ) (hs:St size most σ) (e:inO size σ s=some r) :
  ∃ O' L',GTo Try.prog 91 [.ref i 0,.val (.int .i64 s),.val (.int .i64 1)] O n (.tup [.val (.int .i64 r.1),.val (.bool true)]) O' n∧AP size O' n i j L' r.2∧Fr NoX i j O n L O' n L':=by
 obtain ⟨b1,b2,b3⟩:=hs.b1 (O:=O) (n:=n) (i:=i) (j:=j) h.2
 unfold inO at e
 rw [← h.2] at e
 cases hx:Zx L s with
 | none =>
  have:Zx (L.map (·.2)) s=none:=by
   have hl:=Zd2 hx
   cases q:Zx (L.map (·.2)) s with
   | none=>rfl
   | some y=>have:=Q1 q;rw [List.length_map] at this;omega
  rw [this] at e;cases e
 | some x =>
  rw [Zky hx] at e
  dsimp only at e
  split at e
  ·rename_i c
   have:=Option.some.inj e;subst this
   have hxm:=Y9 hx
   have bx:=b2 x hxm
   have g:=Z6p (k:=1) h.1.hi h.1.hj h.1.lt h.1.hij (h.1.ni x hxm) (h.1.nj x hxm) h.1.ho h.1.hoj h.1.hL hx (by omega) c.1 (by have:=hs.hl0;have:=hs.hm;have:=hs.hmm;omega) c.2
   rw [Ya] at g
   exact ⟨_,Z9 L s (x.1,zl x.2 1),g,⟨h.1.set hx _ _,Zsb _ _⟩,Nat.le_refl n,fun u _ _ q=>Zzv hx _ _ _ q,fun u q => .inl (Z0b hx _ q)⟩
  cases e
theorem Zyl {O:Objs} {n i j:Nat} {L:List NR} {size most:Int} {σ:SG} (h:AP size O n i j L σ) (hs:St size most σ) (s p:Int) (ws:List Int) (hp:0≤p∧p+(ws.length:Int)≤1000000) {K:G→Objs→Nat→Prop}
  (hk:∀ O' n' L',AP size O' n' i j L' (Xq σ.1 s p ws,σ.2)→Fr NoX i j O n L O' n' L'→K (.tup []) O' n') :
  GCalls Try.prog 89 [.agg [.ref i 0],.val (.int .i64 s),.val (.int .i64 p),.sl ws.length (fl (eI .u64) ws)] O n K:=by
 obtain ⟨b1,b2,b3⟩:=hs.b1 (O:=O) (n:=n) (i:=i) (j:=j) h.2
 refine (Z5o h.1 b3 s p ws hp).mono fun r O' n' ⟨e,g1,L',g2,g3,g4,g5,g6⟩ => ?_
 subst e
 rw [h.2] at g4
 exact hk O' n' L' ⟨g2,g4⟩ ⟨g1,fun u a _ b=>g5 u a b,fun u q => .inl (Zhj g3 q)⟩
def Z09 (size:Int) (i j:Nat) (O:Objs) (n:Nat) (L:List NR) (res:Option SG) (r:G) (O':Objs) (n':Nat):Prop :=
 ∃ L',Fr NoX i j O n L O' n' L'∧match res with
  | none=>r = .val (.bool false)
  | some τ=>r = .val (.bool true)∧AP size O' n' i j L' τ
theorem Z8d {off seg:Int} (dbl:Bool) (a:0≤off) (b:off < 536870912) (c:0≤seg) (d:seg < 4294967296) :
  X6 (⟨3,off,0,0,0,0,seg,dbl⟩:Zw)=some (fw seg off (if dbl=true then 1 else 0),true):=by
 have hd:Zgq (off.toNat * 8+2+(if dbl=true then 4 else 0)+seg.toNat * 4294967296)=⟨3,off,0,0,0,0,seg,dbl⟩:=by
  have e4:(if dbl=true then 4 else 0:Nat)=0∨(if dbl=true then 4 else 0:Nat)=4:=by cases dbl <;> simp
  generalize hq:(if dbl=true then 4 else 0:Nat)=q at e4 ⊢
  generalize hw:off.toNat * 8+2+q+seg.toNat * 4294967296=w
  have h1:¬ w=0:=by omega
  have h2:¬ w % 4=0:=by omega
  have h3:¬ w % 4=1:=by omega
  have h4:w % 4=2:=by omega
  unfold Zgq
  rw [if_neg h1,if_neg h2,if_neg h3,if_pos h4]
  simp only [Zw.mk.injEq,true_and,and_true]
  refine ⟨by omega,by omega,?_⟩
  cases dbl with
  | true=>simp at hq;subst hq;exact decide_eq_true (by omega)
  | false=>simp at hq;subst hq;exact decide_eq_false (by omega)
 have:=Zmo (off.toNat * 8+2+(if dbl=true then 4 else 0)+seg.toNat * 4294967296) (by split <;> omega) (by rw [hd];show ¬ (3:Int)=4;decide)
 rw [hd] at this
 rw [this]
 unfold fw
 cases dbl with
 | true=>simp only [if_true];congr 2;omega
 | false=>simp only [Bool.false_eq_true,if_false];congr 2;omega
theorem Z5y {off seg:Int} (dbl:Bool) (a:0≤off) (b:off < 536870912) (c:0≤seg) (d:seg < 4294967296):Vr (⟨3,off,0,0,0,0,seg,dbl⟩:Zw)=some (fw seg off (if dbl=true then 1 else 0)):=by
 unfold Vr;rw [Z8d dbl a b c d];rfl
def PtrOf (P:Zw) (k u:Int):Prop:=(∃ d p,P=⟨1,0,d,p,0,0,0,false⟩∧k=0∧u=d+65536 * p∧0≤d∧d < 65536∧0≤p∧p < 65536)∨(∃ c m,P=⟨2,0,0,0,c,m,0,false⟩∧k=1∧u=c+8 * m∧0≤c∧c < 8∧0≤m∧m < 536870912)
theorem PtrOf.bd {P:Zw} {k u:Int} (h:PtrOf P k u):0≤k∧k≤1∧0≤u∧u < 4294967296:=by
 rcases h with ⟨d,p,rfl,rfl,rfl,_⟩ | ⟨d,p,rfl,rfl,rfl,_⟩ <;> omega
theorem PtrOf.of {P:Zw} {k u off:Int} (h:PtrOf P k u) (a:-536870912≤off) (b:off < 536870912) (c:¬ (k=0∧u=0∧off=0)):Vr ⟨P.Kind,off,P.Data,P.Ptrs,P.Code,P.Count,P.Segment,P.Double⟩=some (off % 1073741824 * 4+k+u * 4294967296):=by
 unfold Vr
 rcases h with ⟨d,p,rfl,rfl,rfl,_⟩ | ⟨d,p,rfl,rfl,rfl,_⟩
 ·dsimp only
  rw [Z3d a b (by omega) (by omega) (by omega) (by omega) (by omega)]
  dsimp only [Option.bind_some]
  exact congrArg some (by omega)
 dsimp only
 rw [Z5i a b (by omega) (by omega) (by omega) (by omega)]
 dsimp only [Option.bind_some]
 exact congrArg some (by omega)
theorem PtrOf.null {P:Zw} {k u:Int} (h:PtrOf P k u):((P.Kind == 1) && ((P.Off == 0) && ((P.Data == 0) && ((P.Ptrs == 0) && ((P.Code == 0) && ((P.Count == 0) && ((P.Segment == 0) && !P.Double)))))))=decide (k=0∧u=0):=by
 rcases h with ⟨d,p,rfl,rfl,rfl,_⟩ | ⟨d,p,rfl,rfl,rfl,_⟩
 ·rw [Bool.eq_iff_iff];simp only [Bool.and_eq_true,beq_iff_eq,decide_eq_true_eq,Bool.not_false,true_and,and_true];omega
 rw [Bool.eq_iff_iff];simp
theorem PtrOf.of0 {P:Zw} {k u:Int} (h:PtrOf P k u) (c:¬ (k=0∧u=0)):Vr P=some (k+u * 4294967296):=by
 have:=h.of (off:=0) (by decide) (by decide) (fun q=>c ⟨q.1,q.2.1⟩)
 have e:(⟨P.Kind,0,P.Data,P.Ptrs,P.Code,P.Count,P.Segment,P.Double⟩:Zw)=P:=by
  rcases h with ⟨d,p,rfl,_⟩ | ⟨d,p,rfl,_⟩ <;> rfl
 rw [e] at this
 rw [this]
 exact congrArg some (by omega)
theorem Z2q {t:Tr} {d:Nat} (hF:Fine t d) (h0:¬ t.Kind=0) (h10:¬ t.Kind=10):∃ P,Zc7 t=some P∧Yz P=some (pwd t,true)∧(pwd t≤131072→PtrOf P (pkd t) (pup t)):=by
 have kd:=Zzj hF h0 h10
 have p:=hF.pt
 have pk:=Zd0 t
 obtain ⟨i1,i2,i3,i4⟩:=Zav hF.rt h0 h10
 unfold Zc7
 by_cases c1:t.Kind=1
 ·rw [Uk c1,cond_true]
  refine ⟨_,rfl,?_,fun _ => .inl ⟨(t.Words.length:Int),(t.Kids.length:Int),rfl,?_,?_,by omega,by omega,by omega,by have:=i2 c1;omega⟩⟩
  ·unfold Yz
   simp only
   rw [Uk (a:=1) (b:=1) rfl,cond_true,Zne c1,Yv (by omega) (by omega)]
  ·unfold pkd;rw [if_pos c1]
  unfold pup;rw [if_pos c1]
 rw [Vq c1,cond_false]
 have ek:pkd t=1:=by unfold pkd;rw [if_neg c1]
 by_cases c9:t.Kind=9
 ·obtain ⟨a1,a2,w0,w1,k0,k1,ak⟩:=Zzf hF c9
  rw [Uk c9,cond_true,Zkx (by omega),Option.bind_some,Yv (x:=(fr t.Kids).1+(fr t.Kids).2) (by omega) (by omega),Yv (x:=(t.Kids.length:Int) * _) (by omega) (by omega)]
  refine ⟨_,rfl,?_,fun hp => .inr ⟨7,(t.Kids.length:Int) * ((fr t.Kids).1+(fr t.Kids).2),rfl,ek,?_,by omega,by omega,a1,by rw [Zpa c9] at hp;omega⟩⟩
  ·unfold Yz
   simp only
   rw [Vq (a:=2) (b:=1) (by decide),cond_false,Uk (a:=2) (b:=2) rfl,cond_true,Uk (a:=7) (b:=7) rfl,cond_true,Zpa c9,Yv (by omega) (by omega),Int.add_comm]
  unfold pup;rw [if_neg c1,if_pos c9]
 rw [Vq c9,cond_false,Yv (x:=t.Kind - 2) (by omega) (by omega)]
 refine ⟨_,rfl,?_,fun hp => .inr ⟨t.Kind - 2,(t.Kids.length:Int),rfl,ek,?_,by omega,by omega,by omega,by omega⟩⟩
 ·rw [Z2g (by omega) (by omega)]
  unfold pwd rmL
  rw [if_neg c1,if_neg c9]
  by_cases c8:t.Kind=8
  ·rw [if_pos (by omega),if_pos c8]
  rw [if_neg (by omega),if_neg c8]
  have:=(Zpk (c:=t.Kind - 2) (ns:=ato t) (by omega) (by rw [Zdz];omega) (fun n hn=>by
   obtain ⟨k,hk,rfl⟩:=List.mem_map.1 hn
   obtain ⟨w,hw,q0,_,q1⟩:=Zr1 (by omega) (hF.bd.all k hk) (hF.kid hk).rt (i4 k hk).2
   rw [hw];exact ⟨q0,q1⟩)).2
  rw [this,Zdz]
 unfold pup;rw [if_neg c1,if_neg c9]
theorem Zwc {t:Tr} {d:Nat} (hF:Fine t d) (h:2≤t.Kind∧t.Kind≤7):∀ k∈t.Kids,∃ w,k.Words=[w]∧0≤w∧w < 18446744073709551616∧Zbj (t.Kind - 2) w=true:=fun k hk =>
 Zr1 h (hF.bd.all k hk) (hF.kid hk).rt ((Zav hF.rt (by omega) (by omega)).2.2.2 k hk).2
theorem Zwf {t:Tr} {d:Nat} (hF:Fine t d) (hk:2≤t.Kind∧t.Kind≤7):G3 t=some (Ze9 (t.Kind - 2) (ato t)):=by
 have p:=hF.pt
 have pk:=Zd0 t
 have ha:=Zwc hF hk
 have l0:=Zrt t.Kids (fun k=>k.Words.headD 0) (J0 t) [] (by omega) (fun i x out hi hx hm ho=>by
  obtain ⟨w,hw,_⟩:=ha x hm
  have e:Vn x 0=some w:=by
   unfold Vn
   rw [hw]
   rfl
  unfold J0
  simp only [List.length_nil] at ho ⊢
  rw [Zds hi,cond_true,Yu hx,Option.bind_some,e,Option.bind_some,Zdy (by simp only [List.length_singleton];omega) (by simp only [List.length_singleton];omega),Option.bind_some,hw]
  rfl) (fun out=>by
  unfold J0
  simp only
  rw [Zdf,cond_false])
 unfold G3
 rw [l0,Option.bind_some,Yv (by omega) (by omega)]
 have:Ux (t.Kind - 2) (ato t)=some (Ze9 (t.Kind - 2) (ato t),true):=(Zpk (by omega) (by rw [Zdz];omega) (fun n hn=>by
  obtain ⟨k,hk,rfl⟩:=List.mem_map.1 hn
  obtain ⟨w,hw,h0,_,h1⟩:=ha k hk
  rw [hw]
  exact ⟨h0,h1⟩)).1
 unfold ato at this
 rw [List.nil_append,this]
 rfl
end Go.Proofs.Ytaddaloondpnkaa
