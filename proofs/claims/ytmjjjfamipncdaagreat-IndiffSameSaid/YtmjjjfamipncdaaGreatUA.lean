/- Part UA; each theorem bears its own conditions. -/
import Derived.Test.YtmjjjfamipncdaaGreatUM1
namespace Go.Proofs.YtmjjjfamipncdaaGreat
open Go.RowKit
set_option linter.unusedVariables false
set_option linter.unusedSimpArgs false
set_option maxRecDepth 100000
set_option maxHeartbeats 4000000
attribute [local push_cast] Xu Yx Zn J3 Zx Yk Zi Zh Ze Xn Zbs Zab Znd Zi8 Zd4 Zd8 Zd3 Zd7 Zg8 Zg3 Zd6 Zg7 Zg6 Zg5 Zd5 Zg2 Zcw evS wok Q0 Op.operands Call.operands gop atK List.all_cons List.all_nil Bool.and_true Bool.and_self Value.oneCell' List.take_zero List.take_succ_cons List.append_nil Nat.add_zero Nat.zero_add K7 Yc ev Qy Znt Zkf Zke Zkk Zki Zkj Zkg Zkh Zkd Zow Zp7 Ztp Zel Gt Zek Zam Zdx Zcn Za9 Zch Zcd Zbc Zcg Zcf Zce Zbb Zcc Zba Zbd Zaa Zh8 Zcm Uc Zdp Ud Zfr Zej Zsk bLo bHi bMx Gu Zfq Zu7 Zeh Zgc Zbu K0 Zo2 Zu8 Zdo Zbr Zu9 Gs Zx6 Zgi Zgm Zgh Zgl Zk2 Zky Zkx Zd1 Zgj Zk1 Zk0 Zkz Zgk Zkt Zkw Zks Zkv Zqh Zqe Zqd Zku Zqf Zqg Zfs Zmz pop TK.isAgg Zk5 Zk9 Zk4 Zk8 Zgr Zqr Zqn Zk7 Zqq Zqp Zqo Zk6 Zqm G.under G.unders List.set_cons_zero List.set_cons_succ List.map_cons List.map_nil List.toList_toArray Option.toArray_none Option.toArray_some Option.map_some Option.map_none Option.bind_some Option.bind_none List.getElem?_cons_zero List.getElem?_cons_succ List.getElem?_nil List.nil_append List.cons_append List.replicate_succ List.replicate_zero List.length_cons List.length_nil IntKind.bits ite_true ite_false eq_self or_true true_or not_false_eq_true decide_false decide_eq_true_eq ne_eq cond_true cond_false Uz Zbm Option.join_some Int.toNat_natCast eI eL Zde Zko Zkm Zkn Zyu Z01 Zlh Zle Zlf Zub Ziz Zr5 Ziw Zoo List.length_append G.agg.injEq G.tup.injEq List.flatten_cons List.flatten_nil Nat.le_refl Vh Zoa Znl G.ren G.rens Zqu Zkb Zkc Option.join_none Yj Kz undef Zge Arr.put_eq Zcq Zld Zlb Zlc onB Zyt Zov Zd2 Zgw Zgv Zgu Zgt Z00 Z0z Zve Zso Vm Zt2 Zm0 Zpo Zpn Zyy Znn Zfp Zga Zca Zc3 Z6t Zrq Z1r Zrr Z6u Zrs Z1s Zrt Z6v Zru Z6w Zrv Z6x Zrw Z6y Zrx Zwh Zlr Zwi Zls Zwj Zlt Zwk Zlu Zwl Zlv Zwm Zlw Zwn Zlx Zwo Zly Zwp Zlz Zwq Zl0 Zwr Zl1 Zws Zl2 Zwt Zl3 Zwu Zl4 Uv Zcz Zsh Zir Zwv Zl5 Zdb Zl6 Zww Zl7 Zwx Zl8 Zwy Zl9 Zwz Zma Zw0 Zmb Zw1 Zmc Zw2 Zis Zw3 Zmd Zw4 Zme Ug Zmf Zw5 Zmg Zw6 Zmh Zw7 Zmi Zuq Zmj Zw8 Zmk Zw9 Zml Zxa Zmm Zxb Zmn Zxc Zmo Zxd Zmp Zxe Zmq Zxf Zmr Zxg Zms Zxh Zmt Zxi Zmu Zxj Zmv Zxk Zmw Zq0 Zha Zoe Zhb Zq1 Zhc Zq2 Zhd Zq3 Zhe Zq4 Zhf Zq5 Zhg Zq6 Zhh Zq7 Zhi Zq8 Zhj Zq9 Zhk Zra Zhl Zrb Zhm Zrc Zhn Zrd Zho Zre Zhp Zrf Zhq Zrg Zhr Zrh Zhs Zri Zht Zrj Zhu Zrk Zhv Zrl Zhw Zjy Zhx Zrm Zhy Zrn Zhz Zro Zh0 Zrp Zh1 Zfh G4 Zr Zz Q1 Zy Yu Jn
abbrev NR:=Nat×List Int
def eN (x:NR):List G:=[.row x.1 x.2.length]
theorem Zqc (xs:List NR):(fl eN xs).length=xs.length * 1:=Vo (f:=eN) (k:=1) (fun _=>rfl) xs
theorem Zj2 {k:Nat}:∀ (xs:List NR),(∀ x∈xs,x.1 < k)→G.unders k (fl eN xs)=true
 | [],_=>by simp [fl,G.unders]
 | x::xs,h=>by
  have h1:=h x (by simp)
  have h2:=Zj2 xs (fun y hy=>h y (by simp [hy]))
  show (G.under k (.row x.1 x.2.length) && G.unders k (fl eN xs))=true
  rw [h2,Bool.and_true]
  simpa [G.under] using h1
theorem Und.set {X:Objs} {n i:Nat} (hU:Und X n) {q:GObj} (hi:i < n) (hq:G.unders n q.cells=true):Und (X.upd i (some q)) n:=by
 refine ⟨fun k hk => ?_,fun k o ho => ?_⟩
 ·rw [Yb _ _ (by omega)];exact hU.fresh k hk
 by_cases e:k=i
 ·subst e;rw [Yj] at ho;injection ho with ho;subst ho;exact hq
 rw [Yb _ _ e] at ho;exact hU.und k o ho
theorem Yz {P:Program} {T:J0} {X:Objs} {E:Env} {n n' ba:Nat} {r:G} {rs:List ResultVar} {e:Exit} (he:e = .normal∨e = .ret) (hU:Und X n) (gs:List G) (hb:ba≤n') (h:Zfs T X E rs=some gs∧wk X X n (Zmz gs) r):Fin T rs r ba X n e E X n':=by
 have:=Zl (l:=[]) (n':=n') he hU gs hb (by rw [Jw hU.fresh];exact h)
 rwa [Jw hU.fresh] at this
theorem less_self {O:Objs} {n:Nat} (hU:Und O n):LessO O O n:=⟨hU.fresh,fun i o ho=>⟨o,ho,rfl,rfl,rfl,rfl,Uw _ (hU.und i o ho)⟩⟩
theorem Ky {O:Objs} {n:Nat} {E E':Env} (hU:Und O n) (hn:E'.n=E.n) (h:Zoo O O n E.l E'.l):Fit2 n E O n E' O n:=Fit2.of ⟨hn,less_self hU,h⟩ (Nat.le_refl _)
theorem Kc {O:Objs} {n ba:Nat} {E E':Env} (hU:Und O n) (hb:ba≤n) (hn:E'.n=E.n) (h:Zoo O O n E.l E'.l):Fit2 ba E O n E' O n:=Fit2.of ⟨hn,less_self hU,h⟩ hb
theorem Zyh {O O':Objs} {n:Nat} (hU:Und O' n) (h:∀ t o,O' t=some o→O t=some o):LessO O O' n:=⟨hU.fresh,fun i o ho=>⟨o,h i o ho,rfl,rfl,rfl,rfl,Uw _ (hU.und i o ho)⟩⟩
theorem Und.more {O:Objs} {n n':Nat} (hU:Und O n) (h:n≤n'):Und O n':=⟨fun i hi=>hU.fresh i (by omega),fun i o ho=>V8 h _ (hU.und i o ho)⟩
theorem Zsx (L:List NR) (x:NR):fl eN L++eN x=fl eN (L++[x]):=by unfold fl;simp
theorem Zuw {n:Nat}:∀ (a b:List G),G.unders n a=true→G.unders n b=true→G.unders n (a++b)=true
 | [],b,_,h=>h
 | x::a,b,h,k=>by
  simp only [List.cons_append,G.unders,Bool.and_eq_true] at h ⊢
  exact ⟨h.1,Zuw a b h.2 k⟩
def zl (s:List Int) (k:Int):List Int:=s++List.replicate k.toNat 0
theorem Z3m (s:List Int) {k:Int}:(zl s k).length=s.length+k.toNat:=by simp [zl]
theorem Z60 {O:Objs} {n i j:Nat} {a b b0 c d e f:Option GObj} (hin:i≠n) (hjn:j≠n) (hij:i≠j):(((((((O.upd j e).upd i f).upd n d).upd j b0).upd n a).upd j b).upd i c)=((O.upd n a).upd j b).upd i c:=by
 funext t
 unfold Objs.upd
 by_cases h1:t=i
 ·rw [if_pos h1,if_pos h1]
 by_cases h2:t=j
 ·simp only [if_neg h1,if_pos h2]
 by_cases h3:t=n
 ·simp only [if_neg h1,if_neg h2,if_pos h3]
 simp only [if_neg h1,if_neg h2,if_neg h3]
def Zvn:List Oper→List Nat→List Nat
 | [],acc=>acc
 | o::l,acc=>Zvn l (acc++[(o.after.toList.filter fun e=>Region.binds .any e).foldr (fun e m=>m ||| (1 <<< e.on ||| acc.getD e.on 0)) 0])
def Z03 (ops:List Oper):Bool :=
 let B:=Zvn ops []
 (List.range ops.length).all fun i=>match ops[i]? with
  | none=>true
  | some o=>(o.after.toList.all fun e => !Region.binds .any e || e.on < i) &&
   (List.range i).all fun j=>match ops[j]? with
    | none=>true
    | some y=>Zfd ops o y || (B.getD i 0).testBit j
theorem Z5o (acc:List (List Nat)) (am:List Nat) (h:∀ i j,(am.getD i 0).testBit j=(acc.getD i []).contains j) (L:List Edge) (j:Nat) :
  (L.foldr (fun e m=>m ||| (1 <<< e.on ||| am.getD e.on 0)) 0).testBit j=(L.flatMap fun e=>e.on::acc.getD e.on []).contains j:=by
 induction L with
 | nil=>simp
 | cons e L ih =>
  rw [List.foldr_cons,List.flatMap_cons,Nat.testBit_or,Nat.testBit_or,ih,h,Nat.one_shiftLeft,Nat.testBit_two_pow,Bool.eq_iff_iff]
  simp only [Bool.or_eq_true,decide_eq_true_eq,List.contains_iff_mem,List.cons_append,List.mem_cons,List.mem_append]
  constructor
  ·rintro (h | h | h)
   ·exact .inr (.inr h)
   ·exact .inl h.symm
   exact .inr (.inl h)
  rintro (h | h | h)
  ·exact .inr (.inl h.symm)
  ·exact .inr (.inr h)
  exact .inl h
theorem Zzs:∀ (l:List Oper) (acc:List (List Nat)) (am:List Nat),am.length=acc.length→(∀ i j,(am.getD i 0).testBit j=(acc.getD i []).contains j)→∀ i j,((Zvn l am).getD i 0).testBit j=((G5 l acc).getD i []).contains j
 | [],acc,am,_,h,i,j=>by simpa [G5,Zvn] using h i j
 | o::l,acc,am,hl,h,i,j=>by
  rw [G5,Zvn]
  refine Zzs l _ _ (by simp [hl]) (fun i j => ?_) i j
  rcases Nat.lt_trichotomy i acc.length with hi | hi | hi
  ·have h1:=h i j
   simp only [List.getD_eq_getElem?_getD] at h1 ⊢
   rw [List.getElem?_append_left (by omega),List.getElem?_append_left hi];exact h1
  ·subst hi
   simp only [List.getD_eq_getElem?_getD,List.getElem?_append_right (Nat.le_refl _),Nat.sub_self,← hl]
   have:=Z5o acc am h (o.after.toList.filter fun e=>Region.binds .any e) j
   simpa [List.getD_eq_getElem?_getD,hl] using this
  simp only [List.getD_eq_getElem?_getD]
  rw [List.getElem?_eq_none (by simp;omega),List.getElem?_eq_none (by simp;omega)];simp
theorem Jl {ops:List Oper} (h:Z03 ops=true):Zpk ops=true:=by
 have key:∀ i j,((Zvn ops []).getD i 0).testBit j=((G5 ops []).getD i []).contains j:=Zzs ops [] [] rfl (fun i j=>by simp)
 unfold Z03 at h
 unfold Zpk
 simp only [key] at h
 exact h
def Q3 (segs:List (List Int)):List Int:=(segs[segs.length - 1]?).getD []
open Classical in
noncomputable def Xf (segs:List (List Int)) (size left k:Int):Int×Int×Bool×List (List Int)×Int :=
 if k < 0∨left < k then (0,0,false,segs,left)
 else if segs.length=0∨segs.length < 16∧¬ k≤IntKind.i64.wrap (size - ((Q3 segs).length:Int)) then ((segs.length:Int),0,true,segs++[zl [] k],IntKind.i64.wrap (left - k))
 else ((segs.length:Int) - 1,((Q3 segs).length:Int),true,segs.set (segs.length - 1) (zl (Q3 segs) k),IntKind.i64.wrap (left - k))
attribute [local push_cast] List.drop_succ_cons List.drop_nil Zc0 Array.toList_append and_true true_and Bool.true_eq_false Bool.false_eq_true forall_const implies_true or_false decide_true beq_self_eq_true Option.some.injEq exists_eq_left' ge_iff_le gt_iff_lt Bool.not_true Z7p Zcl Zbe Int.le_refl Zr0 Zrz Zlk Zli Zih Zff Zlj
theorem Q2 {α:Type} {L:List α} {s:Int} {x y:α} (h:Z5 L s=some x):Z5 (Xs L s y) s=some y:=by
 unfold Z5 Xs at *
 split at h
 ·rename_i c
  obtain ⟨hl,_⟩:=List.getElem?_eq_some_iff.1 h
  rw [if_pos c,List.getElem?_set_self hl]
 cases h
theorem Zqy {α:Type} {L:List α} {s:Int} {x:α} (h:Z5 L s=some x):Xs L s x=L:=by
 unfold Z5 Xs at *
 split at h
 ·obtain ⟨hl,he⟩:=List.getElem?_eq_some_iff.1 h
  rw [← he];exact List.set_getElem_self hl
 cases h
theorem Z6q {α:Type} (L:List α) (s:Int) (x y:α):Xs (Xs L s x) s y=Xs L s y:=by simp [Xs]
theorem Z5g (s:List Int):zl s 0=s:=by simp [zl]
theorem Yck (s:List Int) {t:Int} (h:0≤t):zl s t++[0]=zl s (t+1):=by
 unfold zl
 rw [show (t+1).toNat=t.toNat+1 by omega,List.replicate_succ',List.append_assoc]
noncomputable def Yat (k t:Int):Option (Int ⊕ Int):=if t < 0 then none else if t < k then some (.inl (t+1)) else some (.inr t)
theorem Z7f {k:Int} (h:0≤k):Z6 (Yat k) 0=some k:=by
 obtain ⟨r,h1,h2⟩:=Zin (step:=Yat k) (fun t=>0≤t∧t≤k) (fun t=>(k - t).toNat) (fun r=>r=k) (fun t ht=>by
  unfold Yat
  by_cases c:t < k
  ·exact .inl ⟨_,(if_neg (by omega)).trans (if_pos c),⟨by omega,by omega⟩,by omega⟩
  exact .inr ⟨_,(if_neg (by omega)).trans (if_neg c),by omega⟩) 0 ⟨Int.le_refl _,h⟩
 rw [h1,h2]
theorem Z19 {O:Objs} {n i j:Nat} {L:List NR} {size most used s k:Int} {x:NR} (hi:i < n) (hj:j < n) (hν:∀ y∈L,y.1 < n) (hij:i≠j) (hiν:i≠x.1) (hjν:j≠x.1)
  (ho:O i=some ⟨false,69,4,1,[.row j L.length,.val (.int .i64 size),.val (.int .i64 most),.val (.int .i64 used)]⟩) (hoj:O j=some ⟨true,26,1,L.length,fl eN L⟩) (hx:Z5 L s=some x)
  (hox:O x.1=some ⟨true,49,1,x.2.length,fl (eI .u64) x.2⟩) (hk:0≤k) (hb:(x.2.length:Int)+k≤1000000) :
  GTo Tryz.prog 58 [.ref i 0,.val (.int .i64 s),.val (.int .i64 k)] O n (.val (.int .i64 (x.2.length:Int)))
   (((O.upd x.1 (some ⟨true,49,1,(zl x.2 k).length,fl (eI .u64) (zl x.2 k)⟩)).upd j (some ⟨true,26,1,L.length,fl eN (Xs L s (x.1,zl x.2 k))⟩)).upd i (some ⟨false,69,4,1,[.row j L.length,.val (.int .i64 size),.val (.int .i64 most),.val (.int .i64 (IntKind.i64.wrap (used+k)))]⟩)) n:=by
 refine Ye Zc Tryz.call58 Tryz.func58 rfl (Nat.le_of_ble_eq_true rfl) (by omega) fun hU => ?_
 have hxm:x∈L:=by
  unfold Z5 at hx
  split at hx
  ·exact List.mem_of_getElem? hx
  cases hx
 have hx1:=hν x hxm
 have hN0:O n=none:=hU.fresh _ (Nat.le_refl _)
 have hN:∀ k,O (n+k)=none:=fun k=>hU.fresh _ (Nat.le_add_right _ _)
 have hlr:∀ i k,Kf O (.row i k)=True:=fun i k=>by simp [Kf]
 show W _ _ _ _ ⟨47,[],[(0,.ref i 0),(1,.val (.int .i64 s)),(2,.val (.int .i64 k))]⟩ (Z3 O n []) _
 rw [Jw hU.fresh]
 refine Zk [0,1,2] (Zb Zc [] ?_)
 simp only [push_cast,seval,Za,hi,hN0,hN]
 obtain ⟨x2,hx2,ax2,bx2,cx2,h⟩:=bE (f:=eN) (K:=fun y=>some y) (r:=x) Uv (fun _=>rfl) (by decide) (by rw [hx];rfl)
 obtain rfl:x2=x:=Option.some.inj (hx2.symm.trans hx)
 have hE:(eN x2)[0]? = some (.row x2.1 x2.2.length):=rfl
 refine Zk [0,1,2,7] (Zb Zc [] ?_)
 simp only [push_cast,Nat.reduceAdd,Nat.reduceSub,Nat.reduceMul,Nat.reduceLeDiff,Nat.reduceLT,Nat.reduceEqDiff,↓reduceIte,reduceCtorEq,Int.reduceBEq,Int.reduceBNe,Nat.reduceBEq,Int.reduceLE,Int.reduceLT,Int.reduceEq,Int.reduceNe,Int.reduceNeg,Nat.reduceDiv,Nat.reduceMod,Nat.reducePow,Za,ax2,bx2,cx2,hi,hN0,hN,ho,hoj,hj,Zqc,hE,Kf,hox,hx1]
 refine Zf ?_
 refine Zk [0,1,2,7,8] (Zb Zc [] ?_)
 simp only [push_cast,seval,Za,hi,hN0,hN]
 obtain ⟨OX,hOX⟩:∃ OX:Int→Objs,OX=fun t=>(O.upd x2.1 (some ⟨true,49,1,(zl x2.2 t).length,fl (eI .u64) (zl x2.2 t)⟩)).upd j (some ⟨true,26,1,L.length,fl eN (Xs L s (x2.1,zl x2.2 t))⟩):=⟨_,rfl⟩
 have hlS:∀ t,(Xs L s (x2.1,zl x2.2 t)).length=L.length:=fun t=>by simp [Xs]
 have gS:∀ t,Z5 (Xs L s (x2.1,zl x2.2 t)) s=some (x2.1,zl x2.2 t):=fun t=>Q2 hx
 have hOi:∀ t,OX t i=some ⟨false,69,4,1,[.row j L.length,.val (.int .i64 size),.val (.int .i64 most),.val (.int .i64 used)]⟩:=fun t=>by rw [hOX];exact (Yb _ _ hij).trans ((Yb _ _ hiν).trans ho)
 have hOj:∀ t,OX t j=some ⟨true,26,1,L.length,fl eN (Xs L s (x2.1,zl x2.2 t))⟩:=fun t=>by rw [hOX];exact Yj _ _ _
 have hOx:∀ t,OX t x2.1=some ⟨true,49,1,(zl x2.2 t).length,fl (eI .u64) (zl x2.2 t)⟩:=fun t=>by rw [hOX];exact (Yb _ _ (Ne.symm hjν)).trans (Yj _ _ _)
 have hUX:∀ t,Und (OX t) n:=fun t=>by
  rw [hOX]
  exact (hU.set hx1 (G4 _)).set hj (Zj2 _ fun y hy=>by
   rcases List.mem_or_eq_of_mem_set hy with h | h
   ·exact hν y h
   subst h;exact hx1)
 have h0:OX 0=O:=by
  have e1:Xs L s (x2.1,x2.2)=L:=Zqy hx
  rw [hOX]
  funext t
  show ((O.upd _ _).upd j _) t=O t
  unfold Objs.upd
  by_cases c1:t=j
  ·rw [if_pos c1,Z5g,e1,c1,hoj]
  rw [if_neg c1]
  by_cases c2:t=x2.1
  ·rw [if_pos c2,Z5g,c2,hox]
  rw [if_neg c2]
 have h2:∀ {E c Q},W Tryz.prog n c Q E (OX 0) n→W Tryz.prog n c Q E O n:=fun h=>by rw [h0] at h;exact h
 refine h2 ?_
 refine Xx (E':=⟨47,[],[(0,.ref i 0),(1,.val (.int .i64 s)),(2,.val (.int .i64 k)),(7,.val (.int .i64 (x2.2.length:Int)))]⟩) (O':=OX k) (n0:=n) ?_ ?_
 ·refine Qt (Z7f hk) (fun t=>⟨47,[],[(0,.ref i 0),(1,.val (.int .i64 s)),(2,.val (.int .i64 k)),(7,.val (.int .i64 (x2.2.length:Int))),(8,.val (.int .i64 t))]⟩) OX (fun r=>JX 0 n ⟨47,[],[(0,.ref i 0),(1,.val (.int .i64 s)),(2,.val (.int .i64 k)),(7,.val (.int .i64 (x2.2.length:Int)))]⟩ (OX r) n) ?_
  intro t x0_ hs0_
  unfold Yat at hs0_
  have ht0:0≤t:=by
   by_cases c:t < 0
   ·rw [if_pos c] at hs0_;cases hs0_
   omega
  rw [if_neg (by omega)] at hs0_
  refine Zf ?_
  refine Zk [0,1,2,7,8,19] (Zb Zc [] ?_)
  simp only [push_cast,seval,Za,hi]
  refine Zo (t:=(decide (t < k))) rfl (fun c8 => ?_) (fun c8 => ?_)
  ·have c8':t < k:=of_decide_eq_true c8
   rw [if_pos c8'] at hs0_
   have hs0_:=Option.some.inj hs0_;subst hs0_
   refine Zt ?_
   try simp only [Zh,Ze]
   refine Zh5 (E':=⟨47,[],[(0,.ref i 0),(1,.val (.int .i64 s)),(2,.val (.int .i64 k)),(7,.val (.int .i64 (x2.2.length:Int))),(8,.val (.int .i64 t))]⟩) (Ky (hUX t) rfl ?_) ?_
   ·simp only [push_cast,seval,Za,hi]
   refine Zf ?_
   refine Yo ?_
   obtain ⟨L',hL'⟩:∃ L',L'=Xs L s (x2.1,zl x2.2 t):=⟨_,rfl⟩
   have hj':=hOj t
   have hi':=hOi t
   have hx':=hOx t
   rw [← hL'] at hj'
   have hl':L'.length=L.length:=by rw [hL'];exact hlS t
   have hg':Z5 L' s=some (x2.1,zl x2.2 t):=by rw [hL'];exact gS t
   obtain ⟨x3,hx3,ax3,bx3,cx3,_⟩:=bE (f:=eN) (K:=fun y=>some y) (r:=(x2.1,zl x2.2 t)) Uv (fun _=>rfl) (by decide) (by rw [hg'];rfl)
   obtain rfl:x3=(x2.1,zl x2.2 t):=Option.some.inj (hx3.symm.trans hg')
   have hE3:(eN (x2.1,zl x2.2 t))[0]? = some (.row x2.1 (zl x2.2 t).length):=rfl
   have bx4:s < (L.length:Int):=by rw [← hl'];exact bx3
   have hlr3:∀ i k,Kf (OX t) (.row i k)=True:=fun i k=>by simp [Kf]
   have hlen:(fl eN L').length=L.length:=by rw [Zqc,Nat.mul_one,hl']
   have gu:Uj (fl eN L') [.row x2.1 (zl x2.2 (t+1)).length] (Int.toNat s * 1)=some (fl eN (Xs L' s (x2.1,zl x2.2 (t+1)))):=Zgd (f:=eN) (ti:=⟨.bool,1,0,[],false⟩) (x:=(x2.1,zl x2.2 (t+1))) (fun _=>rfl) (Zbt hg')
   have hMN:(OX t) n=none:=(hUX t).fresh _ (Nat.le_refl _)
   refine Zbo Zc (by kernel_rfl) [.plain,.low,.low,.low,.plain,.plain,.low,.low,.low,.plain,.low,.low,.pass,.pass,.plain,.bar] (fun t=>t=i∨t=j) [0,1,2,3,4,5,6,7,8,9,10,11,12,13,14,15] [.plain,.low,.low,.low,.plain,.plain,.low,.low,.low,.plain,.low,.low,.pass,.pass,.plain,.bar] [] (by kernel_rfl) rfl ?_
   simp only [push_cast,Nat.reduceAdd,Nat.reduceSub,Nat.reduceMul,Nat.reduceLeDiff,Nat.reduceLT,Nat.reduceEqDiff,↓reduceIte,reduceCtorEq,Int.reduceBEq,Int.reduceBNe,Nat.reduceBEq,Int.reduceLE,Int.reduceLT,Int.reduceEq,Int.reduceNe,Int.reduceNeg,Nat.reduceDiv,Nat.reduceMod,Nat.reducePow,Za,ax3,bx3,bx4,cx3,hi,hi',hj',hx',hj,hlen,hE3,hlr3,hx1,gu,hMN,true_or,or_true]
   have hnx:n≠x2.1:=by omega
   have hm:∀ o,(OX t).upd n o x2.1=some ⟨true,49,1,(zl x2.2 t).length,fl (eI .u64) (zl x2.2 t)⟩:=fun o=>(Yb _ _ (Ne.symm hnx)).trans hx'
   have hmj:∀ o o',((OX t).upd n o).upd x2.1 o' j=some ⟨true,26,1,L.length,fl eN L'⟩:=fun o o'=>(Yb _ _ hjν).trans ((Yb _ _ (by omega)).trans hj')
   have hlz:(zl x2.2 t).length+1=(zl x2.2 (t+1)).length:=by rw [Z3m,Z3m];omega
   have hfz:fl (eI .u64) (zl x2.2 t)++[G.val (.int .u64 0)]=fl (eI .u64) (zl x2.2 (t+1)):=by rw [← Yck _ ht0];unfold fl;rw [List.map_append,List.flatten_append];rfl
   have hk1:(zl x2.2 (t+1)).length≤1000000:=by rw [Z3m];omega
   refine And.intro (fun u hu=>Yb _ _ (by rcases hu with rfl | rfl <;> omega)) ?_
   simp only [hm,push_cast,seval,hlz,hfz]
   refine And.intro ⟨by omega,by omega⟩ (And.intro (fun u hu=>Yb _ _ (by rcases hu with rfl | rfl <;> assumption)) (And.intro ⟨_,hmj _ _,rfl,rfl⟩ ?_))
   simp only [hmj,hlen,gu,push_cast,seval]
   refine Zb Zc [] ?_
   have hw1:IntKind.i64.wrap (t+1)=t+1:=Vv (by omega)
   simp only [push_cast,seval,Za,hw1]
   refine And.intro rfl (Fit2.of ⟨rfl,Zyh (hUX _) fun u o hu => ?_,?_⟩ (Nat.le_refl _))
   ·have e1:Xs L' s (x2.1,zl x2.2 (t+1))=Xs L s (x2.1,zl x2.2 (t+1)):=by rw [hL',Z6q]
    rw [e1]
    by_cases c1:u=j
    ·subst c1;rw [Yj];rw [hOj] at hu;exact hu
    rw [Yb _ _ c1]
    by_cases c2:u=x2.1
    ·subst c2;rw [Yj];rw [hOx] at hu;exact hu
    rw [Yb _ _ c2]
    by_cases c3:u=n
    ·subst c3;rw [(hUX (t+1)).fresh _ (Nat.le_refl _)] at hu;cases hu
    rw [Yb _ _ c3,hOX]
    rw [hOX] at hu
    dsimp only at hu ⊢
    rw [Yb _ _ c1,Yb _ _ c2] at hu ⊢
    exact hu
   simp only [push_cast,seval,Za,hi]
  have c8':¬ t < k:=of_decide_eq_false c8
  rw [if_neg c8'] at hs0_
  refine Q7 ?_
  try simp only [Zh,Ze,↓reduceIte,Nat.reduceEqDiff]
  have hs0_:=Option.some.inj hs0_;subst hs0_
  refine And.intro (fun h=>by cases h) (And.intro rfl (Ky (hUX _) rfl ?_))
  simp only [push_cast,seval,Za,hi]
 try simp only [Zh,Ze,↓reduceIte,Nat.reduceEqDiff]
 have hki:=hOi k
 refine Zk [0,1,2,7] (Zb Zc [] ?_)
 simp only [push_cast,seval,Za,hi,hki]
 refine Zk [6] (Zb Zc [] ?_)
 simp only [push_cast,seval,Za]
 refine Zu ?_
 subst hOX
 refine Yz (P:=Tryz.prog) (.inr rfl) (((hU.set hx1 (G4 _)).set hj (Zj2 _ fun y hy => ?_)).set hi ?_) [.val (.int .i64 (x2.2.length:Int))] (Nat.le_refl _) ?_
 ·rcases List.mem_or_eq_of_mem_set hy with h | h
  ·exact hν y h
  subst h;exact hx1
 ·simp [G.unders,G.under,hj]
 simp only [push_cast,seval,Za,Tryz.results58]
def Zje (L:List NR) (s:Int):Int:=match Z5 L s with | some x=>(x.2.length:Int) | none=>-1
theorem Zep {L:List NR} {s:Int} {x:NR} (h:Z5 L s=some x):Zje L s=(x.2.length:Int):=by unfold Zje;rw [h]
theorem Z0o {L:List NR} {s:Int} (h:Z5 L s=none):Zje L s=-1:=by unfold Zje;rw [h]
theorem Zgb {α:Type} {L:List α} {s:Int} (h:Z5 L s=none):s < 0∨(L.length:Int)≤s:=by
 unfold Z5 at h
 split at h
 ·have:=List.getElem?_eq_none_iff.1 h;omega
 omega
theorem Xe {α:Type} {L:List α} {s:Int} {x:α} (h:Z5 L s=some x):x∈L:=by
 unfold Z5 at h
 split at h
 ·exact List.mem_of_getElem? h
 cases h
theorem Q4 {α:Type} {L:List α} {s:Int} {x:α} (h:Z5 L s=some x):0≤s∧s < (L.length:Int):=by
 unfold Z5 at h
 split at h
 ·obtain ⟨hl,_⟩:=List.getElem?_eq_some_iff.1 h;omega
 cases h
theorem Zcy {O:Objs} {n i j:Nat} {L:List NR} {size most used s:Int} (hi:i < n) (hj:j < n)
  (ho:O i=some ⟨false,69,4,1,[.row j L.length,.val (.int .i64 size),.val (.int .i64 most),.val (.int .i64 used)]⟩) (hoj:O j=some ⟨true,26,1,L.length,fl eN L⟩) :
  GTo Tryz.prog 57 [.ref i 0,.val (.int .i64 s)] O n (.val (.int .i64 (Zje L s))) O n:=by
 refine Ye Zc Tryz.call57 Tryz.func57 rfl (Nat.le_of_ble_eq_true rfl) (by omega) fun hU => ?_
 have hlr:∀ i k,Kf O (.row i k)=True:=fun i k=>by simp [Kf]
 show W _ _ _ _ ⟨24,[],[(0,.ref i 0),(1,.val (.int .i64 s))]⟩ (Z3 O n []) _
 rw [Jw hU.fresh]
 refine Zk [0,1] (Zb Zc [] ?_)
 simp only [push_cast,seval,Za,hi]
 refine Zf ?_
 cases hx:Z5 L s with
 | none =>
  rw [Z0o hx]
  refine Yr (E':=⟨24,[],[(0,.ref i 0),(1,.val (.int .i64 s)),(15,.val (.bool true))]⟩) (O':=O) (n0:=n) ?_ ?_
  ·by_cases c:s < 0
   ·have c2:decide (s < 0)=true:=decide_eq_true c
    refine Zb Zc (Z80 []) ?_
    simp only [push_cast,seval,Za,hi,hj,ho,hoj,hlr,c2]
    refine And.intro rfl (Ky hU rfl ?_)
    simp only [push_cast,seval,Za,hi,hj,ho,hoj,hlr]
   have c2:decide (s < 0)=false:=decide_eq_false c
   have c3:decide ((L.length:Int)≤s)=true:=decide_eq_true ((Zgb hx).resolve_left c)
   refine Zb Zc (Yet []) ?_
   simp only [push_cast,seval,Za,hi,hj,ho,hoj,hlr,c2,c3]
   refine And.intro rfl (Ky hU rfl ?_)
   simp only [push_cast,seval,Za,hi,hj,ho,hoj,hlr]
  refine Zo (t:=true) rfl (fun Vn => ?_) (fun Vn=>by cases Vn)
  refine Zk [4] (Zb Zc [] ?_)
  simp only [push_cast,seval,Za]
  refine Zu ?_
  try simp only [Zh,Ze]
  refine Yz (P:=Tryz.prog) (.inr rfl) hU [.val (.int .i64 (-1))] (Nat.le_refl _) ?_
  simp only [push_cast,seval,Za,Tryz.results57]
 | some x =>
  rw [Zep hx]
  have hlt:=Q4 hx
  have c2:decide (s < 0)=false:=decide_eq_false (by omega)
  have c3:decide ((L.length:Int)≤s)=false:=decide_eq_false (by omega)
  refine Yr (E':=⟨24,[],[(0,.ref i 0),(1,.val (.int .i64 s)),(15,.val (.bool false))]⟩) (O':=O) (n0:=n) ?_ ?_
  ·refine Zb Zc (Yet []) ?_
   simp only [push_cast,seval,Za,hi,hj,ho,hoj,hlr,c2,c3]
   refine And.intro rfl (Ky hU rfl ?_)
   simp only [push_cast,seval,Za,hi,hj,ho,hoj,hlr]
  refine Zo (t:=false) rfl (fun Vn=>by cases Vn) (fun Vn => ?_)
  refine Zt ?_
  try simp only [Zh,Ze]
  obtain ⟨x2,hx2,ax2,bx2,cx2,h⟩:=bE (f:=eN) (K:=fun y=>some y) (r:=x) Uv (fun _=>rfl) (by decide) (by rw [hx];rfl)
  obtain rfl:x2=x:=Option.some.inj (hx2.symm.trans hx)
  have hE:(eN x2)[0]? = some (.row x2.1 x2.2.length):=rfl
  refine Zk [4] (Zb Zc [] ?_)
  simp only [push_cast,Nat.reduceAdd,Nat.reduceSub,Nat.reduceMul,Nat.reduceLeDiff,Nat.reduceLT,Nat.reduceEqDiff,↓reduceIte,reduceCtorEq,Int.reduceBEq,Int.reduceBNe,Nat.reduceBEq,Int.reduceLE,Int.reduceLT,Int.reduceEq,Int.reduceNe,Int.reduceNeg,Nat.reduceDiv,Nat.reduceMod,Nat.reducePow,Za,ax2,bx2,cx2,hi,ho,hoj,hj,hE,hlr]
  refine Zu ?_
  try simp only [Zh,Ze]
  refine Yz (P:=Tryz.prog) (.inr rfl) hU [.val (.int .i64 (x2.2.length:Int))] (Nat.le_refl _) ?_
  simp only [push_cast,seval,Za,Tryz.results57]
attribute [local push_cast] List.take_nil Zlg Zjq
theorem Z6i {O:Objs} {n i j:Nat} {L:List NR} {size most used s k:Int} (hi:i < n) (hj:j < n)
  (ho:O i=some ⟨false,69,4,1,[.row j L.length,.val (.int .i64 size),.val (.int .i64 most),.val (.int .i64 used)]⟩) (hoj:O j=some ⟨true,26,1,L.length,fl eN L⟩)
  (hc:Zje L s < 0∨k < 0∨IntKind.i64.wrap (most - used) < k∨IntKind.i64.wrap (size - Zje L s) < k) :
  GTo Tryz.prog 60 [.ref i 0,.val (.int .i64 s),.val (.int .i64 k)] O n (.val (.int .i64 (-1))) O n:=by
 refine Ye Zc Tryz.call60 Tryz.func60 rfl (Nat.le_of_ble_eq_true rfl) (by omega) fun hU => ?_
 have hlr:∀ i k,Kf O (.row i k)=True:=fun i k=>by simp [Kf]
 show W _ _ _ _ ⟨44,[],[(0,.ref i 0),(1,.val (.int .i64 s)),(2,.val (.int .i64 k))]⟩ (Z3 O n []) _
 rw [Jw hU.fresh]
 refine Zk [0,1,2] (Zb Zc [] ?_)
 simp only [push_cast,seval,Za,hi]
 refine Zf ?_
 refine Yr (E':=⟨44,[],[(0,.ref i 0),(1,.val (.int .i64 s)),(2,.val (.int .i64 k)),(39,.val (.bool true))]⟩) (O':=O) (n0:=n) ?_ ?_
 ·by_cases c1:Zje L s < 0
  ·have d1:decide (Zje L s < 0)=true:=decide_eq_true c1
   refine Y8 Zc (by kernel_rfl) (Yfq []) (Jl (by kernel_rfl)) ?_
   simp only [push_cast,seval,Za,hi,hj,ho,hoj,hlr,d1]
   refine PCall.of (Zcy hi hj ho hoj) ?_
   simp only [push_cast,seval,Za,hi,hj,ho,hoj,hlr,d1]
   refine And.intro rfl (Ky hU rfl ?_)
   simp only [push_cast,seval,Za,hi,hj,ho,hoj,hlr]
  have d1:decide (Zje L s < 0)=false:=decide_eq_false c1
  by_cases c2:k < 0
  ·have d2:decide (k < 0)=true:=decide_eq_true c2
   refine Y8 Zc (by kernel_rfl) (Qc::Qc::Yfp []) (Jl (by kernel_rfl)) ?_
   simp only [push_cast,seval,Za,hi,hj,ho,hoj,hlr,d1,d2]
   refine PCall.of (Zcy hi hj ho hoj) ?_
   simp only [push_cast,seval,Za,hi,hj,ho,hoj,hlr,d1,d2]
   refine And.intro rfl (Ky hU rfl ?_)
   simp only [push_cast,seval,Za,hi,hj,ho,hoj,hlr]
  have d2:decide (k < 0)=false:=decide_eq_false c2
  by_cases c3:IntKind.i64.wrap (most - used) < k
  ·have d3:decide (IntKind.i64.wrap (most - used) < k)=true:=decide_eq_true c3
   refine Y8 Zc (by kernel_rfl) (Yfr (Yfn [])) (Jl (by kernel_rfl)) ?_
   simp only [push_cast,seval,Za,hi,hj,ho,hoj,hlr,d1,d2,d3]
   refine PCall.of (Zcy hi hj ho hoj) ?_
   simp only [push_cast,seval,Za,hi,hj,ho,hoj,hlr,d1,d2,d3]
   refine And.intro rfl (Ky hU rfl ?_)
   simp only [push_cast,seval,Za,hi,hj,ho,hoj,hlr]
  have d3:decide (IntKind.i64.wrap (most - used) < k)=false:=decide_eq_false c3
  have d4:decide (IntKind.i64.wrap (size - Zje L s) < k)=true:=decide_eq_true (((hc.resolve_left c1).resolve_left c2).resolve_left c3)
  refine Y8 Zc (by kernel_rfl) (Yc3 []) (Jl (by kernel_rfl)) ?_
  simp only [push_cast,seval,Za,hi,hj,ho,hoj,hlr,d1,d2,d3,d4]
  refine PCall.of (Zcy hi hj ho hoj) ?_
  simp only [push_cast,seval,Za,hi,hj,ho,hoj,hlr,d1,d2,d3,d4]
  refine PCall.of (Zcy hi hj ho hoj) ?_
  simp only [push_cast,seval,Za,hi,hj,ho,hoj,hlr,d1,d2,d3,d4]
  refine And.intro rfl (Ky hU rfl ?_)
  simp only [push_cast,seval,Za,hi,hj,ho,hoj,hlr]
 refine Zo (t:=true) rfl (fun Vn => ?_) (fun Vn=>by cases Vn)
 refine Zk [6] (Zb Zc [] ?_)
 simp only [push_cast,seval,Za]
 refine Zu ?_
 try simp only [Zh,Ze]
 refine Yz (P:=Tryz.prog) (.inr rfl) hU [.val (.int .i64 (-1))] (Nat.le_refl _) ?_
 simp only [push_cast,seval,Za,Tryz.results60]
theorem Z6h {O:Objs} {n i j:Nat} {L:List NR} {size most used s k:Int} {x:NR} (hi:i < n) (hj:j < n) (hν:∀ y∈L,y.1 < n) (hij:i≠j) (hiν:i≠x.1) (hjν:j≠x.1)
  (ho:O i=some ⟨false,69,4,1,[.row j L.length,.val (.int .i64 size),.val (.int .i64 most),.val (.int .i64 used)]⟩) (hoj:O j=some ⟨true,26,1,L.length,fl eN L⟩) (hx:Z5 L s=some x)
  (hox:O x.1=some ⟨true,49,1,x.2.length,fl (eI .u64) x.2⟩) (hk:0≤k) (hb:(x.2.length:Int)+k≤1000000) (hc1:k≤IntKind.i64.wrap (most - used)) (hc2:k≤IntKind.i64.wrap (size - (x.2.length:Int))) :
  GTo Tryz.prog 60 [.ref i 0,.val (.int .i64 s),.val (.int .i64 k)] O n (.val (.int .i64 (x.2.length:Int)))
   (((O.upd x.1 (some ⟨true,49,1,(zl x.2 k).length,fl (eI .u64) (zl x.2 k)⟩)).upd j (some ⟨true,26,1,L.length,fl eN (Xs L s (x.1,zl x.2 k))⟩)).upd i (some ⟨false,69,4,1,[.row j L.length,.val (.int .i64 size),.val (.int .i64 most),.val (.int .i64 (IntKind.i64.wrap (used+k)))]⟩)) n:=by
 refine Ye Zc Tryz.call60 Tryz.func60 rfl (Nat.le_of_ble_eq_true rfl) (by omega) fun hU => ?_
 have hlr:∀ i k,Kf O (.row i k)=True:=fun i k=>by simp [Kf]
 have hx1:=hν x (Xe hx)
 show W _ _ _ _ ⟨44,[],[(0,.ref i 0),(1,.val (.int .i64 s)),(2,.val (.int .i64 k))]⟩ (Z3 O n []) _
 rw [Jw hU.fresh]
 refine Zk [0,1,2] (Zb Zc [] ?_)
 simp only [push_cast,seval,Za,hi]
 refine Zf ?_
 refine Yr (E':=⟨44,[],[(0,.ref i 0),(1,.val (.int .i64 s)),(2,.val (.int .i64 k)),(39,.val (.bool false))]⟩) (O':=O) (n0:=n) ?_ ?_
 ·have d1:decide ((x.2.length:Int) < 0)=false:=decide_eq_false (by omega)
  have d2:decide (k < 0)=false:=decide_eq_false (by omega)
  have d3:decide (IntKind.i64.wrap (most - used) < k)=false:=decide_eq_false (by omega)
  have d4:decide (IntKind.i64.wrap (size - (x.2.length:Int)) < k)=false:=decide_eq_false (by omega)
  refine Y8 Zc (by kernel_rfl) (Yc3 []) (Jl (by kernel_rfl)) ?_
  simp only [push_cast,seval,Za,hi,hj,ho,hoj,hlr,d1,d2,d3,d4]
  refine PCall.of (Zcy hi hj ho hoj) ?_
  rw [Zep hx]
  simp only [push_cast,seval,Za,hi,hj,ho,hoj,hlr,d1,d2,d3,d4]
  refine PCall.of (Zcy hi hj ho hoj) ?_
  rw [Zep hx]
  simp only [push_cast,seval,Za,hi,hj,ho,hoj,hlr,d1,d2,d3,d4]
  refine And.intro rfl (Ky hU rfl ?_)
  simp only [push_cast,seval,Za,hi,hj,ho,hoj,hlr]
 refine Zo (t:=false) rfl (fun Vn=>by cases Vn) (fun Vn => ?_)
 refine Zt ?_
 try simp only [Zh,Ze]
 refine Zf ?_
 refine Zb Zc [] ?_
 simp only [push_cast,seval,Za,hi,hj,ho,hoj,hlr]
 refine (Z19 hi hj hν hij hiν hjν ho hoj hx hox hk hb).then ?_
 simp only [push_cast,seval,Za]
 refine Zu ?_
 try simp only [Zh,Ze]
 refine Yz (P:=Tryz.prog) (.inr rfl) (((hU.set hx1 (G4 _)).set hj (Zj2 _ fun y hy => ?_)).set hi ?_) [.val (.int .i64 (x.2.length:Int))] (Nat.le_refl _) ?_
 ·rcases List.mem_or_eq_of_mem_set hy with h | h
  ·exact hν y h
  subst h;exact hx1
 ·simp [G.unders,G.under,hj]
 simp only [push_cast,seval,Za,Tryz.results60]
attribute [local push_cast] beq_eq_false_iff_ne Z7q Zmx Zdc Zuz
theorem Z1d {O:Objs} {n i j:Nat} {L:List NR} {size most used k:Int} (hi:i < n) (hj:j < n)
  (ho:O i=some ⟨false,69,4,1,[.row j L.length,.val (.int .i64 size),.val (.int .i64 most),.val (.int .i64 used)]⟩) (hoj:O j=some ⟨true,26,1,L.length,fl eN L⟩)
  (hc:k < 0∨IntKind.i64.wrap (most - used) < k) :
  GTo Tryz.prog 32 [.ref i 0,.val (.int .i64 k)] O n (.tup [.val (.int .i64 (-1)),.val (.int .i64 (-1))]) O n:=by
 refine Ye Zc Tryz.call32 Tryz.func32 rfl (Nat.le_of_ble_eq_true rfl) (by omega) fun hU => ?_
 have hlr:∀ i k,Kf O (.row i k)=True:=fun i k=>by simp [Kf]
 have hN0:O n=none:=hU.fresh _ (Nat.le_refl _)
 have hN:∀ k,O (n+k)=none:=fun k=>hU.fresh _ (Nat.le_add_right _ _)
 show W _ _ _ _ ⟨64,[],[(0,.ref i 0),(1,.val (.int .i64 k))]⟩ (Z3 O n []) _
 rw [Jw hU.fresh]
 refine Zk [0,1] (Zb Zc [] ?_)
 simp only [push_cast,seval,Za,hi]
 refine Zf ?_
 refine Yr (E':=⟨64,[],[(0,.ref i 0),(1,.val (.int .i64 k)),(21,.val (.bool true))]⟩) (O':=O) (n0:=n) ?_ ?_
 ·by_cases c1:k < 0
  ·have d1:decide (k < 0)=true:=decide_eq_true c1
   refine Y8 Zc (by kernel_rfl) (Yc1 []) (Jl (by kernel_rfl)) ?_
   simp only [push_cast,seval,Za,hi,hj,ho,hoj,hlr,d1]
   refine And.intro rfl (Ky hU rfl ?_)
   simp only [push_cast,seval,Za,hi,hj,ho,hoj,hlr]
  have d1:decide (k < 0)=false:=decide_eq_false c1
  have d2:decide (IntKind.i64.wrap (most - used) < k)=true:=decide_eq_true (hc.resolve_left c1)
  refine Y8 Zc (by kernel_rfl) (Z82 []) (Jl (by kernel_rfl)) ?_
  simp only [push_cast,seval,Za,hi,hj,ho,hoj,hlr,d1,d2]
  refine And.intro rfl (Ky hU rfl ?_)
  simp only [push_cast,seval,Za,hi,hj,ho,hoj,hlr]
 refine Zo (t:=true) rfl (fun Vn => ?_) (fun Vn=>by cases Vn)
 refine Zk [4,5] (Zb Zc [] ?_)
 simp only [push_cast,seval,Za]
 refine Zu ?_
 try simp only [Zh,Ze]
 refine Yz (P:=Tryz.prog) (.inr rfl) hU [.val (.int .i64 (-1)),.val (.int .i64 (-1))] (Nat.le_refl _) ?_
 simp only [push_cast,seval,Za,Tryz.results32]
theorem Z1c {O:Objs} {n i j:Nat} {L:List NR} {size most used k:Int} {x:NR} (hi:i < n) (hj:j < n) (hν:∀ y∈L,y.1 < n) (hij:i≠j) (hiν:i≠x.1) (hjν:j≠x.1)
  (ho:O i=some ⟨false,69,4,1,[.row j L.length,.val (.int .i64 size),.val (.int .i64 most),.val (.int .i64 used)]⟩) (hoj:O j=some ⟨true,26,1,L.length,fl eN L⟩) (hx:Z5 L ((L.length:Int) - 1)=some x)
  (hox:O x.1=some ⟨true,49,1,x.2.length,fl (eI .u64) x.2⟩) (hk:0≤k) (hk2:k≤IntKind.i64.wrap (most - used)) (hb:(x.2.length:Int)+k≤1000000) (hL:L.length≤1000000)
  (hf:k≤IntKind.i64.wrap (size - (x.2.length:Int))∨16≤L.length) :
  GTo Tryz.prog 32 [.ref i 0,.val (.int .i64 k)] O n (.tup [.val (.int .i64 ((L.length:Int) - 1)),.val (.int .i64 (x.2.length:Int))])
   (((O.upd x.1 (some ⟨true,49,1,(zl x.2 k).length,fl (eI .u64) (zl x.2 k)⟩)).upd j (some ⟨true,26,1,L.length,fl eN (Xs L ((L.length:Int) - 1) (x.1,zl x.2 k))⟩)).upd i (some ⟨false,69,4,1,[.row j L.length,.val (.int .i64 size),.val (.int .i64 most),.val (.int .i64 (IntKind.i64.wrap (used+k)))]⟩)) n:=by
 have hx1:=hν x (Xe hx)
 have h0:0 < L.length:=List.length_pos_of_mem (Xe hx)
 refine Ye Zc Tryz.call32 Tryz.func32 rfl (Nat.le_of_ble_eq_true rfl) (by omega) fun hU => ?_
 have hlr:∀ i k,Kf O (.row i k)=True:=fun i k=>by simp [Kf]
 have hN0:O n=none:=hU.fresh _ (Nat.le_refl _)
 have hN:∀ k,O (n+k)=none:=fun k=>hU.fresh _ (Nat.le_add_right _ _)
 show W _ _ _ _ ⟨64,[],[(0,.ref i 0),(1,.val (.int .i64 k))]⟩ (Z3 O n []) _
 rw [Jw hU.fresh]
 refine Zk [0,1] (Zb Zc [] ?_)
 simp only [push_cast,seval,Za,hi]
 refine Zf ?_
 refine Yr (E':=⟨64,[],[(0,.ref i 0),(1,.val (.int .i64 k)),(21,.val (.bool false))]⟩) (O':=O) (n0:=n) ?_ ?_
 ·have d1:decide (k < 0)=false:=decide_eq_false (by omega)
  have d2:decide (IntKind.i64.wrap (most - used) < k)=false:=decide_eq_false (by omega)
  refine Y8 Zc (by kernel_rfl) (Z82 []) (Jl (by kernel_rfl)) ?_
  simp only [push_cast,seval,Za,hi,hj,ho,hoj,hlr,d1,d2]
  refine And.intro rfl (Ky hU rfl ?_)
  simp only [push_cast,seval,Za,hi,hj,ho,hoj,hlr]
 refine Zo (t:=false) rfl (fun Vn=>by cases Vn) (fun Vn => ?_)
 refine Zt ?_
 try simp only [Zh,Ze]
 have hw:IntKind.i64.wrap ((L.length:Int) - 1)=(L.length:Int) - 1:=Vv (by omega)
 refine Zk [0,1,6] (Zb Zc [] ?_)
 simp only [push_cast,seval,Za,hi,hj,ho,hoj,hlr]
 refine Yr (E':=⟨64,[],[(0,.ref i 0),(1,.val (.int .i64 k)),(6,.val (.int .i64 (L.length:Int)))]⟩) (O':=O) (n0:=n) ?_ ?_
 ·have c8:decide ((L.length:Int)=0)=false:=decide_eq_false (by omega)
  have c8b:((L.length:Int) == 0)=false:=by rw [beq_eq_false_iff_ne];omega
  refine Yr (E':=⟨64,[],[(0,.ref i 0),(1,.val (.int .i64 k)),(6,.val (.int .i64 (L.length:Int))),(45,.val (.bool false))]⟩) (O':=O) (n0:=n) ?_ ?_
  ·by_cases c:k≤IntKind.i64.wrap (size - (x.2.length:Int))
   ·have c9:decide (IntKind.i64.wrap (size - (x.2.length:Int)) < k)=false:=decide_eq_false (by omega)
    refine Y8 Zc (by kernel_rfl) (Z4i (X3::X3::[Qc])) (Jl (by kernel_rfl)) ?_
    simp only [push_cast,seval,Za,hi,hj,ho,hoj,hlr,hw,c8,c8b,c9]
    refine PCall.of (Zcy hi hj ho hoj) ?_
    rw [Zep hx]
    simp only [push_cast,seval,Za,hi,hj,ho,hoj,hlr,hw,c8,c8b,c9]
    refine And.intro rfl (Ky hU rfl ?_)
    simp only [push_cast,seval,Za,hi,hj,ho,hoj,hlr]
   have c9:decide (IntKind.i64.wrap (size - (x.2.length:Int)) < k)=true:=decide_eq_true (by omega)
   have Gi:decide ((L.length:Int) < 16)=false:=decide_eq_false (by have:=hf.resolve_left c;omega)
   refine Y8 Zc (by kernel_rfl) (Yc2 []) (Jl (by kernel_rfl)) ?_
   simp only [push_cast,seval,Za,hi,hj,ho,hoj,hlr,hw,c8,c8b,c9,Gi]
   refine PCall.of (Zcy hi hj ho hoj) ?_
   rw [Zep hx]
   simp only [push_cast,seval,Za,hi,hj,ho,hoj,hlr,hw,c8,c8b,c9,Gi]
   refine And.intro rfl (Ky hU rfl ?_)
   simp only [push_cast,seval,Za,hi,hj,ho,hoj,hlr]
  refine Zo (t:=false) rfl (fun Vn=>by cases Vn) (fun Vn => ?_)
  refine Zt ?_
  refine And.intro rfl (Ky hU rfl ?_)
  simp only [push_cast,seval,Za,hi,hj,ho,hoj,hlr]
 refine Zf ?_
 refine Zb Zc [] ?_
 simp only [push_cast,seval,Za,hi,hj,ho,hoj,hlr,hw]
 refine (Z19 hi hj hν hij hiν hjν ho hoj hx hox hk hb).then ?_
 simp only [push_cast,seval,Za]
 refine Zu ?_
 try simp only [Zh,Ze]
 refine Yz (P:=Tryz.prog) (.inr rfl) (((hU.set hx1 (G4 _)).set hj (Zj2 _ fun y hy => ?_)).set hi ?_) [.val (.int .i64 ((L.length:Int) - 1)),.val (.int .i64 (x.2.length:Int))] (Nat.le_refl _) ?_
 ·rcases List.mem_or_eq_of_mem_set hy with h | h
  ·exact hν y h
  subst h;exact hx1
 ·simp [G.unders,G.under,hj]
 simp only [push_cast,seval,Za,Tryz.results32]
attribute [local push_cast] List.drop_zero beq_iff_eq Zdu
theorem Zy5 {O:Objs} {n i j:Nat} {L:List NR} {size most used k:Int} (hi:i < n) (hj:j < n) (hν:∀ y∈L,y.1 < n) (hij:i≠j)
  (ho:O i=some ⟨false,69,4,1,[.row j L.length,.val (.int .i64 size),.val (.int .i64 most),.val (.int .i64 used)]⟩) (hoj:O j=some ⟨true,26,1,L.length,fl eN L⟩) (hk:0≤k) (hk2:k≤IntKind.i64.wrap (most - used)) (hb:k≤1000000) (hL:L.length≤1000000)
  (hf:L.length=0∨L.length < 16∧∃ x,Z5 L ((L.length:Int) - 1)=some x∧¬ k≤IntKind.i64.wrap (size - (x.2.length:Int))) :
  GTo Tryz.prog 32 [.ref i 0,.val (.int .i64 k)] O n (.tup [.val (.int .i64 (L.length:Int)),.val (.int .i64 0)])
   (((O.upd n (some ⟨true,49,1,(zl [] k).length,fl (eI .u64) (zl [] k)⟩)).upd j (some ⟨true,26,1,L.length+1,fl eN (L++[(n,zl [] k)])⟩)).upd i (some ⟨false,69,4,1,[.row j (L.length+1),.val (.int .i64 size),.val (.int .i64 most),.val (.int .i64 (IntKind.i64.wrap (used+k)))]⟩)) (n+1):=by
 refine Ye Zc Tryz.call32 Tryz.func32 rfl (Nat.le_of_ble_eq_true rfl) (by omega) fun hU => ?_
 have hlr:∀ i k,Kf O (.row i k)=True:=fun i k=>by simp [Kf]
 have hN0:O n=none:=hU.fresh _ (Nat.le_refl _)
 have hN:∀ k,O (n+k)=none:=fun k=>hU.fresh _ (Nat.le_add_right _ _)
 show W _ _ _ _ ⟨64,[],[(0,.ref i 0),(1,.val (.int .i64 k))]⟩ (Z3 O n []) _
 rw [Jw hU.fresh]
 refine Zk [0,1] (Zb Zc [] ?_)
 simp only [push_cast,seval,Za,hi]
 refine Zf ?_
 refine Yr (E':=⟨64,[],[(0,.ref i 0),(1,.val (.int .i64 k)),(21,.val (.bool false))]⟩) (O':=O) (n0:=n) ?_ ?_
 ·have d1:decide (k < 0)=false:=decide_eq_false (by omega)
  have d2:decide (IntKind.i64.wrap (most - used) < k)=false:=decide_eq_false (by omega)
  refine Y8 Zc (by kernel_rfl) (Z82 []) (Jl (by kernel_rfl)) ?_
  simp only [push_cast,seval,Za,hi,hj,ho,hoj,hlr,d1,d2]
  refine And.intro rfl (Ky hU rfl ?_)
  simp only [push_cast,seval,Za,hi,hj,ho,hoj,hlr]
 refine Zo (t:=false) rfl (fun Vn=>by cases Vn) (fun Vn => ?_)
 refine Zt ?_
 try simp only [Zh,Ze]
 have hw:IntKind.i64.wrap ((L.length:Int) - 1)=(L.length:Int) - 1:=Vv (by omega)
 refine Zk [0,1,6] (Zb Zc [] ?_)
 simp only [push_cast,seval,Za,hi,hj,ho,hoj,hlr]
 refine Yr (E':=⟨64,[],[(0,.ref i 0),(1,.val (.int .i64 k)),(6,.val (.int .i64 ((L.length:Int)+1)))]⟩) (O':=(((O.upd j (some ⟨true,26,1,L.length+1,fl eN L++[.val (.slice none 0 0)]⟩)).upd i (some ⟨false,69,4,1,[.row j (L.length+1),.val (.int .i64 size),.val (.int .i64 most),.val (.int .i64 used)]⟩)).upd n (some ⟨true,49,1,0,[]⟩)).upd j (some ⟨true,26,1,L.length+1,fl eN (L++[(n,[])])⟩)) (n0:=n+1) ?_ ?_
 ·refine Yr (E':=⟨64,[],[(0,.ref i 0),(1,.val (.int .i64 k)),(6,.val (.int .i64 (L.length:Int))),(45,.val (.bool true))]⟩) (O':=O) (n0:=n) ?_ ?_
  ·by_cases c:L.length=0
   ·have c8:decide ((L.length:Int)=0)=true:=decide_eq_true (by omega)
    have c8b:((L.length:Int) == 0)=true:=by rw [beq_iff_eq];omega
    refine Y8 Zc (by kernel_rfl) (Yfo []) (Jl (by kernel_rfl)) ?_
    simp only [push_cast,seval,Za,hi,hj,ho,hoj,hlr,c8,c8b]
    refine And.intro rfl (Ky hU rfl ?_)
    simp only [push_cast,seval,Za,hi,hj,ho,hoj,hlr]
   obtain ⟨hlt,x,hx,hnf⟩:=hf.resolve_left c
   have c8:decide ((L.length:Int)=0)=false:=decide_eq_false (by omega)
   have c8b:((L.length:Int) == 0)=false:=by rw [beq_eq_false_iff_ne];omega
   have c9:decide (IntKind.i64.wrap (size - (x.2.length:Int)) < k)=true:=decide_eq_true (by omega)
   have Gi:decide ((L.length:Int) < 16)=true:=decide_eq_true (by omega)
   refine Y8 Zc (by kernel_rfl) (Yc2 []) (Jl (by kernel_rfl)) ?_
   simp only [push_cast,seval,Za,hi,hj,ho,hoj,hlr,hw,c8,c8b,c9,Gi]
   refine PCall.of (Zcy hi hj ho hoj) ?_
   rw [Zep hx]
   simp only [push_cast,seval,Za,hi,hj,ho,hoj,hlr,hw,c8,c8b,c9,Gi]
   refine And.intro rfl (Ky hU rfl ?_)
   simp only [push_cast,seval,Za,hi,hj,ho,hoj,hlr]
  refine Zo (t:=true) rfl (fun Vn => ?_) (fun Vn=>by cases Vn)
  refine Zf ?_
  have h5:∀ o,O.upd n o j=some ⟨true,26,1,L.length,fl eN L⟩:=fun o=>(Yb O o (by omega)).trans hoj
  have h6:∀ o o',(O.upd n o).upd j o' i=some ⟨false,69,4,1,[.row j L.length,.val (.int .i64 size),.val (.int .i64 most),.val (.int .i64 used)]⟩:=fun o o'=>(Yb _ o' hij).trans ((Yb O o (by omega)).trans ho)
  refine Zb Zc [] ?_
  simp only [push_cast,seval,Za,hi,hj,ho,hoj,hlr,hN0,hN,h5,h6]
  refine ⟨⟨by omega,by omega⟩,?_⟩
  have hU1:Und ((O.upd j (some ⟨true,26,1,L.length+1,fl eN L++[.val (.slice none 0 0)]⟩)).upd i (some ⟨false,69,4,1,[.row j (L.length+1),.val (.int .i64 size),.val (.int .i64 most),.val (.int .i64 used)]⟩)) n :=
   (hU.set hj (Zuw _ _ (Zj2 _ hν) (by simp [G.unders,G.under]))).set hi (by simp [G.unders,G.under,hj])
  refine Zh5 (E':=⟨64,[],[(0,.ref i 0),(1,.val (.int .i64 k)),(6,.val (.int .i64 (L.length:Int)))]⟩) (O':=((O.upd j (some ⟨true,26,1,L.length+1,fl eN L++[.val (.slice none 0 0)]⟩)).upd i (some ⟨false,69,4,1,[.row j (L.length+1),.val (.int .i64 size),.val (.int .i64 most),.val (.int .i64 used)]⟩))) (n':=n) (Fit2.of ⟨rfl,Zyh hU1 fun t o ht => ?_,?_⟩ (Nat.le_refl _)) ?_
  ·by_cases e1:t=i
   ·subst e1;rw [Yj] at ht ⊢;exact ht
   rw [Yb _ _ e1] at ht ⊢
   by_cases e2:t=j
   ·subst e2;rw [Yj] at ht ⊢;exact ht
   rw [Yb _ _ e2] at ht ⊢
   by_cases e3:t=n
   ·subst e3;rw [hN0] at ht;cases ht
   rw [Yb _ _ e3];exact ht
  ·simp only [push_cast,seval,Za,hi,hj]
  refine Z7a (p:=j) (k:=L.length) (q:=⟨true,26,1,L.length+1,fl eN L++[.val (.slice none 0 0)]⟩) 49 1 (by rw [Yb _ _ (Ne.symm hij),Yj]) (by rw [List.getElem?_append_right (by rw [Zqc];omega),Zqc];simp) ?_
  have hset:(fl eN L++[G.val (.slice none 0 0)]).set L.length (.row n 0)=fl eN (L++[(n,[])]):=by
   rw [List.set_append_right _ _ (by rw [Zqc];omega),Zqc,← Zsx];simp [eN]
  simp only [hset]
  have hlt:∀ y∈L++[(n,([]:List Int))],y.1 < n+1:=fun y hy=>by
   rcases List.mem_append.1 hy with h | h
   ·have:=hν y h;omega
   rw [List.mem_singleton.1 h];exact Nat.lt_succ_self _
  have hU2:=((hU1.more (Nat.le_succ n)).set (q:=⟨true,49,1,0,[]⟩) (Nat.lt_succ_self n) (by simp [G.unders])).set (q:=⟨true,26,1,L.length+1,fl eN (L++[(n,[])])⟩) (i:=j) (by omega) (Zj2 _ hlt)
  have hi1:i < n+1:=by omega
  refine Zb Zc [] ?_
  have hw2:IntKind.i64.wrap ((L.length:Int)+1)=(L.length:Int)+1:=Vv (by omega)
  simp only [push_cast,seval,Za,hw2]
  simp only [Zsx]
  refine And.intro rfl (Kc hU2 (Nat.le_succ n) rfl ?_)
  simp only [push_cast,seval,Za,hi1]
 refine Zf ?_
 have hi1:i < n+1:=by omega
 refine Zb Zc [] ?_
 have hw3:IntKind.i64.wrap ((L.length:Int)+1 - 1)=(L.length:Int):=by rw [Vv (by omega)];omega
 simp only [push_cast,seval,Za,hi1,hw3]
 simp only [Zsx]
 have hin:i≠n:=by omega
 have hjn:j≠n:=by omega
 have hlt:∀ y∈L++[(n,([]:List Int))],y.1 < n+1:=fun y hy=>by
  rcases List.mem_append.1 hy with h | h
  ·have:=hν y h;omega
  rw [List.mem_singleton.1 h];exact Nat.lt_succ_self _
 have hlen:(L++[(n,([]:List Int))]).length=L.length+1:=by simp
 have hget:Z5 (L++[(n,([]:List Int))]) (L.length:Int)=some (n,[]):=by
  unfold Z5;rw [if_pos (by omega),Int.toNat_natCast,List.getElem?_append_right (Nat.le_refl _)];simp
 have g:=Z19 (O:=(((O.upd j (some ⟨true,26,1,L.length+1,fl eN L++[.val (.slice none 0 0)]⟩)).upd i (some ⟨false,69,4,1,[.row j (L.length+1),.val (.int .i64 size),.val (.int .i64 most),.val (.int .i64 used)]⟩)).upd n (some ⟨true,49,1,0,[]⟩)).upd j (some ⟨true,26,1,L.length+1,fl eN (L++[(n,[])])⟩)) (n:=n+1) (i:=i) (j:=j) (L:=L++[(n,[])]) (size:=size) (most:=most) (used:=used) (s:=(L.length:Int)) (k:=k) (x:=(n,[])) (by omega) (by omega) hlt hij hin hjn
  (by rw [Yb _ _ hij,Yb _ _ hin,Yj,hlen]) (by rw [Yj,hlen]) hget (by rw [Yb _ _ (Ne.symm hjn),Yj];rfl) hk (by simp;omega)
 rw [hlen] at g
 refine g.then ?_
 simp only [push_cast,seval,Za]
 have hs:Xs (L++[(n,([]:List Int))]) (L.length:Int) (n,zl [] k)=L++[(n,zl [] k)]:=by
  unfold Xs;rw [Int.toNat_natCast,List.set_append_right _ _ (Nat.le_refl _)];simp
 have hlt2:∀ y∈L++[(n,zl [] k)],y.1 < n+1:=fun y hy=>by
  rcases List.mem_append.1 hy with h | h
  ·have:=hν y h;omega
  rw [List.mem_singleton.1 h];exact Nat.lt_succ_self _
 simp only [hs,Zsx,Z60 hin hjn hij]
 refine Zu ?_
 try simp only [Zh,Ze]
 refine Yz (P:=Tryz.prog) (.inr rfl) ((((hU.more (Nat.le_succ n)).set (Nat.lt_succ_self n) (G4 _)).set (by omega) (Zj2 _ hlt2)).set (by omega) ?_) [.val (.int .i64 (L.length:Int)),.val (.int .i64 0)] (Nat.le_succ _) ?_
 ·have:j < n+1:=by omega
  simp [G.unders,G.under,this]
 simp only [push_cast,seval,Za,Tryz.results32]
attribute [local push_cast] and_false false_and Bool.false_and Zzk Za7
theorem Q8 {P:Program} {ba n:Nat} {c:Code} {Q:GQ} {E:Env} {O:Objs} (h:Und O n→W P ba c Q E O n):W P ba c Q E O n:=fun hb w m a hM hE=>h ⟨hM.fresh,fun i o hi=>by obtain ⟨vs,hv,_⟩:=hM.obj i o hi;exact Jv _ _ hv⟩ hb w m a hM hE
theorem Zoy {L:List NR} {s:Int} {x:NR} (h:Z5 L s=some x):Z5 (L.map (·.2)) s=some x.2:=by
 unfold Z5 at *
 split at h
 ·rename_i c;rw [if_pos c,List.getElem?_map,h];rfl
 cases h
def Yl (segs:List (List Int)) (s p k:Int):Bool:=match Z5 segs s with
 | none=>false
 | some t=>decide (0≤p∧0≤k∧k≤(t.length:Int)∧p≤(t.length:Int) - k)
attribute [local push_cast] Kx
structure PX (H:Nat→GObj) (O:Objs) (n i j:Nat) (L:List NR):Prop where
 hi:i < n
 hj:j < n
 hij:i≠j
 ho:O i=some (H L.length)
 hoj:O j=some ⟨true,26,1,L.length,fl eN L⟩
 lt:∀ x∈L,x.1 < n
 ni:∀ x∈L,i≠x.1
 nj:∀ x∈L,j≠x.1
 hL:∀ x∈L,O x.1=some ⟨true,49,1,x.2.length,fl (eI .u64) x.2⟩
 nd:(L.map (·.1)).Nodup
def ter (i j:Nat) (L:List NR) (t:Nat):Prop:=t=i∨t=j∨∃ x∈L,t=x.1
theorem PX.frame {H:Nat→GObj} {O O':Objs} {n n' i j:Nat} {L:List NR} (h:PX H O n i j L) (hO:∀ t,ter i j L t→O' t=O t) (hn:n≤n'):PX H O' n' i j L :=
 ⟨by have:=h.hi;omega,by have:=h.hj;omega,h.hij,(hO i (.inl rfl)).trans h.ho,(hO j (.inr (.inl rfl))).trans h.hoj,fun x hx=>by have:=h.lt x hx;omega,h.ni,h.nj,fun x hx=>(hO _ (.inr (.inr ⟨x,hx,rfl⟩))).trans (h.hL x hx),h.nd⟩
theorem Zun {L:List NR} {s:Int} {x:NR} (hx:Z5 L s=some x) (z:List Int):(Xs L s (x.1,z)).map (·.1)=L.map (·.1):=by
 have h:=Zqy (L:=L.map (·.1)) (s:=s) (x:=x.1) (by
  unfold Z5 at *
  split at hx
  ·rename_i c;rw [if_pos c,List.getElem?_map,hx];rfl
  cases hx)
 unfold Xs at *
 rw [List.map_set];exact h
theorem Zuo {L:List NR} {s:Int} (a:Nat) (z:List Int):(Xs L s (a,z)).map (·.2)=Xs (L.map (·.2)) s z:=by unfold Xs;rw [List.map_set]
theorem Z8q {α:Type} {L:List α} {s:Int} {y z:α} (h:y∈Xs L s z):y∈L∨y=z:=List.mem_or_eq_of_mem_set h
theorem Zzc {i j t:Nat} {L:List NR} {s:Int} {x:NR} (hx:Z5 L s=some x) (z:List Int) (h:ter i j (Xs L s (x.1,z)) t):ter i j L t:=by
 rcases h with h | h | ⟨y,hy,rfl⟩
 ·exact .inl h
 ·exact .inr (.inl h)
 rcases Z8q hy with h | rfl
 ·exact .inr (.inr ⟨y,h,rfl⟩)
 exact .inr (.inr ⟨x,Xe hx,rfl⟩)
theorem Zbj {L:List NR} {s:Int} {x y:NR} (hn:(L.map (·.1)).Nodup) (hx:Z5 L s=some x) (z:List Int) (hy:y∈Xs L s (x.1,z)):y=(x.1,z)∨(y∈L∧y.1≠x.1):=by
 obtain ⟨p,hp⟩:=List.getElem?_of_mem hy
 unfold Xs at hp
 rw [List.getElem?_set] at hp
 unfold Z5 at hx
 split at hx
 ·by_cases c:s.toNat=p
  ·subst c
   rw [if_pos rfl] at hp
   split at hp
   ·exact .inl (Option.some.inj hp).symm
   cases hp
  rw [if_neg c] at hp
  refine .inr ⟨List.mem_of_getElem? hp,fun e=>c ?_⟩
  have h1:(L.map (·.1))[p]? = some x.1:=by rw [List.getElem?_map,hp];exact congrArg some e
  have h2:(L.map (·.1))[s.toNat]? = some x.1:=by rw [List.getElem?_map,hx];rfl
  obtain ⟨l1,g1⟩:=List.getElem?_eq_some_iff.1 h1
  obtain ⟨l2,g2⟩:=List.getElem?_eq_some_iff.1 h2
  exact (List.getElem_inj (h₀:=l2) (h₁:=l1) hn).1 (g2.trans g1.symm)
 cases hx
theorem PX.set {H:Nat→GObj} {O:Objs} {n i j:Nat} {L:List NR} {s:Int} {x:NR} (h:PX H O n i j L) (hx:Z5 L s=some x) (z:List Int) (H':Nat→GObj) :
  PX H' (((O.upd x.1 (some ⟨true,49,1,z.length,fl (eI .u64) z⟩)).upd j (some ⟨true,26,1,L.length,fl eN (Xs L s (x.1,z))⟩)).upd i (some (H' L.length))) n i j (Xs L s (x.1,z)):=by
 have hxm:=Xe hx
 have e:(Xs L s (x.1,z)).length=L.length:=Kx _ _ _
 refine ⟨h.hi,h.hj,h.hij,by rw [Yj,e],by rw [Yb _ _ (Ne.symm h.hij),Yj,e],fun y hy => ?_,fun y hy => ?_,fun y hy => ?_,fun y hy => ?_,by rw [Zun hx];exact h.nd⟩
 ·rcases Zbj h.nd hx z hy with rfl | ⟨q,_⟩
  ·exact h.lt x hxm
  exact h.lt y q
 ·rcases Zbj h.nd hx z hy with rfl | ⟨q,_⟩
  ·exact h.ni x hxm
  exact h.ni y q
 ·rcases Zbj h.nd hx z hy with rfl | ⟨q,_⟩
  ·exact h.nj x hxm
  exact h.nj y q
 rcases Zbj h.nd hx z hy with rfl | ⟨q,q2⟩
 ·rw [Yb _ _ (Ne.symm (h.ni x hxm)),Yb _ _ (Ne.symm (h.nj x hxm)),Yj]
 rw [Yb _ _ (Ne.symm (h.ni y q)),Yb _ _ (Ne.symm (h.nj y q)),Yb _ _ q2];exact h.hL y q
theorem Yeb {L:List NR} {s:Int} {x:NR} (hx:Z5 L s=some x) {z:List Int} (hz:z.length=x.2.length):fl eN (Xs L s (x.1,z))=fl eN L:=by
 have e:∀ L:List NR,fl eN L=(L.map fun y=>(y.1,y.2.length)).map fun y=>G.row y.1 y.2:=fun L=>by
  induction L with
  | nil=>rfl
  | cons y L ih =>
   rw [List.map_cons,List.map_cons,← ih];rfl
 rw [e,e]
 congr 1
 have h2:=Zqy (L:=L.map fun y=>(y.1,y.2.length)) (s:=s) (x:=(x.1,x.2.length)) (by
  unfold Z5 at *
  split at hx
  ·rename_i c;rw [if_pos c,List.getElem?_map,hx];rfl
  cases hx)
 unfold Xs at *
 rw [List.map_set,hz];exact h2
theorem PX.put {H:Nat→GObj} {O:Objs} {n i j:Nat} {L:List NR} {s:Int} {x:NR} (h:PX H O n i j L) (hx:Z5 L s=some x) {z:List Int} (hz:z.length=x.2.length) :
  PX H (O.upd x.1 (some ⟨true,49,1,x.2.length,fl (eI .u64) z⟩)) n i j (Xs L s (x.1,z)):=by
 have hxm:=Xe hx
 have e:(Xs L s (x.1,z)).length=L.length:=Kx _ _ _
 refine ⟨h.hi,h.hj,h.hij,by rw [Yb _ _ (h.ni x hxm),e];exact h.ho,by rw [Yb _ _ (h.nj x hxm),e,Yeb hx hz];exact h.hoj,fun y hy => ?_,fun y hy => ?_,fun y hy => ?_,fun y hy => ?_,by rw [Zun hx];exact h.nd⟩
 ·rcases Zbj h.nd hx z hy with rfl | ⟨q,_⟩
  ·exact h.lt x hxm
  exact h.lt y q
 ·rcases Zbj h.nd hx z hy with rfl | ⟨q,_⟩
  ·exact h.ni x hxm
  exact h.ni y q
 ·rcases Zbj h.nd hx z hy with rfl | ⟨q,_⟩
  ·exact h.nj x hxm
  exact h.nj y q
 rcases Zbj h.nd hx z hy with rfl | ⟨q,q2⟩
 ·rw [Yj,hz]
 rw [Yb _ _ q2];exact h.hL y q
theorem PX.new {H:Nat→GObj} {O:Objs} {n i j:Nat} {L:List NR} (h:PX H O n i j L) (z:List Int) (H':Nat→GObj) :
  PX H' (((O.upd n (some ⟨true,49,1,z.length,fl (eI .u64) z⟩)).upd j (some ⟨true,26,1,L.length+1,fl eN (L++[(n,z)])⟩)).upd i (some (H' (L.length+1)))) (n+1) i j (L++[(n,z)]):=by
 have e:(L++[(n,z)]).length=L.length+1:=by simp
 have h1:=h.hi
 have h2:=h.hj
 refine ⟨by omega,by omega,h.hij,by rw [Yj,e],by rw [Yb _ _ (Ne.symm h.hij),Yj,e],fun y hy => ?_,fun y hy => ?_,fun y hy => ?_,fun y hy => ?_,?_⟩
 ·rcases List.mem_append.1 hy with q | q
  ·have:=h.lt y q;omega
  rw [List.mem_singleton.1 q];exact Nat.lt_succ_self _
 ·rcases List.mem_append.1 hy with q | q
  ·exact h.ni y q
  rw [List.mem_singleton.1 q];exact Nat.ne_of_lt h1
 ·rcases List.mem_append.1 hy with q | q
  ·exact h.nj y q
  rw [List.mem_singleton.1 q];exact Nat.ne_of_lt h2
 ·rcases List.mem_append.1 hy with q | q
  ·rw [Yb _ _ (Ne.symm (h.ni y q)),Yb _ _ (Ne.symm (h.nj y q)),Yb _ _ (by have:=h.lt y q;omega)];exact h.hL y q
  rw [List.mem_singleton.1 q]
  rw [Yb _ _ (show n≠i by omega),Yb _ _ (show n≠j by omega),Yj]
 rw [List.map_append,List.nodup_append]
 refine ⟨h.nd,by simp,fun a ha b hb => ?_⟩
 obtain ⟨y,hy,rfl⟩:=List.mem_map.1 ha
 have:=h.lt y hy
 simp at hb
 omega
theorem Zyo {O:Objs} {i j t:Nat} {L:List NR} {s:Int} {x:NR} (hx:Z5 L s=some x) (a b c:Option GObj) (h:¬ ter i j L t):(((O.upd x.1 a).upd j b).upd i c) t=O t:=by
 rw [Yb _ _ (fun e=>h (.inl e)),Yb _ _ (fun e=>h (.inr (.inl e))),Yb _ _ (fun e=>h (.inr (.inr ⟨x,Xe hx,e⟩)))]
theorem Ybp {O:Objs} {i j t:Nat} {L:List NR} {s:Int} {x:NR} (hx:Z5 L s=some x) (a:Option GObj) (h:¬ ter i j L t):(O.upd x.1 a) t=O t:=by
 rw [Yb _ _ (fun e=>h (.inr (.inr ⟨x,Xe hx,e⟩)))]
theorem Ybo {O:Objs} {n i j t:Nat} {L:List NR} (a b c:Option GObj) (h:¬ ter i j L t) (hn:t≠n):(((O.upd n a).upd j b).upd i c) t=O t:=by
 rw [Yb _ _ (fun e=>h (.inl e)),Yb _ _ (fun e=>h (.inr (.inl e))),Yb _ _ hn]
theorem Ycf {n i j t:Nat} {L:List NR} {z:List Int} (h:ter i j (L++[(n,z)]) t):ter i j L t∨t=n:=by
 rcases h with h | h | ⟨y,hy,rfl⟩
 ·exact .inl (.inl h)
 ·exact .inl (.inr (.inl h))
 rcases List.mem_append.1 hy with q | q
 ·exact .inl (.inr (.inr ⟨y,q,rfl⟩))
 rw [List.mem_singleton.1 q];exact .inr rfl
theorem PX.ter_lt {H:Nat→GObj} {O:Objs} {n i j t:Nat} {L:List NR} (h:PX H O n i j L) (ht:ter i j L t):t < n:=by
 rcases ht with rfl | rfl | ⟨y,hy,rfl⟩
 ·exact h.hi
 ·exact h.hj
 exact h.lt y hy
def HP (j:Nat) (size left:Int) (k:Nat):GObj:=⟨false,107,3,1,[.row j k,.val (.int .i64 size),.val (.int .i64 left)]⟩
def HR (j:Nat) (size most used:Int) (k:Nat):GObj:=⟨false,69,4,1,[.row j k,.val (.int .i64 size),.val (.int .i64 most),.val (.int .i64 used)]⟩
noncomputable def Xi (segs:List (List Int)) (s p v:Int):List (List Int):=if Yl segs s p 1=true then Xs segs s (Xs ((Z5 segs s).getD []) p v) else segs
attribute [local push_cast] List.size_toArray
section
variable {P:Program} {ba:Nat} {Q:GQ} {c:Code}
def Ye7 {S:Type} (ba:Nat) (Q:GQ) (F:S→Env) (H:S→Objs) (N:S→Nat) (I:S→Prop) (μ:S→Nat) (s:S):GQ:=fun e E O n =>
 (e = .normal∧∃ s',I s'∧μ s' < μ s∧Fit2 ba E O n (F s') (H s') (N s'))∨(e ≠ .normal∧Q e E O n)
theorem Zsu {S:Type} (F:S→Env) (H:S→Objs) (N:S→Nat) (I:S→Prop) (μ:S→Nat) (hN:∀ s,I s→ba≤N s)
  (body:∀ s,I s→W P ba c (Ye7 ba Q F H N I μ s) (F s) (H s) (N s)) (s0:S) (h0:I s0):W P ba (.loop c) Q (F s0) (H s0) (N s0):=fun hb w0 m0 a0 hM0 hE0=>by
 refine Z4a (fun k a w=>∃ s m,I s∧μ s=k∧Mem w (H s) m (N s)∧Holds w (H s) m (N s) (F s) a∧Ext w0 (H s0) m0 ba w (H s) m (N s)) ?_ (μ s0) a0 w0 ⟨s0,m0,h0,rfl,hM0,hE0,(Ext.refl _ _ _ _).base hb⟩
 rintro k a w ⟨s,m,hs,hk,hM,hE,hX⟩
 subst hk
 refine wp_mono (body s hs (hN s hs) w m a hM hE) fun e a2 w2 ⟨E2,O2,n2,m2,h1,h2,h3,h4⟩ => ?_
 rcases h1 with ⟨rfl,s',hs',hlt,hF⟩ | ⟨hne,hq⟩
 ·obtain ⟨m3,g1,g2,g3⟩:=hF w2 m2 a2 h2 h3
  exact ⟨μ s',hlt,s',m3,hs',rfl,g1,g2,hX.transB (h4.transB g3)⟩
 have:lift w0 (H s0) m0 ba Q e a2 w2:=⟨E2,O2,n2,m2,hq,h2,h3,hX.transB h4⟩
 cases e with
 | normal=>exact absurd rfl hne
 | exit id=>exact this
 | goto l=>exact this
 | ret=>exact this
 | panic ch=>exact this
 | outgrown=>exact this
def GSome (P:Program) (f:FuncId) (gs:List G) (O:Objs) (n:Nat) (R:G→Objs→Nat→Prop):Prop:=∃ r O' n',GTo P f gs O n r O' n'∧R r O' n'
theorem GSome.calls {f:FuncId} {gs:List G} {O:Objs} {n:Nat} {R K:G→Objs→Nat→Prop} (h:GSome P f gs O n R) (hk:∀ r O' n',R r O' n'→K r O' n'):GCalls P f gs O n K:=by
 obtain ⟨r,O',n',h1,h2⟩:=h
 exact h1.then (hk r O' n' h2)
end
section
variable {P:Program} {T:J0} {O:Objs} {n:Nat} {f:FuncId} {gs:List G} {K:G→Objs→Nat→Prop}
def Zzj (T:J0) (rs:List ResultVar) (ba:Nat) (K:G→Objs→Nat→Prop):GQ:=fun e E' O' n'=>∃ r O2 n2,ba≤n2∧K r O2 n2∧Fin T rs r ba O2 n2 e E' O' n'
theorem Ztj (hT:Ql P T) {fn:Func} {c:Code} (hc:∀ args w,(callFunc f args).run P w = .ok (.enter f args) w) (hf:P.funcs[f]? = some fn) (hb:fn.body=some c)
  (hn:gs.length≤fn.ntmps) (h:Und O n→W P n c (Zzj T fn.results.toList n K) ⟨fn.ntmps,[],Znt 0 gs⟩ (Z3 O n []) n):GCalls P f gs O n K:=by
 refine ⟨hc,fun w m vs hM hr => ?_⟩
 have hl:=Qx _ _ hr
 have hU:Und O n:=⟨hM.fresh,fun i o hi=>by obtain ⟨vs,hv,_⟩:=hM.obj i o hi;exact Jv _ _ hv⟩
 have h:=h hU
 rw [Jw hM.fresh] at h
 refine calls_of_wp hf hb (wp_mono (h (Nat.le_refl _) w m { tmps:=vs.toArray++Array.replicate (fn.ntmps - vs.toArray.size) undef,defers:=[] } hM ?_) fun e a' w' ⟨E',O',n',m',h1,h2',h3,h4⟩ => ?_)
 ·have hv:∀ (gs:List G) (vs:List Value) (k:Nat),G.reps w O m n gs vs→∀ t,(k≤t→∀ v,vs[t - k]? = some v→(Qy (Znt k gs) t).rep w O m n v)∧(t < k∨k+gs.length≤t→Qy (Znt k gs) t = .any):=fun gs=>by
   induction gs with
   | nil =>
    intro vs k hr t
    simp only [G.reps] at hr
    subst hr
    exact ⟨fun _ v hv=>by simp at hv,fun _=>rfl⟩
   | cons g gs ih =>
    intro vs k hr t
    simp only [G.reps] at hr
    obtain ⟨u,us,rfl,h1,h2⟩:=hr
    have:=ih us (k+1) h2 t
    simp only [Znt,Qy]
    refine ⟨fun hk v hv => ?_,fun ht => ?_⟩
    ·by_cases e:t=k
     ·subst e
      rw [if_pos rfl]
      simp at hv
      subst hv
      exact h1
     rw [if_neg e]
     refine this.1 (by omega) v ?_
     have:t - k=t - (k+1)+1:=by omega
     rw [this] at hv
     simpa using hv
    have e:¬ t=k:=by simp at ht;omega
    rw [if_neg e]
    exact this.2 (by simp at ht;omega)
  have hq:=hv gs vs 0 hr
  have hsz:(vs.toArray++Array.replicate (fn.ntmps - vs.toArray.size) undef).size=fn.ntmps:=by simp;omega
  refine ⟨hsz,fun t v hv => ?_,fun t ht=>(hq t).2 (.inr (by simp only at ht;omega)),rfl⟩
  rcases Nat.lt_or_ge t vs.length with ht | ht
  ·refine (hq t).1 (Nat.zero_le _) v ?_
   have:(vs.toArray++Array.replicate (fn.ntmps - vs.toArray.size) undef)[t]? = vs[t]? := by
    rw [Array.getElem?_append_left (by simpa using ht)];simp
   rw [Nat.sub_zero,← this];exact hv
  rw [(hq t).2 (.inr (by omega))]
  simp [G.rep]
 obtain ⟨r,O2,n2,h2,hK,he,E2,O3,n3,gs',hF2,hg,hL,hwk⟩:=h1
 obtain ⟨m3,h2',h3,hX3⟩:=hF2 w' m' a' h2' h3
 have h4:=h4.transB hX3
 obtain ⟨v,hv,hrep⟩:=Znm hT h2' h3 hg
 have fin:a'.defers=[]∧∃ v,(results fn a'.tmps).run P w' = .ok v w'∧∃ v_1 g O' n' m',Ending.returned v = .returned v_1∧Mem w' O' m' n'∧Ext w O m n w' O' m' n'∧G.rep w' O' m' n' g v_1∧K g O' n' :=
  ⟨h3.defers,v,hv,v,r,O2,n2,m3,rfl,h2'.weak hL,h4.weak hL h2,Zh2 h2' hL _ _ hrep _ hwk,hK⟩
 rcases he with rfl | rfl <;> exact fin
end
noncomputable def Y5 (segs:List (List Int)) (s p:Int):List Int→List (List Int)
 | []=>segs
 | w::ws=>Y5 (Xi segs s p w) s (p+1) ws
end Go.Proofs.YtmjjjfamipncdaaGreat
