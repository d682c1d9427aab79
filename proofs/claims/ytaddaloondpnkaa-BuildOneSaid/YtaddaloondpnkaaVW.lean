/- Part VW: the law; each theorem bears its own conditions. -/
import Derived.Test.YtaddaloondpnkaaVN
import Derived.Test.YtaddaloondpnkaaUJ
namespace Go.Proofs.Ytaddaloondpnkaa
open Go.RowKit
set_option linter.unusedVariables false
set_option linter.unusedSimpArgs false
set_option maxRecDepth 100000
set_option maxHeartbeats 4000000
attribute [local push_cast] Zf Z3 Zhy Zhx Ziw Ziv Zj Zh Zel Zai Zah onW Yp Gl Us Zkz Zh2 Zcx Zc1 Zcw Zc0 Zfm Zfi Zcz Zfl Zfk Zfj Zcy Zfg Zaw evS wok Xj Op.operands Call.operands gop onK onP atK List.all_cons List.all_nil Bool.and_true Bool.true_and Bool.and_self Value.oneCell' List.take_zero List.take_succ_cons List.take_nil List.drop_zero List.drop_succ_cons List.drop_nil List.append_nil Nat.add_zero Nat.zero_add Jr Z8 ev Xi Zg1 Zhr Zhq Zhw Zhu Zhv Zhs Zht Zhp Zmq Zov Zql Zdr Vw Zdv Ut Zci Zbl Ul Uq Zag Zac Uo Zaf Zae Zad Un Zaa Um Up Vp Zab Zg3 Zaj Jw Zc6 Jx Zek Zdq Zpr Gd bHi bMx Vy Zei Zrc Zdp Zgd G0 Q6 Zmf Zrh Zc5 Gu Zrj Vv Ztw Zeq Zeu Zep Zet Zii Zie Zic Zck Zer Zih Zig Zif Zes Zh8 Zib Zh7 Zia Zm2 Zmz Zmy Zh9 Zm0 Zm1 Zid Zem Zkr Ze8 Zau Zat pop TK.isAgg Zip Zit Zio Zis Ze2 Znc Zm8 Zir Znb Zna Zm9 Ziq Zm7 G.under G.unders List.getD_cons_zero List.getD_cons_succ List.set_cons_zero List.set_cons_succ List.map_cons List.map_nil List.toList_toArray Array.toList_append Option.toArray_none Option.toArray_some Array.toList_map Option.map_some Option.map_none Option.bind_some Option.bind_none List.getElem?_cons_zero List.getElem?_cons_succ List.getElem?_nil List.nil_append List.cons_append List.replicate_succ List.replicate_zero List.length_cons List.length_nil and_true true_and and_false false_and Bool.true_eq_false Bool.false_eq_true forall_const false_implies implies_true IntKind.bits if_true if_false ite_true ite_false eq_self true_implies false_or or_false or_true true_or not_true_eq_false not_false_eq_true decide_true decide_false decide_eq_true_eq decide_eq_false_iff_not beq_iff_eq bne_iff_ne ne_eq Bool.not_eq_true Bool.not_eq_false beq_eq_false_iff_ne bne_eq_false_iff_eq beq_self_eq_true bne_self_eq_false Option.some.injEq exists_eq_left' exists_eq_left ge_iff_le gt_iff_lt decide_not Bool.not_true Bool.not_false imp_self Zms cond_true cond_false Zx7 Zx6 Bool.not_not Bool.and_false Bool.false_and Bool.or_true Bool.true_or Bool.or_false Bool.false_or Vc Zc3 Gy Ui Jk X8 Option.join_some Nat.add_assoc Int.toNat_natCast eI eB eS eL Ke Za3 Uu Zh1 Zhz Zh0 Zt2 Zvr Zba U1 Zi2 Zi0 Zi1 Zqq Zkq Zon Zhg Zmb Vf Zkw List.length_append G.agg.injEq G.row.injEq G.ref.injEq G.val.injEq G.sl.injEq G.tup.injEq Value.int.injEq Value.bool.injEq Value.string.injEq List.cons.injEq exists_and_left exists_const List.flatten_cons List.flatten_nil Int.le_refl Nat.le_refl Gb Yy Jt Bool.not_eq_true' Bool.not_eq_false' Zkj Zby Zoe Zoi Zod Zoh Ztt Zto List.size_toArray Zmc Zlm G.ren G.rens Zpb Zbu Zi5 Zhn Zho Zfh Zoj Zdt G.fn.injEq Zdn Zf9 Zki Ztp Zf8 Zog Zts Ztr Ztq Zof Zm3 Zrp Option.join_none Zs Jn undef Zgh Arr.len Arr.put_eq Za9 Zco Zaq U0 Ziz Zix Ziy onB Zt1 Zme Ya Zcf Zd5 Zd6 Zd7 Zd8 Zd9 Zea Zcm Zcr Zcp Zas U2 Zcq Ze7 Ze6 Ze5 Ze4 Zt3 Zvq Zqp Zp1 Kc Zqm Zk9 Zcs Zar Zlk Zlj Zwm Zr4 Zln Zdo Zgc Gi Zdl Zeb Zec Zed Zee Zb1 Zb2 Zb3 Zb4 Zb5 Zb6 Zb7 Zb8 Zb9 Zca Zcb Zcc Zcd Zbi prT Zga Zyz Zn3 Zt7 Zn4 Zy0 Zn5 Zy1 Zn6 Zy2 Zn7 Zy3 Zn8 Zy4 Zn9 Zy5 Zoa Zsg Zjc Zsh Zjd Zsi Zje Zsj Zjf Zsk Zjg Zsl Zjh Zsm Zji Zsn Zjj Zso Zjk Zsp Zjl Zsq Zjm Zdx Zbw Zsr Zgm Zss Zjn Vo Zjo Zst Zgn Zsu Zjp Zsv Zjq Zsw Zjr Zsx Zjs Zsy Zjt Zsz Zju Zs0 Zjv Zs1 Zjw U8 Zjx Zs2 Zjy Zs3 Zjz Zs4 Zj0 Zs5 Zj1 Zs6 Zj2 Zs7 Zj3 Zs8 Zj4 Zs9 Zj5 Zta Zj6 Ztb Zj7 Ztc Zj8 Ztd Zj9 Zte Zka Ztf Zkb Ztg Zkc Zth Zkd Zti Zke Ztj Zkf Ztk Zkg Zni Zfn Znj Zfo Znk Zfp Znl Zfq Znm Zfr Znn Zfs Zno Zft Znp Zfu Znq Zfv Znr Zfw Zns Zfx Znt Zfy Znu Zfz Znv Zf0 Znw Zf1 Znx Zf2 Zny Zf3 Znz Zf4 Zn0 Zf5 Zn1 Zf6 Zn2 Zf7 Zo Gc Zaz Zal Zap Za2 Ga U6 U4 Jj K2 K1 Kx Kz K3 J8 J6 J5 K0 Xk X0 Xz Xw Xx X1 Xp Xo Xn Xy Zg Ys Qy Qx Qr Qu Q0 Qk Qj Qi Qv Za0 Zay Zak Zao Za1 U9 U5 U3 Zax Ur Jg
theorem Z77 {l:List (List Int)} (h16:l.length≤16) (h:∀ t∈l,(t.length:Int)≤131072):WO l:=⟨by omega,fun x hx=>by have:=h x hx;omega⟩
theorem Z6j (L:List NR):fl eM (L.map fun x=>(some x.1,x.2))=fl eN L:=by
 induction L with
 | nil=>rfl
 | cons x L ih =>
  show eM (some x.1,x.2)++fl eM (L.map fun x=>(some x.1,x.2))=eN x++fl eN L
  rw [ih];rfl
theorem Zz2 {O:Objs} {n i j:Nat} {L:List NR} {size left:Int} {r:List (List Int)} (h:PX (HP j size left) O n i j L) (hr:L.map (·.2)=r) (hw:WO r):GTo Try.prog 11 [.ref i 0] O n (.sl r.length (fl (eL (eI .u64)) r)) O n:=by
 have e1:(L.map fun x=>((some x.1:Option Nat),x.2)).map (·.2)=r:=by rw [← hr,List.map_map];rfl
 have e2:(L.map fun x=>((some x.1:Option Nat),x.2)).length=L.length:=List.length_map _
 refine Z2o (L:=L.map fun x=>(some x.1,x.2)) (j:=j) (size:=size) (left:=left) h.hi (by rw [e2];exact h.ho) h.hj (by rw [e2,Z6j];exact h.hoj) (fun x hx v hv => ?_) (by rw [e1];exact Z3b hw)
 obtain ⟨y,hy,rfl⟩:=List.mem_map.1 hx
 have:=Option.some.inj hv;subst this
 exact ⟨h.lt y hy,h.hL y hy⟩
theorem Z55 {Z:Objs} {j:Nat} {L:List NR} {r:List (List Int)} (hj:Z j=some ⟨true,22,1,L.length,fl eN L⟩) (h:∀ x∈L,Z x.1=some ⟨true,58,1,x.2.length,fl (eI .u64) x.2⟩) (hr:L.map (·.2)=r):wk Z Ji 0 (.row j L.length) (.sl r.length (fl (eL (eI .u64)) r)):=by
 subst hr
 unfold wk
 exact ⟨by rw [List.length_map],rfl,_,hj,rfl,rfl,Zv6 L h⟩
theorem Z38 {O:Objs} {n j:Nat} {L:List NR} {r:List (List Int)} (hj:O j=some ⟨true,22,1,L.length,fl eN L⟩) (h:∀ x∈L,O x.1=some ⟨true,58,1,x.2.length,fl (eI .u64) x.2⟩) (hr:L.map (·.2)=r) (hw:WO r):GTo Try.prog 10 [.sl r.length (fl (eL (eI .u64)) r),.row j L.length] O n (.val (.bool true)) O n :=
 GCalls.lend (Zez (Zz1 hw)) rfl (by
  unfold Kt
  refine ⟨_,_,rfl,Zpj _ (by show G.unders 0 _=true;exact Y7 _ _ (Yr Xs r)),?_⟩
  unfold Kt
  exact ⟨_,_,rfl,Z55 hj h hr,J9 rfl⟩) ⟨rfl,rfl,rfl⟩
theorem GCalls.less {P:Program} {f:FuncId} {gs gs':List G} {O O2:Objs} {n:Nat} {K:G→Objs→Nat→Prop} (h:GCalls P f gs' O2 n K) (hL:LessO O O2 n) (hw:Kt O O2 n gs gs'):GCalls P f gs O n K:=by
 refine ⟨h.1,fun w m vs hM hr=>(h.2 w m vs (hM.weak hL) (Qz hM hL _ _ hr _ hw)).mono fun e w' ⟨v,g,O',n',m',h1,h2,h3,h4,h5⟩=>⟨v,g,O',n',m',h1,h2,⟨h3.os,h3.tape,h3.output,h3.size,h3.more,fun b hb ho=>h3.keep b hb (fun q=>ho (hL.owns q)),fun i hi o' ho' => ?_⟩,h4,h5⟩⟩
 obtain ⟨o2,k1,k2,k3,k4⟩:=h3.stay i hi o' ho'
 obtain ⟨o,a1,a2,_,_,a5,_⟩:=hL.obj i o2 k1
 exact ⟨o,a1,k2.trans a2,by omega,fun e=>k4 (by rcases e with e | e;exact .inl (by omega);exact .inr e)⟩
def szB (size:Int):Int:=if size < 1 then 1 else size
def Zb0 (most:Int):Int:=if 131072 < (if most < 0 then 0 else most) then 131072 else (if most < 0 then 0 else most)
theorem Zw6 (most:Int):0≤Zb0 most∧Zb0 most≤131072:=by
 have key:∀ k:Int,0≤k→0≤(if 131072 < k then 131072 else k)∧(if 131072 < k then 131072 else k)≤131072:=fun k h=>by
  by_cases c:131072 < k
  ·rw [if_pos c];exact ⟨by omega,Int.le_refl _⟩
  rw [if_neg c];exact ⟨h,Int.not_lt.1 c⟩
 refine key _ ?_
 by_cases c:most < 0
 ·rw [if_pos c];exact Int.le_refl _
 rw [if_neg c];exact Int.not_lt.1 c
noncomputable def Zq5 (o:Bool) (t:Tr) (size most:Int):Option SG :=
 if t.Kind=10∨rt t 64=false then none else (Jy (szB size) ([],Zb0 most) 1).bind fun r=>Zgr o (szB size) (SizeOf.sizeOf (nrm t)+1) (nrm t) r.1 r.2.1 r.2.2
theorem Z2s (size most:Int):St (szB size) (Zb0 most) ([],Zb0 most):=⟨Nat.zero_le _,(Zw6 most).1,Int.le_refl _,(Zw6 most).2,fun x hx=>by cases hx⟩
theorem Z5f {o:Bool} {t:Tr} {size most:Int} {τ:SG} (h:Zq5 o t size most=some τ):St (szB size) (Zb0 most) τ:=by
 unfold Zq5 at h
 split at h
 ·cases h
 cases hg:Jy (szB size) ([],Zb0 most) 1 with
 | none=>rw [hg] at h;cases h
 | some r =>
  rw [hg] at h
  have g:=Zdb (Z2s size most) hg
  exact ((Zpt o (szB size) (Zb0 most) _ _ _ _ _ g.2.2.2.2.1).1 τ h).1
def Z78 (res:Option SG) (O:Objs) (n:Nat) (size most:Int) (r:G) (O':Objs) (n':Nat):Prop :=
 n≤n'∧(∀ u,u < n→O' u=O u)∧match res with
  | none=>r = .tup [.val (.pointer none),.val (.bool false)]
  | some τ=>∃ i j L,r = .tup [.ref i 0,.val (.bool true)]∧AP (szB size) O' n' i j L τ∧∀ u,ter i j L u→n≤u
theorem Z5r {O:Objs} {n:Nat} (hU:Und O n) (size most:Int):GTo Try.prog 23 [.val (.int .i64 size),.val (.int .i64 most)] O n (.ref n 0) (Zu O n [some (HP (n+1) (szB size) (Zb0 most) 0),some ⟨true,22,1,0,[]⟩]) (n+2) :=
 Zvk (r:=⟨[],szB size,Zb0 most⟩) rfl
theorem Z5s {O:Objs} {n:Nat} (hU:Und O n) (H:Nat→GObj):PX H (Zu O n [some (H 0),some ⟨true,22,1,0,[]⟩]) (n+2) n (n+1) [] :=
 ⟨by omega,by omega,by omega,by rw [Zc3];rfl,by rw [Vc];rfl,fun x hx=>(by cases hx),fun x hx=>(by cases hx),fun x hx=>(by cases hx),fun x hx=>(by cases hx),List.nodup_nil⟩
theorem Zpi {i j u:Nat} (h:ter i j [] u):u=i∨u=j:=by
 rcases h with h | h | ⟨y,hy,_⟩
 ·exact .inl h
 ·exact .inr h
 cases hy
theorem Zwg {O:Objs} {n:Nat} {t:Tr} (hbd:Bd t) (hpt:pt t≤200000) (size most:Int) :
  GCalls Try.prog 8 [.agg (Zf t),.val (.int .i64 size),.val (.int .i64 most)] O n (Z78 (Zq5 true t size most) O n size most):=by
 have hright:=Zxn hbd
 have hnorm:=Zvj hbd
 refine Zhm Zd Try.call8 Try.func8 rfl (Nat.le_of_ble_eq_true rfl) fun hU => ?_
 have hN0:O n=none:=hU.fresh _ (Nat.le_refl _)
 have hN:∀ k,O (n+k)=none:=fun k=>hU.fresh _ (Nat.le_add_right _ _)
 show Go.Proofs.Ytaddaloondpnkaa.W _ _ _ _ ⟨44,[],[(0,.agg (Zf t)),(1,.val (.int .i64 size)),(2,.val (.int .i64 most))]⟩ (Zu O n []) _
 rw [Qd hU.fresh]
 refine Zl [1,2,3] (Zb Zd [] ?_)
 simp only [push_cast,seval,↓reduceIte,Za,hN0,hN]
 obtain ⟨Z,hZ⟩:∃ Z,Z=O.upd n (some ⟨false,25,3,1,Zf t⟩):=⟨_,rfl⟩
 have hZn:Z n=some ⟨false,25,3,1,Zf t⟩:=by rw [hZ];exact Zs _ _ _
 have hZo:∀ u,u < n→Z u=O u:=fun u hu=>by rw [hZ];exact Zr _ _ (by omega)
 have hZ2:=hZ
 simp only [push_cast] at hZ2 hZn
 rw [← hZ2]
 have hn1:n < n+1:=Nat.lt_succ_self n
 refine Yl fun hUZ => ?_
 refine Zk ?_
 by_cases cc:t.Kind=10∨rt t 64=false
 ·have eB:Zq5 true t size most=none:=by unfold Zq5;rw [if_pos cc]
  refine Q5 (E':=⟨44,[],[(1,.val (.int .i64 size)),(2,.val (.int .i64 most)),(3,.ref n 0),(19,.val (.bool true))]⟩) (O':=Z) (n0:=n+1) ?_ ?_
  ·by_cases c10:t.Kind=10
   ·have d1:(t.Kind == 10)=true:=Uk c10
    refine Zb Zd (Z5t []) ?_
    simp only [push_cast,seval,↓reduceIte,Za,hn1,hZn,d1]
    refine And.intro rfl (Qp hUZ (Nat.le_succ n) rfl ?_)
    simp only [push_cast,seval,↓reduceIte,Za,hn1,hZn]
   have d1:(t.Kind == 10)=false:=Vq c10
   have hr:rt t 64=false:=cc.resolve_left c10
   rw [hr] at hright
   refine Zb Zd (Z15 []) ?_
   simp only [push_cast,seval,↓reduceIte,Za,hn1,hZn,d1]
   refine (Zgu hright).then ?_
   simp only [push_cast,seval,↓reduceIte,Za,hn1,hZn,d1]
   refine And.intro rfl (Qp hUZ (Nat.le_succ n) rfl ?_)
   simp only [push_cast,seval,↓reduceIte,Za,hn1,hZn]
  refine Zq (t:=true) rfl (fun c15 => ?_) (fun c15=>by cases c15)
  refine Zl [6,7] (Zb Zd [] ?_)
  simp only [push_cast,seval,↓reduceIte,Za]
  refine Zy ?_
  try simp only [Zj,Zh]
  refine ⟨.tup [.val (.pointer none),.val (.bool false)],Z,n+1,Nat.le_succ n,⟨Nat.le_succ n,hZo,by rw [eB]⟩,?_⟩
  refine Ye (P:=Try.prog) (.inr rfl) hUZ [.val (.pointer none),.val (.bool false)] (Nat.le_succ n) ?_
  simp only [push_cast,seval,↓reduceIte,Za,Try.results8]
 have c10:¬ t.Kind=10:=fun h=>cc (.inl h)
 have hr:rt t 64=true:=by
  cases h:rt t 64 with
  | true=>rfl
  | false=>exact absurd (.inr h) cc
 have eB:Zq5 true t size most=(Jy (szB size) ([],Zb0 most) 1).bind fun r=>Zgr true (szB size) (SizeOf.sizeOf (nrm t)+1) (nrm t) r.1 r.2.1 r.2.2:=by unfold Zq5;rw [if_neg cc]
 have hF:Fine (nrm t) 64:=Fine.nrm ⟨hbd,hr,hpt⟩
 have d1:(t.Kind == 10)=false:=Vq c10
 rw [hr] at hright
 have hs0:=Z2s size most
 refine Zl [1,2,3,19] (Zb Zd (Z15 []) ?_)
 simp only [push_cast,seval,↓reduceIte,Za,hn1,hZn,d1]
 refine (Zgu hright).then ?_
 simp only [push_cast,seval,↓reduceIte,Za,hn1,hZn,d1]
 refine Zq (t:=false) rfl (fun c15=>by cases c15) (fun c15 => ?_)
 refine Z0 ?_
 try simp only [Zj,Zh]
 obtain ⟨X,hX⟩:∃ X,X=Zu Z (n+1) [some (HP (n+1+1) (szB size) (Zb0 most) 0),some ⟨true,22,1,0,[]⟩]:=⟨_,rfl⟩
 have hXpx:PX (HP (n+1+1) (szB size) (Zb0 most)) X (n+3) (n+1) (n+1+1) []:=by rw [hX];exact Z5s hUZ _
 have hXo:∀ u,u < n+1→X u=Z u:=fun u hu=>by rw [hX];exact Yy _ hu
 have hXU:X (n+3)=none:=by rw [hX,show n+3=n+1+2 by omega,Vc];rfl
 refine Zl [3,8] (Zb Zd [] ?_)
 simp only [push_cast,seval,↓reduceIte,Za,hn1,hZn]
 have gn:=Z5r hUZ size most
 rw [← hX] at gn
 refine GTo.then gn ?_
 simp only [push_cast,seval,↓reduceIte,Za,hn1,hZn]
 obtain ⟨Y,hY⟩:∃ Y,Y=X.upd (n+3) (some ⟨false,61,1,1,[.ref (n+1) 0]⟩):=⟨_,rfl⟩
 rw [← hY]
 have A4:AP (szB size) Y (n+4) (n+1) (n+1+1) [] ([],Zb0 most):=⟨hXpx.frame (fun u hu=>by rw [hY];exact Zr _ _ (by rcases Zpi hu with h | h <;> omega)) (by omega),rfl⟩
 have hYn:Y n=some ⟨false,25,3,1,Zf t⟩:=by rw [hY,Zr _ _ (by omega),hXo _ (by omega)];exact hZn
 have hY3:Y (n+3)=some ⟨false,61,1,1,[.ref (n+1) 0]⟩:=by rw [hY];exact Zs _ _ _
 have hYo:∀ u,u < n→Y u=O u:=fun u hu=>by rw [hY,Zr _ _ (by omega),hXo _ (by omega)];exact hZo u hu
 simp only [push_cast] at hYn
 have ht0:¬ ter (n+1) (n+1+1) [] n:=fun q=>by rcases Zpi q with h | h <;> omega
 have ht3:¬ ter (n+1) (n+1+1) [] (n+3):=fun q=>by rcases Zpi q with h | h <;> omega
 have htu:∀ u,u < n→¬ ter (n+1) (n+1+1) [] u:=fun u hu q=>by rcases Zpi q with h | h <;> omega
 have hn1:n < n+4:=by omega
 have hn3:n+3 < n+4:=by omega
 have hi:n+1 < n+4:=by omega
 refine Zl [3,8,9,10,11] (Zb Zd [] ?_)
 simp only [push_cast,seval,↓reduceIte,Za,hi,hn1,hn3,hYn,hY3]
 cases hg:Jy (szB size) ([],Zb0 most) 1 with
 | none =>
  rw [hg,Option.bind_none] at eB
  obtain ⟨ga,gb,O9,n9,L9,g5,F9⟩:=Zpp A4 hs0 hg
  have m9:n≤n9:=Nat.le_trans (by omega) F9.le
  refine g5.then ?_
  obtain ⟨q1,q2,q3⟩:=F9.keep hn1 (fun q=>q) ht0
  obtain ⟨v1,v2,v3⟩:=F9.keep hn3 (fun q=>q) ht3
  have hYn:=q1.trans hYn
  have hY3:=v1.trans hY3
  simp only [push_cast,seval,↓reduceIte,Za,q2,v2,hYn,hY3]
  refine Yl fun hU9 => ?_
  refine Zk ?_
  refine Zl [41] (Gz Zd (by kernel_rfl) (Z3w []) (Zxe (by kernel_rfl)) ?_)
  simp only [push_cast,seval,↓reduceIte,Za,q2,v2,hYn,hY3]
  refine Zq (t:=true) rfl (fun c15 => ?_) (fun c15=>by cases c15)
  refine Zl [6,7] (Zb Zd [] ?_)
  simp only [push_cast,seval,↓reduceIte,Za]
  refine Zy ?_
  try simp only [Zj,Zh]
  refine ⟨.tup [.val (.pointer none),.val (.bool false)],O9,n9,m9,⟨m9,fun u hu=>(F9.off u (by omega) (fun q=>q) (htu u hu)).trans (hYo u hu),by rw [eB]⟩,?_⟩
  refine Ye (P:=Try.prog) (.inr rfl) hU9 [.val (.pointer none),.val (.bool false)] m9 ?_
  simp only [push_cast,seval,↓reduceIte,Za,Try.results8]
 | some r =>
  rw [hg,Option.bind_some] at eB
  have g:=Zdb hs0 hg
  obtain ⟨O5,n5,L5,g5,A5,F5⟩:=Zpq A4 hs0 hg
  refine g5.then ?_
  obtain ⟨q1,q2,q3⟩:=F5.keep hn1 (fun q=>q) ht0
  obtain ⟨v1,v2,v3⟩:=F5.keep hn3 (fun q=>q) ht3
  have hYn:=q1.trans hYn
  have hY3:=v1.trans hY3
  have hi:=A5.1.hi
  simp only [push_cast,seval,↓reduceIte,Za,hi,q2,v2,hYn,hY3]
  refine Yl fun hU5 => ?_
  refine Zk ?_
  refine Zl [3,8,41] (Zc4 Zd (by kernel_rfl) [.plain,.plain,.plain,.plain,.plain,.plain,.plain,.plain,.bar,.plain,.plain] (fun _=>True) [0,1,2,3,4,5,6,7,8,9,10] [.plain,.plain,.plain,.plain,.plain,.plain,.plain,.plain,.bar,.plain,.plain] (Z3x []) (by kernel_rfl) rfl ?_)
  simp only [push_cast,seval,↓reduceIte,Za,hi,q2,v2,hYn,hY3]
  refine PCall.of (Zim hnorm) ?_
  simp only [push_cast,seval,↓reduceIte,Za,hi,q2,v2,hYn,hY3]
  refine (@Zr3 (szB size) (Zb0 most) (SizeOf.sizeOf (nrm t)+1) (nrm t) 64 (Nat.lt_succ_self _) hF (by rw [Zdj];exact c10) O5 n5 (n+1) (n+1+1) L5 r.2.2 r.1 r.2.1 A5 g.2.2.2.2.1 (Zk1 g.2.2.2.2.2.2.1 (Int.le_refl _) (by omega))).mono fun r' O9 n9 hE => ?_
  obtain ⟨L9,F9,hres⟩:=hE
  obtain ⟨p1,p2,p3⟩:=F9.keep q2 (fun q=>q) q3
  obtain ⟨w1,w2,w3⟩:=F9.keep v2 (fun q=>q) v3
  have hYn:=p1.trans hYn
  have hY3:=w1.trans hY3
  have F59:=F5.trans F9
  have m9:n≤n9:=Nat.le_trans (by omega) F59.le
  have ho9:∀ u,u < n→O9 u=O u:=fun u hu=>(F59.off u (by omega) (fun q=>q) (htu u hu)).trans (hYo u hu)
  cases ec:Zgr true (szB size) (SizeOf.sizeOf (nrm t)+1) (nrm t) r.1 r.2.1 r.2.2 with
  | none =>
   rw [ec] at hres eB
   subst hres
   simp only [push_cast,seval,↓reduceIte,Za,p2,w2,hYn,hY3]
   refine Yl fun hU9 => ?_
   refine Zq (t:=true) rfl (fun c15 => ?_) (fun c15=>by cases c15)
   refine Zl [6,7] (Zb Zd [] ?_)
   simp only [push_cast,seval,↓reduceIte,Za]
   refine Zy ?_
   try simp only [Zj,Zh]
   refine ⟨.tup [.val (.pointer none),.val (.bool false)],O9,n9,m9,⟨m9,ho9,by rw [eB]⟩,?_⟩
   refine Ye (P:=Try.prog) (.inr rfl) hU9 [.val (.pointer none),.val (.bool false)] m9 ?_
   simp only [push_cast,seval,↓reduceIte,Za,Try.results8]
  | some ρ =>
   rw [ec] at hres eB
   obtain ⟨rfl,A9⟩:=hres
   have hi:=A9.1.hi
   simp only [push_cast,seval,↓reduceIte,Za,hi,p2,w2,hYn,hY3]
   refine Yl fun hU9 => ?_
   refine Zq (t:=false) rfl (fun c15=>by cases c15) (fun c15 => ?_)
   refine Z0 ?_
   try simp only [Zj,Zh]
   refine Zl [6,7] (Zb Zd [] ?_)
   simp only [push_cast,seval,↓reduceIte,Za,hi,p2,w2,hYn,hY3]
   refine Zy ?_
   try simp only [Zj,Zh]
   refine ⟨.tup [.ref (n+1) 0,.val (.bool true)],O9,n9,m9,⟨m9,ho9,by rw [eB];exact ⟨n+1,n+1+1,L9,rfl,A9,fun u hu=>by rcases F59.ter u hu with q | q;rcases Zpi q with h | h <;> omega;omega⟩⟩,?_⟩
   refine Ye (P:=Try.prog) (.inr rfl) hU9 [.ref (n+1) 0,.val (.bool true)] m9 ?_
   simp only [push_cast,seval,↓reduceIte,Za,hi,Try.results8]
theorem Zlx {size k left:Int} {A:List (List Int)} (h0:0≤k) (h1:k≤left) (hl:left≤131072) (c2:A.length=0∨A.length < 16∧¬ k≤IntKind.i64.wrap (size - ((Qh A).length:Int))):Jy size (A,left) k=some ((A.length:Int),0,A++[zl [] k],left - k):=by
 have e:X4 A size left k=((A.length:Int),0,true,A++[zl [] k],IntKind.i64.wrap (left - k)):=(if_neg (by omega)).trans (if_pos c2)
 unfold Jy
 rw [e,Gp (by omega)]
 rfl
def T13:Tr:=⟨1,[5],[]⟩
theorem Z8a:Bd T13 := .mk _ (by simp [T13]) (by simp [T13]) (fun w hw=>by rw [List.mem_singleton.1 hw];decide) (fun k hk=>by cases hk)
theorem Z8j:pt T13≤200000:=by simp [T13,Zkl]
theorem Z8k:rt T13 64=true:=by
 rw [Zgl,if_neg (by decide),if_neg (by decide),if_neg (by simp [T13])]
 rfl
theorem Z8h:nrm T13=T13:=by simp [T13,Zew,tr]
theorem Z6r (N:Nat):Zgr true 1 (N+1) T13 0 0 ([[0]],8)=some ([[8589934598],[5],[4294967298,4294967296]],5):=by
 simp only [Zgr]
 rw [if_neg (by decide)]
 have g1:Jy 1 ([[0]],8) (pwd T13)=some (1,0,[[0],[0]],7):=Zlx (k:=1) (A:=[[0]]) (by decide) (by decide) (by decide) (.inr ⟨by decide,by decide⟩)
 rw [g1,Option.bind_some]
 have a1:Zko 1 ([[0],[0]],7) 0 0 (pkd T13) (pup T13) 1 0=some ([[8589934598],[0],[4294967298,4294967296]],5):=by
  have i1:inO 1 ([[0],[0]],7) 1=none:=by
   unfold inO
   show (if (1:Int)≤7∧1≤IntKind.i64.wrap (1 - (([0]:List Int).length:Int)) then _ else none)=none
   exact if_neg (by decide)
  have g2:Jy 1 ([[0],[0]],7) 2=some (2,0,[[0],[0],[0,0]],5):=Zlx (k:=2) (A:=[[0],[0]]) (by decide) (by decide) (by decide) (.inr ⟨by decide,by decide⟩)
  unfold Zko
  rw [if_neg (by decide),if_neg (by decide),i1,g2]
  rfl
 rw [a1,Option.bind_some]
 unfold inT
 rw [if_pos rfl]
 rfl
theorem Z6i:Zq5 true T13 1 9=some ([[8589934598],[5],[4294967298,4294967296]],5):=by
 unfold Zq5
 rw [if_neg (by rw [Z8k];decide),Z8h]
 have g0:Jy (szB 1) ([],Zb0 9) 1=some (0,0,[[0]],8):=Zlx (k:=1) (A:=[]) (by decide) (by decide) (by decide) (.inl rfl)
 rw [g0,Option.bind_some]
 exact Z6r _
theorem Zu0 {O:Objs} {n:Nat} {K:G→Objs→Nat→Prop} (hK:∀ O' n',n≤n'→(∀ u,u < n→O' u=O u)→K (.val (.bool true)) O' n'):GCalls Try.prog 7 [] O n K:=by
 refine (Zhm Zd Try.call7 Try.func7 rfl (Nat.le_of_ble_eq_true rfl) (K:=fun r O' n'=>r = .val (.bool true)∧n≤n'∧∀ u,u < n→O' u=O u) fun hU => ?_).mono fun r O' n' ⟨e,h1,h2⟩=>by rw [e];exact hK O' n' h1 h2
 have hN0:O n=none:=hU.fresh _ (Nat.le_refl _)
 have hN:∀ k,O (n+k)=none:=fun k=>hU.fresh _ (Nat.le_add_right _ _)
 show Go.Proofs.Ytaddaloondpnkaa.W _ _ _ _ ⟨19,[],[]⟩ (Zu O n []) _
 rw [Qd hU.fresh]
 refine Zl [] (Zb Zd [] ?_)
 simp only [push_cast,seval,↓reduceIte,Za,hN0,hN]
 refine Zl [1,2] (Zb Zd [] ?_)
 simp only [push_cast,seval,↓reduceIte,Za,hN0,hN]
 refine GCalls.less (O2:=O) (gs':=[.agg (Zf T13),.val (.int .i64 1),.val (.int .i64 9)]) ((Zwg Z8a Z8j 1 9).mono fun r O9 n9 hE => ?_) (Zvh (hU.more (Nat.le_succ n)) (fun u o h=>by rw [Zr _ _ (fun e=>by rw [e,hN0] at h;cases h)];exact h)) ?_
 ·rw [Z6i] at hE
  obtain ⟨m9,ho9,i,j,L,rfl,A9,ht⟩:=hE
  have hi:=A9.1.hi
  have hw:WO [[8589934598],[5],[4294967298,4294967296]]:=⟨by decide,fun x hx=>by
   simp only [List.mem_cons,List.not_mem_nil,or_false] at hx
   rcases hx with rfl | rfl | rfl <;> decide⟩
  simp only [push_cast,seval,↓reduceIte,Za,hi]
  refine Yl fun hU9 => ?_
  have hM0:O9 n9=none:=hU9.fresh _ (Nat.le_refl _)
  have hM:∀ k,O9 (n9+k)=none:=fun k=>hU9.fresh _ (Nat.le_add_right _ _)
  refine Zl [0] (Zb Zd (Z3x []) ?_)
  simp only [push_cast,seval,↓reduceIte,Za,hi]
  refine (Zz2 A9.1 A9.2 hw).then ?_
  simp only [push_cast,seval,↓reduceIte,Za,hi]
  obtain ⟨M9,hM9⟩:∃ M9,M9=(((O9.upd n9 (some ⟨true,58,1,1,[.val (.int .u64 8589934598)]⟩)).upd (n9+1) (some ⟨true,58,1,1,[.val (.int .u64 5)]⟩)).upd (n9+2) (some ⟨true,58,1,2,[.val (.int .u64 4294967298),.val (.int .u64 4294967296)]⟩)).upd (n9+3) (some ⟨true,22,1,3,[.row n9 1,.row (n9+1) 1,.row (n9+2) 2]⟩):=⟨_,rfl⟩
  rw [← hM9]
  have sp:=Z38 (O:=M9) (n:=n9+4) (j:=n9+3) (L:=[(n9,[8589934598]),(n9+1,[5]),(n9+2,[4294967298,4294967296])]) (r:=[[8589934598],[5],[4294967298,4294967296]]) (by rw [hM9];exact Zs _ _ _) (fun x hx=>by
   rw [hM9]
   simp only [List.mem_cons,List.not_mem_nil,or_false] at hx
   rcases hx with rfl | rfl | rfl
   ·rw [Zr _ _ (by show n9≠n9+3;omega),Zr _ _ (by show n9≠n9+2;omega),Zr _ _ (by show n9≠n9+1;omega),Zs];rfl
   ·rw [Zr _ _ (by show n9+1≠n9+3;omega),Zr _ _ (by show n9+1≠n9+2;omega),Zs];rfl
   rw [Zr _ _ (by show n9+2≠n9+3;omega),Zs];rfl) rfl hw
  refine GTo.then sp ?_
  simp only [push_cast,seval,↓reduceIte,Za,hi]
  refine Yl fun hU8 => ?_
  refine Zy ?_
  try simp only [Zj,Zh]
  have m8:n≤n9+4:=by omega
  refine ⟨.val (.bool true),M9,n9+4,m8,⟨rfl,m8,fun u hu => ?_⟩,?_⟩
  ·rw [hM9,Zr _ _ (by omega),Zr _ _ (by omega),Zr _ _ (by omega),Zr _ _ (by omega)]
   exact ho9 u (by omega)
  refine Ye (P:=Try.prog) (.inr rfl) hU8 [.val (.bool true)] m8 ?_
  simp only [push_cast,seval,↓reduceIte,Za,Try.results7]
 simp only [push_cast,seval,↓reduceIte,Za,Zs]
 refine ⟨rfl,⟨rfl,hN0,?_⟩,rfl,rfl⟩
 show Kt _ O (n+1) [G.val (.int .u64 5)] [G.val (.int .u64 5)]
 simp only [push_cast,seval,↓reduceIte,Za]
def s1 (l:List Int):SG:=([l],131072 - (l.length:Int))
theorem Z6n {l:List Int} {k:Int} (h0:0≤k) (hl:l.length≤131072):Jy 131072 (s1 l) k=if (l.length:Int)+k≤131072 then some (0,(l.length:Int),s1 (l++List.replicate k.toNat 0)) else none:=by
 by_cases c:(l.length:Int)+k≤131072
 ·rw [if_pos c]
  have hls:Qh [l]=l:=rfl
  have e:X4 [l] 131072 (131072 - (l.length:Int)) k=(((([l]:List (List Int)).length:Nat):Int) - 1,((Qh [l]).length:Int),true,[l].set (([l]:List (List Int)).length - 1) (zl (Qh [l]) k),IntKind.i64.wrap (131072 - (l.length:Int) - k)) :=
   (if_neg (by omega)).trans (if_neg (by rw [hls,Gp (by omega)];simp only [List.length_singleton];omega))
  unfold Jy s1
  dsimp only
  rw [e,hls,Gp (by omega)]
  show some _=some _
  have:(l++List.replicate k.toNat (0:Int)).length=l.length+k.toNat:=by simp
  rw [this]
  refine congrArg some (Prod.ext rfl (Prod.ext rfl (Prod.ext rfl ?_)))
  show 131072 - (l.length:Int) - k=131072 - ((l.length+k.toNat:Nat):Int)
  omega
 rw [if_neg c]
 have e:X4 [l] 131072 (131072 - (l.length:Int)) k=(0,0,false,[l],131072 - (l.length:Int)):=if_pos (by omega)
 unfold Jy s1
 dsimp only
 rw [e]
 rfl
theorem Z51 {l:List Int} {a:Nat} (v:Int) (ha:a < l.length):Xb [l] 0 (a:Int) v=[Z9 l (a:Int) v]:=by
 unfold Xb
 have:Xh [l] 0 (a:Int) 1=true:=Zh6 (x:=l) rfl (by omega) (by omega) (by omega)
 rw [if_pos this]
 rfl
theorem Z4u {l:List Int} {a:Nat} (v:Int) (ha:a < l.length):pt1 0 (a:Int) v (s1 l)=s1 (Z9 l (a:Int) v):=by
 unfold pt1 s1
 dsimp only
 rw [Z51 v ha,Ya]
theorem Z25 {l:List Int} {a:Nat} {k u b:Int} (ha:a < l.length):Zko 131072 (s1 l) 0 (a:Int) k u 0 b=some (s1 (Z9 l (a:Int) (if k=0∧u=0 then 4294967292 else nw (a:Int) b k u))):=by
 unfold Zko
 by_cases c:k=0∧u=0
 ·rw [if_pos c,if_pos c,Z4u _ ha]
 rw [if_neg c,if_neg c,if_pos rfl,Z4u _ ha]
theorem Zz3 (X R:List Int) (z v:Int):Z9 (X++(z::R)) (X.length:Int) v=X++(v::R):=by
 unfold Z9
 rw [Int.toNat_natCast,List.set_append_right _ _ (Nat.le_refl _),Nat.sub_self]
 rfl
theorem Zzl:∀ (ws X R:List Int),Xq [X++(List.replicate ws.length 0++R)] 0 (X.length:Int) ws=[X++(ws++R)]
 | [],X,R=>rfl
 | w::ws,X,R=>by
  rw [Xq,List.length_cons,List.replicate_succ,List.cons_append,Z51 w (by simp),Zz3]
  have:=Zzl ws (X++[w]) R
  rw [List.length_append,List.length_singleton,List.append_assoc,List.append_assoc] at this
  exact this
theorem Zqx {X R:List Int} {a:Nat} (v:Int) (h:a < X.length):Z9 (X++R) (a:Int) v=Z9 X (a:Int) v++R:=by
 unfold Z9
 rw [Int.toNat_natCast,List.set_append_left _ _ h]
theorem Zuh {α σ:Type} (g:σ→α→σ):∀ (xs:List α) (s:σ) (i j:Nat),Gk (fun s _ x=>g s x) s i xs=Gk (fun s _ x=>g s x) s j xs
 | [],_,_,_=>rfl
 | x::xs,s,i,j=>Zuh g xs (g s x) (i+1) (j+1)
theorem Z20 {W K:Nat}:∀ (ts:List Tr) (X:List Int),(∀ x∈ts,x.Words.length≤W)→Kf 0 ((W:Int)+(K:Int)) (X.length:Int) ts [X++List.replicate (ts.length * (W+K)) 0]=[cpW W K ts X]
 | [],X,_=>by
  show [X++List.replicate (0 * (W+K)) 0]=[X]
  rw [Nat.zero_mul,List.replicate_zero,List.append_nil]
 | x::ts,X,h=>by
  have hx:=h x List.mem_cons_self
  rw [Kf]
  have e1:List.replicate ((x::ts).length * (W+K)) (0:Int)=List.replicate x.Words.length 0++(List.replicate (W+K - x.Words.length) 0++List.replicate (ts.length * (W+K)) 0):=by
   rw [List.replicate_append_replicate,List.replicate_append_replicate]
   congr 1
   rw [List.length_cons,Nat.add_mul,Nat.one_mul]
   omega
  rw [e1,Zzl]
  have e2:X++(x.Words++(List.replicate (W+K - x.Words.length) 0++List.replicate (ts.length * (W+K)) 0))=(X++x.Words++List.replicate (W+K - x.Words.length) 0)++List.replicate (ts.length * (W+K)) (0:Int):=by simp only [List.append_assoc]
  have e3:(X.length:Int)+((W:Int)+(K:Int))=((X++x.Words++List.replicate (W+K - x.Words.length) (0:Int)).length:Int):=by
   simp only [List.length_append,List.length_replicate]
   omega
  rw [e2,e3,Z20 ts _ (fun y hy=>h y (List.mem_cons_of_mem _ hy))]
  unfold cpW
  exact congrArg (fun z=>[z]) (Zuh (fun s (x:Tr)=>s++x.Words++List.replicate (W+K - x.Words.length) 0) ts _ 0 1)
def One (f:Tr→Int→Int→SG→Option SG) (x:Tr):Prop:=∀ (l:List Int) (a:Nat),a < l.length→l.length≤131072→f x 0 (a:Int) (s1 l)=if (l.length:Int)+sz x≤131072 then some (s1 (ly x l a)) else none
theorem Zzk {f:Tr→Int→Int→SG→Option SG}:∀ (ts:List Tr) (i b:Nat) (l:List Int),(∀ x∈ts,One f x∧Sim x∧0≤sz x)→b+i+ts.length≤l.length→l.length≤131072 →
  Gq f 0 ((b+i:Nat):Int) ts (s1 l)=if (l.length:Int)+(ts.map sz).sum≤131072 then some (s1 (Gk (fun l i x=>ly x l (b+i)) l i ts)) else none
 | [],i,b,l,_,_,hl=>by
  show some (s1 l)=if (l.length:Int)+0≤131072 then some (s1 l) else none
  rw [if_pos (by omega)]
 | x::ts,i,b,l,h,hb,hl=>by
  rw [List.length_cons] at hb
  obtain ⟨h1,h2,h3⟩:=h x List.mem_cons_self
  have hp:=Vb (f:=sz) (xs:=ts) fun y hy=>(h y (List.mem_cons_of_mem _ hy)).2.2
  rw [Gq,h1 l (b+i) (by omega) hl,List.map_cons,List.sum_cons]
  by_cases c:(l.length:Int)+sz x≤131072
  ·obtain ⟨e,_⟩:=h2 l (b+i) (by omega) c
   rw [if_pos c,Option.bind_some,show (((b+i:Nat):Int)+1)=((b+(i+1):Nat):Int) by omega,Zzk ts (i+1) b (ly x l (b+i)) (fun y hy=>h y (List.mem_cons_of_mem _ hy)) (by omega) (by omega),e]
   by_cases c2:(l.length:Int)+sz x+(ts.map sz).sum≤131072
   ·rw [if_pos c2,if_pos (by omega)];rfl
   rw [if_neg c2,if_neg (by omega)]
  rw [if_neg c,if_neg (by omega)];rfl
theorem Z1s {f:Tr→Int→Int→SG→Option SG} {W K:Nat}:∀ (us:List Tr) (i b:Nat) (l:List Int),(∀ u∈us,u.Kids.length≤K∧∀ x∈u.Kids,One f x∧Sim x∧0≤sz x)→b+(i+us.length) * (W+K)≤l.length→l.length≤131072 →
  Gv f 0 ((W:Int)+(K:Int)) (W:Int) ((b+i * (W+K):Nat):Int) us (s1 l)=if (l.length:Int)+(us.map szK).sum≤131072 then some (s1 (Gk (fun s i x=>lyK (b+i * (W+K)+W) x.Kids s) l i us)) else none
 | [],i,b,l,_,_,hl=>by
  show some (s1 l)=if (l.length:Int)+0≤131072 then some (s1 l) else none
  rw [if_pos (by omega)]
 | u::us,i,b,l,h,hb,hl=>by
  rw [List.length_cons] at hb
  obtain ⟨h1,h2⟩:=h u List.mem_cons_self
  have hq:∀ x∈us,0≤szK x:=fun x hx=>Vb fun y hy=>((h x (List.mem_cons_of_mem _ hx)).2 y hy).2.2
  have hp:=Vb (f:=szK) (xs:=us) hq
  have hm:(i+1) * (W+K)≤(i+(us.length+1)) * (W+K):=Nat.mul_le_mul_right _ (by omega)
  have hm2:(i+1) * (W+K)=i * (W+K)+(W+K):=by rw [Nat.add_mul,Nat.one_mul]
  have hm3:(i+1+us.length) * (W+K)=(i+(us.length+1)) * (W+K):=by congr 1;omega
  have hp0:=Vb (f:=sz) (xs:=u.Kids) fun y hy=>(h2 y hy).2.2
  have k1:=Zzk u.Kids 0 (b+i * (W+K)+W) l h2 (by omega) hl
  rw [Nat.add_zero] at k1
  rw [Gv,show (((b+i * (W+K):Nat):Int)+(W:Int))=((b+i * (W+K)+W:Nat):Int) by omega,k1,List.map_cons,List.sum_cons]
  have es:szK u=(u.Kids.map sz).sum:=rfl
  rw [es]
  by_cases c:(l.length:Int)+(u.Kids.map sz).sum≤131072
  ·have e:=Zqv (ks:=u.Kids) (fun x hx=>(h2 x hx).2) (l:=l) (b:=b+i * (W+K)+W) (by omega) c
   rw [if_pos c,Option.bind_some,show (((b+i * (W+K):Nat):Int)+((W:Int)+(K:Int)))=((b+(i+1) * (W+K):Nat):Int) by omega]
   show Gv f 0 _ _ _ us (s1 (lyK (b+i * (W+K)+W) u.Kids l))=_
   rw [Z1s us (i+1) b (lyK (b+i * (W+K)+W) u.Kids l) (fun y hy=>h y (List.mem_cons_of_mem _ hy)) (by omega) (by omega),e]
   by_cases c2:(l.length:Int)+(u.Kids.map sz).sum+(us.map szK).sum≤131072
   ·rw [if_pos c2,if_pos (by omega)];rfl
   rw [if_neg c2,if_neg (by omega)]
  rw [if_neg c,if_neg (by omega)];rfl
theorem Zvs:∀ (n:Nat) (t:Tr) (d:Nat),SizeOf.sizeOf t < n→Fine t d→¬ t.Kind=10→One (Zgr true 131072 n) t
 | 0,_,_,h,_,_=>by omega
 | n+1,t,d,h,hf,h10=>fun l a ha hl=>by
  have p:=hf.pt
  have pk:=Zd0 t
  simp only [Zgr]
  by_cases c0:t.Kind=0
  ·have s0:sz t=0:=by rw [Zlp,if_neg (by omega),if_neg (by omega),if_neg (by omega),if_neg (by omega)]
   rw [if_pos c0,s0,if_pos (by omega),Z1v c0]
  rw [if_neg c0]
  have kd:=Zzj hf c0 h10
  obtain ⟨i1,i2,i3,i4⟩:=Zav hf.rt c0 h10
  have hk:¬ (2≤t.Kind∧t.Kind≤7)→∀ x∈t.Kids,Sim x∧0≤sz x:=fun hn x hx =>
   ⟨Zpg _ x (d - 1) (Nat.lt_succ_self _) (hf.kid hx) (Uf hn (i4 x hx).2).1,(Zuw (hf.kid hx).rt (hf.kid hx).pt).1⟩
  have ho:¬ (2≤t.Kind∧t.Kind≤7)→∀ x∈t.Kids,One (Zgr true 131072 n) x∧Sim x∧0≤sz x:=fun hn x hx =>
   ⟨Zvs n x (d - 1) (by have:=Yw hx;omega) (hf.kid hx) (Uf hn (i4 x hx).2).1,hk hn x hx⟩
  have v0:(0:Int)≤pwd t:=by
   unfold pwd
   split
   ·omega
   split
   ·rename_i h9;have:=(Zzf hf h9).1;omega
   split <;> omega
  rw [Z6n v0 hl]
  by_cases c1:t.Kind=1
  ·have hi2:=i2 c1
   have es:sz t=((t.Words.length:Int)+(t.Kids.length:Int))+(t.Kids.map sz).sum:=by rw [Zlp,if_pos c1]
   have s0:=Vb (f:=sz) (xs:=t.Kids) fun y hy=>(hk (by omega) y hy).2
   rw [Zne c1]
   by_cases q:(l.length:Int)+((t.Words.length:Int)+(t.Kids.length:Int))≤131072
   ·rw [if_pos q,Option.bind_some]
    dsimp only
    rw [show ((t.Words.length:Int)+(t.Kids.length:Int)).toNat=t.Words.length+t.Kids.length by omega,Z25 (by rw [List.length_append];omega),Option.bind_some]
    unfold inT
    rw [if_pos c1]
    have eR:Xq [Z9 (l++List.replicate (t.Words.length+t.Kids.length) 0) (a:Int) (if pkd t=0∧pup t=0 then 4294967292 else nw (a:Int) (l.length:Int) (pkd t) (pup t))] 0 (l.length:Int) t.Words=[RS1 t l a]:=by
     have ek:pkd t=0:=by unfold pkd;rw [if_pos c1]
     have eu:pup t=(t.Words.length:Int)+65536 * (t.Kids.length:Int):=by unfold pup;rw [if_pos c1]
     rw [Zqx _ ha,← List.replicate_append_replicate]
     have:=Zzl t.Words (Z9 l (a:Int) (if pkd t=0∧pup t=0 then 4294967292 else nw (a:Int) (l.length:Int) (pkd t) (pup t))) (List.replicate t.Kids.length 0)
     rw [Ya] at this
     rw [this]
     unfold RS1
     rw [← List.append_assoc]
     congr 4
     rw [ek,eu]
     unfold Zoy nw
     by_cases z:t.Words.length+t.Kids.length=0
     ·rw [if_pos (by omega),if_pos z];omega
     rw [if_neg (by omega),if_neg z];omega
    have l2:(RS1 t l a).length=l.length+t.Words.length+t.Kids.length:=by unfold RS1;rw [List.length_append,List.length_append,Ya,List.length_replicate]
    have eS:((Xq (s1 (Z9 (l++List.replicate (t.Words.length+t.Kids.length) 0) (a:Int) (if pkd t=0∧pup t=0 then 4294967292 else nw (a:Int) (l.length:Int) (pkd t) (pup t)))).1 0 (l.length:Int) t.Words,(s1 (Z9 (l++List.replicate (t.Words.length+t.Kids.length) 0) (a:Int) (if pkd t=0∧pup t=0 then 4294967292 else nw (a:Int) (l.length:Int) (pkd t) (pup t)))).2):SG)=s1 (RS1 t l a):=by
     unfold s1
     dsimp only
     rw [eR,l2,Ya,List.length_append,List.length_replicate]
     refine Prod.ext rfl ?_
     show 131072 - ((l.length+(t.Words.length+t.Kids.length):Nat):Int)=131072 - ((l.length+t.Words.length+t.Kids.length:Nat):Int)
     omega
    have k1:=Zzk t.Kids 0 (l.length+t.Words.length) (RS1 t l a) (ho (by omega)) (by omega) (by omega)
    rw [Nat.add_zero] at k1
    rw [eS,show (l.length:Int)+(t.Words.length:Int)=((l.length+t.Words.length:Nat):Int) by omega,k1,l2,es]
    by_cases c2:(l.length:Int)+((t.Words.length:Int)+(t.Kids.length:Int)+(t.Kids.map sz).sum)≤131072
    ·rw [if_pos (by omega),if_pos c2,(Zrn c1 i1 hi2 (hk (by omega)) l a ha (by omega)).1];rfl
    rw [if_neg (by omega),if_neg c2]
   rw [if_neg q,if_neg (by omega)];rfl
  by_cases c8:t.Kind=8
  ·have es:sz t=(t.Kids.length:Int)+(t.Kids.map sz).sum:=by rw [Zlp,if_neg (by omega),if_neg (by omega),if_pos c8]
   have s0:=Vb (f:=sz) (xs:=t.Kids) fun y hy=>(hk (by omega) y hy).2
   have ek:pkd t=1:=by unfold pkd;rw [if_neg c1]
   have eu:pup t=t.Kind - 2+8 * (t.Kids.length:Int):=by unfold pup;rw [if_neg c1,if_neg (by omega)]
   rw [Zxh c8]
   by_cases q:(l.length:Int)+(t.Kids.length:Int)≤131072
   ·rw [if_pos q,Option.bind_some]
    dsimp only
    rw [Int.toNat_natCast,Z25 (by rw [List.length_append];omega),Option.bind_some]
    unfold inT
    rw [if_neg c1,if_pos c8,if_neg (by omega),ek,eu,Zqx _ ha]
    have hv:nw (a:Int) (l.length:Int) 1 (t.Kind - 2+8 * (t.Kids.length:Int))=hdL t l a:=by unfold nw hdL;omega
    rw [hv]
    have k1:=Zzk t.Kids 0 l.length (Z9 l (a:Int) (hdL t l a)++List.replicate t.Kids.length 0) (ho (by omega)) (by rw [List.length_append,Ya,List.length_replicate];omega) (by rw [List.length_append,Ya,List.length_replicate];omega)
    rw [Nat.add_zero,List.length_append,Ya,List.length_replicate] at k1
    rw [k1,es]
    by_cases c2:(l.length:Int)+((t.Kids.length:Int)+(t.Kids.map sz).sum)≤131072
    ·rw [if_pos (by omega),if_pos c2,(Zw2 c8 (by omega) (hk (by omega)) l a ha (by omega)).1];rfl
    rw [if_neg (by omega),if_neg c2]
   rw [if_neg q,if_neg (by omega)];rfl
  by_cases c9:t.Kind=9
  ·obtain ⟨W,K,f1,f2,f3,f4,f5⟩:=Zq9 hf c9
   have hkk:∀ x∈t.Kids,∀ y∈x.Kids,One (Zgr true 131072 n) y∧Sim y∧0≤sz y:=fun x hx y hy=>by
    have k1:=(Uf (by omega) (i4 x hx).2).2 c9
    have j4:=(Zav (hf.kid hx).rt (by omega) (by omega)).2.2.2 y hy
    have fy:=(hf.kid hx).kid hy
    exact ⟨Zvs n y (d - 1 - 1) (by have:=Yw hx;have:=Yw hy;omega) fy (Uf (by omega) j4.2).1,Zpg _ y (d - 1 - 1) (Nat.lt_succ_self _) fy (Uf (by omega) j4.2).1,(Zuw fy.rt fy.pt).1⟩
   have hq:∀ x∈t.Kids,0≤szK x:=fun x hx=>Vb fun y hy=>(hkk x hx y hy).2.2
   have s0:=Vb (f:=szK) (xs:=t.Kids) hq
   have ek:pkd t=1:=by unfold pkd;rw [if_neg c1]
   have ep:pwd t=1+((t.Kids.length * (W+K):Nat):Int):=by rw [Zpa c9,f1,Int.natCast_mul,Int.natCast_add]
   have eu:pup t=7+8 * ((t.Kids.length * (W+K):Nat):Int):=by unfold pup;rw [if_neg c1,if_pos c9,f1,Int.natCast_mul,Int.natCast_add]
   have et:Zhi t=Zd1 t W K:=by unfold Zhi Zd1;rw [f1]
   rw [ep]
   by_cases q:(l.length:Int)+(1+((t.Kids.length * (W+K):Nat):Int))≤131072
   ·rw [if_pos q,Option.bind_some]
    dsimp only
    rw [show (1+((t.Kids.length * (W+K):Nat):Int)).toNat=t.Kids.length * (W+K)+1 by omega,Z25 (by rw [List.length_append];omega),Option.bind_some]
    unfold inT
    have hc:¬ ((1:Int)=0∧pup t=0):=by omega
    rw [if_neg c1,if_neg c8,if_pos c9,if_pos rfl,ek,if_neg hc,eu,Zqx _ ha,f1]
    dsimp only
    have hv:nw (a:Int) (l.length:Int) 1 (7+8 * ((t.Kids.length * (W+K):Nat):Int))=hd9 t W K l a:=by unfold nw hd9;omega
    rw [hv,List.replicate_succ]
    have eT:(if t.Kids=[] then (s1 (Z9 l (a:Int) (hd9 t W K l a)++0::List.replicate (t.Kids.length * (W+K)) 0)).1 else Xb (s1 (Z9 l (a:Int) (hd9 t W K l a)++0::List.replicate (t.Kids.length * (W+K)) 0)).1 0 (l.length:Int) (Zhi t))=[(Z9 l (a:Int) (hd9 t W K l a)++[Zd1 t W K])++List.replicate (t.Kids.length * (W+K)) 0]:=by
     by_cases z:t.Kids=[]
     ·have:Zd1 t W K=0:=by rw [← et];unfold Zhi;rw [z];rfl
      rw [if_pos z,this,List.append_assoc];rfl
     rw [if_neg z,et]
     show Xb [_] 0 _ _=_
     rw [Z51 _ (by rw [List.length_append,Ya];simp),List.append_assoc]
     have:=Zz3 (Z9 l (a:Int) (hd9 t W K l a)) (List.replicate (t.Kids.length * (W+K)) 0) 0 (Zd1 t W K)
     rw [Ya] at this
     rw [this];rfl
    rw [eT]
    have lX:(Z9 l (a:Int) (hd9 t W K l a)++[Zd1 t W K]).length=l.length+1:=by rw [List.length_append,Ya,List.length_singleton]
    have w1:=Z20 (W:=W) (K:=K) t.Kids (Z9 l (a:Int) (hd9 t W K l a)++[Zd1 t W K]) (fun x hx=>(f4 x hx).1)
    rw [lX,show (((l.length+1:Nat)):Int)=(l.length:Int)+1 by omega] at w1
    rw [w1]
    have lC:=Zze (W:=W) (K:=K) (ks:=t.Kids) (fun x hx=>(f4 x hx).1) (Z9 l (a:Int) (hd9 t W K l a)++[Zd1 t W K])
    rw [lX] at lC
    have eS:(([cpW W K t.Kids (Z9 l (a:Int) (hd9 t W K l a)++[Zd1 t W K])],(s1 (Z9 l (a:Int) (hd9 t W K l a)++0::List.replicate (t.Kids.length * (W+K)) 0)).2):SG)=s1 (cpW W K t.Kids (Z9 l (a:Int) (hd9 t W K l a)++[Zd1 t W K])):=by
     unfold s1
     dsimp only
     rw [lC,List.length_append,Ya,List.length_cons,List.length_replicate]
     refine Prod.ext rfl ?_
     show 131072 - ((l.length+(t.Kids.length * (W+K)+1):Nat):Int)=131072 - ((l.length+1+t.Kids.length * (W+K):Nat):Int)
     omega
    have k1:=Z1s (f:=Zgr true 131072 n) (W:=W) (K:=K) t.Kids 0 (l.length+1) (cpW W K t.Kids (Z9 l (a:Int) (hd9 t W K l a)++[Zd1 t W K])) (fun u hu=>⟨(f4 u hu).2,hkk u hu⟩) (by rw [lC,Nat.zero_add];omega) (by omega)
    rw [Nat.zero_mul,Nat.add_zero,lC] at k1
    rw [eS,show (l.length:Int)+1=((l.length+1:Nat):Int) by omega,k1,f5]
    by_cases c2:(l.length:Int)+(1+((t.Kids.length * (W+K):Nat):Int)+(t.Kids.map szK).sum)≤131072
    ·rw [if_pos (by omega),if_pos c2,(Zw0 c9 (by omega) f1 f2 f3 f4 (fun x hx y hy=>(hkk x hx y hy).2) f5 l a ha (by omega)).1];rfl
    rw [if_neg (by omega),if_neg c2]
   rw [if_neg q,if_neg (by omega)];rfl
  have hkd:2≤t.Kind∧t.Kind≤7:=by omega
  have ha':=Zwc hf hkd
  have ek:pkd t=1:=by unfold pkd;rw [if_neg c1]
  have eu:pup t=t.Kind - 2+8 * (t.Kids.length:Int):=by unfold pup;rw [if_neg c1,if_neg c9]
  have ew:pwd t=((Ze9 (t.Kind - 2) (ato t)).length:Int):=by unfold pwd;rw [if_neg c1,if_neg c9,if_neg c8]
  have el:(Ze9 (t.Kind - 2) (ato t)).length=(t.Kids.length * wid (t.Kind - 2)+63) / 64:=by
   have:=(Zpk (c:=t.Kind - 2) (ns:=ato t) (by omega) (by rw [Zdz];omega) (fun n hn=>by
    obtain ⟨k,hk,rfl⟩:=List.mem_map.1 hn
    obtain ⟨w,hw,q0,_,q1⟩:=ha' k hk
    rw [hw];exact ⟨q0,q1⟩)).2
   rw [this,Zdz]
  have es:sz t=((Ze9 (t.Kind - 2) (ato t)).length:Int):=by
   rw [Zlp,if_neg c1,if_pos hkd,el]
   rfl
  rw [ew,es]
  by_cases q:(l.length:Int)+((Ze9 (t.Kind - 2) (ato t)).length:Int)≤131072
  ·rw [if_pos q,Option.bind_some,if_pos q]
   dsimp only
   rw [Int.toNat_natCast,Z25 (by rw [List.length_append];omega),Option.bind_some]
   unfold inT
   rw [if_neg c1,if_neg c8,if_neg c9,if_neg (by omega),ek,eu,Zqx _ ha]
   have hv:nw (a:Int) (l.length:Int) 1 (t.Kind - 2+8 * (t.Kids.length:Int))=hdL t l a:=by unfold nw hdL;omega
   rw [hv,(Zw1 hkd (by omega) ha' l a ha (by omega)).1]
   have w1:=Zzl (Ze9 (t.Kind - 2) (ato t)) (Z9 l (a:Int) (hdL t l a)) []
   rw [Ya,List.append_nil,List.append_nil] at w1
   refine congrArg some ?_
   unfold s1
   dsimp only
   rw [w1,List.length_append,List.length_append,Ya,List.length_replicate]
  rw [if_neg q,if_neg q];rfl
theorem Z29 {t:Tr} (hb:Bd t) (hp:pt t≤200000):Zq5 true t 131072 131072=if (enc t 131072).2=true then some (s1 (enc t 131072).1) else none:=by
 unfold Zq5 enc
 by_cases c:t.Kind=10∨rt t 64=false
 ·rw [if_pos c,if_pos c];rfl
 rw [if_neg c,if_neg c]
 have c10:¬ t.Kind=10:=fun h=>c (.inl h)
 have hr:rt t 64=true:=by
  cases h:rt t 64 with
  | true=>rfl
  | false=>exact absurd (.inr h) c
 have hF:Fine (nrm t) 64:=Fine.nrm ⟨hb,hr,hp⟩
 have g0:Jy (szB 131072) ([],Zb0 131072) 1=some (0,0,[[0]],131071):=Zlx (k:=1) (A:=[]) (by decide) (by decide) (by decide) (.inl rfl)
 have o:=Zvs (SizeOf.sizeOf (nrm t)+1) (nrm t) 64 (Nat.lt_succ_self _) hF (by rw [Zdj];exact c10) [0] 0 (by decide) (by decide)
 rw [g0,Option.bind_some]
 have e1:Zgr true (szB 131072) (SizeOf.sizeOf (nrm t)+1) (nrm t) 0 0 ([[0]],131071)=_:=o
 dsimp only
 rw [e1]
 by_cases q:131072≤sz (nrm t)∨131072≤sz (nrm t)
 ·rw [if_pos q,if_neg (by show ¬ ((([0]:List Int).length:Int)+sz (nrm t)≤131072);simp only [List.length_singleton];omega)];rfl
 rw [if_neg q,if_pos (by simp only [List.length_singleton];omega)];rfl
theorem Z3a {t:Tr} (hb:Bd t) (hp:pt t≤200000) (most:Int):Zbo t most=some (enc t most):=by
 unfold Zbo enc
 rw [Zxn hb,Option.bind_some]
 by_cases h10:t.Kind=10
 ·rw [if_pos (.inl h10),Uk h10]
  simp
 cases hr:rt t 64 with
 | false =>
  rw [if_pos (.inr rfl),Vq h10]
  simp
 | true =>
  have hf:Fine (nrm t) 64:=Fine.nrm ⟨hb,hr,hp⟩
  have hn:=Zuw hf.rt hf.pt
  rw [if_neg (by simp [h10]),Vq h10]
  simp only [cond_false,cond_true,Bool.not_true,Option.bind_some]
  rw [Zvj hb,Option.bind_some,Z23 (d:=64) hb.nrm hf.rt,Option.bind_some,Zqw,Yv (x:=sz (nrm t)) (by omega) (by omega),Yv (x:=1+sz (nrm t)) (by omega) (by omega)]
  by_cases q:most≤sz (nrm t)∨131072≤sz (nrm t)
  ·rw [if_pos q]
   have q1:(cond (decide (most < 1+sz (nrm t))) true (decide (131072 < 1+sz (nrm t))))=true:=by
    by_cases q2:most≤sz (nrm t)
    ·rw [decide_eq_true (by omega),cond_true]
    rw [decide_eq_false (by omega),cond_false,decide_eq_true (by omega)]
   rw [q1,cond_true]
  rw [if_neg q]
  obtain ⟨a,b,c⟩:=Z6u hf (by rw [Zdj];exact h10) (by omega)
  rw [Yv (x:=1+sz (nrm t)) (by omega) (by omega)] at c
  have q1:(cond (decide (most < 1+sz (nrm t))) true (decide (131072 < 1+sz (nrm t))))=false:=by
   rw [decide_eq_false (by omega),cond_false,decide_eq_false (by omega)]
  rw [q1,cond_false,c]
theorem Zq8 {T:Ql} {O X:Objs} {n m:Nat} {E:Env} {rs:List ResultVar} {r:G} {e:Exit} (hU:Und O n) (hm:n≤m) (hX:∀ u,u < n→X u=O u) (he:e = .normal∨e = .ret) (gs:List G)
  (h:Zem T O ⟨E.n,E.keep,E.l⟩ rs=some gs∧wk O O n (Zkr gs) r∧Zmb X O n E.l E.l):Fin T rs r n O n e E X m :=
 ⟨he,⟨E.n,E.keep,E.l⟩,O,n,gs,Fit2.of ⟨rfl,Zvh hU (fun t o ht=>by
  rcases Nat.lt_or_ge t n with q | q
  ·rw [hX t q];exact ht
  rw [hU.fresh t q] at ht;cases ht),h.2.2⟩ (Nat.le_refl _),h.1,less_self hU,h.2.1⟩
open Classical in
noncomputable def V9 (a0:Zc):Option Bool:=if Bd a0 then some true else none
theorem Zq6 {t:Tr} (h:Bd t):V9 t=some true:=if_pos h
theorem Zil {a0:Zc} {r:Bool} {O:Objs} {n:Nat} (h:V9 a0=some r):GTo Try.prog 4 [.agg (Zf a0)] O n (.val (.bool r)) O n:=by
 have hbd:Bd a0:=by
  unfold V9 at h
  split at h
  ·assumption
  cases h
 rw [Zq6 hbd] at h
 have:=Option.some.inj h;subst this
 obtain ⟨bf,hfew,hpt⟩:=Z5j hbd
 refine Yt Zd Try.call4 Try.func4 rfl (Nat.le_of_ble_eq_true rfl) (Nat.le_refl _) fun hU => ?_
 have hN0:O n=none:=hU.fresh _ (Nat.le_refl _)
 have hN:∀ k,O (n+k)=none:=fun k=>hU.fresh _ (Nat.le_add_right _ _)
 show Go.Proofs.Ytaddaloondpnkaa.W _ _ _ _ ⟨41,[],[(0,.agg (Zf a0))]⟩ (Zu O n []) _
 rw [Qd hU.fresh]
 refine Zl [1] (Zb Zd [] ?_)
 simp only [push_cast,seval,↓reduceIte,Za,hN0,hN]
 obtain ⟨Z,hZ⟩:∃ Z,Z=O.upd n (some ⟨false,25,3,1,Zf a0⟩):=⟨_,rfl⟩
 have hZn:Z n=some ⟨false,25,3,1,Zf a0⟩:=by rw [hZ];exact Zs _ _ _
 have hZo:∀ u,u < n→Z u=O u:=fun u hu=>by rw [hZ];exact Zr _ _ (by omega)
 have hZ2:=hZ
 simp only [push_cast] at hZ2 hZn
 rw [← hZ2]
 have hn1:n < n+1:=Nat.lt_succ_self n
 refine Yl fun hUZ => ?_
 refine Zk ?_
 refine Zl [1,9] (Zb Zd [] ?_)
 simp only [push_cast,seval,↓reduceIte,Za,hn1,hZn]
 refine (Zoz hfew).then ?_
 simp only [push_cast,seval,↓reduceIte,Za,hn1,hZn]
 cases bf with
 | false =>
  simp only [push_cast,seval,↓reduceIte,Za]
  refine Zq (t:=true) rfl (fun c15 => ?_) (fun c15=>by cases c15)
  refine Zl [2] (Zb Zd [] ?_)
  simp only [push_cast,seval,↓reduceIte,Za,hn1,hZn]
  refine Zu0 fun O9 n9 m9 ho9 => ?_
  simp only [push_cast,seval,↓reduceIte,Za]
  refine Zy ?_
  try simp only [Zj,Zh]
  refine Zq8 hU (Nat.le_trans (Nat.le_succ n) m9) (fun u hu=>(ho9 u (by omega)).trans (hZo u hu)) (.inr rfl) [.val (.bool true)] ?_
  simp only [push_cast,seval,↓reduceIte,Za,Try.results4]
 | true =>
  have hp2:pt a0≤200000:=by have:=hpt rfl;omega
  have henc:=Z3a hbd hp2 131072
  have hbld:=Z29 hbd hp2
  simp only [push_cast,seval,↓reduceIte,Za]
  refine Zq (t:=false) rfl (fun c15=>by cases c15) (fun c15 => ?_)
  refine Z0 ?_
  try simp only [Zj,Zh]
  refine Zl [1,3,4] (Zb Zd [] ?_)
  simp only [push_cast,seval,↓reduceIte,Za,hn1,hZn]
  refine (Zwg hbd hp2 131072 131072).mono fun r O5 n5 hE => ?_
  obtain ⟨m5,ho5,hres⟩:=hE
  have hn5:n < n5:=by omega
  have h5n:=(ho5 n hn1).trans hZn
  cases e2:(enc a0 131072).2 with
  | false =>
   rw [hbld,if_neg (by rw [e2];decide)] at hres
   subst hres
   simp only [push_cast,seval,↓reduceIte,Za,hn5,h5n]
   refine Yl fun hU5 => ?_
   refine Zl [3,4,5,6] (Zb Zd [] ?_)
   simp only [push_cast,seval,↓reduceIte,Za,hn5,h5n]
   refine (Zkk henc).then ?_
   simp only [push_cast,seval,↓reduceIte,Za,hn5,h5n,e2]
   refine Zk ?_
   refine Zl [3,4,5,6,26] (Zb Zd [Uh,Uh] ?_)
   simp only [push_cast,seval,↓reduceIte,Za]
   refine Zq (t:=true) rfl (fun c15 => ?_) (fun c15=>by cases c15)
   refine Zl [2] (Zb Zd [some true] ?_)
   simp only [push_cast,seval,↓reduceIte,Za]
   refine Zu0 fun O9 n9 m9 ho9 => ?_
   simp only [push_cast,seval,↓reduceIte,Za]
   refine Zy ?_
   try simp only [Zj,Zh]
   refine Zq8 hU (by omega) (fun u hu=>(ho9 u (by omega)).trans ((ho5 u (by omega)).trans (hZo u hu))) (.inr rfl) [.val (.bool true)] ?_
   simp only [push_cast,seval,↓reduceIte,Za,Try.results4]
  | true =>
   rw [if_pos e2] at hbld
   rw [hbld] at hres
   obtain ⟨i,j,L,rfl,A5,ht5⟩:=hres
   have hst:=Z5f hbld
   obtain ⟨w,hw⟩:∃ w,w=(enc a0 131072).1:=⟨_,rfl⟩
   have hr:enc a0 131072=(w,true):=Prod.ext hw.symm e2
   rw [hr] at henc
   rw [← hw] at A5 hst
   have hl:(w.length:Int)≤131072:=by
    have h1:=hst.hB w (List.mem_singleton.2 rfl)
    have:=hst.hl0
    omega
   have hwo:WO [w]:=Z77 (Nat.le_of_ble_eq_true rfl) (fun x hx=>by rw [List.mem_singleton.1 hx];exact hl)
   have hi:=A5.1.hi
   simp only [push_cast,seval,↓reduceIte,Za,hi,hn5,h5n]
   refine Yl fun hU5 => ?_
   refine Zl [3,4,5,6] (Zb Zd [] ?_)
   simp only [push_cast,seval,↓reduceIte,Za,hi,hn5,h5n]
   refine (Zkk henc).then ?_
   simp only [push_cast,seval,↓reduceIte,Za,hi,hn5,h5n]
   refine Zk ?_
   refine Zl [3,4,5,6,26] (Zb Zd [Ua,Ua] ?_)
   simp only [push_cast,seval,↓reduceIte,Za,hi]
   refine Zq (t:=false) rfl (fun c15=>by cases c15) (fun c15 => ?_)
   refine Z0 ?_
   try simp only [Zj,Zh]
   have hM0:O5 n5=none:=hU5.fresh _ (Nat.le_refl _)
   have sg:=Zz2 A5.1 A5.2 hwo
   refine Zl [2] (Zb Zd [some true] ?_)
   simp only [push_cast,seval,↓reduceIte,Za,hi]
   refine GTo.then sg ?_
   simp only [push_cast,seval,↓reduceIte,Za,hi]
   refine GCalls.lend (Zez (Zz1 hwo)) rfl ?_ ?_
   ·unfold Kt
    refine ⟨_,_,rfl,Zpj _ (by show G.unders 0 _=true;exact Y7 _ _ (Yr Xs [w])),?_⟩
    unfold Kt
    refine ⟨_,_,rfl,?_,J9 rfl⟩
    unfold wk
    exact ⟨rfl,rfl,_,Zs _ _ _,rfl,rfl,Ks _ (by show G.unders 0 _=true;exact Y7 _ _ (Yr Xs [w]))⟩
   simp only [push_cast,seval,↓reduceIte,Za,hi]
   refine Zu0 fun O9 n9 m9 ho9 => ?_
   simp only [push_cast,seval,↓reduceIte,Za]
   refine Zy ?_
   try simp only [Zj,Zh]
   refine Zq8 hU (by omega) (fun u hu=>(ho9 u (by omega)).trans ((Zr _ _ (by omega)).trans ((ho5 u (by omega)).trans (hZo u hu)))) (.inr rfl) [.val (.bool true)] ?_
   simp only [push_cast,seval,↓reduceIte,Za,Try.results4]
end Go.Proofs.Ytaddaloondpnkaa
