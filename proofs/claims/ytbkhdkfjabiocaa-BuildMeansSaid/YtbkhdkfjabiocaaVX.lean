/- Part VX; each theorem bears its own conditions. -/
import Derived.Test.YtbkhdkfjabiocaaVN
namespace Go.Proofs.Ytbkhdkfjabiocaa
open Go.RowKit
set_option linter.unusedVariables false
set_option linter.unusedSimpArgs false
set_option maxRecDepth 100000
set_option maxHeartbeats 4000000
attribute [local push_cast] Xm Zf Qi Yb Zn Zmh Zmg Znd Znc Zk Zg Zir Zd5 Zd4 onW Y9 Zbs Zbf Zo6 Zlg Zgj Zgn Zgi Zgm Zjv Zjq Zgl Zju Zjt Zjs Zgk Zjo Zeu evS wok Qq Op.operands Call.operands gop onK onP atK List.all_cons List.all_nil Bool.and_true Bool.true_and Bool.and_self Value.oneCell' List.take_zero List.take_succ_cons List.take_nil List.drop_zero List.drop_succ_cons List.drop_nil List.append_nil Nat.add_zero Nat.zero_add Vt Yd ev Q0 Zpl Zma Zl9 Zmf Zmd Zme Zmb Zmc Zl8 Zqk Zro Zut Zgw Zav Zgv Zbm Zf8 Zd7 Zb3 Zb8 Zd0 Zdw Zb6 Zdz Zdy Zdx Zb5 Zdu Zb4 Zb7 Zbe Zdv Zke Zd6 Ut Zfp Uu Zh2 Zgu Ztx bLo bHi bMx Zaw Zh1 Zv9 Zgs Ziq Zc4 Vf Zqo Zwa Zfo Zc2 Zwc Zau Zy5 Ziz Zi3 Ziy Zi2 Zm2 Zmy Zmw Zgb Zi0 Zm1 Zm0 Zmz Zi1 Zmr Zmu Zmq Zmt Zr1 Zry Zrx Zms Zrz Zr0 Zmx Zh3 Zot Zjk Zem Zel pop TK.isAgg Zm5 Zm9 Zm4 Zm8 Zjb Zsd Zr9 Zm7 Zsc Zsb Zsa Zm6 Zr8 G.under G.unders List.getD_cons_zero List.getD_cons_succ List.set_cons_zero List.set_cons_succ List.map_cons List.map_nil List.toList_toArray Array.toList_append Option.toArray_none Option.toArray_some Array.toList_map Option.map_some Option.map_none Option.bind_some Option.bind_none List.getElem?_cons_zero List.getElem?_cons_succ List.getElem?_nil List.nil_append List.cons_append List.replicate_succ List.replicate_zero List.length_cons List.length_nil and_true true_and and_false false_and Bool.true_eq_false Bool.false_eq_true forall_const false_implies implies_true IntKind.bits if_true if_false ite_true ite_false eq_self true_implies false_or or_false or_true true_or not_true_eq_false not_false_eq_true decide_true decide_false decide_eq_true_eq decide_eq_false_iff_not beq_iff_eq bne_iff_ne ne_eq Bool.not_eq_true Bool.not_eq_false beq_eq_false_iff_ne bne_eq_false_iff_eq beq_self_eq_true bne_self_eq_false Option.some.injEq exists_eq_left' exists_eq_left ge_iff_le gt_iff_lt decide_not Bool.not_true Bool.not_false imp_self Zru cond_true cond_false Z5b Z5a Bool.not_not Bool.and_false Bool.false_and Bool.or_true Bool.true_or Bool.or_false Bool.false_or V8 Zbx Zam U3 Uc Kv Option.join_some Nat.add_assoc Int.toNat_natCast eI eB eS eL Zc0 Zd3 Zcc Zmk Zmi Zmj Zzq Z1p Zei Zck Znj Znh Zni Zvf Zk6 Zth Zk4 Zqb Zcb Zpj List.length_append G.agg.injEq G.row.injEq G.ref.injEq G.val.injEq G.sl.injEq G.tup.injEq Value.int.injEq Value.bool.injEq Value.string.injEq List.cons.injEq exists_and_left exists_const List.flatten_cons List.flatten_nil Int.le_refl Nat.le_refl Zff Kk Ze3 Bool.not_eq_true' Bool.not_eq_false' Zoq Zfg Zs9 Ztd Zs8 Ztc Zyo Zyj List.size_toArray Zp1 Zpb G.ren G.rens Zsh Zeo Znq Zl6 Zl7 Zjp Zte Zef G.fn.injEq Zhj Zj9 Zop Zyk Zhi Ztb Zyn Zym Zyl Zta Zr3 Zw7 Option.join_none Z9 V7 undef Ziv Arr.len Arr.put_eq Zeh Zgd Zeg Zcj Zng Zne Znf onB Zzp Zqj Jc Zf5 Zib Zic Zid Zie Zif Zig Zgc Zgg Zge Zek Zcl Zgf Zji Zjh Zjg Zjf Zzr Z1o Zve Zt2 Jy Zu4 Zou Zgh Zej Zq8 Zq7 Z30 Zwl Zpd Zgq Zin Zbz Zhb Zih Zii Zij Zik Zfs Zft Zfu Zfv Zfw Zfx Zfy Zfz Zf0 Zf1 Zf2 Zf3 Zf4 Zdo prT Zc6 Z56 Zs0 Zz4 Zs1 Z57 Zs2 Z58 Zs3 Z59 Zs4 Z6a Zs5 Z6b Zs6 Z6c Zs7 Zxk Zns Zxl Znt Zxm Znu Zxn Znv Zxo Znw Zxp Znx Zxq Zny Zxr Znz Zxs Zn0 Zxt Zn1 Zxu Zn2 Zdq Zfr Ztt Zhw Zxv Zn3 Uo Zn4 Zxw Zhx Zxx Zn5 Zxy Zn6 Zxz Zn7 Zx0 Zn8 Zap Zn9 Zx1 Zoa Zx2 Zob Zx3 Zoc Zx4 Zod Zx5 Zoe Zx6 Zof Zx7 Zog Zx8 Zoh Zx9 Zoi Zya Zoj Zyb Zok Zyc Zol Zyd Zom Zye Zon Zyf Zoo Zsn Zjx Zso Zjy Zsp Zjz Zsq Zj0 Zsr Zj1 Zss Zj2 Zst Zj3 Zsu Zj4 Zsv Zj5 Zsw Zj6 Zsx Zj7 Zsy Zj8 Zo Zba Zex Zea Zee Ze0 Zcs Zcq Zco V5 Zaj Zai Zab Zag Zak Gj Gi Gh Zah J7 J6 Jz J0 J8 Jp Jo Jn J5 Zi Y1 Vo Vn Vi Vk Vp K6 K4 K3 Vm Zey Zew Zd9 Zed Zez Zcr Zcp Zcn Zev Zca U7 Zb9 U8 Z7 Q8 Q7 Q4 Q5 Q9 Qx Qv Qu Q6 Z4 Qe Qd X9 Qa Qf Xy Xx Xw Qc
theorem GCalls.less {P:Program} {f:FuncId} {gs gs':List G} {O O2:Objs} {n:Nat} {K:G→Objs→Nat→Prop} (h:GCalls P f gs' O2 n K) (hL:LessO O O2 n) (hw:Vh O O2 n gs gs'):GCalls P f gs O n K:=by
 refine ⟨h.1,fun w m vs hM hr=>(h.2 w m vs (hM.weak hL) (Ki hM hL _ _ hr _ hw)).mono fun e w' ⟨v,g,O',n',m',h1,h2,h3,h4,h5⟩=>⟨v,g,O',n',m',h1,h2,⟨h3.os,h3.tape,h3.output,h3.size,h3.more,fun b hb ho=>h3.keep b hb (fun q=>ho (hL.owns q)),fun i hi o' ho' => ?_⟩,h4,h5⟩⟩
 obtain ⟨o2,k1,k2,k3,k4⟩:=h3.stay i hi o' ho'
 obtain ⟨o,a1,a2,_,_,a5,_⟩:=hL.obj i o2 k1
 exact ⟨o,a1,k2.trans a2,by omega,fun e=>k4 (by rcases e with e | e;exact .inl (by omega);exact .inr e)⟩
def szB (size:Int):Int:=if size < 1 then 1 else size
def Vb (most:Int):Int:=if 131072 < (if most < 0 then 0 else most) then 131072 else (if most < 0 then 0 else most)
theorem Z1f (most:Int):0≤Vb most∧Vb most≤131072:=by
 have key:∀ k:Int,0≤k→0≤(if 131072 < k then 131072 else k)∧(if 131072 < k then 131072 else k)≤131072:=fun k h=>by
  by_cases c:131072 < k
  ·rw [if_pos c];exact ⟨by omega,Int.le_refl _⟩
  rw [if_neg c];exact ⟨h,Int.not_lt.1 c⟩
 refine key _ ?_
 by_cases c:most < 0
 ·rw [if_pos c];exact Int.le_refl _
 rw [if_neg c];exact Int.not_lt.1 c
noncomputable def Zh0 (o:Bool) (t:Tr) (size most:Int):Option SG :=
 if t.Kind=10∨rt t 64=false then none else (Jj (szB size) ([],Vb most) 1).bind fun r=>Zhl o (szB size) (SizeOf.sizeOf (nrm t)+1) (nrm t) r.1 r.2.1 r.2.2
theorem Zvt (size most:Int):St (szB size) (Vb most) ([],Vb most):=⟨Nat.zero_le _,(Z1f most).1,Int.le_refl _,(Z1f most).2,fun x hx=>by cases hx⟩
theorem Z0j {t:Tr} (hb:Bd t) (hp:pt t≤200000) (size most:Int):Zh0 true t size most=Zh0 false t size most:=by
 unfold Zh0
 by_cases c:t.Kind=10∨rt t 64=false
 ·rw [if_pos c,if_pos c]
 rw [if_neg c,if_neg c]
 have hr:rt t 64=true:=by
  cases h:rt t 64 with
  | true=>rfl
  | false=>exact absurd (.inr h) c
 have hF:Fine (nrm t) 64:=Fine.nrm ⟨hb,hr,hp⟩
 cases hg:Jj (szB size) ([],Vb most) 1 with
 | none=>rw [Option.bind_none,Option.bind_none]
 | some r =>
  have g:=Jk (Zvt size most) hg
  rw [Option.bind_some,Option.bind_some]
  exact Zuy (szB size) (Vb most) _ (nrm t) 64 (Nat.lt_succ_self _) hF (by rw [Za7];exact fun h=>c (.inl h)) r.1 r.2.1 r.2.2 g.2.2.2.2.1 (Gx g.2.2.2.2.2.2.1 (Int.le_refl _) (by omega))
theorem Ybq {o:Bool} {t:Tr} {size most:Int} {τ:SG} (h:Zh0 o t size most=some τ):St (szB size) (Vb most) τ:=by
 unfold Zh0 at h
 split at h
 ·cases h
 cases hg:Jj (szB size) ([],Vb most) 1 with
 | none=>rw [hg] at h;cases h
 | some r =>
  rw [hg] at h
  have g:=Jk (Zvt size most) hg
  exact ((Zd8 o (szB size) (Vb most) _ _ _ _ _ g.2.2.2.2.1).1 τ h).1
def Yd4 (res:Option SG) (O:Objs) (n:Nat) (size most:Int) (r:G) (O':Objs) (n':Nat):Prop :=
 n≤n'∧(∀ u,u < n→O' u=O u)∧match res with
  | none=>r = .tup [.val (.pointer none),.val (.bool false)]
  | some τ=>∃ i j L,r = .tup [.ref i 0,.val (.bool true)]∧AP (szB size) O' n' i j L τ∧∀ u,ter i j L u→n≤u
theorem Yb8 {O:Objs} {n:Nat} (hU:Und O n) (size most:Int):GTo Try.prog 17 [.val (.int .i64 size),.val (.int .i64 most)] O n (.ref n 0) (Zy O n [some (HP (n+1) (szB size) (Vb most) 0),some ⟨true,22,1,0,[]⟩]) (n+2) :=
 Zzl (r:=⟨[],szB size,Vb most⟩) rfl
theorem Yb9 {O:Objs} {n:Nat} (hU:Und O n) (H:Nat→GObj):PX H (Zy O n [some (H 0),some ⟨true,22,1,0,[]⟩]) (n+2) n (n+1) [] :=
 ⟨by omega,by omega,by omega,by rw [Zbx];rfl,by rw [V8];rfl,fun x hx=>(by cases hx),fun x hx=>(by cases hx),fun x hx=>(by cases hx),fun x hx=>(by cases hx),List.nodup_nil⟩
theorem Zrh {i j u:Nat} (h:ter i j [] u):u=i∨u=j:=by
 rcases h with h | h | ⟨y,hy,_⟩
 ·exact .inl h
 ·exact .inr h
 cases hy
theorem Z6w {O:Objs} {n:Nat} {t:Tr} (hbd:Bd t) (hpt:pt t≤200000) (size most:Int) :
  GCalls Try.prog 6 [.agg (Zf t),.val (.int .i64 size),.val (.int .i64 most)] O n (Yd4 (Zh0 true t size most) O n size most):=by
 have hright:=Z8j hbd
 have hnorm:=Z4i hbd
 refine Zld Zc Try.call6 Try.func6 rfl (Nat.le_of_ble_eq_true rfl) fun hU => ?_
 have hN0:O n=none:=hU.fresh _ (Nat.le_refl _)
 have hN:∀ k,O (n+k)=none:=fun k=>hU.fresh _ (Nat.le_add_right _ _)
 show Go.Proofs.Ytbkhdkfjabiocaa.W _ _ _ _ ⟨44,[],[(0,.agg (Zf t)),(1,.val (.int .i64 size)),(2,.val (.int .i64 most))]⟩ (Zy O n []) _
 rw [Kj hU.fresh]
 refine Zp [1,2,3] (Zb Zc [] ?_)
 simp only [push_cast,seval,Za,hN0,hN]
 obtain ⟨Z,hZ⟩:∃ Z,Z=O.upd n (some ⟨false,25,3,1,Zf t⟩):=⟨_,rfl⟩
 have hZn:Z n=some ⟨false,25,3,1,Zf t⟩:=by rw [hZ];exact Z9 _ _ _
 have hZo:∀ u,u < n→Z u=O u:=fun u hu=>by rw [hZ];exact Ya _ _ (by omega)
 have hZ2:=hZ
 simp only [push_cast] at hZ2 hZn
 rw [← hZ2]
 have hn1:n < n+1:=Nat.lt_succ_self n
 refine Y8 fun hUZ => ?_
 refine Zj ?_
 by_cases cc:t.Kind=10∨rt t 64=false
 ·have eB:Zh0 true t size most=none:=by unfold Zh0;rw [if_pos cc]
  refine Xk (E':=⟨44,[],[(1,.val (.int .i64 size)),(2,.val (.int .i64 most)),(3,.ref n 0),(19,.val (.bool true))]⟩) (O':=Z) (n0:=n+1) ?_ ?_
  ·by_cases c10:t.Kind=10
   ·have d1:(t.Kind == 10)=true:=Zo5 c10
    refine Zb Zc (Z95 []) ?_
    simp only [push_cast,seval,Za,hn1,hZn,d1]
    refine And.intro rfl (Ka hUZ (Nat.le_succ n) rfl ?_)
    simp only [push_cast,seval,Za,hn1,hZn]
   have d1:(t.Kind == 10)=false:=Vu c10
   have hr:rt t 64=false:=cc.resolve_left c10
   rw [hr] at hright
   refine Zb Zc (Z1k []) ?_
   simp only [push_cast,seval,Za,hn1,hZn,d1]
   refine (Zpa hright).then ?_
   simp only [push_cast,seval,Za,hn1,hZn,d1]
   refine And.intro rfl (Ka hUZ (Nat.le_succ n) rfl ?_)
   simp only [push_cast,seval,Za,hn1,hZn]
  refine Zs (t:=true) rfl (fun c15 => ?_) (fun c15=>by cases c15)
  refine Zp [6,7] (Zb Zc [] ?_)
  simp only [push_cast,seval,Za]
  refine Zu ?_
  try simp only [Zk,Zg]
  refine ⟨.tup [.val (.pointer none),.val (.bool false)],Z,n+1,Nat.le_succ n,⟨Nat.le_succ n,hZo,by rw [eB]⟩,?_⟩
  refine Yl (P:=Try.prog) (.inr rfl) hUZ [.val (.pointer none),.val (.bool false)] (Nat.le_succ n) ?_
  simp only [push_cast,seval,Za,Try.results6]
 have c10:¬ t.Kind=10:=fun h=>cc (.inl h)
 have hr:rt t 64=true:=by
  cases h:rt t 64 with
  | true=>rfl
  | false=>exact absurd (.inr h) cc
 have eB:Zh0 true t size most=(Jj (szB size) ([],Vb most) 1).bind fun r=>Zhl true (szB size) (SizeOf.sizeOf (nrm t)+1) (nrm t) r.1 r.2.1 r.2.2:=by unfold Zh0;rw [if_neg cc]
 have hF:Fine (nrm t) 64:=Fine.nrm ⟨hbd,hr,hpt⟩
 have d1:(t.Kind == 10)=false:=Vu c10
 rw [hr] at hright
 have hs0:=Zvt size most
 refine Zp [1,2,3,19] (Zb Zc (Z1k []) ?_)
 simp only [push_cast,seval,Za,hn1,hZn,d1]
 refine (Zpa hright).then ?_
 simp only [push_cast,seval,Za,hn1,hZn,d1]
 refine Zs (t:=false) rfl (fun c15=>by cases c15) (fun c15 => ?_)
 refine Zw ?_
 try simp only [Zk,Zg]
 obtain ⟨X,hX⟩:∃ X,X=Zy Z (n+1) [some (HP (n+1+1) (szB size) (Vb most) 0),some ⟨true,22,1,0,[]⟩]:=⟨_,rfl⟩
 have hXpx:PX (HP (n+1+1) (szB size) (Vb most)) X (n+3) (n+1) (n+1+1) []:=by rw [hX];exact Yb9 hUZ _
 have hXo:∀ u,u < n+1→X u=Z u:=fun u hu=>by rw [hX];exact Kk _ hu
 have hXU:X (n+3)=none:=by rw [hX,show n+3=n+1+2 by omega,V8];rfl
 refine Zp [3,8] (Zb Zc [] ?_)
 simp only [push_cast,seval,Za,hn1,hZn]
 have gn:=Yb8 hUZ size most
 rw [← hX] at gn
 refine GTo.then gn ?_
 simp only [push_cast,seval,Za,hn1,hZn]
 obtain ⟨Y,hY⟩:∃ Y,Y=X.upd (n+3) (some ⟨false,48,1,1,[.ref (n+1) 0]⟩):=⟨_,rfl⟩
 rw [← hY]
 have A4:AP (szB size) Y (n+4) (n+1) (n+1+1) [] ([],Vb most):=⟨hXpx.frame (fun u hu=>by rw [hY];exact Ya _ _ (by rcases Zrh hu with h | h <;> omega)) (by omega),rfl⟩
 have hYn:Y n=some ⟨false,25,3,1,Zf t⟩:=by rw [hY,Ya _ _ (by omega),hXo _ (by omega)];exact hZn
 have hY3:Y (n+3)=some ⟨false,48,1,1,[.ref (n+1) 0]⟩:=by rw [hY];exact Z9 _ _ _
 have hYo:∀ u,u < n→Y u=O u:=fun u hu=>by rw [hY,Ya _ _ (by omega),hXo _ (by omega)];exact hZo u hu
 simp only [push_cast] at hYn
 have ht0:¬ ter (n+1) (n+1+1) [] n:=fun q=>by rcases Zrh q with h | h <;> omega
 have ht3:¬ ter (n+1) (n+1+1) [] (n+3):=fun q=>by rcases Zrh q with h | h <;> omega
 have htu:∀ u,u < n→¬ ter (n+1) (n+1+1) [] u:=fun u hu q=>by rcases Zrh q with h | h <;> omega
 have hn1:n < n+4:=by omega
 have hn3:n+3 < n+4:=by omega
 have hi:n+1 < n+4:=by omega
 refine Zp [3,8,9,10,11] (Zb Zc [] ?_)
 simp only [push_cast,seval,Za,hi,hn1,hn3,hYn,hY3]
 cases hg:Jj (szB size) ([],Vb most) 1 with
 | none =>
  rw [hg,Option.bind_none] at eB
  obtain ⟨ga,gb,O9,n9,L9,g5,F9⟩:=Zrs A4 hs0 hg
  have m9:n≤n9:=Nat.le_trans (by omega) F9.le
  refine g5.then ?_
  obtain ⟨q1,q2,q3⟩:=F9.keep hn1 (fun q=>q) ht0
  obtain ⟨v1,v2,v3⟩:=F9.keep hn3 (fun q=>q) ht3
  have hYn:=q1.trans hYn
  have hY3:=v1.trans hY3
  simp only [push_cast,seval,Za,q2,v2,hYn,hY3]
  refine Y8 fun hU9 => ?_
  refine Zj ?_
  refine Zp [41] (V6 Zc (by kernel_rfl) (Z5w []) (Z1v (by kernel_rfl)) ?_)
  simp only [push_cast,seval,Za,q2,v2,hYn,hY3]
  refine Zs (t:=true) rfl (fun c15 => ?_) (fun c15=>by cases c15)
  refine Zp [6,7] (Zb Zc [] ?_)
  simp only [push_cast,seval,Za]
  refine Zu ?_
  try simp only [Zk,Zg]
  refine ⟨.tup [.val (.pointer none),.val (.bool false)],O9,n9,m9,⟨m9,fun u hu=>(F9.off u (by omega) (fun q=>q) (htu u hu)).trans (hYo u hu),by rw [eB]⟩,?_⟩
  refine Yl (P:=Try.prog) (.inr rfl) hU9 [.val (.pointer none),.val (.bool false)] m9 ?_
  simp only [push_cast,seval,Za,Try.results6]
 | some r =>
  rw [hg,Option.bind_some] at eB
  have g:=Jk hs0 hg
  obtain ⟨O5,n5,L5,g5,A5,F5⟩:=Zrt A4 hs0 hg
  refine g5.then ?_
  obtain ⟨q1,q2,q3⟩:=F5.keep hn1 (fun q=>q) ht0
  obtain ⟨v1,v2,v3⟩:=F5.keep hn3 (fun q=>q) ht3
  have hYn:=q1.trans hYn
  have hY3:=v1.trans hY3
  have hi:=A5.1.hi
  simp only [push_cast,seval,Za,hi,q2,v2,hYn,hY3]
  refine Y8 fun hU5 => ?_
  refine Zj ?_
  refine Zp [3,8,41] (U0 Zc (by kernel_rfl) [.plain,.plain,.plain,.plain,.plain,.plain,.plain,.plain,.bar,.plain,.plain] (fun _=>True) [0,1,2,3,4,5,6,7,8,9,10] [.plain,.plain,.plain,.plain,.plain,.plain,.plain,.plain,.bar,.plain,.plain] (Z74 []) (by kernel_rfl) rfl ?_)
  simp only [push_cast,seval,Za,hi,q2,v2,hYn,hY3]
  refine PCall.of (Zqy hnorm) ?_
  simp only [push_cast,seval,Za,hi,q2,v2,hYn,hY3]
  refine (@Zvh (szB size) (Vb most) (SizeOf.sizeOf (nrm t)+1) (nrm t) 64 (Nat.lt_succ_self _) hF (by rw [Za7];exact c10) O5 n5 (n+1) (n+1+1) L5 r.2.2 r.1 r.2.1 A5 g.2.2.2.2.1 (Gx g.2.2.2.2.2.2.1 (Int.le_refl _) (by omega))).mono fun r' O9 n9 hE => ?_
  obtain ⟨L9,F9,hres⟩:=hE
  obtain ⟨p1,p2,p3⟩:=F9.keep q2 (fun q=>q) q3
  obtain ⟨w1,w2,w3⟩:=F9.keep v2 (fun q=>q) v3
  have hYn:=p1.trans hYn
  have hY3:=w1.trans hY3
  have F59:=F5.trans F9
  have m9:n≤n9:=Nat.le_trans (by omega) F59.le
  have ho9:∀ u,u < n→O9 u=O u:=fun u hu=>(F59.off u (by omega) (fun q=>q) (htu u hu)).trans (hYo u hu)
  cases ec:Zhl true (szB size) (SizeOf.sizeOf (nrm t)+1) (nrm t) r.1 r.2.1 r.2.2 with
  | none =>
   rw [ec] at hres eB
   subst hres
   simp only [push_cast,seval,Za,p2,w2,hYn,hY3]
   refine Y8 fun hU9 => ?_
   refine Zs (t:=true) rfl (fun c15 => ?_) (fun c15=>by cases c15)
   refine Zp [6,7] (Zb Zc [] ?_)
   simp only [push_cast,seval,Za]
   refine Zu ?_
   try simp only [Zk,Zg]
   refine ⟨.tup [.val (.pointer none),.val (.bool false)],O9,n9,m9,⟨m9,ho9,by rw [eB]⟩,?_⟩
   refine Yl (P:=Try.prog) (.inr rfl) hU9 [.val (.pointer none),.val (.bool false)] m9 ?_
   simp only [push_cast,seval,Za,Try.results6]
  | some ρ =>
   rw [ec] at hres eB
   obtain ⟨rfl,A9⟩:=hres
   have hi:=A9.1.hi
   simp only [push_cast,seval,Za,hi,p2,w2,hYn,hY3]
   refine Y8 fun hU9 => ?_
   refine Zs (t:=false) rfl (fun c15=>by cases c15) (fun c15 => ?_)
   refine Zw ?_
   try simp only [Zk,Zg]
   refine Zp [6,7] (Zb Zc [] ?_)
   simp only [push_cast,seval,Za,hi,p2,w2,hYn,hY3]
   refine Zu ?_
   try simp only [Zk,Zg]
   refine ⟨.tup [.ref (n+1) 0,.val (.bool true)],O9,n9,m9,⟨m9,ho9,by rw [eB];exact ⟨n+1,n+1+1,L9,rfl,A9,fun u hu=>by rcases F59.ter u hu with q | q;rcases Zrh q with h | h <;> omega;omega⟩⟩,?_⟩
   refine Yl (P:=Try.prog) (.inr rfl) hU9 [.ref (n+1) 0,.val (.bool true)] m9 ?_
   simp only [push_cast,seval,Za,hi,Try.results6]
def R6 (v:Int):Prop:=0≤v∧v < 18446744073709551616
def UWs (A:List (List Int)):Prop:=∀ x∈A,∀ w∈x,R6 w
theorem UWs.put {A:List (List Int)} (h:UWs A) (s p:Int) {v:Int} (hv:R6 v):UWs (Y4 A s p v):=by
 unfold Y4
 split
 ·rename_i c
  obtain ⟨z,hz,_⟩:=Jb c
  intro x hx w hw
  rcases List.mem_or_eq_of_mem_set hx with q | q
  ·exact h x q w hw
  rw [q,hz] at hw
  rcases List.mem_or_eq_of_mem_set hw with r | r
  ·exact h z (Xe hz) w r
  rw [r];exact hv
 exact h
theorem UWs.lays (s:Int):∀ (ws:List Int) {A:List (List Int)} (p:Int),UWs A→(∀ w∈ws,R6 w)→UWs (Y0 A s p ws)
 | [],_,_,h,_=>h
 | w::ws,A,p,h,hw=>UWs.lays s ws (p+1) (h.put s p (hw w List.mem_cons_self)) (fun x hx=>hw x (List.mem_cons_of_mem _ hx))
theorem R6.zero:R6 0:=⟨by decide,by decide⟩
theorem Z9b {x:List Int} (h:∀ w∈x,R6 w) (k:Int):∀ w∈zl x k,R6 w:=fun w hw=>by
 unfold zl at hw
 rcases List.mem_append.1 hw with q | q
 ·exact h w q
 rw [(List.mem_replicate.1 q).2];exact R6.zero
theorem UWs.give {size k:Int} {σ:SG} {r:Int×Int×SG} (h:UWs σ.1) (e:Jj size σ k=some r):UWs r.2.2.1:=by
 obtain ⟨h1,rfl⟩:=Zqm e
 by_cases c:k < 0∨σ.2 < k
 ·have e:X8 σ.1 size σ.2 k=(0,0,false,σ.1,σ.2):=if_pos c
  rw [e];exact h
 by_cases c2:σ.1.length=0∨σ.1.length < 16∧¬ k≤IntKind.i64.wrap (size - ((Jw σ.1).length:Int))
 ·have e:X8 σ.1 size σ.2 k=((σ.1.length:Int),0,true,σ.1++[zl [] k],IntKind.i64.wrap (σ.2 - k)):=(if_neg c).trans (if_pos c2)
  rw [e]
  intro x hx
  rcases List.mem_append.1 hx with q | q
  ·exact h x q
  rw [List.mem_singleton.1 q];exact Z9b (fun w hw=>by cases hw) k
 have e:X8 σ.1 size σ.2 k=((σ.1.length:Int) - 1,((Jw σ.1).length:Int),true,σ.1.set (σ.1.length - 1) (zl (Jw σ.1) k),IntKind.i64.wrap (σ.2 - k)):=(if_neg c).trans (if_neg c2)
 rw [e]
 intro x hx
 rcases List.mem_or_eq_of_mem_set hx with q | q
 ·exact h x q
 rw [q];exact Z9b (h _ (Xe (Zf9 (by omega)))) k
theorem UWs.inU {size s:Int} {σ:SG} {r:Int×SG} (h:UWs σ.1) (e:inO size σ s=some r):UWs r.2.1:=by
 unfold inO at e
 cases hx:Z6 σ.1 s with
 | none=>rw [hx] at e;cases e
 | some x =>
  rw [hx] at e
  dsimp only at e
  split at e
  ·have:=Option.some.inj e;subst this
   intro y hy
   rcases List.mem_or_eq_of_mem_set hy with q | q
   ·exact h y q
   rw [q];exact Z9b (h _ (Xe hx)) 1
  cases e
theorem Ybc {a b k u:Int} (k0:0≤k) (k1:k≤1) (u0:0≤u) (u1:u < 4294967296):R6 (nw a b k u):=by unfold R6 nw;omega
theorem Z67 {h b d:Int} (h0:0≤h) (h1:h≤1000) (b0:0≤b) (b1:b≤131072) (d0:0≤d) (d1:d≤1):R6 (fw h b d):=by unfold R6 fw;omega
theorem Z8s {size most:Int} {σ:SG} (hs:St size most σ) {s p k:Int} (h:Yp σ.1 s p k=true):0≤s∧s≤16:=by
 obtain ⟨y,hy,_⟩:=Jb h
 have:=Qr hy
 have:=hs.h16
 omega
theorem UWs.aim {size most:Int} {σ τ:SG} {s p k u hm b:Int} (hs:St size most σ) (h:UWs σ.1) (kb:0≤k∧k≤1∧0≤u∧u < 4294967296) (hb:0≤b∧b≤131072) (hh:0≤hm∧hm≤16) (e:Zcu size σ s p k u hm b=some τ):UWs τ.1:=by
 unfold Zcu at e
 split at e
 ·have:=Option.some.inj e;subst this
  exact h.put _ _ ⟨by decide,by decide⟩
 split at e
 ·have:=Option.some.inj e;subst this
  exact h.put _ _ (Ybc kb.1 kb.2.1 kb.2.2.1 kb.2.2.2)
 cases hi:inO size σ hm with
 | some r =>
  rw [hi] at e
  have:=Option.some.inj e;subst this
  have o:=Zuw hs hi
  exact ((h.inU hi).put _ _ (Ybc kb.1 kb.2.1 kb.2.2.1 kb.2.2.2)).put _ _ (Z67 hh.1 (by omega) o.1 (by omega) (by decide) (by decide))
 | none =>
  rw [hi] at e
  dsimp only at e
  cases hg:Jj size σ 2 with
  | none=>rw [hg] at e;cases e
  | some r =>
   rw [hg] at e
   have:=Option.some.inj e;subst this
   have o:=Jk hs hg
   have sl:=Z8s o.2.2.2.2.1 o.2.2.2.2.2.2.1
   refine (UWs.lays r.1 _ r.2.1 (h.give hg) (fun w hw => ?_)).put _ _ (Z67 sl.1 (by omega) o.2.2.1 (by omega) (by decide) (by decide))
   simp only [List.mem_cons,List.not_mem_nil,or_false] at hw
   rcases hw with rfl | rfl
   ·exact Z67 hh.1 (by omega) hb.1 hb.2 (by decide) (by decide)
   unfold R6;omega
def Z6l (size most:Int) (f:Tr→Int→Int→SG→Option SG) (t:Tr):Prop:=∀ s p σ τ,St size most σ→Yp σ.1 s p 1=true→UWs σ.1→f t s p σ=some τ→UWs τ.1
theorem Zze {size most:Int} {f:Tr→Int→Int→SG→Option SG} (hf:Zas size most f) (s:Int):∀ (ts:List Tr) (p:Int) (σ τ:SG),(∀ t∈ts,Z6l size most f t)→St size most σ→(∀ q,p≤q→q < p+(ts.length:Int)→Yp σ.1 s q 1=true)→UWs σ.1→Kl f s p ts σ=some τ→UWs τ.1
 | [],_,_,_,_,_,_,h,e=>by have:=Option.some.inj e;subst this;exact h
 | t::ts,p,σ,τ,hk,hs,hb,h,e=>by
  rw [List.length_cons] at hb
  rw [Kl] at e
  cases h1:f t s p σ with
  | none=>rw [h1] at e;cases e
  | some ρ =>
   rw [h1] at e
   obtain ⟨a,b⟩:=(hf t s p σ hs).1 ρ h1
   exact Zze hf s ts (p+1) ρ τ (fun x hx=>hk x (List.mem_cons_of_mem _ hx)) a (fun q x y=>b _ _ _ (hb q (by omega) (by omega))) (hk t List.mem_cons_self s p σ ρ hs (hb p (Int.le_refl _) (by omega)) h h1) e
theorem Z3y {size most:Int} {f:Tr→Int→Int→SG→Option SG} (hf:Zas size most f) (s m w:Int) (hm:0≤m) (hw:0≤w):∀ (us:List Tr) (p:Int) (σ τ:SG),(∀ u∈us,(∀ x∈u.Words,R6 x)∧w+(u.Kids.length:Int)≤m∧∀ t∈u.Kids,Z6l size most f t)→St size most σ→(∀ q,p≤q→q < p+(us.length:Int) * m→Yp σ.1 s q 1=true)→UWs σ.1→Zk0 f s m w p us σ=some τ→UWs τ.1
 | [],_,_,_,_,_,_,h,e=>by have:=Option.some.inj e;subst this;exact h
 | u::us,p,σ,τ,hk,hs,hb,h,e=>by
  obtain ⟨k1,k2,k3⟩:=hk u List.mem_cons_self
  rw [List.length_cons,Int.natCast_add,Int.add_mul] at hb
  simp only [Int.natCast_one,Int.one_mul] at hb
  have hn:0≤(us.length:Int) * m:=Int.mul_nonneg (by omega) hm
  have hs1:=St.lays s u.Words hs p
  rw [Zk0] at e
  cases h1:Kl f s (p+w) u.Kids (Y0 σ.1 s p u.Words,σ.2) with
  | none=>rw [h1] at e;cases e
  | some ρ =>
   rw [h1] at e
   have u1:=Zze hf s u.Kids (p+w) _ ρ k3 hs1 (fun q x y=>Ex.lays _ _ _ _ _ _ _ (hb q (by omega) (by omega))) (UWs.lays s u.Words p h k1) h1
   obtain ⟨a,b⟩:=(Ga hf s u.Kids (p+w) _ hs1).1 ρ h1
   exact Z3y hf s m w hm hw us (p+m) ρ τ (fun x hx=>hk x (List.mem_cons_of_mem _ hx)) a (fun q x y=>b _ _ _ (Ex.lays _ _ _ _ _ _ _ (hb q (by omega) (by omega)))) u1 e
theorem Zzf (size most:Int):∀ (n:Nat) (t:Tr) (d:Nat),SizeOf.sizeOf t < n→Fine t d→¬ t.Kind=10→Z6l size most (Zhl false size n) t
 | 0,_,_,h,_,_=>by omega
 | n+1,t,d,h,hF,h10=>fun s p σ τ hs hb hu e=>by
  simp only [Zhl] at e
  have hf:=Zd8 false size most n
  by_cases c0:t.Kind=0
  ·rw [if_pos c0] at e
   have:=Option.some.inj e;subst this
   exact hu
  rw [if_neg c0] at e
  have kd:=Zw4 hF c0 h10
  have ik:=(Q1 hF.rt c0 h10).2.2.2
  obtain ⟨P,_,_,hP⟩:=Z16 hF c0 h10
  cases hg:Jj size σ (pwd t) with
  | none=>rw [hg] at e;cases e
  | some r =>
   rw [hg,Option.bind_some] at e
   have g:=Jk hs hg
   have sl:=Z8s g.2.2.2.2.1 g.2.2.2.2.2.2.1
   cases ha:Zcu size r.2.2 s p (pkd t) (pup t) r.1 r.2.1 with
   | none=>rw [ha] at e;cases e
   | some ρ =>
    rw [ha,Option.bind_some] at e
    have a:=Zl3 g.2.2.2.2.1 ha
    have u1:=UWs.aim g.2.2.2.2.1 (hu.give hg) (hP (by omega)).bd ⟨g.2.2.1,by omega⟩ sl ha
    have hB:=a.2.1 _ _ _ g.2.2.2.2.2.2.1
    have one:∀ q,r.2.1≤q→q < r.2.1+pwd t→Yp ρ.1 r.1 q 1=true:=fun q x y=>Gx hB x y
    unfold inT at e
    by_cases c1:t.Kind=1
    ·rw [if_pos c1] at e
     rw [Zg9 c1] at one
     exact Zze hf r.1 t.Kids _ _ τ (fun x hx=>Zzf size most n x (d - 1) (by have:=Yy hx;omega) (hF.kid hx) (Km (by omega) (ik x hx).2).1) (St.lays r.1 _ a.1 _) (fun q x y=>Ex.lays _ _ _ _ _ _ _ (one q (by omega) (by omega))) (UWs.lays r.1 t.Words _ u1 hF.bd.u) e
    by_cases c8:t.Kind=8
    ·rw [if_neg c1,if_pos c8] at e
     rw [Zra c8] at one
     exact Zze hf r.1 t.Kids _ _ τ (fun x hx=>Zzf size most n x (d - 1) (by have:=Yy hx;omega) (hF.kid hx) (Km (by omega) (ik x hx).2).1) a.1 one u1 e
    by_cases c9:t.Kind=9
    ·obtain ⟨a1,a2,w0,w1,k0,k1,ak⟩:=Zun hF c9
     rw [if_neg c1,if_neg c8,if_pos c9,if_neg (by decide)] at e
     rw [Zg8 c9] at one
     have hs1:St size most (Y4 ρ.1 r.1 r.2.1 (Zdn t),ρ.2):=a.1.put _ _ _
     refine Z3y hf r.1 _ _ (by omega) w0 t.Kids (r.2.1+1) _ τ (fun u hu'=>⟨(hF.bd.all u hu').u,by have:=ak u hu';omega,fun x hx => ?_⟩) hs1 (fun q x y=>Ex.put _ _ _ ρ _ _ _ (one q (by omega) (by omega))) (u1.put _ _ ?_) e
     ·have k1':=(Km (by omega) (ik u hu').2).2 c9
      have j4:=(Q1 (hF.kid hu').rt (by omega) (by omega)).2.2.2 x hx
      exact Zzf size most n x (d - 1 - 1) (by have:=Yy hu';have:=Yy hx;omega) ((hF.kid hu').kid hx) (Km (by omega) j4.2).1
     have:=Ze2 t
     have:=hF.pt
     unfold R6 Zdn
     omega
    rw [if_neg c1,if_neg c8,if_neg c9] at e
    have:=Option.some.inj e;subst this
    refine UWs.lays r.1 _ _ u1 (Yae (by omega) (fun n hn => ?_))
    obtain ⟨k,hk,rfl⟩:=List.mem_map.1 hn
    obtain ⟨w,hw,q0,_,q1⟩:=Z0f hF (by omega) k hk
    rw [hw];exact ⟨q0,q1⟩
theorem Ybr {t:Tr} (hbd:Bd t) (hp:pt t≤200000) {size most:Int} {τ:SG} (h:Zh0 false t size most=some τ):WS τ.1:=by
 have hst:=Ybq h
 refine ⟨by have:=hst.h16;omega,fun x hx=>by have:=hst.hB x hx;have:=hst.hl0;omega,?_⟩
 unfold Zh0 at h
 by_cases c:t.Kind=10∨rt t 64=false
 ·rw [if_pos c] at h;cases h
 rw [if_neg c] at h
 have hr:rt t 64=true:=by
  cases h:rt t 64 with
  | true=>rfl
  | false=>exact absurd (.inr h) c
 have hF:Fine (nrm t) 64:=Fine.nrm ⟨hbd,hr,hp⟩
 cases hg:Jj (szB size) ([],Vb most) 1 with
 | none=>rw [hg] at h;cases h
 | some r =>
  rw [hg,Option.bind_some] at h
  have g:=Jk (Zvt size most) hg
  exact Zzf (szB size) (Vb most) _ (nrm t) 64 (Nat.lt_succ_self _) hF (by rw [Za7];exact fun h=>c (.inl h)) r.1 r.2.1 r.2.2 τ g.2.2.2.2.1 (Gx g.2.2.2.2.2.2.1 (Int.le_refl _) (by omega)) (UWs.give (σ:=([],Vb most)) (fun x hx=>by cases hx) hg) h
theorem GCalls.freeze {P:Program} {f:FuncId} {gs:List G} {O:Objs} {n:Nat} {r3:G} {K:G→Objs→Nat→Prop} (h:GCalls P f gs O n K) (hk:Und O n→∀ r O' n',K r O' n'→n≤n'∧LessO O' O n∧wk O' O n r r3):GTo P f gs O n r3 O n:=by
 refine ⟨h.1,fun w m vs hM hr=>(h.2 w m vs hM hr).mono fun e w' ⟨v,g,O',n',m',h1,h2,h3,h4,h5⟩ => ?_⟩
 obtain ⟨hn,hL,hw⟩:=hk ⟨hM.fresh,fun i o hi=>by obtain ⟨vs,hv,_⟩:=hM.obj i o hi;exact Kh _ _ hv⟩ g O' n' h5
 exact ⟨v,r3,O,n,m',h1,h2.weak hL,h3.weak hL (Nat.le_refl _),Zka h2 hL _ v h4 _ hw,rfl,rfl,rfl⟩
theorem Z2f {Z O:Objs} {n:Nat}:∀ L:List NR,(∀ x∈L,Z x.1=some ⟨true,44,1,x.2.length,fl (eI .u64) x.2⟩∧O x.1=none)→Vh Z O n (fl eN L) (fl (eL (eI .u64)) (L.map (·.2)))
 | [],_=>by simp [fl,Vh]
 | x::L,h=>by
  show Vh Z O n (.row x.1 x.2.length::fl eN L) (.sl x.2.length (fl (eI .u64) x.2)::fl (eL (eI .u64)) (L.map (·.2)))
  unfold Vh
  refine ⟨_,_,rfl,?_,Z2f L fun y hy=>h y (List.mem_cons_of_mem _ hy)⟩
  unfold wk
  exact ⟨rfl,(h x List.mem_cons_self).2,_,(h x List.mem_cons_self).1,rfl,rfl,Zba _⟩
open Classical in
/-- the program's Build as a plain function -/
noncomputable def Zad (a0:Zd) (a1:Int) (a2:Int):Option ((Option Zm)×Bool) :=
 if Bd a0∧pt a0≤200000 then some (match Zh0 true a0 a1 a2 with | none=>(none,false) | some τ=>(some ⟨τ.1,szB a1,τ.2⟩,true)) else none
theorem Zlo {a0:Zd} {a1:Int} {a2:Int} {r:((Option Zm)×Bool)} {O:Objs} {n:Nat} (h:Zad a0 a1 a2=some r):GTo Try.prog 6 [.agg (Zf a0),.val (.int .i64 a1),.val (.int .i64 a2)] O n (.tup [gP Zo r.1,.val (.bool r.2)]) O n:=by
 unfold Zad at h
 split at h
 ·rename_i c
  have:=Option.some.inj h;subst this
  refine GCalls.freeze (Z6w c.1 c.2 a1 a2) fun hU r O' n' hE => ?_
  obtain ⟨m9,ho9,hres⟩:=hE
  have hL:LessO O' O n:=Z4a hU fun t o ht=>by
   rcases Nat.lt_or_ge t n with q | q
   ·rw [ho9 t q];exact ht
   rw [hU.fresh t q] at ht;cases ht
  refine ⟨m9,hL,?_⟩
  cases e:Zh0 true a0 a1 a2 with
  | none =>
   rw [e] at hres
   subst hres
   simp only [push_cast,seval,Za]
  | some τ =>
   rw [e] at hres
   obtain ⟨i,j,L,rfl,A,ht⟩:=hres
   obtain ⟨A1,A2⟩:=A
   show wk O' O n (.tup [.ref i 0,.val (.bool true)]) (.tup [.ip (Zo ⟨τ.1,szB a1,τ.2⟩) 0,.val (.bool true)])
   unfold wk
   refine ⟨_,rfl,?_⟩
   unfold Vh
   refine ⟨_,_,rfl,?_,by simp only [push_cast,seval,Za]⟩
   rw [Zhi]
   refine ⟨rfl,hU.fresh i (ht i (.inl rfl)),_,A1.ho,rfl,?_⟩
   show Vh O' O n [.row j L.length,.val (.int .i64 (szB a1)),.val (.int .i64 τ.2)] [.sl τ.1.length (fl (eL (eI .u64)) τ.1),.val (.int .i64 (szB a1)),.val (.int .i64 τ.2)]
   unfold Vh
   refine ⟨_,_,rfl,?_,Vc rfl⟩
   unfold wk
   rw [← A2]
   exact ⟨by rw [List.length_map],hU.fresh j (ht j (.inr (.inl rfl))),_,A1.hoj,rfl,rfl,Z2f L fun x hx=>⟨A1.hL x hx,hU.fresh _ (ht _ (.inr (.inr ⟨x,hx,rfl⟩)))⟩⟩
 cases h
theorem Z2c {B:List (List Int)} {s p v:Int} (h:vA B s p=some v):0≤s∧s < (B.length:Int)∧0≤p∧p < ((seg B s).length:Int)∧(seg B s)[p.toNat]? = some v:=by
 unfold vA at h
 cases hx:Z6 B s with
 | none=>rw [hx] at h;cases h
 | some x =>
  rw [hx,Option.bind_some] at h
  have a:=Qr hx
  have b:=Qr h
  have e:seg B s=x:=by
   unfold seg
   unfold Z6 at hx
   rw [if_pos a.1] at hx
   rw [hx];rfl
  rw [e]
  unfold Z6 at h
  rw [if_pos b.1] at h
  exact ⟨a.1,a.2,b.1,b.2,h⟩
theorem Zp5 {B:List (List Int)} {s p v:Int} (h:vA B s p=some v):inB B s p 1=true:=by
 have:=Z2c h
 exact inB_iff.2 ⟨this.1,this.2.1,this.2.2.1,by decide,by omega⟩
theorem Ztw {B:List (List Int)} {s p v:Int} (h:vA B s p=some v):wd B s p=v:=by
 unfold wd
 rw [(Z2c h).2.2.2.2];rfl
theorem Zqq {B:List (List Int)} {s p k:Int} (h:Yp B s p k=true):inB B s p k=true:=by
 obtain ⟨x,hx,h0,h1,h2⟩:=Jb h
 have a:=Qr hx
 have e:seg B s=x:=by
  unfold seg
  unfold Z6 at hx
  rw [if_pos a.1] at hx
  rw [hx];rfl
 exact inB_iff.2 ⟨a.1,a.2,h0,h1,by rw [e];exact h2⟩
theorem Zyx {P:Zx} {k u off:Int} (h:PtrOf P k u) (a:-536870912≤off) (b:off < 536870912) (hc:¬ (k=0∧u=0∧off=0)):dc (off % 1073741824 * 4+k+u * 4294967296)=⟨P.Kind,off,P.Data,P.Ptrs,P.Code,P.Count,P.Segment,P.Double⟩:=by
 rcases h with ⟨d,p,rfl,rfl,rfl,d0,d1,p0,p1⟩ | ⟨cd,m,rfl,rfl,rfl,c0,c1,m0,m1⟩
 ·have:=dcS (off:=off) (data:=d) (ptrs:=p) a b d0 d1 p0 p1 (by omega)
  rw [← this]
  congr 1
  omega
 have:=dcL (off:=off) (code:=cd) (count:=m) a b c0 c1 m0 m1
 rw [← this]
 congr 1
 omega
theorem Z21 {h b d:Int} (h0:0≤h) (h1:h < 4294967296) (b0:0≤b) (b1:b < 536870912) (hd:d=0∨d=1):dc (fw h b d)=⟨3,b,0,0,0,0,h,decide (d=1)⟩:=by
 have e1:(fw h b d).toNat=2+4 * d.toNat+8 * b.toNat+4294967296 * h.toNat:=by unfold fw;omega
 unfold dc
 rw [e1]
 generalize hw:2+4 * d.toNat+8 * b.toNat+4294967296 * h.toNat=w
 have g1:¬ w=0:=by omega
 have g2:¬ w % 4=0:=by omega
 have g3:¬ w % 4=1:=by omega
 have g4:w % 4=2:=by omega
 unfold Ze5
 rw [if_neg g1,if_neg g2,if_neg g3,if_pos g4]
 simp only [Zx.mk.injEq,true_and,and_true]
 refine ⟨by omega,by omega,?_⟩
 rw [decide_eq_decide]
 omega
theorem PtrOf.kd {P:Zx} {k u:Int} (h:PtrOf P k u):P.Kind=1∨P.Kind=2:=by
 rcases h with ⟨d,p,rfl,_⟩ | ⟨c,m,rfl,_⟩
 ·exact .inl rfl
 exact .inr rfl
theorem PtrOf.o0 {P:Zx} {k u:Int} (h:PtrOf P k u):Zu6 P=P:=by
 rcases h with ⟨d,p,rfl,_⟩ | ⟨c,m,rfl,_⟩ <;> rfl
theorem Zvu {B:List (List Int)} {P:Zx} {off s t:Int} (hk:P.Kind=1∨P.Kind=2) (hi:inB B s t (pw P)=true):tgt B ⟨P.Kind,off,P.Data,P.Ptrs,P.Code,P.Count,P.Segment,P.Double⟩ s t=(⟨Zu6 P,s,t⟩,0):=by
 have hi':inB B s t (pw ⟨P.Kind,off,P.Data,P.Ptrs,P.Code,P.Count,P.Segment,P.Double⟩)=true:=hi
 unfold tgt
 rw [if_neg (by simp only;omega),if_pos hk,if_pos hi']
 rfl
theorem Z0t {B:List (List Int)} {P:Zx} {off s p t w:Int} (hk:P.Kind=1∨P.Kind=2) (h:vA B s p=some w) (hd:dc w=⟨P.Kind,off,P.Data,P.Ptrs,P.Code,P.Count,P.Segment,P.Double⟩) (ht:p+1+off=t) (hi:inB B s t (pw P)=true):fol B s p=(⟨Zu6 P,s,t⟩,0):=by
 unfold fol
 rw [if_pos (Zp5 h),Ztw h,hd]
 simp only
 rw [if_neg (by omega),if_neg (by omega),if_neg (by omega),ht]
 exact Zvu hk hi
theorem Z9n {B:List (List Int)} {P:Zx} {off s p g q t w:Int} (hk:P.Kind=1∨P.Kind=2) (g0:0≤g) (g1:g < 4294967296) (q0:0≤q) (q1:q < 536870912) (h:vA B s p=some (fw g q 0)) (h2:vA B g q=some w) (hd:dc w=⟨P.Kind,off,P.Data,P.Ptrs,P.Code,P.Count,P.Segment,P.Double⟩) (ht:q+1+off=t) (hi:inB B g t (pw P)=true):fol B s p=(⟨Zu6 P,g,t⟩,0):=by
 unfold fol
 rw [if_pos (Zp5 h),Ztw h,Z21 g0 g1 q0 q1 (.inl rfl)]
 simp only
 rw [if_neg (by decide),if_neg (by simp),if_pos trivial,if_pos (Zp5 h2),Ztw h2,hd,ht]
 exact Zvu hk hi
theorem Z9m {B:List (List Int)} {P:Zx} {s p g q h b w:Int} (hk:P.Kind=1∨P.Kind=2) (g0:0≤g) (g1:g < 4294967296) (q0:0≤q) (q1:q < 536870912) (h0:0≤h) (h1:h < 4294967296) (b0:0≤b) (b1:b < 536870912)
  (e:vA B s p=some (fw g q 1)) (e2:vA B g q=some (fw h b 0)) (e3:vA B g (q+1)=some w) (hd:dc w=⟨P.Kind,0,P.Data,P.Ptrs,P.Code,P.Count,P.Segment,P.Double⟩) (hi:inB B h b (pw P)=true):fol B s p=(⟨Zu6 P,h,b⟩,0):=by
 have i2:inB B g q 2=true:=by rw [Yeb q0,Zp5 e2,Zp5 e3];rfl
 unfold fol
 rw [if_pos (Zp5 e),Ztw e,Z21 g0 g1 q0 q1 (.inr rfl)]
 simp only
 rw [if_neg (by decide),if_pos (by simp),if_pos i2,Ztw e2,Ztw e3,Z21 h0 h1 b0 b1 (.inl rfl),hd]
 simp only
 rw [if_pos (by simp),if_neg (by simp)]
 exact Zvu hk hi
structure Ag (σ τ:SG) (s p:Int) (B:List (List Int)):Prop where
 ex:∀ s' p' m,Yp τ.1 s' p' m=true→Yp B s' p' m=true
 eq:∀ s' p' v,vA τ.1 s' p'=some v→(vA σ.1 s' p'=none∨(s'=s∧p'=p))→vA B s' p'=some v
theorem Zm3 {A:List (List Int)} {s p:Int} (h:¬ Yp A s p 1=true):vA A s p=none:=by
 cases e:vA A s p with
 | none=>rfl
 | some v=>exact absurd (hasB_iff.2 ⟨v,e⟩) h
theorem Zt5 {size most:Int} {σ τ:SG} {s p k u h b:Int} {P:Zx} (hs:St size most σ) (hP:PtrOf P k u) (hsp:Yp σ.1 s p 1=true) (hb:0≤b∧b≤131072) (hh:0≤h∧h≤16) (e:Zcu size σ s p k u h b=some τ) {B:List (List Int)} (hA:Ag σ τ s p B) (hz:¬ (k=0∧u=0)) (hi:inB B h b (pw P)=true):fol B s p=(⟨P,h,b⟩,0):=by
 obtain ⟨x,hx,p0,_,p1⟩:=Jb hsp
 have xl:=hs.hB x (Xe hx)
 have l0:=hs.hl0
 have kd:=hP.kd
 rw [← hP.o0]
 unfold Zcu at e
 rw [if_neg hz] at e
 by_cases c:h=s
 ·rw [if_pos c] at e
  have:=Option.some.inj e;subst this
  have v1:vA (Y4 σ.1 s p (nw p b k u)) s p=some (nw p b k u):=by rw [Ku _ hsp,if_pos ⟨rfl,rfl⟩]
  have w:=hA.eq s p _ v1 (.inr ⟨rfl,rfl⟩)
  rw [c] at hi ⊢
  exact Z0t kd w (Zyx hP (off:=b - p - 1) (by omega) (by omega) (fun q=>hz ⟨q.1,q.2.1⟩)) (by omega) hi
 rw [if_neg c] at e
 cases hin:Go.Proofs.Ytbkhdkfjabiocaa.inO size σ h with
 | some r =>
  rw [hin] at e
  have:=Option.some.inj e;subst this
  have o:=Zuw hs hin
  have r1:Yp (Y4 r.2.1 h r.1 (nw r.1 b k u)) s p 1=true:=by rw [Zax];exact o.2.2.2.1 _ _ _ hsp
  have v1:vA (Y4 (Y4 r.2.1 h r.1 (nw r.1 b k u)) s p (fw h r.1 0)) s p=some (fw h r.1 0):=by rw [Ku _ r1,if_pos ⟨rfl,rfl⟩]
  have v2:vA (Y4 (Y4 r.2.1 h r.1 (nw r.1 b k u)) s p (fw h r.1 0)) h r.1=some (nw r.1 b k u):=by rw [Ku _ r1,if_neg (fun q=>c q.1),Ku _ o.2.2.2.2.1,if_pos ⟨rfl,rfl⟩]
  have w1:=hA.eq s p _ v1 (.inr ⟨rfl,rfl⟩)
  have w2:=hA.eq h r.1 _ v2 (.inl (Zm3 fun q=>by have:=o.2.2.2.2.2.2 _ q;omega))
  exact Z9n kd hh.1 (by omega) o.1 (by omega) w1 w2 (Zyx hP (off:=b - r.1 - 1) (by omega) (by omega) (fun q=>hz ⟨q.1,q.2.1⟩)) (by omega) hi
 | none =>
  rw [hin] at e
  dsimp only at e
  cases hg:Jj size σ 2 with
  | none=>rw [hg] at e;cases e
  | some r =>
   rw [hg] at e
   have:=Option.some.inj e;subst this
   have o:=Jk hs hg
   obtain ⟨y,hy,y0,_,y1⟩:=Jb o.2.2.2.2.2.2.1
   have gl:=Qr hy
   have g16:=o.2.2.2.2.1.h16
   have q1:=Gx o.2.2.2.2.2.2.1 (q:=r.2.1) (by omega) (by omega)
   have q2:=Gx o.2.2.2.2.2.2.1 (q:=r.2.1+1) (by omega) (by omega)
   have hr:¬ (r.1=s∧(r.2.1=p∨r.2.1+1=p)):=fun q=>by
    have:=o.2.2.2.2.2.2.2.2 p (by rw [q.1];exact hsp)
    omega
   have le:Y0 r.2.2.1 r.1 r.2.1 [fw h b 0,k+u * 4294967296]=Y4 (Y4 r.2.2.1 r.1 r.2.1 (fw h b 0)) r.1 (r.2.1+1) (k+u * 4294967296):=by simp only [Y0]
   have q2':Yp (Y4 r.2.2.1 r.1 r.2.1 (fw h b 0)) r.1 (r.2.1+1) 1=true:=by rw [Zax];exact q2
   have rs:Yp (Y0 r.2.2.1 r.1 r.2.1 [fw h b 0,k+u * 4294967296]) s p 1=true:=by rw [Ziu];exact o.2.2.2.2.2.1 _ _ _ hsp
   have V:∀ s' p',vA (Y4 (Y0 r.2.2.1 r.1 r.2.1 [fw h b 0,k+u * 4294967296]) s p (fw r.1 r.2.1 1)) s' p'=if s'=s∧p'=p then some (fw r.1 r.2.1 1) else if s'=r.1∧p'=r.2.1+1 then some (k+u * 4294967296) else if s'=r.1∧p'=r.2.1 then some (fw h b 0) else vA r.2.2.1 s' p':=fun s' p'=>by
    rw [Ku _ rs,le,Ku _ q2',Ku _ q1]
   have w1:=hA.eq s p (fw r.1 r.2.1 1) ((V s p).trans (if_pos ⟨rfl,rfl⟩)) (.inr ⟨rfl,rfl⟩)
   have w2:=hA.eq r.1 r.2.1 (fw h b 0) ((V _ _).trans (by rw [if_neg (fun q=>hr ⟨q.1,.inl q.2⟩),if_neg (by omega),if_pos ⟨rfl,rfl⟩])) (.inl (Zm3 fun q=>by have:=o.2.2.2.2.2.2.2.2 _ q;omega))
   have w3:=hA.eq r.1 (r.2.1+1) (k+u * 4294967296) ((V _ _).trans (by rw [if_neg (fun q=>hr ⟨q.1,.inr q.2⟩),if_pos ⟨rfl,rfl⟩])) (.inl (Zm3 fun q=>by have:=o.2.2.2.2.2.2.2.2 _ q;omega))
   have hd:=Zyx hP (off:=0) (by decide) (by decide) (fun q=>hz ⟨q.1,q.2.1⟩)
   rw [show (0:Int) % 1073741824 * 4+k+u * 4294967296=k+u * 4294967296 by omega] at hd
   exact Z9m kd (by omega) (by omega) o.2.2.1 (by omega) hh.1 (by omega) hb.1 (by omega) w1 w2 w3 hd hi
theorem Zyg {size most:Int} {f:Tr→Int→Int→SG→Option SG} (hf:Zas size most f) {t:Tr} {s p:Int} {σ τ:SG} (hs:St size most σ) (e:f t s p σ=some τ) {s' p':Int} (hb:Yp σ.1 s' p' 1=true) (hne:¬ (s=s'∧p=p')):vA τ.1 s' p'=vA σ.1 s' p':=by
 obtain ⟨v,hv⟩:=hasB_iff.1 hb
 obtain ⟨h1,h2⟩:=hf t s p σ hs
 have e2:=h2 s' p' v hb hne
 have e3:pt1 s' p' v σ=σ:=Prod.ext (Z1y hv) rfl
 rw [e3,e] at e2
 have e4:τ=pt1 s' p' v τ:=Option.some.inj e2
 have hB:Yp τ.1 s' p' 1=true:=(h1 τ e).2 _ _ _ hb
 have:vA (pt1 s' p' v τ).1 s' p'=some v:=by
  show vA (Y4 τ.1 s' p' v) s' p'=_
  rw [Ku _ hB,if_pos ⟨rfl,rfl⟩]
 rw [e4,this,hv]
noncomputable def Zps (f:Tr→Int→Int→SG→Option SG) (s:Int):List (Int×Tr)→SG→Option SG
 | [],σ=>some σ
 | a::L,σ=>(f a.2 s a.1 σ).bind (Zps f s L)
theorem Zto (f:Tr→Int→Int→SG→Option SG) (s:Int):∀ (L M:List (Int×Tr)) (σ:SG),Zps f s (L++M) σ=(Zps f s L σ).bind (Zps f s M)
 | [],_,_=>rfl
 | a::L,M,σ=>by
  show (f a.2 s a.1 σ).bind (Zps f s (L++M))=((f a.2 s a.1 σ).bind (Zps f s L)).bind (Zps f s M)
  cases f a.2 s a.1 σ with
  | none=>rfl
  | some ρ=>exact Zto f s L M ρ
def Zv7:Int→List Tr→List (Int×Tr)
 | _,[]=>[]
 | p,t::ts=>(p,t)::Zv7 (p+1) ts
def Zv6 (m w:Int):Int→List Tr→List (Int×Tr)
 | _,[]=>[]
 | p,t::ts=>Zv7 (p+w) t.Kids++Zv6 m w (p+m) ts
theorem Zzd (f:Tr→Int→Int→SG→Option SG) (s:Int):∀ (ts:List Tr) (p:Int) (σ:SG),Kl f s p ts σ=Zps f s (Zv7 p ts) σ
 | [],_,_=>rfl
 | t::ts,p,σ=>by
  rw [Kl]
  show _=(f t s p σ).bind (Zps f s (Zv7 (p+1) ts))
  cases f t s p σ with
  | none=>rfl
  | some ρ=>exact Zzd f s ts (p+1) ρ
theorem Z36 (f:Tr→Int→Int→SG→Option SG) (s m w:Int):∀ (ts:List Tr) (p:Int) (σ:SG),Gl f s m w p ts σ=Zps f s (Zv6 m w p ts) σ
 | [],_,_=>rfl
 | t::ts,p,σ=>by
  rw [Gl,Zv6,Zto,Zzd]
  cases Zps f s (Zv7 (p+w) t.Kids) σ with
  | none=>rfl
  | some ρ=>exact Z36 f s m w ts (p+m) ρ
theorem Zbw:∀ (ts:List Tr) (p:Int) (a:Int×Tr),a∈Zv7 p ts→a.2∈ts∧p≤a.1∧a.1 < p+(ts.length:Int)
 | [],_,_,h=>by cases h
 | t::ts,p,a,h=>by
  rw [List.length_cons]
  rcases List.mem_cons.1 h with rfl | h
  ·exact ⟨.head _,Int.le_refl _,by show p < _;omega⟩
  obtain ⟨h1,h2,h3⟩:=Zbw ts (p+1) a h
  exact ⟨.tail _ h1,by omega,by omega⟩
theorem Zrj:∀ (ts:List Tr) (p:Int) (i:Nat) (x:Tr),ts[i]? = some x→(p+(i:Int),x)∈Zv7 p ts
 | [],_,i,x,h=>by simp at h
 | t::ts,p,0,x,h=>by
  have:t=x:=by simpa using h
  subst this
  rw [show p+((0:Nat):Int)=p by omega]
  exact .head _
 | t::ts,p,i+1,x,h=>by
  have:=Zrj ts (p+1) i x (by simpa using h)
  rw [show p+((i+1:Nat):Int)=p+1+(i:Int) by omega]
  exact .tail _ this
theorem Zos:∀ (ts:List Tr) (p:Int),(Zv7 p ts).Pairwise (fun a b=>a.1 < b.1)
 | [],_ => .nil
 | t::ts,p => .cons (fun b hb=>by have:=(Zbw ts (p+1) b hb).2.1;show p < b.1;omega) (Zos ts (p+1))
theorem Z2k (m w:Int) (hm:0≤m) (hw:0≤w):∀ (ts:List Tr) (p:Int),(∀ u∈ts,w+(u.Kids.length:Int)≤m)→∀ a∈Zv6 m w p ts,(∃ u∈ts,a.2∈u.Kids)∧p≤a.1∧a.1 < p+(ts.length:Int) * m
 | [],_,_,a,h=>by cases h
 | t::ts,p,hk,a,h=>by
  have hn:0≤(ts.length:Int) * m:=Int.mul_nonneg (by omega) hm
  rw [List.length_cons,Int.natCast_add,Int.add_mul]
  simp only [Int.natCast_one,Int.one_mul]
  have k1:=hk t (.head _)
  rcases List.mem_append.1 h with h | h
  ·obtain ⟨h1,h2,h3⟩:=Zbw t.Kids (p+w) a h
   exact ⟨⟨t,.head _,h1⟩,by omega,by omega⟩
  obtain ⟨⟨u,hu,h1⟩,h2,h3⟩:=Z2k m w hm hw ts (p+m) (fun u hu=>hk u (.tail _ hu)) a h
  exact ⟨⟨u,.tail _ hu,h1⟩,by omega,by omega⟩
theorem Z2j (m w:Int):∀ (ts:List Tr) (p:Int) (i:Nat) (u:Tr),ts[i]? = some u→∀ (j:Nat) (x:Tr),u.Kids[j]? = some x→(p+(i:Int) * m+w+(j:Int),x)∈Zv6 m w p ts
 | [],_,i,u,h,_,_,_=>by simp at h
 | t::ts,p,0,u,h,j,x,hx=>by
  have:t=u:=by simpa using h
  subst this
  have:=Zrj t.Kids (p+w) j x hx
  rw [show p+((0:Nat):Int) * m+w+(j:Int)=p+w+(j:Int) by simp]
  exact List.mem_append.2 (.inl this)
 | t::ts,p,i+1,u,h,j,x,hx=>by
  have:=Z2j m w ts (p+m) i u (by simpa using h) j x hx
  rw [show p+((i+1:Nat):Int) * m+w+(j:Int)=p+m+(i:Int) * m+w+(j:Int) by rw [Int.natCast_add,Int.add_mul];simp only [Int.natCast_one,Int.one_mul];omega]
  exact List.mem_append.2 (.inr this)
theorem Z41 (m w:Int) (hm:0≤m) (hw:0≤w):∀ (ts:List Tr) (p:Int),(∀ u∈ts,w+(u.Kids.length:Int)≤m)→(Zv6 m w p ts).Pairwise (fun a b=>a.1 < b.1)
 | [],_,_ => .nil
 | t::ts,p,hk=>by
  refine List.pairwise_append.2 ⟨Zos _ _,Z41 m w hm hw ts (p+m) (fun u hu=>hk u (.tail _ hu)),fun a ha b hb => ?_⟩
  have h1:=(Zbw _ _ a ha).2.2
  have h2:=(Z2k m w hm hw ts (p+m) (fun u hu=>hk u (.tail _ hu)) b hb).2.1
  have:=hk t (.head _)
  omega
theorem Ziw {size most:Int} {f:Tr→Int→Int→SG→Option SG} (hf:Zas size most f) (s:Int):∀ (L:List (Int×Tr)) (σ τ:SG),L.Pairwise (fun a b=>a.1 < b.1)→St size most σ→(∀ a∈L,Yp σ.1 s a.1 1=true)→Zps f s L σ=some τ →
  St size most τ∧Ex σ τ∧(∀ s' p',Yp σ.1 s' p' 1=true→(∀ a∈L,¬ (s=s'∧a.1=p'))→vA τ.1 s' p'=vA σ.1 s' p') ∧
  ∀ a∈L,∃ ρ ρ',St size most ρ∧Ex σ ρ∧f a.2 s a.1 ρ=some ρ'∧vA ρ.1 s a.1=vA σ.1 s a.1∧Ag ρ ρ' s a.1 τ.1
 | [],σ,τ,_,hs,_,e=>by
  have:=Option.some.inj e;subst this
  exact ⟨hs,Ex.refl _,fun _ _ _ _=>rfl,fun a ha=>by cases ha⟩
 | x::L,σ,τ,hp,hs,hb,e=>by
  have hp':=List.pairwise_cons.1 hp
  have e':(f x.2 s x.1 σ).bind (Zps f s L)=some τ:=e
  cases h1:f x.2 s x.1 σ with
  | none=>rw [h1] at e';cases e'
  | some ρ =>
   rw [h1,Option.bind_some] at e'
   obtain ⟨s1,x1⟩:=(hf x.2 s x.1 σ hs).1 ρ h1
   obtain ⟨s2,x2,k2,a2⟩:=Ziw hf s L ρ τ hp'.2 s1 (fun a ha=>x1 _ _ _ (hb a (.tail _ ha))) e'
   refine ⟨s2,x1.trans x2,fun s' p' hq hn => ?_,fun a ha => ?_⟩
   ·rw [k2 s' p' (x1 _ _ _ hq) (fun a ha=>hn a (.tail _ ha))]
    exact Zyg hf hs h1 hq (hn x (.head _))
   rcases List.mem_cons.1 ha with rfl | ha
   ·refine ⟨σ,ρ,hs,Ex.refl _,h1,rfl,fun s' p' m q=>x2 _ _ _ q,fun s' p' v hv hq => ?_⟩
    rw [k2 s' p' (hasB_iff.2 ⟨v,hv⟩) (fun b hb' q => ?_)]
    ·exact hv
    rcases hq with hq | hq
    ·obtain ⟨z,hz⟩:=hasB_iff.1 (hb b (.tail _ hb'))
     rw [q.1,q.2,hq] at hz
     cases hz
    have:=hp'.1 b hb'
    omega
   obtain ⟨ρ1,ρ2,b1,b2,b3,b4,b5⟩:=a2 a ha
   refine ⟨ρ1,ρ2,b1,x1.trans b2,b3,b4.trans ?_,b5⟩
   have:=hp'.1 a ha
   exact Zyg hf hs h1 (hb a (.tail _ ha)) (by omega)
theorem Zud (s:Int):∀ (ws:List Int) (A:List (List Int)) (p:Int),(∀ q,p≤q→q < p+(ws.length:Int)→Yp A s q 1=true)→∀ s' p',vA (Y0 A s p ws) s' p'=if s'=s∧p≤p'∧p' < p+(ws.length:Int) then ws[(p' - p).toNat]? else vA A s' p'
 | [],A,p,_,s',p'=>by
  rw [if_neg (by simp only [List.length_nil];omega)];rfl
 | w::ws,A,p,h,s',p'=>by
  rw [List.length_cons] at h ⊢
  have h0:=h p (Int.le_refl _) (by omega)
  rw [Y0,Zud s ws (Y4 A s p w) (p+1) (fun q x y=>by rw [Zax];exact h q (by omega) (by omega)),Ku _ h0]
  by_cases c:s'=s∧p'=p
  ·rw [if_neg (by omega),if_pos c,if_pos (by omega),c.2,Int.sub_self];rfl
  rw [if_neg c]
  by_cases c2:s'=s∧p+1≤p'∧p' < p+1+(ws.length:Int)
  ·rw [if_pos c2,if_pos (by omega),show (p' - p).toNat=(p' - (p+1)).toNat+1 by omega,List.getElem?_cons_succ]
  rw [if_neg c2,if_neg (by omega)]
structure GA (σ σ1 ρ:SG) (size most h b n s p:Int):Prop where
 st:St size most ρ
 x1:Ex σ σ1
 x2:Ex σ1 ρ
 h0:0≤h
 h1:h≤16
 b0:0≤b
 b1:b+n≤131072
 n0:0≤n
 row:Yp ρ.1 h b n=true
 z:∀ q,b≤q→q < b+n→Yp σ1.1 h q 1=true∧vA σ.1 h q=none∧vA ρ.1 h q=some 0
theorem Zqn {size most:Int} {σ ρ:SG} {r:Int×Int×SG} {s p k u n:Int} (hs:St size most σ) (hsp:Yp σ.1 s p 1=true) (hg:Jj size σ n=some r) (ha:Zcu size r.2.2 s p k u r.1 r.2.1=some ρ):GA σ r.2.2 ρ size most r.1 r.2.1 n s p:=by
 have g:=Jk hs hg
 have a:=Zl3 g.2.2.2.2.1 ha
 obtain ⟨y,hy,_⟩:=Jb g.2.2.2.2.2.2.1
 have gl:=Qr hy
 have g16:=g.2.2.2.2.1.h16
 refine ⟨a.1,g.2.2.2.2.2.1,a.2.1,g.2.1,by omega,g.2.2.1,g.2.2.2.1,g.1,a.2.1 _ _ _ g.2.2.2.2.2.2.1,fun q h1 h2 => ?_⟩
 have hq:=Gx g.2.2.2.2.2.2.1 h1 h2
 have hn:vA σ.1 r.1 q=none:=Zm3 fun c=>by have:=g.2.2.2.2.2.2.2.2 q c;omega
 refine ⟨hq,hn,?_⟩
 rw [a.2.2 r.1 q hq (fun c=>by
  obtain ⟨v,hv⟩:=hasB_iff.1 hsp
  rw [c.1,c.2,hv] at hn
  cases hn),g.2.2.2.2.2.2.2.1,if_pos ⟨rfl,h1,h2⟩]
theorem Zyr {σ σ1 ρ τ:SG} {size most h b n s p:Int} (g:GA σ σ1 ρ size most h b n s p) (hsp:Yp σ.1 s p 1=true) (xt:Ex ρ τ) (keep:∀ s' p',Yp ρ.1 s' p' 1=true→¬ (s'=h∧b≤p'∧p' < b+n)→vA τ.1 s' p'=vA ρ.1 s' p') {B:List (List Int)} (hB:Ag σ τ s p B):Ag σ1 ρ s p B:=by
 refine ⟨fun s' p' m q=>hB.ex _ _ _ (xt _ _ _ q),fun s' p' v hv hq=>hB.eq s' p' v ((keep s' p' (hasB_iff.2 ⟨v,hv⟩) fun c => ?_).trans hv) ?_⟩
 ·rcases hq with hq | hq
  ·obtain ⟨w,hw⟩:=hasB_iff.1 (g.z p' c.2.1 c.2.2).1
   rw [c.1,hw] at hq
   cases hq
  obtain ⟨v,hv⟩:=hasB_iff.1 hsp
  have:=(g.z p' c.2.1 c.2.2).2.1
  rw [← c.1,hq.1,hq.2,hv] at this
  cases this
 rcases hq with hq | hq
 ·exact .inl (Zm3 fun c=>by
   obtain ⟨w,hw⟩:=hasB_iff.1 (g.x1 _ _ _ c)
   rw [hw] at hq
   cases hq)
 exact .inr hq
def Z6j (size most:Int) (f:Tr→Int→Int→SG→Option SG) (t:Tr):Prop:=∀ s p σ τ,St size most σ→vA σ.1 s p=some 0→f t s p σ=some τ→∀ B,Ag σ τ s p B→∃ r,atR ⟨B,0,0⟩ s p=(r,0)∧MR ⟨B,0,0⟩ r (fm t)
theorem Zrw {size most:Int} {f:Tr→Int→Int→SG→Option SG} (hf:Zas size most f) {s:Int} {L:List (Int×Tr)} {σ0 σ τ:SG} (hp:L.Pairwise (fun a b=>a.1 < b.1)) (hs:St size most σ) (e:Zps f s L σ=some τ) (hx:Ex σ0 σ) (hz:∀ a∈L,vA σ0.1 s a.1=none∧vA σ.1 s a.1=some 0) (hk:∀ a∈L,Z6j size most f a.2) {s0 p0:Int} {B:List (List Int)} (hB:Ag σ0 τ s0 p0 B):∀ a∈L,∃ r,atR ⟨B,0,0⟩ s a.1=(r,0)∧MR ⟨B,0,0⟩ r (fm a.2):=by
 intro a ha
 obtain ⟨_,_,_,h4⟩:=Ziw hf s L σ τ hp hs (fun a ha=>hasB_iff.2 ⟨0,(hz a ha).2⟩) e
 obtain ⟨ρ,ρ',b1,b2,b3,b4,b5⟩:=h4 a ha
 refine hk a ha s a.1 ρ ρ' b1 (b4.trans (hz a ha).2) b3 B ⟨fun s' p' m q=>hB.ex _ _ _ (b5.ex _ _ _ q),fun s' p' v hv hq=>hB.eq s' p' v (b5.eq s' p' v hv hq) (.inl ?_)⟩
 rcases hq with hq | hq
 ·exact Zm3 fun c=>by
   obtain ⟨w,hw⟩:=hasB_iff.1 (b2 _ _ _ (hx _ _ _ c))
   rw [hw] at hq
   cases hq
 rw [hq.1,hq.2]
 exact (hz a ha).1
theorem Zvd {B:List (List Int)} {s p:Int} {r:Ze} (h:atR ⟨B,0,0⟩ s p=(r,0)):OKr ⟨B,0,0⟩ r:=by
 have:=Zpf (A:=⟨B,0,0⟩) s p
 rwa [h] at this
theorem Z0e {B:List (List Int)} {s p:Int} (h:vA B s p=some 0):atR ⟨B,0,0⟩ s p=(r0,0):=by
 have e:fol B s p=(l0,0):=by
  unfold fol
  rw [if_pos (Zp5 h),Ztw h]
  rfl
 unfold atR
 simp only
 rw [e]
 rfl
theorem Z07 {A:Zm} {h b:Int} {W K i:Nat} (hi:i < K):Yq A ⟨some A,1,h,b,(W:Int),(K:Int),0,0,0⟩ (i:Int)=atR A h (b+W+i):=by
 have hk:Z5 ⟨some A,1,h,b,(W:Int),(K:Int),0,0,0⟩=(K:Int):=rfl
 unfold Yq
 rw [hk,if_neg (by omega),if_pos rfl]
theorem Z7d {A:Zm} {h b:Int} {n i:Nat} (hi:i < n):Yq A ⟨some A,8,h,b,0,0,(n:Int),0,0⟩ (i:Int)=atR A h (b+i):=by
 have hk:Z5 ⟨some A,8,h,b,0,0,(n:Int),0,0⟩=(n:Int):=rfl
 unfold Yq
 rw [hk,if_neg (by omega),if_neg (by simp),if_pos rfl]
theorem Z2h {B:List (List Int)} {h b:Int} {W K:Nat} {m:List Int} (hm:m.length=W) (hv:∀ j:Nat,j < m.length→vA B h (b+(j:Int))=m[j]?) (b0:0≤b):Xu ⟨B,0,0⟩ ⟨some ⟨B,0,0⟩,1,h,b,(W:Int),(K:Int),0,0,0⟩=m:=by
 unfold Xu
 rw [if_neg (by simp),if_pos rfl]
 show ((seg B h).drop b.toNat).take ((W:Int)).toNat=m
 rw [Int.toNat_natCast,← hm]
 refine Yaw fun j hj => ?_
 have h1:=hv j hj
 rw [List.getElem?_eq_getElem hj] at h1
 have h2:=(Z2c h1).2.2.2.2
 rw [show (b+(j:Int)).toNat=b.toNat+j by omega] at h2
 rw [h2,List.getElem?_eq_getElem hj]
theorem Z46 {size:Int} {σ τ:SG} {s p h b:Int} (hsp:Yp σ.1 s p 1=true) (e:Zcu size σ s p 0 0 h b=some τ) {B:List (List Int)} (hB:Ag σ τ s p B):fol B s p=(⟨⟨1,0,0,0,0,0,0,false⟩,s,p⟩,0):=by
 unfold Zcu at e
 rw [if_pos ⟨rfl,rfl⟩] at e
 have:=Option.some.inj e;subst this
 have w:=hB.eq s p 4294967292 (by show vA (Y4 σ.1 s p 4294967292) s p=_;rw [Ku _ hsp,if_pos ⟨rfl,rfl⟩]) (.inr ⟨rfl,rfl⟩)
 have i:=Z2c w
 exact Z0t (P:=⟨1,0,0,0,0,0,0,false⟩) (off:=-1) (.inl rfl) w rfl (by omega) (inB_iff.2 ⟨i.1,i.2.1,i.2.2.1,by decide,by show p+0≤_;omega⟩)
theorem Zyu {size most:Int} {f:Tr→Int→Int→SG→Option SG} (hf:Zas size most f) {t:Tr} {d:Nat} (hm:Nm t d) (h1:t.Kind=1) {σ ρ τ:SG} {r:Int×Int×SG} {s p:Int} (hs:St size most σ) (hsp:Yp σ.1 s p 1=true)
  (hg:Jj size σ (pwd t)=some r) (ha:Zcu size r.2.2 s p (pkd t) (pup t) r.1 r.2.1=some ρ) (e:inT true f r.1 r.2.1 t ρ=some τ) (ih:∀ x∈t.Kids,Z6j size most f x) {B:List (List Int)} (hB:Ag σ τ s p B):∃ r,atR ⟨B,0,0⟩ s p=(r,0)∧MR ⟨B,0,0⟩ r (fm t):=by
 have g:=Zqn hs hsp hg ha
 have hs1:=(Jk hs hg).2.2.2.2.1
 obtain ⟨h,b,σ1⟩:=r
 simp only at g ha e hs1
 have hpw:=Zg9 h1
 rw [hpw] at g
 obtain ⟨i1,i2,_,i4⟩:=Q1 hm.f.rt (by omega) hm.k
 have i2:=i2 h1
 unfold inT at e
 rw [if_pos h1,Zzd] at e
 have rw1:∀ q,b≤q→q < b+(t.Words.length:Int)→Yp ρ.1 h q 1=true:=fun q x y=>hasB_iff.2 ⟨0,(g.z q x (by omega)).2.2⟩
 have V:=Zud h t.Words ρ.1 b rw1
 have s2:St size most (Y0 ρ.1 h b t.Words,ρ.2):=St.lays h _ g.st _
 have x2:Ex ρ (Y0 ρ.1 h b t.Words,ρ.2):=Ex.lays _ _ _ _
 have zk:∀ a∈Zv7 (b+(t.Words.length:Int)) t.Kids,vA σ.1 h a.1=none∧vA (Y0 ρ.1 h b t.Words) h a.1=some 0:=fun a ha'=>by
  obtain ⟨_,k1,k2⟩:=Zbw _ _ a ha'
  have z:=g.z a.1 (by omega) (by omega)
  refine ⟨z.2.1,?_⟩
  rw [V,if_neg (by omega),z.2.2]
 obtain ⟨_,x3,kp,_⟩:=Ziw hf h _ _ τ (Zos t.Kids (b+(t.Words.length:Int))) s2 (fun a ha'=>hasB_iff.2 ⟨0,(zk a ha').2⟩) e
 have KB:=Zrw hf (Zos t.Kids (b+(t.Words.length:Int))) s2 e ((g.x1.trans g.x2).trans x2) zk (fun a ha'=>ih a.2 (Zbw _ _ a ha').1) hB
 have kp':∀ s' p',Yp ρ.1 s' p' 1=true→¬ (s'=h∧b+(t.Words.length:Int)≤p'∧p' < b+(t.Words.length:Int)+(t.Kids.length:Int))→vA τ.1 s' p'=vA (Y0 ρ.1 h b t.Words) s' p':=fun s' p' q c=>kp s' p' (x2 _ _ _ q) fun a ha' q2=>by
  have:=Zbw _ _ a ha'
  omega
 have hA:=Zyr g hsp (x2.trans x3) (fun s' p' q c=>by rw [kp' s' p' q (by omega),V,if_neg (by omega)]) hB
 have hv:∀ j:Nat,j < t.Words.length→vA B h (b+(j:Int))=t.Words[j]? := fun j hj=>by
  have q:=rw1 (b+(j:Int)) (by omega) (by omega)
  have v1:=kp' h (b+(j:Int)) q (by omega)
  rw [V,if_pos ⟨rfl,by omega,by omega⟩,show (b+(j:Int) - b).toNat=j by omega,List.getElem?_eq_getElem hj] at v1
  rw [List.getElem?_eq_getElem hj]
  exact hB.eq _ _ _ v1 (.inl (g.z _ (by omega) (by omega)).2.1)
 have hsp1:=g.x1 _ _ _ hsp
 obtain ⟨h',b',hf',hb'⟩:∃ h' b',fol B s p=(⟨⟨1,0,(t.Words.length:Int),(t.Kids.length:Int),0,0,0,false⟩,h',b'⟩,0)∧0≤b'∧(t.Words.length+t.Kids.length=0∨h'=h∧b'=b):=by
  by_cases c:t.Words.length+t.Kids.length=0
  ·have ek:pkd t=0:=by unfold pkd;rw [if_pos h1]
   have eu:pup t=0:=by unfold pup;rw [if_pos h1];omega
   rw [ek,eu] at ha
   have:=Z46 hsp1 ha hA
   have w0:t.Words.length=0:=by omega
   have k0:t.Kids.length=0:=by omega
   obtain ⟨x,hx,p0,_⟩:=Jb hsp
   exact ⟨s,p,by rw [w0,k0];exact this,p0,.inl c⟩
  have hP:PtrOf ⟨1,0,(t.Words.length:Int),(t.Kids.length:Int),0,0,0,false⟩ (pkd t) (pup t) := .inl ⟨_,_,rfl,by unfold pkd;rw [if_pos h1],by unfold pup;rw [if_pos h1],by omega,by omega,by omega,by omega⟩
  have eu:pup t=(t.Words.length:Int)+65536 * (t.Kids.length:Int):=by unfold pup;rw [if_pos h1]
  have gb:=g.b1
  have gn:=g.n0
  exact ⟨h,b,Zt5 hs1 hP hsp1 ⟨g.b0,by omega⟩ ⟨g.h0,g.h1⟩ ha hA (by omega) (Zqq (hA.ex _ _ _ g.row)),g.b0,.inr ⟨rfl,rfl⟩⟩
 have hat:atR ⟨B,0,0⟩ s p=(⟨some ⟨B,0,0⟩,1,h',b',(t.Words.length:Int),(t.Kids.length:Int),0,0,0⟩,0):=by
  unfold atR
  simp only
  rw [hf']
  rfl
 refine ⟨_,hat,.mk _ _ (Zvd hat) (by rw [Zb0,h1]) ?_ (by rw [Ug (by omega),List.length_map];rfl) ?_ ?_⟩
 ·rw [Zk7]
  refine (Z2h rfl (fun j hj => ?_) hb'.1).symm
  rcases hb'.2 with c | ⟨rfl,rfl⟩
  ·omega
  exact hv j hj
 all_goals
  intro i x hx
  rw [Ug (by omega)] at hx
  obtain ⟨y,hy,hym,rfl⟩:=Zqt hx
  have hi:i < t.Kids.length:=(List.getElem?_eq_some_iff.1 hy).1
  obtain ⟨r,r1,r2⟩:=KB _ (Zrj t.Kids (b+(t.Words.length:Int)) i y hy)
  rcases hb'.2 with c | ⟨rfl,rfl⟩
  ·omega
  rw [Z07 hi,r1] <;> first | exact r2 | rfl
theorem Z2w {size most:Int} {f:Tr→Int→Int→SG→Option SG} (hf:Zas size most f) {t:Tr} {d:Nat} (hm:Nm t d) (h8:t.Kind=8) {σ ρ τ:SG} {r:Int×Int×SG} {s p:Int} (hs:St size most σ) (hsp:Yp σ.1 s p 1=true)
  (hg:Jj size σ (pwd t)=some r) (ha:Zcu size r.2.2 s p (pkd t) (pup t) r.1 r.2.1=some ρ) (e:inT true f r.1 r.2.1 t ρ=some τ) (ih:∀ x∈t.Kids,Z6j size most f x) {B:List (List Int)} (hB:Ag σ τ s p B):∃ r,atR ⟨B,0,0⟩ s p=(r,0)∧MR ⟨B,0,0⟩ r (fm t):=by
 have g:=Zqn hs hsp hg ha
 have hs1:=(Jk hs hg).2.2.2.2.1
 obtain ⟨h,b,σ1⟩:=r
 simp only at g ha e hs1
 have hpw:=Zra h8
 rw [hpw] at g
 unfold inT at e
 rw [if_neg (by omega),if_pos h8,Zzd] at e
 have zk:∀ a∈Zv7 b t.Kids,vA σ.1 h a.1=none∧vA ρ.1 h a.1=some 0:=fun a ha'=>by
  obtain ⟨_,k1,k2⟩:=Zbw _ _ a ha'
  exact (g.z a.1 (by omega) (by omega)).2
 obtain ⟨_,x3,kp,_⟩:=Ziw hf h _ _ τ (Zos t.Kids b) g.st (fun a ha'=>hasB_iff.2 ⟨0,(zk a ha').2⟩) e
 have KB:=Zrw hf (Zos t.Kids b) g.st e (g.x1.trans g.x2) zk (fun a ha'=>ih a.2 (Zbw _ _ a ha').1) hB
 have hA:=Zyr g hsp x3 (fun s' p' q c=>kp s' p' q fun a ha' q2=>by
  have:=Zbw _ _ a ha'
  omega) hB
 have gb:=g.b1
 have gn:=g.n0
 have hP:PtrOf ⟨2,0,0,0,6,(t.Kids.length:Int),0,false⟩ (pkd t) (pup t) := .inr ⟨_,_,rfl,by unfold pkd;rw [if_neg (by omega)],by unfold pup;rw [if_neg (by omega),if_neg (by omega)];omega,by omega,by omega,by omega,by have:=g.b0;omega⟩
 have hf':=Zt5 hs1 hP (g.x1 _ _ _ hsp) ⟨g.b0,by omega⟩ ⟨g.h0,g.h1⟩ ha hA (fun c=>by have:=c.1;unfold pkd at this;rw [if_neg (by omega)] at this;omega) (by
  have:=Zqq (hA.ex _ _ _ g.row)
  rw [show pw (⟨2,0,0,0,6,(t.Kids.length:Int),0,false⟩:Zx)=(t.Kids.length:Int) from by unfold pw wdt;simp;omega]
  exact this)
 have hat:atR ⟨B,0,0⟩ s p=(⟨some ⟨B,0,0⟩,8,h,b,0,0,(t.Kids.length:Int),0,0⟩,0):=by
  unfold atR
  simp only
  rw [hf']
  rfl
 refine ⟨_,hat,.mk _ _ (Zvd hat) (by rw [Zb0,h8]) ?_ (by rw [Ug (by omega),List.length_map];rfl) ?_ ?_⟩
 ·rw [Zk7]
  have:=(Q1 hm.f.rt (by omega) hm.k).2.2.1 (by omega)
  rw [this]
  rfl
 all_goals
  intro i x hx
  rw [Ug (by omega)] at hx
  obtain ⟨y,hy,hym,rfl⟩:=Zqt hx
  have hi:i < t.Kids.length:=(List.getElem?_eq_some_iff.1 hy).1
  obtain ⟨r,r1,r2⟩:=KB _ (Zrj t.Kids b i y hy)
  rw [Z7d hi,r1] <;> first | exact r2 | rfl
theorem Z2v {size most:Int} {f:Tr→Int→Int→SG→Option SG} {t:Tr} {d:Nat} (hm:Nm t d) (h2:2≤t.Kind∧t.Kind≤7) {σ ρ τ:SG} {r:Int×Int×SG} {s p:Int} (hs:St size most σ) (hsp:Yp σ.1 s p 1=true)
  (hg:Jj size σ (pwd t)=some r) (ha:Zcu size r.2.2 s p (pkd t) (pup t) r.1 r.2.1=some ρ) (e:inT true f r.1 r.2.1 t ρ=some τ) {B:List (List Int)} (hB:Ag σ τ s p B):∃ r,atR ⟨B,0,0⟩ s p=(r,0)∧MR ⟨B,0,0⟩ r (fm t):=by
 have g:=Zqn hs hsp hg ha
 have hs1:=(Jk hs hg).2.2.2.2.1
 obtain ⟨h,b,σ1⟩:=r
 simp only at g ha e hs1
 have hpw:pwd t=((Zdi (t.Kind - 2) (ato t)).length:Int):=by unfold pwd;rw [if_neg (by omega),if_neg (by omega),if_neg (by omega)]
 rw [hpw] at g
 unfold inT at e
 rw [if_neg (by omega),if_neg (by omega),if_neg (by omega)] at e
 have:=Option.some.inj e;subst this
 have rw1:∀ q,b≤q→q < b+((Zdi (t.Kind - 2) (ato t)).length:Int)→Yp ρ.1 h q 1=true:=fun q x y=>hasB_iff.2 ⟨0,(g.z q x y).2.2⟩
 have V:=Zud h (Zdi (t.Kind - 2) (ato t)) ρ.1 b rw1
 have hA:=Zyr g hsp (Ex.lays _ _ _ _) (fun s' p' q c=>by show vA (Y0 ρ.1 h b _) s' p'=_;rw [V,if_neg c]) hB
 have hv:∀ j:Nat,j < (Zdi (t.Kind - 2) (ato t)).length→(seg B h)[b.toNat+j]? = (Zdi (t.Kind - 2) (ato t))[j]? := fun j hj=>by
  have v1:vA (Y0 ρ.1 h b (Zdi (t.Kind - 2) (ato t))) h (b+(j:Int))=some ((Zdi (t.Kind - 2) (ato t))[j]):=by
   rw [V,if_pos ⟨rfl,by omega,by omega⟩,show (b+(j:Int) - b).toNat=j by omega,List.getElem?_eq_getElem hj]
  have v2:=(Z2c (hB.eq _ _ _ v1 (.inl (g.z _ (by omega) (by omega)).2.1))).2.2.2.2
  have b0:=g.b0
  rw [show (b+(j:Int)).toNat=b.toNat+j by omega] at v2
  rw [v2,List.getElem?_eq_getElem hj]
 have hat0:=hm.atoms h2
 have hlb:=Z7j hm
 have hlen:(Zdi (t.Kind - 2) (ato t)).length=(t.Kids.length * wid (t.Kind - 2)+63) / 64:=by
  rw [(Zz8 (c:=t.Kind - 2) (by omega) (ns:=ato t) (by rw [Zp8];omega) (fun n hn=>by
   obtain ⟨k,hk,rfl⟩:=List.mem_map.1 hn
   obtain ⟨w,hw,h0,_,h1⟩:=hat0 k hk
   rw [hw]
   exact ⟨h0,h1⟩)).2,Zp8]
 have gb:=g.b1
 have gn:=g.n0
 have b0:=g.b0
 have hP:PtrOf ⟨2,0,0,0,t.Kind - 2,(t.Kids.length:Int),0,false⟩ (pkd t) (pup t) := .inr ⟨_,_,rfl,by unfold pkd;rw [if_neg (by omega)],by unfold pup;rw [if_neg (by omega),if_neg (by omega)],by omega,by omega,by omega,by omega⟩
 have hf':=Zt5 hs1 hP (g.x1 _ _ _ hsp) ⟨g.b0,by omega⟩ ⟨g.h0,g.h1⟩ ha hA (fun c=>by have:=c.1;unfold pkd at this;rw [if_neg (by omega)] at this;omega) (by
  have:=Zqq (hA.ex _ _ _ g.row)
  rw [show pw (⟨2,0,0,0,t.Kind - 2,(t.Kids.length:Int),0,false⟩:Zx)=((Zdi (t.Kind - 2) (ato t)).length:Int) from by
   unfold pw
   simp only
   rw [if_neg (by decide),if_neg (by omega),hlen,← Ya2]
   simp]
  exact this)
 have hat:atR ⟨B,0,0⟩ s p=(⟨some ⟨B,0,0⟩,t.Kind,h,b,0,0,(t.Kids.length:Int),0,0⟩,0):=by
  rw [Z6u (A:=⟨B,0,0⟩) hf' rfl (by show ¬ t.Kind - 2=7;omega)]
  show ((⟨_,t.Kind - 2+2,_,_,_,_,_,_,_⟩:Ze),_)=_
  rw [show t.Kind - 2+2=t.Kind by omega]
 have ho:=Zvd hat
 have kn:Z5 (⟨some ⟨B,0,0⟩,t.Kind,h,b,0,0,(t.Kids.length:Int),0,0⟩:Ze)=(t.Kids.length:Int):=by unfold Z5;rw [if_neg (by simp only;omega)]
 refine ⟨_,hat,.mk _ _ ho (Zb0 t) ?_ (by rw [Ug (by omega),List.length_map,kn]) ?_ ?_⟩
 ·rw [Zk7,(Q1 hm.f.rt (by omega) hm.k).2.2.1 (by omega)]
  unfold Xu
  rw [if_neg (by simp only;omega),if_neg (by simp only;omega)]
 all_goals
  intro i x hx
  rw [Ug (by omega)] at hx
  obtain ⟨y,hy,hym,rfl⟩:=Zqt hx
  have hi:i < t.Kids.length:=(List.getElem?_eq_some_iff.1 hy).1
  have hks:=Ybz (A:=⟨B,0,0⟩) (r:=⟨some ⟨B,0,0⟩,t.Kind,h,b,0,0,(t.Kids.length:Int),0,0⟩) (by simp only;omega) (i:=(i:Int)) (by rw [kn];omega)
 ·rw [hks]
 obtain ⟨w,hyw,w0,w1,w2⟩:=hat0 y hym
 have hok:=Kw ho (i:Int)
 rw [hks] at hok ⊢
 have hnum:Z3i ⟨B,0,0⟩ (⟨some ⟨B,0,0⟩,10,h,b,0,0,0,t.Kind - 2,(i:Int)⟩:Ze)=w:=by
  unfold Z3i
  simp only
  by_cases hc:t.Kind - 2=0
  ·rw [if_pos hc]
   rw [hc] at w2
   unfold Zfl at w2
   have:=of_decide_eq_true w2
   rw [show (2:Int) ^ wid 0=1 from rfl] at this
   omega
  rw [if_neg hc]
  obtain ⟨p1,p2,p3⟩:=Z5z (c:=t.Kind - 2) (by omega) (ns:=ato t) (fun n hn=>by
   obtain ⟨k,hk,rfl⟩:=List.mem_map.1 hn
   obtain ⟨w,hw,h0,_,h1⟩:=hat0 k hk
   rw [hw]
   exact ⟨h0,h1⟩)
  obtain ⟨p4,p5⟩:=p3 i w (by unfold ato;rw [List.getElem?_map,hy,hyw];rfl)
  have key:=Z7z (L:=seg B h) (tp:=b.toNat) (c:=t.Kind - 2) (w:=w) (by omega) hv p1 p4 p5
  rw [show ((b.toNat:Nat):Int)=b by omega] at key
  exact key
 have:MR ⟨B,0,0⟩ (⟨some ⟨B,0,0⟩,10,h,b,0,0,0,t.Kind - 2,(i:Int)⟩:Ze) _:=Zt9 hok rfl
 have ew:Xu ⟨B,0,0⟩ (⟨some ⟨B,0,0⟩,10,h,b,0,0,0,t.Kind - 2,(i:Int)⟩:Ze)=[w]:=by unfold Xu;rw [if_pos rfl,hnum]
 rw [ew] at this
 have ey:fm y=⟨10,[w],[]⟩:=by rw [hyw,Zti];rfl
 rw [ey]
 exact this
theorem Z2m:∀ (ts:List Tr) (p:Int) (a:Int×Tr),a∈Zv7 p ts→∃ i:Nat,ts[i]? = some a.2∧a.1=p+(i:Int)
 | [],_,_,h=>by cases h
 | t::ts,p,a,h=>by
  rcases List.mem_cons.1 h with rfl | h
  ·exact ⟨0,rfl,by show p=_;omega⟩
  obtain ⟨i,h1,h2⟩:=Z2m ts (p+1) a h
  exact ⟨i+1,by rw [List.getElem?_cons_succ];exact h1,by omega⟩
theorem Z2l (m w:Int):∀ (ts:List Tr) (p:Int) (a:Int×Tr),a∈Zv6 m w p ts→∃ (i:Nat) (u:Tr) (j:Nat),ts[i]? = some u∧u.Kids[j]? = some a.2∧a.1=p+(i:Int) * m+w+(j:Int)
 | [],_,_,h=>by cases h
 | t::ts,p,a,h=>by
  rcases List.mem_append.1 h with h | h
  ·obtain ⟨j,h1,h2⟩:=Z2m _ _ a h
   exact ⟨0,t,j,rfl,h1,by rw [h2];simp⟩
  obtain ⟨i,u,j,h1,h2,h3⟩:=Z2l m w ts (p+m) a h
  refine ⟨i+1,u,j,by rw [List.getElem?_cons_succ];exact h1,h2,?_⟩
  rw [h3,Int.natCast_add,Int.add_mul]
  simp only [Int.natCast_one,Int.one_mul]
  omega
theorem Z2d (s:Int) (M:Nat):∀ (us:List Tr) (A:List (List Int)) (p:Int),(∀ u∈us,u.Words.length≤M)→(∀ q,p≤q→q < p+((us.length * M:Nat):Int)→Yp A s q 1=true) →
  (∀ s' p',¬ (s'=s∧p≤p'∧p' < p+((us.length * M:Nat):Int))→vA (Qy s (M:Int) p us A) s' p'=vA A s' p') ∧
  ∀ (i:Nat) (u:Tr),us[i]? = some u→∀ j:Nat,j < M→vA (Qy s (M:Int) p us A) s (p+((i * M:Nat):Int)+(j:Int))=if j < u.Words.length then u.Words[j]? else vA A s (p+((i * M:Nat):Int)+(j:Int))
 | [],A,p,_,_=>⟨fun _ _ _=>rfl,fun i u h=>by simp at h⟩
 | t::ts,A,p,hw,hb=>by
  rw [List.length_cons,Nat.add_mul,Nat.one_mul] at hb ⊢
  have w0:=hw t (.head _)
  have V:=Zud s t.Words A p (fun q x y=>hb q x (by omega))
  obtain ⟨h1,h2⟩:=Z2d s M ts (Y0 A s p t.Words) (p+(M:Int)) (fun u hu=>hw u (.tail _ hu)) (fun q x y=>by rw [Ziu];exact hb q (by omega) (by omega))
  rw [Qy]
  refine ⟨fun s' p' c=>by rw [h1 s' p' (by omega),V,if_neg (by omega)],fun i u hu j hj => ?_⟩
  cases i with
  | zero =>
   have:t=u:=by simpa using hu
   subst this
   rw [h1 _ _ (by omega),V]
   by_cases c:j < t.Words.length
   ·rw [if_pos ⟨rfl,by omega,by omega⟩,if_pos c]
    congr 1
    omega
   rw [if_neg (by omega),if_neg c]
  | succ i =>
   have:=h2 i u (by simpa using hu) j hj
   rw [show p+(((i+1) * M:Nat):Int)+(j:Int)=p+(M:Int)+((i * M:Nat):Int)+(j:Int) by rw [Nat.add_mul,Nat.one_mul];omega,this]
   by_cases c:j < u.Words.length
   ·rw [if_pos c,if_pos c]
   rw [if_neg c,if_neg c,V,if_neg (by omega)]
theorem Z2u {size most:Int} {f:Tr→Int→Int→SG→Option SG} (hf:Zas size most f) {t:Tr} {d:Nat} (hm:Nm t d) (h9:t.Kind=9) {σ ρ τ:SG} {r:Int×Int×SG} {s p:Int} (hs:St size most σ) (hsp:Yp σ.1 s p 1=true)
  (hg:Jj size σ (pwd t)=some r) (ha:Zcu size r.2.2 s p (pkd t) (pup t) r.1 r.2.1=some ρ) (e:inT true f r.1 r.2.1 t ρ=some τ) (ih:∀ u∈t.Kids,∀ x∈u.Kids,Z6j size most f x) {B:List (List Int)} (hB:Ag σ τ s p B):∃ r,atR ⟨B,0,0⟩ s p=(r,0)∧MR ⟨B,0,0⟩ r (fm t):=by
 have g:=Zqn hs hsp hg ha
 have hs1:=(Jk hs hg).2.2.2.2.1
 obtain ⟨h,b,σ1⟩:=r
 simp only at g ha e hs1
 obtain ⟨a1,a2,w0,w1,k0,k1,ak⟩:=Zun hm.f h9
 obtain ⟨W,hW⟩:∃ W:Nat,(fr t.Kids).1=(W:Int):=⟨_,(Int.toNat_of_nonneg w0).symm⟩
 obtain ⟨K,hK⟩:∃ K:Nat,(fr t.Kids).2=(K:Int):=⟨_,(Int.toNat_of_nonneg k0).symm⟩
 have hfr:fr t.Kids=((W:Int),(K:Int)):=Prod.ext hW hK
 have hM:(W:Int)+(K:Int)=((W+K:Nat):Int):=by omega
 have hpw:pwd t=1+((t.Kids.length * (W+K):Nat):Int):=by rw [Zg8 h9,hW,hK,hM,← Int.natCast_mul]
 have ak':∀ u∈t.Kids,u.Words.length≤W∧u.Kids.length≤K:=fun u hu=>by have:=ak u hu;omega
 rw [hpw] at g
 have gb:=g.b1
 have gn:=g.n0
 have b0:=g.b0
 have hlb:=Z7j hm
 unfold inT at e
 rw [if_neg (by omega),if_neg (by omega),if_pos h9,if_pos rfl,hW,hK,hM,Z36] at e
 have zb:=g.z b (Int.le_refl _) (by omega)
 have hb1:Yp ρ.1 h b 1=true:=hasB_iff.2 ⟨0,zb.2.2⟩
 obtain ⟨A0,hA0,xA,sA,e⟩:∃ A0,(∀ s' p',vA A0 s' p'=if s'=h∧p'=b then some (Zdn t) else vA ρ.1 s' p')∧(∀ s' p' k,Yp ρ.1 s' p' k=true→Yp A0 s' p' k=true)∧St size most (A0,ρ.2)∧Zps f h (Zv6 ((W+K:Nat):Int) (W:Int) (b+1) t.Kids) (Qy h ((W+K:Nat):Int) (b+1) t.Kids A0,ρ.2)=some τ:=by
  by_cases hk:t.Kids=[]
  ·rw [if_pos hk] at e
   refine ⟨ρ.1,fun s' p' => ?_,fun _ _ _ q=>q,g.st,e⟩
   split
   ·rename_i c
    rw [c.1,c.2,zb.2.2]
    unfold Zdn
    rw [hk]
    rfl
   rfl
  rw [if_neg hk] at e
  exact ⟨_,fun s' p'=>Ku _ hb1 s' p',fun _ _ _ q=>by rw [Zax];exact q,St.put g.st _ _ _,e⟩
 have rowA:∀ q,b+1≤q→q < b+1+((t.Kids.length * (W+K):Nat):Int)→Yp A0 h q 1=true:=fun q x y=>xA _ _ _ (hasB_iff.2 ⟨0,(g.z q (by omega) (by omega)).2.2⟩)
 obtain ⟨V1,V2⟩:=Z2d h (W+K) t.Kids A0 (b+1) (fun u hu=>by have:=ak' u hu;omega) rowA
 have s2:St size most (Qy h ((W+K:Nat):Int) (b+1) t.Kids A0,ρ.2):=St.words h _ _ _ sA
 have x2:Ex ρ (Qy h ((W+K:Nat):Int) (b+1) t.Kids A0,ρ.2):=fun s' p' k q=>by
  show Yp (Qy h _ (b+1) t.Kids A0) s' p' k=true
  rw [Zpo]
  exact xA _ _ _ q
 have pos:∀ a∈Zv6 ((W+K:Nat):Int) (W:Int) (b+1) t.Kids,∃ (i:Nat) (u:Tr) (j:Nat),t.Kids[i]? = some u∧u∈t.Kids∧u.Kids[j]? = some a.2∧a.2∈u.Kids∧j < u.Kids.length∧j < K∧i * (W+K)+(W+K)≤t.Kids.length * (W+K)∧a.1=b+1+((i * (W+K):Nat):Int)+((W+j:Nat):Int):=fun a ha'=>by
  obtain ⟨i,u,j,h1,h2,h3⟩:=Z2l _ _ _ _ a ha'
  have hu:=List.mem_of_getElem? h1
  have hj:j < u.Kids.length:=(List.getElem?_eq_some_iff.1 h2).1
  have:=ak' u hu
  refine ⟨i,u,j,h1,hu,h2,List.mem_of_getElem? h2,hj,by omega,Zcg (List.getElem?_eq_some_iff.1 h1).1,?_⟩
  rw [h3,← Int.natCast_mul]
  omega
 have cell:∀ (i:Nat) (u:Tr),t.Kids[i]? = some u→∀ j,j < W+K→vA (Qy h ((W+K:Nat):Int) (b+1) t.Kids A0) h (b+1+((i * (W+K):Nat):Int)+(j:Int))=some (u.Words[j]?.getD 0)∧vA σ.1 h (b+1+((i * (W+K):Nat):Int)+(j:Int))=none:=fun i u hu j hj=>by
  have hmul:=Zcg (m:=W+K) (List.getElem?_eq_some_iff.1 hu).1
  have z:=g.z (b+1+((i * (W+K):Nat):Int)+(j:Int)) (by omega) (by omega)
  refine ⟨?_,z.2.1⟩
  rw [V2 i u hu j hj]
  by_cases c:j < u.Words.length
  ·rw [if_pos c,List.getElem?_eq_getElem c];rfl
  rw [if_neg c,hA0,if_neg (by omega),z.2.2,List.getElem?_eq_none (by omega)];rfl
 have zk:∀ a∈Zv6 ((W+K:Nat):Int) (W:Int) (b+1) t.Kids,vA σ.1 h a.1=none∧vA (Qy h ((W+K:Nat):Int) (b+1) t.Kids A0) h a.1=some 0:=fun a ha'=>by
  obtain ⟨i,u,j,h1,hu,_,_,hj,hjK,hmul,h3⟩:=pos a ha'
  obtain ⟨c1,c2⟩:=cell i u h1 (W+j) (by omega)
  have:=ak' u hu
  rw [List.getElem?_eq_none (by omega)] at c1
  rw [h3]
  exact ⟨c2,c1⟩
 have hpw2:(Zv6 ((W+K:Nat):Int) (W:Int) (b+1) t.Kids).Pairwise (fun a b=>a.1 < b.1):=Z41 _ _ (by omega) (by omega) _ _ (fun u hu=>by have:=ak' u hu;omega)
 obtain ⟨_,x3,kp,_⟩:=Ziw hf h _ _ τ hpw2 s2 (fun a ha'=>hasB_iff.2 ⟨0,(zk a ha').2⟩) e
 have KB:=Zrw hf hpw2 s2 e ((g.x1.trans g.x2).trans x2) zk (fun a ha'=>by
  obtain ⟨i,u,j,_,hu,_,hx,_⟩:=pos a ha'
  exact ih u hu a.2 hx) hB
 have out:∀ s' p',Yp ρ.1 s' p' 1=true→¬ (s'=h∧b+1≤p'∧p' < b+1+((t.Kids.length * (W+K):Nat):Int))→vA τ.1 s' p'=vA A0 s' p':=fun s' p' q c=>by
  rw [kp s' p' (x2 _ _ _ q) (fun a ha' q2=>by
   obtain ⟨i,u,j,_,_,_,_,_,hjK,hmul,h3⟩:=pos a ha'
   omega)]
  exact V1 s' p' c
 have hA:=Zyr g hsp (x2.trans x3) (fun s' p' q c=>by rw [out s' p' q (by omega),hA0,if_neg (by omega)]) hB
 have hP:PtrOf ⟨2,0,0,0,7,((t.Kids.length * (W+K):Nat):Int),0,false⟩ (pkd t) (pup t) := .inr ⟨_,_,rfl,by unfold pkd;rw [if_neg (by omega)],by unfold pup;rw [if_neg (by omega),if_pos h9,hW,hK,hM,← Int.natCast_mul],by omega,by omega,by omega,by omega⟩
 have hf':=Zt5 hs1 hP (g.x1 _ _ _ hsp) ⟨g.b0,by omega⟩ ⟨g.h0,g.h1⟩ ha hA (fun c=>by have:=c.1;unfold pkd at this;rw [if_neg (by omega)] at this;omega) (by
  have:=Zqq (hA.ex _ _ _ g.row)
  rw [show pw (⟨2,0,0,0,7,((t.Kids.length * (W+K):Nat):Int),0,false⟩:Zx)=1+((t.Kids.length * (W+K):Nat):Int) from by
   unfold pw
   rw [if_neg (by simp),if_pos rfl]
   show ((t.Kids.length * (W+K):Nat):Int)+1=_
   omega]
  exact this)
 have hwt:vA B h b=some (Zdn t):=hB.eq h b _ (by rw [out h b hb1 (by omega),hA0,if_pos ⟨rfl,rfl⟩]) (.inl zb.2.1)
 have etag:Zdn t=Yav t W K:=by unfold Zdn Yav;rw [hW,hK]
 obtain ⟨kd,kd1,kd2⟩:=Ybt hfr (by omega) (show W≤65535 by omega) (show K≤65535 by omega)
 have hat:atR ⟨B,0,0⟩ s p=(⟨some ⟨B,0,0⟩,9,h,b,(W:Int),(K:Int),(t.Kids.length:Int),0,0⟩,0) :=
  Z6t (A:=⟨B,0,0⟩) hf' rfl rfl (by show dc (wd B h b)=_;rw [Ztw hwt,etag,kd2]) kd1 (by omega) (by show (t.Kids.length:Int) * ((W:Int)+(K:Int))≤((t.Kids.length * (W+K):Nat):Int);rw [Int.natCast_mul,Int.natCast_add];exact Int.le_refl _)
 have ho:=Zvd hat
 have kn:Z5 (⟨some ⟨B,0,0⟩,9,h,b,(W:Int),(K:Int),(t.Kids.length:Int),0,0⟩:Ze)=(t.Kids.length:Int):=rfl
 have keep:∀ (i:Nat) (y:Tr),t.Kids[i]? = some y→∀ j,j < W+K→(j < W∨W+y.Kids.length≤j)→vA B h (b+1+((i * (W+K):Nat):Int)+(j:Int))=some (y.Words[j]?.getD 0):=fun i y hy j hj hq=>by
  obtain ⟨c1,c2⟩:=cell i y hy j hj
  refine hB.eq _ _ _ ?_ (.inl c2)
  rw [kp _ _ (hasB_iff.2 ⟨_,c1⟩) (fun a ha' q => ?_)]
  ·exact c1
  obtain ⟨i',u,j',h1,hu,_,_,hj',hjK,hmul,h3⟩:=pos a ha'
  rw [h3] at q
  rcases Nat.lt_trichotomy i' i with c | c | c
  ·have:=Zcg (m:=W+K) c
   omega
  ·subst c
   rw [hy] at h1
   cases h1
   omega
  have:=Zcg (m:=W+K) c
  omega
 have main:∀ (i:Nat) (y:Tr),t.Kids[i]? = some y→(Yq ⟨B,0,0⟩ (⟨some ⟨B,0,0⟩,9,h,b,(W:Int),(K:Int),(t.Kids.length:Int),0,0⟩:Ze) (i:Int)).2=0∧MR ⟨B,0,0⟩ (Yq ⟨B,0,0⟩ (⟨some ⟨B,0,0⟩,9,h,b,(W:Int),(K:Int),(t.Kids.length:Int),0,0⟩:Ze) (i:Int)).1 (Zjd (fr t.Kids) (fm y)):=fun i y hy=>by
  have hym:=List.mem_of_getElem? hy
  have hi:i < t.Kids.length:=(List.getElem?_eq_some_iff.1 hy).1
  have hks:=Z3c (A:=⟨B,0,0⟩) (r:=⟨some ⟨B,0,0⟩,9,h,b,(W:Int),(K:Int),(t.Kids.length:Int),0,0⟩) rfl (i:=(i:Int)) (by rw [kn];omega)
  have hok:=Kw ho (i:Int)
  rw [hks] at hok ⊢
  have ec:b+1+(i:Int) * ((W:Int)+(K:Int))=b+1+((i * (W+K):Nat):Int):=by rw [Int.natCast_mul,Int.natCast_add]
  simp only [ec] at hok ⊢
  obtain ⟨yw,yk⟩:=ak' y hym
  have e1:(fr t.Kids).1.toNat=W:=by rw [hfr];exact Int.toNat_natCast W
  have e2:(fr t.Kids).2.toNat=K:=by rw [hfr];exact Int.toNat_natCast K
  have k1:=(hm.structs h9 y hym).2
  have fk:(fm y).Kids=y.Kids.map fm:=Ug (by omega)
  refine ⟨trivial,.mk _ _ hok (by show (fm y).Kind=1;rw [Zb0,k1]) ?_ ?_ ?_ ?_⟩
  ·show Zwk (fr t.Kids).1.toNat (fm y).Words=_
   rw [e1,Zk7]
   refine (Z2h (Zq5 yw) (fun j hj => ?_) (by omega)).symm
   rw [Zq5 yw] at hj
   rw [Z79 yw hj,keep i y hy j (by omega) (.inl hj)]
  ·show ((Zsf (fr t.Kids).2.toNat (fm y).Kids).length:Int)=(K:Int)
   rw [e2,Zvg (by rw [fk,List.length_map];exact yk)]
  all_goals
   intro j x hx
   have hx':(Zsf (fr t.Kids).2.toNat (fm y).Kids)[j]? = some x:=hx
   rw [e2,fk] at hx'
   have fin:∃ r,atR ⟨B,0,0⟩ h (b+1+((i * (W+K):Nat):Int)+(W:Int)+(j:Int))=(r,0)∧MR ⟨B,0,0⟩ r x∧j < K:=by
    rcases Z78 hx' with q | ⟨q1,q2,q3⟩
    ·obtain ⟨z,hz,hzm,rfl⟩:=Zqt q
     have hj:j < y.Kids.length:=(List.getElem?_eq_some_iff.1 hz).1
     obtain ⟨r,r1,r2⟩:=KB _ (Z2j ((W+K:Nat):Int) (W:Int) t.Kids (b+1) i y hy j z hz)
     simp only [← Int.natCast_mul] at r1
     exact ⟨r,r1,r2,by omega⟩
    rw [List.length_map] at q1
    subst q3
    have:=keep i y hy (W+j) (by omega) (.inr (by omega))
    rw [List.getElem?_eq_none (by omega),show b+1+((i * (W+K):Nat):Int)+((W+j:Nat):Int)=b+1+((i * (W+K):Nat):Int)+(W:Int)+(j:Int) by omega] at this
    exact ⟨r0,Z0e this,Z4f,q2⟩
   obtain ⟨r,r1,r2,r3⟩:=fin
   rw [Z07 r3,r1] <;> first | exact r2 | rfl
 refine ⟨_,hat,.mk _ _ ho (by rw [Zb0,h9]) ?_ (by rw [Zio h9,List.length_map,kn]) ?_ ?_⟩
 ·rw [Zk7,(Q1 hm.f.rt (by omega) hm.k).2.2.1 (by omega)]
  rfl
 all_goals
  intro i x hx
  rw [Zio h9] at hx
  obtain ⟨y,hy,hym,rfl⟩:=Zqt hx
  first | exact (main i y hy).1 | exact (main i y hy).2
theorem Zmo (size most:Int):∀ (n:Nat) (t:Tr) (d:Nat),SizeOf.sizeOf t < n→Nm t d→Z6j size most (Zhl true size n) t
 | 0,_,_,h,_=>by omega
 | n+1,t,d,h,hm=>fun s p σ τ hs hz e B hB=>by
  have h10:=hm.k
  have hf:=Zd8 true size most n
  have hsp:Yp σ.1 s p 1=true:=hasB_iff.2 ⟨0,hz⟩
  simp only [Zhl] at e
  by_cases c0:t.Kind=0
  ·rw [if_pos c0] at e
   have:=Option.some.inj e;subst this
   rw [hm.null c0]
   exact ⟨r0,Z0e (hB.eq s p 0 hz (.inr ⟨rfl,rfl⟩)),by rw [Zti];exact Z4f⟩
  rw [if_neg c0] at e
  cases hg:Jj size σ (pwd t) with
  | none=>rw [hg] at e;cases e
  | some r =>
   rw [hg,Option.bind_some] at e
   cases ha:Zcu size r.2.2 s p (pkd t) (pup t) r.1 r.2.1 with
   | none=>rw [ha] at e;cases e
   | some ρ =>
    rw [ha,Option.bind_some] at e
    have kd:=Zw4 hm.f c0 h10
    by_cases h1:t.Kind=1
    ·exact Zyu hf hm h1 hs hsp hg ha e (fun x hx=>Zmo size most n x (d - 1) (by have:=Yy hx;omega) (hm.okids (.inl h1) x hx)) hB
    by_cases h2:2≤t.Kind∧t.Kind≤7
    ·exact Z2v hm h2 hs hsp hg ha e hB
    by_cases h8:t.Kind=8
    ·exact Z2w hf hm h8 hs hsp hg ha e (fun x hx=>Zmo size most n x (d - 1) (by have:=Yy hx;omega) (hm.okids (.inr h8) x hx)) hB
    have h9:t.Kind=9:=by omega
    exact Z2u hf hm h9 hs hsp hg ha e (fun u hu x hx=>Zmo size most n x (d - 1 - 1) (by have:=Yy hu;have:=Yy hx;omega) ((hm.structs h9 u hu).1.okids (.inl (hm.structs h9 u hu).2) x hx)) hB
theorem Z0i {t:Tr} (hbd:Bd t) (hp:pt t≤200000) {size most:Int} {τ:SG} (h:Zh0 false t size most=some τ):∃ r,atR ⟨τ.1,0,0⟩ 0 0=(r,0)∧MR ⟨τ.1,0,0⟩ r (fm (nrm t))∧Nm (nrm t) 64:=by
 rw [← Z0j hbd hp] at h
 unfold Zh0 at h
 by_cases c:t.Kind=10∨rt t 64=false
 ·rw [if_pos c] at h;cases h
 rw [if_neg c] at h
 have hr:rt t 64=true:=by
  cases h:rt t 64 with
  | true=>rfl
  | false=>exact absurd (.inr h) c
 have hm:Nm (nrm t) 64:=⟨Fine.nrm ⟨hbd,hr,hp⟩,Zqv t,by rw [Za7];exact fun q=>c (.inl q)⟩
 cases hg:Jj (szB size) ([],Vb most) 1 with
 | none=>rw [hg] at h;cases h
 | some r =>
  rw [hg,Option.bind_some] at h
  have g:=Jk (Zvt size most) hg
  obtain ⟨h1,h2⟩:=Zqm hg
  have e0:r.1=0∧r.2.1=0:=by
   by_cases q:(1:Int) < 0∨Vb most < 1
   ·have e:X8 [] (szB size) (Vb most) 1=(0,0,false,[],Vb most):=if_pos q
    rw [show X8 (([]:List (List Int)),Vb most).1 (szB size) (([]:List (List Int)),Vb most).2 1=_ from e] at h1
    cases h1
   have e:X8 [] (szB size) (Vb most) 1=(0,0,true,[]++[Go.Proofs.Ytbkhdkfjabiocaa.zl [] 1],IntKind.i64.wrap (Vb most - 1)):=(if_neg q).trans (if_pos (.inl rfl))
   rw [h2,show X8 (([]:List (List Int)),Vb most).1 (szB size) (([]:List (List Int)),Vb most).2 1=_ from e]
   exact ⟨rfl,rfl⟩
  have hz:vA r.2.2.1 r.1 r.2.1=some 0:=by
   rw [g.2.2.2.2.2.2.2.1,if_pos ⟨rfl,Int.le_refl _,by omega⟩]
  obtain ⟨x,x1,x2⟩:=Zmo (szB size) (Vb most) _ (nrm t) 64 (Nat.lt_succ_self _) hm r.1 r.2.1 r.2.2 τ g.2.2.2.2.1 hz h τ.1 ⟨fun _ _ _ q=>q,fun _ _ _ q _=>q⟩
  rw [e0.1,e0.2] at x1
  exact ⟨x,x1,x2,hm⟩
theorem Yb6 {A:Zm} {r:Ze} {t:Tr} (h:MR A r t):∀ t',MR A r t'→t=t':=by
 induction h with
 | mk r t ho hk hw hl he hs ih =>
  intro t' h'
  have e1:=h'.kd
  have e2:=h'.ws
  have e3:=h'.len
  have hK:t.Kids=t'.Kids:=List.ext_getElem? fun i=>by
   by_cases c:i < t.Kids.length
   ·have hx:=List.getElem?_eq_getElem c
    have hx':=List.getElem?_eq_getElem (show i < t'.Kids.length by omega)
    rw [hx,hx',ih i _ hx _ (h'.kid hx').2]
   rw [List.getElem?_eq_none (by omega),List.getElem?_eq_none (by omega)]
  obtain ⟨a,b,c⟩:=t
  obtain ⟨a',b',c'⟩:=t'
  simp only at hk hw hK e1 e2
  rw [hk,hw,hK,e1,e2]
theorem Z29 {f:Ze→Int→Tr×Int×Int} {g:Int→Ze×Int}:∀ (n i:Nat) (left:Int) (acc:List Tr),(∀ j,j < n→(g ((i+j:Nat):Int)).2=0∧∀ l',(f (g ((i+j:Nat):Int)).1 l').2.2=0∨(f (g ((i+j:Nat):Int)).1 l').2.2=3)→(Yr f g n i left acc).2.2=0∨(Yr f g n i left acc).2.2=3
 | 0,i,left,acc,_ => .inl rfl
 | n+1,i,left,acc,h=>by
  obtain ⟨e1,e2⟩:=h 0 (by omega)
  rw [Nat.add_zero] at e1 e2
  rw [Yr,e1,if_neg (by simp)]
  by_cases c:(f (g (i:Int)).1 left).2.2=0
  ·rw [if_neg (by simp [c])]
   exact Z29 n (i+1) _ _ fun j hj=>by
    have:=h (j+1) (by omega)
    rwa [show i+(j+1)=i+1+j by omega] at this
  rw [if_pos c]
  exact e2 left
theorem Yb5 {A:Zm}:∀ (d:Nat) (r:Ze) (u:Tr) (left:Int),MR A r u→(Uz A d r left).2.2=0∨(Uz A d r left).2.2=3:=fun d=>by
 induction d using Nat.strongRecOn with
 | _ d ih =>
  intro r u left hm
  have iP:∀ (k:Nat) (r:Ze) (u:Tr) (left:Int),0 < k→MR A r u→(Xa A k d r left).2.2=0∨(Xa A k d r left).2.2=3:=fun k r u left hk hm=>by
   unfold Xa
   by_cases c:k≤d
   ·rw [if_pos c];exact ih (d - k) (by omega) r u left hm
   rw [if_neg c];exact .inr rfl
  have kid:∀ {r:Ze} {u:Tr},MR A r u→∀ j,j < (Z5 r).toNat→∃ x,(Yq A r ((0+j:Nat):Int)).2=0∧MR A (Yq A r ((0+j:Nat):Int)).1 x:=fun {r u} hm j hj=>by
   have hl:=hm.len
   obtain ⟨e1,e2⟩:=hm.kid (List.getElem?_eq_getElem (show j < u.Kids.length by omega))
   rw [Nat.zero_add]
   exact ⟨_,e1,e2⟩
  rw [Zkj]
  unfold Zhu
  by_cases h0:r.kind=0
  ·rw [if_pos h0];exact .inl rfl
  rw [if_neg h0]
  by_cases hc:(d:Int) < lvR r∨left < wtR r
  ·rw [if_pos hc];exact .inr rfl
  rw [if_neg hc]
  simp only
  refine Z29 _ 0 _ _ fun j hj => ?_
  obtain ⟨x,e1,e2⟩:=kid hm j hj
  refine ⟨e1,fun l' => ?_⟩
  unfold Zc7
  by_cases h9:r.kind=9
  ·rw [if_pos h9]
   have hl:=hm.len
   have k1:=Zht (A:=A) h9 (i:=((0+j:Nat):Int)) (by omega)
   unfold stK
   simp only
   have kn:Z5 (Yq A r ((0+j:Nat):Int)).1=(Yq A r ((0+j:Nat):Int)).1.ptrs:=by unfold Z5;rw [if_pos k1]
   refine Z29 _ 0 _ _ fun j' hj' => ?_
   obtain ⟨y,f1,f2⟩:=kid e2 j' (by rw [kn];exact hj')
   exact ⟨f1,fun l''=>iP 2 _ y l'' (by decide) f2⟩
  rw [if_neg h9]
  by_cases h18:r.kind=1∨r.kind=8
  ·rw [if_pos h18];exact iP 1 _ x l' (by decide) e2
  rw [if_neg h18];exact .inl rfl
theorem Z9j {t:Tr} (hbd:Bd t) (hp:pt t≤200000) {size most:Int} {τ:SG} (h:Zh0 false t size most=some τ) {x:Ym} (hd:(Uh x).Depth=64) :
  ((Zp4 ⟨τ.1,0,0⟩ x).2.2=0∧(Zp4 ⟨τ.1,0,0⟩ x).1=fm (nrm t))∨((Zp4 ⟨τ.1,0,0⟩ x).2.2=3∧(Uh x).Weight < ((wt (fm (nrm t)):Nat):Int)):=by
 obtain ⟨r,r1,r2,hm⟩:=Z0i hbd hp h
 have hd':(Uh x).Depth.toNat=64:=by omega
 unfold Zp4
 simp only [r1,hd']
 rw [if_neg (by simp)]
 rcases Yb5 64 r (fm (nrm t)) (Uh x).Weight r2 with e | e
 ·rw [if_neg (by simp [e])]
  exact .inl ⟨rfl,(Yb6 r2 _ (Z92 64 r _ (Zvd r1) e)).symm⟩
 rw [if_pos (by rw [e];decide)]
 refine .inr ⟨e,?_⟩
 rcases Int.lt_or_le (Uh x).Weight ((wt (fm (nrm t)):Nat):Int) with q | q
 ·exact q
 have:=Yc3 64 r (fm (nrm t)) (Uh x).Weight r2 (Z8m _ (nrm t) 64 (Nat.lt_succ_self _) hm.f) (by rw [Zb0];exact hm.k) q
 rw [this] at e
 cases e
noncomputable def Ql :Option Bool :=
 (Zad (⟨1,([5]:List Int),[]⟩:Zd) 1 9).bind fun y2=>(cond y2.2 ((Xf y2.1).bind fun y8=>(Uj y8 ([([8589934598]:List Int),([5]:List Int),([4294967298,4294967296]:List Int)]:List (List Int))).bind fun y9=>some (cond y2.2 y9 false)) (some false)).bind fun (z5:Bool)=>some z5
noncomputable def Ky (a0:Zd) (a1:Int):Option Bool :=
 (Gb a0).bind fun y2=>cond (!y2) ((Ql).bind fun y4=>some y4) ((Zad a0 a1 131072).bind fun y6=>cond (!y6.2) ((Ql).bind fun y8=>some y8) ((Zc9 a0).bind fun y10=>(Xf y6.1).bind fun y14=>(Zgz y14).bind fun y15=>(Gd y15 (⟨64,65536,0,0⟩:Ym)).bind fun y16=>cond (y16.2 == 3) (((Zbn y10).bind fun y24=>(Zbo y24).bind fun y25=>cond (decide (65536 < y25)) ((Ql).bind fun y26=>some (cond (decide (65536 < y25)) y26 false)) (some false)).bind fun (z20:Bool)=>some z20) ((cond (y16.2 == 0) ((Zda y16.1 y10).bind fun y33=>cond y33 ((Ql).bind fun y34=>some (cond (cond (y16.2 == 0) y33 false) y34 false)) (some false)) (some false)).bind fun (z30:Bool)=>some z30)))
def WO (l:List (List Int)):Prop:=l.length * 24≤140737488351232∧∀ x∈l,x.length * 8≤140737488351232
theorem Yaj {x:List Int} (h:x.length * 8≤140737488351232):Q2 x x=some true:=by
 unfold Q2
 have hn:((x.length:Int) != (x.length:Int))=false:=by simp
 rw [hn]
 have key:=Zvo (step:=Qm x x) (r := .inr ()) (fun (s:Int)=>0≤s∧s≤(x.length:Int)) (fun s=>((x.length:Int) - s).toNat) (fun s ⟨i0,i1⟩=>by
  unfold Qm
  by_cases c:s < (x.length:Int)
  ·left
   obtain ⟨y,hy⟩:∃ y,Z6 x s=some y:=⟨x[s.toNat]'(by omega),by unfold Z6;rw [if_pos i0];exact List.getElem?_eq_getElem _⟩
   have hw:IntKind.i64.wrap (s+1)=s+1:=Zcv (by omega)
   have hne:(y != y)=false:=by simp
   exact ⟨s+1,by rw [decide_eq_true c,hy,Option.bind_some,Option.bind_some,hne,hw];rfl,⟨by omega,by omega⟩,by omega⟩
  right;rw [decide_eq_false c];rfl) 0 ⟨by omega,by omega⟩
 rw [key];rfl
theorem Yak {l:List (List Int)} (h:WO l):Uj l l=some true:=by
 unfold Uj
 have hn:((l.length:Int) != (l.length:Int))=false:=by simp
 rw [hn]
 have key:=Zvo (step:=Uk l l) (r := .inr ()) (fun (s:Int)=>0≤s∧s≤(l.length:Int)) (fun s=>((l.length:Int) - s).toNat) (fun s ⟨i0,i1⟩=>by
  unfold Uk
  by_cases c:s < (l.length:Int)
  ·left
   have hy:Z6 l s=some (l[s.toNat]'(by omega)):=by unfold Z6;rw [if_pos i0];exact List.getElem?_eq_getElem _
   have hm:l[s.toNat]'(by omega)∈l:=List.getElem_mem _
   generalize l[s.toNat]'(by omega)=y at hy hm
   have hw:IntKind.i64.wrap (s+1)=s+1:=Zcv (by have:=h.1;omega)
   exact ⟨s+1,by rw [decide_eq_true c,hy,Option.bind_some,Option.bind_some,Yaj (h.2 y hm),Option.bind_some,hw];rfl,⟨by omega,by omega⟩,by omega⟩
  right;rw [decide_eq_false c];rfl) 0 ⟨by omega,by omega⟩
 rw [key];rfl
theorem Zrr {size k left:Int} {A:List (List Int)} (h0:0≤k) (h1:k≤left) (hl:left≤131072) (c2:A.length=0∨A.length < 16∧¬ k≤IntKind.i64.wrap (size - ((Jw A).length:Int))):Jj size (A,left) k=some ((A.length:Int),0,A++[zl [] k],left - k):=by
 have e:X8 A size left k=((A.length:Int),0,true,A++[zl [] k],IntKind.i64.wrap (left - k)):=(if_neg (by omega)).trans (if_pos c2)
 unfold Jj
 rw [e,Zcv (by omega)]
 rfl
def T13:Tr:=⟨1,[5],[]⟩
theorem Yd6:Bd T13 := .mk _ (by simp [T13]) (by simp [T13]) (fun w hw=>by rw [List.mem_singleton.1 hw];decide) (fun k hk=>by cases hk)
theorem Yeh:pt T13≤200000:=by simp [T13,Zfn]
theorem Yei:rt T13 64=true:=by
 rw [Zdp,if_neg (by decide),if_neg (by decide),if_neg (by simp [T13])]
 rfl
theorem Yed:nrm T13=T13:=by simp [T13,Zfi,tr]
theorem Yc0 (N:Nat):Zhl true 1 (N+1) T13 0 0 ([[0]],8)=some ([[8589934598],[5],[4294967298,4294967296]],5):=by
 simp only [Zhl]
 rw [if_neg (by decide)]
 have g1:Jj 1 ([[0]],8) (pwd T13)=some (1,0,[[0],[0]],7):=Zrr (k:=1) (A:=[[0]]) (by decide) (by decide) (by decide) (.inr ⟨by decide,by decide⟩)
 rw [g1,Option.bind_some]
 have a1:Zcu 1 ([[0],[0]],7) 0 0 (pkd T13) (pup T13) 1 0=some ([[8589934598],[0],[4294967298,4294967296]],5):=by
  have i1:inO 1 ([[0],[0]],7) 1=none:=by
   unfold inO
   show (if (1:Int)≤7∧1≤IntKind.i64.wrap (1 - (([0]:List Int).length:Int)) then _ else none)=none
   exact if_neg (by decide)
  have g2:Jj 1 ([[0],[0]],7) 2=some (2,0,[[0],[0],[0,0]],5):=Zrr (k:=2) (A:=[[0],[0]]) (by decide) (by decide) (by decide) (.inr ⟨by decide,by decide⟩)
  unfold Zcu
  rw [if_neg (by decide),if_neg (by decide),i1,g2]
  rfl
 rw [a1,Option.bind_some]
 unfold inT
 rw [if_pos rfl]
 rfl
theorem Ycs:Zh0 true T13 1 9=some ([[8589934598],[5],[4294967298,4294967296]],5):=by
 unfold Zh0
 rw [if_neg (by rw [Yei];decide),Yed]
 have g0:Jj (szB 1) ([],Vb 9) 1=some (0,0,[[0]],8):=Zrr (k:=1) (A:=[]) (by decide) (by decide) (by decide) (.inl rfl)
 rw [g0,Option.bind_some]
 exact Yc0 _
theorem Zwx:∀ (n:Nat) (a b:Tr),SizeOf.sizeOf a < n→(eqT a b=true↔a=b)
 | 0,a,b,h=>by omega
 | n+1,a,b,hn=>by
  have ih:∀ x∈a.Kids,∀ y,eqT x y=true↔x=y:=fun x hx y=>Zwx n x y (by have:=Yy hx;omega)
  have hl:∀ (l m:List Tr),(∀ x∈l,x∈a.Kids)→(eqL l m=true↔l=m):=fun l=>by
   induction l with
   | nil=>intro m _;cases m <;> simp [eqL]
   | cons x l ihl =>
    intro m hm
    cases m with
    | nil=>simp [eqL]
    | cons y m=>rw [Z0q,Bool.and_eq_true,ih x (hm x (.head _)) y,ihl m (fun z hz=>hm z (.tail _ hz)),List.cons.injEq]
  rw [Z61,Bool.and_eq_true,Bool.and_eq_true,hl a.Kids b.Kids (fun x hx=>hx),beq_iff_eq,beq_iff_eq]
  obtain ⟨k,w,ks⟩:=a
  obtain ⟨k',w',ks'⟩:=b
  simp
theorem eqT_iff {a b:Tr}:eqT a b=true↔a=b:=Zwx _ a b (Nat.lt_succ_self _)
theorem Z3q:∀ (n:Nat) (t:Tr) (d:Nat),SizeOf.sizeOf t < n→rt t d=true→pt t≤3000→0≤sz t∧sz t≤405000000 * (pt t:Int)
 | 0,_,_,h,_,_=>by omega
 | n+1,t,d,h,hr,hp=>by
  obtain ⟨_,_,_,_,hk⟩:=Zep hr
  have ih:∀ x∈t.Kids,0≤sz x∧sz x≤405000000 * (pt x:Int):=fun x hx=>Z3q n x (d - 1) (by have:=Yy hx;omega) (hk x hx) (by have:=Zp0 hx;omega)
  have ih2:∀ x∈t.Kids,0≤(x.Kids.map sz).sum∧(x.Kids.map sz).sum≤405000000 * (pt x:Int):=fun x hx=>by
   have:=Zkf (f:=sz) (g:=pt) (c:=405000000) (l:=x.Kids) fun y hy=>Z3q n y (d - 1 - 1) (by have:=Yy hx;have:=Yy hy;omega) ((Zep (hk x hx)).2.2.2.2 y hy) (by have:=Zp0 hx;have:=Zp0 hy;omega)
   rw [Zfn x]
   omega
  have s1:=Zkf ih
  have s2:=Zkf ih2
  have pk:=Ze2 t
  have pe:=Zfn t
  rw [Zxj]
  by_cases h1:t.Kind=1
  ·rw [if_pos h1];omega
  by_cases h2:2≤t.Kind∧t.Kind≤7
  ·rw [if_neg h1,if_pos h2]
   have:=Z4p (c:=t.Kind - 2) (by omega) t.Kids.length
   unfold Zvl
   omega
  by_cases h8:t.Kind=8
  ·rw [if_neg h1,if_neg h2,if_pos h8];omega
  by_cases h9':t.Kind=9
  ·rw [if_neg h1,if_neg h2,if_neg h8,if_pos h9']
   obtain ⟨e,a,b,_⟩:=Z33 (l:=t.Kids) (by omega) (fun x hx=>by
    obtain ⟨r1,r2⟩:=(Q1 hr (by omega) (by omega)).2.2.2 x hx
    unfold okk at r2
    rw [if_neg h2,Bool.and_eq_true,bne_iff_ne,Bool.or_eq_true,bne_iff_ne,beq_iff_eq] at r2
    have k1:x.Kind=1:=by rcases r2.2 with h | h;exact absurd h9' h;exact h
    have:=Q1 r1 (by omega) (by omega)
    have:=this.2.1 k1
    omega)
   have hmm:=Int.mul_le_mul_of_nonneg_left (show (fr t.Kids).1+(fr t.Kids).2≤131070 by omega) (show (0:Int)≤(t.Kids.length:Int) by omega)
   omega
  rw [if_neg h1,if_neg h2,if_neg h8,if_neg h9'];omega
theorem Ztr:∀ (k:Nat) (t:Tr) (d:Nat),rt t d=true→wt t≤10000000000000→t.Words.length≤65536→SizeOf.sizeOf t < k→Xp k t=some ((wt t:Nat):Int)
 | 0,t,_,_,_,_,h=>by omega
 | k+1,t,d,hr,hb,hwl,hk=>by
  have g:=Zep hr
  have hwe:=Zv5 t
  show K8 (Xp k) t=_
  unfold K8
  by_cases h0:t.Kind=0
  ·rw [if_pos h0] at hwe
   rw [Zo5 h0,cond_true,hwe]
   rfl
  rw [Vu h0,cond_false]
  rw [if_neg h0] at hwe
  by_cases h10:t.Kind=10
  ·rw [if_pos h10] at hwe
   rw [Vu (show ¬ t.Kind=1 by omega),cond_false,Option.bind_some,hwe]
   have hk0:=g.2.2.2.1 (.inr h10)
   have:Z8 (Xs (Xp k) t) (1,0)=some 1:=by
    refine Y7 ?_
    unfold Xs
    simp only
    rw [hk0]
    rfl
   rw [this]
   rfl
  rw [if_neg h10] at hwe
  have hri:=Q1 hr h0 h10
  have ih:∀ x∈t.Kids,Xp k x=some ((wt x:Nat):Int):=fun x hx=>by
   have hs:=Z35 (f:=wt) hx
   have hxr:=hri.2.2.2 x hx
   refine Ztr k x (d - 1) hxr.1 (by omega) ?_ (by have:=Yy hx;omega)
   by_cases q0:x.Kind=0
   ·have:=hxr.1
    rw [Zdp,if_pos q0,Bool.and_eq_true,beq_iff_eq] at this
    omega
   by_cases q1:x.Kind=10
   ·obtain ⟨w,hw⟩:=Zsk q1 hxr.1
    rw [hw]
    simp
   have:=(Q1 hxr.1 q0 q1).1
   omega
  have main:∀ (c s0:Nat),c=(if t.Kind=1∨t.Kind=8 then 1 else 0)→s0+((t.Kids.map fun x=>wt x+c).sum)≤140000000000000→Z8 (Xs (Xp k) t) ((s0:Int),0)=some ((s0+(t.Kids.map fun x=>wt x+c).sum:Nat):Int):=fun c s0 hc hs =>
   Z7s t.Kids (fun x=>wt x+c) s0 _ _ (by omega) (Nat.le_refl _) (by exact Nat.le_trans hs (by decide)) (fun i x s hi hx hm=>by
    unfold Xs
    simp only
    rw [Zow hi,cond_true,Jr hx,Option.bind_some,ih x hm,Option.bind_some]
    by_cases q:t.Kind=1∨t.Kind=8
    ·have e:cond (t.Kind == 1) true (t.Kind == 8)=true:=by rcases q with q | q <;> rw [q] <;> rfl
     rw [e,cond_true,Option.bind_some,w_l,hc,if_pos q,Int.natCast_add,← Int.add_assoc]
     rfl
    ·have e:cond (t.Kind == 1) true (t.Kind == 8)=false:=by rw [Vu (by omega),Vu (by omega)];rfl
     rw [e,cond_false,Option.bind_some,hc,if_neg q,Nat.add_zero]) (fun s=>by
    unfold Xs
    simp only
    rw [Zov,cond_false])
  have sadd:∀ c:Nat,(t.Kids.map fun x=>wt x+c).sum=t.Kids.length * c+(t.Kids.map wt).sum:=fun c=>Zrg fun x _=>Nat.add_comm _ _
  by_cases h1:t.Kind=1
  ·rw [if_pos h1] at hwe
   rw [Zo5 h1,cond_true,Xc (by omega) (by omega),Option.bind_some]
   have:=main 1 (1+t.Words.length) (by rw [if_pos (.inl h1)]) (by rw [sadd];omega)
   rw [sadd] at this
   have e:(1:Int)+(t.Words.length:Int)=((1+t.Words.length:Nat):Int):=by omega
   simp only [e]
   rw [this,Option.bind_some]
   congr 2
   omega
  rw [if_neg h1] at hwe
  rw [Vu h1,cond_false,Option.bind_some]
  by_cases h8:t.Kind=8
  ·rw [if_pos h8] at hwe
   have:=main 1 1 (by rw [if_pos (.inr h8)]) (by rw [sadd];omega)
   rw [sadd] at this
   rw [show (1:Int)=((1:Nat):Int) from rfl,this,Option.bind_some]
   congr 2
   omega
  rw [if_neg h8] at hwe
  have:=main 0 1 (by rw [if_neg (by omega)]) (by rw [sadd];omega)
  rw [sadd] at this
  rw [show (1:Int)=((1:Nat):Int) from rfl,this,Option.bind_some]
  congr 2
  omega
theorem Z14 {t:Tr} {d:Nat} (hr:rt t d=true) (hb:wt t≤10000000000000) (hwl:t.Words.length≤65536):Zbo t=some ((wt t:Nat):Int):=Zkh (SizeOf.sizeOf t+1) fun k hk=>Ztr k t d hr hb hwl (by omega)
theorem Z48:Ql=some true:=by
 have B:Zad (⟨1,([5]:List Int),[]⟩:Zd) 1 9=_:=if_pos ⟨Yd6,Yeh⟩
 have b13:Zh0 true (⟨1,([5]:List Int),[]⟩:Zd) 1 9=some ([[8589934598],[5],[4294967298,4294967296]],5):=Ycs
 rw [b13] at B
 have hw:WS ([[8589934598],[5],[4294967298,4294967296]]:List (List Int)):=⟨by decide,by simp,by simp⟩
 unfold Ql
 rw [B,Option.bind_some]
 simp only [cond_true]
 rw [show Xf (some (⟨[[8589934598],[5],[4294967298,4294967296]],szB 1,5⟩:Zm))=some [[8589934598],[5],[4294967298,4294967296]] from by
  unfold Xf
  simp only [Option.isNone_some,cond_false,Option.bind_some]
  rw [Zrk hw]
  rfl]
 rw [Option.bind_some,Yak (l:=[[8589934598],[5],[4294967298,4294967296]]) ⟨by decide,by simp⟩]
 rfl
theorem Zyv {t:Tr} (hb:Bd t) (size:Int):Ky t size=some true:=by
 obtain ⟨f,ef,pf⟩:=Ybv hb
 unfold Ky
 rw [ef,Z48]
 cases f with
 | false=>rfl
 | true =>
  have hp0:=pf rfl
  have hp:pt t≤200000:=by omega
  have B:Zad t size 131072=_:=if_pos ⟨hb,hp⟩
  rw [B,Z0j hb hp]
  cases e:Zh0 false t size 131072 with
  | none=>rfl
  | some τ =>
   have hw:=Ybr hb hp e
   obtain ⟨_,_,_,hm⟩:=Z0i hb hp e
   have hwb:=Z88 _ (nrm t) 64 (Nat.lt_succ_self _) hm.f
   have hpn:=Zzv _ t (Nat.lt_succ_self _)
   have hz:=Z3q _ (nrm t) 64 (Nat.lt_succ_self _) hm.f.rt (by omega)
   have hwl:(nrm t).Words.length≤65536:=by
    by_cases c:(nrm t).Kind=0
    ·rw [hm.null c];decide
    have:=(Q1 hm.f.rt c hm.k).1
    omega
   have hseg:Xf (some (⟨τ.1,szB size,τ.2⟩:Zm))=some τ.1:=by
    unfold Xf
    simp only [Option.isNone_some,cond_false,Option.bind_some]
    rw [Zrk hw]
    rfl
   simp only [Option.bind_some,cond_true,cond_false,Bool.not_true]
   rw [Z8l hb,Option.bind_some,hseg,Option.bind_some,Ybm hw,Option.bind_some,Z3h (A:=⟨τ.1,0,0⟩) hw,Option.bind_some]
   simp only
   rcases Z9j hb hp e (x:=(⟨64,65536,0,0⟩:Ym)) rfl with ⟨e1,e2⟩ | ⟨e1,e2⟩
   ·rw [e1,e2,Z7x _ (nrm t) 64 (Nat.lt_succ_self _) hm.f.rt,Zqv,Yal (Zzk _ t (Nat.lt_succ_self _) hb) (Zzk _ t (Nat.lt_succ_self _) hb),eqT_iff.2 rfl]
    rfl
   have l0:(Uh ⟨64,65536,0,0⟩).Weight=65536:=rfl
   rw [l0] at e2
   rw [e1,Z5h hm.f,show ((3:Int) == 3)=true from rfl,cond_true,Option.bind_some,Z14 (Z8m _ (nrm t) 64 (Nat.lt_succ_self _) hm.f) (by omega) (by rw [Zk7];exact hwl),Option.bind_some,decide_eq_true e2]
   rfl
theorem U1  {r:Bool} {O:Objs} {n:Nat} (h:Ql=some r):GTo Try.prog 5 [] O n (.val (.bool r)) O n:=by
 unfold Ql at h
 refine Yj Zc Try.call5 Try.func5 rfl (Nat.le_of_ble_eq_true rfl) (Nat.le_refl _) fun hU => ?_
 have hN0:O n=none:=hU.fresh _ (Nat.le_refl _)
 have hN:∀ k,O (n+k)=none:=fun k=>hU.fresh _ (Nat.le_add_right _ _)
 show W _ _ _ _ ⟨19,[],[]⟩ (Zy O n []) _
 refine Zp [] (Zb Zc [] ?_)
 simp only [push_cast,seval,Za,hN0,hN]
 refine Zj ?_
 obtain ⟨y2,hy2,h⟩:=bC h
 refine Zb Zc [] ?_
 simp only [push_cast,seval,Za,hN0,hN]
 refine GCalls.dropL (l':=[none]) hU rfl ?_ ((Zlo hy2).then ?_)
 ·simp only [push_cast,seval,Za,hN0,hN]
 simp only [push_cast,seval,Za,hN0,hN]
 refine Zl [1,2] [false] ?_
 simp only [push_cast,seval]
 obtain ⟨z5,hz5,h⟩:=bC h
 refine Xk (E':=⟨19,[],[(0,.val (.bool z5))]⟩) (O':=(Zy O n [none,none,none,none,none])) (n0:=(n+5)) ?_ ?_
 ·rcases Bool.eq_false_or_eq_true y2.2 with c10 | c10
  ·replace hz5:=Z3 c10 hz5
   obtain ⟨y8,hy8,hz5⟩:=bC hz5
   obtain ⟨y9,hy9,hz5⟩:=bC hz5
   refine Zb Zc (Z74 []) ?_
   simp only [push_cast,seval,Za,c10,hN0,hN]
   refine (Zch hy8).then ?_
   simp only [push_cast,seval,Za,c10,hN0,hN]
   refine GCalls.lend (Zpw hy9) rfl ?_ ?_
   ·simp only [push_cast,seval,Za,c10,hN0,hN]
   simp only [push_cast,seval,Za,c10,hN0,hN]
   have hz5:=Option.some.inj hz5;subst hz5
   refine And.intro rfl (Fit2.of (Zr hU rfl rfl ?_) (by omega))
   simp only [push_cast,seval,Za,c10,hN0,hN]
  replace hz5:=Z0 c10 hz5
  refine Zb Zc (Z5w []) ?_
  simp only [push_cast,seval,Za,c10,hN0,hN]
  have hz5:=Option.some.inj hz5;subst hz5
  refine And.intro rfl (Fit2.of (Zr hU rfl rfl ?_) (by omega))
  simp only [push_cast,seval,Za,c10,hN0,hN]
 refine Zu ?_
 try simp only [Zk,Zg]
 have h:=Option.some.inj h;subst h
 refine Zq (.inr rfl) hU [.val (.bool z5)] (by omega) ?_
 simp only [push_cast,seval,Za,Try.results5,hN0,hN]
theorem Zh6 {a0:Zd} {a1:Int} {r:Bool} {O:Objs} {n:Nat} (h:Ky a0 a1=some r):GTo Try.prog 3 [.agg (Zf a0),.val (.int .i64 a1)] O n (.val (.bool r)) O n:=by
 unfold Ky at h
 refine Yj Zc Try.call3 Try.func3 rfl (Nat.le_of_ble_eq_true rfl) (Nat.le_refl _) fun hU => ?_
 have hN0:O n=none:=hU.fresh _ (Nat.le_refl _)
 have hN:∀ k,O (n+k)=none:=fun k=>hU.fresh _ (Nat.le_add_right _ _)
 show W _ _ _ _ ⟨52,[],[(0,.agg (Zf a0)),(1,.val (.int .i64 a1))]⟩ (Zy O n []) _
 refine Zp [1,2] (Zb Zc [] ?_)
 simp only [push_cast,seval,Za,hN0,hN]
 refine Zj ?_
 refine Zj ?_
 obtain ⟨y2,hy2,h⟩:=bC h
 refine Zb Zc [] ?_
 simp only [push_cast,seval,Za,hN0,hN]
 refine (Zqw hy2).then ?_
 simp only [push_cast,seval,Za,hN0,hN]
 refine Zl [1,2,12] [true] ?_
 simp only [push_cast,seval]
 refine Zs (t:=(!y2)) rfl (fun c39 => ?_) (fun c39 => ?_)
 ·replace h:=Z3 c39 h
  refine Zj ?_
  obtain ⟨y4,hy4,h⟩:=bC h
  refine Zb Zc [] ?_
  simp only [push_cast,seval,Za,hN0,hN]
  refine (U1 hy4).then ?_
  simp only [push_cast,seval,Za,hN0,hN]
  refine Zl [4] [false] ?_
  simp only [push_cast,seval]
  refine Zu ?_
  try simp only [Zk,Zg]
  have h:=Option.some.inj h;subst h
  refine Zq (.inr rfl) hU [.val (.bool y4)] (by omega) ?_
  simp only [push_cast,seval,Za,Try.results3,hN0,hN]
 replace h:=Z0 c39 h
 refine Zw ?_
 try simp only [Zk,Zg]
 refine Zl [1,2] [true] ?_
 simp only [push_cast,seval]
 refine Zj ?_
 obtain ⟨y6,hy6,h⟩:=bC h
 refine Zb Zc [] ?_
 simp only [push_cast,seval,Za,hN0,hN]
 refine (Zlo hy6).then ?_
 simp only [push_cast,seval,Za,hN0,hN]
 refine Zl [2,5,6] [true] ?_
 simp only [push_cast,seval]
 refine Zj ?_
 refine Zp [2,5,21] (Zb Zc [] ?_)
 simp only [push_cast,seval,Za,hN0,hN]
 refine Zs (t:=(!y6.2)) rfl (fun c38 => ?_) (fun c38 => ?_)
 ·replace h:=Z3 c38 h
  refine Zj ?_
  obtain ⟨y8,hy8,h⟩:=bC h
  refine Zb Zc [] ?_
  simp only [push_cast,seval,Za,hN0,hN]
  refine (U1 hy8).then ?_
  simp only [push_cast,seval,Za,hN0,hN]
  refine Zl [4] [false] ?_
  simp only [push_cast,seval]
  refine Zu ?_
  try simp only [Zk,Zg]
  have h:=Option.some.inj h;subst h
  refine Zq (.inr rfl) hU [.val (.bool y8)] (by omega) ?_
  simp only [push_cast,seval,Za,Try.results3,hN0,hN]
 replace h:=Z0 c38 h
 refine Zw ?_
 try simp only [Zk,Zg]
 refine Zl [2,5] [true] ?_
 simp only [push_cast,seval]
 refine Zj ?_
 obtain ⟨y10,hy10,h⟩:=bC h
 refine Zb Zc [] ?_
 simp only [push_cast,seval,Za,hN0,hN]
 refine (Zpx hy10).then ?_
 simp only [push_cast,seval,Za,hN0,hN]
 refine Zl [5,7] [false,true] ?_
 simp only [push_cast,seval]
 refine Zj ?_
 obtain ⟨y14,hy14,h⟩:=bC h
 obtain ⟨y15,hy15,h⟩:=bC h
 obtain ⟨y16,hy16,h⟩:=bC h
 refine Zb Zc [] ?_
 simp only [push_cast,seval,Za,hN0,hN]
 refine (Zch hy14).then ?_
 simp only [push_cast,seval,Za,hN0,hN]
 refine (Z1l hy15).then ?_
 simp only [push_cast,seval,Za,hN0,hN]
 refine (Zq0 hy16).then ?_
 simp only [push_cast,seval,Za,hN0,hN]
 refine Zl [7,8,9] [false,true,true] ?_
 simp only [push_cast,seval]
 refine Zj ?_
 refine Zp [7,8,9,34] (Zb Zc [] ?_)
 simp only [push_cast,seval,Za,hN0,hN]
 refine Zs (t:=(y16.2 == 3)) rfl (fun c37 => ?_) (fun c37 => ?_)
 ·replace h:=Z3 c37 h
  obtain ⟨z20,hz20,h⟩:=bC h
  refine Xk (E':=⟨52,[],[(4,.val (.bool z20))]⟩) (O':=(Zy O n [none,none,none])) (n0:=(n+3)) ?_ ?_
  ·obtain ⟨y24,hy24,hz20⟩:=bC hz20
   obtain ⟨y25,hy25,hz20⟩:=bC hz20
   rcases Bool.eq_false_or_eq_true (decide (65536 < y25)) with c27 | c27
   ·replace hz20:=Z3 c27 hz20
    obtain ⟨y26,hy26,hz20⟩:=bC hz20
    refine Zb Zc [some true] ?_
    simp only [push_cast,seval,Za,c27,hN0,hN]
    refine (Zfb hy24).then ?_
    simp only [push_cast,seval,Za,c27,hN0,hN]
    refine (Zfc hy25).then ?_
    simp only [push_cast,seval,Za,c27,hN0,hN]
    refine (U1 hy26).then ?_
    simp only [push_cast,seval,Za,c27,hN0,hN]
    have hz20:=Option.some.inj hz20;subst hz20
    refine And.intro rfl (Fit2.of (Zr hU rfl rfl ?_) (by omega))
    simp only [push_cast,seval,Za,c27,hN0,hN]
   replace hz20:=Z0 c27 hz20
   refine Zb Zc [some false] ?_
   simp only [push_cast,seval,Za,c27,hN0,hN]
   refine (Zfb hy24).then ?_
   simp only [push_cast,seval,Za,c27,hN0,hN]
   refine (Zfc hy25).then ?_
   simp only [push_cast,seval,Za,c27,hN0,hN]
   have hz20:=Option.some.inj hz20;subst hz20
   refine And.intro rfl (Fit2.of (Zr hU rfl rfl ?_) (by omega))
   simp only [push_cast,seval,Za,c27,hN0,hN]
  refine Zu ?_
  try simp only [Zk,Zg]
  have h:=Option.some.inj h;subst h
  refine Zq (.inr rfl) hU [.val (.bool z20)] (by omega) ?_
  simp only [push_cast,seval,Za,Try.results3,hN0,hN]
 replace h:=Z0 c37 h
 refine Zw ?_
 try simp only [Zk,Zg]
 refine Zl [7,8,9] [false,true,true] ?_
 simp only [push_cast,seval]
 obtain ⟨z30,hz30,h⟩:=bC h
 refine Xk (E':=⟨52,[],[(4,.val (.bool z30))]⟩) (O':=(Zy O n [none,none,none])) (n0:=(n+3)) ?_ ?_
 ·rcases Bool.eq_false_or_eq_true (y16.2 == 0) with c35 | c35
  ·replace hz30:=Z3 c35 hz30
   obtain ⟨y33,hy33,hz30⟩:=bC hz30
   rcases Bool.eq_false_or_eq_true y33 with c36 | c36
   ·replace hz30:=Z3 c36 hz30
    try rw [c36] at c35
    obtain ⟨y34,hy34,hz30⟩:=bC hz30
    refine Zb Zc (Z5x []) ?_
    simp only [push_cast,seval,Za,c35,c36,hN0,hN]
    refine (Zg2 hy33).then ?_
    simp only [push_cast,seval,Za,c35,c36,hN0,hN]
    refine (U1 hy34).then ?_
    simp only [push_cast,seval,Za,c35,c36,hN0,hN]
    have hz30:=Option.some.inj hz30;subst hz30
    refine And.intro rfl (Fit2.of (Zr hU rfl rfl ?_) (by omega))
    simp only [push_cast,seval,Za,c35,c36,hN0,hN]
   replace hz30:=Z0 c36 hz30
   try rw [c36] at c35
   refine Zb Zc (Z1k [oFf]) ?_
   simp only [push_cast,seval,Za,c35,c36,hN0,hN]
   refine (Zg2 hy33).then ?_
   simp only [push_cast,seval,Za,c35,c36,hN0,hN]
   have hz30:=Option.some.inj hz30;subst hz30
   refine And.intro rfl (Fit2.of (Zr hU rfl rfl ?_) (by omega))
   simp only [push_cast,seval,Za,c35,c36,hN0,hN]
  replace hz30:=Z0 c35 hz30
  refine Zb Zc (Z5v []) ?_
  simp only [push_cast,seval,Za,c35,hN0,hN]
  have hz30:=Option.some.inj hz30;subst hz30
  refine And.intro rfl (Fit2.of (Zr hU rfl rfl ?_) (by omega))
  simp only [push_cast,seval,Za,c35,hN0,hN]
 refine Zu ?_
 try simp only [Zk,Zg]
 have h:=Option.some.inj h;subst h
 refine Zq (.inr rfl) hU [.val (.bool z30)] (by omega) ?_
 simp only [push_cast,seval,Za,Try.results3,hN0,hN]
end Go.Proofs.Ytbkhdkfjabiocaa
