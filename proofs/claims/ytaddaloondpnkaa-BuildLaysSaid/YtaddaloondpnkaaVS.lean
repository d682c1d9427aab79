/- Part VS: the law; each theorem bears its own conditions. -/
import Derived.Test.YtaddaloondpnkaaVN
import Derived.Test.YtaddaloondpnkaaUJ
namespace Go.Proofs.Ytaddaloondpnkaa
open Go.RowKit
set_option linter.unusedVariables false
set_option linter.unusedSimpArgs false
set_option maxRecDepth 100000
set_option maxHeartbeats 4000000
attribute [local push_cast] Ze Z4 Zgz Zgy Zhv Zhu Zh Zf Zdx Gk Gj onW Yq Uy V7 Zju Zg3 Zb5 Zb9 Zb4 Zb8 Zez Zev Zb7 Zey Zex Zew Zb6 Zet Gz evS wok Xd Op.operands Call.operands gop onK onP atK List.all_cons List.all_nil Bool.and_true Bool.true_and Bool.and_self Value.oneCell' List.take_zero List.take_succ_cons List.take_nil List.drop_zero List.drop_succ_cons List.drop_nil List.append_nil Nat.add_zero Nat.zero_add Jj Z5 ev Y9 Zkx Zgs Zgr Zgx Zgv Zgw Zgt Zgu Zgq Zlh Zni Zpd Zcy Vg Zc4 V8 Zbq Zat V0 V5 Gi Ge V3 Gh Gg Gf V2 Gc V1 V4 K8 Gd Zf8 Gl Jo Zcd Jp Zdw Zcx Zol Up bHi bMx Vh Zdu Zpz Zcw Zfl U7 Qz Zk4 Zp4 Zcc U4 Zp6 Vf Zsd Zd2 Zd6 Zd1 Zd5 Zhi Zhe Zhc Zbr Zd3 Zhh Zhg Zhf Zd4 Zg8 Zhb Zg7 Zha Zls Zlp Zlo Zg9 Zlq Zlr Zhd Zfh Zjt Zej Gx Gw pop TK.isAgg Zhn Zhs Zhm Zhr Zed Zl6 Zl2 Zhq Zl5 Zl4 Zl3 Zhp Zl1 G.under G.unders List.getD_cons_zero List.getD_cons_succ List.set_cons_zero List.set_cons_succ List.map_cons List.map_nil List.toList_toArray Array.toList_append Option.toArray_none Option.toArray_some Array.toList_map Option.map_some Option.map_none Option.bind_some Option.bind_none List.getElem?_cons_zero List.getElem?_cons_succ List.getElem?_nil List.nil_append List.cons_append List.replicate_succ List.replicate_zero List.length_cons List.length_nil and_true true_and and_false false_and Bool.true_eq_false Bool.false_eq_true forall_const false_implies implies_true IntKind.bits if_true if_false ite_true ite_false eq_self true_implies false_or or_false or_true true_or not_true_eq_false not_false_eq_true decide_true decide_false decide_eq_true_eq decide_eq_false_iff_not beq_iff_eq bne_iff_ne ne_eq Bool.not_eq_true Bool.not_eq_false beq_eq_false_iff_ne bne_eq_false_iff_eq beq_self_eq_true bne_self_eq_false Option.some.injEq exists_eq_left' exists_eq_left ge_iff_le gt_iff_lt decide_not Bool.not_true Bool.not_false imp_self Zlj cond_true cond_false Zw1 Zw0 Bool.not_not Bool.and_false Bool.false_and Bool.or_true Bool.true_or Bool.or_false Bool.false_or Vq Zal Vr Ku J6 Qg Option.join_some Nat.add_assoc Int.toNat_natCast eI eB eS eL Zjr Zae V9 Zg2 Zg0 Zg1 Zsj Zuf Zaj Uf Zh1 Zhz Zh0 Zph Zkw Zna Zkd Zlf Uq Zjs List.length_append G.agg.injEq G.row.injEq G.ref.injEq G.val.injEq G.sl.injEq G.tup.injEq Value.int.injEq Value.bool.injEq Value.string.injEq List.cons.injEq exists_and_left exists_const List.flatten_cons List.flatten_nil Int.le_refl Nat.le_refl Zfe Jz Zdq Bool.not_eq_true' Bool.not_eq_false' Zjj Za3 Zmz Zm3 Zmy Zm2 Zsa Zr5 List.size_toArray Zn3 Zla G.ren G.rens Zpi Zeo Zh4 Zgo Zgp Zeu Zm4 Zc0 G.fn.injEq Zcu Zfg Zji Zr6 Zff Zm1 Zr9 Zr8 Zr7 Zm0 Zlt Zqe Option.join_none Zo Jd undef Zfn Arr.len Arr.put_eq Zai Zbw Gt Ue Zhy Zhw Zhx onB Zsi Zk3 Xj Zbl Zdg Zdh Zdi Zdj Zdk Zdl Zbt Zbz Zbx Gv Ug Zby Zei Zeh Zeg Zef Zsk Zue Zpg Zos J0 Zpe Zj0 Zb0 Gu Zj9 Zj8 Zvc Zqo Zke Zcv Zfj Zcg Zcs Zdm Zdn Zdo Zdp Za6 Za7 Za8 Za9 Zba Zbb Zbc Zbd Zbe Zbf Zbg Zbh Zbi Zaq prT Zfi Zxy Zmp Zso Zmq Zxz Zmr Zx0 Zms Zx1 Zmt Zx2 Zmu Zx3 Zmv Zx4 Zmw Zqw Zib Zqx Zic Zqy Zid Zqz Zie Zq0 Zif Zq1 Zig Zq2 Zih Zq3 Zii Zq4 Zij Zq5 Zik Zq6 Zil Vx Zc9 Zob Zda Zq7 Zim J3 Zin Zq8 Zfu Zq9 Zio Zra Zip Zrb Ziq Zrc Zir Zrd Zis Zre Zit Zrf Ziu Zrg Ziv K4 Ziw Zrh Zix Zri Ziy Zrj Ziz Zrk Zi0 Zrl Zi1 Zrm Zi2 Zrn Zi3 Zro Zi4 Zrp Zi5 Zrq Zi6 Zrr Zi7 Zrs Zi8 Zrt Zi9 Zru Zja Zrv Zjb Zrw Zjc Zrx Zjd Zry Zje Zrz Zjf Zmb Ze0 Zmc Ze1 Zmd Ze2 Zme Ze3 Zmf Ze4 Zmg Ze5 Zmh Ze6 Zmi Ze7 Zmj Ze8 Zmk Ze9 Zml Zfa Zmm Zfb Zmn Zfc Zmo Zfd Zt Uo G5 Gn Gs Zac Un Uk Ui Y7 Kp Ko Kj Kl Kq Jy Jw Jv Km Xe Xw Xv Xq Xs Xx Xk Xi Xh Xu Zg Yr Qw Qv Qo Qr Qy Qf Qe Qd Qt Zaa G4 Gm Gr Zab Um Uj Uh G0 V6
structure BA (size most:Int) (O:Objs) (n b i j:Nat) (L:List NR) (σ:SG):Prop where
 a:AR size most O n i j L σ
 hb:b < n
 ht:¬ ter i j L b
 ho:O b=some ⟨false,71,2,1,[.ref i 0,.val (.bool true)]⟩
abbrev isB (b:Nat):Nat→Prop:=fun u=>u=b
def EndR (size most:Int) (b i j:Nat) (O:Objs) (n:Nat) (L:List NR) (res:Option SG) (r:G) (O':Objs) (n':Nat):Prop :=
 ∃ L',r = .tup []∧Fr (isB b) i j O n L O' n' L'∧match res with
  | none=>O' b=some ⟨false,71,2,1,[.ref i 0,.val (.bool false)]⟩
  | some τ=>BA size most O' n' b i j L' τ
theorem BA.own {size most:Int} {O:Objs} {n b i j:Nat} {L:List NR} {σ:SG} (h:BA size most O n b i j L σ) (x:Option GObj):BA size most (O.upd n x) (n+1) b i j L σ:=⟨h.a.own x,Nat.lt_succ_of_lt h.hb,h.ht,by rw [Zn _ _ (by have:=h.hb;omega)];exact h.ho⟩
theorem Zpt {O:Objs} {n b i j:Nat} {L:List NR} {size most k:Int} {σ:SG} (h:BA size most O n b i j L σ) (hs:St size most σ) (e:Ye size σ k=none) :
  ∃ O' n' L',GTo Try.prog 29 [.ref b 0,.val (.int .i64 k)] O n (.tup [.val (.int .i64 (-1)),.val (.int .i64 (-1))]) O' n'∧O' b=some ⟨false,71,2,1,[.ref i 0,.val (.bool false)]⟩∧Fr (isB b) i j O n L O' n' L':=by
 obtain ⟨b1,b2,b3⟩:=hs.b1 (O:=O) (n:=n) (i:=i) (j:=j) h.a.2
 have c:(Yp σ.1 size σ.2 k).2.2.1=false:=by
  unfold Ye at e
  cases c:(Yp σ.1 size σ.2 k).2.2.1 with
  | true=>rw [c] at e;cases e
  | false=>rfl
 obtain ⟨O',n',L',g1,g2,g3,g4,g5,g6,g7⟩:=Zu3 h.a.1 h.hb h.ht h.ho b1 hs.hl0 (by have:=hs.hm;have:=hs.hmm;omega) hs.hm hs.hmm b2 k (by rw [h.a.2,c];exact fun q=>by cases q)
 rw [h.a.2,c] at g1 g3
 exact ⟨O',n',L',g1,g3,g2,fun u x y z=>g7 u x y z,g6⟩
theorem Zpu {O:Objs} {n b i j:Nat} {L:List NR} {size most k:Int} {σ:SG} {r:Int×Int×SG} (h:BA size most O n b i j L σ) (hs:St size most σ) (e:Ye size σ k=some r) :
  ∃ O' n' L',GTo Try.prog 29 [.ref b 0,.val (.int .i64 k)] O n (.tup [.val (.int .i64 r.1),.val (.int .i64 r.2.1)]) O' n'∧BA size most O' n' b i j L' r.2.2∧Fr (isB b) i j O n L O' n' L':=by
 obtain ⟨b1,b2,b3⟩:=hs.b1 (O:=O) (n:=n) (i:=i) (j:=j) h.a.2
 have ok:=Jq hs e
 obtain ⟨c,rfl⟩:=Zp3 e
 obtain ⟨O',n',L',g1,g2,g3,g4,g5,g6,g7⟩:=Zu3 h.a.1 h.hb h.ht h.ho b1 hs.hl0 (by have:=hs.hm;have:=hs.hmm;omega) hs.hm hs.hmm b2 k (by rw [h.a.2];exact fun _=>ok.2.1)
 rw [h.a.2] at g1 g3 g4 g5
 rw [c] at g1 g3
 exact ⟨O',n',L',g1,⟨⟨g4,g5⟩,Nat.lt_of_lt_of_le h.hb g2,fun q=>by rcases g6 b q with q | q;exact h.ht q;have:=h.hb;omega,g3⟩,g2,fun u x y z=>g7 u x y z,g6⟩
theorem Zft {O:Objs} {n b i j:Nat} {L:List NR} {size most s p:Int} {σ:SG} (v:Int) (h:BA size most O n b i j L σ) (hh:Yj σ.1 s p 1=true) :
  ∃ O' L',GTo Try.prog 61 [.ref b 0,.val (.int .i64 s),.val (.int .i64 p),.val (.int .u64 v)] O n (.tup []) O' n∧BA size most O' n b i j L' (pt1 s p v σ)∧Fr (isB b) i j O n L O' n L':=by
 obtain ⟨O',L',g1,g2,g3,g4,g5⟩:=Zyu (v:=v) h.a.1 h.hb h.ho (by rw [h.a.2];exact hh)
 rw [h.a.2] at g4
 exact ⟨O',L',g1,⟨⟨g2,g4⟩,h.hb,fun q=>h.ht (Ul g3 q),(g5 b h.ht).trans h.ho⟩,Nat.le_refl n,fun u _ _ z=>g5 u z,fun u q => .inl (Ul g3 q)⟩
theorem Z2q {O:Objs} {n b i j:Nat} {L:List NR} {size most s p:Int} {σ:SG} {ws:List Int} (h:BA size most O n b i j L σ) (hp:0≤p∧p+(ws.length:Int)≤1000000) (hh:Yj σ.1 s p (ws.length:Int)=true∨ws=[]) {K:G→Objs→Nat→Prop}
  (hk:∀ O' n' L',BA size most O' n' b i j L' (Yn σ.1 s p ws,σ.2)→Fr (isB b) i j O n L O' n' L'→K (.tup []) O' n') :
  GCalls Try.prog 58 [.ref b 0,.val (.int .i64 s),.val (.int .i64 p),.sl ws.length (fl (eI .u64) ws)] O n K:=by
 refine (Z2r h.a.1 h.hb h.ht h.ho s p ws hp.2 hp.1 (by rw [h.a.2];exact hh)).mono fun r O' n' ⟨e,g1,L',g2,g3,g4,g5⟩ => ?_
 subst e
 rw [h.a.2] at g4
 exact hk O' n' L' ⟨⟨g2,g4⟩,Nat.lt_of_lt_of_le h.hb g1,fun q=>h.ht (Ul g3 q),(g5 b h.hb h.ht).trans h.ho⟩ ⟨g1,fun u a _ b=>g5 u a b,fun u q => .inl (Ul g3 q)⟩
theorem Z1c {O:Objs} {n b i j:Nat} {L:List NR} {size most s:Int} {σ:SG} (h:BA size most O n b i j L σ) (hs:St size most σ) (e:inO size σ s=none) :
  GTo Try.prog 99 [.ref i 0,.val (.int .i64 s),.val (.int .i64 1)] O n (.val (.int .i64 (-1))) O n:=by
 refine Zzv h.a.1.hi h.a.1.hj h.a.1.ho h.a.1.hoj ?_
 have hw:IntKind.i64.wrap (most - (most - σ.2))=σ.2:=by have:=hs.hl0;have:=hs.hm;have:=hs.hmm;rw [X3 (by omega)];omega
 rw [hw]
 unfold inO at e
 rw [← h.a.2] at e
 cases hx:Zv L s with
 | none=>left;rw [Zvr hx];decide
 | some x =>
  rw [Zck hx] at e
  dsimp only at e
  split at e
  ·cases e
  rename_i c
  rw [Zd7 hx]
  by_cases c2:σ.2 < 1
  ·exact .inr (.inr (.inl c2))
  exact .inr (.inr (.inr (by omega)))
theorem Z1d {O:Objs} {n b i j:Nat} {L:List NR} {size most s:Int} {σ:SG} {r:Int×SG} (h:BA size most O n b i j L σ) (hs:St size most σ) (e:inO size σ s=some r) :
  ∃ O' L',GTo Try.prog 99 [.ref i 0,.val (.int .i64 s),.val (.int .i64 1)] O n (.val (.int .i64 r.1)) O' n∧BA size most O' n b i j L' r.2∧Fr (isB b) i j O n L O' n L':=by
 obtain ⟨b1,b2,b3⟩:=hs.b1 (O:=O) (n:=n) (i:=i) (j:=j) h.a.2
 have l0:=hs.hl0
 have lm:=hs.hm
 have lmm:=hs.hmm
 have hw:IntKind.i64.wrap (most - (most - σ.2))=σ.2:=by rw [X3 (by omega)];omega
 unfold inO at e
 rw [← h.a.2] at e
 cases hx:Zv L s with
 | none =>
  have:Zv (L.map (·.2)) s=none:=by
   have hl:=Zad hx
   cases q:Zv (L.map (·.2)) s with
   | none=>rfl
   | some y=>have:=Xy q;rw [List.length_map] at this;omega
  rw [this] at e;cases e
 | some x =>
  rw [Zck hx] at e
  dsimp only at e
  split at e
  ·rename_i c
   have:=Option.some.inj e;subst this
   have hxm:=Z9 hx
   have bx:=b2 x hxm
   have a:=h.a.1
   have g:=Zzu (k:=1) a.hi a.hj a.lt a.hij (a.ni x hxm) (a.nj x hxm) a.ho a.hoj hx (a.hL x hxm) (by omega) (by omega) (by rw [hw];exact c.1) c.2
   have e2:IntKind.i64.wrap (most - σ.2+1)=most - IntKind.i64.wrap (σ.2 - 1):=by rw [X3 (by omega),X3 (by omega)];omega
   rw [e2] at g
   refine ⟨_,Yc L s (x.1,zl x.2 1),g,⟨⟨a.set hx _ (HR j size most (most - IntKind.i64.wrap (σ.2 - 1))),Zgj _ _⟩,h.hb,fun q=>h.ht (Zoc hx _ q),?_⟩,Nat.le_refl n,fun u _ _ q=>Znr hx _ _ _ q,fun u q => .inl (Zoc hx _ q)⟩
   exact (Znr hx _ _ _ h.ht).trans h.ho
  cases e
theorem Fr.keepB {b i j:Nat} {O:Objs} {n:Nat} {L L':List NR} {O':Objs} {n':Nat} (h:Fr (isB b) i j O n L O' n' L') {u:Nat} (hu:u < n) (hx:u≠b) (ht:¬ Go.Proofs.Ytaddaloondpnkaa.ter i j L u):O' u=O u∧u < n'∧¬ Go.Proofs.Ytaddaloondpnkaa.ter i j L' u:=h.keep hu hx ht
theorem Zx7 {P:Program} {ba n:Nat} {c:Code} {Q:GQ} {E:Env} {O:Objs} (h:W P ba c (fun e E O n=>Und O n→Q e E O n) E O n):W P ba c Q E O n:=fun hb w m a hM hE =>
 wp_mono (h hb w m a hM hE) fun e a' w' ⟨E2,O2,n2,m2,h1,h2,h3,h4⟩=>⟨E2,O2,n2,m2,h1 ⟨h2.fresh,fun i o hi=>by obtain ⟨vs,hv,_⟩:=h2.obj i o hi;exact Qu _ _ hv⟩,h2,h3,h4⟩
theorem Zxr {O:Objs} {n b i:Nat} {s p hm q k u:Int} (hb:b < n) (hi:i < n) (ho:O b=some ⟨false,71,2,1,[.ref i 0,.val (.bool false)]⟩) :
  GTo Try.prog 57 [.ref b 0,.val (.int .i64 s),.val (.int .i64 p),.val (.int .i64 hm),.val (.int .i64 q),.val (.int .u64 k),.val (.int .u64 u)] O n (.tup []) O n:=by
 refine Yi Zc Try.call57 Try.func57 rfl (Nat.le_of_ble_eq_true rfl) (Nat.le_refl _) fun hU => ?_
 show Go.Proofs.Ytaddaloondpnkaa.W _ _ _ _ ⟨116,[],[(0,.ref b 0),(1,.val (.int .i64 s)),(2,.val (.int .i64 p)),(3,.val (.int .i64 hm)),(4,.val (.int .i64 q)),(5,.val (.int .u64 k)),(6,.val (.int .u64 u))]⟩ (Zw O n []) _
 rw [Yh hU.fresh]
 refine Zi ?_
 refine Zj [0,1,2,3,4,5,6,21] (Zb Zc [] ?_)
 simp only [push_cast,seval,↓reduceIte,Za,hb,ho]
 refine Zl (t:=true) rfl (fun c15 => ?_) (fun c15=>by cases c15)
 refine Zs ?_
 try simp only [Zh,Zf]
 refine Zu (P:=Try.prog) (.inr rfl) hU [] (Nat.le_refl _) ?_
 simp only [push_cast,seval,↓reduceIte,Za,Try.results57]
theorem Z09 {O:Objs} {n b i:Nat} {s p:Int} {ws:List Int} (hb:b < n) (hi:i < n) (ho:O b=some ⟨false,71,2,1,[.ref i 0,.val (.bool false)]⟩) (hw:ws.length≤1000000) :
  GTo Try.prog 58 [.ref b 0,.val (.int .i64 s),.val (.int .i64 p),.sl ws.length (fl (eI .u64) ws)] O n (.tup []) O n:=by
 refine Yi Zc Try.call58 Try.func58 rfl (Nat.le_of_ble_eq_true rfl) (Nat.le_refl _) fun hU => ?_
 show Go.Proofs.Ytaddaloondpnkaa.W _ _ _ _ ⟨25,[],[(0,.ref b 0),(1,.val (.int .i64 s)),(2,.val (.int .i64 p)),(3,.sl ws.length (fl (eI .u64) ws))]⟩ (Zw O n []) _
 rw [Yh hU.fresh]
 refine Zj [0,1,2,3,8] (Zb Zc [] ?_)
 simp only [push_cast,seval,↓reduceIte,Za,hb]
 refine Ya ?_
 refine Zc6 (S:=Int) (fun q=>⟨25,[],[(0,.ref b 0),(1,.val (.int .i64 s)),(2,.val (.int .i64 p)),(3,.sl ws.length (fl (eI .u64) ws)),(8,.val (.int .i64 q))]⟩) (fun q=>O) (fun _=>n)
  (fun q=>0≤q∧q≤(ws.length:Int)) (fun q=>((ws.length:Int) - q).toNat) (fun _ _=>Nat.le_refl n) (fun k hq => ?_) 0 ⟨Int.le_refl _,by omega⟩
 obtain ⟨k0,k1⟩:=hq
 try dsimp only
 refine Zi ?_
 refine Zj [0,1,2,3,8,12] (Zb Zc [] ?_)
 simp only [push_cast,seval,↓reduceIte,Za,hb]
 refine Zl (t:=decide (k < (ws.length:Int))) rfl (fun c => ?_) (fun c => ?_)
 ·have c1:k < (ws.length:Int):=of_decide_eq_true c
  refine Zp ?_
  try simp only [Zh,Zf]
  obtain ⟨w,hw⟩:∃ w,Zv ws k=some w:=⟨ws[k.toNat]'(by omega),by unfold Zv;rw [if_pos k0];exact List.getElem?_eq_getElem (by omega)⟩
  obtain ⟨x5,hx5,ax5,bx5,cx5,_⟩:=bE (f:=eI .u64) (K:=fun y=>some y) (r:=w) K4 (fun _=>rfl) (by decide) (by rw [hw];rfl)
  refine Zi ?_
  refine Ya ?_
  refine Zb Zc [] ?_
  simp only [push_cast,Nat.reduceAdd,Nat.reduceSub,Nat.reduceMul,Nat.reduceLeDiff,Nat.reduceLT,Nat.reduceEqDiff,↓reduceIte,reduceCtorEq,Int.reduceBEq,Int.reduceBNe,Nat.reduceBEq,Int.reduceLE,Int.reduceLT,Int.reduceEq,Int.reduceNe,Int.reduceNeg,Nat.reduceDiv,Nat.reduceMod,Nat.reducePow,Za,hb,ax5,bx5,cx5]
  refine (Zyt hb ho hi).then ?_
  simp only [push_cast,seval,↓reduceIte,Za,hb]
  refine Zb Zc [] ?_
  have hwk:IntKind.i64.wrap (k+1)=k+1:=X3 (by omega)
  simp only [push_cast,seval,↓reduceIte,Za,hb,hwk]
  refine .inl ⟨rfl,k+1,⟨by omega,by omega⟩,by show ((ws.length:Int) - (k+1)).toNat < ((ws.length:Int) - k).toNat;omega,Yf hU (Nat.le_refl n) rfl ?_⟩
  simp only [push_cast,seval,↓reduceIte,Za,hb]
 have c1:¬ k < (ws.length:Int):=of_decide_eq_false c
 refine X0 ?_
 try simp only [Zh,Zf,↓reduceIte,Nat.reduceEqDiff]
 refine .inr ⟨(fun h=>by cases h),?_⟩
 try simp only [Zh,Zf,↓reduceIte,Nat.reduceEqDiff]
 refine Zu (P:=Try.prog) (.inl rfl) hU [] (Nat.le_refl n) ?_
 simp only [push_cast,seval,↓reduceIte,Za,Try.results58]
theorem Zzx {O:Objs} {n b i j:Nat} {L:List NR} {size most:Int} {σ:SG} (h:BA size most O n b i j L σ) (hs:St size most σ) {s p hm q k u:Int} (kb:0≤k∧k≤1∧0≤u∧u < 4294967296) (hsb:Yj σ.1 s p 1=true) (hq:0≤q∧q≤131072) (hm0:0≤hm∧hm≤1000) :
  GCalls Try.prog 57 [.ref b 0,.val (.int .i64 s),.val (.int .i64 p),.val (.int .i64 hm),.val (.int .i64 q),.val (.int .u64 k),.val (.int .u64 u)] O n (EndR size most b i j O n L (K6 size σ s p k u hm q)):=by
 obtain ⟨x0,hx0,p0,_,p1⟩:=X9 hsb
 have hx0b:=hs.hB x0 (Z9 hx0)
 have hl0:=hs.hl0
 have hb:=h.hb
 have hi:=h.a.1.hi
 have ho:=h.ho
 refine Zar Zc Try.call57 Try.func57 rfl (Nat.le_of_ble_eq_true rfl) fun hU => ?_
 show Go.Proofs.Ytaddaloondpnkaa.W _ _ _ _ ⟨116,[],[(0,.ref b 0),(1,.val (.int .i64 s)),(2,.val (.int .i64 p)),(3,.val (.int .i64 hm)),(4,.val (.int .i64 q)),(5,.val (.int .u64 k)),(6,.val (.int .u64 u))]⟩ (Zw O n []) _
 rw [Yh hU.fresh]
 refine Zi ?_
 refine Zj [0,1,2,3,4,5,6,21] (Zb Zc [] ?_)
 simp only [push_cast,seval,↓reduceIte,Za,hb,hi,ho]
 refine Zl (t:=false) rfl (fun c15=>by cases c15) (fun c15 => ?_)
 refine Zp ?_
 try simp only [Zh,Zf]
 refine Zi ?_
 refine Yk (E':=⟨116,[],[(0,.ref b 0),(1,.val (.int .i64 s)),(2,.val (.int .i64 p)),(3,.val (.int .i64 hm)),(4,.val (.int .i64 q)),(5,.val (.int .u64 k)),(6,.val (.int .u64 u)),(27,.val (.bool (decide (k=0∧u=0))))]⟩) (O':=O) (n0:=n) ?_ ?_
 ·by_cases ck:k=0
  ·have d1:(k == 0)=true:=Zm8 ck
   refine Zb Zc [Xl,Xl] ?_
   simp only [push_cast,seval,↓reduceIte,Za,hb,hi,ho,d1]
   refine And.intro rfl (Yf hU (Nat.le_refl n) rfl ?_)
   have e:(u == 0)=decide (k=0∧u=0):=by rw [Bool.eq_iff_iff];simp [ck]
   simp only [push_cast,seval,↓reduceIte,Za,hb,hi,ho,d1,e]
  have d1:(k == 0)=false:=Zom ck
  refine Zb Zc [Xa,Xa] ?_
  simp only [push_cast,seval,↓reduceIte,Za,hb,hi,ho,d1]
  refine And.intro rfl (Yf hU (Nat.le_refl n) rfl ?_)
  have e:false=decide (k=0∧u=0):=(decide_eq_false (fun z=>ck z.1)).symm
  rw [← e]
  simp only [push_cast,seval,↓reduceIte,Za,hb,hi,ho,d1]
 refine Zl (t:=decide (k=0∧u=0)) rfl (fun c => ?_) (fun c => ?_)
 ·have c0:=of_decide_eq_true c
  have ea:K6 size σ s p k u hm q=_:=if_pos c0
  obtain ⟨O9,L9,g,A9,F9⟩:=Zft 4294967292 h hsb
  refine Zj [0] (Zb Zc [] ?_)
  simp only [push_cast,seval,↓reduceIte,Za,hb,hi,ho]
  refine g.then ?_
  simp only [push_cast,seval,↓reduceIte,Za]
  refine Zx fun hU9 => ?_
  refine Zs ?_
  try simp only [Zh,Zf]
  refine ⟨.tup [],O9,n,Nat.le_refl n,⟨L9,rfl,F9,by rw [ea];exact A9⟩,?_⟩
  refine Zu (P:=Try.prog) (.inr rfl) hU9 [] (Nat.le_refl n) ?_
  simp only [push_cast,seval,↓reduceIte,Za,Try.results57]
 have c0:=of_decide_eq_false c
 refine Zp ?_
 try simp only [Zh,Zf]
 refine Zi ?_
 refine Zj [0,1,2,3,4,5,6,34] (Zb Zc [] ?_)
 simp only [push_cast,seval,↓reduceIte,Za,hb,hi,ho]
 refine Zl (t:=(s == hm)) rfl (fun c => ?_) (fun c => ?_)
 ·have c1:hm=s:=(eq_of_beq c).symm
  have ea:K6 size σ s p k u hm q=_:=(if_neg c0).trans (if_pos c1)
  obtain ⟨O9,L9,g,A9,F9⟩:=Zft (nw p q k u) h hsb
  refine Zj [0] (Zb Zc [] ?_)
  simp only [push_cast,seval,↓reduceIte,Za,hb,hi,ho]
  refine (Zea (Zyj p0 (by omega) hq.1 (by omega) kb.1 kb.2.1 kb.2.2.1 kb.2.2.2)).then ?_
  simp only [push_cast,seval,↓reduceIte,Za,hb,hi,ho]
  refine g.then ?_
  simp only [push_cast,seval,↓reduceIte,Za]
  refine Zx fun hU9 => ?_
  refine Zs ?_
  try simp only [Zh,Zf]
  refine ⟨.tup [],O9,n,Nat.le_refl n,⟨L9,rfl,F9,by rw [ea];exact A9⟩,?_⟩
  refine Zu (P:=Try.prog) (.inr rfl) hU9 [] (Nat.le_refl n) ?_
  simp only [push_cast,seval,↓reduceIte,Za,Try.results57]
 have c1:¬ hm=s:=fun z=>ne_of_beq_false c z.symm
 have ea:K6 size σ s p k u hm q=_:=(if_neg c0).trans (if_neg c1)
 refine Zp ?_
 try simp only [Zh,Zf]
 refine Zj [0,1,2,3,4,5,6,14] (Zb Zc [] ?_)
 simp only [push_cast,seval,↓reduceIte,Za,hb,hi,ho]
 cases hin:inO size σ hm with
 | some r =>
  rw [hin] at ea
  have o:=Ztz hs hin
  obtain ⟨O5,L5,g5,A5,F5⟩:=Z1d h hs hin
  refine g5.then ?_
  have hi:=A5.a.1.hi
  have ho:=A5.ho
  have d2:decide (0≤r.1)=true:=decide_eq_true o.1
  simp only [push_cast,seval,↓reduceIte,Za,hb,hi,ho]
  refine Zx fun hU5 => ?_
  refine Zi ?_
  refine Zj [0,1,2,3,4,5,6,14,51] (Zb Zc [] ?_)
  simp only [push_cast,seval,↓reduceIte,Za,hb,hi,ho,d2]
  refine Zl (t:=true) rfl (fun c15 => ?_) (fun c15=>by cases c15)
  have w1:IntKind.u64.wrap r.1=r.1:=Q5 (by omega) (by omega)
  have w2:IntKind.u64.wrap (8 * r.1)=8 * r.1:=Q5 (by omega) (by omega)
  have w3:IntKind.u64.wrap (2+8 * r.1)=2+8 * r.1:=Q5 (by omega) (by omega)
  have w4:IntKind.u64.wrap hm=hm:=Q5 (by omega) (by omega)
  have w5:IntKind.u64.wrap (4294967296 * hm)=4294967296 * hm:=Q5 (by omega) (by omega)
  have w6:IntKind.u64.wrap (2+8 * r.1+4294967296 * hm)=fw hm r.1 0:=by rw [Q5 (by omega) (by omega)];unfold fw;omega
  obtain ⟨O6,L6,g6,A6,F6⟩:=Zft (fw hm r.1 0) A5 (s:=s) (p:=p) (o.2.2.2.1 _ _ _ hsb)
  refine Zj [0,3,4,5,6,14] (Zb Zc [] ?_)
  simp only [push_cast,seval,↓reduceIte,Za,hb,hi,ho,w1,w2,w3,w4,w5,w6]
  refine g6.then ?_
  have hi:=A6.a.1.hi
  have ho:=A6.ho
  simp only [push_cast,seval,↓reduceIte,Za,hb,hi,ho]
  refine Zx fun hU6 => ?_
  obtain ⟨O9,L9,g9,A9,F9⟩:=Zft (nw r.1 q k u) A6 (s:=hm) (p:=r.1) (Ex.put _ _ _ r.2 _ _ _ o.2.2.2.2.1)
  refine Zj [0] (Zb Zc [] ?_)
  simp only [push_cast,seval,↓reduceIte,Za,hb,hi,ho]
  refine (Zea (Zyj o.1 (by omega) hq.1 (by omega) kb.1 kb.2.1 kb.2.2.1 kb.2.2.2)).then ?_
  simp only [push_cast,seval,↓reduceIte,Za,hb,hi,ho]
  refine g9.then ?_
  simp only [push_cast,seval,↓reduceIte,Za]
  refine Zx fun hU9 => ?_
  refine Zs ?_
  try simp only [Zh,Zf]
  refine ⟨.tup [],O9,n,Nat.le_refl n,⟨L9,rfl,F5.trans (F6.trans F9),by rw [ea];rw [Zc7 r.2 (fw hm r.1 0) (nw r.1 q k u) (fun z=>c1 z.1)] at A9;exact A9⟩,?_⟩
  refine Zu (P:=Try.prog) (.inr rfl) hU9 [] (Nat.le_refl n) ?_
  simp only [push_cast,seval,↓reduceIte,Za,Try.results57]
 | none =>
  rw [hin] at ea
  refine (Z1c h hs hin).then ?_
  simp only [push_cast,seval,↓reduceIte,Za,hb,hi,ho]
  refine Zi ?_
  refine Zj [0,1,2,3,4,5,6,14,51] (Zb Zc [] ?_)
  simp only [push_cast,seval,↓reduceIte,Za,hb,hi,ho]
  refine Zl (t:=false) rfl (fun c15=>by cases c15) (fun c15 => ?_)
  refine Zp ?_
  try simp only [Zh,Zf]
  refine Zj [0,1,2,3,4,5,6,15,16] (Zb Zc [] ?_)
  simp only [push_cast,seval,↓reduceIte,Za,hb,hi,ho]
  cases hg:Ye size σ 2 with
  | none =>
   rw [hg] at ea
   obtain ⟨O9,n9,L9,g9,ho9,F9⟩:=Zpt h hs hg
   have m9:n≤n9:=F9.le
   have hb9:b < n9:=by omega
   refine g9.then ?_
   simp only [push_cast,seval,↓reduceIte,Za,hb9,ho9]
   refine Zx fun hU9 => ?_
   refine Zi ?_
   refine Zj [0,82] (Zb Zc [] ?_)
   simp only [push_cast,seval,↓reduceIte,Za,hb9,ho9]
   refine Zl (t:=true) rfl (fun c15 => ?_) (fun c15=>by cases c15)
   refine Zs ?_
   try simp only [Zh,Zf]
   refine ⟨.tup [],O9,n9,m9,⟨L9,rfl,F9,by rw [ea];exact ho9⟩,?_⟩
   refine Zu (P:=Try.prog) (.inr rfl) hU9 [] m9 ?_
   simp only [push_cast,seval,↓reduceIte,Za,Try.results57]
  | some r =>
   rw [hg] at ea
   have o:=Jq hs hg
   have hm1:r.1≤16:=by
    obtain ⟨y,hy,_⟩:=X9 o.2.2.2.2.2.2.1
    have:=Xy hy
    have:=o.2.2.2.2.1.h16
    omega
   obtain ⟨O5,n5,L5,g5,A5,F5⟩:=Zpu h hs hg
   refine g5.then ?_
   have hb:=A5.hb
   have hi:=A5.a.1.hi
   have ho:=A5.ho
   simp only [push_cast,seval,↓reduceIte,Za,hb,hi,ho]
   refine Zx fun hU5 => ?_
   refine Zi ?_
   refine Zj [0,1,2,3,4,5,6,15,16,82] (Zb Zc [] ?_)
   simp only [push_cast,seval,↓reduceIte,Za,hb,hi,ho]
   refine Zl (t:=false) rfl (fun c15=>by cases c15) (fun c15 => ?_)
   refine Zp ?_
   try simp only [Zh,Zf]
   have w1:IntKind.u64.wrap r.2.1=r.2.1:=Q5 (by omega) (by omega)
   have w2:IntKind.u64.wrap (8 * r.2.1)=8 * r.2.1:=Q5 (by omega) (by omega)
   have w3:IntKind.u64.wrap (6+8 * r.2.1)=6+8 * r.2.1:=Q5 (by omega) (by omega)
   have w4:IntKind.u64.wrap r.1=r.1:=Q5 (by omega) (by omega)
   have w5:IntKind.u64.wrap (4294967296 * r.1)=4294967296 * r.1:=Q5 (by omega) (by omega)
   have w6:IntKind.u64.wrap (6+8 * r.2.1+4294967296 * r.1)=fw r.1 r.2.1 1:=by rw [Q5 (by omega) (by omega)];unfold fw;omega
   obtain ⟨O6,L6,g6,A6,F6⟩:=Zft (fw r.1 r.2.1 1) A5 (s:=s) (p:=p) (o.2.2.2.2.2.1 _ _ _ hsb)
   refine Zj [0,3,4,5,6,15,16] (Zb Zc [] ?_)
   simp only [push_cast,seval,↓reduceIte,Za,hb,hi,ho,w1,w2,w3,w4,w5,w6]
   refine g6.then ?_
   have hi:=A6.a.1.hi
   have ho:=A6.ho
   simp only [push_cast,seval,↓reduceIte,Za,hb,hi,ho]
   refine Zx fun hU6 => ?_
   have v1:IntKind.u64.wrap q=q:=Q5 (by omega) (by omega)
   have v2:IntKind.u64.wrap (8 * q)=8 * q:=Q5 (by omega) (by omega)
   have v3:IntKind.u64.wrap (2+8 * q)=2+8 * q:=Q5 (by omega) (by omega)
   have v4:IntKind.u64.wrap hm=hm:=Q5 (by omega) (by omega)
   have v5:IntKind.u64.wrap (4294967296 * hm)=4294967296 * hm:=Q5 (by omega) (by omega)
   have v6:IntKind.u64.wrap (2+8 * q+4294967296 * hm)=fw hm q 0:=by rw [Q5 (by omega) (by omega)];unfold fw;omega
   have hxy:=o.2.2.2.2.2.2.1
   obtain ⟨O7,L7,g7,A7,F7⟩:=Zft (fw hm q 0) A6 (s:=r.1) (p:=r.2.1) (Ex.put _ _ _ r.2.2 _ _ _ (Ua hxy (Int.le_refl _) (by omega)))
   refine Zj [0,5,6,15,16] (Zb Zc [] ?_)
   simp only [push_cast,seval,↓reduceIte,Za,hb,hi,ho,v1,v2,v3,v4,v5,v6]
   refine g7.then ?_
   have hi:=A7.a.1.hi
   have ho:=A7.ho
   simp only [push_cast,seval,↓reduceIte,Za,hb,hi,ho]
   refine Zx fun hU7 => ?_
   have u1:IntKind.i64.wrap (r.2.1+1)=r.2.1+1:=X3 (by omega)
   have u2:IntKind.u64.wrap (u * 4294967296)=u * 4294967296:=Q5 (by omega) (by omega)
   have u3:IntKind.u64.wrap (k+u * 4294967296)=k+u * 4294967296:=Q5 (by omega) (by omega)
   obtain ⟨O9,L9,g9,A9,F9⟩:=Zft (k+u * 4294967296) A7 (s:=r.1) (p:=r.2.1+1) (Ex.put _ _ _ _ _ _ _ (Ex.put _ _ _ r.2.2 _ _ _ (Ua hxy (by omega) (by omega))))
   refine Zx7 ?_
   refine Zb Zc [] ?_
   simp only [push_cast,seval,↓reduceIte,Za,hb,hi,ho,u1,u2,u3]
   refine g9.then ?_
   simp only [push_cast,seval,↓reduceIte,Za]
   intro hU9
   have m9:n≤n5:=F5.le
   have nf:∀ a,¬ (r.1=s∧r.2.1+a=p∧0≤a):=fun a z=>by have:=o.2.2.2.2.2.2.2.2 p (by rw [z.1];exact hsb);omega
   have e7:pt1 r.1 (r.2.1+1) (k+u * 4294967296) (pt1 r.1 r.2.1 (fw hm q 0) (pt1 s p (fw r.1 r.2.1 1) r.2.2))=pt1 s p (fw r.1 r.2.1 1) (Yn r.2.2.1 r.1 r.2.1 [fw hm q 0,k+u * 4294967296],r.2.2.2):=by
    rw [Zc7 (s:=s) (p:=p) r.2.2 (s':=r.1) (p':=r.2.1) _ _ (fun z=>nf 0 ⟨z.1,by omega,by omega⟩),Zc7 (s:=s) (p:=p) _ (s':=r.1) (p':=r.2.1+1) _ _ (fun z=>nf 1 ⟨z.1,by omega,by omega⟩)];rfl
   rw [e7] at A9
   try simp only [Zh,Zf]
   show Zm5 _ _ _ _ .normal _ _ _
   refine ⟨.tup [],O9,n5,m9,⟨L9,rfl,F5.trans (F6.trans (F7.trans F9)),by rw [ea];exact A9⟩,?_⟩
   refine Zu (P:=Try.prog) (.inl rfl) hU9 [] m9 ?_
   simp only [push_cast,seval,↓reduceIte,Za,Try.results57]
def BO (size most:Int) (O:Objs) (n b i j:Nat) (L:List NR):Option SG→Prop
 | none=>b < n∧i < n∧O b=some ⟨false,71,2,1,[.ref i 0,.val (.bool false)]⟩
 | some σ=>BA size most O n b i j L σ
theorem BO.b_lt {size most:Int} {O:Objs} {n b i j:Nat} {L:List NR}:∀ {o:Option SG},BO size most O n b i j L o→b < n∧i < n
 | none,h=>⟨h.1,h.2.1⟩
 | some _,h=>⟨BA.hb h,(BA.a h).1.hi⟩
def Zkc:Option SG→Bool
 | none=>false
 | some _=>true
theorem BO.ho {size most:Int} {O:Objs} {n b i j:Nat} {L:List NR}:∀ {o:Option SG},BO size most O n b i j L o→O b=some ⟨false,71,2,1,[.ref i 0,.val (.bool (Zkc o))]⟩
 | none,h=>h.2.2
 | some _,h=>BA.ho h
theorem BO.own {size most:Int} {O:Objs} {n b i j:Nat} {L:List NR} (x:Option GObj):∀ {o:Option SG},BO size most O n b i j L o→BO size most (O.upd n x) (n+1) b i j L o
 | none,h=>⟨Nat.lt_succ_of_lt h.1,Nat.lt_succ_of_lt h.2.1,by rw [Zn _ _ (by have:=h.1;omega)];exact h.2.2⟩
 | some _,h=>BA.own h x
def Zy7 (size most:Int) (b i j:Nat) (O:Objs) (n:Nat) (L:List NR) (res:Option SG) (r:G) (O':Objs) (n':Nat):Prop :=
 ∃ L',r = .tup []∧Fr (isB b) i j O n L O' n' L'∧BO size most O' n' b i j L' res
theorem EndR.o {size most:Int} {b i j:Nat} {O:Objs} {n:Nat} {L:List NR} {res:Option SG} {r:G} {O':Objs} {n':Nat} (hb:b < n) (hi:i < n) (h:EndR size most b i j O n L res r O' n'):Zy7 size most b i j O n L res r O' n':=by
 obtain ⟨L',e,F,h⟩:=h
 have:=F.le
 refine ⟨L',e,F,?_⟩
 cases res with
 | none=>exact ⟨by omega,by omega,h⟩
 | some τ=>exact h
def Zc3:Option (Int×Int×SG)→Int×Int
 | none=>(-1,-1)
 | some r=>(r.1,r.2.1)
theorem Zm9 {O:Objs} {n b i j:Nat} {L:List NR} {size most:Int} (k:Int) {σ:SG} (h:BA size most O n b i j L σ) (hs:St size most σ) :
  ∃ O' n' L',GTo Try.prog 29 [.ref b 0,.val (.int .i64 k)] O n (.tup [.val (.int .i64 (Zc3 (Ye size σ k)).1),.val (.int .i64 (Zc3 (Ye size σ k)).2)]) O' n'∧BO size most O' n' b i j L' ((Ye size σ k).map fun r=>r.2.2)∧Fr (isB b) i j O n L O' n' L':=by
 have hi:=h.a.1.hi
 have hb:=h.hb
 cases e:Ye size σ k with
 | none =>
  obtain ⟨O',n',L',g1,g2,g3⟩:=Zpt h hs e
  have:=g3.le
  exact ⟨O',n',L',g1,⟨by omega,by omega,g2⟩,g3⟩
 | some r =>
  obtain ⟨O',n',L',g1,g2,g3⟩:=Zpu h hs e
  exact ⟨O',n',L',g1,g2,g3⟩
theorem Zn7 {O:Objs} {n b i j:Nat} {L:List NR} {size most:Int} {o:Option SG} (h:BO size most O n b i j L o) {s p hm q k u:Int} (hh:∀ σ,o=some σ→St size most σ∧(0≤k∧k≤1∧0≤u∧u < 4294967296)∧Yj σ.1 s p 1=true∧(0≤q∧q≤131072)∧(0≤hm∧hm≤1000)) :
  GCalls Try.prog 57 [.ref b 0,.val (.int .i64 s),.val (.int .i64 p),.val (.int .i64 hm),.val (.int .i64 q),.val (.int .u64 k),.val (.int .u64 u)] O n (Zy7 size most b i j O n L (o.bind fun σ=>K6 size σ s p k u hm q)):=by
 cases o with
 | none=>exact (Zxr h.1 h.2.1 h.2.2).then ⟨L,rfl,Fr.refl _ _ _ _ _ _,h⟩
 | some σ =>
  obtain ⟨a1,a2,a3,a4,a5⟩:=hh σ rfl
  exact (Zzx h a1 a2 a3 a4 a5).mono fun r O' n' hE=>hE.o h.hb h.a.1.hi
theorem Z4x {O:Objs} {n b i j:Nat} {L:List NR} {size most:Int} {o:Option SG} (h:BO size most O n b i j L o) {s p v:Int} (hh:∀ σ,o=some σ→Yj σ.1 s p 1=true) :
  GCalls Try.prog 61 [.ref b 0,.val (.int .i64 s),.val (.int .i64 p),.val (.int .u64 v)] O n (Zy7 size most b i j O n L (o.map (pt1 s p v))):=by
 cases o with
 | none=>exact (Zyt h.1 h.2.2 h.2.1).then ⟨L,rfl,Fr.refl _ _ _ _ _ _,h⟩
 | some σ =>
  obtain ⟨O',L',g1,g2,g3⟩:=Zft v h (hh σ rfl)
  exact g1.then ⟨L',rfl,g3,g2⟩
theorem Zxn {O:Objs} {n b i j:Nat} {L:List NR} {size most:Int} {o:Option SG} (h:BO size most O n b i j L o) {s p:Int} {ws:List Int} (hw:ws.length≤1000000) (hh:∀ σ,o=some σ→(0≤p∧p+(ws.length:Int)≤1000000)∧(Yj σ.1 s p (ws.length:Int)=true∨ws=[])) :
  GCalls Try.prog 58 [.ref b 0,.val (.int .i64 s),.val (.int .i64 p),.sl ws.length (fl (eI .u64) ws)] O n (Zy7 size most b i j O n L (o.map fun σ=>(Yn σ.1 s p ws,σ.2))):=by
 cases o with
 | none=>exact (Z09 h.1 h.2.1 h.2.2 hw).then ⟨L,rfl,Fr.refl _ _ _ _ _ _,h⟩
 | some σ =>
  obtain ⟨a1,a2⟩:=hh σ rfl
  exact Z2q h a1 a2 fun O' n' L' x y=>⟨L',rfl,y,x⟩
def PR (size most:Int) (f:Tr→Int→Int→SG→Option SG) (t:Tr):Prop:=∀ {O:Objs} {n b i j:Nat} {L:List NR} {σ:SG} {s p:Int},BA size most O n b i j L σ→St size most σ→Yj σ.1 s p 1=true →
 GCalls Try.prog 30 [.ref b 0,.val (.int .i64 s),.val (.int .i64 p),.agg (Ze t)] O n (Zy7 size most b i j O n L (f t s p σ))
theorem Zum {O:Objs} {n b i j:Nat} {L:List NR} {size most:Int} {o:Option SG} {f:Tr→Int→Int→SG→Option SG} {t:Tr} {s p:Int} (h:BO size most O n b i j L o) (hf:Zc2 size most f) (hk:∀ x∈t.Kids,PR size most f x) (hl:t.Kids.length≤1000000)
  (hh:∀ σ,o=some σ→St size most σ∧(0≤p∧p+(t.Kids.length:Int)≤1000000)∧(∀ q,p≤q→q < p+(t.Kids.length:Int)→Yj σ.1 s q 1=true)) :
  GCalls Try.prog 59 [.ref b 0,.val (.int .i64 s),.val (.int .i64 p),.agg (Ze t)] O n (Zy7 size most b i j O n L (o.bind (X5 f s p t.Kids))):=by
 obtain ⟨hb0,hi0⟩:=h.b_lt
 refine Zar Zc Try.call59 Try.func59 rfl (Nat.le_of_ble_eq_true rfl) fun hU => ?_
 have hN0:O n=none:=hU.fresh _ (Nat.le_refl _)
 have hN:∀ k,O (n+k)=none:=fun k=>hU.fresh _ (Nat.le_add_right _ _)
 show Go.Proofs.Ytaddaloondpnkaa.W _ _ _ _ ⟨33,[],[(0,.ref b 0),(1,.val (.int .i64 s)),(2,.val (.int .i64 p)),(3,.agg (Ze t))]⟩ (Zw O n []) _
 rw [Yh hU.fresh]
 refine Zj [0,1,2,7] (Zb Zc [] ?_)
 simp only [push_cast,seval,↓reduceIte,Za,hi0,hb0,hN0,hN]
 have A0:=h.own (some ⟨false,25,3,1,Ze t⟩)
 have F0:=Fr.own (X:=isB b) (i:=i) (j:=j) (O:=O) (n:=n) L (some ⟨false,25,3,1,Ze t⟩)
 obtain ⟨Z,hZ⟩:∃ Z,Z=O.upd n (some ⟨false,25,3,1,Ze t⟩):=⟨_,rfl⟩
 have hZn:Z n=some ⟨false,25,3,1,Ze t⟩:=by rw [hZ];exact Zo _ _ _
 have hZ2:=hZ
 simp only [push_cast] at hZ2
 rw [← hZ] at A0 F0
 rw [← hZ2]
 have hb:b < n+1:=by omega
 have hi:i < n+1:=by omega
 have hn1:n < n+1:=Nat.lt_succ_self n
 refine Zj [0,1,2,7,8] (Zb Zc [] ?_)
 simp only [push_cast,seval,↓reduceIte,Za,hi,hb,hn1]
 refine Ya ?_
 have hnt:∀ σ,o=some σ→¬ ter i j L n:=fun σ e q=>by subst e;have:=BA.a h |>.1.ter_lt q;omega
 refine Zc6 (S:=Int×Objs×Nat×List NR×Option SG) (fun q=>⟨33,[],[(0,.ref b 0),(1,.val (.int .i64 s)),(2,.val (.int .i64 p)),(7,.ref n 0),(8,.val (.int .i64 q.1))]⟩) (fun q=>q.2.1) (fun q=>q.2.2.1)
  (fun q=>(0≤q.1∧q.1≤(t.Kids.length:Int))∧BO size most q.2.1 q.2.2.1 b i j q.2.2.2.1 q.2.2.2.2∧Fr (isB b) i j O n L q.2.1 q.2.2.1 q.2.2.2.1∧q.2.1 n=some ⟨false,25,3,1,Ze t⟩∧n < q.2.2.1∧(∀ τ,q.2.2.2.2=some τ→St size most τ∧(∃ σ,o=some σ∧Ex σ τ)∧¬ ter i j q.2.2.2.1 n)∧o.bind (X5 f s p t.Kids)=q.2.2.2.2.bind (X5 f s (p+q.1) (t.Kids.drop q.1.toNat)))
  (fun q=>((t.Kids.length:Int) - q.1).toNat) (fun q hq=>hq.2.2.1.le) (fun q hq => ?_) (0,Z,n+1,L,o) ⟨⟨Int.le_refl _,by omega⟩,A0,F0,hZn,hn1,fun τ e=>⟨(hh τ e).1,⟨τ,e,Ex.refl _⟩,hnt τ e⟩,by simp⟩
 obtain ⟨k,Y,m,M,τo⟩:=q
 obtain ⟨⟨k0,k1⟩,g1,g3,g4,g5,g6,g8⟩:=hq
 dsimp only at k0 k1 g1 g3 g4 g5 g6 g8 ⊢
 obtain ⟨hb,hi⟩:=g1.b_lt
 have hob:=g1.ho
 simp only [push_cast] at g4
 refine Zx fun hUY => ?_
 by_cases c1:k < (t.Kids.length:Int)∧Zkc τo=true
 ·have d1:decide (k < (t.Kids.length:Int))=true:=decide_eq_true c1.1
  obtain ⟨τ,rfl⟩:∃ τ,τo=some τ:=by
   cases τo with
   | none=>exact absurd c1.2 (by decide)
   | some τ=>exact ⟨τ,rfl⟩
  rw [c1.2] at hob
  obtain ⟨x,hx⟩:=Zbn (L:=t.Kids) k0 c1.1
  obtain ⟨x5,hx5,ax5,bx5,cx5,_⟩:=bE (f:=Zg) (K:=fun y=>some y) (r:=x) J3 (fun _=>rfl) (by decide) (by rw [hx];rfl)
  obtain rfl:x5=x:=Option.some.inj (hx5.symm.trans hx)
  have hstep:=Zs1 f s p k0 hx τ
  obtain ⟨t1,⟨σ,e0,t2⟩,t3⟩:=g6 τ rfl
  obtain ⟨hs,hp,hbb⟩:=hh σ e0
  have hwp:IntKind.i64.wrap (p+k)=p+k:=X3 (by omega)
  refine Zi ?_
  refine Zj [0,1,2,7,8,19] (Zb Zc (Zxj []) ?_)
  simp only [push_cast,seval,↓reduceIte,Za,hb,hi,hob,g4,g5,d1]
  refine Zl (t:=true) rfl (fun c15 => ?_) (fun c15=>by cases c15)
  refine Zp ?_
  try simp only [Zh,Zf]
  refine Zi ?_
  refine Ya ?_
  refine Zb Zc [] ?_
  simp only [push_cast,Nat.reduceAdd,Nat.reduceSub,Nat.reduceMul,Nat.reduceLeDiff,Nat.reduceLT,Nat.reduceEqDiff,↓reduceIte,reduceCtorEq,Int.reduceBEq,Int.reduceBNe,Nat.reduceBEq,Int.reduceLE,Int.reduceLT,Int.reduceEq,Int.reduceNe,Int.reduceNeg,Nat.reduceDiv,Nat.reduceMod,Nat.reducePow,Za,hb,hi,hob,g4,g5,hwp,ax5,bx5,cx5]
  refine (hk x5 (Z9 hx) (s:=s) (p:=p+k) g1 t1 (t2 _ _ _ (hbb (p+k) (by omega) (by omega)))).mono fun r O' n' hE => ?_
  obtain ⟨L',rfl,F4,hres⟩:=hE
  have hn':=F4.le
  have hnb:n≠b:=by omega
  simp only [push_cast,seval,↓reduceIte,Za]
  refine Zx fun hU9 => ?_
  obtain ⟨q1,q2,q3⟩:=F4.keepB g5 hnb t3
  obtain ⟨hb9,hi9⟩:=hres.b_lt
  refine Zb Zc [] ?_
  have hwk:IntKind.i64.wrap (k+1)=k+1:=X3 (by omega)
  simp only [push_cast,seval,↓reduceIte,Za,hb9,hi9,q2,hwk]
  refine .inl ⟨rfl,(k+1,O',n',L',f x5 s (p+k) τ),⟨⟨by omega,by omega⟩,hres,g3.trans F4,q1.trans g4,q2,fun ρ e => ?_,?_⟩,by show ((t.Kids.length:Int) - (k+1)).toNat < ((t.Kids.length:Int) - k).toNat;omega,Yf hU9 (Nat.le_trans g3.le F4.le) rfl ?_⟩
  ·obtain ⟨u1,u2⟩:=(hf x5 s (p+k) τ t1).1 ρ e
   exact ⟨u1,⟨σ,e0,t2.trans u2⟩,q3⟩
  ·show o.bind (X5 f s p t.Kids)=(f x5 s (p+k) τ).bind (X5 f s (p+(k+1)) (t.Kids.drop (k+1).toNat))
   rw [g8];exact hstep
  simp only [push_cast,seval,↓reduceIte,Za,hb9,hi9,q2]
 have hex:o.bind (X5 f s p t.Kids)=τo:=by
  rw [g8]
  cases τo with
  | none=>rfl
  | some τ =>
   have:¬ k < (t.Kids.length:Int):=fun z=>c1 ⟨z,rfl⟩
   rw [List.drop_eq_nil_of_le (by omega)];rfl
 refine Zi ?_
 refine Yk (E':=⟨33,[],[(0,.ref b 0),(1,.val (.int .i64 s)),(2,.val (.int .i64 p)),(7,.ref n 0),(8,.val (.int .i64 k)),(19,.val (.bool false))]⟩) (O':=Y) (n0:=m) ?_ ?_
 ·by_cases c2:k < (t.Kids.length:Int)
  ·have d1:decide (k < (t.Kids.length:Int))=true:=decide_eq_true c2
   have d2:Zkc τo=false:=by
    cases h:Zkc τo with
    | true=>exact absurd ⟨c2,h⟩ c1
    | false=>rfl
   rw [d2] at hob
   refine Zb Zc (Zxj []) ?_
   simp only [push_cast,seval,↓reduceIte,Za,hb,hi,hob,g4,g5,d1]
   refine And.intro rfl (Yf hUY g3.le rfl ?_)
   simp only [push_cast,seval,↓reduceIte,Za,hb,hi,hob,g4,g5]
  have d1:decide (k < (t.Kids.length:Int))=false:=decide_eq_false c2
  refine Zb Zc (Z0u []) ?_
  simp only [push_cast,seval,↓reduceIte,Za,hb,hi,hob,g4,g5,d1]
  refine And.intro rfl (Yf hUY g3.le rfl ?_)
  simp only [push_cast,seval,↓reduceIte,Za,hb,hi,hob,g4,g5]
 refine Zl (t:=false) rfl (fun c15=>by cases c15) (fun c15 => ?_)
 refine X0 ?_
 try simp only [Zh,Zf,↓reduceIte,Nat.reduceEqDiff]
 refine .inr ⟨(fun h=>by cases h),?_⟩
 try simp only [Zh,Zf,↓reduceIte,Nat.reduceEqDiff]
 show Zm5 _ _ _ _ .normal _ _ _
 refine ⟨.tup [],Y,m,g3.le,⟨M,rfl,g3,by rw [hex];exact g1⟩,?_⟩
 refine Zu (P:=Try.prog) (.inl rfl) hUY [] g3.le ?_
 simp only [push_cast,seval,↓reduceIte,Za,Try.results59]
theorem Fit2.base {ba ba':Nat} {E E':Env} {O O':Objs} {n n':Nat} (h:Fit2 ba' E O n E' O' n') (hb:ba≤ba'):Fit2 ba E O n E' O' n':=fun w m a hM hE=>by
 obtain ⟨m',a1,a2,a3⟩:=h w m a hM hE
 exact ⟨m',a1,a2,a3.base hb⟩
noncomputable def Z0t (t:Tr) (s:Int×List Int):Option ((Int×List Int) ⊕ List Int) :=
 cond (decide (s.1 < (t.Kids.length:Int))) ((Zv t.Kids s.1).bind fun x2=>(Zv x2.Words 0).bind fun y3=>(Zkv 8 s.2 ([y3]:List Int)).bind fun l4=>some (.inl ((IntKind.i64.wrap (s.1+1)),l4))) (some (.inr s.2))
theorem Z2j {t:Tr} {d:Nat} (hF:Fine t d) (hk:2≤t.Kind∧t.Kind≤7):Zy (Z0t t) (0,[])=some (ato t):=by
 have p:=hF.pt
 have pk:=Zfr t
 have ha:=Zm7 hF hk
 have l0:=Zvs t.Kids (fun k=>k.Words.headD 0) (Z0t t) [] (by omega) (fun i x out hi hx hm ho=>by
  obtain ⟨w,hw,_⟩:=ha x hm
  have e:Zv x.Words 0=some w:=by rw [hw];rfl
  unfold Z0t
  simp only [List.length_nil] at ho ⊢
  rw [Zkz hi,cond_true,X8 hx,Option.bind_some,e,Option.bind_some,Zkh (by simp only [List.length_singleton];omega) (by simp only [List.length_singleton];omega),Option.bind_some,hw]
  rfl) (fun out=>by
  unfold Z0t
  simp only
  rw [Zky,cond_false])
 rw [l0,List.nil_append]
 rfl
theorem Zdz {A:List (List Int)} {s p k q m:Int} (h:Yj A s p k=true) (h1:p≤q) (h0:0≤m) (h2:q+m≤p+k):Yj A s q m=true:=by
 obtain ⟨x,hx,a,b,c⟩:=X9 h
 exact Zg4 hx (by omega) h0 (by omega)
theorem Znk {size most:Int} {σ:SG} {k:Int} (hs:St size most σ):-1≤(Zc3 (Ye size σ k)).1∧(Zc3 (Ye size σ k)).1≤16∧-1≤(Zc3 (Ye size σ k)).2∧(Zc3 (Ye size σ k)).2≤200000:=by
 cases e:Ye size σ k with
 | none=>exact ⟨by decide,by decide,by decide,by decide⟩
 | some r =>
  have g:=Jq hs e
  have:r.1≤16:=by
   obtain ⟨y,hy,_⟩:=X9 g.2.2.2.2.2.2.1
   have:=Xy hy
   have:=g.2.2.2.2.1.h16
   omega
  exact ⟨by show -1≤r.1;omega,this,by show -1≤r.2.1;omega,by show r.2.1≤200000;omega⟩
structure Fx (size most:Int) (V:Int×Int) (k:Int) (τ:SG):Prop where
 st:St size most τ
 hb:Yj τ.1 V.1 V.2 k=true
 v1:0≤V.1
 v2:0≤V.2
 v3:V.2+k≤131072
 k0:0≤k
theorem Fx.ex {size most:Int} {V:Int×Int} {k:Int} {τ ρ:SG} (h:Fx size most V k τ) (hs:St size most ρ) (he:Ex τ ρ):Fx size most V k ρ:=⟨hs,he _ _ _ h.hb,h.v1,h.v2,h.v3,h.k0⟩
theorem Zpm {size most:Int} {σ:SG} {k:Int} (hs:St size most σ):∀ τ,(Ye size σ k).map (fun r=>r.2.2)=some τ→Fx size most (Zc3 (Ye size σ k)) k τ∧Ex σ τ:=fun τ h=>by
 cases e:Ye size σ k with
 | none=>rw [e] at h;cases h
 | some r =>
  rw [e] at h
  have:=Option.some.inj h;subst this
  have g:=Jq hs e
  exact ⟨⟨g.2.2.2.2.1,g.2.2.2.2.2.2.1,g.2.1,g.2.2.1,g.2.2.2.1,g.1⟩,g.2.2.2.2.2.1⟩
theorem Ztj {size most:Int} {V:Int×Int} {k0:Int} {o:Option SG} {s p k u hm q:Int} (h:∀ τ,o=some τ→Fx size most V k0 τ):∀ ρ,(o.bind fun σ=>K6 size σ s p k u hm q)=some ρ→Fx size most V k0 ρ:=fun ρ e=>by
 cases o with
 | none=>cases e
 | some τ =>
  have a:=Zm6 (h τ rfl).st e
  exact (h τ rfl).ex a.1 a.2.1
theorem Z2c {size most:Int} {V:Int×Int} {k0:Int} {o:Option SG} {s p:Int} {ws:List Int} (h:∀ τ,o=some τ→Fx size most V k0 τ):∀ ρ,(o.map fun σ=>((Yn σ.1 s p ws,σ.2):SG))=some ρ→Fx size most V k0 ρ:=fun ρ e=>by
 cases o with
 | none=>cases e
 | some τ =>
  have:=Option.some.inj e;subst this
  exact (h τ rfl).ex (St.lays _ _ (h τ rfl).st _) (Ex.lays _ _ _ _)
theorem Z4q {size most:Int} {V:Int×Int} {k0:Int} {o:Option SG} {s p v:Int} (h:∀ τ,o=some τ→Fx size most V k0 τ):∀ ρ,o.map (pt1 s p v)=some ρ→Fx size most V k0 ρ:=fun ρ e=>by
 cases o with
 | none=>cases e
 | some τ =>
  have:=Option.some.inj e;subst this
  exact (h τ rfl).ex ((h τ rfl).st.put _ _ _) (Ex.put _ _ _ _)
theorem Zw2 (f:Tr→Int→Int→SG→Option SG) (s m w p:Int) {ts:List Tr} {k:Int} {x:Tr} (h0:0≤k) (hx:Zv ts k=some x) (σ:SG):Zci f s m w (p+k * m) (ts.drop k.toNat) σ=(X5 f s (p+k * m+w) x.Kids (Yn σ.1 s (p+k * m) x.Words,σ.2)).bind (Zci f s m w (p+(k+1) * m) (ts.drop (k+1).toNat)):=by
 unfold Zv at hx
 rw [if_pos h0] at hx
 obtain ⟨hl2,e⟩:=List.getElem?_eq_some_iff.1 hx
 rw [List.drop_eq_getElem_cons hl2,Zci,e,show (k+1).toNat=k.toNat+1 by omega,show p+(k+1) * m=p+k * m+m by rw [Int.add_mul];omega]
theorem Zpn (size most:Int):∀ (N:Nat) (t:Tr) (d:Nat),SizeOf.sizeOf t < N→Fine t d→¬ t.Kind=10→PR size most (Jk false size N) t
 | 0,_,_,h,_,_=>by omega
 | N+1,t,d,hsz,hF,h10=>by
  rename_i O n b i j L σ s p
  intro h hs hsb
  have hf:=Zdd false size most N
  have pp:=hF.pt
  have pk:=Zfr t
  obtain ⟨x0,hx0,p0,_,p1⟩:=X9 hsb
  have hx0b:=hs.hB x0 (Z9 hx0)
  have hl0:=hs.hl0
  have hb0:=h.hb
  have hi0:=h.a.1.hi
  refine Zar Zc Try.call30 Try.func30 rfl (Nat.le_of_ble_eq_true rfl) fun hU => ?_
  have hN0:O n=none:=hU.fresh _ (Nat.le_refl _)
  have hN:∀ k,O (n+k)=none:=fun k=>hU.fresh _ (Nat.le_add_right _ _)
  show Go.Proofs.Ytaddaloondpnkaa.W _ _ _ _ ⟨238,[],[(0,.ref b 0),(1,.val (.int .i64 s)),(2,.val (.int .i64 p)),(3,.agg (Ze t))]⟩ (Zw O n []) _
  rw [Yh hU.fresh]
  refine Zj [0,1,2,7] (Zb Zc [] ?_)
  simp only [push_cast,seval,↓reduceIte,Za,hi0,hb0,hN0,hN]
  have A0:=h.own (some ⟨false,25,3,1,Ze t⟩)
  have F0:=Fr.own (X:=isB b) (i:=i) (j:=j) (O:=O) (n:=n) L (some ⟨false,25,3,1,Ze t⟩)
  obtain ⟨Z,hZ⟩:∃ Z,Z=O.upd n (some ⟨false,25,3,1,Ze t⟩):=⟨_,rfl⟩
  have hZn:Z n=some ⟨false,25,3,1,Ze t⟩:=by rw [hZ];exact Zo _ _ _
  have hZ2:=hZ
  simp only [push_cast] at hZ2
  rw [← hZ] at A0 F0
  rw [← hZ2]
  have hb:b < n+1:=by omega
  have hi:i < n+1:=by omega
  have hn1:n < n+1:=Nat.lt_succ_self n
  have hnt:¬ ter i j L n:=fun q=>by have:=h.a.1.ter_lt q;omega
  have hnb:n≠b:=by omega
  simp only [push_cast] at hZn
  refine Zx fun hUZ => ?_
  refine Zj [0,1,2,7,8] (Zb Zc [] ?_)
  simp only [push_cast,seval,↓reduceIte,Za,hi,hb,hn1,hZn]
  refine Zj [0,1,2,7,8,28] (Zb Zc [] ?_)
  simp only [push_cast,seval,↓reduceIte,Za,hi,hb,hn1,hZn]
  refine Ya ?_
  refine Zj [0,1,2,7,8,28,79] (Zb Zc [] ?_)
  simp only [push_cast,seval,↓reduceIte,Za,hi,hb,hn1,hZn]
  refine Zl (t:=(t.Kind == 0)) rfl (fun c => ?_) (fun c => ?_)
  ·have c0:t.Kind=0:=eq_of_beq c
   have eqL:Jk false size (N+1) t s p σ=some σ:=by simp only [Jk];rw [if_pos c0]
   refine Zs ?_
   try simp only [Zh,Zf]
   refine ⟨.tup [],Z,n+1,F0.le,⟨L,rfl,F0,by rw [eqL];exact A0⟩,?_⟩
   refine Zu (P:=Try.prog) (.inr rfl) hUZ [] F0.le ?_
   simp only [push_cast,seval,↓reduceIte,Za,Try.results30]
  have c0:¬ t.Kind=0:=ne_of_beq_false c
  have kd:=Zvp hF c0 h10
  have eqL:Jk false size (N+1) t s p σ=(Ye size σ (Vp t)).bind fun r=>(K6 size r.2.2 s p (pkd t) (pup t) r.1 r.2.1).bind fun τ=>inT false (Jk false size N) r.1 r.2.1 t τ:=by simp only [Jk];rw [if_neg c0]
  obtain ⟨i1,i2,i3,ik⟩:=Zeq hF.rt c0 h10
  refine Zj [0,1,2,7,8,28,81] (Zb Zc [] ?_)
  simp only [push_cast,seval,↓reduceIte,Za,hi,hb,hn1,hZn]
  refine Zl (t:=(t.Kind == 1)) rfl (fun c => ?_) (fun c => ?_)
  ·have c1:t.Kind=1:=eq_of_beq c
   obtain ⟨V,hV⟩:∃ V,V=Zc3 (Ye size σ (Vp t)):=⟨_,rfl⟩
   have hVb:=Znk (k:=Vp t) hs
   have hfx:=Zpm (k:=Vp t) hs
   have hm1:∀ τ,(Ye size σ (Vp t)).map (fun r=>r.2.2)=some τ→Yj τ.1 s p 1=true:=fun τ e=>(hfx τ e).2 _ _ _ hsb
   have hfx1:∀ τ,(Ye size σ (Vp t)).map (fun r=>r.2.2)=some τ→Fx size most V (Vp t) τ:=fun τ e=>by rw [hV];exact (hfx τ e).1
   obtain ⟨O5,n5,L5,g5,A5,F5⟩:=Zm9 (Vp t) A0 hs
   rw [← hV] at hVb g5
   obtain ⟨q1,q2,q3⟩:=F5.keepB hn1 hnb hnt
   have ep:Vp t=(t.Words.length:Int)+(t.Kids.length:Int):=Zh3 c1
   have ek:pkd t=0:=by unfold pkd;rw [if_pos c1]
   have eu:pup t=(t.Words.length:Int)+65536 * (t.Kids.length:Int):=by unfold pup;rw [if_pos c1]
   have hi2:=i2 c1
   have w0:IntKind.i64.wrap ((t.Words.length:Int)+(t.Kids.length:Int))=Vp t:=by rw [ep];exact X3 (by omega)
   refine Zj [0,1,2,7,8,9,10] (Zb Zc [] ?_)
   simp only [push_cast,seval,↓reduceIte,Za,hi,hb,hn1,hZn,w0]
   refine g5.then ?_
   have hZn:=q1.trans hZn
   have hn1:=q2
   have hnt:=q3
   have F9:=F0.trans F5
   obtain ⟨hb,hi⟩:=A5.b_lt
   simp only [push_cast,seval,↓reduceIte,Za,hi,hb,hn1,hZn]
   refine Zx fun hU5 => ?_
   have u1:IntKind.u64.wrap (t.Words.length:Int)=(t.Words.length:Int):=Q5 (by omega) (by omega)
   have u2:IntKind.u64.wrap (t.Kids.length:Int)=(t.Kids.length:Int):=Q5 (by omega) (by omega)
   have u3:IntKind.u64.wrap (65536 * (t.Kids.length:Int))=65536 * (t.Kids.length:Int):=Q5 (by omega) (by omega)
   have u4:IntKind.u64.wrap ((t.Words.length:Int)+65536 * (t.Kids.length:Int))=pup t:=by rw [eu];exact Q5 (by omega) (by omega)
   refine Zj [0,7,8,9,10] (Zb Zc [] ?_)
   simp only [push_cast,seval,↓reduceIte,Za,hi,hb,hn1,hZn,u1,u2,u3,u4]
   refine (Zn7 A5 (s:=s) (p:=p) (k:=0) (u:=pup t) (q:=V.2) (hm:=V.1) (fun τ e=>⟨(hfx1 τ e).st,⟨by decide,by decide,by omega,by have a3:=(hfx1 τ e).v3;have a0:=(hfx1 τ e).k0;omega⟩,hm1 τ e,⟨(hfx1 τ e).v2,by have a3:=(hfx1 τ e).v3;have a0:=(hfx1 τ e).k0;omega⟩,⟨(hfx1 τ e).v1,by omega⟩⟩)).mono fun r O6 n6 hE => ?_
   obtain ⟨L6,rfl,F6,A6⟩:=hE
   have F9:=F9.trans F6
   obtain ⟨q1,q2,q3⟩:=F6.keepB hn1 hnb hnt
   have hZn:=q1.trans hZn
   have hn1:=q2
   have hnt:=q3
   obtain ⟨hb,hi⟩:=A6.b_lt
   simp only [push_cast,seval,↓reduceIte,Za,hi,hb,hn1,hZn]
   refine Zx fun hU6 => ?_
   have hfx2:=Ztj (s:=s) (p:=p) (k:=0) (u:=pup t) (hm:=V.1) (q:=V.2) hfx1
   refine Zj [0,7,8,9,10] (Zb Zc [] ?_)
   simp only [push_cast,seval,↓reduceIte,Za,hi,hb,hn1,hZn]
   refine (Zxn A6 (s:=V.1) (p:=V.2) (ws:=t.Words) (by omega) (fun τ e=>⟨⟨(hfx2 τ e).v2,by have:=(hfx2 τ e).v3;omega⟩,.inl (Zdz (hfx2 τ e).hb (Int.le_refl _) (by omega) (by omega))⟩)).mono fun r O6 n6 hE => ?_
   obtain ⟨L6,rfl,F6,A6⟩:=hE
   have F9:=F9.trans F6
   obtain ⟨q1,q2,q3⟩:=F6.keepB hn1 hnb hnt
   have hZn:=q1.trans hZn
   have hn1:=q2
   have hnt:=q3
   obtain ⟨hb,hi⟩:=A6.b_lt
   simp only [push_cast,seval,↓reduceIte,Za,hi,hb,hn1,hZn]
   refine Zx fun hU6 => ?_
   have hfx3:=Z2c (s:=V.1) (p:=V.2) (ws:=t.Words) hfx2
   have w3:IntKind.i64.wrap (V.2+(t.Words.length:Int))=V.2+(t.Words.length:Int):=X3 (by omega)
   refine Zx7 ?_
   refine Zb Zc [] ?_
   simp only [push_cast,seval,↓reduceIte,Za,hi,hb,hn1,hZn,w3]
   refine (Zum A6 (s:=V.1) (p:=V.2+(t.Words.length:Int)) hf (fun x hx=>@Zpn size most N x (d - 1) (by have:=Qn hx;omega) (hF.kid hx) (U9 (by omega) (ik x hx).2).1) (by omega) (fun τ e=>⟨(hfx3 τ e).st,⟨by have:=(hfx3 τ e).v2;omega,by have:=(hfx3 τ e).v3;omega⟩,fun q a b=>Zdz (hfx3 τ e).hb (by omega) (by omega) (by omega)⟩)).mono fun r O6 n6 hE => ?_
   obtain ⟨L6,rfl,F6,A6⟩:=hE
   have F9:=F9.trans F6
   simp only [push_cast,seval,↓reduceIte,Za,hi,hb,hn1,hZn]
   intro hU9
   have hEQ:((Ye size σ (Vp t)).bind fun r=>(K6 size r.2.2 s p (pkd t) (pup t) r.1 r.2.1).bind fun τ=>inT false (Jk false size N) r.1 r.2.1 t τ)=(((((Ye size σ (Vp t)).map fun r=>r.2.2).bind fun σ=>K6 size σ s p 0 (pup t) V.1 V.2).map fun σ=>((Yn σ.1 V.1 V.2 t.Words,σ.2):SG)).bind (X5 (Jk false size N) V.1 (V.2+(t.Words.length:Int)) t.Kids)):=by
    rw [hV,ek]
    cases Ye size σ (Vp t) with
    | none=>rfl
    | some r =>
     show (K6 size r.2.2 s p 0 (pup t) r.1 r.2.1).bind _=_
     simp only [Option.map_some,Option.bind_some,Zc3]
     cases K6 size r.2.2 s p 0 (pup t) r.1 r.2.1 with
     | none=>rfl
     | some ρ=>show inT false (Jk false size N) r.1 r.2.1 t ρ=_;unfold inT;rw [if_pos c1];rfl
   try simp only [Zh,Zf,↓reduceIte,Nat.reduceEqDiff]
   show Zm5 _ _ _ _ .normal _ _ _
   refine ⟨.tup [],O6,n6,F9.le,⟨L6,rfl,F9,?_⟩,?_⟩
   ·have e9:Jk false size (N+1) t s p σ=_:=eqL
    rw [e9,hEQ]
    exact A6
   refine Zu (P:=Try.prog) (.inl rfl) hU9 [] F9.le ?_
   simp only [push_cast,seval,↓reduceIte,Za,Try.results30]
  have c1:¬ t.Kind=1:=ne_of_beq_false c
  refine Zj [0,1,2,7,8,28,122] (Zb Zc [] ?_)
  simp only [push_cast,seval,↓reduceIte,Za,hi,hb,hn1,hZn]
  refine Zl (t:=(t.Kind == 8)) rfl (fun c => ?_) (fun c => ?_)
  ·have c8:t.Kind=8:=eq_of_beq c
   obtain ⟨V,hV⟩:∃ V,V=Zc3 (Ye size σ (Vp t)):=⟨_,rfl⟩
   have hVb:=Znk (k:=Vp t) hs
   have hfx:=Zpm (k:=Vp t) hs
   have hm1:∀ τ,(Ye size σ (Vp t)).map (fun r=>r.2.2)=some τ→Yj τ.1 s p 1=true:=fun τ e=>(hfx τ e).2 _ _ _ hsb
   have hfx1:∀ τ,(Ye size σ (Vp t)).map (fun r=>r.2.2)=some τ→Fx size most V (Vp t) τ:=fun τ e=>by rw [hV];exact (hfx τ e).1
   obtain ⟨O5,n5,L5,g5,A5,F5⟩:=Zm9 (Vp t) A0 hs
   rw [← hV] at hVb g5
   obtain ⟨q1,q2,q3⟩:=F5.keepB hn1 hnb hnt
   have ep:Vp t=(t.Kids.length:Int):=Zqq c8
   have ek:pkd t=1:=by unfold pkd;rw [if_neg c1]
   have eu:pup t=6+8 * (t.Kids.length:Int):=by unfold pup;rw [if_neg c1,if_neg (by omega),c8];omega
   have g5':=g5
   rw [ep] at g5'
   refine Zj [0,1,2,7,8,11,12] (Zb Zc [] ?_)
   simp only [push_cast,seval,↓reduceIte,Za,hi,hb,hn1,hZn]
   refine g5'.then ?_
   have hZn:=q1.trans hZn
   have hn1:=q2
   have hnt:=q3
   have F9:=F0.trans F5
   obtain ⟨hb,hi⟩:=A5.b_lt
   simp only [push_cast,seval,↓reduceIte,Za,hi,hb,hn1,hZn]
   refine Zx fun hU5 => ?_
   have u2:IntKind.u64.wrap (t.Kids.length:Int)=(t.Kids.length:Int):=Q5 (by omega) (by omega)
   have u3:IntKind.u64.wrap (8 * (t.Kids.length:Int))=8 * (t.Kids.length:Int):=Q5 (by omega) (by omega)
   have u4:IntKind.u64.wrap (6+8 * (t.Kids.length:Int))=pup t:=by rw [eu];exact Q5 (by omega) (by omega)
   refine Zj [0,7,8,11,12] (Zb Zc [] ?_)
   simp only [push_cast,seval,↓reduceIte,Za,hi,hb,hn1,hZn,u2,u3,u4]
   refine (Zn7 A5 (s:=s) (p:=p) (k:=1) (u:=pup t) (q:=V.2) (hm:=V.1) (fun τ e=>⟨(hfx1 τ e).st,⟨by decide,by decide,by omega,by have a3:=(hfx1 τ e).v3;have a0:=(hfx1 τ e).k0;omega⟩,hm1 τ e,⟨(hfx1 τ e).v2,by have a3:=(hfx1 τ e).v3;have a0:=(hfx1 τ e).k0;omega⟩,⟨(hfx1 τ e).v1,by omega⟩⟩)).mono fun r O6 n6 hE => ?_
   obtain ⟨L6,rfl,F6,A6⟩:=hE
   have F9:=F9.trans F6
   obtain ⟨q1,q2,q3⟩:=F6.keepB hn1 hnb hnt
   have hZn:=q1.trans hZn
   have hn1:=q2
   have hnt:=q3
   obtain ⟨hb,hi⟩:=A6.b_lt
   simp only [push_cast,seval,↓reduceIte,Za,hi,hb,hn1,hZn]
   refine Zx fun hU6 => ?_
   have hfx2:=Ztj (s:=s) (p:=p) (k:=1) (u:=pup t) (hm:=V.1) (q:=V.2) hfx1
   refine Zx7 ?_
   refine Zb Zc [] ?_
   simp only [push_cast,seval,↓reduceIte,Za,hi,hb,hn1,hZn]
   refine (Zum A6 (s:=V.1) (p:=V.2) hf (fun x hx=>@Zpn size most N x (d - 1) (by have:=Qn hx;omega) (hF.kid hx) (U9 (by omega) (ik x hx).2).1) (by omega) (fun τ e=>⟨(hfx2 τ e).st,⟨by have:=(hfx2 τ e).v2;omega,by have:=(hfx2 τ e).v3;omega⟩,fun q a b=>Zdz (hfx2 τ e).hb (by omega) (by omega) (by omega)⟩)).mono fun r O6 n6 hE => ?_
   obtain ⟨L6,rfl,F6,A6⟩:=hE
   have F9:=F9.trans F6
   simp only [push_cast,seval,↓reduceIte,Za,hi,hb,hn1,hZn]
   intro hU9
   have hEQ:((Ye size σ (Vp t)).bind fun r=>(K6 size r.2.2 s p (pkd t) (pup t) r.1 r.2.1).bind fun τ=>inT false (Jk false size N) r.1 r.2.1 t τ)=((((Ye size σ (Vp t)).map fun r=>r.2.2).bind fun σ=>K6 size σ s p 1 (pup t) V.1 V.2).bind (X5 (Jk false size N) V.1 V.2 t.Kids)):=by
    rw [hV,ek]
    cases Ye size σ (Vp t) with
    | none=>rfl
    | some r =>
     show (K6 size r.2.2 s p 1 (pup t) r.1 r.2.1).bind _=_
     simp only [Option.map_some,Option.bind_some,Zc3]
     cases K6 size r.2.2 s p 1 (pup t) r.1 r.2.1 with
     | none=>rfl
     | some ρ=>show inT false (Jk false size N) r.1 r.2.1 t ρ=_;unfold inT;rw [if_neg c1,if_pos c8];rfl
   try simp only [Zh,Zf,↓reduceIte,Nat.reduceEqDiff]
   show Zm5 _ _ _ _ .normal _ _ _
   refine ⟨.tup [],O6,n6,F9.le,⟨L6,rfl,F9,?_⟩,?_⟩
   ·have e9:Jk false size (N+1) t s p σ=_:=eqL
    rw [e9,hEQ]
    exact A6
   refine Zu (P:=Try.prog) (.inl rfl) hU9 [] F9.le ?_
   simp only [push_cast,seval,↓reduceIte,Za,Try.results30]
  have c8:¬ t.Kind=8:=ne_of_beq_false c
  refine Zj [0,1,2,7,8,28,145] (Zb Zc [] ?_)
  simp only [push_cast,seval,↓reduceIte,Za,hi,hb,hn1,hZn]
  refine Zl (t:=(t.Kind == 9)) rfl (fun c => ?_) (fun c => ?_)
  ·have c9:t.Kind=9:=eq_of_beq c
   obtain ⟨a1,a2,w0,w1,k0',k1',ak⟩:=Zsw hF c9
   have hframe:=Zzw (t:=t) (by omega)
   have ep:=Zgh c9
   have ek:pkd t=1:=by unfold pkd;rw [if_neg c1]
   have eu:pup t=7+8 * ((t.Kids.length:Int) * ((fr t.Kids).1+(fr t.Kids).2)):=by unfold pup;rw [if_neg c1,if_pos c9]
   have et:Za1 t=(t.Kids.length:Int) * 4+(fr t.Kids).1 * 4294967296+(fr t.Kids).2 * 281474976710656:=rfl
   have eIn:∀ hh bb ρ,inT false (Jk false size N) hh bb t ρ=Zci (Jk false size N) hh ((fr t.Kids).1+(fr t.Kids).2) (fr t.Kids).1 (bb+1) t.Kids (pt1 hh bb (Za1 t) ρ):=fun hh bb ρ=>by
    unfold inT
    rw [if_neg c1,if_neg c8,if_pos c9,if_neg (by decide)]
    rfl
   obtain ⟨W,hW⟩:∃ W,W=(fr t.Kids).1:=⟨_,rfl⟩
   obtain ⟨K,hK⟩:∃ K,K=(fr t.Kids).2:=⟨_,rfl⟩
   have hfr:fr t.Kids=(W,K):=Prod.ext hW.symm hK.symm
   simp only [hfr] at hframe a1 a2 w0 w1 k0' k1' ak ep eu et eIn
   clear hW hK
   have hWK:IntKind.i64.wrap (W+K)=W+K:=X3 (by omega)
   have hNM:IntKind.i64.wrap ((t.Kids.length:Int) * (W+K))=(t.Kids.length:Int) * (W+K):=X3 (by omega)
   have hPW:IntKind.i64.wrap (1+(t.Kids.length:Int) * (W+K))=Vp t:=by rw [ep];exact X3 (by omega)
   refine Zj [0,1,2,7,8,13,14] (Zb Zc [] ?_)
   simp only [push_cast,seval,↓reduceIte,Za,hi,hb,hn1,hZn]
   refine (Zk0 hframe).then ?_
   simp only [push_cast,seval,↓reduceIte,Za,hi,hb,hn1,hZn]
   obtain ⟨V,hV⟩:∃ V,V=Zc3 (Ye size σ (Vp t)):=⟨_,rfl⟩
   have hVb:=Znk (k:=Vp t) hs
   have hfx:=Zpm (k:=Vp t) hs
   have hm1:∀ τ,(Ye size σ (Vp t)).map (fun r=>r.2.2)=some τ→Yj τ.1 s p 1=true:=fun τ e=>(hfx τ e).2 _ _ _ hsb
   have hfx1:∀ τ,(Ye size σ (Vp t)).map (fun r=>r.2.2)=some τ→Fx size most V (Vp t) τ:=fun τ e=>by rw [hV];exact (hfx τ e).1
   obtain ⟨O5,n5,L5,g5,A5,F5⟩:=Zm9 (Vp t) A0 hs
   rw [← hV] at hVb g5
   obtain ⟨q1,q2,q3⟩:=F5.keepB hn1 hnb hnt
   refine Zj [0,1,2,7,8,13,14,15,16] (Zb Zc [] ?_)
   simp only [push_cast,seval,↓reduceIte,Za,hi,hb,hn1,hZn,hWK,hNM,hPW]
   refine g5.then ?_
   have hZn:=q1.trans hZn
   have hn1:=q2
   have hnt:=q3
   have F9:=F0.trans F5
   obtain ⟨hb,hi⟩:=A5.b_lt
   simp only [push_cast,seval,↓reduceIte,Za,hi,hb,hn1,hZn]
   refine Zx fun hU5 => ?_
   have u1:IntKind.u64.wrap ((t.Kids.length:Int) * (W+K))=(t.Kids.length:Int) * (W+K):=Q5 (by omega) (by omega)
   have u2:IntKind.u64.wrap (8 * ((t.Kids.length:Int) * (W+K)))=8 * ((t.Kids.length:Int) * (W+K)):=Q5 (by omega) (by omega)
   have u3:IntKind.u64.wrap (7+8 * ((t.Kids.length:Int) * (W+K)))=pup t:=by rw [eu];exact Q5 (by omega) (by omega)
   refine Zj [0,7,8,13,14,15,16] (Zb Zc [] ?_)
   simp only [push_cast,seval,↓reduceIte,Za,hi,hb,hn1,hZn,hWK,hNM,u1,u2,u3]
   refine (Zn7 A5 (s:=s) (p:=p) (k:=1) (u:=pup t) (q:=V.2) (hm:=V.1) (fun τ e=>⟨(hfx1 τ e).st,⟨by decide,by decide,by omega,by have a3:=(hfx1 τ e).v3;have a0:=(hfx1 τ e).k0;omega⟩,hm1 τ e,⟨(hfx1 τ e).v2,by have a3:=(hfx1 τ e).v3;have a0:=(hfx1 τ e).k0;omega⟩,⟨(hfx1 τ e).v1,by omega⟩⟩)).mono fun r O6 n6 hE => ?_
   obtain ⟨L6,rfl,F6,A6⟩:=hE
   have F9:=F9.trans F6
   obtain ⟨q1,q2,q3⟩:=F6.keepB hn1 hnb hnt
   have hZn:=q1.trans hZn
   have hn1:=q2
   have hnt:=q3
   obtain ⟨hb,hi⟩:=A6.b_lt
   simp only [push_cast,seval,↓reduceIte,Za,hi,hb,hn1,hZn]
   refine Zx fun hU6 => ?_
   have hfx2:=Ztj (s:=s) (p:=p) (k:=1) (u:=pup t) (hm:=V.1) (q:=V.2) hfx1
   have z1:IntKind.i64.wrap (4 * (t.Kids.length:Int))=4 * (t.Kids.length:Int):=X3 (by omega)
   have z2:IntKind.u64.wrap (4 * (t.Kids.length:Int))=4 * (t.Kids.length:Int):=Q5 (by omega) (by omega)
   have z3:IntKind.u64.wrap W=W:=Q5 (by omega) (by omega)
   have z4:IntKind.u64.wrap K=K:=Q5 (by omega) (by omega)
   have z5:IntKind.u64.wrap (65536 * K)=65536 * K:=Q5 (by omega) (by omega)
   have z6:IntKind.u64.wrap (W+65536 * K)=W+65536 * K:=Q5 (by omega) (by omega)
   have z7:IntKind.u64.wrap (4294967296 * (W+65536 * K))=4294967296 * (W+65536 * K):=Q5 (by omega) (by omega)
   have z8:IntKind.u64.wrap (4 * (t.Kids.length:Int)+4294967296 * (W+65536 * K))=Za1 t:=by rw [et,Q5 (by omega) (by omega)];omega
   refine Zj [0,7,8,13,14,15,16] (Zb Zc [] ?_)
   simp only [push_cast,seval,↓reduceIte,Za,hi,hb,hn1,hZn,z1,z2,z3,z4,z5,z6,z7,z8]
   refine (Z4x A6 (s:=V.1) (p:=V.2) (v:=Za1 t) (fun τ e=>Zdz (hfx2 τ e).hb (Int.le_refl _) (by omega) (by omega))).mono fun r O6 n6 hE => ?_
   obtain ⟨L6,rfl,F6,A6⟩:=hE
   have F9:=F9.trans F6
   obtain ⟨q1,q2,q3⟩:=F6.keepB hn1 hnb hnt
   have hZn:=q1.trans hZn
   have hn1:=q2
   have hnt:=q3
   obtain ⟨hb,hi⟩:=A6.b_lt
   simp only [push_cast,seval,↓reduceIte,Za,hi,hb,hn1,hZn]
   refine Zx fun hU6 => ?_
   have hfx3:=Z4q (s:=V.1) (p:=V.2) (v:=Za1 t) hfx2
   refine Zj [0,7,8,13,14,15,16,17] (Zb Zc [] ?_)
   simp only [push_cast,seval,↓reduceIte,Za,hi,hb,hn1,hZn]
   refine Ya ?_
   have hTot:Jk false size (N+1) t s p σ=((((Ye size σ (Vp t)).map fun r=>r.2.2).bind fun σ=>K6 size σ s p 1 (pup t) V.1 V.2).map (pt1 V.1 V.2 (Za1 t))).bind (Zci (Jk false size N) V.1 (W+K) W (V.2+1) t.Kids):=by
    rw [eqL,hV]
    cases Ye size σ (Vp t) with
    | none=>rfl
    | some r =>
     show (K6 size r.2.2 s p (pkd t) (pup t) r.1 r.2.1).bind _=_
     simp only [Option.map_some,Option.bind_some,Zc3]
     rw [ek]
     cases K6 size r.2.2 s p 1 (pup t) r.1 r.2.1 with
     | none=>rfl
     | some ρ=>exact eIn _ _ _
   generalize hτ3:((((Ye size σ (Vp t)).map fun r=>r.2.2).bind fun σ=>K6 size σ s p 1 (pup t) V.1 V.2).map (pt1 V.1 V.2 (Za1 t)))=o3 at A6 hfx3 hTot
   refine Zc6 (S:=Int×Objs×Nat×List NR×Option SG) (fun q=>⟨238,[],[(0,.ref b 0),(7,.ref n 0),(8,.val (.int .i64 (t.Kids.length:Int))),(13,.val (.int .i64 W)),(14,.val (.int .i64 K)),(15,.val (.int .i64 V.1)),(16,.val (.int .i64 V.2)),(17,.val (.int .i64 q.1))]⟩) (fun q=>q.2.1) (fun q=>q.2.2.1)
    (fun q=>(0≤q.1∧q.1≤(t.Kids.length:Int))∧BO size most q.2.1 q.2.2.1 b i j q.2.2.2.1 q.2.2.2.2∧Fr (isB b) i j O n L q.2.1 q.2.2.1 q.2.2.2.1∧q.2.1 n=some ⟨false,25,3,1,Ze t⟩∧n < q.2.2.1∧¬ ter i j q.2.2.2.1 n∧(∀ τ,q.2.2.2.2=some τ→Fx size most V (Vp t) τ)∧Jk false size (N+1) t s p σ=q.2.2.2.2.bind (Zci (Jk false size N) V.1 (W+K) W (V.2+1+q.1 * (W+K)) (t.Kids.drop q.1.toNat)))
    (fun q=>((t.Kids.length:Int) - q.1).toNat) (fun q hq=>hq.2.2.1.le) (fun q hq => ?_) (0,O6,n6,L6,o3) ⟨⟨Int.le_refl _,by omega⟩,A6,F9,hZn,hn1,hnt,hfx3,by simpa using hTot⟩
   clear hZn hn1 hnt hb hi A6 F9 hTot hfx3 hfx2 hfx1 hfx A5 F5 F6
   obtain ⟨k,Y,m,M,τo⟩:=q
   obtain ⟨⟨k0,k1⟩,g1,g3,g4,g5,g5',g6,g8⟩:=hq
   dsimp only at k0 k1 g1 g3 g4 g5 g5' g6 g8 ⊢
   obtain ⟨hb,hi⟩:=g1.b_lt
   have hob:=g1.ho
   simp only [push_cast] at g4
   refine Zx fun hUY => ?_
   by_cases c5:k < (t.Kids.length:Int)∧Zkc τo=true
   ·have d1:decide (k < (t.Kids.length:Int))=true:=decide_eq_true c5.1
    obtain ⟨τ,rfl⟩:∃ τ,τo=some τ:=by
     cases τo with
     | none=>exact absurd c5.2 (by decide)
     | some τ=>exact ⟨τ,rfl⟩
    rw [c5.2] at hob
    obtain ⟨x,hx⟩:=Zbn (L:=t.Kids) k0 c5.1
    obtain ⟨x5,hx5,ax5,bx5,cx5,_⟩:=bE (f:=Zg) (K:=fun y=>some y) (r:=x) J3 (fun _=>rfl) (by decide) (by rw [hx];rfl)
    obtain rfl:x5=x:=Option.some.inj (hx5.symm.trans hx)
    have dx5:Zc5 Xt 22 (fl Zg t.Kids) (k.toNat * 3+1)=some (.sl x5.Words.length (fl (eI .u64) x5.Words)):=(Zbp (sz:=3) Vx (fun _=>rfl) (by decide) (by decide) hx).trans rfl
    have hstep:=Zw2 (Jk false size N) V.1 (W+K) W (V.2+1) k0 hx τ
    have fx:=g6 τ rfl
    have v1:=fx.v1
    have v2:=fx.v2
    have v3:=fx.v3
    have hax:=ak x5 (Z9 hx)
    have hmul:=Zxi k0 c5.1 (m:=W+K) (by omega)
    have e0:IntKind.i64.wrap (V.2+1)=V.2+1:=X3 (by omega)
    have e1:IntKind.i64.wrap (k * (W+K))=k * (W+K):=X3 (by omega)
    have e2:IntKind.i64.wrap (V.2+1+k * (W+K))=V.2+1+k * (W+K):=X3 (by omega)
    have e3:IntKind.i64.wrap (V.2+1+k * (W+K)+W)=V.2+1+k * (W+K)+W:=X3 (by omega)
    have k9:=(U9 (by omega) (ik x5 (Z9 hx)).2).2 c9
    refine Zi ?_
    refine Zj [0,7,8,13,14,15,16,17,200] (Zb Zc (Zxj []) ?_)
    simp only [push_cast,seval,↓reduceIte,Za,hb,hi,hob,g4,g5,d1]
    refine Zl (t:=true) rfl (fun c15 => ?_) (fun c15=>by cases c15)
    refine Zp ?_
    try simp only [Zh,Zf]
    refine Zi ?_
    refine Ya ?_
    refine Zj [0,7,8,13,14,15,16,17] (Zb Zc [] ?_)
    simp only [push_cast,Nat.reduceAdd,Nat.reduceSub,Nat.reduceMul,Nat.reduceLeDiff,Nat.reduceLT,Nat.reduceEqDiff,↓reduceIte,reduceCtorEq,Int.reduceBEq,Int.reduceBNe,Nat.reduceBEq,Int.reduceLE,Int.reduceLT,Int.reduceEq,Int.reduceNe,Int.reduceNeg,Nat.reduceDiv,Nat.reduceMod,Nat.reducePow,Za,hb,hi,hob,g4,g5,hWK,e0,e1,e2,dx5,ax5,bx5,cx5]
    refine (Zxn g1 (s:=V.1) (p:=V.2+1+k * (W+K)) (ws:=x5.Words) (by omega) (fun ρ e=>⟨⟨by omega,by omega⟩,.inl (Zdz (g6 ρ e).hb (by omega) (by omega) (by omega))⟩)).mono fun r O6 n6 hE => ?_
    obtain ⟨L6,rfl,F6,A6⟩:=hE
    have hn':=F6.le
    have hnb:n≠b:=by omega
    obtain ⟨q1,q2,q3⟩:=F6.keepB g5 hnb g5'
    obtain ⟨hb,hi⟩:=A6.b_lt
    have g4:=q1.trans g4
    have A6':BA size most O6 n6 b i j L6 (Yn τ.1 V.1 (V.2+1+k * (W+K)) x5.Words,τ.2):=A6
    have fx6:Fx size most V (Vp t) (Yn τ.1 V.1 (V.2+1+k * (W+K)) x5.Words,τ.2):=fx.ex (St.lays _ _ fx.st _) (Ex.lays _ _ _ _)
    simp only [push_cast,seval,↓reduceIte,Za,hb,hi]
    refine Zx fun hU6 => ?_
    refine Zb Zc [] ?_
    simp only [push_cast,Nat.reduceAdd,Nat.reduceSub,Nat.reduceMul,Nat.reduceLeDiff,Nat.reduceLT,Nat.reduceEqDiff,↓reduceIte,reduceCtorEq,Int.reduceBEq,Int.reduceBNe,Nat.reduceBEq,Int.reduceLE,Int.reduceLT,Int.reduceEq,Int.reduceNe,Int.reduceNeg,Nat.reduceDiv,Nat.reduceMod,Nat.reducePow,Za,hb,hi,g4,q2,hWK,e0,e1,e2,e3,ax5,bx5,cx5]
    refine (Zum A6 (t:=x5) (s:=V.1) (p:=V.2+1+k * (W+K)+W) hf (fun y hy=>by
     have j4:=(Zeq (hF.kid (Z9 hx)).rt (by omega) (by omega)).2.2.2 y hy
     exact @Zpn size most N y (d - 1 - 1) (by have:=Qn (Z9 hx);have:=Qn hy;omega) ((hF.kid (Z9 hx)).kid hy) (U9 (by omega) j4.2).1) (by omega) (fun ρ e=>by
     have:=Option.some.inj e;subst this
     exact ⟨fx6.st,⟨by omega,by omega⟩,fun q a b=>Zdz fx6.hb (by omega) (by omega) (by omega)⟩)).mono fun r O' n' hE => ?_
    obtain ⟨L',rfl,F4,hres⟩:=hE
    obtain ⟨p1',p2',p3'⟩:=F4.keepB q2 hnb q3
    obtain ⟨hb9,hi9⟩:=hres.b_lt
    simp only [push_cast,seval,↓reduceIte,Za]
    refine Zx fun hU9 => ?_
    refine Zb Zc [] ?_
    have hwk:IntKind.i64.wrap (k+1)=k+1:=X3 (by omega)
    simp only [push_cast,seval,↓reduceIte,Za,hb9,hi9,p2',hwk]
    refine .inl ⟨rfl,(k+1,O',n',L',X5 (Jk false size N) V.1 (V.2+1+k * (W+K)+W) x5.Kids (Yn τ.1 V.1 (V.2+1+k * (W+K)) x5.Words,τ.2)),⟨⟨by omega,by omega⟩,hres,g3.trans (F6.trans F4),p1'.trans g4,p2',p3',fun ρ e => ?_,?_⟩,by show ((t.Kids.length:Int) - (k+1)).toNat < ((t.Kids.length:Int) - k).toNat;omega,Yf hU9 (Nat.le_trans g3.le (Nat.le_trans F6.le F4.le)) rfl ?_⟩
    ·have t9:=(Ky hf V.1 x5.Kids _ _ fx6.st).1 ρ e
     exact fx6.ex t9.1 t9.2
    ·show Jk false size (N+1) t s p σ=(X5 (Jk false size N) V.1 (V.2+1+k * (W+K)+W) x5.Kids (Yn τ.1 V.1 (V.2+1+k * (W+K)) x5.Words,τ.2)).bind (Zci (Jk false size N) V.1 (W+K) W (V.2+1+(k+1) * (W+K)) (t.Kids.drop (k+1).toNat))
     rw [g8];exact hstep
    simp only [push_cast,seval,↓reduceIte,Za,hb9,hi9,p2']
   have hex:Jk false size (N+1) t s p σ=τo:=by
    rw [g8]
    cases τo with
    | none=>rfl
    | some τ =>
     have:¬ k < (t.Kids.length:Int):=fun z=>c5 ⟨z,rfl⟩
     rw [List.drop_eq_nil_of_le (by omega)];rfl
   refine Zi ?_
   refine Yk (E':=⟨238,[],[(0,.ref b 0),(200,.val (.bool false))]⟩) (O':=Y) (n0:=m) ?_ ?_
   ·by_cases c2:k < (t.Kids.length:Int)
    ·have d1:decide (k < (t.Kids.length:Int))=true:=decide_eq_true c2
     have d2:Zkc τo=false:=by
      cases h:Zkc τo with
      | true=>exact absurd ⟨c2,h⟩ c5
      | false=>rfl
     rw [d2] at hob
     refine Zb Zc (Zxj []) ?_
     simp only [push_cast,seval,↓reduceIte,Za,hb,hi,hob,g4,g5,d1]
     refine And.intro rfl (Yf hUY g3.le rfl ?_)
     simp only [push_cast,seval,↓reduceIte,Za,hb,hi,hob,g4,g5]
    have d1:decide (k < (t.Kids.length:Int))=false:=decide_eq_false c2
    refine Zb Zc (Z0u []) ?_
    simp only [push_cast,seval,↓reduceIte,Za,hb,hi,hob,g4,g5,d1]
    refine And.intro rfl (Yf hUY g3.le rfl ?_)
    simp only [push_cast,seval,↓reduceIte,Za,hb,hi,hob,g4,g5]
   refine Zl (t:=false) rfl (fun c15=>by cases c15) (fun c15 => ?_)
   refine X0 ?_
   try simp only [Zh,Zf,↓reduceIte,Nat.reduceEqDiff]
   refine .inr ⟨(fun h=>by cases h),?_⟩
   try simp only [Zh,Zf,↓reduceIte,Nat.reduceEqDiff]
   show Zm5 _ _ _ _ .normal _ _ _
   refine ⟨.tup [],Y,m,g3.le,⟨M,rfl,g3,by rw [hex];exact g1⟩,?_⟩
   refine Zu (P:=Try.prog) (.inl rfl) hUY [] g3.le ?_
   simp only [push_cast,seval,↓reduceIte,Za,Try.results30]
  have c9:¬ t.Kind=9:=ne_of_beq_false c
  have hkd:2≤t.Kind∧t.Kind≤7:=by omega
  have hbk:∀ k:Nat,b < n+k:=fun k=>by omega
  have hnum:=Z2j hF hkd
  have hput:=Zwh hF hkd
  have hZL:Z=Zw O n [some ⟨false,25,3,1,(Ze t)⟩]:=by rw [hZ,← Qg,Yh hU.fresh]
  rw [hZL]
  have hN0:O n=none:=hU.fresh _ (Nat.le_refl _)
  have hN:∀ k,O (n+k)=none:=fun k=>hU.fresh _ (Nat.le_add_right _ _)
  refine Zj [0,1,2,7,8,18] (Zb Zc [] ?_)
  simp only [push_cast,seval,↓reduceIte,Za,hb,hi,hN0,hN,hbk]
  refine Zi ?_
  refine Zj [0,1,2,7,8,18,19] (Zb Zc [] ?_)
  simp only [push_cast,seval,↓reduceIte,Za,hb,hi,hN0,hN,hbk]
  refine Zbk (E':=(⟨238,[],[(0,.ref b 0),(1,.val (.int .i64 s)),(2,.val (.int .i64 p)),(7,.ref n 0),(8,.val (.int .i64 (t.Kids.length:Int))),(18,.row (n+1) ([]:List Int).length),(19,.val (.int .i64 0))]⟩:Env)) (O':=(Zw O n [some ⟨false,25,3,1,(Ze t)⟩,some ⟨true,58,1,([]:List Int).length,fl (eI .u64) ([]:List Int)⟩,none])) (n':=(n+3)) ?_ ?_
  ·refine Fit2.trans (E':=(⟨238,[],[(0,.ref b 0),(1,.val (.int .i64 s)),(2,.val (.int .i64 p)),(7,.ref n 0),(8,.val (.int .i64 (t.Kids.length:Int))),(18,.val (.slice none 0 0)),(19,.val (.int .i64 0))]⟩:Env)) (O':=(Zw O n [some ⟨false,25,3,1,(Ze t)⟩])) (n':=(n+1)) (Fit2.of (Zk hU rfl rfl ?_) (by omega)) ?_
   ·simp only [push_cast,seval,↓reduceIte,Za,hb0,hi0,hN0,hN,hbk]
   refine Fit2.trans (Zf3 18 58 1 rfl (by omega)) ?_
   simp only [J6,Qg,Vr,Ku,List.set_cons_zero,List.set_cons_succ,List.cons_append,List.nil_append,List.length_cons,List.length_nil,Nat.zero_add,Nat.reduceAdd,Nat.reduceLT,Nat.add_assoc]
   refine Fit2.trans (E':=(⟨238,[],[(0,.ref b 0),(1,.val (.int .i64 s)),(2,.val (.int .i64 p)),(7,.ref n 0),(8,.val (.int .i64 (t.Kids.length:Int))),(18,.row (n+1) ([]:List Int).length),(19,.val (.int .i64 0))]⟩:Env)) (O':=(Zw O n [some ⟨false,25,3,1,(Ze t)⟩,some ⟨true,58,1,([]:List Int).length,fl (eI .u64) ([]:List Int)⟩])) (n':=(n+2)) (Fit2.of (Zk hU rfl rfl ?_) (by omega)) ?_
   ·simp only [push_cast,seval,↓reduceIte,Za,hb0,hi0,hN0,hN,hbk]
   refine Zfs (k:=2) (k':=3) hU [0,1] [0,1,0] rfl rfl rfl rfl ⟨rfl,rfl⟩ ?_
   simp only [push_cast,seval,↓reduceIte,Za,hb0,hi0,hN0,hN,hbk]
  refine Xb (E':=⟨238,[],[(0,.ref b 0),(1,.val (.int .i64 s)),(2,.val (.int .i64 p)),(7,.ref n 0),(8,.val (.int .i64 (t.Kids.length:Int))),(18,.row (n+1) (ato t).length)]⟩) (O':=(Zw O n [some ⟨false,25,3,1,(Ze t)⟩,some ⟨true,58,1,(ato t).length,fl (eI .u64) (ato t)⟩,none])) (n0:=(n+3)) ?_ ?_
  ·refine X7 hnum (fun s0_=>⟨238,[],[(0,.ref b 0),(1,.val (.int .i64 s)),(2,.val (.int .i64 p)),(7,.ref n 0),(8,.val (.int .i64 (t.Kids.length:Int))),(18,.row (n+1) s0_.2.length),(19,.val (.int .i64 s0_.1))]⟩) (fun s0_=>(Zw O n [some ⟨false,25,3,1,(Ze t)⟩,some ⟨true,58,1,s0_.2.length,fl (eI .u64) s0_.2⟩,none])) (fun z6=>JX 1 n (⟨238,[],[(0,.ref b 0),(1,.val (.int .i64 s)),(2,.val (.int .i64 p)),(7,.ref n 0),(8,.val (.int .i64 (t.Kids.length:Int))),(18,.row (n+1) z6.length)]⟩:Env) (Zw O n [some ⟨false,25,3,1,(Ze t)⟩,some ⟨true,58,1,z6.length,fl (eI .u64) z6⟩,none]) (n+3)) ?_
   intro s0_ x0_ hs0_
   unfold Z0t at hs0_
   try dsimp only
   refine Zi ?_
   refine Zj [0,1,2,7,8,18,19,31] (Zb Zc [] ?_)
   simp only [push_cast,seval,↓reduceIte,Za,hb0,hi0,hN0,hN,hbk]
   refine Zl (t:=(decide (s0_.1 < (t.Kids.length:Int)))) rfl (fun c5 => ?_) (fun c5 => ?_)
   ·replace hs0_:=Z0 c5 hs0_
    refine Zp ?_
    try simp only [Zh,Zf]
    refine Zi ?_
    refine Ya ?_
    obtain ⟨x2,hx2,ax2,bx2,cx2,hs0_⟩:=bE (f:=Zg) J3 (fun _=>rfl) (by decide) hs0_
    obtain ⟨x3,hx3,ax3,bx3,cx3,hs0_⟩:=bE (f:=eI .u64) K4 (fun _=>rfl) (by decide) hs0_
    obtain ⟨l4,pl4,ql4,el4,hs0_⟩:=bA (k:=1) rfl hs0_
    have dx2:Zc5 Xt 22 (fl Zg t.Kids) (s0_.1.toNat * 3+1)=some (.sl x2.Words.length (fl (eI .u64) x2.Words)):=(Zbp (sz:=3) Vx (fun _=>rfl) (by decide) (by decide) hx2).trans rfl
    refine Zb Zc [] ?_
    simp only [push_cast,Nat.reduceAdd,Nat.reduceSub,Nat.reduceMul,Nat.reduceLeDiff,Nat.reduceLT,Nat.reduceEqDiff,↓reduceIte,reduceCtorEq,Int.reduceBEq,Int.reduceBNe,Nat.reduceBEq,Int.reduceLE,Int.reduceLT,Int.reduceEq,Int.reduceNe,Int.reduceNeg,Nat.reduceDiv,Nat.reduceMod,Nat.reducePow,Za,pl4,ql4,el4,dx2,ax2,bx2,cx2,ax3,bx3,cx3,hb0,hi0,hN0,hN,hbk]
    refine Za4 ⟨238,[],[(0,.ref b 0),(1,.val (.int .i64 s)),(2,.val (.int .i64 p)),(7,.ref n 0),(8,.val (.int .i64 (t.Kids.length:Int))),(18,.row (n+1) l4.length),(19,.val (.int .i64 s0_.1))]⟩ (Zw O n [some ⟨false,25,3,1,(Ze t)⟩,some ⟨true,58,1,l4.length,fl (eI .u64) l4⟩,none,none]) (Zk hU rfl rfl ?_) ?_
    ·simp only [push_cast,seval,↓reduceIte,Za,pl4,ql4,el4,hb0,hi0,hN0,hN,hbk]
    refine Zb Zc [] ?_
    simp only [push_cast,seval,↓reduceIte,Za,hb0,hi0,hN0,hN,hbk]
    have hs0_:=Option.some.inj hs0_;subst hs0_
    refine And.intro rfl (Fit2.of (Zk hU rfl rfl ?_) (by omega))
    simp only [push_cast,seval,↓reduceIte,Za,hb0,hi0,hN0,hN,hbk]
   replace hs0_:=Zz c5 hs0_
   refine X0 ?_
   try simp only [Zh,Zf,↓reduceIte,Nat.reduceEqDiff]
   have hs0_:=Option.some.inj hs0_;subst hs0_
   refine And.intro (fun h=>by cases h) (And.intro rfl (Fit2.of (Zk hU rfl rfl ?_) (by omega)))
   simp only [push_cast,seval,↓reduceIte,Za,hb0,hi0,hN0,hN,hbk]
  try simp only [Zh,Zf,↓reduceIte,Nat.reduceEqDiff]
  refine Za4 ⟨238,[],[(0,.ref b 0),(1,.val (.int .i64 s)),(2,.val (.int .i64 p)),(7,.ref n 0),(8,.val (.int .i64 (t.Kids.length:Int))),(18,.sl (ato t).length (fl (eI .u64) (ato t)))]⟩ (Zw O n [some ⟨false,25,3,1,(Ze t)⟩,none,none]) (Zk hU rfl rfl ?_) ?_
  ·simp only [push_cast,seval,↓reduceIte,Za,hb0,hi0,hN0,hN,hbk]
  have hL3:Zw O n [some ⟨false,25,3,1,(Ze t)⟩,none,none]=Z:=by
   rw [hZL]
   funext u
   unfold Zw
   by_cases hu:u < n
   ·rw [if_pos hu,if_pos hu]
   rw [if_neg hu,if_neg hu]
   match hx:u - n with
   | 0=>rfl
   | 1=>rfl
   | 2=>rfl
   | q+3=>rfl
  rw [hL3]
  clear hL3 hZL
  have hn1:n < n+3:=by omega
  have hb:b < n+3:=by omega
  have hi:i < n+3:=by omega
  have A1:BA size most Z (n+3) b i j L σ:=⟨A0.a.frame (fun _ _=>rfl) (by omega),hb,A0.ht,A0.ho⟩
  have F1:Fr (isB b) i j O n L Z (n+3) L:=⟨by omega,F0.off,F0.ter⟩
  have ew:Vp t=((Zkb (t.Kind - 2) (ato t)).length:Int):=by unfold Vp;rw [if_neg c1,if_neg c9,if_neg c8]
  have w0:IntKind.i64.wrap (t.Kind - 2)=t.Kind - 2:=X3 (by omega)
  refine Zj [0,1,2,7,8,20] (Zb Zc [] ?_)
  simp only [push_cast,seval,↓reduceIte,Za,hi,hb,hn1,hZn,w0]
  refine (Zns hput).then ?_
  simp only [push_cast,seval,↓reduceIte,Za,hi,hb,hn1,hZn]
  obtain ⟨V,hV⟩:∃ V,V=Zc3 (Ye size σ (Vp t)):=⟨_,rfl⟩
  have hVb:=Znk (k:=Vp t) hs
  have hfx:=Zpm (k:=Vp t) hs
  have hm1:∀ τ,(Ye size σ (Vp t)).map (fun r=>r.2.2)=some τ→Yj τ.1 s p 1=true:=fun τ e=>(hfx τ e).2 _ _ _ hsb
  have hfx1:∀ τ,(Ye size σ (Vp t)).map (fun r=>r.2.2)=some τ→Fx size most V (Vp t) τ:=fun τ e=>by rw [hV];exact (hfx τ e).1
  obtain ⟨O5,n5,L5,g5,A5,F5⟩:=Zm9 (Vp t) A1 hs
  rw [← hV] at hVb g5
  obtain ⟨q1,q2,q3⟩:=F5.keepB hn1 hnb hnt
  have ek:pkd t=1:=by unfold pkd;rw [if_neg c1]
  have eu:pup t=t.Kind - 2+8 * (t.Kids.length:Int):=by unfold pup;rw [if_neg c1,if_neg c9]
  have g5':=g5
  rw [ew] at g5'
  refine Zj [0,1,2,7,8,20,22,23] (Zb Zc [] ?_)
  simp only [push_cast,seval,↓reduceIte,Za,hi,hb,hn1,hZn]
  refine g5'.then ?_
  have hZn:=q1.trans hZn
  have hn1:=q2
  have hnt:=q3
  have F9:=F1.trans F5
  obtain ⟨hb,hi⟩:=A5.b_lt
  simp only [push_cast,seval,↓reduceIte,Za,hi,hb,hn1,hZn]
  refine Zx fun hU5 => ?_
  have u1:IntKind.u64.wrap (t.Kind - 2)=t.Kind - 2:=Q5 (by omega) (by omega)
  have u2:IntKind.u64.wrap (t.Kids.length:Int)=(t.Kids.length:Int):=Q5 (by omega) (by omega)
  have u3:IntKind.u64.wrap (8 * (t.Kids.length:Int))=8 * (t.Kids.length:Int):=Q5 (by omega) (by omega)
  have u4:IntKind.u64.wrap (t.Kind - 2+8 * (t.Kids.length:Int))=pup t:=by rw [eu];exact Q5 (by omega) (by omega)
  have hwl:(Zkb (t.Kind - 2) (ato t)).length≤200000:=by
   have q:=(Zuv (c:=t.Kind - 2) (ns:=ato t) (by omega) (by rw [Zki];omega) (fun n hn=>by
    obtain ⟨k,hk,rfl⟩:=List.mem_map.1 hn
    obtain ⟨w,hw,q0,_,q1⟩:=Zm7 hF hkd k hk
    rw [hw];exact ⟨q0,q1⟩)).2
   have:=Z2u (c:=t.Kind - 2) (by omega) (ato t).length
   rw [q,Zki] at *
   omega
  refine Zj [0,20,22,23] (Zb Zc [] ?_)
  simp only [push_cast,seval,↓reduceIte,Za,hi,hb,hn1,hZn,u1,u2,u3,u4,w0]
  refine (Zn7 A5 (s:=s) (p:=p) (k:=1) (u:=pup t) (q:=V.2) (hm:=V.1) (fun τ e=>⟨(hfx1 τ e).st,⟨by decide,by decide,by omega,by have a3:=(hfx1 τ e).v3;have a0:=(hfx1 τ e).k0;omega⟩,hm1 τ e,⟨(hfx1 τ e).v2,by have a3:=(hfx1 τ e).v3;have a0:=(hfx1 τ e).k0;omega⟩,⟨(hfx1 τ e).v1,by omega⟩⟩)).mono fun r O6 n6 hE => ?_
  obtain ⟨L6,rfl,F6,A6⟩:=hE
  have F9:=F9.trans F6
  obtain ⟨q1,q2,q3⟩:=F6.keepB hn1 hnb hnt
  have hZn:=q1.trans hZn
  have hn1:=q2
  have hnt:=q3
  obtain ⟨hb,hi⟩:=A6.b_lt
  simp only [push_cast,seval,↓reduceIte,Za,hi,hb,hn1,hZn]
  refine Zx fun hU6 => ?_
  have hfx2:=Ztj (s:=s) (p:=p) (k:=1) (u:=pup t) (hm:=V.1) (q:=V.2) hfx1
  refine Zx7 ?_
  refine Zb Zc [] ?_
  simp only [push_cast,seval,↓reduceIte,Za,hi,hb,hn1,hZn]
  refine (Zxn A6 (s:=V.1) (p:=V.2) (ws:=Zkb (t.Kind - 2) (ato t)) (by omega) (fun τ e=>⟨⟨(hfx2 τ e).v2,by have:=(hfx2 τ e).v3;omega⟩,.inl (Zdz (hfx2 τ e).hb (Int.le_refl _) (by omega) (by omega))⟩)).mono fun r O6 n6 hE => ?_
  obtain ⟨L6,rfl,F6,A6⟩:=hE
  have F9:=F9.trans F6
  simp only [push_cast,seval,↓reduceIte,Za,hi,hb,hn1,hZn]
  intro hU9
  have hEQ:((Ye size σ (Vp t)).bind fun r=>(K6 size r.2.2 s p (pkd t) (pup t) r.1 r.2.1).bind fun τ=>inT false (Jk false size N) r.1 r.2.1 t τ)=((((Ye size σ (Vp t)).map fun r=>r.2.2).bind fun σ=>K6 size σ s p 1 (pup t) V.1 V.2).map fun σ=>((Yn σ.1 V.1 V.2 (Zkb (t.Kind - 2) (ato t)),σ.2):SG)):=by
   rw [hV,ek]
   cases Ye size σ (Vp t) with
   | none=>rfl
   | some r =>
    show (K6 size r.2.2 s p 1 (pup t) r.1 r.2.1).bind _=_
    simp only [Option.map_some,Option.bind_some,Zc3]
    cases K6 size r.2.2 s p 1 (pup t) r.1 r.2.1 with
    | none=>rfl
    | some ρ=>show inT false (Jk false size N) r.1 r.2.1 t ρ=_;unfold inT;rw [if_neg c1,if_neg c8,if_neg c9];rfl
  try simp only [Zh,Zf,↓reduceIte,Nat.reduceEqDiff]
  show Zm5 _ _ _ _ .normal _ _ _
  refine ⟨.tup [],O6,n6,F9.le,⟨L6,rfl,F9,?_⟩,?_⟩
  ·have e9:Jk false size (N+1) t s p σ=_:=eqL
   rw [e9,hEQ]
   exact A6
  refine Zu (P:=Try.prog) (.inl rfl) hU9 [] F9.le ?_
  simp only [push_cast,seval,↓reduceIte,Za,Try.results30]
theorem Z6y {l:List (List Int)} (h16:l.length≤16) (h:∀ t∈l,(t.length:Int)≤131072):WO l:=⟨by omega,fun x hx=>by have:=h x hx;omega⟩
theorem Z49 (L:List NR):fl eM (L.map fun x=>(some x.1,x.2))=fl eN L:=by
 induction L with
 | nil=>rfl
 | cons x L ih =>
  show eM (some x.1,x.2)++fl eM (L.map fun x=>(some x.1,x.2))=eN x++fl eN L
  rw [ih];rfl
theorem Zyx {O:Objs} {n i j:Nat} {L:List NR} {size left:Int} {r:List (List Int)} (h:PX (HP j size left) O n i j L) (hr:L.map (·.2)=r) (hw:WO r):GTo Try.prog 11 [.ref i 0] O n (.sl r.length (fl (eL (eI .u64)) r)) O n:=by
 have e1:(L.map fun x=>((some x.1:Option Nat),x.2)).map (·.2)=r:=by rw [← hr,List.map_map];rfl
 have e2:(L.map fun x=>((some x.1:Option Nat),x.2)).length=L.length:=List.length_map _
 refine Z1m (L:=L.map fun x=>(some x.1,x.2)) (j:=j) (size:=size) (left:=left) h.hi (by rw [e2];exact h.ho) h.hj (by rw [e2,Z49];exact h.hoj) (fun x hx v hv => ?_) (by rw [e1];exact Z12 hw)
 obtain ⟨y,hy,rfl⟩:=List.mem_map.1 hx
 have:=Option.some.inj hv;subst this
 exact ⟨h.lt y hy,h.hL y hy⟩
theorem Z4w {Z:Objs} {j:Nat} {L:List NR} {r:List (List Int)} (hj:Z j=some ⟨true,22,1,L.length,fl eN L⟩) (h:∀ x∈L,Z x.1=some ⟨true,58,1,x.2.length,fl (eI .u64) x.2⟩) (hr:L.map (·.2)=r):wk Z Qp 0 (.row j L.length) (.sl r.length (fl (eL (eI .u64)) r)):=by
 subst hr
 unfold wk
 exact ⟨by rw [List.length_map],rfl,_,hj,rfl,rfl,Zuu L h⟩
theorem Zyw {O:Objs} {n j:Nat} {L:List NR} {r:List (List Int)} (hj:O j=some ⟨true,22,1,L.length,fl eN L⟩) (h:∀ x∈L,O x.1=some ⟨true,58,1,x.2.length,fl (eI .u64) x.2⟩) (hr:L.map (·.2)=r) (hw:WO r):GTo Try.prog 10 [.sl r.length (fl (eL (eI .u64)) r),.row j L.length] O n (.val (.bool true)) O n :=
 GCalls.lend (Zly (Z2y hw)) rfl (by
  unfold Kt
  refine ⟨_,_,rfl,Zpo _ (by show G.unders 0 _=true;exact Xn _ _ (Yt Qc r)),?_⟩
  unfold Kt
  exact ⟨_,_,rfl,Z4w hj h hr,Kg rfl⟩) ⟨rfl,rfl,rfl⟩
theorem GCalls.less {P:Program} {f:FuncId} {gs gs':List G} {O O2:Objs} {n:Nat} {K:G→Objs→Nat→Prop} (h:GCalls P f gs' O2 n K) (hL:LessO O O2 n) (hw:Kt O O2 n gs gs'):GCalls P f gs O n K:=by
 refine ⟨h.1,fun w m vs hM hr=>(h.2 w m vs (hM.weak hL) (Qx hM hL _ _ hr _ hw)).mono fun e w' ⟨v,g,O',n',m',h1,h2,h3,h4,h5⟩=>⟨v,g,O',n',m',h1,h2,⟨h3.os,h3.tape,h3.output,h3.size,h3.more,fun b hb ho=>h3.keep b hb (fun q=>ho (hL.owns q)),fun i hi o' ho' => ?_⟩,h4,h5⟩⟩
 obtain ⟨o2,k1,k2,k3,k4⟩:=h3.stay i hi o' ho'
 obtain ⟨o,a1,a2,_,_,a5,_⟩:=hL.obj i o2 k1
 exact ⟨o,a1,k2.trans a2,by omega,fun e=>k4 (by rcases e with e | e;exact .inl (by omega);exact .inr e)⟩
def szB (size:Int):Int:=if size < 1 then 1 else size
def Q3 (most:Int):Int:=if 131072 < (if most < 0 then 0 else most) then 131072 else (if most < 0 then 0 else most)
theorem Zvv (most:Int):0≤Q3 most∧Q3 most≤131072:=by
 have key:∀ k:Int,0≤k→0≤(if 131072 < k then 131072 else k)∧(if 131072 < k then 131072 else k)≤131072:=fun k h=>by
  by_cases c:131072 < k
  ·rw [if_pos c];exact ⟨by omega,Int.le_refl _⟩
  rw [if_neg c];exact ⟨h,Int.not_lt.1 c⟩
 refine key _ ?_
 by_cases c:most < 0
 ·rw [if_pos c];exact Int.le_refl _
 rw [if_neg c];exact Int.not_lt.1 c
noncomputable def Zf4 (o:Bool) (t:Tr) (size most:Int):Option SG :=
 if t.Kind=10∨rt t 64=false then none else (Ye (szB size) ([],Q3 most) 1).bind fun r=>Jk o (szB size) (SizeOf.sizeOf (nrm t)+1) (nrm t) r.1 r.2.1 r.2.2
theorem Zuo (size most:Int):St (szB size) (Q3 most) ([],Q3 most):=⟨Nat.zero_le _,(Zvv most).1,Int.le_refl _,(Zvv most).2,fun x hx=>by cases hx⟩
theorem Zu4 {t:Tr} (hb:Bd t) (hp:pt t≤200000) (size most:Int):Zf4 true t size most=Zf4 false t size most:=by
 unfold Zf4
 by_cases c:t.Kind=10∨rt t 64=false
 ·rw [if_pos c,if_pos c]
 rw [if_neg c,if_neg c]
 have hr:rt t 64=true:=by
  cases h:rt t 64 with
  | true=>rfl
  | false=>exact absurd (.inr h) c
 have hF:Fine (nrm t) 64:=Fine.nrm ⟨hb,hr,hp⟩
 cases hg:Ye (szB size) ([],Q3 most) 1 with
 | none=>rw [Option.bind_none,Option.bind_none]
 | some r =>
  have g:=Jq (Zuo size most) hg
  rw [Option.bind_some,Option.bind_some]
  exact Zqa (szB size) (Q3 most) _ (nrm t) 64 (Nat.lt_succ_self _) hF (by rw [U6];exact fun h=>c (.inl h)) r.1 r.2.1 r.2.2 g.2.2.2.2.1 (Ua g.2.2.2.2.2.2.1 (Int.le_refl _) (by omega))
theorem Z39 {o:Bool} {t:Tr} {size most:Int} {τ:SG} (h:Zf4 o t size most=some τ):St (szB size) (Q3 most) τ:=by
 unfold Zf4 at h
 split at h
 ·cases h
 cases hg:Ye (szB size) ([],Q3 most) 1 with
 | none=>rw [hg] at h;cases h
 | some r =>
  rw [hg] at h
  have g:=Jq (Zuo size most) hg
  exact ((Zdd o (szB size) (Q3 most) _ _ _ _ _ g.2.2.2.2.1).1 τ h).1
def Z6z (res:Option SG) (O:Objs) (n:Nat) (size most:Int) (r:G) (O':Objs) (n':Nat):Prop :=
 n≤n'∧(∀ u,u < n→O' u=O u)∧match res with
  | none=>r = .tup [.val (.pointer none),.val (.bool false)]
  | some τ=>∃ i j L,r = .tup [.ref i 0,.val (.bool true)]∧AP (szB size) O' n' i j L τ∧∀ u,ter i j L u→n≤u
theorem Z4i {O:Objs} {n:Nat} (hU:Und O n) (size most:Int):GTo Try.prog 23 [.val (.int .i64 size),.val (.int .i64 most)] O n (.ref n 0) (Zw O n [some (HP (n+1) (szB size) (Q3 most) 0),some ⟨true,22,1,0,[]⟩]) (n+2) :=
 Zt8 (r:=⟨[],szB size,Q3 most⟩) rfl
theorem Z0r {O:Objs} {n:Nat} (hU:Und O n) (H:Nat→GObj):PX H (Zw O n [some (H 0),some ⟨true,22,1,0,[]⟩]) (n+2) n (n+1) [] :=
 ⟨by omega,by omega,by omega,by rw [Zal];rfl,by rw [Vq];rfl,fun x hx=>(by cases hx),fun x hx=>(by cases hx),fun x hx=>(by cases hx),fun x hx=>(by cases hx),List.nodup_nil⟩
theorem Zc8 {i j u:Nat} (h:ter i j [] u):u=i∨u=j:=by
 rcases h with h | h | ⟨y,hy,_⟩
 ·exact .inl h
 ·exact .inr h
 cases hy
theorem Zu6 {O:Objs} {n:Nat} {t:Tr} (hbd:Bd t) (hpt:pt t≤200000) (size most:Int) :
  GCalls Try.prog 8 [.agg (Ze t),.val (.int .i64 size),.val (.int .i64 most)] O n (Z6z (Zf4 true t size most) O n size most):=by
 have hright:=Z1b hbd
 have hnorm:=Z2i hbd
 refine Zar Zc Try.call8 Try.func8 rfl (Nat.le_of_ble_eq_true rfl) fun hU => ?_
 have hN0:O n=none:=hU.fresh _ (Nat.le_refl _)
 have hN:∀ k,O (n+k)=none:=fun k=>hU.fresh _ (Nat.le_add_right _ _)
 show Go.Proofs.Ytaddaloondpnkaa.W _ _ _ _ ⟨44,[],[(0,.agg (Ze t)),(1,.val (.int .i64 size)),(2,.val (.int .i64 most))]⟩ (Zw O n []) _
 rw [Yh hU.fresh]
 refine Zj [1,2,3] (Zb Zc [] ?_)
 simp only [push_cast,seval,↓reduceIte,Za,hN0,hN]
 obtain ⟨Z,hZ⟩:∃ Z,Z=O.upd n (some ⟨false,25,3,1,Ze t⟩):=⟨_,rfl⟩
 have hZn:Z n=some ⟨false,25,3,1,Ze t⟩:=by rw [hZ];exact Zo _ _ _
 have hZo:∀ u,u < n→Z u=O u:=fun u hu=>by rw [hZ];exact Zn _ _ (by omega)
 have hZ2:=hZ
 simp only [push_cast] at hZ2 hZn
 rw [← hZ2]
 have hn1:n < n+1:=Nat.lt_succ_self n
 refine Zx fun hUZ => ?_
 refine Zi ?_
 by_cases cc:t.Kind=10∨rt t 64=false
 ·have eB:Zf4 true t size most=none:=by unfold Zf4;rw [if_pos cc]
  refine Yk (E':=⟨44,[],[(1,.val (.int .i64 size)),(2,.val (.int .i64 most)),(3,.ref n 0),(19,.val (.bool true))]⟩) (O':=Z) (n0:=n+1) ?_ ?_
  ·by_cases c10:t.Kind=10
   ·have d1:(t.Kind == 10)=true:=Zm8 c10
    refine Zb Zc (Z4k []) ?_
    simp only [push_cast,seval,↓reduceIte,Za,hn1,hZn,d1]
    refine And.intro rfl (Yf hUZ (Nat.le_succ n) rfl ?_)
    simp only [push_cast,seval,↓reduceIte,Za,hn1,hZn]
   have d1:(t.Kind == 10)=false:=Zom c10
   have hr:rt t 64=false:=cc.resolve_left c10
   rw [hr] at hright
   refine Zb Zc (Zzp []) ?_
   simp only [push_cast,seval,↓reduceIte,Za,hn1,hZn,d1]
   refine (Zk8 hright).then ?_
   simp only [push_cast,seval,↓reduceIte,Za,hn1,hZn,d1]
   refine And.intro rfl (Yf hUZ (Nat.le_succ n) rfl ?_)
   simp only [push_cast,seval,↓reduceIte,Za,hn1,hZn]
  refine Zl (t:=true) rfl (fun c15 => ?_) (fun c15=>by cases c15)
  refine Zj [6,7] (Zb Zc [] ?_)
  simp only [push_cast,seval,↓reduceIte,Za]
  refine Zs ?_
  try simp only [Zh,Zf]
  refine ⟨.tup [.val (.pointer none),.val (.bool false)],Z,n+1,Nat.le_succ n,⟨Nat.le_succ n,hZo,by rw [eB]⟩,?_⟩
  refine Zu (P:=Try.prog) (.inr rfl) hUZ [.val (.pointer none),.val (.bool false)] (Nat.le_succ n) ?_
  simp only [push_cast,seval,↓reduceIte,Za,Try.results8]
 have c10:¬ t.Kind=10:=fun h=>cc (.inl h)
 have hr:rt t 64=true:=by
  cases h:rt t 64 with
  | true=>rfl
  | false=>exact absurd (.inr h) cc
 have eB:Zf4 true t size most=(Ye (szB size) ([],Q3 most) 1).bind fun r=>Jk true (szB size) (SizeOf.sizeOf (nrm t)+1) (nrm t) r.1 r.2.1 r.2.2:=by unfold Zf4;rw [if_neg cc]
 have hF:Fine (nrm t) 64:=Fine.nrm ⟨hbd,hr,hpt⟩
 have d1:(t.Kind == 10)=false:=Zom c10
 rw [hr] at hright
 have hs0:=Zuo size most
 refine Zj [1,2,3,19] (Zb Zc (Zzp []) ?_)
 simp only [push_cast,seval,↓reduceIte,Za,hn1,hZn,d1]
 refine (Zk8 hright).then ?_
 simp only [push_cast,seval,↓reduceIte,Za,hn1,hZn,d1]
 refine Zl (t:=false) rfl (fun c15=>by cases c15) (fun c15 => ?_)
 refine Zp ?_
 try simp only [Zh,Zf]
 obtain ⟨X,hX⟩:∃ X,X=Zw Z (n+1) [some (HP (n+1+1) (szB size) (Q3 most) 0),some ⟨true,22,1,0,[]⟩]:=⟨_,rfl⟩
 have hXpx:PX (HP (n+1+1) (szB size) (Q3 most)) X (n+3) (n+1) (n+1+1) []:=by rw [hX];exact Z0r hUZ _
 have hXo:∀ u,u < n+1→X u=Z u:=fun u hu=>by rw [hX];exact Jz _ hu
 have hXU:X (n+3)=none:=by rw [hX,show n+3=n+1+2 by omega,Vq];rfl
 refine Zj [3,8] (Zb Zc [] ?_)
 simp only [push_cast,seval,↓reduceIte,Za,hn1,hZn]
 have gn:=Z4i hUZ size most
 rw [← hX] at gn
 refine GTo.then gn ?_
 simp only [push_cast,seval,↓reduceIte,Za,hn1,hZn]
 obtain ⟨Y,hY⟩:∃ Y,Y=X.upd (n+3) (some ⟨false,61,1,1,[.ref (n+1) 0]⟩):=⟨_,rfl⟩
 rw [← hY]
 have A4:AP (szB size) Y (n+4) (n+1) (n+1+1) [] ([],Q3 most):=⟨hXpx.frame (fun u hu=>by rw [hY];exact Zn _ _ (by rcases Zc8 hu with h | h <;> omega)) (by omega),rfl⟩
 have hYn:Y n=some ⟨false,25,3,1,Ze t⟩:=by rw [hY,Zn _ _ (by omega),hXo _ (by omega)];exact hZn
 have hY3:Y (n+3)=some ⟨false,61,1,1,[.ref (n+1) 0]⟩:=by rw [hY];exact Zo _ _ _
 have hYo:∀ u,u < n→Y u=O u:=fun u hu=>by rw [hY,Zn _ _ (by omega),hXo _ (by omega)];exact hZo u hu
 simp only [push_cast] at hYn
 have ht0:¬ ter (n+1) (n+1+1) [] n:=fun q=>by rcases Zc8 q with h | h <;> omega
 have ht3:¬ ter (n+1) (n+1+1) [] (n+3):=fun q=>by rcases Zc8 q with h | h <;> omega
 have htu:∀ u,u < n→¬ ter (n+1) (n+1+1) [] u:=fun u hu q=>by rcases Zc8 q with h | h <;> omega
 have hn1:n < n+4:=by omega
 have hn3:n+3 < n+4:=by omega
 have hi:n+1 < n+4:=by omega
 refine Zj [3,8,9,10,11] (Zb Zc [] ?_)
 simp only [push_cast,seval,↓reduceIte,Za,hi,hn1,hn3,hYn,hY3]
 cases hg:Ye (szB size) ([],Q3 most) 1 with
 | none =>
  rw [hg,Option.bind_none] at eB
  obtain ⟨ga,gb,O9,n9,L9,g5,F9⟩:=Zoj A4 hs0 hg
  have m9:n≤n9:=Nat.le_trans (by omega) F9.le
  refine g5.then ?_
  obtain ⟨q1,q2,q3⟩:=F9.keep hn1 (fun q=>q) ht0
  obtain ⟨v1,v2,v3⟩:=F9.keep hn3 (fun q=>q) ht3
  have hYn:=q1.trans hYn
  have hY3:=v1.trans hY3
  simp only [push_cast,seval,↓reduceIte,Za,q2,v2,hYn,hY3]
  refine Zx fun hU9 => ?_
  refine Zi ?_
  refine Zj [41] (Y2 Zc (by kernel_rfl) (Zzo []) (Xz (by kernel_rfl)) ?_)
  simp only [push_cast,seval,↓reduceIte,Za,q2,v2,hYn,hY3]
  refine Zl (t:=true) rfl (fun c15 => ?_) (fun c15=>by cases c15)
  refine Zj [6,7] (Zb Zc [] ?_)
  simp only [push_cast,seval,↓reduceIte,Za]
  refine Zs ?_
  try simp only [Zh,Zf]
  refine ⟨.tup [.val (.pointer none),.val (.bool false)],O9,n9,m9,⟨m9,fun u hu=>(F9.off u (by omega) (fun q=>q) (htu u hu)).trans (hYo u hu),by rw [eB]⟩,?_⟩
  refine Zu (P:=Try.prog) (.inr rfl) hU9 [.val (.pointer none),.val (.bool false)] m9 ?_
  simp only [push_cast,seval,↓reduceIte,Za,Try.results8]
 | some r =>
  rw [hg,Option.bind_some] at eB
  have g:=Jq hs0 hg
  obtain ⟨O5,n5,L5,g5,A5,F5⟩:=Zok A4 hs0 hg
  refine g5.then ?_
  obtain ⟨q1,q2,q3⟩:=F5.keep hn1 (fun q=>q) ht0
  obtain ⟨v1,v2,v3⟩:=F5.keep hn3 (fun q=>q) ht3
  have hYn:=q1.trans hYn
  have hY3:=v1.trans hY3
  have hi:=A5.1.hi
  simp only [push_cast,seval,↓reduceIte,Za,hi,q2,v2,hYn,hY3]
  refine Zx fun hU5 => ?_
  refine Zi ?_
  refine Zj [3,8,41] (Zcb Zc (by kernel_rfl) [.plain,.plain,.plain,.plain,.plain,.plain,.plain,.plain,.bar,.plain,.plain] (fun _=>True) [0,1,2,3,4,5,6,7,8,9,10] [.plain,.plain,.plain,.plain,.plain,.plain,.plain,.plain,.bar,.plain,.plain] (Zzq []) (by kernel_rfl) rfl ?_)
  simp only [push_cast,seval,↓reduceIte,Za,hi,q2,v2,hYn,hY3]
  refine PCall.of (Zub hnorm) ?_
  simp only [push_cast,seval,↓reduceIte,Za,hi,q2,v2,hYn,hY3]
  refine (@Zqn (szB size) (Q3 most) (SizeOf.sizeOf (nrm t)+1) (nrm t) 64 (Nat.lt_succ_self _) hF (by rw [U6];exact c10) O5 n5 (n+1) (n+1+1) L5 r.2.2 r.1 r.2.1 A5 g.2.2.2.2.1 (Ua g.2.2.2.2.2.2.1 (Int.le_refl _) (by omega))).mono fun r' O9 n9 hE => ?_
  obtain ⟨L9,F9,hres⟩:=hE
  obtain ⟨p1,p2,p3⟩:=F9.keep q2 (fun q=>q) q3
  obtain ⟨w1,w2,w3⟩:=F9.keep v2 (fun q=>q) v3
  have hYn:=p1.trans hYn
  have hY3:=w1.trans hY3
  have F59:=F5.trans F9
  have m9:n≤n9:=Nat.le_trans (by omega) F59.le
  have ho9:∀ u,u < n→O9 u=O u:=fun u hu=>(F59.off u (by omega) (fun q=>q) (htu u hu)).trans (hYo u hu)
  cases ec:Jk true (szB size) (SizeOf.sizeOf (nrm t)+1) (nrm t) r.1 r.2.1 r.2.2 with
  | none =>
   rw [ec] at hres eB
   subst hres
   simp only [push_cast,seval,↓reduceIte,Za,p2,w2,hYn,hY3]
   refine Zx fun hU9 => ?_
   refine Zl (t:=true) rfl (fun c15 => ?_) (fun c15=>by cases c15)
   refine Zj [6,7] (Zb Zc [] ?_)
   simp only [push_cast,seval,↓reduceIte,Za]
   refine Zs ?_
   try simp only [Zh,Zf]
   refine ⟨.tup [.val (.pointer none),.val (.bool false)],O9,n9,m9,⟨m9,ho9,by rw [eB]⟩,?_⟩
   refine Zu (P:=Try.prog) (.inr rfl) hU9 [.val (.pointer none),.val (.bool false)] m9 ?_
   simp only [push_cast,seval,↓reduceIte,Za,Try.results8]
  | some ρ =>
   rw [ec] at hres eB
   obtain ⟨rfl,A9⟩:=hres
   have hi:=A9.1.hi
   simp only [push_cast,seval,↓reduceIte,Za,hi,p2,w2,hYn,hY3]
   refine Zx fun hU9 => ?_
   refine Zl (t:=false) rfl (fun c15=>by cases c15) (fun c15 => ?_)
   refine Zp ?_
   try simp only [Zh,Zf]
   refine Zj [6,7] (Zb Zc [] ?_)
   simp only [push_cast,seval,↓reduceIte,Za,hi,p2,w2,hYn,hY3]
   refine Zs ?_
   try simp only [Zh,Zf]
   refine ⟨.tup [.ref (n+1) 0,.val (.bool true)],O9,n9,m9,⟨m9,ho9,by rw [eB];exact ⟨n+1,n+1+1,L9,rfl,A9,fun u hu=>by rcases F59.ter u hu with q | q;rcases Zc8 q with h | h <;> omega;omega⟩⟩,?_⟩
   refine Zu (P:=Try.prog) (.inr rfl) hU9 [.ref (n+1) 0,.val (.bool true)] m9 ?_
   simp only [push_cast,seval,↓reduceIte,Za,hi,Try.results8]
def Z60 (res:Option SG) (O:Objs) (n:Nat) (size most:Int) (r:G) (O':Objs) (n':Nat):Prop :=
 n≤n'∧(∀ u,u < n→O' u=O u)∧match res with
  | none=>r = .tup [.val (.slice none 0 0),.val (.bool false)]
  | some τ=>∃ i j L,r = .tup [.row j L.length,.val (.bool true)]∧AR (szB size) (Q3 most) O' n' i j L τ
theorem Z4v (size most:Int):Uu size most=some ⟨[],szB size,Q3 most,0⟩:=by
 unfold Uu szB Q3
 by_cases c1:size < 1
 ·rw [decide_eq_true c1,cond_true,Option.bind_some,if_pos c1]
  by_cases c2:most < 0
  ·rw [decide_eq_true c2,cond_true,Option.bind_some,if_pos c2,decide_eq_false (by omega),cond_false,Option.bind_some,if_neg (by omega)]
  rw [decide_eq_false c2,cond_false,Option.bind_some,if_neg c2]
  by_cases c3:131072 < most
  ·rw [decide_eq_true c3,cond_true,Option.bind_some,if_pos c3]
  rw [decide_eq_false c3,cond_false,Option.bind_some,if_neg c3]
 rw [decide_eq_false c1,cond_false,Option.bind_some,if_neg c1]
 by_cases c2:most < 0
 ·rw [decide_eq_true c2,cond_true,Option.bind_some,if_pos c2,decide_eq_false (by omega),cond_false,Option.bind_some,if_neg (by omega)]
 rw [decide_eq_false c2,cond_false,Option.bind_some,if_neg c2]
 by_cases c3:131072 < most
 ·rw [decide_eq_true c3,cond_true,Option.bind_some,if_pos c3]
 rw [decide_eq_false c3,cond_false,Option.bind_some,if_neg c3]
theorem Z4j {O:Objs} {n:Nat} (hU:Und O n) (size most:Int):GTo Try.prog 28 [.val (.int .i64 size),.val (.int .i64 most)] O n (.ref n 0) (Zw O n [some (HR (n+1) (szB size) (Q3 most) 0 0),some ⟨true,22,1,0,[]⟩]) (n+2) :=
 Znt (r:=⟨[],szB size,Q3 most,0⟩) (Z4v size most)
theorem Ztb {O:Objs} {n:Nat} {t:Tr} (hbd:Bd t) (hpt:pt t≤200000) (size most:Int) :
  GCalls Try.prog 9 [.agg (Ze t),.val (.int .i64 size),.val (.int .i64 most)] O n (Z60 (Zf4 false t size most) O n size most):=by
 have hright:Gp t 64=some (rt t 64):=Zzz hbd (d:=64) (Nat.le_refl _)
 have hnorm:=Z1f hbd
 refine Zar Zc Try.call9 Try.func9 rfl (Nat.le_of_ble_eq_true rfl) fun hU => ?_
 have hN0:O n=none:=hU.fresh _ (Nat.le_refl _)
 have hN:∀ k,O (n+k)=none:=fun k=>hU.fresh _ (Nat.le_add_right _ _)
 show Go.Proofs.Ytaddaloondpnkaa.W _ _ _ _ ⟨51,[],[(0,.agg (Ze t)),(1,.val (.int .i64 size)),(2,.val (.int .i64 most))]⟩ (Zw O n []) _
 rw [Yh hU.fresh]
 refine Zj [1,2,3] (Zb Zc [] ?_)
 simp only [push_cast,seval,↓reduceIte,Za,hN0,hN]
 obtain ⟨Z,hZ⟩:∃ Z,Z=O.upd n (some ⟨false,25,3,1,Ze t⟩):=⟨_,rfl⟩
 have hZn:Z n=some ⟨false,25,3,1,Ze t⟩:=by rw [hZ];exact Zo _ _ _
 have hZo:∀ u,u < n→Z u=O u:=fun u hu=>by rw [hZ];exact Zn _ _ (by omega)
 have hZ2:=hZ
 simp only [push_cast] at hZ2 hZn
 rw [← hZ2]
 have hn1:n < n+1:=Nat.lt_succ_self n
 refine Zx fun hUZ => ?_
 refine Zi ?_
 by_cases cc:t.Kind=10∨rt t 64=false
 ·have eB:Zf4 false t size most=none:=by unfold Zf4;rw [if_pos cc]
  refine Yk (E':=⟨51,[],[(1,.val (.int .i64 size)),(2,.val (.int .i64 most)),(3,.ref n 0),(18,.val (.bool true))]⟩) (O':=Z) (n0:=n+1) ?_ ?_
  ·cases hr:rt t 64 with
   | false =>
    rw [hr] at hright
    refine Zb Zc (Z4k []) ?_
    simp only [push_cast,seval,↓reduceIte,Za,hn1,hZn]
    refine (U2 hright).then ?_
    simp only [push_cast,seval,↓reduceIte,Za,hn1,hZn]
    refine And.intro rfl (Yf hUZ (Nat.le_succ n) rfl ?_)
    simp only [push_cast,seval,↓reduceIte,Za,hn1,hZn]
   | true =>
    rw [hr] at hright
    have c10:t.Kind=10:=cc.resolve_right (by rw [hr];decide)
    have d1:(t.Kind == 10)=true:=Zm8 c10
    refine Zb Zc (Zzp []) ?_
    simp only [push_cast,seval,↓reduceIte,Za,hn1,hZn,d1]
    refine (U2 hright).then ?_
    simp only [push_cast,seval,↓reduceIte,Za,hn1,hZn,d1]
    refine And.intro rfl (Yf hUZ (Nat.le_succ n) rfl ?_)
    simp only [push_cast,seval,↓reduceIte,Za,hn1,hZn]
  refine Zl (t:=true) rfl (fun c15 => ?_) (fun c15=>by cases c15)
  refine Zj [6,7] (Zb Zc [] ?_)
  simp only [push_cast,seval,↓reduceIte,Za]
  refine Zs ?_
  try simp only [Zh,Zf]
  refine ⟨.tup [.val (.slice none 0 0),.val (.bool false)],Z,n+1,Nat.le_succ n,⟨Nat.le_succ n,hZo,by rw [eB]⟩,?_⟩
  refine Zu (P:=Try.prog) (.inr rfl) hUZ [.val (.slice none 0 0),.val (.bool false)] (Nat.le_succ n) ?_
  simp only [push_cast,seval,↓reduceIte,Za,Try.results9]
 have c10:¬ t.Kind=10:=fun h=>cc (.inl h)
 have hr:rt t 64=true:=by
  cases h:rt t 64 with
  | true=>rfl
  | false=>exact absurd (.inr h) cc
 have eB:Zf4 false t size most=(Ye (szB size) ([],Q3 most) 1).bind fun r=>Jk false (szB size) (SizeOf.sizeOf (nrm t)+1) (nrm t) r.1 r.2.1 r.2.2:=by unfold Zf4;rw [if_neg cc]
 have hF:Fine (nrm t) 64:=Fine.nrm ⟨hbd,hr,hpt⟩
 have d1:(t.Kind == 10)=false:=Zom c10
 rw [hr] at hright
 have hs0:=Zuo size most
 refine Zj [1,2,3,18] (Zb Zc (Zzp []) ?_)
 simp only [push_cast,seval,↓reduceIte,Za,hn1,hZn,d1]
 refine (U2 hright).then ?_
 simp only [push_cast,seval,↓reduceIte,Za,hn1,hZn,d1]
 refine Zl (t:=false) rfl (fun c15=>by cases c15) (fun c15 => ?_)
 refine Zp ?_
 try simp only [Zh,Zf]
 obtain ⟨X,hX⟩:∃ X,X=Zw Z (n+1) [some (HR (n+1+1) (szB size) (Q3 most) 0 0),some ⟨true,22,1,0,[]⟩]:=⟨_,rfl⟩
 have hXpx:PX (HR (n+1+1) (szB size) (Q3 most) 0) X (n+3) (n+1) (n+1+1) []:=by rw [hX];exact Z0r hUZ _
 have hXo:∀ u,u < n+1→X u=Z u:=fun u hu=>by rw [hX];exact Jz _ hu
 have hXU:X (n+3)=none:=by rw [hX,show n+3=n+1+2 by omega,Vq];rfl
 refine Zj [3,8] (Zb Zc [] ?_)
 simp only [push_cast,seval,↓reduceIte,Za,hn1,hZn]
 have gn:=Z4j hUZ size most
 rw [← hX] at gn
 refine GTo.then gn ?_
 simp only [push_cast,seval,↓reduceIte,Za,hn1,hZn]
 obtain ⟨Y,hY⟩:∃ Y,Y=X.upd (n+3) (some ⟨false,71,2,1,[.ref (n+1) 0,.val (.bool true)]⟩):=⟨_,rfl⟩
 rw [← hY]
 have A4:BA (szB size) (Q3 most) Y (n+4) (n+3) (n+1) (n+1+1) [] ([],Q3 most):=⟨⟨by rw [show Q3 most - ((([]:List (List Int)),Q3 most):SG).2=0 from Int.sub_self _];exact hXpx.frame (fun u hu=>by rw [hY];exact Zn _ _ (by rcases Zc8 hu with h | h <;> omega)) (by omega),rfl⟩,by omega,fun q=>by rcases Zc8 q with h | h <;> omega,by rw [hY];exact Zo _ _ _⟩
 have hYn:Y n=some ⟨false,25,3,1,Ze t⟩:=by rw [hY,Zn _ _ (by omega),hXo _ (by omega)];exact hZn
 have hYo:∀ u,u < n→Y u=O u:=fun u hu=>by rw [hY,Zn _ _ (by omega),hXo _ (by omega)];exact hZo u hu
 simp only [push_cast] at hYn
 have ht0:¬ ter (n+1) (n+1+1) [] n:=fun q=>by rcases Zc8 q with h | h <;> omega
 have htu:∀ u,u < n→¬ ter (n+1) (n+1+1) [] u:=fun u hu q=>by rcases Zc8 q with h | h <;> omega
 have hn1:n < n+4:=by omega
 have hn3:n+3 < n+4:=by omega
 have hnb:n≠n+3:=by omega
 obtain ⟨O5,n5,L5,g5,A5,F5⟩:=Zm9 1 A4 hs0
 refine Zj [3,8,9,10] (Zb Zc [] ?_)
 simp only [push_cast,seval,↓reduceIte,Za,hn1,hn3,hYn]
 refine g5.then ?_
 obtain ⟨q1,q2,q3⟩:=F5.keepB hn1 hnb ht0
 have hYn:=q1.trans hYn
 obtain ⟨hb,hi⟩:=A5.b_lt
 have hob:=A5.ho
 simp only [push_cast,seval,↓reduceIte,Za,hi,hb,q2,hYn]
 refine Zx fun hU5 => ?_
 refine Zwt ⟨51,[],[(8,.ref (n+3) 0)]⟩ (fun Z m=>∃ M,BO (szB size) (Q3 most) Z m (n+3) (n+1) (n+1+1) M (Zf4 false t size most)∧Fr (isB (n+3)) (n+1) (n+1+1) Y (n+4) [] Z m M) ?_ ?_
 ·cases hg:Ye (szB size) ([],Q3 most) 1 with
  | none =>
   rw [hg,Option.bind_none] at eB
   rw [hg] at A5 hob
   simp only [Option.map_none,Zkc] at A5 hob
   refine Zj [3,8,32] (Zb Zc [] ?_)
   simp only [push_cast,seval,↓reduceIte,Za,hi,hb,q2,hob]
   refine Zl (t:=false) rfl (fun c15=>by cases c15) (fun c15 => ?_)
   refine Zp ?_
   refine .inl ⟨rfl,O5,n5,⟨L5,by rw [eB];exact A5,F5⟩,Yf hU5 (Nat.le_trans (by omega) F5.le) rfl ?_⟩
   simp only [push_cast,seval,↓reduceIte,Za,hi,hb]
  | some r =>
   rw [hg,Option.bind_some] at eB
   rw [hg] at A5 hob
   simp only [Option.map_some,Zkc] at A5 hob
   have g:=Jq hs0 hg
   refine Zj [3,8,9,10,32] (Zb Zc [] ?_)
   simp only [push_cast,seval,↓reduceIte,Za,hi,hb,q2,hob]
   refine Zl (t:=true) rfl (fun c15 => ?_) (fun c15=>by cases c15)
   refine Zb Zc [] ?_
   simp only [push_cast,seval,↓reduceIte,Za,hi,hb,q2,hYn,Zc3]
   refine (Zlz hnorm).then ?_
   simp only [push_cast,seval,↓reduceIte,Za,hi,hb,q2,hYn]
   refine (@Zpn (szB size) (Q3 most) (SizeOf.sizeOf (nrm t)+1) (nrm t) 64 (Nat.lt_succ_self _) hF (by rw [U6];exact c10) O5 n5 (n+3) (n+1) (n+1+1) L5 r.2.2 r.1 r.2.1 A5 g.2.2.2.2.1 (Ua g.2.2.2.2.2.2.1 (Int.le_refl _) (by omega))).mono fun r' O9 n9 hE => ?_
   obtain ⟨L9,rfl,F9,A9⟩:=hE
   obtain ⟨hb,hi⟩:=A9.b_lt
   simp only [push_cast,seval,↓reduceIte,Za,hi,hb]
   refine .inl ⟨rfl,O9,n9,⟨L9,by rw [eB];exact A9,F5.trans F9⟩,Fit2.und fun hU9=>Yf hU9 (Nat.le_trans (by omega) (Nat.le_trans F5.le F9.le)) rfl ?_⟩
   simp only [push_cast,seval,↓reduceIte,Za,hi,hb]
 intro Z m hI
 obtain ⟨M,A9,F9⟩:=hI
 obtain ⟨hb,hi⟩:=A9.b_lt
 have hob:=A9.ho
 have m9:n≤m:=Nat.le_trans (by omega) F9.le
 have ho9:∀ u,u < n→Z u=O u:=fun u hu=>(F9.off u (by omega) (by show ¬ u=n+3;omega) (htu u hu)).trans (hYo u hu)
 refine Zx fun hU9 => ?_
 refine Zi ?_
 cases ec:Zf4 false t size most with
 | none =>
  rw [ec] at A9 hob
  simp only [Zkc] at hob
  refine Zj [8,43] (Zb Zc [] ?_)
  simp only [push_cast,seval,↓reduceIte,Za,hi,hb,hob]
  refine Zl (t:=true) rfl (fun c15 => ?_) (fun c15=>by cases c15)
  refine Zj [6,7] (Zb Zc [] ?_)
  simp only [push_cast,seval,↓reduceIte,Za]
  refine Zs ?_
  try simp only [Zh,Zf]
  refine ⟨.tup [.val (.slice none 0 0),.val (.bool false)],Z,m,m9,⟨m9,ho9,rfl⟩,?_⟩
  refine Zu (P:=Try.prog) (.inr rfl) hU9 [.val (.slice none 0 0),.val (.bool false)] m9 ?_
  simp only [push_cast,seval,↓reduceIte,Za,Try.results9]
 | some τ =>
  rw [ec] at A9 hob
  simp only [Zkc] at hob
  have A9':BA (szB size) (Q3 most) Z m (n+3) (n+1) (n+1+1) M τ:=A9
  have hoi:=A9'.a.1.ho
  have hj:=A9'.a.1.hj
  unfold HR at hoi
  refine Zj [8,43] (Zb Zc [] ?_)
  simp only [push_cast,seval,↓reduceIte,Za,hi,hb,hob]
  refine Zl (t:=false) rfl (fun c15=>by cases c15) (fun c15 => ?_)
  refine Zp ?_
  try simp only [Zh,Zf]
  have hlr:∀ (Z:Objs) i k,Yw Z (.row i k)=True:=fun Z i k=>by simp [Yw]
  refine Zj [6,7] (Zb Zc [] ?_)
  simp only [push_cast,seval,↓reduceIte,Za,hi,hb,hob,hoi,hj,hlr]
  refine Zs ?_
  try simp only [Zh,Zf]
  refine ⟨.tup [.row (n+1+1) M.length,.val (.bool true)],Z,m,m9,⟨m9,ho9,n+1,n+1+1,M,rfl,A9'.a⟩,?_⟩
  refine Zu (P:=Try.prog) (.inr rfl) hU9 [.row (n+1+1) M.length,.val (.bool true)] m9 ?_
  simp only [push_cast,seval,↓reduceIte,Za,hi,hj,hlr,Try.results9]
theorem Zoi {size k left:Int} {A:List (List Int)} (h0:0≤k) (h1:k≤left) (hl:left≤131072) (c2:A.length=0∨A.length < 16∧¬ k≤IntKind.i64.wrap (size - ((Qa A).length:Int))):Ye size (A,left) k=some ((A.length:Int),0,A++[zl [] k],left - k):=by
 have e:Yp A size left k=((A.length:Int),0,true,A++[zl [] k],IntKind.i64.wrap (left - k)):=(if_neg (by omega)).trans (if_pos c2)
 unfold Ye
 rw [e,X3 (by omega)]
 rfl
def T13:Tr:=⟨1,[5],[]⟩
theorem Z62:Bd T13 := .mk _ (by simp [T13]) (by simp [T13]) (fun w hw=>by rw [List.mem_singleton.1 hw];decide) (fun k hk=>by cases hk)
theorem Z69:pt T13≤200000:=by simp [T13,Zk9]
theorem Z7a:rt T13 64=true:=by
 rw [Zep,if_neg (by decide),if_neg (by decide),if_neg (by simp [T13])]
 rfl
theorem Z67:nrm T13=T13:=by simp [T13,Zcz,tr]
theorem Z5h (N:Nat):Jk true 1 (N+1) T13 0 0 ([[0]],8)=some ([[8589934598],[5],[4294967298,4294967296]],5):=by
 simp only [Jk]
 rw [if_neg (by decide)]
 have g1:Ye 1 ([[0]],8) (Vp T13)=some (1,0,[[0],[0]],7):=Zoi (k:=1) (A:=[[0]]) (by decide) (by decide) (by decide) (.inr ⟨by decide,by decide⟩)
 rw [g1,Option.bind_some]
 have a1:K6 1 ([[0],[0]],7) 0 0 (pkd T13) (pup T13) 1 0=some ([[8589934598],[0],[4294967298,4294967296]],5):=by
  have i1:inO 1 ([[0],[0]],7) 1=none:=by
   unfold inO
   show (if (1:Int)≤7∧1≤IntKind.i64.wrap (1 - (([0]:List Int).length:Int)) then _ else none)=none
   exact if_neg (by decide)
  have g2:Ye 1 ([[0],[0]],7) 2=some (2,0,[[0],[0],[0,0]],5):=Zoi (k:=2) (A:=[[0],[0]]) (by decide) (by decide) (by decide) (.inr ⟨by decide,by decide⟩)
  unfold K6
  rw [if_neg (by decide),if_neg (by decide),i1,g2]
  rfl
 rw [a1,Option.bind_some]
 unfold inT
 rw [if_pos rfl]
 rfl
theorem Z48:Zf4 true T13 1 9=some ([[8589934598],[5],[4294967298,4294967296]],5):=by
 unfold Zf4
 rw [if_neg (by rw [Z7a];decide),Z67]
 have g0:Ye (szB 1) ([],Q3 9) 1=some (0,0,[[0]],8):=Zoi (k:=1) (A:=[]) (by decide) (by decide) (by decide) (.inl rfl)
 rw [g0,Option.bind_some]
 exact Z5h _
theorem Ztl {O:Objs} {n:Nat} {K:G→Objs→Nat→Prop} (hK:∀ O' n',n≤n'→(∀ u,u < n→O' u=O u)→K (.val (.bool true)) O' n'):GCalls Try.prog 7 [] O n K:=by
 refine (Zar Zc Try.call7 Try.func7 rfl (Nat.le_of_ble_eq_true rfl) (K:=fun r O' n'=>r = .val (.bool true)∧n≤n'∧∀ u,u < n→O' u=O u) fun hU => ?_).mono fun r O' n' ⟨e,h1,h2⟩=>by rw [e];exact hK O' n' h1 h2
 have hN0:O n=none:=hU.fresh _ (Nat.le_refl _)
 have hN:∀ k,O (n+k)=none:=fun k=>hU.fresh _ (Nat.le_add_right _ _)
 show Go.Proofs.Ytaddaloondpnkaa.W _ _ _ _ ⟨19,[],[]⟩ (Zw O n []) _
 rw [Yh hU.fresh]
 refine Zj [] (Zb Zc [] ?_)
 simp only [push_cast,seval,↓reduceIte,Za,hN0,hN]
 refine Zj [1,2] (Zb Zc [] ?_)
 simp only [push_cast,seval,↓reduceIte,Za,hN0,hN]
 refine GCalls.less (O2:=O) (gs':=[.agg (Ze T13),.val (.int .i64 1),.val (.int .i64 9)]) ((Zu6 Z62 Z69 1 9).mono fun r O9 n9 hE => ?_) (Znm (hU.more (Nat.le_succ n)) (fun u o h=>by rw [Zn _ _ (fun e=>by rw [e,hN0] at h;cases h)];exact h)) ?_
 ·rw [Z48] at hE
  obtain ⟨m9,ho9,i,j,L,rfl,A9,ht⟩:=hE
  have hi:=A9.1.hi
  have hw:WO [[8589934598],[5],[4294967298,4294967296]]:=⟨by decide,fun x hx=>by
   simp only [List.mem_cons,List.not_mem_nil,or_false] at hx
   rcases hx with rfl | rfl | rfl <;> decide⟩
  simp only [push_cast,seval,↓reduceIte,Za,hi]
  refine Zx fun hU9 => ?_
  have hM0:O9 n9=none:=hU9.fresh _ (Nat.le_refl _)
  have hM:∀ k,O9 (n9+k)=none:=fun k=>hU9.fresh _ (Nat.le_add_right _ _)
  refine Zj [0] (Zb Zc (Zzq []) ?_)
  simp only [push_cast,seval,↓reduceIte,Za,hi]
  refine (Zyx A9.1 A9.2 hw).then ?_
  simp only [push_cast,seval,↓reduceIte,Za,hi]
  obtain ⟨M9,hM9⟩:∃ M9,M9=(((O9.upd n9 (some ⟨true,58,1,1,[.val (.int .u64 8589934598)]⟩)).upd (n9+1) (some ⟨true,58,1,1,[.val (.int .u64 5)]⟩)).upd (n9+2) (some ⟨true,58,1,2,[.val (.int .u64 4294967298),.val (.int .u64 4294967296)]⟩)).upd (n9+3) (some ⟨true,22,1,3,[.row n9 1,.row (n9+1) 1,.row (n9+2) 2]⟩):=⟨_,rfl⟩
  rw [← hM9]
  have sp:=Zyw (O:=M9) (n:=n9+4) (j:=n9+3) (L:=[(n9,[8589934598]),(n9+1,[5]),(n9+2,[4294967298,4294967296])]) (r:=[[8589934598],[5],[4294967298,4294967296]]) (by rw [hM9];exact Zo _ _ _) (fun x hx=>by
   rw [hM9]
   simp only [List.mem_cons,List.not_mem_nil,or_false] at hx
   rcases hx with rfl | rfl | rfl
   ·rw [Zn _ _ (by show n9≠n9+3;omega),Zn _ _ (by show n9≠n9+2;omega),Zn _ _ (by show n9≠n9+1;omega),Zo];rfl
   ·rw [Zn _ _ (by show n9+1≠n9+3;omega),Zn _ _ (by show n9+1≠n9+2;omega),Zo];rfl
   rw [Zn _ _ (by show n9+2≠n9+3;omega),Zo];rfl) rfl hw
  refine GTo.then sp ?_
  simp only [push_cast,seval,↓reduceIte,Za,hi]
  refine Zx fun hU8 => ?_
  refine Zs ?_
  try simp only [Zh,Zf]
  have m8:n≤n9+4:=by omega
  refine ⟨.val (.bool true),M9,n9+4,m8,⟨rfl,m8,fun u hu => ?_⟩,?_⟩
  ·rw [hM9,Zn _ _ (by omega),Zn _ _ (by omega),Zn _ _ (by omega),Zn _ _ (by omega)]
   exact ho9 u (by omega)
  refine Zu (P:=Try.prog) (.inr rfl) hU8 [.val (.bool true)] m8 ?_
  simp only [push_cast,seval,↓reduceIte,Za,Try.results7]
 simp only [push_cast,seval,↓reduceIte,Za,Zo]
 refine ⟨rfl,⟨rfl,hN0,?_⟩,rfl,rfl⟩
 show Kt _ O (n+1) [G.val (.int .u64 5)] [G.val (.int .u64 5)]
 simp only [push_cast,seval,↓reduceIte,Za]
theorem Zpw {T:Qi} {O X:Objs} {n m:Nat} {E:Env} {rs:List ResultVar} {r:G} {e:Exit} (hU:Und O n) (hm:n≤m) (hX:∀ u,u < n→X u=O u) (he:e = .normal∨e = .ret) (gs:List G)
  (h:Zfh T O ⟨E.n,E.keep,E.l⟩ rs=some gs∧wk O O n (Zjt gs) r∧Zlf X O n E.l E.l):Fin T rs r n O n e E X m :=
 ⟨he,⟨E.n,E.keep,E.l⟩,O,n,gs,Fit2.of ⟨rfl,Znm hU (fun t o ht=>by
  rcases Nat.lt_or_ge t n with q | q
  ·rw [hX t q];exact ht
  rw [hU.fresh t q] at ht;cases ht),h.2.2⟩ (Nat.le_refl _),h.1,less_self hU,h.2.1⟩
open Classical in
noncomputable def Va (a0:Zd) (a1:Int) (a2:Int):Option Bool:=if Bd a0 then some true else none
theorem Zo0 {t:Tr} (h:Bd t) (a b:Int):Va t a b=some true:=if_pos h
theorem Zgd {a0:Zd} {a1:Int} {a2:Int} {r:Bool} {O:Objs} {n:Nat} (h:Va a0 a1 a2=some r):GTo Try.prog 3 [.agg (Ze a0),.val (.int .i64 a1),.val (.int .i64 a2)] O n (.val (.bool r)) O n:=by
 have hbd:Bd a0:=by
  unfold Va at h
  split at h
  ·assumption
  cases h
 rw [Zo0 hbd] at h
 have:=Option.some.inj h;subst this
 obtain ⟨bf,hfew,hpt⟩:=Z4c hbd
 refine Yi Zc Try.call3 Try.func3 rfl (Nat.le_of_ble_eq_true rfl) (Nat.le_refl _) fun hU => ?_
 have hN0:O n=none:=hU.fresh _ (Nat.le_refl _)
 have hN:∀ k,O (n+k)=none:=fun k=>hU.fresh _ (Nat.le_add_right _ _)
 show Go.Proofs.Ytaddaloondpnkaa.W _ _ _ _ ⟨50,[],[(0,.agg (Ze a0)),(1,.val (.int .i64 a1)),(2,.val (.int .i64 a2))]⟩ (Zw O n []) _
 rw [Yh hU.fresh]
 refine Zj [1,2,3] (Zb Zc [] ?_)
 simp only [push_cast,seval,↓reduceIte,Za,hN0,hN]
 obtain ⟨Z,hZ⟩:∃ Z,Z=O.upd n (some ⟨false,25,3,1,Ze a0⟩):=⟨_,rfl⟩
 have hZn:Z n=some ⟨false,25,3,1,Ze a0⟩:=by rw [hZ];exact Zo _ _ _
 have hZo:∀ u,u < n→Z u=O u:=fun u hu=>by rw [hZ];exact Zn _ _ (by omega)
 have hZ2:=hZ
 simp only [push_cast] at hZ2 hZn
 rw [← hZ2]
 have hn1:n < n+1:=Nat.lt_succ_self n
 refine Zx fun hUZ => ?_
 refine Zi ?_
 refine Zj [1,2,3,13] (Zb Zc [] ?_)
 simp only [push_cast,seval,↓reduceIte,Za,hn1,hZn]
 refine (Znu hfew).then ?_
 simp only [push_cast,seval,↓reduceIte,Za,hn1,hZn]
 cases bf with
 | false =>
  simp only [push_cast,seval,↓reduceIte,Za]
  refine Zl (t:=true) rfl (fun c15 => ?_) (fun c15=>by cases c15)
  refine Zj [6] (Zb Zc [] ?_)
  simp only [push_cast,seval,↓reduceIte,Za,hn1,hZn]
  refine Ztl fun O9 n9 m9 ho9 => ?_
  simp only [push_cast,seval,↓reduceIte,Za]
  refine Zs ?_
  try simp only [Zh,Zf]
  refine Zpw hU (Nat.le_trans (Nat.le_succ n) m9) (fun u hu=>(ho9 u (by omega)).trans (hZo u hu)) (.inr rfl) [.val (.bool true)] ?_
  simp only [push_cast,seval,↓reduceIte,Za,Try.results3]
 | true =>
  have hp2:pt a0≤200000:=by have:=hpt rfl;omega
  simp only [push_cast,seval,↓reduceIte,Za]
  refine Zl (t:=false) rfl (fun c15=>by cases c15) (fun c15 => ?_)
  refine Zp ?_
  try simp only [Zh,Zf]
  refine Zj [1,2,3,7,8] (Zb Zc [] ?_)
  simp only [push_cast,seval,↓reduceIte,Za,hn1,hZn]
  refine (Zu6 hbd hp2 a1 a2).mono fun r O5 n5 hE => ?_
  obtain ⟨m5,ho5,hres⟩:=hE
  have hn5:n < n5:=by omega
  have h5n:=(ho5 n hn1).trans hZn
  cases eb:Zf4 true a0 a1 a2 with
  | none =>
   rw [eb] at hres
   subst hres
   simp only [push_cast,seval,↓reduceIte,Za,hn5,h5n]
   refine Zx fun hU5 => ?_
   have eb2:=(Zu4 hbd hp2 a1 a2).symm.trans eb
   refine Zj [7,8,9,10] (Zb Zc [] ?_)
   simp only [push_cast,seval,↓reduceIte,Za,hn5,h5n]
   refine (Ztb hbd hp2 a1 a2).mono fun r O6 n6 hE => ?_
   obtain ⟨m6,ho6,hres⟩:=hE
   rw [eb2] at hres
   subst hres
   simp only [push_cast,seval,↓reduceIte,Za]
   refine Zx fun hU6 => ?_
   refine Zi ?_
   refine Zj [7,8,9,31] (Zb Zc [] ?_)
   simp only [push_cast,seval,↓reduceIte,Za]
   refine Zl (t:=false) rfl (fun c15=>by cases c15) (fun c15 => ?_)
   refine Zp ?_
   try simp only [Zh,Zf]
   refine Zj [6] (Zb Zc (Xl::Xl::Zzo [Xl]) ?_)
   simp only [push_cast,seval,↓reduceIte,Za]
   refine Ztl fun O9 n9 m9 ho9 => ?_
   simp only [push_cast,seval,↓reduceIte,Za]
   refine Zs ?_
   try simp only [Zh,Zf]
   refine Zpw hU (by omega) (fun u hu=>(ho9 u (by omega)).trans ((ho6 u (by omega)).trans ((ho5 u (by omega)).trans (hZo u hu)))) (.inr rfl) [.val (.bool true)] ?_
   simp only [push_cast,seval,↓reduceIte,Za,Try.results3]
  | some τ =>
   rw [eb] at hres
   obtain ⟨i,j,L,rfl,A5,ht5⟩:=hres
   have hi:=A5.1.hi
   simp only [push_cast,seval,↓reduceIte,Za,hi,hn5,h5n]
   refine Zx fun hU5 => ?_
   have eb2:=(Zu4 hbd hp2 a1 a2).symm.trans eb
   have hst:=Z39 eb
   have hw:WO τ.1:=Z6y hst.h16 (fun x hx=>by have:=hst.hB x hx;have:=hst.hl0;omega)
   refine Zj [7,8,9,10] (Zb Zc [] ?_)
   simp only [push_cast,seval,↓reduceIte,Za,hi,hn5,h5n]
   refine (Ztb hbd hp2 a1 a2).mono fun r O6 n6 hE => ?_
   obtain ⟨m6,ho6,hres⟩:=hE
   rw [eb2] at hres
   obtain ⟨i',j',L',rfl,A6⟩:=hres
   have A56:AP (szB a1) O6 n6 i j L τ:=A5.frame (fun u hu=>ho6 u (A5.1.ter_lt hu)) m6
   have hi:=A56.1.hi
   have hj':=A6.1.hj
   simp only [push_cast,seval,↓reduceIte,Za,hi,hj']
   refine Zx fun hU6 => ?_
   refine Zi ?_
   refine Zj [7,8,9,31] (Zb Zc [] ?_)
   simp only [push_cast,seval,↓reduceIte,Za,hi,hj']
   refine Zl (t:=false) rfl (fun c15=>by cases c15) (fun c15 => ?_)
   refine Zp ?_
   try simp only [Zh,Zf]
   refine Zj [6] (Zb Zc (Xa::Xa::Z0x []) ?_)
   simp only [push_cast,seval,↓reduceIte,Za,hi,hj']
   refine (Zyx A56.1 A56.2 hw).then ?_
   simp only [push_cast,seval,↓reduceIte,Za,hi,hj']
   refine (Zyw A6.1.hoj A6.1.hL A6.2 hw).then ?_
   simp only [push_cast,seval,↓reduceIte,Za,hi,hj']
   refine Ztl fun O9 n9 m9 ho9 => ?_
   simp only [push_cast,seval,↓reduceIte,Za]
   refine Zs ?_
   try simp only [Zh,Zf]
   refine Zpw hU (by omega) (fun u hu=>(ho9 u (by omega)).trans ((ho6 u (by omega)).trans ((ho5 u (by omega)).trans (hZo u hu)))) (.inr rfl) [.val (.bool true)] ?_
   simp only [push_cast,seval,↓reduceIte,Za,Try.results3]
end Go.Proofs.Ytaddaloondpnkaa
