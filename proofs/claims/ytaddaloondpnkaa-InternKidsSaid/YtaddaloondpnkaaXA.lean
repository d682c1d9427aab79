/- Part XA: the law; each theorem bears its own conditions. -/
import Derived.Test.YtaddaloondpnkaaVA
import Derived.Test.YtaddaloondpnkaaUM5
namespace Go.Proofs.Ytaddaloondpnkaa
open Go.RowKit
set_option linter.unusedVariables false
set_option linter.unusedSimpArgs false
set_option maxRecDepth 100000
set_option maxHeartbeats 4000000
attribute [local push_cast] Qj Zm Z0 Yj Yp Zk Zh Ze Xi Zbs Zaj Znf Zjf Zen Zer Zem Zeq Zhi Zhd Zep Zhh Zhg Zhf Zeo Zhc Zc6 evS wok Q6 Op.operands Call.operands gop atK List.all_cons List.all_nil Value.oneCell' List.take_zero List.take_succ_cons Nat.add_zero Vp Yh ev Qs Zf4 Zkk Zkj Zkp Zkn Zko Zkl Zkm Zki Zo2 Zp0 Ztj Ze2 Gr Ze0 Zas Zef Zcx Zbd Zcr Zcn Zbg Zcq Zcp Zco Zbf Zcm Zbe Zbh Zai Zh6 Zcw Uf Zd5 Ug Zf5 Zez Zsb bLo bHi bMx Gs Zf3 Zu0 Zex Zgn Zbt Vi Zo6 Zu1 Zd4 Zbr Zu2 Gq Zxp Zgr Zgv Zgq Zgu Zk7 Zk3 Zk2 Zej Zgs Zk6 Zk5 Zk4 Zgt Zky Zk1 Zkx Zk0 Zp9 Zp6 Zp5 Zkz Zp7 Zp8 Zf6 Zm1 pop TK.isAgg Zk9 Zld Zk8 Zlc Zgz Zqk Zqg Zlb Zqj Zqi Zqh Zla Zqf G.under G.unders List.set_cons_zero List.set_cons_succ List.toList_toArray Option.toArray_none Option.toArray_some Option.map_some Option.map_none Option.bind_some Option.bind_none List.getElem?_cons_zero List.getElem?_cons_succ List.getElem?_nil List.nil_append List.cons_append List.replicate_succ List.replicate_zero List.length_cons List.length_nil IntKind.bits ite_true ite_false ne_eq cond_true cond_false Gk Zc9 Option.join_some Int.toNat_natCast eI eL Qk Zkt Zkr Zks Zyb Z0f Zlm Zlk Zll Zua Zi2 Zrw Ziz Zou G.agg.injEq G.tup.injEq List.flatten_cons List.flatten_nil Zog Znn G.ren G.rens Zqs Zkg Zkh G.fn.injEq Option.join_none V3 undef Zgo Zc0 Zlj Zlg Zlh onB Zya Zo1 Zek Zg5 Zg4 Zg3 Zg2 Z0e Z0d Zu7 Zsd Vy Zt3 Zm2 Zud Zuc Zyc Znq Zf2 Zgk Zce Zdi Z41 Zrf Zok Zrg Z42 Zrh Z43 Zri Z44 Zrj Z45 Zrk Z46 Zrl Z47 Zrm Zv2 Zlv Zv3 Zlw Zv4 Zlx Zv5 Zly Zv6 Zlz Zv7 Zl0 Zv8 Zl1 Zv9 Zl2 Zwa Zl3 Zwb Zl4 Zwc Zl5 U1 Zdd Zr8 Ziu Zwd Zl6 Za3 Zl7 Zwe Ziv Zwf Zl8 Zwg Zl9 Zwh Zma Zwi Ziw Zwj Zmb Zwk Zmc Zwl Zmd Zwm Zme Vz Zmf Zwn Zmg Zwo Zmh Zwp Zmi Zwq Zmj Zwr Zmk Zws Zml Zwt Zmm Zwu Zmn Zwv Zmo Zww Zmp Zwx Zmq Zwy Zmr Zwz Zms Zw0 Zmt Zw1 Zmu Zw2 Zmv Zw3 Zmw Zw4 Zmx Zps Zmy Zqy Zhl Zqz Zhm Zq0 Zhn Zq1 Zho Zq2 Zhp Zq3 Zhq Zq4 Zhr Zq5 Zhs Zq6 Zht Zq7 Zhu Zq8 Zhv Zq9 Zhw Zra Zhx Zrb Zhy Zrc Zhz Zrd Zh0 Zre Zh1 Zx Zl Zj Y6
theorem Z4e (f:Tr→Int→Int→SG→Option SG) (s p:Int) {ts:List Tr} {k:Int} {x:Tr} (h0:0≤k) (hx:Z9 ts k=some x) (σ:SG):Zak f s (p+k) (ts.drop k.toNat) σ=(f x s (p+k) σ).bind (Zak f s (p+(k+1)) (ts.drop (k+1).toNat)):=by
 have hl:=K4 hx
 unfold Z9 at hx
 rw [if_pos h0] at hx
 obtain ⟨hl2,e⟩:=List.getElem?_eq_some_iff.1 hx
 rw [List.drop_eq_getElem_cons hl2,Zak,e,show (k+1).toNat=k.toNat+1 by omega,show p+(k+1)=p+k+1 by omega]
section
variable {P:Program} {ba n:Nat} {x y:Code} {Q:GQ} {E:Env} {O:Objs}
def JI (ba:Nat) (E':Env) (Inv:Objs→Nat→Prop) (Q:GQ):GQ:=fun e E1 O1 n1=>(e = .normal∧∃ Z m,Inv Z m∧Fit2 ba E1 O1 n1 E' Z m)∨(e ≠ .normal∧Q e E1 O1 n1)
theorem Fit2.und {E':Env} {O':Objs} {n':Nat} (h:Und O n→Fit2 ba E O n E' O' n'):Fit2 ba E O n E' O' n':=fun w m a hM hE=>h ⟨hM.fresh,fun i o hi=>by obtain ⟨vs,hv,_⟩:=hM.obj i o hi;exact Jr _ _ hv⟩ w m a hM hE
theorem Ya2 (E':Env) (Inv:Objs→Nat→Prop) (h:W P ba x (JI ba E' Inv Q) E O n) (k:∀ Z m,Inv Z m→W P ba y Q E' Z m):W P ba (.seq x y) Q E O n:=fun hb w m a hM hE=>by
 refine wp_seq (wp_mono (h hb w m a hM hE) fun e a' w' ⟨E2,O2,n2,m2,h1,h2,h3,h4⟩ => ?_)
 rcases h1 with ⟨rfl,Z,mm,hI,hF⟩ | ⟨hne,hq⟩
 ·obtain ⟨m3,g1,g2,g3⟩:=hF w' m2 a' h2 h3
  exact (k Z mm hI).then g1 g2 (h4.transB g3)
 cases e with
 | normal=>exact absurd rfl hne
 | exit id=>exact ⟨E2,O2,n2,m2,hq,h2,h3,h4⟩
 | goto l=>exact ⟨E2,O2,n2,m2,hq,h2,h3,h4⟩
 | ret=>exact ⟨E2,O2,n2,m2,hq,h2,h3,h4⟩
 | panic ch=>exact ⟨E2,O2,n2,m2,hq,h2,h3,h4⟩
 | outgrown=>exact ⟨E2,O2,n2,m2,hq,h2,h3,h4⟩
end
theorem Ybn {k n m:Int} (h0:0≤k) (h:k < n) (hm:0≤m):0≤k * m∧k * m+m≤n * m:=by
 have a:0≤k * m:=Int.mul_nonneg h0 hm
 have b:(k+1) * m≤n * m:=Int.mul_le_mul_of_nonneg_right (by omega) hm
 rw [Int.add_mul] at b
 omega
theorem Ybq {O:Objs} {n:Nat} (hU:Und O n) (H:Nat→GObj):PX H (Z4 O n [some (H 0),some ⟨true,22,1,0,[]⟩]) (n+2) n (n+1) [] :=
 ⟨by omega,by omega,by omega,by rw [Zc9];rfl,by rw [Gk];rfl,fun x hx=>(by cases hx),fun x hx=>(by cases hx),fun x hx=>(by cases hx),fun x hx=>(by cases hx),List.nodup_nil⟩
theorem Zpt {i j u:Nat} (h:ter i j [] u):u=i∨u=j:=by
 rcases h with h | h | ⟨y,hy,_⟩
 ·exact .inl h
 ·exact .inr h
 cases hy
attribute [local push_cast] Nat.le_refl
structure BA (size most:Int) (O:Objs) (n b i j:Nat) (L:List NR) (σ:SG):Prop where
 a:AR size most O n i j L σ
 hb:b < n
 ht:¬ ter i j L b
 ho:O b=some ⟨false,71,2,1,[.ref i 0,.val (.bool true)]⟩
abbrev isB (b:Nat):Nat→Prop:=fun u=>u=b
def EndR (size most:Int) (b i j:Nat) (O:Objs) (n:Nat) (L:List NR) (res:Option SG) (r:G) (O':Objs) (n':Nat):Prop :=
 ∃ L',r = .tup []∧Fr (isB b) i j O n L O' n' L'∧match res with
  | none=>O' b=some ⟨false,71,2,1,[.ref i 0,.val (.bool false)]⟩
  | some τ=>BA size most O' n' b i j L' τ
theorem BA.own {size most:Int} {O:Objs} {n b i j:Nat} {L:List NR} {σ:SG} (h:BA size most O n b i j L σ) (x:Option GObj):BA size most (O.upd n x) (n+1) b i j L σ:=⟨h.a.own x,Nat.lt_succ_of_lt h.hb,h.ht,by rw [Ya _ _ (by have:=h.hb;omega)];exact h.ho⟩
theorem Zs4 {O:Objs} {n b i j:Nat} {L:List NR} {size most k:Int} {σ:SG} (h:BA size most O n b i j L σ) (hs:St size most σ) (e:Xe size σ k=none) :
  ∃ O' n' L',GTo Try.prog 29 [.ref b 0,.val (.int .i64 k)] O n (.tup [.val (.int .i64 (-1)),.val (.int .i64 (-1))]) O' n'∧O' b=some ⟨false,71,2,1,[.ref i 0,.val (.bool false)]⟩∧Fr (isB b) i j O n L O' n' L':=by
 obtain ⟨b1,b2,b3⟩:=hs.b1 (O:=O) (n:=n) (i:=i) (j:=j) h.a.2
 have c:(Xu σ.1 size σ.2 k).2.2.1=false:=by
  unfold Xe at e
  cases c:(Xu σ.1 size σ.2 k).2.2.1 with
  | true=>rw [c] at e;cases e
  | false=>rfl
 obtain ⟨O',n',L',g1,g2,g3,g4,g5,g6,g7⟩:=Zy6 h.a.1 h.hb h.ht h.ho b1 hs.hl0 (by have:=hs.hm;have:=hs.hmm;omega) hs.hm hs.hmm b2 k (by rw [h.a.2,c];exact fun q=>by cases q)
 rw [h.a.2,c] at g1 g3
 exact ⟨O',n',L',g1,g3,g2,fun u x y z=>g7 u x y z,g6⟩
theorem Zs5 {O:Objs} {n b i j:Nat} {L:List NR} {size most k:Int} {σ:SG} {r:Int×Int×SG} (h:BA size most O n b i j L σ) (hs:St size most σ) (e:Xe size σ k=some r) :
  ∃ O' n' L',GTo Try.prog 29 [.ref b 0,.val (.int .i64 k)] O n (.tup [.val (.int .i64 r.1),.val (.int .i64 r.2.1)]) O' n'∧BA size most O' n' b i j L' r.2.2∧Fr (isB b) i j O n L O' n' L':=by
 obtain ⟨b1,b2,b3⟩:=hs.b1 (O:=O) (n:=n) (i:=i) (j:=j) h.a.2
 have ok:=Us hs e
 obtain ⟨c,rfl⟩:=Ztk e
 obtain ⟨O',n',L',g1,g2,g3,g4,g5,g6,g7⟩:=Zy6 h.a.1 h.hb h.ht h.ho b1 hs.hl0 (by have:=hs.hm;have:=hs.hmm;omega) hs.hm hs.hmm b2 k (by rw [h.a.2];exact fun _=>ok.2.1)
 rw [h.a.2] at g1 g3 g4 g5
 rw [c] at g1 g3
 exact ⟨O',n',L',g1,⟨⟨g4,g5⟩,Nat.lt_of_lt_of_le h.hb g2,fun q=>by rcases g6 b q with q | q;exact h.ht q;have:=h.hb;omega,g3⟩,g2,fun u x y z=>g7 u x y z,g6⟩
theorem Zfy {O:Objs} {n b i j:Nat} {L:List NR} {size most s p:Int} {σ:SG} (v:Int) (h:BA size most O n b i j L σ) (hh:X0 σ.1 s p 1=true) :
  ∃ O' L',GTo Try.prog 61 [.ref b 0,.val (.int .i64 s),.val (.int .i64 p),.val (.int .u64 v)] O n (.tup []) O' n∧BA size most O' n b i j L' (pt1 s p v σ)∧Fr (isB b) i j O n L O' n L':=by
 obtain ⟨O',L',g1,g2,g3,g4,g5⟩:=Z3e (v:=v) h.a.1 h.hb h.ho (by rw [h.a.2];exact hh)
 rw [h.a.2] at g4
 exact ⟨O',L',g1,⟨⟨g2,g4⟩,h.hb,fun q=>h.ht (Zj5 g3 q),(g5 b h.ht).trans h.ho⟩,Nat.le_refl n,fun u _ _ z=>g5 u z,fun u q => .inl (Zj5 g3 q)⟩
theorem Z9e {O:Objs} {n b i j:Nat} {L:List NR} {size most s p:Int} {σ:SG} {ws:List Int} (h:BA size most O n b i j L σ) (hp:0≤p∧p+(ws.length:Int)≤1000000) (hh:X0 σ.1 s p (ws.length:Int)=true∨ws=[]) {K:G→Objs→Nat→Prop}
  (hk:∀ O' n' L',BA size most O' n' b i j L' (Q3 σ.1 s p ws,σ.2)→Fr (isB b) i j O n L O' n' L'→K (.tup []) O' n') :
  GCalls Try.prog 58 [.ref b 0,.val (.int .i64 s),.val (.int .i64 p),.sl ws.length (fl (eI .u64) ws)] O n K:=by
 refine (Z9f h.a.1 h.hb h.ht h.ho s p ws hp.2 hp.1 (by rw [h.a.2];exact hh)).mono fun r O' n' ⟨e,g1,L',g2,g3,g4,g5⟩ => ?_
 subst e
 rw [h.a.2] at g4
 exact hk O' n' L' ⟨⟨g2,g4⟩,Nat.lt_of_lt_of_le h.hb g1,fun q=>h.ht (Zj5 g3 q),(g5 b h.hb h.ht).trans h.ho⟩ ⟨g1,fun u a _ b=>g5 u a b,fun u q => .inl (Zj5 g3 q)⟩
theorem Z7m {O:Objs} {n b i j:Nat} {L:List NR} {size most s:Int} {σ:SG} (h:BA size most O n b i j L σ) (hs:St size most σ) (e:inO size σ s=none) :
  GTo Try.prog 99 [.ref i 0,.val (.int .i64 s),.val (.int .i64 1)] O n (.val (.int .i64 (-1))) O n:=by
 refine Z4p h.a.1.hi h.a.1.hj h.a.1.ho h.a.1.hoj ?_
 have hw:IntKind.i64.wrap (most - (most - σ.2))=σ.2:=by have:=hs.hl0;have:=hs.hm;have:=hs.hmm;rw [Ul (by omega)];omega
 rw [hw]
 unfold inO at e
 rw [← h.a.2] at e
 cases hx:Z9 L s with
 | none=>left;rw [Zzy hx];decide
 | some x =>
  rw [Zo4 hx] at e
  dsimp only at e
  split at e
  ·cases e
  rename_i c
  rw [Zfa hx]
  by_cases c2:σ.2 < 1
  ·exact .inr (.inr (.inl c2))
  exact .inr (.inr (.inr (by omega)))
theorem Z7n {O:Objs} {n b i j:Nat} {L:List NR} {size most s:Int} {σ:SG} {r:Int×SG} (h:BA size most O n b i j L σ) (hs:St size most σ) (e:inO size σ s=some r) :
  ∃ O' L',GTo Try.prog 99 [.ref i 0,.val (.int .i64 s),.val (.int .i64 1)] O n (.val (.int .i64 r.1)) O' n∧BA size most O' n b i j L' r.2∧Fr (isB b) i j O n L O' n L':=by
 obtain ⟨b1,b2,b3⟩:=hs.b1 (O:=O) (n:=n) (i:=i) (j:=j) h.a.2
 have l0:=hs.hl0
 have lm:=hs.hm
 have lmm:=hs.hmm
 have hw:IntKind.i64.wrap (most - (most - σ.2))=σ.2:=by rw [Ul (by omega)];omega
 unfold inO at e
 rw [← h.a.2] at e
 cases hx:Z9 L s with
 | none =>
  have:Z9 (L.map (·.2)) s=none:=by
   have hl:=Zgm hx
   cases q:Z9 (L.map (·.2)) s with
   | none=>rfl
   | some y=>have:=K4 q;rw [List.length_map] at this;omega
  rw [this] at e;cases e
 | some x =>
  rw [Zo4 hx] at e
  dsimp only at e
  split at e
  ·rename_i c
   have:=Option.some.inj e;subst this
   have hxm:=Xg hx
   have bx:=b2 x hxm
   have a:=h.a.1
   have g:=Z4o (k:=1) a.hi a.hj a.lt a.hij (a.ni x hxm) (a.nj x hxm) a.ho a.hoj hx (a.hL x hxm) (by omega) (by omega) (by rw [hw];exact c.1) c.2
   have e2:IntKind.i64.wrap (most - σ.2+1)=most - IntKind.i64.wrap (σ.2 - 1):=by rw [Ul (by omega),Ul (by omega)];omega
   rw [e2] at g
   refine ⟨_,Y5 L s (x.1,zl x.2 1),g,⟨⟨a.set hx _ (HR j size most (most - IntKind.i64.wrap (σ.2 - 1))),Zuo _ _⟩,h.hb,fun q=>h.ht (Zyn hx _ q),?_⟩,Nat.le_refl n,fun u _ _ q=>Zx7 hx _ _ _ q,fun u q => .inl (Zyn hx _ q)⟩
   exact (Zx7 hx _ _ _ h.ht).trans h.ho
  cases e
theorem Fr.keepB {b i j:Nat} {O:Objs} {n:Nat} {L L':List NR} {O':Objs} {n':Nat} (h:Fr (isB b) i j O n L O' n' L') {u:Nat} (hu:u < n) (hx:u≠b) (ht:¬ Go.Proofs.Ytaddaloondpnkaa.ter i j L u):O' u=O u∧u < n'∧¬ Go.Proofs.Ytaddaloondpnkaa.ter i j L' u:=h.keep hu hx ht
attribute [local push_cast] List.take_nil List.drop_nil List.append_nil Nat.zero_add List.map_cons List.map_nil Array.toList_append and_true true_and Bool.true_eq_false Bool.false_eq_true forall_const implies_true eq_self decide_true decide_false decide_eq_true_eq beq_iff_eq beq_self_eq_true Option.some.injEq exists_eq_left' ge_iff_le Bool.not_true Bool.not_false Z5s Zcv Zbj Int.le_refl Zmz Zrr Zrq Z04 Zrp Zbc
theorem Z2l {P:Program} {ba n:Nat} {c:Code} {Q:GQ} {E:Env} {O:Objs} (h:W P ba c (fun e E O n=>Und O n→Q e E O n) E O n):W P ba c Q E O n:=fun hb w m a hM hE =>
 wp_mono (h hb w m a hM hE) fun e a' w' ⟨E2,O2,n2,m2,h1,h2,h3,h4⟩=>⟨E2,O2,n2,m2,h1 ⟨h2.fresh,fun i o hi=>by obtain ⟨vs,hv,_⟩:=h2.obj i o hi;exact Jr _ _ hv⟩,h2,h3,h4⟩
theorem Z17 {O:Objs} {n b i:Nat} {s p hm q k u:Int} (hb:b < n) (hi:i < n) (ho:O b=some ⟨false,71,2,1,[.ref i 0,.val (.bool false)]⟩) :
  GTo Try.prog 57 [.ref b 0,.val (.int .i64 s),.val (.int .i64 p),.val (.int .i64 hm),.val (.int .i64 q),.val (.int .u64 k),.val (.int .u64 u)] O n (.tup []) O n:=by
 refine Yi Zc Try.call57 Try.func57 rfl (Nat.le_of_ble_eq_true rfl) (Nat.le_refl _) fun hU => ?_
 show Go.Proofs.Ytaddaloondpnkaa.W _ _ _ _ ⟨116,[],[(0,.ref b 0),(1,.val (.int .i64 s)),(2,.val (.int .i64 p)),(3,.val (.int .i64 hm)),(4,.val (.int .i64 q)),(5,.val (.int .u64 k)),(6,.val (.int .u64 u))]⟩ (Z4 O n []) _
 rw [Kb hU.fresh]
 refine Zf ?_
 refine Zn [0,1,2,3,4,5,6,21] (Zb Zc [] ?_)
 simp only [push_cast,seval,Za,hb,ho]
 refine Zq (t:=true) rfl (fun c15 => ?_) (fun c15=>by cases c15)
 refine Zv ?_
 try simp only [Zh,Ze]
 refine Yu (P:=Try.prog) (.inr rfl) hU [] (Nat.le_refl _) ?_
 simp only [push_cast,seval,Za,Try.results57]
theorem Z7h {O:Objs} {n b i:Nat} {s p:Int} {ws:List Int} (hb:b < n) (hi:i < n) (ho:O b=some ⟨false,71,2,1,[.ref i 0,.val (.bool false)]⟩) (hw:ws.length≤1000000) :
  GTo Try.prog 58 [.ref b 0,.val (.int .i64 s),.val (.int .i64 p),.sl ws.length (fl (eI .u64) ws)] O n (.tup []) O n:=by
 refine Yi Zc Try.call58 Try.func58 rfl (Nat.le_of_ble_eq_true rfl) (Nat.le_refl _) fun hU => ?_
 show Go.Proofs.Ytaddaloondpnkaa.W _ _ _ _ ⟨25,[],[(0,.ref b 0),(1,.val (.int .i64 s)),(2,.val (.int .i64 p)),(3,.sl ws.length (fl (eI .u64) ws))]⟩ (Z4 O n []) _
 rw [Kb hU.fresh]
 refine Zn [0,1,2,3,8] (Zb Zc [] ?_)
 simp only [push_cast,seval,Za,hb]
 refine Yl ?_
 refine Zsg (S:=Int) (fun q=>⟨25,[],[(0,.ref b 0),(1,.val (.int .i64 s)),(2,.val (.int .i64 p)),(3,.sl ws.length (fl (eI .u64) ws)),(8,.val (.int .i64 q))]⟩) (fun q=>O) (fun _=>n)
  (fun q=>0≤q∧q≤(ws.length:Int)) (fun q=>((ws.length:Int) - q).toNat) (fun _ _=>Nat.le_refl n) (fun k hq => ?_) 0 ⟨Int.le_refl _,by omega⟩
 obtain ⟨k0,k1⟩:=hq
 try dsimp only
 refine Zf ?_
 refine Zn [0,1,2,3,8,12] (Zb Zc [] ?_)
 simp only [push_cast,seval,Za,hb]
 refine Zq (t:=decide (k < (ws.length:Int))) rfl (fun c => ?_) (fun c => ?_)
 ·have c1:k < (ws.length:Int):=of_decide_eq_true c
  refine Zt ?_
  try simp only [Zh,Ze]
  obtain ⟨w,hw⟩:∃ w,Z9 ws k=some w:=⟨ws[k.toNat]'(by omega),by unfold Z9;rw [if_pos k0];exact List.getElem?_eq_getElem (by omega)⟩
  obtain ⟨x5,hx5,ax5,bx5,cx5,_⟩:=bE (f:=eI .u64) (K:=fun y=>some y) (r:=w) Vz (fun _=>rfl) (by decide) (by rw [hw];rfl)
  refine Zf ?_
  refine Yl ?_
  refine Zb Zc [] ?_
  simp only [push_cast,Nat.reduceAdd,Nat.reduceSub,Nat.reduceMul,Nat.reduceLeDiff,Nat.reduceLT,Nat.reduceEqDiff,↓reduceIte,reduceCtorEq,Int.reduceBEq,Int.reduceBNe,Nat.reduceBEq,Int.reduceLE,Int.reduceLT,Int.reduceEq,Int.reduceNe,Int.reduceNeg,Nat.reduceDiv,Nat.reduceMod,Nat.reducePow,Za,hb,ax5,bx5,cx5]
  refine (Z3d hb ho hi).then ?_
  simp only [push_cast,seval,Za,hb]
  refine Zb Zc [] ?_
  have hwk:IntKind.i64.wrap (k+1)=k+1:=Ul (by omega)
  simp only [push_cast,seval,Za,hb,hwk]
  refine .inl ⟨rfl,k+1,⟨by omega,by omega⟩,by show ((ws.length:Int) - (k+1)).toNat < ((ws.length:Int) - k).toNat;omega,Kt hU (Nat.le_refl n) rfl ?_⟩
  simp only [push_cast,seval,Za,hb]
 have c1:¬ k < (ws.length:Int):=of_decide_eq_false c
 refine X9 ?_
 try simp only [Zh,Ze,↓reduceIte,Nat.reduceEqDiff]
 refine .inr ⟨(fun h=>by cases h),?_⟩
 try simp only [Zh,Ze,↓reduceIte,Nat.reduceEqDiff]
 refine Yu (P:=Try.prog) (.inl rfl) hU [] (Nat.le_refl n) ?_
 simp only [push_cast,seval,Za,Try.results58]
theorem Z4r {O:Objs} {n b i j:Nat} {L:List NR} {size most:Int} {σ:SG} (h:BA size most O n b i j L σ) (hs:St size most σ) {s p hm q k u:Int} (kb:0≤k∧k≤1∧0≤u∧u < 4294967296) (hsb:X0 σ.1 s p 1=true) (hq:0≤q∧q≤131072) (hm0:0≤hm∧hm≤1000) :
  GCalls Try.prog 57 [.ref b 0,.val (.int .i64 s),.val (.int .i64 p),.val (.int .i64 hm),.val (.int .i64 q),.val (.int .u64 k),.val (.int .u64 u)] O n (EndR size most b i j O n L (Zaf size σ s p k u hm q)):=by
 obtain ⟨x0,hx0,p0,_,p1⟩:=Kv hsb
 have hx0b:=hs.hB x0 (Xg hx0)
 have hl0:=hs.hl0
 have hb:=h.hb
 have hi:=h.a.1.hi
 have ho:=h.ho
 refine Ztc Zc Try.call57 Try.func57 rfl (Nat.le_of_ble_eq_true rfl) fun hU => ?_
 show Go.Proofs.Ytaddaloondpnkaa.W _ _ _ _ ⟨116,[],[(0,.ref b 0),(1,.val (.int .i64 s)),(2,.val (.int .i64 p)),(3,.val (.int .i64 hm)),(4,.val (.int .i64 q)),(5,.val (.int .u64 k)),(6,.val (.int .u64 u))]⟩ (Z4 O n []) _
 rw [Kb hU.fresh]
 refine Zf ?_
 refine Zn [0,1,2,3,4,5,6,21] (Zb Zc [] ?_)
 simp only [push_cast,seval,Za,hb,hi,ho]
 refine Zq (t:=false) rfl (fun c15=>by cases c15) (fun c15 => ?_)
 refine Zt ?_
 try simp only [Zh,Ze]
 refine Zf ?_
 refine Yt (E':=⟨116,[],[(0,.ref b 0),(1,.val (.int .i64 s)),(2,.val (.int .i64 p)),(3,.val (.int .i64 hm)),(4,.val (.int .i64 q)),(5,.val (.int .u64 k)),(6,.val (.int .u64 u)),(27,.val (.bool (decide (k=0∧u=0))))]⟩) (O':=O) (n0:=n) ?_ ?_
 ·by_cases ck:k=0
  ·have d1:(k == 0)=true:=Zru ck
   refine Zb Zc [X5,X5] ?_
   simp only [push_cast,seval,Za,hb,hi,ho,d1]
   refine And.intro rfl (Kt hU (Nat.le_refl n) rfl ?_)
   have e:(u == 0)=decide (k=0∧u=0):=by rw [Bool.eq_iff_iff];simp [ck]
   simp only [push_cast,seval,Za,hb,hi,ho,d1,e]
  have d1:(k == 0)=false:=Vb ck
  refine Zb Zc [Xm,Xm] ?_
  simp only [push_cast,seval,Za,hb,hi,ho,d1]
  refine And.intro rfl (Kt hU (Nat.le_refl n) rfl ?_)
  have e:false=decide (k=0∧u=0):=(decide_eq_false (fun z=>ck z.1)).symm
  rw [← e]
  simp only [push_cast,seval,Za,hb,hi,ho,d1]
 refine Zq (t:=decide (k=0∧u=0)) rfl (fun c => ?_) (fun c => ?_)
 ·have c0:=of_decide_eq_true c
  have ea:Zaf size σ s p k u hm q=_:=if_pos c0
  obtain ⟨O9,L9,g,A9,F9⟩:=Zfy 4294967292 h hsb
  refine Zn [0] (Zb Zc [] ?_)
  simp only [push_cast,seval,Za,hb,hi,ho]
  refine g.then ?_
  simp only [push_cast,seval,Za]
  refine Q9 fun hU9 => ?_
  refine Zv ?_
  try simp only [Zh,Ze]
  refine ⟨.tup [],O9,n,Nat.le_refl n,⟨L9,rfl,F9,by rw [ea];exact A9⟩,?_⟩
  refine Yu (P:=Try.prog) (.inr rfl) hU9 [] (Nat.le_refl n) ?_
  simp only [push_cast,seval,Za,Try.results57]
 have c0:=of_decide_eq_false c
 refine Zt ?_
 try simp only [Zh,Ze]
 refine Zf ?_
 refine Zn [0,1,2,3,4,5,6,34] (Zb Zc [] ?_)
 simp only [push_cast,seval,Za,hb,hi,ho]
 refine Zq (t:=(s == hm)) rfl (fun c => ?_) (fun c => ?_)
 ·have c1:hm=s:=(eq_of_beq c).symm
  have ea:Zaf size σ s p k u hm q=_:=(if_neg c0).trans (if_pos c1)
  obtain ⟨O9,L9,g,A9,F9⟩:=Zfy (nw p q k u) h hsb
  refine Zn [0] (Zb Zc [] ?_)
  simp only [push_cast,seval,Za,hb,hi,ho]
  refine (Zfe (Z23 p0 (by omega) hq.1 (by omega) kb.1 kb.2.1 kb.2.2.1 kb.2.2.2)).then ?_
  simp only [push_cast,seval,Za,hb,hi,ho]
  refine g.then ?_
  simp only [push_cast,seval,Za]
  refine Q9 fun hU9 => ?_
  refine Zv ?_
  try simp only [Zh,Ze]
  refine ⟨.tup [],O9,n,Nat.le_refl n,⟨L9,rfl,F9,by rw [ea];exact A9⟩,?_⟩
  refine Yu (P:=Try.prog) (.inr rfl) hU9 [] (Nat.le_refl n) ?_
  simp only [push_cast,seval,Za,Try.results57]
 have c1:¬ hm=s:=fun z=>ne_of_beq_false c z.symm
 have ea:Zaf size σ s p k u hm q=_:=(if_neg c0).trans (if_neg c1)
 refine Zt ?_
 try simp only [Zh,Ze]
 refine Zn [0,1,2,3,4,5,6,14] (Zb Zc [] ?_)
 simp only [push_cast,seval,Za,hb,hi,ho]
 cases hin:inO size σ hm with
 | some r =>
  rw [hin] at ea
  have o:=Zxu hs hin
  obtain ⟨O5,L5,g5,A5,F5⟩:=Z7n h hs hin
  refine g5.then ?_
  have hi:=A5.a.1.hi
  have ho:=A5.ho
  have d2:decide (0≤r.1)=true:=decide_eq_true o.1
  simp only [push_cast,seval,Za,hb,hi,ho]
  refine Q9 fun hU5 => ?_
  refine Zf ?_
  refine Zn [0,1,2,3,4,5,6,14,51] (Zb Zc [] ?_)
  simp only [push_cast,seval,Za,hb,hi,ho,d2]
  refine Zq (t:=true) rfl (fun c15 => ?_) (fun c15=>by cases c15)
  have w1:IntKind.u64.wrap r.1=r.1:=K2 (by omega) (by omega)
  have w2:IntKind.u64.wrap (8 * r.1)=8 * r.1:=K2 (by omega) (by omega)
  have w3:IntKind.u64.wrap (2+8 * r.1)=2+8 * r.1:=K2 (by omega) (by omega)
  have w4:IntKind.u64.wrap hm=hm:=K2 (by omega) (by omega)
  have w5:IntKind.u64.wrap (4294967296 * hm)=4294967296 * hm:=K2 (by omega) (by omega)
  have w6:IntKind.u64.wrap (2+8 * r.1+4294967296 * hm)=fw hm r.1 0:=by rw [K2 (by omega) (by omega)];unfold fw;omega
  obtain ⟨O6,L6,g6,A6,F6⟩:=Zfy (fw hm r.1 0) A5 (s:=s) (p:=p) (o.2.2.2.1 _ _ _ hsb)
  refine Zn [0,3,4,5,6,14] (Zb Zc [] ?_)
  simp only [push_cast,seval,Za,hb,hi,ho,w1,w2,w3,w4,w5,w6]
  refine g6.then ?_
  have hi:=A6.a.1.hi
  have ho:=A6.ho
  simp only [push_cast,seval,Za,hb,hi,ho]
  refine Q9 fun hU6 => ?_
  obtain ⟨O9,L9,g9,A9,F9⟩:=Zfy (nw r.1 q k u) A6 (s:=hm) (p:=r.1) (Ex.put _ _ _ r.2 _ _ _ o.2.2.2.2.1)
  refine Zn [0] (Zb Zc [] ?_)
  simp only [push_cast,seval,Za,hb,hi,ho]
  refine (Zfe (Z23 o.1 (by omega) hq.1 (by omega) kb.1 kb.2.1 kb.2.2.1 kb.2.2.2)).then ?_
  simp only [push_cast,seval,Za,hb,hi,ho]
  refine g9.then ?_
  simp only [push_cast,seval,Za]
  refine Q9 fun hU9 => ?_
  refine Zv ?_
  try simp only [Zh,Ze]
  refine ⟨.tup [],O9,n,Nat.le_refl n,⟨L9,rfl,F5.trans (F6.trans F9),by rw [ea];rw [Zea r.2 (fw hm r.1 0) (nw r.1 q k u) (fun z=>c1 z.1)] at A9;exact A9⟩,?_⟩
  refine Yu (P:=Try.prog) (.inr rfl) hU9 [] (Nat.le_refl n) ?_
  simp only [push_cast,seval,Za,Try.results57]
 | none =>
  rw [hin] at ea
  refine (Z7m h hs hin).then ?_
  simp only [push_cast,seval,Za,hb,hi,ho]
  refine Zf ?_
  refine Zn [0,1,2,3,4,5,6,14,51] (Zb Zc [] ?_)
  simp only [push_cast,seval,Za,hb,hi,ho]
  refine Zq (t:=false) rfl (fun c15=>by cases c15) (fun c15 => ?_)
  refine Zt ?_
  try simp only [Zh,Ze]
  refine Zn [0,1,2,3,4,5,6,15,16] (Zb Zc [] ?_)
  simp only [push_cast,seval,Za,hb,hi,ho]
  cases hg:Xe size σ 2 with
  | none =>
   rw [hg] at ea
   obtain ⟨O9,n9,L9,g9,ho9,F9⟩:=Zs4 h hs hg
   have m9:n≤n9:=F9.le
   have hb9:b < n9:=by omega
   refine g9.then ?_
   simp only [push_cast,seval,Za,hb9,ho9]
   refine Q9 fun hU9 => ?_
   refine Zf ?_
   refine Zn [0,82] (Zb Zc [] ?_)
   simp only [push_cast,seval,Za,hb9,ho9]
   refine Zq (t:=true) rfl (fun c15 => ?_) (fun c15=>by cases c15)
   refine Zv ?_
   try simp only [Zh,Ze]
   refine ⟨.tup [],O9,n9,m9,⟨L9,rfl,F9,by rw [ea];exact ho9⟩,?_⟩
   refine Yu (P:=Try.prog) (.inr rfl) hU9 [] m9 ?_
   simp only [push_cast,seval,Za,Try.results57]
  | some r =>
   rw [hg] at ea
   have o:=Us hs hg
   have hm1:r.1≤16:=by
    obtain ⟨y,hy,_⟩:=Kv o.2.2.2.2.2.2.1
    have:=K4 hy
    have:=o.2.2.2.2.1.h16
    omega
   obtain ⟨O5,n5,L5,g5,A5,F5⟩:=Zs5 h hs hg
   refine g5.then ?_
   have hb:=A5.hb
   have hi:=A5.a.1.hi
   have ho:=A5.ho
   simp only [push_cast,seval,Za,hb,hi,ho]
   refine Q9 fun hU5 => ?_
   refine Zf ?_
   refine Zn [0,1,2,3,4,5,6,15,16,82] (Zb Zc [] ?_)
   simp only [push_cast,seval,Za,hb,hi,ho]
   refine Zq (t:=false) rfl (fun c15=>by cases c15) (fun c15 => ?_)
   refine Zt ?_
   try simp only [Zh,Ze]
   have w1:IntKind.u64.wrap r.2.1=r.2.1:=K2 (by omega) (by omega)
   have w2:IntKind.u64.wrap (8 * r.2.1)=8 * r.2.1:=K2 (by omega) (by omega)
   have w3:IntKind.u64.wrap (6+8 * r.2.1)=6+8 * r.2.1:=K2 (by omega) (by omega)
   have w4:IntKind.u64.wrap r.1=r.1:=K2 (by omega) (by omega)
   have w5:IntKind.u64.wrap (4294967296 * r.1)=4294967296 * r.1:=K2 (by omega) (by omega)
   have w6:IntKind.u64.wrap (6+8 * r.2.1+4294967296 * r.1)=fw r.1 r.2.1 1:=by rw [K2 (by omega) (by omega)];unfold fw;omega
   obtain ⟨O6,L6,g6,A6,F6⟩:=Zfy (fw r.1 r.2.1 1) A5 (s:=s) (p:=p) (o.2.2.2.2.2.1 _ _ _ hsb)
   refine Zn [0,3,4,5,6,15,16] (Zb Zc [] ?_)
   simp only [push_cast,seval,Za,hb,hi,ho,w1,w2,w3,w4,w5,w6]
   refine g6.then ?_
   have hi:=A6.a.1.hi
   have ho:=A6.ho
   simp only [push_cast,seval,Za,hb,hi,ho]
   refine Q9 fun hU6 => ?_
   have v1:IntKind.u64.wrap q=q:=K2 (by omega) (by omega)
   have v2:IntKind.u64.wrap (8 * q)=8 * q:=K2 (by omega) (by omega)
   have v3:IntKind.u64.wrap (2+8 * q)=2+8 * q:=K2 (by omega) (by omega)
   have v4:IntKind.u64.wrap hm=hm:=K2 (by omega) (by omega)
   have v5:IntKind.u64.wrap (4294967296 * hm)=4294967296 * hm:=K2 (by omega) (by omega)
   have v6:IntKind.u64.wrap (2+8 * q+4294967296 * hm)=fw hm q 0:=by rw [K2 (by omega) (by omega)];unfold fw;omega
   have hxy:=o.2.2.2.2.2.2.1
   obtain ⟨O7,L7,g7,A7,F7⟩:=Zfy (fw hm q 0) A6 (s:=r.1) (p:=r.2.1) (Ex.put _ _ _ r.2.2 _ _ _ (Zdh hxy (Int.le_refl _) (by omega)))
   refine Zn [0,5,6,15,16] (Zb Zc [] ?_)
   simp only [push_cast,seval,Za,hb,hi,ho,v1,v2,v3,v4,v5,v6]
   refine g7.then ?_
   have hi:=A7.a.1.hi
   have ho:=A7.ho
   simp only [push_cast,seval,Za,hb,hi,ho]
   refine Q9 fun hU7 => ?_
   have u1:IntKind.i64.wrap (r.2.1+1)=r.2.1+1:=Ul (by omega)
   have u2:IntKind.u64.wrap (u * 4294967296)=u * 4294967296:=K2 (by omega) (by omega)
   have u3:IntKind.u64.wrap (k+u * 4294967296)=k+u * 4294967296:=K2 (by omega) (by omega)
   obtain ⟨O9,L9,g9,A9,F9⟩:=Zfy (k+u * 4294967296) A7 (s:=r.1) (p:=r.2.1+1) (Ex.put _ _ _ _ _ _ _ (Ex.put _ _ _ r.2.2 _ _ _ (Zdh hxy (by omega) (by omega))))
   refine Z2l ?_
   refine Zb Zc [] ?_
   simp only [push_cast,seval,Za,hb,hi,ho,u1,u2,u3]
   refine g9.then ?_
   simp only [push_cast,seval,Za]
   intro hU9
   have m9:n≤n5:=F5.le
   have nf:∀ a,¬ (r.1=s∧r.2.1+a=p∧0≤a):=fun a z=>by have:=o.2.2.2.2.2.2.2.2 p (by rw [z.1];exact hsb);omega
   have e7:pt1 r.1 (r.2.1+1) (k+u * 4294967296) (pt1 r.1 r.2.1 (fw hm q 0) (pt1 s p (fw r.1 r.2.1 1) r.2.2))=pt1 s p (fw r.1 r.2.1 1) (Q3 r.2.2.1 r.1 r.2.1 [fw hm q 0,k+u * 4294967296],r.2.2.2):=by
    rw [Zea (s:=s) (p:=p) r.2.2 (s':=r.1) (p':=r.2.1) _ _ (fun z=>nf 0 ⟨z.1,by omega,by omega⟩),Zea (s:=s) (p:=p) _ (s':=r.1) (p':=r.2.1+1) _ _ (fun z=>nf 1 ⟨z.1,by omega,by omega⟩)];rfl
   rw [e7] at A9
   try simp only [Zh,Ze]
   show Zyy _ _ _ _ .normal _ _ _
   refine ⟨.tup [],O9,n5,m9,⟨L9,rfl,F5.trans (F6.trans (F7.trans F9)),by rw [ea];exact A9⟩,?_⟩
   refine Yu (P:=Try.prog) (.inl rfl) hU9 [] m9 ?_
   simp only [push_cast,seval,Za,Try.results57]
attribute [local push_cast] List.drop_zero Ye Kh
def BO (size most:Int) (O:Objs) (n b i j:Nat) (L:List NR):Option SG→Prop
 | none=>b < n∧i < n∧O b=some ⟨false,71,2,1,[.ref i 0,.val (.bool false)]⟩
 | some σ=>BA size most O n b i j L σ
theorem BO.b_lt {size most:Int} {O:Objs} {n b i j:Nat} {L:List NR}:∀ {o:Option SG},BO size most O n b i j L o→b < n∧i < n
 | none,h=>⟨h.1,h.2.1⟩
 | some _,h=>⟨BA.hb h,(BA.a h).1.hi⟩
def Zj1:Option SG→Bool
 | none=>false
 | some _=>true
theorem BO.ho {size most:Int} {O:Objs} {n b i j:Nat} {L:List NR}:∀ {o:Option SG},BO size most O n b i j L o→O b=some ⟨false,71,2,1,[.ref i 0,.val (.bool (Zj1 o))]⟩
 | none,h=>h.2.2
 | some _,h=>BA.ho h
theorem BO.own {size most:Int} {O:Objs} {n b i j:Nat} {L:List NR} (x:Option GObj):∀ {o:Option SG},BO size most O n b i j L o→BO size most (O.upd n x) (n+1) b i j L o
 | none,h=>⟨Nat.lt_succ_of_lt h.1,Nat.lt_succ_of_lt h.2.1,by rw [Ya _ _ (by have:=h.1;omega)];exact h.2.2⟩
 | some _,h=>BA.own h x
def Z3t (size most:Int) (b i j:Nat) (O:Objs) (n:Nat) (L:List NR) (res:Option SG) (r:G) (O':Objs) (n':Nat):Prop :=
 ∃ L',r = .tup []∧Fr (isB b) i j O n L O' n' L'∧BO size most O' n' b i j L' res
theorem EndR.o {size most:Int} {b i j:Nat} {O:Objs} {n:Nat} {L:List NR} {res:Option SG} {r:G} {O':Objs} {n':Nat} (hb:b < n) (hi:i < n) (h:EndR size most b i j O n L res r O' n'):Z3t size most b i j O n L res r O' n':=by
 obtain ⟨L',e,F,h⟩:=h
 have:=F.le
 refine ⟨L',e,F,?_⟩
 cases res with
 | none=>exact ⟨by omega,by omega,h⟩
 | some τ=>exact h
def Zdx:Option (Int×Int×SG)→Int×Int
 | none=>(-1,-1)
 | some r=>(r.1,r.2.1)
theorem Zor {O:Objs} {n b i j:Nat} {L:List NR} {size most:Int} (k:Int) {σ:SG} (h:BA size most O n b i j L σ) (hs:St size most σ) :
  ∃ O' n' L',GTo Try.prog 29 [.ref b 0,.val (.int .i64 k)] O n (.tup [.val (.int .i64 (Zdx (Xe size σ k)).1),.val (.int .i64 (Zdx (Xe size σ k)).2)]) O' n'∧BO size most O' n' b i j L' ((Xe size σ k).map fun r=>r.2.2)∧Fr (isB b) i j O n L O' n' L':=by
 have hi:=h.a.1.hi
 have hb:=h.hb
 cases e:Xe size σ k with
 | none =>
  obtain ⟨O',n',L',g1,g2,g3⟩:=Zs4 h hs e
  have:=g3.le
  exact ⟨O',n',L',g1,⟨by omega,by omega,g2⟩,g3⟩
 | some r =>
  obtain ⟨O',n',L',g1,g2,g3⟩:=Zs5 h hs e
  exact ⟨O',n',L',g1,g2,g3⟩
theorem Zpq {O:Objs} {n b i j:Nat} {L:List NR} {size most:Int} {o:Option SG} (h:BO size most O n b i j L o) {s p hm q k u:Int} (hh:∀ σ,o=some σ→St size most σ∧(0≤k∧k≤1∧0≤u∧u < 4294967296)∧X0 σ.1 s p 1=true∧(0≤q∧q≤131072)∧(0≤hm∧hm≤1000)) :
  GCalls Try.prog 57 [.ref b 0,.val (.int .i64 s),.val (.int .i64 p),.val (.int .i64 hm),.val (.int .i64 q),.val (.int .u64 k),.val (.int .u64 u)] O n (Z3t size most b i j O n L (o.bind fun σ=>Zaf size σ s p k u hm q)):=by
 cases o with
 | none=>exact (Z17 h.1 h.2.1 h.2.2).then ⟨L,rfl,Fr.refl _ _ _ _ _ _,h⟩
 | some σ =>
  obtain ⟨a1,a2,a3,a4,a5⟩:=hh σ rfl
  exact (Z4r h a1 a2 a3 a4 a5).mono fun r O' n' hE=>hE.o h.hb h.a.1.hi
theorem Yb0 {O:Objs} {n b i j:Nat} {L:List NR} {size most:Int} {o:Option SG} (h:BO size most O n b i j L o) {s p v:Int} (hh:∀ σ,o=some σ→X0 σ.1 s p 1=true) :
  GCalls Try.prog 61 [.ref b 0,.val (.int .i64 s),.val (.int .i64 p),.val (.int .u64 v)] O n (Z3t size most b i j O n L (o.map (pt1 s p v))):=by
 cases o with
 | none=>exact (Z3d h.1 h.2.2 h.2.1).then ⟨L,rfl,Fr.refl _ _ _ _ _ _,h⟩
 | some σ =>
  obtain ⟨O',L',g1,g2,g3⟩:=Zfy v h (hh σ rfl)
  exact g1.then ⟨L',rfl,g3,g2⟩
theorem Z11 {O:Objs} {n b i j:Nat} {L:List NR} {size most:Int} {o:Option SG} (h:BO size most O n b i j L o) {s p:Int} {ws:List Int} (hw:ws.length≤1000000) (hh:∀ σ,o=some σ→(0≤p∧p+(ws.length:Int)≤1000000)∧(X0 σ.1 s p (ws.length:Int)=true∨ws=[])) :
  GCalls Try.prog 58 [.ref b 0,.val (.int .i64 s),.val (.int .i64 p),.sl ws.length (fl (eI .u64) ws)] O n (Z3t size most b i j O n L (o.map fun σ=>(Q3 σ.1 s p ws,σ.2))):=by
 cases o with
 | none=>exact (Z7h h.1 h.2.1 h.2.2 hw).then ⟨L,rfl,Fr.refl _ _ _ _ _ _,h⟩
 | some σ =>
  obtain ⟨a1,a2⟩:=hh σ rfl
  exact Z9e h a1 a2 fun O' n' L' x y=>⟨L',rfl,y,x⟩
def PR (size most:Int) (f:Tr→Int→Int→SG→Option SG) (t:Tr):Prop:=∀ {O:Objs} {n b i j:Nat} {L:List NR} {σ:SG} {s p:Int},BA size most O n b i j L σ→St size most σ→X0 σ.1 s p 1=true →
 GCalls Try.prog 30 [.ref b 0,.val (.int .i64 s),.val (.int .i64 p),.agg (Zm t)] O n (Z3t size most b i j O n L (f t s p σ))
theorem Zyk {O:Objs} {n b i j:Nat} {L:List NR} {size most:Int} {o:Option SG} {f:Tr→Int→Int→SG→Option SG} {t:Tr} {s p:Int} (h:BO size most O n b i j L o) (hf:Zrs size most f) (hk:∀ x∈t.Kids,PR size most f x) (hl:t.Kids.length≤1000000)
  (hh:∀ σ,o=some σ→St size most σ∧(0≤p∧p+(t.Kids.length:Int)≤1000000)∧(∀ q,p≤q→q < p+(t.Kids.length:Int)→X0 σ.1 s q 1=true)) :
  GCalls Try.prog 59 [.ref b 0,.val (.int .i64 s),.val (.int .i64 p),.agg (Zm t)] O n (Z3t size most b i j O n L (o.bind (Zak f s p t.Kids))):=by
 obtain ⟨hb0,hi0⟩:=h.b_lt
 refine Ztc Zc Try.call59 Try.func59 rfl (Nat.le_of_ble_eq_true rfl) fun hU => ?_
 have hN0:O n=none:=hU.fresh _ (Nat.le_refl _)
 have hN:∀ k,O (n+k)=none:=fun k=>hU.fresh _ (Nat.le_add_right _ _)
 show Go.Proofs.Ytaddaloondpnkaa.W _ _ _ _ ⟨33,[],[(0,.ref b 0),(1,.val (.int .i64 s)),(2,.val (.int .i64 p)),(3,.agg (Zm t))]⟩ (Z4 O n []) _
 rw [Kb hU.fresh]
 refine Zn [0,1,2,7] (Zb Zc [] ?_)
 simp only [push_cast,seval,Za,hi0,hb0,hN0,hN]
 have A0:=h.own (some ⟨false,25,3,1,Zm t⟩)
 have F0:=Fr.own (X:=isB b) (i:=i) (j:=j) (O:=O) (n:=n) L (some ⟨false,25,3,1,Zm t⟩)
 obtain ⟨Z,hZ⟩:∃ Z,Z=O.upd n (some ⟨false,25,3,1,Zm t⟩):=⟨_,rfl⟩
 have hZn:Z n=some ⟨false,25,3,1,Zm t⟩:=by rw [hZ];exact Ye _ _ _
 have hZ2:=hZ
 simp only [push_cast] at hZ2
 rw [← hZ] at A0 F0
 rw [← hZ2]
 have hb:b < n+1:=by omega
 have hi:i < n+1:=by omega
 have hn1:n < n+1:=Nat.lt_succ_self n
 refine Zn [0,1,2,7,8] (Zb Zc [] ?_)
 simp only [push_cast,seval,Za,hi,hb,hn1]
 refine Yl ?_
 have hnt:∀ σ,o=some σ→¬ ter i j L n:=fun σ e q=>by subst e;have:=BA.a h |>.1.ter_lt q;omega
 refine Zsg (S:=Int×Objs×Nat×List NR×Option SG) (fun q=>⟨33,[],[(0,.ref b 0),(1,.val (.int .i64 s)),(2,.val (.int .i64 p)),(7,.ref n 0),(8,.val (.int .i64 q.1))]⟩) (fun q=>q.2.1) (fun q=>q.2.2.1)
  (fun q=>(0≤q.1∧q.1≤(t.Kids.length:Int))∧BO size most q.2.1 q.2.2.1 b i j q.2.2.2.1 q.2.2.2.2∧Fr (isB b) i j O n L q.2.1 q.2.2.1 q.2.2.2.1∧q.2.1 n=some ⟨false,25,3,1,Zm t⟩∧n < q.2.2.1∧(∀ τ,q.2.2.2.2=some τ→St size most τ∧(∃ σ,o=some σ∧Ex σ τ)∧¬ ter i j q.2.2.2.1 n)∧o.bind (Zak f s p t.Kids)=q.2.2.2.2.bind (Zak f s (p+q.1) (t.Kids.drop q.1.toNat)))
  (fun q=>((t.Kids.length:Int) - q.1).toNat) (fun q hq=>hq.2.2.1.le) (fun q hq => ?_) (0,Z,n+1,L,o) ⟨⟨Int.le_refl _,by omega⟩,A0,F0,hZn,hn1,fun τ e=>⟨(hh τ e).1,⟨τ,e,Ex.refl _⟩,hnt τ e⟩,by simp⟩
 obtain ⟨k,Y,m,M,τo⟩:=q
 obtain ⟨⟨k0,k1⟩,g1,g3,g4,g5,g6,g8⟩:=hq
 dsimp only at k0 k1 g1 g3 g4 g5 g6 g8 ⊢
 obtain ⟨hb,hi⟩:=g1.b_lt
 have hob:=g1.ho
 simp only [push_cast] at g4
 refine Q9 fun hUY => ?_
 by_cases c1:k < (t.Kids.length:Int)∧Zj1 τo=true
 ·have d1:decide (k < (t.Kids.length:Int))=true:=decide_eq_true c1.1
  obtain ⟨τ,rfl⟩:∃ τ,τo=some τ:=by
   cases τo with
   | none=>exact absurd c1.2 (by decide)
   | some τ=>exact ⟨τ,rfl⟩
  rw [c1.2] at hob
  obtain ⟨x,hx⟩:=Zkq (L:=t.Kids) k0 c1.1
  obtain ⟨x5,hx5,ax5,bx5,cx5,_⟩:=bE (f:=Zl) (K:=fun y=>some y) (r:=x) Za3 (fun _=>rfl) (by decide) (by rw [hx];rfl)
  obtain rfl:x5=x:=Option.some.inj (hx5.symm.trans hx)
  have hstep:=Z4e f s p k0 hx τ
  obtain ⟨t1,⟨σ,e0,t2⟩,t3⟩:=g6 τ rfl
  obtain ⟨hs,hp,hbb⟩:=hh σ e0
  have hwp:IntKind.i64.wrap (p+k)=p+k:=Ul (by omega)
  refine Zf ?_
  refine Zn [0,1,2,7,8,19] (Zb Zc (Zx6 []) ?_)
  simp only [push_cast,seval,Za,hb,hi,hob,g4,g5,d1]
  refine Zq (t:=true) rfl (fun c15 => ?_) (fun c15=>by cases c15)
  refine Zt ?_
  try simp only [Zh,Ze]
  refine Zf ?_
  refine Yl ?_
  refine Zb Zc [] ?_
  simp only [push_cast,Nat.reduceAdd,Nat.reduceSub,Nat.reduceMul,Nat.reduceLeDiff,Nat.reduceLT,Nat.reduceEqDiff,↓reduceIte,reduceCtorEq,Int.reduceBEq,Int.reduceBNe,Nat.reduceBEq,Int.reduceLE,Int.reduceLT,Int.reduceEq,Int.reduceNe,Int.reduceNeg,Nat.reduceDiv,Nat.reduceMod,Nat.reducePow,Za,hb,hi,hob,g4,g5,hwp,ax5,bx5,cx5]
  refine (hk x5 (Xg hx) (s:=s) (p:=p+k) g1 t1 (t2 _ _ _ (hbb (p+k) (by omega) (by omega)))).mono fun r O' n' hE => ?_
  obtain ⟨L',rfl,F4,hres⟩:=hE
  have hn':=F4.le
  have hnb:n≠b:=by omega
  simp only [push_cast,seval,Za]
  refine Q9 fun hU9 => ?_
  obtain ⟨q1,q2,q3⟩:=F4.keepB g5 hnb t3
  obtain ⟨hb9,hi9⟩:=hres.b_lt
  refine Zb Zc [] ?_
  have hwk:IntKind.i64.wrap (k+1)=k+1:=Ul (by omega)
  simp only [push_cast,seval,Za,hb9,hi9,q2,hwk]
  refine .inl ⟨rfl,(k+1,O',n',L',f x5 s (p+k) τ),⟨⟨by omega,by omega⟩,hres,g3.trans F4,q1.trans g4,q2,fun ρ e => ?_,?_⟩,by show ((t.Kids.length:Int) - (k+1)).toNat < ((t.Kids.length:Int) - k).toNat;omega,Kt hU9 (Nat.le_trans g3.le F4.le) rfl ?_⟩
  ·obtain ⟨u1,u2⟩:=(hf x5 s (p+k) τ t1).1 ρ e
   exact ⟨u1,⟨σ,e0,t2.trans u2⟩,q3⟩
  ·show o.bind (Zak f s p t.Kids)=(f x5 s (p+k) τ).bind (Zak f s (p+(k+1)) (t.Kids.drop (k+1).toNat))
   rw [g8];exact hstep
  simp only [push_cast,seval,Za,hb9,hi9,q2]
 have hex:o.bind (Zak f s p t.Kids)=τo:=by
  rw [g8]
  cases τo with
  | none=>rfl
  | some τ =>
   have:¬ k < (t.Kids.length:Int):=fun z=>c1 ⟨z,rfl⟩
   rw [List.drop_eq_nil_of_le (by omega)];rfl
 refine Zf ?_
 refine Yt (E':=⟨33,[],[(0,.ref b 0),(1,.val (.int .i64 s)),(2,.val (.int .i64 p)),(7,.ref n 0),(8,.val (.int .i64 k)),(19,.val (.bool false))]⟩) (O':=Y) (n0:=m) ?_ ?_
 ·by_cases c2:k < (t.Kids.length:Int)
  ·have d1:decide (k < (t.Kids.length:Int))=true:=decide_eq_true c2
   have d2:Zj1 τo=false:=by
    cases h:Zj1 τo with
    | true=>exact absurd ⟨c2,h⟩ c1
    | false=>rfl
   rw [d2] at hob
   refine Zb Zc (Zx6 []) ?_
   simp only [push_cast,seval,Za,hb,hi,hob,g4,g5,d1]
   refine And.intro rfl (Kt hUY g3.le rfl ?_)
   simp only [push_cast,seval,Za,hb,hi,hob,g4,g5]
  have d1:decide (k < (t.Kids.length:Int))=false:=decide_eq_false c2
  refine Zb Zc (Z1u []) ?_
  simp only [push_cast,seval,Za,hb,hi,hob,g4,g5,d1]
  refine And.intro rfl (Kt hUY g3.le rfl ?_)
  simp only [push_cast,seval,Za,hb,hi,hob,g4,g5]
 refine Zq (t:=false) rfl (fun c15=>by cases c15) (fun c15 => ?_)
 refine X9 ?_
 try simp only [Zh,Ze,↓reduceIte,Nat.reduceEqDiff]
 refine .inr ⟨(fun h=>by cases h),?_⟩
 try simp only [Zh,Ze,↓reduceIte,Nat.reduceEqDiff]
 show Zyy _ _ _ _ .normal _ _ _
 refine ⟨.tup [],Y,m,g3.le,⟨M,rfl,g3,by rw [hex];exact g1⟩,?_⟩
 refine Yu (P:=Try.prog) (.inl rfl) hUY [] g3.le ?_
 simp only [push_cast,seval,Za,Try.results59]
attribute [local push_cast] Bool.and_self List.drop_succ_cons Zbi List.getD_cons_zero List.getD_cons_succ or_false gt_iff_lt Zae Qh Xl Nat.add_assoc Zcs List.length_append Zds Zfk Zst Zpu Zyw Zx3 Z2z Zfx Zux Zfw Zc8 Zb5
theorem Fit2.base {ba ba':Nat} {E E':Env} {O O':Objs} {n n':Nat} (h:Fit2 ba' E O n E' O' n') (hb:ba≤ba'):Fit2 ba E O n E' O' n':=fun w m a hM hE=>by
 obtain ⟨m',a1,a2,a3⟩:=h w m a hM hE
 exact ⟨m',a1,a2,a3.base hb⟩
noncomputable def Z6z (t:Tr) (s:Int×List Int):Option ((Int×List Int) ⊕ List Int) :=
 cond (decide (s.1 < (t.Kids.length:Int))) ((Z9 t.Kids s.1).bind fun x2=>(Z9 x2.Words 0).bind fun y3=>(Zeu 8 s.2 ([y3]:List Int)).bind fun l4=>some (.inl ((IntKind.i64.wrap (s.1+1)),l4))) (some (.inr s.2))
theorem Z81 {t:Tr} {d:Nat} (hF:Fine t d) (hk:2≤t.Kind∧t.Kind≤7):Z6 (Z6z t) (0,[])=some (ato t):=by
 have p:=hF.pt
 have pk:=Zln t
 have ha:=Zoq hF hk
 have l0:=Z6p t.Kids (fun k=>k.Words.headD 0) (Z6z t) [] (by omega) (fun i x out hi hx hm ho=>by
  obtain ⟨w,hw,_⟩:=ha x hm
  have e:Z9 x.Words 0=some w:=by rw [hw];rfl
  unfold Z6z
  simp only [List.length_nil] at ho ⊢
  rw [Zd8 hi,cond_true,Xh hx,Option.bind_some,e,Option.bind_some,Zag (by simp only [List.length_singleton];omega) (by simp only [List.length_singleton];omega),Option.bind_some,hw]
  rfl) (fun out=>by
  unfold Z6z
  simp only
  rw [Zd7,cond_false])
 rw [l0,List.nil_append]
 rfl
theorem Ze4 {A:List (List Int)} {s p k q m:Int} (h:X0 A s p k=true) (h1:p≤q) (h0:0≤m) (h2:q+m≤p+k):X0 A s q m=true:=by
 obtain ⟨x,hx,a,b,c⟩:=Kv h
 exact Zh7 hx (by omega) h0 (by omega)
theorem Zo5 {size most:Int} {σ:SG} {k:Int} (hs:St size most σ):-1≤(Zdx (Xe size σ k)).1∧(Zdx (Xe size σ k)).1≤16∧-1≤(Zdx (Xe size σ k)).2∧(Zdx (Xe size σ k)).2≤200000:=by
 cases e:Xe size σ k with
 | none=>exact ⟨by decide,by decide,by decide,by decide⟩
 | some r =>
  have g:=Us hs e
  have:r.1≤16:=by
   obtain ⟨y,hy,_⟩:=Kv g.2.2.2.2.2.2.1
   have:=K4 hy
   have:=g.2.2.2.2.1.h16
   omega
  exact ⟨by show -1≤r.1;omega,this,by show -1≤r.2.1;omega,by show r.2.1≤200000;omega⟩
structure Fx (size most:Int) (V:Int×Int) (k:Int) (τ:SG):Prop where
 st:St size most τ
 hb:X0 τ.1 V.1 V.2 k=true
 v1:0≤V.1
 v2:0≤V.2
 v3:V.2+k≤131072
 k0:0≤k
theorem Fx.ex {size most:Int} {V:Int×Int} {k:Int} {τ ρ:SG} (h:Fx size most V k τ) (hs:St size most ρ) (he:Ex τ ρ):Fx size most V k ρ:=⟨hs,he _ _ _ h.hb,h.v1,h.v2,h.v3,h.k0⟩
theorem Zsj {size most:Int} {σ:SG} {k:Int} (hs:St size most σ):∀ τ,(Xe size σ k).map (fun r=>r.2.2)=some τ→Fx size most (Zdx (Xe size σ k)) k τ∧Ex σ τ:=fun τ h=>by
 cases e:Xe size σ k with
 | none=>rw [e] at h;cases h
 | some r =>
  rw [e] at h
  have:=Option.some.inj h;subst this
  have g:=Us hs e
  exact ⟨⟨g.2.2.2.2.1,g.2.2.2.2.2.2.1,g.2.1,g.2.2.1,g.2.2.2.1,g.1⟩,g.2.2.2.2.2.1⟩
theorem Zxa {size most:Int} {V:Int×Int} {k0:Int} {o:Option SG} {s p k u hm q:Int} (h:∀ τ,o=some τ→Fx size most V k0 τ):∀ ρ,(o.bind fun σ=>Zaf size σ s p k u hm q)=some ρ→Fx size most V k0 ρ:=fun ρ e=>by
 cases o with
 | none=>cases e
 | some τ =>
  have a:=Zsh (h τ rfl).st e
  exact (h τ rfl).ex a.1 a.2.1
theorem Z8u {size most:Int} {V:Int×Int} {k0:Int} {o:Option SG} {s p:Int} {ws:List Int} (h:∀ τ,o=some τ→Fx size most V k0 τ):∀ ρ,(o.map fun σ=>((Q3 σ.1 s p ws,σ.2):SG))=some ρ→Fx size most V k0 ρ:=fun ρ e=>by
 cases o with
 | none=>cases e
 | some τ =>
  have:=Option.some.inj e;subst this
  exact (h τ rfl).ex (St.lays _ _ (h τ rfl).st _) (Ex.lays _ _ _ _)
theorem Ybw {size most:Int} {V:Int×Int} {k0:Int} {o:Option SG} {s p v:Int} (h:∀ τ,o=some τ→Fx size most V k0 τ):∀ ρ,o.map (pt1 s p v)=some ρ→Fx size most V k0 ρ:=fun ρ e=>by
 cases o with
 | none=>cases e
 | some τ =>
  have:=Option.some.inj e;subst this
  exact (h τ rfl).ex ((h τ rfl).st.put _ _ _) (Ex.put _ _ _ _)
theorem Z1d (f:Tr→Int→Int→SG→Option SG) (s m w p:Int) {ts:List Tr} {k:Int} {x:Tr} (h0:0≤k) (hx:Z9 ts k=some x) (σ:SG):Zde f s m w (p+k * m) (ts.drop k.toNat) σ=(Zak f s (p+k * m+w) x.Kids (Q3 σ.1 s (p+k * m) x.Words,σ.2)).bind (Zde f s m w (p+(k+1) * m) (ts.drop (k+1).toNat)):=by
 unfold Z9 at hx
 rw [if_pos h0] at hx
 obtain ⟨hl2,e⟩:=List.getElem?_eq_some_iff.1 hx
 rw [List.drop_eq_getElem_cons hl2,Zde,e,show (k+1).toNat=k.toNat+1 by omega,show p+(k+1) * m=p+k * m+m by rw [Int.add_mul];omega]
theorem Zsu (size most:Int):∀ (N:Nat) (t:Tr) (d:Nat),SizeOf.sizeOf t < N→Fine t d→¬ t.Kind=10→PR size most (Gp false size N) t
 | 0,_,_,h,_,_=>by omega
 | N+1,t,d,hsz,hF,h10=>by
  rename_i O n b i j L σ s p
  intro h hs hsb
  have hf:=Zkw false size most N
  have pp:=hF.pt
  have pk:=Zln t
  obtain ⟨x0,hx0,p0,_,p1⟩:=Kv hsb
  have hx0b:=hs.hB x0 (Xg hx0)
  have hl0:=hs.hl0
  have hb0:=h.hb
  have hi0:=h.a.1.hi
  refine Ztc Zc Try.call30 Try.func30 rfl (Nat.le_of_ble_eq_true rfl) fun hU => ?_
  have hN0:O n=none:=hU.fresh _ (Nat.le_refl _)
  have hN:∀ k,O (n+k)=none:=fun k=>hU.fresh _ (Nat.le_add_right _ _)
  show Go.Proofs.Ytaddaloondpnkaa.W _ _ _ _ ⟨238,[],[(0,.ref b 0),(1,.val (.int .i64 s)),(2,.val (.int .i64 p)),(3,.agg (Zm t))]⟩ (Z4 O n []) _
  rw [Kb hU.fresh]
  refine Zn [0,1,2,7] (Zb Zc [] ?_)
  simp only [push_cast,seval,Za,hi0,hb0,hN0,hN]
  have A0:=h.own (some ⟨false,25,3,1,Zm t⟩)
  have F0:=Fr.own (X:=isB b) (i:=i) (j:=j) (O:=O) (n:=n) L (some ⟨false,25,3,1,Zm t⟩)
  obtain ⟨Z,hZ⟩:∃ Z,Z=O.upd n (some ⟨false,25,3,1,Zm t⟩):=⟨_,rfl⟩
  have hZn:Z n=some ⟨false,25,3,1,Zm t⟩:=by rw [hZ];exact Ye _ _ _
  have hZ2:=hZ
  simp only [push_cast] at hZ2
  rw [← hZ] at A0 F0
  rw [← hZ2]
  have hb:b < n+1:=by omega
  have hi:i < n+1:=by omega
  have hn1:n < n+1:=Nat.lt_succ_self n
  have hnt:¬ ter i j L n:=fun q=>by have:=h.a.1.ter_lt q;omega
  have hnb:n≠b:=by omega
  simp only [push_cast] at hZn
  refine Q9 fun hUZ => ?_
  refine Zn [0,1,2,7,8] (Zb Zc [] ?_)
  simp only [push_cast,seval,Za,hi,hb,hn1,hZn]
  refine Zn [0,1,2,7,8,28] (Zb Zc [] ?_)
  simp only [push_cast,seval,Za,hi,hb,hn1,hZn]
  refine Yl ?_
  refine Zn [0,1,2,7,8,28,79] (Zb Zc [] ?_)
  simp only [push_cast,seval,Za,hi,hb,hn1,hZn]
  refine Zq (t:=(t.Kind == 0)) rfl (fun c => ?_) (fun c => ?_)
  ·have c0:t.Kind=0:=eq_of_beq c
   have eqL:Gp false size (N+1) t s p σ=some σ:=by simp only [Gp];rw [if_pos c0]
   refine Zv ?_
   try simp only [Zh,Ze]
   refine ⟨.tup [],Z,n+1,F0.le,⟨L,rfl,F0,by rw [eqL];exact A0⟩,?_⟩
   refine Yu (P:=Try.prog) (.inr rfl) hUZ [] F0.le ?_
   simp only [push_cast,seval,Za,Try.results30]
  have c0:¬ t.Kind=0:=ne_of_beq_false c
  have kd:=Z6h hF c0 h10
  have eqL:Gp false size (N+1) t s p σ=(Xe size σ (pwd t)).bind fun r=>(Zaf size r.2.2 s p (pkd t) (pup t) r.1 r.2.1).bind fun τ=>inT false (Gp false size N) r.1 r.2.1 t τ:=by simp only [Gp];rw [if_neg c0]
  obtain ⟨i1,i2,i3,ik⟩:=Zin hF.rt c0 h10
  refine Zn [0,1,2,7,8,28,81] (Zb Zc [] ?_)
  simp only [push_cast,seval,Za,hi,hb,hn1,hZn]
  refine Zq (t:=(t.Kind == 1)) rfl (fun c => ?_) (fun c => ?_)
  ·have c1:t.Kind=1:=eq_of_beq c
   obtain ⟨V,hV⟩:∃ V,V=Zdx (Xe size σ (pwd t)):=⟨_,rfl⟩
   have hVb:=Zo5 (k:=pwd t) hs
   have hfx:=Zsj (k:=pwd t) hs
   have hm1:∀ τ,(Xe size σ (pwd t)).map (fun r=>r.2.2)=some τ→X0 τ.1 s p 1=true:=fun τ e=>(hfx τ e).2 _ _ _ hsb
   have hfx1:∀ τ,(Xe size σ (pwd t)).map (fun r=>r.2.2)=some τ→Fx size most V (pwd t) τ:=fun τ e=>by rw [hV];exact (hfx τ e).1
   obtain ⟨O5,n5,L5,g5,A5,F5⟩:=Zor (pwd t) A0 hs
   rw [← hV] at hVb g5
   obtain ⟨q1,q2,q3⟩:=F5.keepB hn1 hnb hnt
   have ep:pwd t=(t.Words.length:Int)+(t.Kids.length:Int):=Zof c1
   have ek:pkd t=0:=by unfold pkd;rw [if_pos c1]
   have eu:pup t=(t.Words.length:Int)+65536 * (t.Kids.length:Int):=by unfold pup;rw [if_pos c1]
   have hi2:=i2 c1
   have w0:IntKind.i64.wrap ((t.Words.length:Int)+(t.Kids.length:Int))=pwd t:=by rw [ep];exact Ul (by omega)
   refine Zn [0,1,2,7,8,9,10] (Zb Zc [] ?_)
   simp only [push_cast,seval,Za,hi,hb,hn1,hZn,w0]
   refine g5.then ?_
   have hZn:=q1.trans hZn
   have hn1:=q2
   have hnt:=q3
   have F9:=F0.trans F5
   obtain ⟨hb,hi⟩:=A5.b_lt
   simp only [push_cast,seval,Za,hi,hb,hn1,hZn]
   refine Q9 fun hU5 => ?_
   have u1:IntKind.u64.wrap (t.Words.length:Int)=(t.Words.length:Int):=K2 (by omega) (by omega)
   have u2:IntKind.u64.wrap (t.Kids.length:Int)=(t.Kids.length:Int):=K2 (by omega) (by omega)
   have u3:IntKind.u64.wrap (65536 * (t.Kids.length:Int))=65536 * (t.Kids.length:Int):=K2 (by omega) (by omega)
   have u4:IntKind.u64.wrap ((t.Words.length:Int)+65536 * (t.Kids.length:Int))=pup t:=by rw [eu];exact K2 (by omega) (by omega)
   refine Zn [0,7,8,9,10] (Zb Zc [] ?_)
   simp only [push_cast,seval,Za,hi,hb,hn1,hZn,u1,u2,u3,u4]
   refine (Zpq A5 (s:=s) (p:=p) (k:=0) (u:=pup t) (q:=V.2) (hm:=V.1) (fun τ e=>⟨(hfx1 τ e).st,⟨by decide,by decide,by omega,by have a3:=(hfx1 τ e).v3;have a0:=(hfx1 τ e).k0;omega⟩,hm1 τ e,⟨(hfx1 τ e).v2,by have a3:=(hfx1 τ e).v3;have a0:=(hfx1 τ e).k0;omega⟩,⟨(hfx1 τ e).v1,by omega⟩⟩)).mono fun r O6 n6 hE => ?_
   obtain ⟨L6,rfl,F6,A6⟩:=hE
   have F9:=F9.trans F6
   obtain ⟨q1,q2,q3⟩:=F6.keepB hn1 hnb hnt
   have hZn:=q1.trans hZn
   have hn1:=q2
   have hnt:=q3
   obtain ⟨hb,hi⟩:=A6.b_lt
   simp only [push_cast,seval,Za,hi,hb,hn1,hZn]
   refine Q9 fun hU6 => ?_
   have hfx2:=Zxa (s:=s) (p:=p) (k:=0) (u:=pup t) (hm:=V.1) (q:=V.2) hfx1
   refine Zn [0,7,8,9,10] (Zb Zc [] ?_)
   simp only [push_cast,seval,Za,hi,hb,hn1,hZn]
   refine (Z11 A6 (s:=V.1) (p:=V.2) (ws:=t.Words) (by omega) (fun τ e=>⟨⟨(hfx2 τ e).v2,by have:=(hfx2 τ e).v3;omega⟩,.inl (Ze4 (hfx2 τ e).hb (Int.le_refl _) (by omega) (by omega))⟩)).mono fun r O6 n6 hE => ?_
   obtain ⟨L6,rfl,F6,A6⟩:=hE
   have F9:=F9.trans F6
   obtain ⟨q1,q2,q3⟩:=F6.keepB hn1 hnb hnt
   have hZn:=q1.trans hZn
   have hn1:=q2
   have hnt:=q3
   obtain ⟨hb,hi⟩:=A6.b_lt
   simp only [push_cast,seval,Za,hi,hb,hn1,hZn]
   refine Q9 fun hU6 => ?_
   have hfx3:=Z8u (s:=V.1) (p:=V.2) (ws:=t.Words) hfx2
   have w3:IntKind.i64.wrap (V.2+(t.Words.length:Int))=V.2+(t.Words.length:Int):=Ul (by omega)
   refine Z2l ?_
   refine Zb Zc [] ?_
   simp only [push_cast,seval,Za,hi,hb,hn1,hZn,w3]
   refine (Zyk A6 (s:=V.1) (p:=V.2+(t.Words.length:Int)) hf (fun x hx=>@Zsu size most N x (d - 1) (by have:=Ka hx;omega) (hF.kid hx) (Zdc (by omega) (ik x hx).2).1) (by omega) (fun τ e=>⟨(hfx3 τ e).st,⟨by have:=(hfx3 τ e).v2;omega,by have:=(hfx3 τ e).v3;omega⟩,fun q a b=>Ze4 (hfx3 τ e).hb (by omega) (by omega) (by omega)⟩)).mono fun r O6 n6 hE => ?_
   obtain ⟨L6,rfl,F6,A6⟩:=hE
   have F9:=F9.trans F6
   simp only [push_cast,seval,Za,hi,hb,hn1,hZn]
   intro hU9
   have hEQ:((Xe size σ (pwd t)).bind fun r=>(Zaf size r.2.2 s p (pkd t) (pup t) r.1 r.2.1).bind fun τ=>inT false (Gp false size N) r.1 r.2.1 t τ)=(((((Xe size σ (pwd t)).map fun r=>r.2.2).bind fun σ=>Zaf size σ s p 0 (pup t) V.1 V.2).map fun σ=>((Q3 σ.1 V.1 V.2 t.Words,σ.2):SG)).bind (Zak (Gp false size N) V.1 (V.2+(t.Words.length:Int)) t.Kids)):=by
    rw [hV,ek]
    cases Xe size σ (pwd t) with
    | none=>rfl
    | some r =>
     show (Zaf size r.2.2 s p 0 (pup t) r.1 r.2.1).bind _=_
     simp only [Option.map_some,Option.bind_some,Zdx]
     cases Zaf size r.2.2 s p 0 (pup t) r.1 r.2.1 with
     | none=>rfl
     | some ρ=>show inT false (Gp false size N) r.1 r.2.1 t ρ=_;unfold inT;rw [if_pos c1];rfl
   try simp only [Zh,Ze,↓reduceIte,Nat.reduceEqDiff]
   show Zyy _ _ _ _ .normal _ _ _
   refine ⟨.tup [],O6,n6,F9.le,⟨L6,rfl,F9,?_⟩,?_⟩
   ·have e9:Gp false size (N+1) t s p σ=_:=eqL
    rw [e9,hEQ]
    exact A6
   refine Yu (P:=Try.prog) (.inl rfl) hU9 [] F9.le ?_
   simp only [push_cast,seval,Za,Try.results30]
  have c1:¬ t.Kind=1:=ne_of_beq_false c
  refine Zn [0,1,2,7,8,28,122] (Zb Zc [] ?_)
  simp only [push_cast,seval,Za,hi,hb,hn1,hZn]
  refine Zq (t:=(t.Kind == 8)) rfl (fun c => ?_) (fun c => ?_)
  ·have c8:t.Kind=8:=eq_of_beq c
   obtain ⟨V,hV⟩:∃ V,V=Zdx (Xe size σ (pwd t)):=⟨_,rfl⟩
   have hVb:=Zo5 (k:=pwd t) hs
   have hfx:=Zsj (k:=pwd t) hs
   have hm1:∀ τ,(Xe size σ (pwd t)).map (fun r=>r.2.2)=some τ→X0 τ.1 s p 1=true:=fun τ e=>(hfx τ e).2 _ _ _ hsb
   have hfx1:∀ τ,(Xe size σ (pwd t)).map (fun r=>r.2.2)=some τ→Fx size most V (pwd t) τ:=fun τ e=>by rw [hV];exact (hfx τ e).1
   obtain ⟨O5,n5,L5,g5,A5,F5⟩:=Zor (pwd t) A0 hs
   rw [← hV] at hVb g5
   obtain ⟨q1,q2,q3⟩:=F5.keepB hn1 hnb hnt
   have ep:pwd t=(t.Kids.length:Int):=Z0m c8
   have ek:pkd t=1:=by unfold pkd;rw [if_neg c1]
   have eu:pup t=6+8 * (t.Kids.length:Int):=by unfold pup;rw [if_neg c1,if_neg (by omega),c8];omega
   have g5':=g5
   rw [ep] at g5'
   refine Zn [0,1,2,7,8,11,12] (Zb Zc [] ?_)
   simp only [push_cast,seval,Za,hi,hb,hn1,hZn]
   refine g5'.then ?_
   have hZn:=q1.trans hZn
   have hn1:=q2
   have hnt:=q3
   have F9:=F0.trans F5
   obtain ⟨hb,hi⟩:=A5.b_lt
   simp only [push_cast,seval,Za,hi,hb,hn1,hZn]
   refine Q9 fun hU5 => ?_
   have u2:IntKind.u64.wrap (t.Kids.length:Int)=(t.Kids.length:Int):=K2 (by omega) (by omega)
   have u3:IntKind.u64.wrap (8 * (t.Kids.length:Int))=8 * (t.Kids.length:Int):=K2 (by omega) (by omega)
   have u4:IntKind.u64.wrap (6+8 * (t.Kids.length:Int))=pup t:=by rw [eu];exact K2 (by omega) (by omega)
   refine Zn [0,7,8,11,12] (Zb Zc [] ?_)
   simp only [push_cast,seval,Za,hi,hb,hn1,hZn,u2,u3,u4]
   refine (Zpq A5 (s:=s) (p:=p) (k:=1) (u:=pup t) (q:=V.2) (hm:=V.1) (fun τ e=>⟨(hfx1 τ e).st,⟨by decide,by decide,by omega,by have a3:=(hfx1 τ e).v3;have a0:=(hfx1 τ e).k0;omega⟩,hm1 τ e,⟨(hfx1 τ e).v2,by have a3:=(hfx1 τ e).v3;have a0:=(hfx1 τ e).k0;omega⟩,⟨(hfx1 τ e).v1,by omega⟩⟩)).mono fun r O6 n6 hE => ?_
   obtain ⟨L6,rfl,F6,A6⟩:=hE
   have F9:=F9.trans F6
   obtain ⟨q1,q2,q3⟩:=F6.keepB hn1 hnb hnt
   have hZn:=q1.trans hZn
   have hn1:=q2
   have hnt:=q3
   obtain ⟨hb,hi⟩:=A6.b_lt
   simp only [push_cast,seval,Za,hi,hb,hn1,hZn]
   refine Q9 fun hU6 => ?_
   have hfx2:=Zxa (s:=s) (p:=p) (k:=1) (u:=pup t) (hm:=V.1) (q:=V.2) hfx1
   refine Z2l ?_
   refine Zb Zc [] ?_
   simp only [push_cast,seval,Za,hi,hb,hn1,hZn]
   refine (Zyk A6 (s:=V.1) (p:=V.2) hf (fun x hx=>@Zsu size most N x (d - 1) (by have:=Ka hx;omega) (hF.kid hx) (Zdc (by omega) (ik x hx).2).1) (by omega) (fun τ e=>⟨(hfx2 τ e).st,⟨by have:=(hfx2 τ e).v2;omega,by have:=(hfx2 τ e).v3;omega⟩,fun q a b=>Ze4 (hfx2 τ e).hb (by omega) (by omega) (by omega)⟩)).mono fun r O6 n6 hE => ?_
   obtain ⟨L6,rfl,F6,A6⟩:=hE
   have F9:=F9.trans F6
   simp only [push_cast,seval,Za,hi,hb,hn1,hZn]
   intro hU9
   have hEQ:((Xe size σ (pwd t)).bind fun r=>(Zaf size r.2.2 s p (pkd t) (pup t) r.1 r.2.1).bind fun τ=>inT false (Gp false size N) r.1 r.2.1 t τ)=((((Xe size σ (pwd t)).map fun r=>r.2.2).bind fun σ=>Zaf size σ s p 1 (pup t) V.1 V.2).bind (Zak (Gp false size N) V.1 V.2 t.Kids)):=by
    rw [hV,ek]
    cases Xe size σ (pwd t) with
    | none=>rfl
    | some r =>
     show (Zaf size r.2.2 s p 1 (pup t) r.1 r.2.1).bind _=_
     simp only [Option.map_some,Option.bind_some,Zdx]
     cases Zaf size r.2.2 s p 1 (pup t) r.1 r.2.1 with
     | none=>rfl
     | some ρ=>show inT false (Gp false size N) r.1 r.2.1 t ρ=_;unfold inT;rw [if_neg c1,if_pos c8];rfl
   try simp only [Zh,Ze,↓reduceIte,Nat.reduceEqDiff]
   show Zyy _ _ _ _ .normal _ _ _
   refine ⟨.tup [],O6,n6,F9.le,⟨L6,rfl,F9,?_⟩,?_⟩
   ·have e9:Gp false size (N+1) t s p σ=_:=eqL
    rw [e9,hEQ]
    exact A6
   refine Yu (P:=Try.prog) (.inl rfl) hU9 [] F9.le ?_
   simp only [push_cast,seval,Za,Try.results30]
  have c8:¬ t.Kind=8:=ne_of_beq_false c
  refine Zn [0,1,2,7,8,28,145] (Zb Zc [] ?_)
  simp only [push_cast,seval,Za,hi,hb,hn1,hZn]
  refine Zq (t:=(t.Kind == 9)) rfl (fun c => ?_) (fun c => ?_)
  ·have c9:t.Kind=9:=eq_of_beq c
   obtain ⟨a1,a2,w0,w1,k0',k1',ak⟩:=Z58 hF c9
   have hframe:=Z4q (t:=t) (by omega)
   have ep:=Zpn c9
   have ek:pkd t=1:=by unfold pkd;rw [if_neg c1]
   have eu:pup t=7+8 * ((t.Kids.length:Int) * ((fr t.Kids).1+(fr t.Kids).2)):=by unfold pup;rw [if_neg c1,if_pos c9]
   have et:Zjb t=(t.Kids.length:Int) * 4+(fr t.Kids).1 * 4294967296+(fr t.Kids).2 * 281474976710656:=rfl
   have eIn:∀ hh bb ρ,inT false (Gp false size N) hh bb t ρ=Zde (Gp false size N) hh ((fr t.Kids).1+(fr t.Kids).2) (fr t.Kids).1 (bb+1) t.Kids (pt1 hh bb (Zjb t) ρ):=fun hh bb ρ=>by
    unfold inT
    rw [if_neg c1,if_neg c8,if_pos c9,if_neg (by decide)]
    rfl
   obtain ⟨W,hW⟩:∃ W,W=(fr t.Kids).1:=⟨_,rfl⟩
   obtain ⟨K,hK⟩:∃ K,K=(fr t.Kids).2:=⟨_,rfl⟩
   have hfr:fr t.Kids=(W,K):=Prod.ext hW.symm hK.symm
   simp only [hfr] at hframe a1 a2 w0 w1 k0' k1' ak ep eu et eIn
   clear hW hK
   have hWK:IntKind.i64.wrap (W+K)=W+K:=Ul (by omega)
   have hNM:IntKind.i64.wrap ((t.Kids.length:Int) * (W+K))=(t.Kids.length:Int) * (W+K):=Ul (by omega)
   have hPW:IntKind.i64.wrap (1+(t.Kids.length:Int) * (W+K))=pwd t:=by rw [ep];exact Ul (by omega)
   refine Zn [0,1,2,7,8,13,14] (Zb Zc [] ?_)
   simp only [push_cast,seval,Za,hi,hb,hn1,hZn]
   refine (Zm6 hframe).then ?_
   simp only [push_cast,seval,Za,hi,hb,hn1,hZn]
   obtain ⟨V,hV⟩:∃ V,V=Zdx (Xe size σ (pwd t)):=⟨_,rfl⟩
   have hVb:=Zo5 (k:=pwd t) hs
   have hfx:=Zsj (k:=pwd t) hs
   have hm1:∀ τ,(Xe size σ (pwd t)).map (fun r=>r.2.2)=some τ→X0 τ.1 s p 1=true:=fun τ e=>(hfx τ e).2 _ _ _ hsb
   have hfx1:∀ τ,(Xe size σ (pwd t)).map (fun r=>r.2.2)=some τ→Fx size most V (pwd t) τ:=fun τ e=>by rw [hV];exact (hfx τ e).1
   obtain ⟨O5,n5,L5,g5,A5,F5⟩:=Zor (pwd t) A0 hs
   rw [← hV] at hVb g5
   obtain ⟨q1,q2,q3⟩:=F5.keepB hn1 hnb hnt
   refine Zn [0,1,2,7,8,13,14,15,16] (Zb Zc [] ?_)
   simp only [push_cast,seval,Za,hi,hb,hn1,hZn,hWK,hNM,hPW]
   refine g5.then ?_
   have hZn:=q1.trans hZn
   have hn1:=q2
   have hnt:=q3
   have F9:=F0.trans F5
   obtain ⟨hb,hi⟩:=A5.b_lt
   simp only [push_cast,seval,Za,hi,hb,hn1,hZn]
   refine Q9 fun hU5 => ?_
   have u1:IntKind.u64.wrap ((t.Kids.length:Int) * (W+K))=(t.Kids.length:Int) * (W+K):=K2 (by omega) (by omega)
   have u2:IntKind.u64.wrap (8 * ((t.Kids.length:Int) * (W+K)))=8 * ((t.Kids.length:Int) * (W+K)):=K2 (by omega) (by omega)
   have u3:IntKind.u64.wrap (7+8 * ((t.Kids.length:Int) * (W+K)))=pup t:=by rw [eu];exact K2 (by omega) (by omega)
   refine Zn [0,7,8,13,14,15,16] (Zb Zc [] ?_)
   simp only [push_cast,seval,Za,hi,hb,hn1,hZn,hWK,hNM,u1,u2,u3]
   refine (Zpq A5 (s:=s) (p:=p) (k:=1) (u:=pup t) (q:=V.2) (hm:=V.1) (fun τ e=>⟨(hfx1 τ e).st,⟨by decide,by decide,by omega,by have a3:=(hfx1 τ e).v3;have a0:=(hfx1 τ e).k0;omega⟩,hm1 τ e,⟨(hfx1 τ e).v2,by have a3:=(hfx1 τ e).v3;have a0:=(hfx1 τ e).k0;omega⟩,⟨(hfx1 τ e).v1,by omega⟩⟩)).mono fun r O6 n6 hE => ?_
   obtain ⟨L6,rfl,F6,A6⟩:=hE
   have F9:=F9.trans F6
   obtain ⟨q1,q2,q3⟩:=F6.keepB hn1 hnb hnt
   have hZn:=q1.trans hZn
   have hn1:=q2
   have hnt:=q3
   obtain ⟨hb,hi⟩:=A6.b_lt
   simp only [push_cast,seval,Za,hi,hb,hn1,hZn]
   refine Q9 fun hU6 => ?_
   have hfx2:=Zxa (s:=s) (p:=p) (k:=1) (u:=pup t) (hm:=V.1) (q:=V.2) hfx1
   have z1:IntKind.i64.wrap (4 * (t.Kids.length:Int))=4 * (t.Kids.length:Int):=Ul (by omega)
   have z2:IntKind.u64.wrap (4 * (t.Kids.length:Int))=4 * (t.Kids.length:Int):=K2 (by omega) (by omega)
   have z3:IntKind.u64.wrap W=W:=K2 (by omega) (by omega)
   have z4:IntKind.u64.wrap K=K:=K2 (by omega) (by omega)
   have z5:IntKind.u64.wrap (65536 * K)=65536 * K:=K2 (by omega) (by omega)
   have z6:IntKind.u64.wrap (W+65536 * K)=W+65536 * K:=K2 (by omega) (by omega)
   have z7:IntKind.u64.wrap (4294967296 * (W+65536 * K))=4294967296 * (W+65536 * K):=K2 (by omega) (by omega)
   have z8:IntKind.u64.wrap (4 * (t.Kids.length:Int)+4294967296 * (W+65536 * K))=Zjb t:=by rw [et,K2 (by omega) (by omega)];omega
   refine Zn [0,7,8,13,14,15,16] (Zb Zc [] ?_)
   simp only [push_cast,seval,Za,hi,hb,hn1,hZn,z1,z2,z3,z4,z5,z6,z7,z8]
   refine (Yb0 A6 (s:=V.1) (p:=V.2) (v:=Zjb t) (fun τ e=>Ze4 (hfx2 τ e).hb (Int.le_refl _) (by omega) (by omega))).mono fun r O6 n6 hE => ?_
   obtain ⟨L6,rfl,F6,A6⟩:=hE
   have F9:=F9.trans F6
   obtain ⟨q1,q2,q3⟩:=F6.keepB hn1 hnb hnt
   have hZn:=q1.trans hZn
   have hn1:=q2
   have hnt:=q3
   obtain ⟨hb,hi⟩:=A6.b_lt
   simp only [push_cast,seval,Za,hi,hb,hn1,hZn]
   refine Q9 fun hU6 => ?_
   have hfx3:=Ybw (s:=V.1) (p:=V.2) (v:=Zjb t) hfx2
   refine Zn [0,7,8,13,14,15,16,17] (Zb Zc [] ?_)
   simp only [push_cast,seval,Za,hi,hb,hn1,hZn]
   refine Yl ?_
   have hTot:Gp false size (N+1) t s p σ=((((Xe size σ (pwd t)).map fun r=>r.2.2).bind fun σ=>Zaf size σ s p 1 (pup t) V.1 V.2).map (pt1 V.1 V.2 (Zjb t))).bind (Zde (Gp false size N) V.1 (W+K) W (V.2+1) t.Kids):=by
    rw [eqL,hV]
    cases Xe size σ (pwd t) with
    | none=>rfl
    | some r =>
     show (Zaf size r.2.2 s p (pkd t) (pup t) r.1 r.2.1).bind _=_
     simp only [Option.map_some,Option.bind_some,Zdx]
     rw [ek]
     cases Zaf size r.2.2 s p 1 (pup t) r.1 r.2.1 with
     | none=>rfl
     | some ρ=>exact eIn _ _ _
   generalize hτ3:((((Xe size σ (pwd t)).map fun r=>r.2.2).bind fun σ=>Zaf size σ s p 1 (pup t) V.1 V.2).map (pt1 V.1 V.2 (Zjb t)))=o3 at A6 hfx3 hTot
   refine Zsg (S:=Int×Objs×Nat×List NR×Option SG) (fun q=>⟨238,[],[(0,.ref b 0),(7,.ref n 0),(8,.val (.int .i64 (t.Kids.length:Int))),(13,.val (.int .i64 W)),(14,.val (.int .i64 K)),(15,.val (.int .i64 V.1)),(16,.val (.int .i64 V.2)),(17,.val (.int .i64 q.1))]⟩) (fun q=>q.2.1) (fun q=>q.2.2.1)
    (fun q=>(0≤q.1∧q.1≤(t.Kids.length:Int))∧BO size most q.2.1 q.2.2.1 b i j q.2.2.2.1 q.2.2.2.2∧Fr (isB b) i j O n L q.2.1 q.2.2.1 q.2.2.2.1∧q.2.1 n=some ⟨false,25,3,1,Zm t⟩∧n < q.2.2.1∧¬ ter i j q.2.2.2.1 n∧(∀ τ,q.2.2.2.2=some τ→Fx size most V (pwd t) τ)∧Gp false size (N+1) t s p σ=q.2.2.2.2.bind (Zde (Gp false size N) V.1 (W+K) W (V.2+1+q.1 * (W+K)) (t.Kids.drop q.1.toNat)))
    (fun q=>((t.Kids.length:Int) - q.1).toNat) (fun q hq=>hq.2.2.1.le) (fun q hq => ?_) (0,O6,n6,L6,o3) ⟨⟨Int.le_refl _,by omega⟩,A6,F9,hZn,hn1,hnt,hfx3,by simpa using hTot⟩
   clear hZn hn1 hnt hb hi A6 F9 hTot hfx3 hfx2 hfx1 hfx A5 F5 F6
   obtain ⟨k,Y,m,M,τo⟩:=q
   obtain ⟨⟨k0,k1⟩,g1,g3,g4,g5,g5',g6,g8⟩:=hq
   dsimp only at k0 k1 g1 g3 g4 g5 g5' g6 g8 ⊢
   obtain ⟨hb,hi⟩:=g1.b_lt
   have hob:=g1.ho
   simp only [push_cast] at g4
   refine Q9 fun hUY => ?_
   by_cases c5:k < (t.Kids.length:Int)∧Zj1 τo=true
   ·have d1:decide (k < (t.Kids.length:Int))=true:=decide_eq_true c5.1
    obtain ⟨τ,rfl⟩:∃ τ,τo=some τ:=by
     cases τo with
     | none=>exact absurd c5.2 (by decide)
     | some τ=>exact ⟨τ,rfl⟩
    rw [c5.2] at hob
    obtain ⟨x,hx⟩:=Zkq (L:=t.Kids) k0 c5.1
    obtain ⟨x5,hx5,ax5,bx5,cx5,_⟩:=bE (f:=Zl) (K:=fun y=>some y) (r:=x) Za3 (fun _=>rfl) (by decide) (by rw [hx];rfl)
    obtain rfl:x5=x:=Option.some.inj (hx5.symm.trans hx)
    have dx5:Ze1 Qt 22 (fl Zl t.Kids) (k.toNat * 3+1)=some (.sl x5.Words.length (fl (eI .u64) x5.Words)):=(Zee (sz:=3) U1 (fun _=>rfl) (by decide) (by decide) hx).trans rfl
    have hstep:=Z1d (Gp false size N) V.1 (W+K) W (V.2+1) k0 hx τ
    have fx:=g6 τ rfl
    have v1:=fx.v1
    have v2:=fx.v2
    have v3:=fx.v3
    have hax:=ak x5 (Xg hx)
    have hmul:=Ybn k0 c5.1 (m:=W+K) (by omega)
    have e0:IntKind.i64.wrap (V.2+1)=V.2+1:=Ul (by omega)
    have e1:IntKind.i64.wrap (k * (W+K))=k * (W+K):=Ul (by omega)
    have e2:IntKind.i64.wrap (V.2+1+k * (W+K))=V.2+1+k * (W+K):=Ul (by omega)
    have e3:IntKind.i64.wrap (V.2+1+k * (W+K)+W)=V.2+1+k * (W+K)+W:=Ul (by omega)
    have k9:=(Zdc (by omega) (ik x5 (Xg hx)).2).2 c9
    refine Zf ?_
    refine Zn [0,7,8,13,14,15,16,17,200] (Zb Zc (Zx6 []) ?_)
    simp only [push_cast,seval,Za,hb,hi,hob,g4,g5,d1]
    refine Zq (t:=true) rfl (fun c15 => ?_) (fun c15=>by cases c15)
    refine Zt ?_
    try simp only [Zh,Ze]
    refine Zf ?_
    refine Yl ?_
    refine Zn [0,7,8,13,14,15,16,17] (Zb Zc [] ?_)
    simp only [push_cast,Nat.reduceAdd,Nat.reduceSub,Nat.reduceMul,Nat.reduceLeDiff,Nat.reduceLT,Nat.reduceEqDiff,↓reduceIte,reduceCtorEq,Int.reduceBEq,Int.reduceBNe,Nat.reduceBEq,Int.reduceLE,Int.reduceLT,Int.reduceEq,Int.reduceNe,Int.reduceNeg,Nat.reduceDiv,Nat.reduceMod,Nat.reducePow,Za,hb,hi,hob,g4,g5,hWK,e0,e1,e2,dx5,ax5,bx5,cx5]
    refine (Z11 g1 (s:=V.1) (p:=V.2+1+k * (W+K)) (ws:=x5.Words) (by omega) (fun ρ e=>⟨⟨by omega,by omega⟩,.inl (Ze4 (g6 ρ e).hb (by omega) (by omega) (by omega))⟩)).mono fun r O6 n6 hE => ?_
    obtain ⟨L6,rfl,F6,A6⟩:=hE
    have hn':=F6.le
    have hnb:n≠b:=by omega
    obtain ⟨q1,q2,q3⟩:=F6.keepB g5 hnb g5'
    obtain ⟨hb,hi⟩:=A6.b_lt
    have g4:=q1.trans g4
    have A6':BA size most O6 n6 b i j L6 (Q3 τ.1 V.1 (V.2+1+k * (W+K)) x5.Words,τ.2):=A6
    have fx6:Fx size most V (pwd t) (Q3 τ.1 V.1 (V.2+1+k * (W+K)) x5.Words,τ.2):=fx.ex (St.lays _ _ fx.st _) (Ex.lays _ _ _ _)
    simp only [push_cast,seval,Za,hb,hi]
    refine Q9 fun hU6 => ?_
    refine Zb Zc [] ?_
    simp only [push_cast,Nat.reduceAdd,Nat.reduceSub,Nat.reduceMul,Nat.reduceLeDiff,Nat.reduceLT,Nat.reduceEqDiff,↓reduceIte,reduceCtorEq,Int.reduceBEq,Int.reduceBNe,Nat.reduceBEq,Int.reduceLE,Int.reduceLT,Int.reduceEq,Int.reduceNe,Int.reduceNeg,Nat.reduceDiv,Nat.reduceMod,Nat.reducePow,Za,hb,hi,g4,q2,hWK,e0,e1,e2,e3,ax5,bx5,cx5]
    refine (Zyk A6 (t:=x5) (s:=V.1) (p:=V.2+1+k * (W+K)+W) hf (fun y hy=>by
     have j4:=(Zin (hF.kid (Xg hx)).rt (by omega) (by omega)).2.2.2 y hy
     exact @Zsu size most N y (d - 1 - 1) (by have:=Ka (Xg hx);have:=Ka hy;omega) ((hF.kid (Xg hx)).kid hy) (Zdc (by omega) j4.2).1) (by omega) (fun ρ e=>by
     have:=Option.some.inj e;subst this
     exact ⟨fx6.st,⟨by omega,by omega⟩,fun q a b=>Ze4 fx6.hb (by omega) (by omega) (by omega)⟩)).mono fun r O' n' hE => ?_
    obtain ⟨L',rfl,F4,hres⟩:=hE
    obtain ⟨p1',p2',p3'⟩:=F4.keepB q2 hnb q3
    obtain ⟨hb9,hi9⟩:=hres.b_lt
    simp only [push_cast,seval,Za]
    refine Q9 fun hU9 => ?_
    refine Zb Zc [] ?_
    have hwk:IntKind.i64.wrap (k+1)=k+1:=Ul (by omega)
    simp only [push_cast,seval,Za,hb9,hi9,p2',hwk]
    refine .inl ⟨rfl,(k+1,O',n',L',Zak (Gp false size N) V.1 (V.2+1+k * (W+K)+W) x5.Kids (Q3 τ.1 V.1 (V.2+1+k * (W+K)) x5.Words,τ.2)),⟨⟨by omega,by omega⟩,hres,g3.trans (F6.trans F4),p1'.trans g4,p2',p3',fun ρ e => ?_,?_⟩,by show ((t.Kids.length:Int) - (k+1)).toNat < ((t.Kids.length:Int) - k).toNat;omega,Kt hU9 (Nat.le_trans g3.le (Nat.le_trans F6.le F4.le)) rfl ?_⟩
    ·have t9:=(Zbl hf V.1 x5.Kids _ _ fx6.st).1 ρ e
     exact fx6.ex t9.1 t9.2
    ·show Gp false size (N+1) t s p σ=(Zak (Gp false size N) V.1 (V.2+1+k * (W+K)+W) x5.Kids (Q3 τ.1 V.1 (V.2+1+k * (W+K)) x5.Words,τ.2)).bind (Zde (Gp false size N) V.1 (W+K) W (V.2+1+(k+1) * (W+K)) (t.Kids.drop (k+1).toNat))
     rw [g8];exact hstep
    simp only [push_cast,seval,Za,hb9,hi9,p2']
   have hex:Gp false size (N+1) t s p σ=τo:=by
    rw [g8]
    cases τo with
    | none=>rfl
    | some τ =>
     have:¬ k < (t.Kids.length:Int):=fun z=>c5 ⟨z,rfl⟩
     rw [List.drop_eq_nil_of_le (by omega)];rfl
   refine Zf ?_
   refine Yt (E':=⟨238,[],[(0,.ref b 0),(200,.val (.bool false))]⟩) (O':=Y) (n0:=m) ?_ ?_
   ·by_cases c2:k < (t.Kids.length:Int)
    ·have d1:decide (k < (t.Kids.length:Int))=true:=decide_eq_true c2
     have d2:Zj1 τo=false:=by
      cases h:Zj1 τo with
      | true=>exact absurd ⟨c2,h⟩ c5
      | false=>rfl
     rw [d2] at hob
     refine Zb Zc (Zx6 []) ?_
     simp only [push_cast,seval,Za,hb,hi,hob,g4,g5,d1]
     refine And.intro rfl (Kt hUY g3.le rfl ?_)
     simp only [push_cast,seval,Za,hb,hi,hob,g4,g5]
    have d1:decide (k < (t.Kids.length:Int))=false:=decide_eq_false c2
    refine Zb Zc (Z1u []) ?_
    simp only [push_cast,seval,Za,hb,hi,hob,g4,g5,d1]
    refine And.intro rfl (Kt hUY g3.le rfl ?_)
    simp only [push_cast,seval,Za,hb,hi,hob,g4,g5]
   refine Zq (t:=false) rfl (fun c15=>by cases c15) (fun c15 => ?_)
   refine X9 ?_
   try simp only [Zh,Ze,↓reduceIte,Nat.reduceEqDiff]
   refine .inr ⟨(fun h=>by cases h),?_⟩
   try simp only [Zh,Ze,↓reduceIte,Nat.reduceEqDiff]
   show Zyy _ _ _ _ .normal _ _ _
   refine ⟨.tup [],Y,m,g3.le,⟨M,rfl,g3,by rw [hex];exact g1⟩,?_⟩
   refine Yu (P:=Try.prog) (.inl rfl) hUY [] g3.le ?_
   simp only [push_cast,seval,Za,Try.results30]
  have c9:¬ t.Kind=9:=ne_of_beq_false c
  have hkd:2≤t.Kind∧t.Kind≤7:=by omega
  have hbk:∀ k:Nat,b < n+k:=fun k=>by omega
  have hnum:=Z81 hF hkd
  have hput:=Z0w hF hkd
  have hZL:Z=Z4 O n [some ⟨false,25,3,1,(Zm t)⟩]:=by rw [hZ,← Xl,Kb hU.fresh]
  rw [hZL]
  have hN0:O n=none:=hU.fresh _ (Nat.le_refl _)
  have hN:∀ k,O (n+k)=none:=fun k=>hU.fresh _ (Nat.le_add_right _ _)
  refine Zn [0,1,2,7,8,18] (Zb Zc [] ?_)
  simp only [push_cast,seval,Za,hb,hi,hN0,hN,hbk]
  refine Zf ?_
  refine Zn [0,1,2,7,8,18,19] (Zb Zc [] ?_)
  simp only [push_cast,seval,Za,hb,hi,hN0,hN,hbk]
  refine U7 (E':=(⟨238,[],[(0,.ref b 0),(1,.val (.int .i64 s)),(2,.val (.int .i64 p)),(7,.ref n 0),(8,.val (.int .i64 (t.Kids.length:Int))),(18,.row (n+1) ([]:List Int).length),(19,.val (.int .i64 0))]⟩:Env)) (O':=(Z4 O n [some ⟨false,25,3,1,(Zm t)⟩,some ⟨true,58,1,([]:List Int).length,fl (eI .u64) ([]:List Int)⟩,none])) (n':=(n+3)) ?_ ?_
  ·refine Fit2.trans (E':=(⟨238,[],[(0,.ref b 0),(1,.val (.int .i64 s)),(2,.val (.int .i64 p)),(7,.ref n 0),(8,.val (.int .i64 (t.Kids.length:Int))),(18,.val (.slice none 0 0)),(19,.val (.int .i64 0))]⟩:Env)) (O':=(Z4 O n [some ⟨false,25,3,1,(Zm t)⟩])) (n':=(n+1)) (Fit2.of (Zp hU rfl rfl ?_) (by omega)) ?_
   ·simp only [push_cast,seval,Za,hb0,hi0,hN0,hN,hbk]
   refine Fit2.trans (Zec 18 58 1 rfl (by omega)) ?_
   simp only [Qh,Xl,Zae,List.set_cons_zero,List.set_cons_succ,List.cons_append,List.nil_append,List.length_cons,List.length_nil,Nat.zero_add,Nat.reduceAdd,Nat.reduceLT,Nat.add_assoc]
   refine Fit2.trans (E':=(⟨238,[],[(0,.ref b 0),(1,.val (.int .i64 s)),(2,.val (.int .i64 p)),(7,.ref n 0),(8,.val (.int .i64 (t.Kids.length:Int))),(18,.row (n+1) ([]:List Int).length),(19,.val (.int .i64 0))]⟩:Env)) (O':=(Z4 O n [some ⟨false,25,3,1,(Zm t)⟩,some ⟨true,58,1,([]:List Int).length,fl (eI .u64) ([]:List Int)⟩])) (n':=(n+2)) (Fit2.of (Zp hU rfl rfl ?_) (by omega)) ?_
   ·simp only [push_cast,seval,Za,hb0,hi0,hN0,hN,hbk]
   refine Zap (k:=2) (k':=3) hU [0,1] [0,1,0] rfl rfl rfl rfl ⟨rfl,rfl⟩ ?_
   simp only [push_cast,seval,Za,hb0,hi0,hN0,hN,hbk]
  refine Y2 (E':=⟨238,[],[(0,.ref b 0),(1,.val (.int .i64 s)),(2,.val (.int .i64 p)),(7,.ref n 0),(8,.val (.int .i64 (t.Kids.length:Int))),(18,.row (n+1) (ato t).length)]⟩) (O':=(Z4 O n [some ⟨false,25,3,1,(Zm t)⟩,some ⟨true,58,1,(ato t).length,fl (eI .u64) (ato t)⟩,none])) (n0:=(n+3)) ?_ ?_
  ·refine Xp hnum (fun s0_=>⟨238,[],[(0,.ref b 0),(1,.val (.int .i64 s)),(2,.val (.int .i64 p)),(7,.ref n 0),(8,.val (.int .i64 (t.Kids.length:Int))),(18,.row (n+1) s0_.2.length),(19,.val (.int .i64 s0_.1))]⟩) (fun s0_=>(Z4 O n [some ⟨false,25,3,1,(Zm t)⟩,some ⟨true,58,1,s0_.2.length,fl (eI .u64) s0_.2⟩,none])) (fun z6=>JX 1 n (⟨238,[],[(0,.ref b 0),(1,.val (.int .i64 s)),(2,.val (.int .i64 p)),(7,.ref n 0),(8,.val (.int .i64 (t.Kids.length:Int))),(18,.row (n+1) z6.length)]⟩:Env) (Z4 O n [some ⟨false,25,3,1,(Zm t)⟩,some ⟨true,58,1,z6.length,fl (eI .u64) z6⟩,none]) (n+3)) ?_
   intro s0_ x0_ hs0_
   unfold Z6z at hs0_
   try dsimp only
   refine Zf ?_
   refine Zn [0,1,2,7,8,18,19,31] (Zb Zc [] ?_)
   simp only [push_cast,seval,Za,hb0,hi0,hN0,hN,hbk]
   refine Zq (t:=(decide (s0_.1 < (t.Kids.length:Int)))) rfl (fun c5 => ?_) (fun c5 => ?_)
   ·replace hs0_:=Zz c5 hs0_
    refine Zt ?_
    try simp only [Zh,Ze]
    refine Zf ?_
    refine Yl ?_
    obtain ⟨x2,hx2,ax2,bx2,cx2,hs0_⟩:=bE (f:=Zl) Za3 (fun _=>rfl) (by decide) hs0_
    obtain ⟨x3,hx3,ax3,bx3,cx3,hs0_⟩:=bE (f:=eI .u64) Vz (fun _=>rfl) (by decide) hs0_
    obtain ⟨l4,pl4,ql4,el4,hs0_⟩:=bA (k:=1) rfl hs0_
    have dx2:Ze1 Qt 22 (fl Zl t.Kids) (s0_.1.toNat * 3+1)=some (.sl x2.Words.length (fl (eI .u64) x2.Words)):=(Zee (sz:=3) U1 (fun _=>rfl) (by decide) (by decide) hx2).trans rfl
    refine Zb Zc [] ?_
    simp only [push_cast,Nat.reduceAdd,Nat.reduceSub,Nat.reduceMul,Nat.reduceLeDiff,Nat.reduceLT,Nat.reduceEqDiff,↓reduceIte,reduceCtorEq,Int.reduceBEq,Int.reduceBNe,Nat.reduceBEq,Int.reduceLE,Int.reduceLT,Int.reduceEq,Int.reduceNe,Int.reduceNeg,Nat.reduceDiv,Nat.reduceMod,Nat.reducePow,Za,pl4,ql4,el4,dx2,ax2,bx2,cx2,ax3,bx3,cx3,hb0,hi0,hN0,hN,hbk]
    refine U3 ⟨238,[],[(0,.ref b 0),(1,.val (.int .i64 s)),(2,.val (.int .i64 p)),(7,.ref n 0),(8,.val (.int .i64 (t.Kids.length:Int))),(18,.row (n+1) l4.length),(19,.val (.int .i64 s0_.1))]⟩ (Z4 O n [some ⟨false,25,3,1,(Zm t)⟩,some ⟨true,58,1,l4.length,fl (eI .u64) l4⟩,none,none]) (Zp hU rfl rfl ?_) ?_
    ·simp only [push_cast,seval,Za,pl4,ql4,el4,hb0,hi0,hN0,hN,hbk]
    refine Zb Zc [] ?_
    simp only [push_cast,seval,Za,hb0,hi0,hN0,hN,hbk]
    have hs0_:=Option.some.inj hs0_;subst hs0_
    refine And.intro rfl (Fit2.of (Zp hU rfl rfl ?_) (by omega))
    simp only [push_cast,seval,Za,hb0,hi0,hN0,hN,hbk]
   replace hs0_:=Zy c5 hs0_
   refine X9 ?_
   try simp only [Zh,Ze,↓reduceIte,Nat.reduceEqDiff]
   have hs0_:=Option.some.inj hs0_;subst hs0_
   refine And.intro (fun h=>by cases h) (And.intro rfl (Fit2.of (Zp hU rfl rfl ?_) (by omega)))
   simp only [push_cast,seval,Za,hb0,hi0,hN0,hN,hbk]
  try simp only [Zh,Ze,↓reduceIte,Nat.reduceEqDiff]
  refine U3 ⟨238,[],[(0,.ref b 0),(1,.val (.int .i64 s)),(2,.val (.int .i64 p)),(7,.ref n 0),(8,.val (.int .i64 (t.Kids.length:Int))),(18,.sl (ato t).length (fl (eI .u64) (ato t)))]⟩ (Z4 O n [some ⟨false,25,3,1,(Zm t)⟩,none,none]) (Zp hU rfl rfl ?_) ?_
  ·simp only [push_cast,seval,Za,hb0,hi0,hN0,hN,hbk]
  have hL3:Z4 O n [some ⟨false,25,3,1,(Zm t)⟩,none,none]=Z:=by
   rw [hZL]
   funext u
   unfold Z4
   by_cases hu:u < n
   ·rw [if_pos hu,if_pos hu]
   rw [if_neg hu,if_neg hu]
   match hx:u - n with
   | 0=>rfl
   | 1=>rfl
   | 2=>rfl
   | q+3=>rfl
  rw [hL3]
  clear hL3 hZL
  have hn1:n < n+3:=by omega
  have hb:b < n+3:=by omega
  have hi:i < n+3:=by omega
  have A1:BA size most Z (n+3) b i j L σ:=⟨A0.a.frame (fun _ _=>rfl) (by omega),hb,A0.ht,A0.ho⟩
  have F1:Fr (isB b) i j O n L Z (n+3) L:=⟨by omega,F0.off,F0.ter⟩
  have ew:pwd t=((Znc (t.Kind - 2) (ato t)).length:Int):=by unfold pwd;rw [if_neg c1,if_neg c9,if_neg c8]
  have w0:IntKind.i64.wrap (t.Kind - 2)=t.Kind - 2:=Ul (by omega)
  refine Zn [0,1,2,7,8,20] (Zb Zc [] ?_)
  simp only [push_cast,seval,Za,hi,hb,hn1,hZn,w0]
  refine (Zpd hput).then ?_
  simp only [push_cast,seval,Za,hi,hb,hn1,hZn]
  obtain ⟨V,hV⟩:∃ V,V=Zdx (Xe size σ (pwd t)):=⟨_,rfl⟩
  have hVb:=Zo5 (k:=pwd t) hs
  have hfx:=Zsj (k:=pwd t) hs
  have hm1:∀ τ,(Xe size σ (pwd t)).map (fun r=>r.2.2)=some τ→X0 τ.1 s p 1=true:=fun τ e=>(hfx τ e).2 _ _ _ hsb
  have hfx1:∀ τ,(Xe size σ (pwd t)).map (fun r=>r.2.2)=some τ→Fx size most V (pwd t) τ:=fun τ e=>by rw [hV];exact (hfx τ e).1
  obtain ⟨O5,n5,L5,g5,A5,F5⟩:=Zor (pwd t) A1 hs
  rw [← hV] at hVb g5
  obtain ⟨q1,q2,q3⟩:=F5.keepB hn1 hnb hnt
  have ek:pkd t=1:=by unfold pkd;rw [if_neg c1]
  have eu:pup t=t.Kind - 2+8 * (t.Kids.length:Int):=by unfold pup;rw [if_neg c1,if_neg c9]
  have g5':=g5
  rw [ew] at g5'
  refine Zn [0,1,2,7,8,20,22,23] (Zb Zc [] ?_)
  simp only [push_cast,seval,Za,hi,hb,hn1,hZn]
  refine g5'.then ?_
  have hZn:=q1.trans hZn
  have hn1:=q2
  have hnt:=q3
  have F9:=F1.trans F5
  obtain ⟨hb,hi⟩:=A5.b_lt
  simp only [push_cast,seval,Za,hi,hb,hn1,hZn]
  refine Q9 fun hU5 => ?_
  have u1:IntKind.u64.wrap (t.Kind - 2)=t.Kind - 2:=K2 (by omega) (by omega)
  have u2:IntKind.u64.wrap (t.Kids.length:Int)=(t.Kids.length:Int):=K2 (by omega) (by omega)
  have u3:IntKind.u64.wrap (8 * (t.Kids.length:Int))=8 * (t.Kids.length:Int):=K2 (by omega) (by omega)
  have u4:IntKind.u64.wrap (t.Kind - 2+8 * (t.Kids.length:Int))=pup t:=by rw [eu];exact K2 (by omega) (by omega)
  have hwl:(Znc (t.Kind - 2) (ato t)).length≤200000:=by
   have q:=(Z3q (c:=t.Kind - 2) (ns:=ato t) (by omega) (by rw [Zoo];omega) (fun n hn=>by
    obtain ⟨k,hk,rfl⟩:=List.mem_map.1 hn
    obtain ⟨w,hw,q0,_,q1⟩:=Zoq hF hkd k hk
    rw [hw];exact ⟨q0,q1⟩)).2
   have:=Z9j (c:=t.Kind - 2) (by omega) (ato t).length
   rw [q,Zoo] at *
   omega
  refine Zn [0,20,22,23] (Zb Zc [] ?_)
  simp only [push_cast,seval,Za,hi,hb,hn1,hZn,u1,u2,u3,u4,w0]
  refine (Zpq A5 (s:=s) (p:=p) (k:=1) (u:=pup t) (q:=V.2) (hm:=V.1) (fun τ e=>⟨(hfx1 τ e).st,⟨by decide,by decide,by omega,by have a3:=(hfx1 τ e).v3;have a0:=(hfx1 τ e).k0;omega⟩,hm1 τ e,⟨(hfx1 τ e).v2,by have a3:=(hfx1 τ e).v3;have a0:=(hfx1 τ e).k0;omega⟩,⟨(hfx1 τ e).v1,by omega⟩⟩)).mono fun r O6 n6 hE => ?_
  obtain ⟨L6,rfl,F6,A6⟩:=hE
  have F9:=F9.trans F6
  obtain ⟨q1,q2,q3⟩:=F6.keepB hn1 hnb hnt
  have hZn:=q1.trans hZn
  have hn1:=q2
  have hnt:=q3
  obtain ⟨hb,hi⟩:=A6.b_lt
  simp only [push_cast,seval,Za,hi,hb,hn1,hZn]
  refine Q9 fun hU6 => ?_
  have hfx2:=Zxa (s:=s) (p:=p) (k:=1) (u:=pup t) (hm:=V.1) (q:=V.2) hfx1
  refine Z2l ?_
  refine Zb Zc [] ?_
  simp only [push_cast,seval,Za,hi,hb,hn1,hZn]
  refine (Z11 A6 (s:=V.1) (p:=V.2) (ws:=Znc (t.Kind - 2) (ato t)) (by omega) (fun τ e=>⟨⟨(hfx2 τ e).v2,by have:=(hfx2 τ e).v3;omega⟩,.inl (Ze4 (hfx2 τ e).hb (Int.le_refl _) (by omega) (by omega))⟩)).mono fun r O6 n6 hE => ?_
  obtain ⟨L6,rfl,F6,A6⟩:=hE
  have F9:=F9.trans F6
  simp only [push_cast,seval,Za,hi,hb,hn1,hZn]
  intro hU9
  have hEQ:((Xe size σ (pwd t)).bind fun r=>(Zaf size r.2.2 s p (pkd t) (pup t) r.1 r.2.1).bind fun τ=>inT false (Gp false size N) r.1 r.2.1 t τ)=((((Xe size σ (pwd t)).map fun r=>r.2.2).bind fun σ=>Zaf size σ s p 1 (pup t) V.1 V.2).map fun σ=>((Q3 σ.1 V.1 V.2 (Znc (t.Kind - 2) (ato t)),σ.2):SG)):=by
   rw [hV,ek]
   cases Xe size σ (pwd t) with
   | none=>rfl
   | some r =>
    show (Zaf size r.2.2 s p 1 (pup t) r.1 r.2.1).bind _=_
    simp only [Option.map_some,Option.bind_some,Zdx]
    cases Zaf size r.2.2 s p 1 (pup t) r.1 r.2.1 with
    | none=>rfl
    | some ρ=>show inT false (Gp false size N) r.1 r.2.1 t ρ=_;unfold inT;rw [if_neg c1,if_neg c8,if_neg c9];rfl
  try simp only [Zh,Ze,↓reduceIte,Nat.reduceEqDiff]
  show Zyy _ _ _ _ .normal _ _ _
  refine ⟨.tup [],O6,n6,F9.le,⟨L6,rfl,F9,?_⟩,?_⟩
  ·have e9:Gp false size (N+1) t s p σ=_:=eqL
   rw [e9,hEQ]
   exact A6
  refine Yu (P:=Try.prog) (.inl rfl) hU9 [] F9.le ?_
  simp only [push_cast,seval,Za,Try.results30]
theorem GCalls.less {P:Program} {f:FuncId} {gs gs':List G} {O O2:Objs} {n:Nat} {K:G→Objs→Nat→Prop} (h:GCalls P f gs' O2 n K) (hL:LessO O O2 n) (hw:wkl O O2 n gs gs'):GCalls P f gs O n K:=by
 refine ⟨h.1,fun w m vs hM hr=>(h.2 w m vs (hM.weak hL) (Ko hM hL _ _ hr _ hw)).mono fun e w' ⟨v,g,O',n',m',h1,h2,h3,h4,h5⟩=>⟨v,g,O',n',m',h1,h2,⟨h3.os,h3.tape,h3.output,h3.size,h3.more,fun b hb ho=>h3.keep b hb (fun q=>ho (hL.owns q)),fun i hi o' ho' => ?_⟩,h4,h5⟩⟩
 obtain ⟨o2,k1,k2,k3,k4⟩:=h3.stay i hi o' ho'
 obtain ⟨o,a1,a2,_,_,a5,_⟩:=hL.obj i o2 k1
 exact ⟨o,a1,k2.trans a2,by omega,fun e=>k4 (by rcases e with e | e;exact .inl (by omega);exact .inr e)⟩
def szB (size:Int):Int:=if size < 1 then 1 else size
def Uy (most:Int):Int:=if 131072 < (if most < 0 then 0 else most) then 131072 else (if most < 0 then 0 else most)
theorem Zz2 (most:Int):0≤Uy most∧Uy most≤131072:=by
 have key:∀ k:Int,0≤k→0≤(if 131072 < k then 131072 else k)∧(if 131072 < k then 131072 else k)≤131072:=fun k h=>by
  by_cases c:131072 < k
  ·rw [if_pos c];exact ⟨by omega,Int.le_refl _⟩
  rw [if_neg c];exact ⟨h,Int.not_lt.1 c⟩
 refine key _ ?_
 by_cases c:most < 0
 ·rw [if_pos c];exact Int.le_refl _
 rw [if_neg c];exact Int.not_lt.1 c
noncomputable def Znt (o:Bool) (t:Tr) (size most:Int):Option SG :=
 if t.Kind=10∨rt t 64=false then none else (Xe (szB size) ([],Uy most) 1).bind fun r=>Gp o (szB size) (SizeOf.sizeOf (nrm t)+1) (nrm t) r.1 r.2.1 r.2.2
theorem Z2a (size most:Int):St (szB size) (Uy most) ([],Uy most):=⟨Nat.zero_le _,(Zz2 most).1,Int.le_refl _,(Zz2 most).2,fun x hx=>by cases hx⟩
theorem Ya5 {o:Bool} {t:Tr} {size most:Int} {τ:SG} (h:Znt o t size most=some τ):St (szB size) (Uy most) τ:=by
 unfold Znt at h
 split at h
 ·cases h
 cases hg:Xe (szB size) ([],Uy most) 1 with
 | none=>rw [hg] at h;cases h
 | some r =>
  rw [hg] at h
  have g:=Us (Z2a size most) hg
  exact ((Zkw o (szB size) (Uy most) _ _ _ _ _ g.2.2.2.2.1).1 τ h).1
attribute [local push_cast] Z5r Xo
def Yd3 (res:Option SG) (O:Objs) (n:Nat) (size most:Int) (r:G) (O':Objs) (n':Nat):Prop :=
 n≤n'∧(∀ u,u < n→O' u=O u)∧match res with
  | none=>r = .tup [.val (.slice none 0 0),.val (.bool false)]
  | some τ=>∃ i j L,r = .tup [.row j L.length,.val (.bool true)]∧AR (szB size) (Uy most) O' n' i j L τ∧∀ u,ter i j L u→n≤u
theorem Ybz (size most:Int):Zal size most=some ⟨[],szB size,Uy most,0⟩:=by
 unfold Zal szB Uy
 by_cases c1:size < 1
 ·rw [decide_eq_true c1,cond_true,Option.bind_some,if_pos c1]
  by_cases c2:most < 0
  ·rw [decide_eq_true c2,cond_true,Option.bind_some,if_pos c2,decide_eq_false (by omega),cond_false,Option.bind_some,if_neg (by omega)]
  rw [decide_eq_false c2,cond_false,Option.bind_some,if_neg c2]
  by_cases c3:131072 < most
  ·rw [decide_eq_true c3,cond_true,Option.bind_some,if_pos c3]
  rw [decide_eq_false c3,cond_false,Option.bind_some,if_neg c3]
 rw [decide_eq_false c1,cond_false,Option.bind_some,if_neg c1]
 by_cases c2:most < 0
 ·rw [decide_eq_true c2,cond_true,Option.bind_some,if_pos c2,decide_eq_false (by omega),cond_false,Option.bind_some,if_neg (by omega)]
 rw [decide_eq_false c2,cond_false,Option.bind_some,if_neg c2]
 by_cases c3:131072 < most
 ·rw [decide_eq_true c3,cond_true,Option.bind_some,if_pos c3]
 rw [decide_eq_false c3,cond_false,Option.bind_some,if_neg c3]
theorem Ybp {O:Objs} {n:Nat} (hU:Und O n) (size most:Int):GTo Try.prog 28 [.val (.int .i64 size),.val (.int .i64 most)] O n (.ref n 0) (Z4 O n [some (HR (n+1) (szB size) (Uy most) 0 0),some ⟨true,22,1,0,[]⟩]) (n+2) :=
 Zpe (r:=⟨[],szB size,Uy most,0⟩) (Ybz size most)
theorem Z4l {O:Objs} {n:Nat} {t:Tr} (hbd:Bd t) (hpt:pt t≤200000) (size most:Int) :
  GCalls Try.prog 9 [.agg (Zm t),.val (.int .i64 size),.val (.int .i64 most)] O n (Yd3 (Znt false t size most) O n size most):=by
 have hright:Za7 t 64=some (rt t 64):=Z4t hbd (d:=64) (Nat.le_refl _)
 have hnorm:=Z0v hbd
 refine Ztc Zc Try.call9 Try.func9 rfl (Nat.le_of_ble_eq_true rfl) fun hU => ?_
 have hN0:O n=none:=hU.fresh _ (Nat.le_refl _)
 have hN:∀ k,O (n+k)=none:=fun k=>hU.fresh _ (Nat.le_add_right _ _)
 show Go.Proofs.Ytaddaloondpnkaa.W _ _ _ _ ⟨51,[],[(0,.agg (Zm t)),(1,.val (.int .i64 size)),(2,.val (.int .i64 most))]⟩ (Z4 O n []) _
 rw [Kb hU.fresh]
 refine Zn [1,2,3] (Zb Zc [] ?_)
 simp only [push_cast,seval,Za,hN0,hN]
 obtain ⟨Z,hZ⟩:∃ Z,Z=O.upd n (some ⟨false,25,3,1,Zm t⟩):=⟨_,rfl⟩
 have hZn:Z n=some ⟨false,25,3,1,Zm t⟩:=by rw [hZ];exact Ye _ _ _
 have hZo:∀ u,u < n→Z u=O u:=fun u hu=>by rw [hZ];exact Ya _ _ (by omega)
 have hZ2:=hZ
 simp only [push_cast] at hZ2 hZn
 rw [← hZ2]
 have hn1:n < n+1:=Nat.lt_succ_self n
 refine Q9 fun hUZ => ?_
 refine Zf ?_
 by_cases cc:t.Kind=10∨rt t 64=false
 ·have eB:Znt false t size most=none:=by unfold Znt;rw [if_pos cc]
  refine Yt (E':=⟨51,[],[(1,.val (.int .i64 size)),(2,.val (.int .i64 most)),(3,.ref n 0),(18,.val (.bool true))]⟩) (O':=Z) (n0:=n+1) ?_ ?_
  ·cases hr:rt t 64 with
   | false =>
    rw [hr] at hright
    refine Zb Zc (Z62 []) ?_
    simp only [push_cast,seval,Za,hn1,hZn]
    refine (Zau hright).then ?_
    simp only [push_cast,seval,Za,hn1,hZn]
    refine And.intro rfl (Kt hUZ (Nat.le_succ n) rfl ?_)
    simp only [push_cast,seval,Za,hn1,hZn]
   | true =>
    rw [hr] at hright
    have c10:t.Kind=10:=cc.resolve_right (by rw [hr];decide)
    have d1:(t.Kind == 10)=true:=Zru c10
    refine Zb Zc (Z4i []) ?_
    simp only [push_cast,seval,Za,hn1,hZn,d1]
    refine (Zau hright).then ?_
    simp only [push_cast,seval,Za,hn1,hZn,d1]
    refine And.intro rfl (Kt hUZ (Nat.le_succ n) rfl ?_)
    simp only [push_cast,seval,Za,hn1,hZn]
  refine Zq (t:=true) rfl (fun c15 => ?_) (fun c15=>by cases c15)
  refine Zn [6,7] (Zb Zc [] ?_)
  simp only [push_cast,seval,Za]
  refine Zv ?_
  try simp only [Zh,Ze]
  refine ⟨.tup [.val (.slice none 0 0),.val (.bool false)],Z,n+1,Nat.le_succ n,⟨Nat.le_succ n,hZo,by rw [eB]⟩,?_⟩
  refine Yu (P:=Try.prog) (.inr rfl) hUZ [.val (.slice none 0 0),.val (.bool false)] (Nat.le_succ n) ?_
  simp only [push_cast,seval,Za,Try.results9]
 have c10:¬ t.Kind=10:=fun h=>cc (.inl h)
 have hr:rt t 64=true:=by
  cases h:rt t 64 with
  | true=>rfl
  | false=>exact absurd (.inr h) cc
 have eB:Znt false t size most=(Xe (szB size) ([],Uy most) 1).bind fun r=>Gp false (szB size) (SizeOf.sizeOf (nrm t)+1) (nrm t) r.1 r.2.1 r.2.2:=by unfold Znt;rw [if_neg cc]
 have hF:Fine (nrm t) 64:=Fine.nrm ⟨hbd,hr,hpt⟩
 have d1:(t.Kind == 10)=false:=Vb c10
 rw [hr] at hright
 have hs0:=Z2a size most
 refine Zn [1,2,3,18] (Zb Zc (Z4i []) ?_)
 simp only [push_cast,seval,Za,hn1,hZn,d1]
 refine (Zau hright).then ?_
 simp only [push_cast,seval,Za,hn1,hZn,d1]
 refine Zq (t:=false) rfl (fun c15=>by cases c15) (fun c15 => ?_)
 refine Zt ?_
 try simp only [Zh,Ze]
 obtain ⟨X,hX⟩:∃ X,X=Z4 Z (n+1) [some (HR (n+1+1) (szB size) (Uy most) 0 0),some ⟨true,22,1,0,[]⟩]:=⟨_,rfl⟩
 have hXpx:PX (HR (n+1+1) (szB size) (Uy most) 0) X (n+3) (n+1) (n+1+1) []:=by rw [hX];exact Ybq hUZ _
 have hXo:∀ u,u < n+1→X u=Z u:=fun u hu=>by rw [hX];exact Xo _ hu
 have hXU:X (n+3)=none:=by rw [hX,show n+3=n+1+2 by omega,Gk];rfl
 refine Zn [3,8] (Zb Zc [] ?_)
 simp only [push_cast,seval,Za,hn1,hZn]
 have gn:=Ybp hUZ size most
 rw [← hX] at gn
 refine GTo.then gn ?_
 simp only [push_cast,seval,Za,hn1,hZn]
 obtain ⟨Y,hY⟩:∃ Y,Y=X.upd (n+3) (some ⟨false,71,2,1,[.ref (n+1) 0,.val (.bool true)]⟩):=⟨_,rfl⟩
 rw [← hY]
 have A4:BA (szB size) (Uy most) Y (n+4) (n+3) (n+1) (n+1+1) [] ([],Uy most):=⟨⟨by rw [show Uy most - ((([]:List (List Int)),Uy most):SG).2=0 from Int.sub_self _];exact hXpx.frame (fun u hu=>by rw [hY];exact Ya _ _ (by rcases Zpt hu with h | h <;> omega)) (by omega),rfl⟩,by omega,fun q=>by rcases Zpt q with h | h <;> omega,by rw [hY];exact Ye _ _ _⟩
 have hYn:Y n=some ⟨false,25,3,1,Zm t⟩:=by rw [hY,Ya _ _ (by omega),hXo _ (by omega)];exact hZn
 have hYo:∀ u,u < n→Y u=O u:=fun u hu=>by rw [hY,Ya _ _ (by omega),hXo _ (by omega)];exact hZo u hu
 simp only [push_cast] at hYn
 have ht0:¬ ter (n+1) (n+1+1) [] n:=fun q=>by rcases Zpt q with h | h <;> omega
 have htu:∀ u,u < n→¬ ter (n+1) (n+1+1) [] u:=fun u hu q=>by rcases Zpt q with h | h <;> omega
 have hn1:n < n+4:=by omega
 have hn3:n+3 < n+4:=by omega
 have hnb:n≠n+3:=by omega
 obtain ⟨O5,n5,L5,g5,A5,F5⟩:=Zor 1 A4 hs0
 refine Zn [3,8,9,10] (Zb Zc [] ?_)
 simp only [push_cast,seval,Za,hn1,hn3,hYn]
 refine g5.then ?_
 obtain ⟨q1,q2,q3⟩:=F5.keepB hn1 hnb ht0
 have hYn:=q1.trans hYn
 obtain ⟨hb,hi⟩:=A5.b_lt
 have hob:=A5.ho
 simp only [push_cast,seval,Za,hi,hb,q2,hYn]
 refine Q9 fun hU5 => ?_
 refine Ya2 ⟨51,[],[(8,.ref (n+3) 0)]⟩ (fun Z m=>∃ M,BO (szB size) (Uy most) Z m (n+3) (n+1) (n+1+1) M (Znt false t size most)∧Fr (isB (n+3)) (n+1) (n+1+1) Y (n+4) [] Z m M) ?_ ?_
 ·cases hg:Xe (szB size) ([],Uy most) 1 with
  | none =>
   rw [hg,Option.bind_none] at eB
   rw [hg] at A5 hob
   simp only [Option.map_none,Zj1] at A5 hob
   refine Zn [3,8,32] (Zb Zc [] ?_)
   simp only [push_cast,seval,Za,hi,hb,q2,hob]
   refine Zq (t:=false) rfl (fun c15=>by cases c15) (fun c15 => ?_)
   refine Zt ?_
   refine .inl ⟨rfl,O5,n5,⟨L5,by rw [eB];exact A5,F5⟩,Kt hU5 (Nat.le_trans (by omega) F5.le) rfl ?_⟩
   simp only [push_cast,seval,Za,hi,hb]
  | some r =>
   rw [hg,Option.bind_some] at eB
   rw [hg] at A5 hob
   simp only [Option.map_some,Zj1] at A5 hob
   have g:=Us hs0 hg
   refine Zn [3,8,9,10,32] (Zb Zc [] ?_)
   simp only [push_cast,seval,Za,hi,hb,q2,hob]
   refine Zq (t:=true) rfl (fun c15 => ?_) (fun c15=>by cases c15)
   refine Zb Zc [] ?_
   simp only [push_cast,seval,Za,hi,hb,q2,hYn,Zdx]
   refine (Zfd hnorm).then ?_
   simp only [push_cast,seval,Za,hi,hb,q2,hYn]
   refine (@Zsu (szB size) (Uy most) (SizeOf.sizeOf (nrm t)+1) (nrm t) 64 (Nat.lt_succ_self _) hF (by rw [Vt];exact c10) O5 n5 (n+3) (n+1) (n+1+1) L5 r.2.2 r.1 r.2.1 A5 g.2.2.2.2.1 (Zdh g.2.2.2.2.2.2.1 (Int.le_refl _) (by omega))).mono fun r' O9 n9 hE => ?_
   obtain ⟨L9,rfl,F9,A9⟩:=hE
   obtain ⟨hb,hi⟩:=A9.b_lt
   simp only [push_cast,seval,Za,hi,hb]
   refine .inl ⟨rfl,O9,n9,⟨L9,by rw [eB];exact A9,F5.trans F9⟩,Fit2.und fun hU9=>Kt hU9 (Nat.le_trans (by omega) (Nat.le_trans F5.le F9.le)) rfl ?_⟩
   simp only [push_cast,seval,Za,hi,hb]
 intro Z m hI
 obtain ⟨M,A9,F9⟩:=hI
 obtain ⟨hb,hi⟩:=A9.b_lt
 have hob:=A9.ho
 have m9:n≤m:=Nat.le_trans (by omega) F9.le
 have ho9:∀ u,u < n→Z u=O u:=fun u hu=>(F9.off u (by omega) (by show ¬ u=n+3;omega) (htu u hu)).trans (hYo u hu)
 refine Q9 fun hU9 => ?_
 refine Zf ?_
 cases ec:Znt false t size most with
 | none =>
  rw [ec] at A9 hob
  simp only [Zj1] at hob
  refine Zn [8,43] (Zb Zc [] ?_)
  simp only [push_cast,seval,Za,hi,hb,hob]
  refine Zq (t:=true) rfl (fun c15 => ?_) (fun c15=>by cases c15)
  refine Zn [6,7] (Zb Zc [] ?_)
  simp only [push_cast,seval,Za]
  refine Zv ?_
  try simp only [Zh,Ze]
  refine ⟨.tup [.val (.slice none 0 0),.val (.bool false)],Z,m,m9,⟨m9,ho9,rfl⟩,?_⟩
  refine Yu (P:=Try.prog) (.inr rfl) hU9 [.val (.slice none 0 0),.val (.bool false)] m9 ?_
  simp only [push_cast,seval,Za,Try.results9]
 | some τ =>
  rw [ec] at A9 hob
  simp only [Zj1] at hob
  have A9':BA (szB size) (Uy most) Z m (n+3) (n+1) (n+1+1) M τ:=A9
  have hoi:=A9'.a.1.ho
  have hj:=A9'.a.1.hj
  unfold HR at hoi
  refine Zn [8,43] (Zb Zc [] ?_)
  simp only [push_cast,seval,Za,hi,hb,hob]
  refine Zq (t:=false) rfl (fun c15=>by cases c15) (fun c15 => ?_)
  refine Zt ?_
  try simp only [Zh,Ze]
  have hlr:∀ (Z:Objs) i k,Kw Z (.row i k)=True:=fun Z i k=>by simp [Kw]
  refine Zn [6,7] (Zb Zc [] ?_)
  simp only [push_cast,seval,Za,hi,hb,hob,hoi,hj,hlr]
  refine Zv ?_
  try simp only [Zh,Ze]
  refine ⟨.tup [.row (n+1+1) M.length,.val (.bool true)],Z,m,m9,⟨m9,ho9,n+1,n+1+1,M,rfl,A9'.a,fun u hu=>by rcases F9.ter u hu with q | q;rcases Zpt q with h | h <;> omega;omega⟩,?_⟩
  refine Yu (P:=Try.prog) (.inr rfl) hU9 [.row (n+1+1) M.length,.val (.bool true)] m9 ?_
  simp only [push_cast,seval,Za,hi,hj,hlr,Try.results9]
attribute [local push_cast] Zj8
def R6 (v:Int):Prop:=0≤v∧v < 18446744073709551616
def UWs (A:List (List Int)):Prop:=∀ x∈A,∀ w∈x,R6 w
theorem UWs.put {A:List (List Int)} (h:UWs A) (s p:Int) {v:Int} (hv:R6 v):UWs (Qq A s p v):=by
 unfold Qq
 split
 ·rename_i c
  obtain ⟨z,hz,_⟩:=Kv c
  intro x hx w hw
  rcases List.mem_or_eq_of_mem_set hx with q | q
  ·exact h x q w hw
  rw [q,hz] at hw
  rcases List.mem_or_eq_of_mem_set hw with r | r
  ·exact h z (Xg hz) w r
  rw [r];exact hv
 exact h
theorem UWs.lays (s:Int):∀ (ws:List Int) {A:List (List Int)} (p:Int),UWs A→(∀ w∈ws,R6 w)→UWs (Q3 A s p ws)
 | [],_,_,h,_=>h
 | w::ws,A,p,h,hw=>UWs.lays s ws (p+1) (h.put s p (hw w List.mem_cons_self)) (fun x hx=>hw x (List.mem_cons_of_mem _ hx))
theorem R6.zero:R6 0:=⟨by decide,by decide⟩
theorem Z8g {x:List Int} (h:∀ w∈x,R6 w) (k:Int):∀ w∈zl x k,R6 w:=fun w hw=>by
 unfold zl at hw
 rcases List.mem_append.1 hw with q | q
 ·exact h w q
 rw [(List.mem_replicate.1 q).2];exact R6.zero
theorem UWs.give {size k:Int} {σ:SG} {r:Int×Int×SG} (h:UWs σ.1) (e:Xe size σ k=some r):UWs r.2.2.1:=by
 obtain ⟨h1,rfl⟩:=Ztk e
 by_cases c:k < 0∨σ.2 < k
 ·have e:Xu σ.1 size σ.2 k=(0,0,false,σ.1,σ.2):=if_pos c
  rw [e];exact h
 by_cases c2:σ.1.length=0∨σ.1.length < 16∧¬ k≤IntKind.i64.wrap (size - ((J9 σ.1).length:Int))
 ·have e:Xu σ.1 size σ.2 k=((σ.1.length:Int),0,true,σ.1++[zl [] k],IntKind.i64.wrap (σ.2 - k)):=(if_neg c).trans (if_pos c2)
  rw [e]
  intro x hx
  rcases List.mem_append.1 hx with q | q
  ·exact h x q
  rw [List.mem_singleton.1 q];exact Z8g (fun w hw=>by cases hw) k
 have e:Xu σ.1 size σ.2 k=((σ.1.length:Int) - 1,((J9 σ.1).length:Int),true,σ.1.set (σ.1.length - 1) (zl (J9 σ.1) k),IntKind.i64.wrap (σ.2 - k)):=(if_neg c).trans (if_neg c2)
 rw [e]
 intro x hx
 rcases List.mem_or_eq_of_mem_set hx with q | q
 ·exact h x q
 rw [q];exact Z8g (h _ (Xg (Zeh (by omega)))) k
theorem UWs.inU {size s:Int} {σ:SG} {r:Int×SG} (h:UWs σ.1) (e:inO size σ s=some r):UWs r.2.1:=by
 unfold inO at e
 cases hx:Z9 σ.1 s with
 | none=>rw [hx] at e;cases e
 | some x =>
  rw [hx] at e
  dsimp only at e
  split at e
  ·have:=Option.some.inj e;subst this
   intro y hy
   rcases List.mem_or_eq_of_mem_set hy with q | q
   ·exact h y q
   rw [q];exact Z8g (h _ (Xg hx)) 1
  cases e
theorem Yaf {a b k u:Int} (k0:0≤k) (k1:k≤1) (u0:0≤u) (u1:u < 4294967296):R6 (nw a b k u):=by unfold R6 nw;omega
theorem Z6b {h b d:Int} (h0:0≤h) (h1:h≤1000) (b0:0≤b) (b1:b≤131072) (d0:0≤d) (d1:d≤1):R6 (fw h b d):=by unfold R6 fw;omega
theorem Z7y {size most:Int} {σ:SG} (hs:St size most σ) {s p k:Int} (h:X0 σ.1 s p k=true):0≤s∧s≤16:=by
 obtain ⟨y,hy,_⟩:=Kv h
 have:=K4 hy
 have:=hs.h16
 omega
theorem UWs.aim {size most:Int} {σ τ:SG} {s p k u hm b:Int} (hs:St size most σ) (h:UWs σ.1) (kb:0≤k∧k≤1∧0≤u∧u < 4294967296) (hb:0≤b∧b≤131072) (hh:0≤hm∧hm≤16) (e:Zaf size σ s p k u hm b=some τ):UWs τ.1:=by
 unfold Zaf at e
 split at e
 ·have:=Option.some.inj e;subst this
  exact h.put _ _ ⟨by decide,by decide⟩
 split at e
 ·have:=Option.some.inj e;subst this
  exact h.put _ _ (Yaf kb.1 kb.2.1 kb.2.2.1 kb.2.2.2)
 cases hi:inO size σ hm with
 | some r =>
  rw [hi] at e
  have:=Option.some.inj e;subst this
  have o:=Zxu hs hi
  exact ((h.inU hi).put _ _ (Yaf kb.1 kb.2.1 kb.2.2.1 kb.2.2.2)).put _ _ (Z6b hh.1 (by omega) o.1 (by omega) (by decide) (by decide))
 | none =>
  rw [hi] at e
  dsimp only at e
  cases hg:Xe size σ 2 with
  | none=>rw [hg] at e;cases e
  | some r =>
   rw [hg] at e
   have:=Option.some.inj e;subst this
   have o:=Us hs hg
   have sl:=Z7y o.2.2.2.2.1 o.2.2.2.2.2.2.1
   refine (UWs.lays r.1 _ r.2.1 (h.give hg) (fun w hw => ?_)).put _ _ (Z6b sl.1 (by omega) o.2.2.1 (by omega) (by decide) (by decide))
   simp only [List.mem_cons,List.not_mem_nil,or_false] at hw
   rcases hw with rfl | rfl
   ·exact Z6b hh.1 (by omega) hb.1 hb.2 (by decide) (by decide)
   unfold R6;omega
def Z5b (size most:Int) (f:Tr→Int→Int→SG→Option SG) (t:Tr):Prop:=∀ s p σ τ,St size most σ→X0 σ.1 s p 1=true→UWs σ.1→f t s p σ=some τ→UWs τ.1
theorem Zxz {size most:Int} {f:Tr→Int→Int→SG→Option SG} (hf:Zrs size most f) (s:Int):∀ (ts:List Tr) (p:Int) (σ τ:SG),(∀ t∈ts,Z5b size most f t)→St size most σ→(∀ q,p≤q→q < p+(ts.length:Int)→X0 σ.1 s q 1=true)→UWs σ.1→Zak f s p ts σ=some τ→UWs τ.1
 | [],_,_,_,_,_,_,h,e=>by have:=Option.some.inj e;subst this;exact h
 | t::ts,p,σ,τ,hk,hs,hb,h,e=>by
  rw [List.length_cons] at hb
  rw [Zak] at e
  cases h1:f t s p σ with
  | none=>rw [h1] at e;cases e
  | some ρ =>
   rw [h1] at e
   obtain ⟨a,b⟩:=(hf t s p σ hs).1 ρ h1
   exact Zxz hf s ts (p+1) ρ τ (fun x hx=>hk x (List.mem_cons_of_mem _ hx)) a (fun q x y=>b _ _ _ (hb q (by omega) (by omega))) (hk t List.mem_cons_self s p σ ρ hs (hb p (Int.le_refl _) (by omega)) h h1) e
theorem Z2q {size most:Int} {f:Tr→Int→Int→SG→Option SG} (hf:Zrs size most f) (s m w:Int) (hm:0≤m) (hw:0≤w):∀ (us:List Tr) (p:Int) (σ τ:SG),(∀ u∈us,(∀ x∈u.Words,R6 x)∧w+(u.Kids.length:Int)≤m∧∀ t∈u.Kids,Z5b size most f t)→St size most σ→(∀ q,p≤q→q < p+(us.length:Int) * m→X0 σ.1 s q 1=true)→UWs σ.1→Zde f s m w p us σ=some τ→UWs τ.1
 | [],_,_,_,_,_,_,h,e=>by have:=Option.some.inj e;subst this;exact h
 | u::us,p,σ,τ,hk,hs,hb,h,e=>by
  obtain ⟨k1,k2,k3⟩:=hk u List.mem_cons_self
  rw [List.length_cons,Int.natCast_add,Int.add_mul] at hb
  simp only [Int.natCast_one,Int.one_mul] at hb
  have hn:0≤(us.length:Int) * m:=Int.mul_nonneg (by omega) hm
  have hs1:=St.lays s u.Words hs p
  rw [Zde] at e
  cases h1:Zak f s (p+w) u.Kids (Q3 σ.1 s p u.Words,σ.2) with
  | none=>rw [h1] at e;cases e
  | some ρ =>
   rw [h1] at e
   have u1:=Zxz hf s u.Kids (p+w) _ ρ k3 hs1 (fun q x y=>Ex.lays _ _ _ _ _ _ _ (hb q (by omega) (by omega))) (UWs.lays s u.Words p h k1) h1
   obtain ⟨a,b⟩:=(Zbl hf s u.Kids (p+w) _ hs1).1 ρ h1
   exact Z2q hf s m w hm hw us (p+m) ρ τ (fun x hx=>hk x (List.mem_cons_of_mem _ hx)) a (fun q x y=>b _ _ _ (Ex.lays _ _ _ _ _ _ _ (hb q (by omega) (by omega)))) u1 e
theorem Zx0 (size most:Int):∀ (n:Nat) (t:Tr) (d:Nat),SizeOf.sizeOf t < n→Fine t d→¬ t.Kind=10→Z5b size most (Gp false size n) t
 | 0,_,_,h,_,_=>by omega
 | n+1,t,d,h,hF,h10=>fun s p σ τ hs hb hu e=>by
  simp only [Gp] at e
  have hf:=Zkw false size most n
  by_cases c0:t.Kind=0
  ·rw [if_pos c0] at e
   have:=Option.some.inj e;subst this
   exact hu
  rw [if_neg c0] at e
  have kd:=Z6h hF c0 h10
  have ik:=(Zin hF.rt c0 h10).2.2.2
  obtain ⟨P,_,_,hP⟩:=Z71 hF c0 h10
  cases hg:Xe size σ (pwd t) with
  | none=>rw [hg] at e;cases e
  | some r =>
   rw [hg,Option.bind_some] at e
   have g:=Us hs hg
   have sl:=Z7y g.2.2.2.2.1 g.2.2.2.2.2.2.1
   cases ha:Zaf size r.2.2 s p (pkd t) (pup t) r.1 r.2.1 with
   | none=>rw [ha] at e;cases e
   | some ρ =>
    rw [ha,Option.bind_some] at e
    have a:=Zsh g.2.2.2.2.1 ha
    have u1:=UWs.aim g.2.2.2.2.1 (hu.give hg) (hP (by omega)).bd ⟨g.2.2.1,by omega⟩ sl ha
    have hB:=a.2.1 _ _ _ g.2.2.2.2.2.2.1
    have one:∀ q,r.2.1≤q→q < r.2.1+pwd t→X0 ρ.1 r.1 q 1=true:=fun q x y=>Zdh hB x y
    unfold inT at e
    by_cases c1:t.Kind=1
    ·rw [if_pos c1] at e
     rw [Zof c1] at one
     exact Zxz hf r.1 t.Kids _ _ τ (fun x hx=>Zx0 size most n x (d - 1) (by have:=Ka hx;omega) (hF.kid hx) (Zdc (by omega) (ik x hx).2).1) (St.lays r.1 _ a.1 _) (fun q x y=>Ex.lays _ _ _ _ _ _ _ (one q (by omega) (by omega))) (UWs.lays r.1 t.Words _ u1 hF.bd.u) e
    by_cases c8:t.Kind=8
    ·rw [if_neg c1,if_pos c8] at e
     rw [Z0m c8] at one
     exact Zxz hf r.1 t.Kids _ _ τ (fun x hx=>Zx0 size most n x (d - 1) (by have:=Ka hx;omega) (hF.kid hx) (Zdc (by omega) (ik x hx).2).1) a.1 one u1 e
    by_cases c9:t.Kind=9
    ·obtain ⟨a1,a2,w0,w1,k0,k1,ak⟩:=Z58 hF c9
     rw [if_neg c1,if_neg c8,if_pos c9,if_neg (by decide)] at e
     rw [Zpn c9] at one
     have hs1:St size most (Qq ρ.1 r.1 r.2.1 (Zjb t),ρ.2):=a.1.put _ _ _
     refine Z2q hf r.1 _ _ (by omega) w0 t.Kids (r.2.1+1) _ τ (fun u hu'=>⟨(hF.bd.all u hu').u,by have:=ak u hu';omega,fun x hx => ?_⟩) hs1 (fun q x y=>Ex.put _ _ _ ρ _ _ _ (one q (by omega) (by omega))) (u1.put _ _ ?_) e
     ·have k1':=(Zdc (by omega) (ik u hu').2).2 c9
      have j4:=(Zin (hF.kid hu').rt (by omega) (by omega)).2.2.2 x hx
      exact Zx0 size most n x (d - 1 - 1) (by have:=Ka hu';have:=Ka hx;omega) ((hF.kid hu').kid hx) (Zdc (by omega) j4.2).1
     have:=Zln t
     have:=hF.pt
     unfold R6 Zjb
     omega
    rw [if_neg c1,if_neg c8,if_neg c9] at e
    have:=Option.some.inj e;subst this
    refine UWs.lays r.1 _ _ u1 (Z9c (by omega) (fun n hn => ?_))
    obtain ⟨k,hk,rfl⟩:=List.mem_map.1 hn
    obtain ⟨w,hw,q0,_,q1⟩:=Zoq hF (by omega) k hk
    rw [hw];exact ⟨q0,q1⟩
theorem Z5t {t:Tr} (hbd:Bd t) (hp:pt t≤200000) {size most:Int} {τ:SG} (h:Znt false t size most=some τ):WS τ.1:=by
 have hst:=Ya5 h
 refine ⟨by have:=hst.h16;omega,fun x hx=>by have:=hst.hB x hx;have:=hst.hl0;omega,?_⟩
 unfold Znt at h
 by_cases c:t.Kind=10∨rt t 64=false
 ·rw [if_pos c] at h;cases h
 rw [if_neg c] at h
 have hr:rt t 64=true:=by
  cases h:rt t 64 with
  | true=>rfl
  | false=>exact absurd (.inr h) c
 have hF:Fine (nrm t) 64:=Fine.nrm ⟨hbd,hr,hp⟩
 cases hg:Xe (szB size) ([],Uy most) 1 with
 | none=>rw [hg] at h;cases h
 | some r =>
  rw [hg,Option.bind_some] at h
  have g:=Us (Z2a size most) hg
  exact Zx0 (szB size) (Uy most) _ (nrm t) 64 (Nat.lt_succ_self _) hF (by rw [Vt];exact fun h=>c (.inl h)) r.1 r.2.1 r.2.2 τ g.2.2.2.2.1 (Zdh g.2.2.2.2.2.2.1 (Int.le_refl _) (by omega)) (UWs.give (σ:=([],Uy most)) (fun x hx=>by cases hx) hg) h
open Classical in
/-- the reference's Build as a plain function -/
noncomputable def Kj (a0:Zi) (a1:Int) (a2:Int):Option ((List (List Int))×Bool) :=
 if Bd a0∧pt a0≤200000 then some (match Znt false a0 a1 a2 with | none=>([],false) | some τ=>(τ.1,true)) else none
theorem GCalls.freeze {P:Program} {f:FuncId} {gs:List G} {O:Objs} {n:Nat} {r3:G} {K:G→Objs→Nat→Prop} (h:GCalls P f gs O n K) (hk:Und O n→∀ r O' n',K r O' n'→n≤n'∧LessO O' O n∧wk O' O n r r3):GTo P f gs O n r3 O n:=by
 refine ⟨h.1,fun w m vs hM hr=>(h.2 w m vs hM hr).mono fun e w' ⟨v,g,O',n',m',h1,h2,h3,h4,h5⟩ => ?_⟩
 obtain ⟨hn,hL,hw⟩:=hk ⟨hM.fresh,fun i o hi=>by obtain ⟨vs,hv,_⟩:=hM.obj i o hi;exact Jr _ _ hv⟩ g O' n' h5
 exact ⟨v,r3,O,n,m',h1,h2.weak hL,h3.weak hL (Nat.le_refl _),Zh3 h2 hL _ v h4 _ hw,rfl,rfl,rfl⟩
theorem Z02 {Z O:Objs} {n:Nat}:∀ L:List NR,(∀ x∈L,Z x.1=some ⟨true,58,1,x.2.length,fl (eI .u64) x.2⟩∧O x.1=none)→wkl Z O n (fl eN L) (fl (eL (eI .u64)) (L.map (·.2)))
 | [],_=>by simp [fl,wkl]
 | x::L,h=>by
  show wkl Z O n (.row x.1 x.2.length::fl eN L) (.sl x.2.length (fl (eI .u64) x.2)::fl (eL (eI .u64)) (L.map (·.2)))
  unfold wkl
  refine ⟨_,_,rfl,?_,Z02 L fun y hy=>h y (List.mem_cons_of_mem _ hy)⟩
  unfold wk
  exact ⟨rfl,(h x List.mem_cons_self).2,_,(h x List.mem_cons_self).1,rfl,rfl,Zbc _⟩
theorem Zd0 {a0:Zi} {a1:Int} {a2:Int} {r:((List (List Int))×Bool)} {O:Objs} {n:Nat} (h:Kj a0 a1 a2=some r):GTo Try.prog 9 [.agg (Zm a0),.val (.int .i64 a1),.val (.int .i64 a2)] O n (.tup [.sl r.1.length (fl (eL (eI .u64)) r.1),.val (.bool r.2)]) O n:=by
 unfold Kj at h
 split at h
 ·rename_i c
  have:=Option.some.inj h;subst this
  refine GCalls.freeze (Z4l c.1 c.2 a1 a2) fun hU r O' n' hE => ?_
  obtain ⟨m9,ho9,hres⟩:=hE
  have hL:LessO O' O n:=Zx1 hU fun t o ht=>by
   rcases Nat.lt_or_ge t n with q | q
   ·rw [ho9 t q];exact ht
   rw [hU.fresh t q] at ht;cases ht
  refine ⟨m9,hL,?_⟩
  cases e:Znt false a0 a1 a2 with
  | none =>
   rw [e] at hres
   subst hres
   simp only [push_cast,seval,Za]
  | some τ =>
   rw [e] at hres
   obtain ⟨i,j,L,rfl,A,ht⟩:=hres
   obtain ⟨A1,A2⟩:=A
   show wk O' O n (.tup [.row j L.length,.val (.bool true)]) (.tup [.sl τ.1.length (fl (eL (eI .u64)) τ.1),.val (.bool true)])
   unfold wk
   refine ⟨_,rfl,?_⟩
   unfold wkl
   refine ⟨_,_,rfl,?_,by simp only [push_cast,seval,Za]⟩
   unfold wk
   rw [← A2]
   exact ⟨by rw [List.length_map],hU.fresh j (ht j (.inr (.inl rfl))),_,A1.hoj,rfl,rfl,Z02 L fun x hx=>⟨A1.hL x hx,hU.fresh _ (ht _ (.inr (.inr ⟨x,hx,rfl⟩)))⟩⟩
 cases h
attribute [local push_cast] false_and bne_iff_ne bne_eq_false_iff_eq imp_self Bool.not_not Bool.not_eq_true' Bool.not_eq_false' Z03 Zsx Z5h Zyz Z3u Z3v Zom Zcj
noncomputable def K5 (a0:Zi) (a1:Zi) (a2:Int) (a3:Int):Option Bool :=
 ((Vl a0).bind fun y6=>cond y6 ((Vl a1).bind fun y7=>some (cond (!y6) true (!y7))) (some true)).bind fun (z3:Bool)=>cond z3 ((Qm).bind fun y10=>some y10) ((Kj a0 a2 131072).bind fun y12=>(Kj a1 a3 131072).bind fun y14=>cond (cond (!y12.2) true (!y14.2)) ((Qm).bind fun y16=>some y16) ((X6 y12.1 (⟨64,65536,0,0⟩:Yg)).bind fun y18=>(X6 y14.1 (⟨64,65536,0,0⟩:Yg)).bind fun y20=>cond (cond (y18.2.2 != 0) true (y20.2.2 != 0)) ((Qm).bind fun y22=>some y22) ((Zam).bind fun y24=>(Jv y12.1).bind fun y27=>(Q2 (⟨y24.classes,y24.places⟩:Z3) y27).bind fun y28=>(Jv y14.1).bind fun y31=>(Q2 (⟨y28.2.2.classes,y28.2.2.places⟩:Z3) y31).bind fun y32=>(Jk ([]:(List Zi)) y18.1.Kids).bind fun y34=>(Jk y34.1 y20.1.Kids).bind fun y36=>(cond (y28.2.1 == 0) (cond (y32.2.1 == 0) ((Xb y28.1 y34.2).bind fun y46=>cond y46 ((Xb y32.1 y36.2).bind fun y47=>cond y47 ((Kk (some (⟨y32.2.2.classes,y32.2.2.places⟩:Z3))).bind fun y48=>cond (y48 == (y36.1.length:Int)) ((Qm).bind fun y49=>some (cond (cond (cond (cond (cond (y28.2.1 == 0) (y32.2.1 == 0) false) y46 false) y47 false) (y48 == (y36.1.length:Int)) false) y49 false)) (some false)) (some false)) (some false)) (some false)) (some false)).bind fun (z41:Bool)=>some z41)))
theorem Z6w (u:Tr):u.Kids.length+1≤nd u:=by
 rw [Zt6]
 have:∀ l:List Tr,l.length≤(l.map nd).sum:=fun l=>by
  induction l with
  | nil=>exact Nat.le_refl _
  | cons x l ih =>
   rw [List.map_cons,List.sum_cons,List.length_cons]
   have:=Z1s x
   omega
 have:=this u.Kids
 omega
theorem Z2r:∀ (l ts:List Tr),(Znw ts l).length≤ts.length+l.length
 | [],ts=>Nat.le_refl _
 | t::l,ts=>by
  have:=Z2r l (nxt ts t)
  have:=Zx5 ts t
  rw [Znw,List.length_cons]
  omega
theorem Zs6:∀ (l ts:List Tr),(Znv ts l).length=l.length
 | [],ts=>rfl
 | t::l,ts=>by rw [Znv,List.length_cons,Zs6 l,List.length_cons]
theorem Zy8 {P:Tr→Prop}:∀ (l ts:List Tr),(∀ t∈ts,P t)→(∀ t∈l,P t)→∀ t∈Znw ts l,P t
 | [],ts,h,_=>h
 | x::l,ts,h,hl=>by
  rw [Znw]
  exact Zy8 l (nxt ts x) (Z27 h (hl x List.mem_cons_self)) (fun t ht=>hl t (List.mem_cons_of_mem _ ht))
theorem Z7i {u:Tr} (hb:Bd u) (hk:u.Kids.length≤70000) {ts:List Tr} (ht:∀ t∈ts,Bd t) (hl:ts.length≤70000):Jk (ts.map nrm) u.Kids=some ((Znw ts u.Kids).map nrm,Znv ts u.Kids):=by
 unfold Jk
 have:=Znm (kids:=u.Kids) hb.all (by omega) u.Kids [] ts [] rfl ht (by omega) (by rw [List.length_nil];omega)
 rw [show Z6 (Qg u.Kids) (0,ts.map nrm,([]:List Int))=_ from this]
 rfl
theorem Zxv {a b:Tr} (ha:Bd a) (hb:Bd b) (s1 s2:Int):K5 a b s1 s2=some true:=by
 obtain ⟨fa,ea,pa⟩:=Z52 ha
 obtain ⟨fb,eb,pb⟩:=Z52 hb
 unfold K5
 rw [ea,eb,Z30]
 cases fa with
 | false=>rfl
 | true =>
  cases fb with
  | false=>rfl
  | true =>
   have pa':pt a≤200000:=by have:=pa rfl;omega
   have pb':pt b≤200000:=by have:=pb rfl;omega
   have Ba:Kj a s1 131072=_:=if_pos ⟨ha,pa'⟩
   have Bb:Kj b s2 131072=_:=if_pos ⟨hb,pb'⟩
   rw [Ba,Bb]
   cases e1:Znt false a s1 131072 with
   | none=>rfl
   | some τ =>
    cases e2:Znt false b s2 131072 with
    | none=>rfl
    | some ρ =>
     have w1:=Z5t ha pa' e1
     have w2:=Z5t hb pb' e2
     simp only [Option.bind_some,Bool.not_true,cond_false,cond_true]
     rw [show X6 τ.1 _=_ from Zw6 (A:=⟨τ.1,0,0⟩) w1 (⟨64,65536,0,0⟩:Yg),show X6 ρ.1 _=_ from Zw6 (A:=⟨ρ.1,0,0⟩) w2 (⟨64,65536,0,0⟩:Yg)]
     simp only [Option.bind_some]
     by_cases h1:(Zfr ⟨τ.1,0,0⟩ (⟨64,65536,0,0⟩:Yg)).2.2=0
     ·by_cases h2:(Zfr ⟨ρ.1,0,0⟩ (⟨64,65536,0,0⟩:Yg)).2.2=0
      ·obtain ⟨m1,n1⟩:=Z2g (A:=⟨τ.1,0,0⟩) w1 _ h1
       obtain ⟨m2,n2⟩:=Z2g (A:=⟨ρ.1,0,0⟩) w2 _ h2
       have b1:=Z3o (A:=⟨τ.1,0,0⟩) w1 (⟨64,65536,0,0⟩:Yg)
       have b2:=Z3o (A:=⟨ρ.1,0,0⟩) w2 (⟨64,65536,0,0⟩:Yg)
       rw [h1,h2]
       generalize (Zfr ⟨τ.1,0,0⟩ (⟨64,65536,0,0⟩:Yg)).1=u at m1 n1 b1 ⊢
       generalize (Zfr ⟨ρ.1,0,0⟩ (⟨64,65536,0,0⟩:Yg)).1=v at m2 n2 b2 ⊢
       have ku:u.Kids.length≤70000:=by have:=Z6w u;omega
       have kv:v.Kids.length≤70000:=by have:=Z6w v;omega
       have tl:=Z2r u.Kids []
       rw [List.length_nil] at tl
       obtain ⟨cl1,pl1,a1,i1⟩:=Zp3 (A:=⟨τ.1,0,0⟩) w1 m1 n1 ku TI.empty (by simp)
       obtain ⟨cl2,pl2,a2,i2⟩:=Zp3 (A:=⟨ρ.1,0,0⟩) w2 m2 n2 kv i1 (by rw [i1.len];omega)
       have rc1:=Z7i (u:=u) b1 ku (ts:=[]) (fun t ht=>by cases ht) (by simp)
       have rc2:=Z7i (u:=v) b2 kv (ts:=Znw [] u.Kids) (Zy8 u.Kids [] (fun t ht=>by cases ht) b1.all) (by omega)
       rw [show (([]:List Tr).map nrm)=[] from rfl] at rc1
       have sI1:Xb (Znv [] u.Kids) (Znv [] u.Kids)=some true:=by
        rw [Zj4 (by rw [Zs6];omega),beq_self_eq_true]
       have sI2:Xb (Znv (Znw [] u.Kids) v.Kids) (Znv (Znw [] u.Kids) v.Kids)=some true:=by
        rw [Zj4 (by rw [Zs6];omega),beq_self_eq_true]
       rw [show ((0:Int) != 0)=false from rfl]
       simp only [cond_false]
       rw [show Zam=some (⟨[],[]⟩:Z3) from rfl,Option.bind_some,Zqv w1,Option.bind_some]
       simp only
       rw [a1,Option.bind_some,Zqv w2,Option.bind_some]
       simp only
       rw [a2,Option.bind_some,rc1,Option.bind_some]
       simp only
       rw [rc2,Option.bind_some]
       simp only
       rw [sI1,sI2]
       unfold Kk
       simp only [Option.isNone_some,cond_false,Option.bind_some]
       rw [i2.len,List.length_map,show ((0:Int) == 0)=true from rfl,beq_self_eq_true]
       rfl
      rw [h1,show ((0:Int) != 0)=false from rfl,bne_iff_ne.2 h2];rfl
     rw [bne_iff_ne.2 h1];rfl
theorem Zgb {a0:Zi} {a1:Zi} {a2:Int} {a3:Int} {r:Bool} {O:Objs} {n:Nat} (h:K5 a0 a1 a2 a3=some r):GTo Try.prog 5 [.agg (Zm a0),.agg (Zm a1),.val (.int .i64 a2),.val (.int .i64 a3)] O n (.val (.bool r)) O n:=by
 unfold K5 at h
 refine Yi Zc Try.call5 Try.func5 rfl (Nat.le_of_ble_eq_true rfl) (Nat.le_refl _) fun hU => ?_
 have hN0:O n=none:=hU.fresh _ (Nat.le_refl _)
 have hN:∀ k,O (n+k)=none:=fun k=>hU.fresh _ (Nat.le_add_right _ _)
 show W _ _ _ _ ⟨131,[],[(0,.agg (Zm a0)),(1,.agg (Zm a1)),(2,.val (.int .i64 a2)),(3,.val (.int .i64 a3))]⟩ (Z4 O n []) _
 refine Zn [2,3,4,5] (Zb Zc [] ?_)
 simp only [push_cast,seval,Za,hN0,hN]
 refine Zf ?_
 obtain ⟨z3,hz3,h⟩:=bC h
 refine Yt (E':=⟨131,[],[(2,.val (.int .i64 a2)),(3,.val (.int .i64 a3)),(4,.ref n 0),(5,.ref (n+1) 0),(34,.val (.bool z3))]⟩) (O':=(Z4 O n [some ⟨false,25,3,1,(Zm a0)⟩,some ⟨false,25,3,1,(Zm a1)⟩])) (n0:=(n+2)) ?_ ?_
 ·obtain ⟨y6,hy6,hz3⟩:=bC hz3
  rcases Bool.eq_false_or_eq_true y6 with c8 | c8
  ·replace hz3:=Zz c8 hz3
   obtain ⟨y7,hy7,hz3⟩:=bC hz3
   refine Zb Zc (Z4i []) ?_
   simp only [push_cast,seval,Za,c8,hN0,hN]
   refine (Zb4 hy6).then ?_
   simp only [push_cast,seval,Za,c8,hN0,hN]
   refine (Zb4 hy7).then ?_
   simp only [push_cast,seval,Za,c8,hN0,hN]
   have hz3:=Option.some.inj hz3;subst hz3
   refine And.intro rfl (Fit2.of (Zp hU rfl rfl ?_) (by omega))
   simp only [push_cast,seval,Za,c8,hN0,hN]
  replace hz3:=Zy c8 hz3
  refine Zb Zc (Z62 []) ?_
  simp only [push_cast,seval,Za,c8,hN0,hN]
  refine (Zb4 hy6).then ?_
  simp only [push_cast,seval,Za,c8,hN0,hN]
  have hz3:=Option.some.inj hz3;subst hz3
  refine And.intro rfl (Fit2.of (Zp hU rfl rfl ?_) (by omega))
  simp only [push_cast,seval,Za,c8,hN0,hN]
 refine Zq (t:=z3) rfl (fun c57 => ?_) (fun c57 => ?_)
 ·replace h:=Zz c57 h
  refine Zf ?_
  obtain ⟨y10,hy10,h⟩:=bC h
  refine Zb Zc [] ?_
  simp only [push_cast,seval,Za,hN0,hN]
  refine (Up hy10).then ?_
  simp only [push_cast,seval,Za,hN0,hN]
  refine Zg [8] [false,false] ?_
  simp only [push_cast,seval]
  refine Zv ?_
  try simp only [Zh,Ze]
  have h:=Option.some.inj h;subst h
  refine Zo (.inr rfl) hU [.val (.bool y10)] (by omega) ?_
  simp only [push_cast,seval,Za,Try.results5,hN0,hN]
 replace h:=Zy c57 h
 refine Zt ?_
 try simp only [Zh,Ze]
 refine Zg [2,3,4,5] [true,true] ?_
 simp only [push_cast,seval]
 refine Zf ?_
 obtain ⟨y12,hy12,h⟩:=bC h
 refine Zb Zc [] ?_
 simp only [push_cast,seval,Za,hN0,hN]
 refine (Zd0 hy12).then ?_
 simp only [push_cast,seval,Za,hN0,hN]
 refine Zg [3,5,9,10] [false,true] ?_
 simp only [push_cast,seval]
 refine Zf ?_
 obtain ⟨y14,hy14,h⟩:=bC h
 refine Zb Zc [] ?_
 simp only [push_cast,seval,Za,hN0,hN]
 refine (Zd0 hy14).then ?_
 simp only [push_cast,seval,Za,hN0,hN]
 refine Zg [9,10,11,12] [false,false] ?_
 simp only [push_cast,seval]
 refine Zf ?_
 refine Zn [9,11,53] (Zb Zc [none,none] ?_)
 simp only [push_cast,seval,Za,hN0,hN]
 repeat (with_reducible refine And.intro (by first | (intro h0;simp only [h0];done) | (intro h0;simp only [h0,Bool.not_false,Bool.not_true,true_and,and_true,imp_self,implies_true,bne_iff_ne,ne_eq];done) | (intros;simp_all;done) | exact True.intro) ?_)
 refine Zq (t:=(cond (!y12.2) true (!y14.2))) rfl (fun c56 => ?_) (fun c56 => ?_)
 ·replace h:=Zz c56 h
  refine Zf ?_
  obtain ⟨y16,hy16,h⟩:=bC h
  refine Zb Zc [] ?_
  simp only [push_cast,seval,Za,hN0,hN]
  refine (Up hy16).then ?_
  simp only [push_cast,seval,Za,hN0,hN]
  refine Zg [8] [false,false] ?_
  simp only [push_cast,seval]
  refine Zv ?_
  try simp only [Zh,Ze]
  have h:=Option.some.inj h;subst h
  refine Zo (.inr rfl) hU [.val (.bool y16)] (by omega) ?_
  simp only [push_cast,seval,Za,Try.results5,hN0,hN]
 replace h:=Zy c56 h
 refine Zt ?_
 try simp only [Zh,Ze]
 refine Zg [9,11] [false,false] ?_
 simp only [push_cast,seval]
 refine Zf ?_
 obtain ⟨y18,hy18,h⟩:=bC h
 refine Zb Zc [] ?_
 simp only [push_cast,seval,Za,hN0,hN]
 refine (Zdo hy18).then ?_
 simp only [push_cast,seval,Za,hN0,hN]
 refine Zg [9,11,13,15] [false,false,true] ?_
 simp only [push_cast,seval]
 refine Zf ?_
 obtain ⟨y20,hy20,h⟩:=bC h
 refine Zb Zc [] ?_
 simp only [push_cast,seval,Za,hN0,hN]
 refine (Zdo hy20).then ?_
 simp only [push_cast,seval,Za,hN0,hN]
 refine Zg [9,11,13,15,16,18] [false,false,true,true] ?_
 simp only [push_cast,seval]
 refine Zf ?_
 refine Zn [9,11,13,16,74] (Zb Zc [none,none] ?_)
 simp only [push_cast,seval,Za,hN0,hN]
 repeat (with_reducible refine And.intro (by first | (intro h0;simp only [h0];done) | (intro h0;simp only [h0,Bool.not_false,Bool.not_true,true_and,and_true,imp_self,implies_true,bne_iff_ne,ne_eq];done) | (intros;simp_all;done) | exact True.intro) ?_)
 refine Zq (t:=(cond (y18.2.2 != 0) true (y20.2.2 != 0))) rfl (fun c55 => ?_) (fun c55 => ?_)
 ·replace h:=Zz c55 h
  refine Zf ?_
  obtain ⟨y22,hy22,h⟩:=bC h
  refine Zb Zc [] ?_
  simp only [push_cast,seval,Za,hN0,hN]
  refine (Up hy22).then ?_
  simp only [push_cast,seval,Za,hN0,hN]
  refine Zg [8] [false,false,false,false] ?_
  simp only [push_cast,seval]
  refine Zv ?_
  try simp only [Zh,Ze]
  have h:=Option.some.inj h;subst h
  refine Zo (.inr rfl) hU [.val (.bool y22)] (by omega) ?_
  simp only [push_cast,seval,Za,Try.results5,hN0,hN]
 replace h:=Zy c55 h
 refine Zt ?_
 try simp only [Zh,Ze]
 refine Zg [9,11,13,16] [false,false,true,true] ?_
 simp only [push_cast,seval]
 refine Zf ?_
 obtain ⟨y24,hy24,h⟩:=bC h
 refine Zb Zc [] ?_
 simp only [push_cast,seval,Za,hN0,hN]
 refine (Znj  hy24).then ?_
 simp only [push_cast,seval,Za,hN0,hN]
 refine Zg [9,11,13,16,19] [false,false,true,true,true,true,true] ?_
 simp only [push_cast,seval]
 refine Zf ?_
 obtain ⟨y27,hy27,h⟩:=bC h
 obtain ⟨y28,hy28,h⟩:=bC h
 refine Zb Zc [] ?_
 simp only [push_cast,seval,Za,hN0,hN]
 refine (Za9 hy27).then ?_
 simp only [push_cast,seval,Za,hN0,hN]
 refine (Zaa (i0:=(n+4)) (j0_0:=(n+5)) (j0_1:=(n+6)) (by omega) (by omega) (by omega) (by omega) (by omega) (by omega) (by simp only [push_cast,seval,Za,Qk,hN0,hN] <;> rfl) (by simp only [push_cast,seval,Za,Qk,hN0,hN] <;> rfl) (by simp only [push_cast,seval,Za,Qk,hN0,hN] <;> rfl) hy28).then ?_
 simp only [push_cast,seval,Za,hN0,hN]
 refine Zg [11,13,16,19,20,21] [false,false,true,true,true,false,false,true,true] ?_
 simp only [push_cast,seval]
 refine Zf ?_
 obtain ⟨y31,hy31,h⟩:=bC h
 obtain ⟨y32,hy32,h⟩:=bC h
 refine Zb Zc [] ?_
 simp only [push_cast,seval,Za,hN0,hN]
 refine (Za9 hy31).then ?_
 simp only [push_cast,seval,Za,hN0,hN]
 refine (Zaa (i0:=(n+4)) (j0_0:=(n+7)) (j0_1:=(n+8)) (by omega) (by omega) (by omega) (by omega) (by omega) (by omega) (by simp only [push_cast,seval,Za,Qk,hN0,hN] <;> rfl) (by simp only [push_cast,seval,Za,Qk,hN0,hN] <;> rfl) (by simp only [push_cast,seval,Za,Qk,hN0,hN] <;> rfl) hy32).then ?_
 simp only [push_cast,seval,Za,hN0,hN]
 refine Zg [13,16,19,20,21,22,23] [false,false,true,true,true,false,false,false,false,true,true] ?_
 simp only [push_cast,seval]
 refine Zn [13,16,19,20,21,22,23,24] (Zb Zc [] ?_)
 simp only [push_cast,seval,Za,hN0,hN]
 refine Zf ?_
 obtain ⟨y34,hy34,h⟩:=bC h
 refine Zb Zc [] ?_
 simp only [push_cast,seval,Za,hN0,hN]
 refine GCalls.adopt (pre:=[]) 25 3 ?_
 simp only [push_cast,seval,Za,List.append_eq,List.cons_append,List.nil_append,hN0,hN]
 refine (Zch (t0:=(n+11)) (by omega) (by simp only [push_cast,seval,Za,Qk,hN0,hN] <;> rfl) hy34).then ?_
 simp only [push_cast,seval,Za,hN0,hN]
 refine Zg [16,19,20,21,22,23,24,25] [false,false,false,true,true,false,false,false,false,true,true,false,true] ?_
 simp only [push_cast,seval]
 refine Zf ?_
 obtain ⟨y36,hy36,h⟩:=bC h
 refine Zb Zc [] ?_
 simp only [push_cast,seval,Za,hN0,hN]
 refine (Zch (t0:=(n+12)) (by omega) (by simp only [push_cast,seval,Za,Qk,hN0,hN] <;> rfl) hy36).then ?_
 simp only [push_cast,seval,Za,hN0,hN]
 refine Zg [19,20,21,22,23,24,25,26] [false,false,false,false,true,false,false,false,false,true,true,false,false,true] ?_
 simp only [push_cast,seval]
 obtain ⟨z41,hz41,h⟩:=bC h
 refine Yt (E':=⟨131,[],[(8,.val (.bool z41))]⟩) (O':=(Z4 O n [none,none,none,none,none,none,none,none,none,none,none,none,none,none])) (n0:=(n+14)) ?_ ?_
 ·rcases Bool.eq_false_or_eq_true (y28.2.1 == 0) with c50 | c50
  ·replace hz41:=Zz c50 hz41
   rcases Bool.eq_false_or_eq_true (y32.2.1 == 0) with c51 | c51
   ·replace hz41:=Zz c51 hz41
    try rw [c51] at c50
    obtain ⟨y46,hy46,hz41⟩:=bC hz41
    rcases Bool.eq_false_or_eq_true y46 with c52 | c52
    ·replace hz41:=Zz c52 hz41
     try rw [c52] at c50
     try rw [c52] at c51
     obtain ⟨y47,hy47,hz41⟩:=bC hz41
     rcases Bool.eq_false_or_eq_true y47 with c53 | c53
     ·replace hz41:=Zz c53 hz41
      try rw [c53] at c50
      try rw [c53] at c51
      try rw [c53] at c52
      obtain ⟨y48,hy48,hz41⟩:=bC hz41
      rcases Bool.eq_false_or_eq_true (y48 == (y36.1.length:Int)) with c54 | c54
      ·replace hz41:=Zz c54 hz41
       try rw [c54] at c50
       try rw [c54] at c51
       try rw [c54] at c52
       try rw [c54] at c53
       obtain ⟨y49,hy49,hz41⟩:=bC hz41
       refine Zb Zc (oNn::oNn::Zz8 []) ?_
       simp only [push_cast,seval,Za,c50,c51,c52,c53,c54,hN0,hN]
       repeat (with_reducible refine And.intro (by first | (intro h0;simp only [h0];done) | (intro h0;simp only [h0,Bool.not_false,Bool.not_true,true_and,and_true,imp_self,implies_true,bne_iff_ne,ne_eq];done) | (intros;simp_all;done) | exact True.intro) ?_)
       refine (Y4 hy46).then ?_
       simp only [push_cast,seval,Za,c50,c51,c52,c53,c54,hN0,hN]
       repeat (with_reducible refine And.intro (by first | (intro h0;simp only [h0];done) | (intro h0;simp only [h0,Bool.not_false,Bool.not_true,true_and,and_true,imp_self,implies_true,bne_iff_ne,ne_eq];done) | (intros;simp_all;done) | exact True.intro) ?_)
       refine (Y4 hy47).then ?_
       simp only [push_cast,seval,Za,c50,c51,c52,c53,c54,hN0,hN]
       repeat (with_reducible refine And.intro (by first | (intro h0;simp only [h0];done) | (intro h0;simp only [h0,Bool.not_false,Bool.not_true,true_and,and_true,imp_self,implies_true,bne_iff_ne,ne_eq];done) | (intros;simp_all;done) | exact True.intro) ?_)
       refine GCalls.lend (Zav hy48) rfl ?_ ?_
       ·simp only [push_cast,seval,Za,c50,c51,c52,c53,c54,hN0,hN]
       simp only [push_cast,seval,Za,c50,c51,c52,c53,c54,hN0,hN]
       repeat (with_reducible refine And.intro (by first | (intro h0;simp only [h0];done) | (intro h0;simp only [h0,Bool.not_false,Bool.not_true,true_and,and_true,imp_self,implies_true,bne_iff_ne,ne_eq];done) | (intros;simp_all;done) | exact True.intro) ?_)
       refine (Up hy49).then ?_
       simp only [push_cast,seval,Za,c50,c51,c52,c53,c54,hN0,hN]
       repeat (with_reducible refine And.intro (by first | (intro h0;simp only [h0];done) | (intro h0;simp only [h0,Bool.not_false,Bool.not_true,true_and,and_true,imp_self,implies_true,bne_iff_ne,ne_eq];done) | (intros;simp_all;done) | exact True.intro) ?_)
       have hz41:=Option.some.inj hz41;subst hz41
       refine And.intro rfl (Fit2.of (Zp hU rfl rfl ?_) (by omega))
       simp only [push_cast,seval,Za,c50,c51,c52,c53,c54,hN0,hN]
      replace hz41:=Zy c54 hz41
      try rw [c54] at c50
      try rw [c54] at c51
      try rw [c54] at c52
      try rw [c54] at c53
      refine Zb Zc (oNn::oNn::Z28 [Xm]) ?_
      simp only [push_cast,seval,Za,c50,c51,c52,c53,c54,hN0,hN]
      repeat (with_reducible refine And.intro (by first | (intro h0;simp only [h0];done) | (intro h0;simp only [h0,Bool.not_false,Bool.not_true,true_and,and_true,imp_self,implies_true,bne_iff_ne,ne_eq];done) | (intros;simp_all;done) | exact True.intro) ?_)
      refine (Y4 hy46).then ?_
      simp only [push_cast,seval,Za,c50,c51,c52,c53,c54,hN0,hN]
      repeat (with_reducible refine And.intro (by first | (intro h0;simp only [h0];done) | (intro h0;simp only [h0,Bool.not_false,Bool.not_true,true_and,and_true,imp_self,implies_true,bne_iff_ne,ne_eq];done) | (intros;simp_all;done) | exact True.intro) ?_)
      refine (Y4 hy47).then ?_
      simp only [push_cast,seval,Za,c50,c51,c52,c53,c54,hN0,hN]
      repeat (with_reducible refine And.intro (by first | (intro h0;simp only [h0];done) | (intro h0;simp only [h0,Bool.not_false,Bool.not_true,true_and,and_true,imp_self,implies_true,bne_iff_ne,ne_eq];done) | (intros;simp_all;done) | exact True.intro) ?_)
      refine GCalls.lend (Zav hy48) rfl ?_ ?_
      ·simp only [push_cast,seval,Za,c50,c51,c52,c53,c54,hN0,hN]
      simp only [push_cast,seval,Za,c50,c51,c52,c53,c54,hN0,hN]
      repeat (with_reducible refine And.intro (by first | (intro h0;simp only [h0];done) | (intro h0;simp only [h0,Bool.not_false,Bool.not_true,true_and,and_true,imp_self,implies_true,bne_iff_ne,ne_eq];done) | (intros;simp_all;done) | exact True.intro) ?_)
      have hz41:=Option.some.inj hz41;subst hz41
      refine And.intro rfl (Fit2.of (Zp hU rfl rfl ?_) (by omega))
      simp only [push_cast,seval,Za,c50,c51,c52,c53,c54,hN0,hN]
     replace hz41:=Zy c53 hz41
     try rw [c53] at c50
     try rw [c53] at c51
     try rw [c53] at c52
     refine Zb Zc (oNn::oNn::Z85 (Ybr [])) ?_
     simp only [push_cast,seval,Za,c50,c51,c52,c53,hN0,hN]
     repeat (with_reducible refine And.intro (by first | (intro h0;simp only [h0];done) | (intro h0;simp only [h0,Bool.not_false,Bool.not_true,true_and,and_true,imp_self,implies_true,bne_iff_ne,ne_eq];done) | (intros;simp_all;done) | exact True.intro) ?_)
     refine (Y4 hy46).then ?_
     simp only [push_cast,seval,Za,c50,c51,c52,c53,hN0,hN]
     repeat (with_reducible refine And.intro (by first | (intro h0;simp only [h0];done) | (intro h0;simp only [h0,Bool.not_false,Bool.not_true,true_and,and_true,imp_self,implies_true,bne_iff_ne,ne_eq];done) | (intros;simp_all;done) | exact True.intro) ?_)
     refine (Y4 hy47).then ?_
     simp only [push_cast,seval,Za,c50,c51,c52,c53,hN0,hN]
     repeat (with_reducible refine And.intro (by first | (intro h0;simp only [h0];done) | (intro h0;simp only [h0,Bool.not_false,Bool.not_true,true_and,and_true,imp_self,implies_true,bne_iff_ne,ne_eq];done) | (intros;simp_all;done) | exact True.intro) ?_)
     have hz41:=Option.some.inj hz41;subst hz41
     refine And.intro rfl (Fit2.of (Zp hU rfl rfl ?_) (by omega))
     simp only [push_cast,seval,Za,c50,c51,c52,c53,hN0,hN]
    replace hz41:=Zy c52 hz41
    try rw [c52] at c50
    try rw [c52] at c51
    refine Zb Zc (oNn::oNn::Z4i (Z64 [])) ?_
    simp only [push_cast,seval,Za,c50,c51,c52,hN0,hN]
    repeat (with_reducible refine And.intro (by first | (intro h0;simp only [h0];done) | (intro h0;simp only [h0,Bool.not_false,Bool.not_true,true_and,and_true,imp_self,implies_true,bne_iff_ne,ne_eq];done) | (intros;simp_all;done) | exact True.intro) ?_)
    refine (Y4 hy46).then ?_
    simp only [push_cast,seval,Za,c50,c51,c52,hN0,hN]
    repeat (with_reducible refine And.intro (by first | (intro h0;simp only [h0];done) | (intro h0;simp only [h0,Bool.not_false,Bool.not_true,true_and,and_true,imp_self,implies_true,bne_iff_ne,ne_eq];done) | (intros;simp_all;done) | exact True.intro) ?_)
    have hz41:=Option.some.inj hz41;subst hz41
    refine And.intro rfl (Fit2.of (Zp hU rfl rfl ?_) (by omega))
    simp only [push_cast,seval,Za,c50,c51,c52,hN0,hN]
   replace hz41:=Zy c51 hz41
   try rw [c51] at c50
   refine Zb Zc (oNn::oNn::Zt7 []) ?_
   simp only [push_cast,seval,Za,c50,c51,hN0,hN]
   repeat (with_reducible refine And.intro (by first | (intro h0;simp only [h0];done) | (intro h0;simp only [h0,Bool.not_false,Bool.not_true,true_and,and_true,imp_self,implies_true,bne_iff_ne,ne_eq];done) | (intros;simp_all;done) | exact True.intro) ?_)
   have hz41:=Option.some.inj hz41;subst hz41
   refine And.intro rfl (Fit2.of (Zp hU rfl rfl ?_) (by omega))
   simp only [push_cast,seval,Za,c50,c51,hN0,hN]
  replace hz41:=Zy c50 hz41
  refine Zb Zc (oNn::oNn::Zt7 []) ?_
  simp only [push_cast,seval,Za,c50,hN0,hN]
  repeat (with_reducible refine And.intro (by first | (intro h0;simp only [h0];done) | (intro h0;simp only [h0,Bool.not_false,Bool.not_true,true_and,and_true,imp_self,implies_true,bne_iff_ne,ne_eq];done) | (intros;simp_all;done) | exact True.intro) ?_)
  have hz41:=Option.some.inj hz41;subst hz41
  refine And.intro rfl (Fit2.of (Zp hU rfl rfl ?_) (by omega))
  simp only [push_cast,seval,Za,c50,hN0,hN]
 refine Zv ?_
 try simp only [Zh,Ze]
 have h:=Option.some.inj h;subst h
 refine Zo (.inr rfl) hU [.val (.bool z41)] (by omega) ?_
 simp only [push_cast,seval,Za,Try.results5,hN0,hN]
end Go.Proofs.Ytaddaloondpnkaa
