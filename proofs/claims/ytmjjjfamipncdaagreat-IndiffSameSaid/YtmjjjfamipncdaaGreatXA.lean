/- Part XA; each theorem bears its own conditions. -/
import Derived.Test.YtmjjjfamipncdaaGreatVA
import Derived.Test.YtmjjjfamipncdaaGreatUM3
namespace Go.Proofs.YtmjjjfamipncdaaGreat
open Go.RowKit
set_option linter.unusedVariables false
set_option linter.unusedSimpArgs false
set_option maxRecDepth 100000
set_option maxHeartbeats 4000000
attribute [local push_cast] Xu Yx Zn J3 Zx Yk Zi Zh Ze Xn Zbs Zab Znd Zi8 Zd4 Zd8 Zd3 Zd7 Zg8 Zg3 Zd6 Zg7 Zg6 Zg5 Zd5 Zg2 Zcw evS wok Q0 Op.operands Call.operands gop atK List.all_cons List.all_nil Value.oneCell' List.take_zero List.take_succ_cons Nat.add_zero K7 Yc ev Qy Znt Zkf Zke Zkk Zki Zkj Zkg Zkh Zkd Zow Zp7 Ztp Zel Gt Zek Zam Zdx Zcn Za9 Zch Zcd Zbc Zcg Zcf Zce Zbb Zcc Zba Zbd Zaa Zh8 Zcm Uc Zdp Ud Zfr Zej Zsk bLo bHi bMx Gu Zfq Zu7 Zeh Zgc Zbu K0 Zo2 Zu8 Zdo Zbr Zu9 Gs Zx6 Zgi Zgm Zgh Zgl Zk2 Zky Zkx Zd1 Zgj Zk1 Zk0 Zkz Zgk Zkt Zkw Zks Zkv Zqh Zqe Zqd Zku Zqf Zqg Zfs Zmz pop TK.isAgg Zk5 Zk9 Zk4 Zk8 Zgr Zqr Zqn Zk7 Zqq Zqp Zqo Zk6 Zqm G.under G.unders List.set_cons_zero List.set_cons_succ List.toList_toArray Option.toArray_none Option.toArray_some Option.map_some Option.map_none Option.bind_some Option.bind_none List.getElem?_cons_zero List.getElem?_cons_succ List.getElem?_nil List.nil_append List.cons_append List.replicate_succ List.replicate_zero List.length_cons List.length_nil IntKind.bits ite_true ite_false ne_eq cond_true cond_false Uz Zdn Option.join_some Int.toNat_natCast eI eL Zde Zko Zkm Zkn Zyu Z01 Zlh Zle Zlf Zub Ziz Zr5 Ziw Zoo G.agg.injEq G.tup.injEq List.flatten_cons List.flatten_nil Zoa Znl G.ren G.rens Zqu Zkb Zkc Option.join_none Kz undef Zge Arr.put_eq Zcq Zld Zlb Zlc onB Zyt Zov Zd2 Zgw Zgv Zgu Zgt Z00 Z0z Zve Zso Vm Zt2 Zm0 Zpo Zpn Zyy Znn Zfp Zga Zca Zc3 Z6t Zrq Z1r Zrr Z6u Zrs Z1s Zrt Z6v Zru Z6w Zrv Z6x Zrw Z6y Zrx Zwh Zlr Zwi Zls Zwj Zlt Zwk Zlu Zwl Zlv Zwm Zlw Zwn Zlx Zwo Zly Zwp Zlz Zwq Zl0 Zwr Zl1 Zws Zl2 Zwt Zl3 Zwu Zl4 Uv Zcz Zsh Zir Zwv Zl5 Zdb Zl6 Zww Zl7 Zwx Zl8 Zwy Zl9 Zwz Zma Zw0 Zmb Zw1 Zmc Zw2 Zis Zw3 Zmd Zw4 Zme Ug Zmf Zw5 Zmg Zw6 Zmh Zw7 Zmi Zuq Zmj Zw8 Zmk Zw9 Zml Zxa Zmm Zxb Zmn Zxc Zmo Zxd Zmp Zxe Zmq Zxf Zmr Zxg Zms Zxh Zmt Zxi Zmu Zxj Zmv Zxk Zmw Zq0 Zha Zoe Zhb Zq1 Zhc Zq2 Zhd Zq3 Zhe Zq4 Zhf Zq5 Zhg Zq6 Zhh Zq7 Zhi Zq8 Zhj Zq9 Zhk Zra Zhl Zrb Zhm Zrc Zhn Zrd Zho Zre Zhp Zrf Zhq Zrg Zhr Zrh Zhs Zri Zht Zrj Zhu Zrk Zhv Zrl Zhw Zjy Zhx Zrm Zhy Zrn Zhz Zro Zh0 Zrp Zh1 Zr Zz Q1 Zy Yu Jn
theorem Z52 (f:Tr→Int→Int→SG→Option SG) (s p:Int) {ts:List Tr} {k:Int} {x:Tr} (h0:0≤k) (hx:Z5 ts k=some x) (σ:SG):Jy f s (p+k) (ts.drop k.toNat) σ=(f x s (p+k) σ).bind (Jy f s (p+(k+1)) (ts.drop (k+1).toNat)):=by
 have hl:=Q4 hx
 unfold Z5 at hx
 rw [if_pos h0] at hx
 obtain ⟨hl2,e⟩:=List.getElem?_eq_some_iff.1 hx
 rw [List.drop_eq_getElem_cons hl2,Jy,e,show (k+1).toNat=k.toNat+1 by omega,show p+(k+1)=p+k+1 by omega]
section
variable {P:Program} {ba n:Nat} {x y:Code} {Q:GQ} {E:Env} {O:Objs}
def JI (ba:Nat) (E':Env) (Inv:Objs→Nat→Prop) (Q:GQ):GQ:=fun e E1 O1 n1=>(e = .normal∧∃ Z m,Inv Z m∧Fit2 ba E1 O1 n1 E' Z m)∨(e ≠ .normal∧Q e E1 O1 n1)
theorem Fit2.und {E':Env} {O':Objs} {n':Nat} (h:Und O n→Fit2 ba E O n E' O' n'):Fit2 ba E O n E' O' n':=fun w m a hM hE=>h ⟨hM.fresh,fun i o hi=>by obtain ⟨vs,hv,_⟩:=hM.obj i o hi;exact Jv _ _ hv⟩ w m a hM hE
theorem Yd1 (E':Env) (Inv:Objs→Nat→Prop) (h:W P ba x (JI ba E' Inv Q) E O n) (k:∀ Z m,Inv Z m→W P ba y Q E' Z m):W P ba (.seq x y) Q E O n:=fun hb w m a hM hE=>by
 refine wp_seq (wp_mono (h hb w m a hM hE) fun e a' w' ⟨E2,O2,n2,m2,h1,h2,h3,h4⟩ => ?_)
 rcases h1 with ⟨rfl,Z,mm,hI,hF⟩ | ⟨hne,hq⟩
 ·obtain ⟨m3,g1,g2,g3⟩:=hF w' m2 a' h2 h3
  exact (k Z mm hI).then g1 g2 (h4.transB g3)
 cases e with
 | normal=>exact absurd rfl hne
 | exit id=>exact ⟨E2,O2,n2,m2,hq,h2,h3,h4⟩
 | goto l=>exact ⟨E2,O2,n2,m2,hq,h2,h3,h4⟩
 | ret=>exact ⟨E2,O2,n2,m2,hq,h2,h3,h4⟩
 | panic ch=>exact ⟨E2,O2,n2,m2,hq,h2,h3,h4⟩
 | outgrown=>exact ⟨E2,O2,n2,m2,hq,h2,h3,h4⟩
end
theorem Yeo {k n m:Int} (h0:0≤k) (h:k < n) (hm:0≤m):0≤k * m∧k * m+m≤n * m:=by
 have a:0≤k * m:=Int.mul_nonneg h0 hm
 have b:(k+1) * m≤n * m:=Int.mul_le_mul_of_nonneg_right (by omega) hm
 rw [Int.add_mul] at b
 omega
theorem Yes {O:Objs} {n:Nat} (hU:Und O n) (H:Nat→GObj):PX H (Z3 O n [some (H 0),some ⟨true,26,1,0,[]⟩]) (n+2) n (n+1) [] :=
 ⟨by omega,by omega,by omega,by rw [Zdn];rfl,by rw [Uz];rfl,fun x hx=>(by cases hx),fun x hx=>(by cases hx),fun x hx=>(by cases hx),fun x hx=>(by cases hx),List.nodup_nil⟩
theorem Zpx {i j u:Nat} (h:ter i j [] u):u=i∨u=j:=by
 rcases h with h | h | ⟨y,hy,_⟩
 ·exact .inl h
 ·exact .inr h
 cases hy
attribute [local push_cast] Nat.le_refl
structure BA (size most:Int) (O:Objs) (n b i j:Nat) (L:List NR) (σ:SG):Prop where
 a:AR size most O n i j L σ
 hb:b < n
 ht:¬ ter i j L b
 ho:O b=some ⟨false,63,2,1,[.ref i 0,.val (.bool true)]⟩
abbrev isB (b:Nat):Nat→Prop:=fun u=>u=b
def EndR (size most:Int) (b i j:Nat) (O:Objs) (n:Nat) (L:List NR) (res:Option SG) (r:G) (O':Objs) (n':Nat):Prop :=
 ∃ L',r = .tup []∧Fr (isB b) i j O n L O' n' L'∧match res with
  | none=>O' b=some ⟨false,63,2,1,[.ref i 0,.val (.bool false)]⟩
  | some τ=>BA size most O' n' b i j L' τ
theorem BA.own {size most:Int} {O:Objs} {n b i j:Nat} {L:List NR} {σ:SG} (h:BA size most O n b i j L σ) (x:Option GObj):BA size most (O.upd n x) (n+1) b i j L σ:=⟨h.a.own x,Nat.lt_succ_of_lt h.hb,h.ht,by rw [Yb _ _ (by have:=h.hb;omega)];exact h.ho⟩
theorem Ztd {O:Objs} {n b i j:Nat} {L:List NR} {size most k:Int} {σ:SG} (h:BA size most O n b i j L σ) (hs:St size most σ) (e:Ys size σ k=none) :
  ∃ O' n' L',GTo Tryz.prog 17 [.ref b 0,.val (.int .i64 k)] O n (.tup [.val (.int .i64 (-1)),.val (.int .i64 (-1))]) O' n'∧O' b=some ⟨false,63,2,1,[.ref i 0,.val (.bool false)]⟩∧Fr (isB b) i j O n L O' n' L':=by
 obtain ⟨b1,b2,b3⟩:=hs.b1 (O:=O) (n:=n) (i:=i) (j:=j) h.a.2
 have c:(Xf σ.1 size σ.2 k).2.2.1=false:=by
  unfold Ys at e
  cases c:(Xf σ.1 size σ.2 k).2.2.1 with
  | true=>rw [c] at e;cases e
  | false=>rfl
 obtain ⟨O',n',L',g1,g2,g3,g4,g5,g6,g7⟩:=Zzu h.a.1 h.hb h.ht h.ho b1 hs.hl0 (by have:=hs.hm;have:=hs.hmm;omega) hs.hm hs.hmm b2 k (by rw [h.a.2,c];exact fun q=>by cases q)
 rw [h.a.2,c] at g1 g3
 exact ⟨O',n',L',g1,g3,g2,fun u x y z=>g7 u x y z,g6⟩
theorem Zte {O:Objs} {n b i j:Nat} {L:List NR} {size most k:Int} {σ:SG} {r:Int×Int×SG} (h:BA size most O n b i j L σ) (hs:St size most σ) (e:Ys size σ k=some r) :
  ∃ O' n' L',GTo Tryz.prog 17 [.ref b 0,.val (.int .i64 k)] O n (.tup [.val (.int .i64 r.1),.val (.int .i64 r.2.1)]) O' n'∧BA size most O' n' b i j L' r.2.2∧Fr (isB b) i j O n L O' n' L':=by
 obtain ⟨b1,b2,b3⟩:=hs.b1 (O:=O) (n:=n) (i:=i) (j:=j) h.a.2
 have ok:=Qj hs e
 obtain ⟨c,rfl⟩:=Zoz e
 obtain ⟨O',n',L',g1,g2,g3,g4,g5,g6,g7⟩:=Zzu h.a.1 h.hb h.ht h.ho b1 hs.hl0 (by have:=hs.hm;have:=hs.hmm;omega) hs.hm hs.hmm b2 k (by rw [h.a.2];exact fun _=>ok.2.1)
 rw [h.a.2] at g1 g3 g4 g5
 rw [c] at g1 g3
 exact ⟨O',n',L',g1,⟨⟨g4,g5⟩,Nat.lt_of_lt_of_le h.hb g2,fun q=>by rcases g6 b q with q | q;exact h.ht q;have:=h.hb;omega,g3⟩,g2,fun u x y z=>g7 u x y z,g6⟩
theorem Zfj {O:Objs} {n b i j:Nat} {L:List NR} {size most s p:Int} {σ:SG} (v:Int) (h:BA size most O n b i j L σ) (hh:Yl σ.1 s p 1=true) :
  ∃ O' L',GTo Tryz.prog 37 [.ref b 0,.val (.int .i64 s),.val (.int .i64 p),.val (.int .u64 v)] O n (.tup []) O' n∧BA size most O' n b i j L' (pt1 s p v σ)∧Fr (isB b) i j O n L O' n L':=by
 obtain ⟨O',L',g1,g2,g3,g4,g5⟩:=Z4p (v:=v) h.a.1 h.hb h.ho (by rw [h.a.2];exact hh)
 rw [h.a.2] at g4
 exact ⟨O',L',g1,⟨⟨g2,g4⟩,h.hb,fun q=>h.ht (Zjz g3 q),(g5 b h.ht).trans h.ho⟩,Nat.le_refl n,fun u _ _ z=>g5 u z,fun u q => .inl (Zjz g3 q)⟩
theorem Ybw {O:Objs} {n b i j:Nat} {L:List NR} {size most s p:Int} {σ:SG} {ws:List Int} (h:BA size most O n b i j L σ) (hp:0≤p∧p+(ws.length:Int)≤1000000) (hh:Yl σ.1 s p (ws.length:Int)=true∨ws=[]) {K:G→Objs→Nat→Prop}
  (hk:∀ O' n' L',BA size most O' n' b i j L' (Y5 σ.1 s p ws,σ.2)→Fr (isB b) i j O n L O' n' L'→K (.tup []) O' n') :
  GCalls Tryz.prog 34 [.ref b 0,.val (.int .i64 s),.val (.int .i64 p),.sl ws.length (fl (eI .u64) ws)] O n K:=by
 refine (Ybx h.a.1 h.hb h.ht h.ho s p ws hp.2 hp.1 (by rw [h.a.2];exact hh)).mono fun r O' n' ⟨e,g1,L',g2,g3,g4,g5⟩ => ?_
 subst e
 rw [h.a.2] at g4
 exact hk O' n' L' ⟨⟨g2,g4⟩,Nat.lt_of_lt_of_le h.hb g1,fun q=>h.ht (Zjz g3 q),(g5 b h.hb h.ht).trans h.ho⟩ ⟨g1,fun u a _ b=>g5 u a b,fun u q => .inl (Zjz g3 q)⟩
theorem Z9s {O:Objs} {n b i j:Nat} {L:List NR} {size most s:Int} {σ:SG} (h:BA size most O n b i j L σ) (hs:St size most σ) (e:inO size σ s=none) :
  GTo Tryz.prog 60 [.ref i 0,.val (.int .i64 s),.val (.int .i64 1)] O n (.val (.int .i64 (-1))) O n:=by
 refine Z6i h.a.1.hi h.a.1.hj h.a.1.ho h.a.1.hoj ?_
 have hw:IntKind.i64.wrap (most - (most - σ.2))=σ.2:=by have:=hs.hl0;have:=hs.hm;have:=hs.hmm;rw [Vv (by omega)];omega
 rw [hw]
 unfold inO at e
 rw [← h.a.2] at e
 cases hx:Z5 L s with
 | none=>left;rw [Z0o hx];decide
 | some x =>
  rw [Zoy hx] at e
  dsimp only at e
  split at e
  ·cases e
  rename_i c
  rw [Zep hx]
  by_cases c2:σ.2 < 1
  ·exact .inr (.inr (.inl c2))
  exact .inr (.inr (.inr (by omega)))
theorem Z9t {O:Objs} {n b i j:Nat} {L:List NR} {size most s:Int} {σ:SG} {r:Int×SG} (h:BA size most O n b i j L σ) (hs:St size most σ) (e:inO size σ s=some r) :
  ∃ O' L',GTo Tryz.prog 60 [.ref i 0,.val (.int .i64 s),.val (.int .i64 1)] O n (.val (.int .i64 r.1)) O' n∧BA size most O' n b i j L' r.2∧Fr (isB b) i j O n L O' n L':=by
 obtain ⟨b1,b2,b3⟩:=hs.b1 (O:=O) (n:=n) (i:=i) (j:=j) h.a.2
 have l0:=hs.hl0
 have lm:=hs.hm
 have lmm:=hs.hmm
 have hw:IntKind.i64.wrap (most - (most - σ.2))=σ.2:=by rw [Vv (by omega)];omega
 unfold inO at e
 rw [← h.a.2] at e
 cases hx:Z5 L s with
 | none =>
  have:Z5 (L.map (·.2)) s=none:=by
   have hl:=Zgb hx
   cases q:Z5 (L.map (·.2)) s with
   | none=>rfl
   | some y=>have:=Q4 q;rw [List.length_map] at this;omega
  rw [this] at e;cases e
 | some x =>
  rw [Zoy hx] at e
  dsimp only at e
  split at e
  ·rename_i c
   have:=Option.some.inj e;subst this
   have hxm:=Xe hx
   have bx:=b2 x hxm
   have a:=h.a.1
   have g:=Z6h (k:=1) a.hi a.hj a.lt a.hij (a.ni x hxm) (a.nj x hxm) a.ho a.hoj hx (a.hL x hxm) (by omega) (by omega) (by rw [hw];exact c.1) c.2
   have e2:IntKind.i64.wrap (most - σ.2+1)=most - IntKind.i64.wrap (σ.2 - 1):=by rw [Vv (by omega),Vv (by omega)];omega
   rw [e2] at g
   refine ⟨_,Xs L s (x.1,zl x.2 1),g,⟨⟨a.set hx _ (HR j size most (most - IntKind.i64.wrap (σ.2 - 1))),Zuo _ _⟩,h.hb,fun q=>h.ht (Zzc hx _ q),?_⟩,Nat.le_refl n,fun u _ _ q=>Zyo hx _ _ _ q,fun u q => .inl (Zzc hx _ q)⟩
   exact (Zyo hx _ _ _ h.ht).trans h.ho
  cases e
theorem Fr.keepB {b i j:Nat} {O:Objs} {n:Nat} {L L':List NR} {O':Objs} {n':Nat} (h:Fr (isB b) i j O n L O' n' L') {u:Nat} (hu:u < n) (hx:u≠b) (ht:¬ Go.Proofs.YtmjjjfamipncdaaGreat.ter i j L u):O' u=O u∧u < n'∧¬ Go.Proofs.YtmjjjfamipncdaaGreat.ter i j L' u:=h.keep hu hx ht
attribute [local push_cast] List.take_nil List.drop_nil List.append_nil Nat.zero_add List.map_cons List.map_nil Array.toList_append and_true true_and Bool.true_eq_false Bool.false_eq_true forall_const implies_true eq_self decide_true decide_false decide_eq_true_eq beq_iff_eq beq_self_eq_true Option.some.injEq exists_eq_left' ge_iff_le Bool.not_true Bool.not_false Z7q Zcl Zbe Int.le_refl Zmx Zr0 Zuz Z1y Zrz Za7
theorem Z3o {P:Program} {ba n:Nat} {c:Code} {Q:GQ} {E:Env} {O:Objs} (h:W P ba c (fun e E O n=>Und O n→Q e E O n) E O n):W P ba c Q E O n:=fun hb w m a hM hE =>
 wp_mono (h hb w m a hM hE) fun e a' w' ⟨E2,O2,n2,m2,h1,h2,h3,h4⟩=>⟨E2,O2,n2,m2,h1 ⟨h2.fresh,fun i o hi=>by obtain ⟨vs,hv,_⟩:=h2.obj i o hi;exact Jv _ _ hv⟩,h2,h3,h4⟩
theorem Z29 {O:Objs} {n b i:Nat} {s p hm q k u:Int} (hb:b < n) (hi:i < n) (ho:O b=some ⟨false,63,2,1,[.ref i 0,.val (.bool false)]⟩) :
  GTo Tryz.prog 33 [.ref b 0,.val (.int .i64 s),.val (.int .i64 p),.val (.int .i64 hm),.val (.int .i64 q),.val (.int .u64 k),.val (.int .u64 u)] O n (.tup []) O n:=by
 refine Ye Zc Tryz.call33 Tryz.func33 rfl (Nat.le_of_ble_eq_true rfl) (Nat.le_refl _) fun hU => ?_
 show Go.Proofs.YtmjjjfamipncdaaGreat.W _ _ _ _ ⟨116,[],[(0,.ref b 0),(1,.val (.int .i64 s)),(2,.val (.int .i64 p)),(3,.val (.int .i64 hm)),(4,.val (.int .i64 q)),(5,.val (.int .u64 k)),(6,.val (.int .u64 u))]⟩ (Z3 O n []) _
 rw [Jw hU.fresh]
 refine Zf ?_
 refine Zk [0,1,2,3,4,5,6,21] (Zb Zc [] ?_)
 simp only [push_cast,seval,Za,hb,ho]
 refine Zo (t:=true) rfl (fun Vn => ?_) (fun Vn=>by cases Vn)
 refine Zu ?_
 try simp only [Zh,Ze]
 refine Yz (P:=Tryz.prog) (.inr rfl) hU [] (Nat.le_refl _) ?_
 simp only [push_cast,seval,Za,Tryz.results33]
theorem Z9o {O:Objs} {n b i:Nat} {s p:Int} {ws:List Int} (hb:b < n) (hi:i < n) (ho:O b=some ⟨false,63,2,1,[.ref i 0,.val (.bool false)]⟩) (hw:ws.length≤1000000) :
  GTo Tryz.prog 34 [.ref b 0,.val (.int .i64 s),.val (.int .i64 p),.sl ws.length (fl (eI .u64) ws)] O n (.tup []) O n:=by
 refine Ye Zc Tryz.call34 Tryz.func34 rfl (Nat.le_of_ble_eq_true rfl) (Nat.le_refl _) fun hU => ?_
 show Go.Proofs.YtmjjjfamipncdaaGreat.W _ _ _ _ ⟨25,[],[(0,.ref b 0),(1,.val (.int .i64 s)),(2,.val (.int .i64 p)),(3,.sl ws.length (fl (eI .u64) ws))]⟩ (Z3 O n []) _
 rw [Jw hU.fresh]
 refine Zk [0,1,2,3,8] (Zb Zc [] ?_)
 simp only [push_cast,seval,Za,hb]
 refine Yo ?_
 refine Zsu (S:=Int) (fun q=>⟨25,[],[(0,.ref b 0),(1,.val (.int .i64 s)),(2,.val (.int .i64 p)),(3,.sl ws.length (fl (eI .u64) ws)),(8,.val (.int .i64 q))]⟩) (fun q=>O) (fun _=>n)
  (fun q=>0≤q∧q≤(ws.length:Int)) (fun q=>((ws.length:Int) - q).toNat) (fun _ _=>Nat.le_refl n) (fun k hq => ?_) 0 ⟨Int.le_refl _,by omega⟩
 obtain ⟨k0,k1⟩:=hq
 try dsimp only
 refine Zf ?_
 refine Zk [0,1,2,3,8,12] (Zb Zc [] ?_)
 simp only [push_cast,seval,Za,hb]
 refine Zo (t:=decide (k < (ws.length:Int))) rfl (fun c => ?_) (fun c => ?_)
 ·have c1:k < (ws.length:Int):=of_decide_eq_true c
  refine Zt ?_
  try simp only [Zh,Ze]
  obtain ⟨w,hw⟩:∃ w,Z5 ws k=some w:=⟨ws[k.toNat]'(by omega),by unfold Z5;rw [if_pos k0];exact List.getElem?_eq_getElem (by omega)⟩
  obtain ⟨x5,hx5,ax5,bx5,cx5,_⟩:=bE (f:=eI .u64) (K:=fun y=>some y) (r:=w) Ug (fun _=>rfl) (by decide) (by rw [hw];rfl)
  refine Zf ?_
  refine Yo ?_
  refine Zb Zc [] ?_
  simp only [push_cast,Nat.reduceAdd,Nat.reduceSub,Nat.reduceMul,Nat.reduceLeDiff,Nat.reduceLT,Nat.reduceEqDiff,↓reduceIte,reduceCtorEq,Int.reduceBEq,Int.reduceBNe,Nat.reduceBEq,Int.reduceLE,Int.reduceLT,Int.reduceEq,Int.reduceNe,Int.reduceNeg,Nat.reduceDiv,Nat.reduceMod,Nat.reducePow,Za,hb,ax5,bx5,cx5]
  refine (Z4o hb ho hi).then ?_
  simp only [push_cast,seval,Za,hb]
  refine Zb Zc [] ?_
  have hwk:IntKind.i64.wrap (k+1)=k+1:=Vv (by omega)
  simp only [push_cast,seval,Za,hb,hwk]
  refine .inl ⟨rfl,k+1,⟨by omega,by omega⟩,by show ((ws.length:Int) - (k+1)).toNat < ((ws.length:Int) - k).toNat;omega,Kc hU (Nat.le_refl n) rfl ?_⟩
  simp only [push_cast,seval,Za,hb]
 have c1:¬ k < (ws.length:Int):=of_decide_eq_false c
 refine Q7 ?_
 try simp only [Zh,Ze,↓reduceIte,Nat.reduceEqDiff]
 refine .inr ⟨(fun h=>by cases h),?_⟩
 try simp only [Zh,Ze,↓reduceIte,Nat.reduceEqDiff]
 refine Yz (P:=Tryz.prog) (.inl rfl) hU [] (Nat.le_refl n) ?_
 simp only [push_cast,seval,Za,Tryz.results34]
theorem Z6k {O:Objs} {n b i j:Nat} {L:List NR} {size most:Int} {σ:SG} (h:BA size most O n b i j L σ) (hs:St size most σ) {s p hm q k u:Int} (kb:0≤k∧k≤1∧0≤u∧u < 4294967296) (hsb:Yl σ.1 s p 1=true) (hq:0≤q∧q≤131072) (hm0:0≤hm∧hm≤1000) :
  GCalls Tryz.prog 33 [.ref b 0,.val (.int .i64 s),.val (.int .i64 p),.val (.int .i64 hm),.val (.int .i64 q),.val (.int .u64 k),.val (.int .u64 u)] O n (EndR size most b i j O n L (K5 size σ s p k u hm q)):=by
 obtain ⟨x0,hx0,p0,_,p1⟩:=Qw hsb
 have hx0b:=hs.hB x0 (Xe hx0)
 have hl0:=hs.hl0
 have hb:=h.hb
 have hi:=h.a.1.hi
 have ho:=h.ho
 refine Ztj Zc Tryz.call33 Tryz.func33 rfl (Nat.le_of_ble_eq_true rfl) fun hU => ?_
 show Go.Proofs.YtmjjjfamipncdaaGreat.W _ _ _ _ ⟨116,[],[(0,.ref b 0),(1,.val (.int .i64 s)),(2,.val (.int .i64 p)),(3,.val (.int .i64 hm)),(4,.val (.int .i64 q)),(5,.val (.int .u64 k)),(6,.val (.int .u64 u))]⟩ (Z3 O n []) _
 rw [Jw hU.fresh]
 refine Zf ?_
 refine Zk [0,1,2,3,4,5,6,21] (Zb Zc [] ?_)
 simp only [push_cast,seval,Za,hb,hi,ho]
 refine Zo (t:=false) rfl (fun Vn=>by cases Vn) (fun Vn => ?_)
 refine Zt ?_
 try simp only [Zh,Ze]
 refine Zf ?_
 refine Yr (E':=⟨116,[],[(0,.ref b 0),(1,.val (.int .i64 s)),(2,.val (.int .i64 p)),(3,.val (.int .i64 hm)),(4,.val (.int .i64 q)),(5,.val (.int .u64 k)),(6,.val (.int .u64 u)),(27,.val (.bool (decide (k=0∧u=0))))]⟩) (O':=O) (n0:=n) ?_ ?_
 ·by_cases ck:k=0
  ·have d1:(k == 0)=true:=Z7r ck
   refine Zb Zc [Qc,Qc] ?_
   simp only [push_cast,seval,Za,hb,hi,ho,d1]
   refine And.intro rfl (Kc hU (Nat.le_refl n) rfl ?_)
   have e:(u == 0)=decide (k=0∧u=0):=by rw [Bool.eq_iff_iff];simp [ck]
   simp only [push_cast,seval,Za,hb,hi,ho,d1,e]
  have d1:(k == 0)=false:=Um ck
  refine Zb Zc [X3,X3] ?_
  simp only [push_cast,seval,Za,hb,hi,ho,d1]
  refine And.intro rfl (Kc hU (Nat.le_refl n) rfl ?_)
  have e:false=decide (k=0∧u=0):=(decide_eq_false (fun z=>ck z.1)).symm
  rw [← e]
  simp only [push_cast,seval,Za,hb,hi,ho,d1]
 refine Zo (t:=decide (k=0∧u=0)) rfl (fun c => ?_) (fun c => ?_)
 ·have c0:=of_decide_eq_true c
  have ea:K5 size σ s p k u hm q=_:=if_pos c0
  obtain ⟨O9,L9,g,A9,F9⟩:=Zfj 4294967292 h hsb
  refine Zk [0] (Zb Zc [] ?_)
  simp only [push_cast,seval,Za,hb,hi,ho]
  refine g.then ?_
  simp only [push_cast,seval,Za]
  refine Q8 fun hU9 => ?_
  refine Zu ?_
  try simp only [Zh,Ze]
  refine ⟨.tup [],O9,n,Nat.le_refl n,⟨L9,rfl,F9,by rw [ea];exact A9⟩,?_⟩
  refine Yz (P:=Tryz.prog) (.inr rfl) hU9 [] (Nat.le_refl n) ?_
  simp only [push_cast,seval,Za,Tryz.results33]
 have c0:=of_decide_eq_false c
 refine Zt ?_
 try simp only [Zh,Ze]
 refine Zf ?_
 refine Zk [0,1,2,3,4,5,6,34] (Zb Zc [] ?_)
 simp only [push_cast,seval,Za,hb,hi,ho]
 refine Zo (t:=(s == hm)) rfl (fun c => ?_) (fun c => ?_)
 ·have c1:hm=s:=(eq_of_beq c).symm
  have ea:K5 size σ s p k u hm q=_:=(if_neg c0).trans (if_pos c1)
  obtain ⟨O9,L9,g,A9,F9⟩:=Zfj (nw p q k u) h hsb
  refine Zk [0] (Zb Zc [] ?_)
  simp only [push_cast,seval,Za,hb,hi,ho]
  refine (Zes (Z4g p0 (by omega) hq.1 (by omega) kb.1 kb.2.1 kb.2.2.1 kb.2.2.2)).then ?_
  simp only [push_cast,seval,Za,hb,hi,ho]
  refine g.then ?_
  simp only [push_cast,seval,Za]
  refine Q8 fun hU9 => ?_
  refine Zu ?_
  try simp only [Zh,Ze]
  refine ⟨.tup [],O9,n,Nat.le_refl n,⟨L9,rfl,F9,by rw [ea];exact A9⟩,?_⟩
  refine Yz (P:=Tryz.prog) (.inr rfl) hU9 [] (Nat.le_refl n) ?_
  simp only [push_cast,seval,Za,Tryz.results33]
 have c1:¬ hm=s:=fun z=>ne_of_beq_false c z.symm
 have ea:K5 size σ s p k u hm q=_:=(if_neg c0).trans (if_neg c1)
 refine Zt ?_
 try simp only [Zh,Ze]
 refine Zk [0,1,2,3,4,5,6,14] (Zb Zc [] ?_)
 simp only [push_cast,seval,Za,hb,hi,ho]
 cases hin:inO size σ hm with
 | some r =>
  rw [hin] at ea
  have o:=Zts hs hin
  obtain ⟨O5,L5,g5,A5,F5⟩:=Z9t h hs hin
  refine g5.then ?_
  have hi:=A5.a.1.hi
  have ho:=A5.ho
  have d2:decide (0≤r.1)=true:=decide_eq_true o.1
  simp only [push_cast,seval,Za,hb,hi,ho]
  refine Q8 fun hU5 => ?_
  refine Zf ?_
  refine Zk [0,1,2,3,4,5,6,14,51] (Zb Zc [] ?_)
  simp only [push_cast,seval,Za,hb,hi,ho,d2]
  refine Zo (t:=true) rfl (fun Vn => ?_) (fun Vn=>by cases Vn)
  have w1:IntKind.u64.wrap r.1=r.1:=Kr (by omega) (by omega)
  have w2:IntKind.u64.wrap (8 * r.1)=8 * r.1:=Kr (by omega) (by omega)
  have w3:IntKind.u64.wrap (2+8 * r.1)=2+8 * r.1:=Kr (by omega) (by omega)
  have w4:IntKind.u64.wrap hm=hm:=Kr (by omega) (by omega)
  have w5:IntKind.u64.wrap (4294967296 * hm)=4294967296 * hm:=Kr (by omega) (by omega)
  have w6:IntKind.u64.wrap (2+8 * r.1+4294967296 * hm)=fw hm r.1 0:=by rw [Kr (by omega) (by omega)];unfold fw;omega
  obtain ⟨O6,L6,g6,A6,F6⟩:=Zfj (fw hm r.1 0) A5 (s:=s) (p:=p) (o.2.2.2.1 _ _ _ hsb)
  refine Zk [0,3,4,5,6,14] (Zb Zc [] ?_)
  simp only [push_cast,seval,Za,hb,hi,ho,w1,w2,w3,w4,w5,w6]
  refine g6.then ?_
  have hi:=A6.a.1.hi
  have ho:=A6.ho
  simp only [push_cast,seval,Za,hb,hi,ho]
  refine Q8 fun hU6 => ?_
  obtain ⟨O9,L9,g9,A9,F9⟩:=Zfj (nw r.1 q k u) A6 (s:=hm) (p:=r.1) (Ex.put _ _ _ r.2 _ _ _ o.2.2.2.2.1)
  refine Zk [0] (Zb Zc [] ?_)
  simp only [push_cast,seval,Za,hb,hi,ho]
  refine (Zes (Z4g o.1 (by omega) hq.1 (by omega) kb.1 kb.2.1 kb.2.2.1 kb.2.2.2)).then ?_
  simp only [push_cast,seval,Za,hb,hi,ho]
  refine g9.then ?_
  simp only [push_cast,seval,Za]
  refine Q8 fun hU9 => ?_
  refine Zu ?_
  try simp only [Zh,Ze]
  refine ⟨.tup [],O9,n,Nat.le_refl n,⟨L9,rfl,F5.trans (F6.trans F9),by rw [ea];rw [Zds r.2 (fw hm r.1 0) (nw r.1 q k u) (fun z=>c1 z.1)] at A9;exact A9⟩,?_⟩
  refine Yz (P:=Tryz.prog) (.inr rfl) hU9 [] (Nat.le_refl n) ?_
  simp only [push_cast,seval,Za,Tryz.results33]
 | none =>
  rw [hin] at ea
  refine (Z9s h hs hin).then ?_
  simp only [push_cast,seval,Za,hb,hi,ho]
  refine Zf ?_
  refine Zk [0,1,2,3,4,5,6,14,51] (Zb Zc [] ?_)
  simp only [push_cast,seval,Za,hb,hi,ho]
  refine Zo (t:=false) rfl (fun Vn=>by cases Vn) (fun Vn => ?_)
  refine Zt ?_
  try simp only [Zh,Ze]
  refine Zk [0,1,2,3,4,5,6,15,16] (Zb Zc [] ?_)
  simp only [push_cast,seval,Za,hb,hi,ho]
  cases hg:Ys size σ 2 with
  | none =>
   rw [hg] at ea
   obtain ⟨O9,n9,L9,g9,ho9,F9⟩:=Ztd h hs hg
   have m9:n≤n9:=F9.le
   have hb9:b < n9:=by omega
   refine g9.then ?_
   simp only [push_cast,seval,Za,hb9,ho9]
   refine Q8 fun hU9 => ?_
   refine Zf ?_
   refine Zk [0,82] (Zb Zc [] ?_)
   simp only [push_cast,seval,Za,hb9,ho9]
   refine Zo (t:=true) rfl (fun Vn => ?_) (fun Vn=>by cases Vn)
   refine Zu ?_
   try simp only [Zh,Ze]
   refine ⟨.tup [],O9,n9,m9,⟨L9,rfl,F9,by rw [ea];exact ho9⟩,?_⟩
   refine Yz (P:=Tryz.prog) (.inr rfl) hU9 [] m9 ?_
   simp only [push_cast,seval,Za,Tryz.results33]
  | some r =>
   rw [hg] at ea
   have o:=Qj hs hg
   have hm1:r.1≤16:=by
    obtain ⟨y,hy,_⟩:=Qw o.2.2.2.2.2.2.1
    have:=Q4 hy
    have:=o.2.2.2.2.1.h16
    omega
   obtain ⟨O5,n5,L5,g5,A5,F5⟩:=Zte h hs hg
   refine g5.then ?_
   have hb:=A5.hb
   have hi:=A5.a.1.hi
   have ho:=A5.ho
   simp only [push_cast,seval,Za,hb,hi,ho]
   refine Q8 fun hU5 => ?_
   refine Zf ?_
   refine Zk [0,1,2,3,4,5,6,15,16,82] (Zb Zc [] ?_)
   simp only [push_cast,seval,Za,hb,hi,ho]
   refine Zo (t:=false) rfl (fun Vn=>by cases Vn) (fun Vn => ?_)
   refine Zt ?_
   try simp only [Zh,Ze]
   have w1:IntKind.u64.wrap r.2.1=r.2.1:=Kr (by omega) (by omega)
   have w2:IntKind.u64.wrap (8 * r.2.1)=8 * r.2.1:=Kr (by omega) (by omega)
   have w3:IntKind.u64.wrap (6+8 * r.2.1)=6+8 * r.2.1:=Kr (by omega) (by omega)
   have w4:IntKind.u64.wrap r.1=r.1:=Kr (by omega) (by omega)
   have w5:IntKind.u64.wrap (4294967296 * r.1)=4294967296 * r.1:=Kr (by omega) (by omega)
   have w6:IntKind.u64.wrap (6+8 * r.2.1+4294967296 * r.1)=fw r.1 r.2.1 1:=by rw [Kr (by omega) (by omega)];unfold fw;omega
   obtain ⟨O6,L6,g6,A6,F6⟩:=Zfj (fw r.1 r.2.1 1) A5 (s:=s) (p:=p) (o.2.2.2.2.2.1 _ _ _ hsb)
   refine Zk [0,3,4,5,6,15,16] (Zb Zc [] ?_)
   simp only [push_cast,seval,Za,hb,hi,ho,w1,w2,w3,w4,w5,w6]
   refine g6.then ?_
   have hi:=A6.a.1.hi
   have ho:=A6.ho
   simp only [push_cast,seval,Za,hb,hi,ho]
   refine Q8 fun hU6 => ?_
   have v1:IntKind.u64.wrap q=q:=Kr (by omega) (by omega)
   have v2:IntKind.u64.wrap (8 * q)=8 * q:=Kr (by omega) (by omega)
   have v3:IntKind.u64.wrap (2+8 * q)=2+8 * q:=Kr (by omega) (by omega)
   have v4:IntKind.u64.wrap hm=hm:=Kr (by omega) (by omega)
   have v5:IntKind.u64.wrap (4294967296 * hm)=4294967296 * hm:=Kr (by omega) (by omega)
   have v6:IntKind.u64.wrap (2+8 * q+4294967296 * hm)=fw hm q 0:=by rw [Kr (by omega) (by omega)];unfold fw;omega
   have hxy:=o.2.2.2.2.2.2.1
   obtain ⟨O7,L7,g7,A7,F7⟩:=Zfj (fw hm q 0) A6 (s:=r.1) (p:=r.2.1) (Ex.put _ _ _ r.2.2 _ _ _ (Uk hxy (Int.le_refl _) (by omega)))
   refine Zk [0,5,6,15,16] (Zb Zc [] ?_)
   simp only [push_cast,seval,Za,hb,hi,ho,v1,v2,v3,v4,v5,v6]
   refine g7.then ?_
   have hi:=A7.a.1.hi
   have ho:=A7.ho
   simp only [push_cast,seval,Za,hb,hi,ho]
   refine Q8 fun hU7 => ?_
   have u1:IntKind.i64.wrap (r.2.1+1)=r.2.1+1:=Vv (by omega)
   have u2:IntKind.u64.wrap (u * 4294967296)=u * 4294967296:=Kr (by omega) (by omega)
   have u3:IntKind.u64.wrap (k+u * 4294967296)=k+u * 4294967296:=Kr (by omega) (by omega)
   obtain ⟨O9,L9,g9,A9,F9⟩:=Zfj (k+u * 4294967296) A7 (s:=r.1) (p:=r.2.1+1) (Ex.put _ _ _ _ _ _ _ (Ex.put _ _ _ r.2.2 _ _ _ (Uk hxy (by omega) (by omega))))
   refine Z3o ?_
   refine Zb Zc [] ?_
   simp only [push_cast,seval,Za,hb,hi,ho,u1,u2,u3]
   refine g9.then ?_
   simp only [push_cast,seval,Za]
   intro hU9
   have m9:n≤n5:=F5.le
   have nf:∀ a,¬ (r.1=s∧r.2.1+a=p∧0≤a):=fun a z=>by have:=o.2.2.2.2.2.2.2.2 p (by rw [z.1];exact hsb);omega
   have e7:pt1 r.1 (r.2.1+1) (k+u * 4294967296) (pt1 r.1 r.2.1 (fw hm q 0) (pt1 s p (fw r.1 r.2.1 1) r.2.2))=pt1 s p (fw r.1 r.2.1 1) (Y5 r.2.2.1 r.1 r.2.1 [fw hm q 0,k+u * 4294967296],r.2.2.2):=by
    rw [Zds (s:=s) (p:=p) r.2.2 (s':=r.1) (p':=r.2.1) _ _ (fun z=>nf 0 ⟨z.1,by omega,by omega⟩),Zds (s:=s) (p:=p) _ (s':=r.1) (p':=r.2.1+1) _ _ (fun z=>nf 1 ⟨z.1,by omega,by omega⟩)];rfl
   rw [e7] at A9
   try simp only [Zh,Ze]
   show Zzj _ _ _ _ .normal _ _ _
   refine ⟨.tup [],O9,n5,m9,⟨L9,rfl,F5.trans (F6.trans (F7.trans F9)),by rw [ea];exact A9⟩,?_⟩
   refine Yz (P:=Tryz.prog) (.inl rfl) hU9 [] m9 ?_
   simp only [push_cast,seval,Za,Tryz.results33]
attribute [local push_cast] List.drop_zero Yj Zci
def BO (size most:Int) (O:Objs) (n b i j:Nat) (L:List NR):Option SG→Prop
 | none=>b < n∧i < n∧O b=some ⟨false,63,2,1,[.ref i 0,.val (.bool false)]⟩
 | some σ=>BA size most O n b i j L σ
theorem BO.b_lt {size most:Int} {O:Objs} {n b i j:Nat} {L:List NR}:∀ {o:Option SG},BO size most O n b i j L o→b < n∧i < n
 | none,h=>⟨h.1,h.2.1⟩
 | some _,h=>⟨BA.hb h,(BA.a h).1.hi⟩
def Zjw:Option SG→Bool
 | none=>false
 | some _=>true
theorem BO.ho {size most:Int} {O:Objs} {n b i j:Nat} {L:List NR}:∀ {o:Option SG},BO size most O n b i j L o→O b=some ⟨false,63,2,1,[.ref i 0,.val (.bool (Zjw o))]⟩
 | none,h=>h.2.2
 | some _,h=>BA.ho h
theorem BO.own {size most:Int} {O:Objs} {n b i j:Nat} {L:List NR} (x:Option GObj):∀ {o:Option SG},BO size most O n b i j L o→BO size most (O.upd n x) (n+1) b i j L o
 | none,h=>⟨Nat.lt_succ_of_lt h.1,Nat.lt_succ_of_lt h.2.1,by rw [Yb _ _ (by have:=h.1;omega)];exact h.2.2⟩
 | some _,h=>BA.own h x
def Z5h (size most:Int) (b i j:Nat) (O:Objs) (n:Nat) (L:List NR) (res:Option SG) (r:G) (O':Objs) (n':Nat):Prop :=
 ∃ L',r = .tup []∧Fr (isB b) i j O n L O' n' L'∧BO size most O' n' b i j L' res
theorem EndR.o {size most:Int} {b i j:Nat} {O:Objs} {n:Nat} {L:List NR} {res:Option SG} {r:G} {O':Objs} {n':Nat} (hb:b < n) (hi:i < n) (h:EndR size most b i j O n L res r O' n'):Z5h size most b i j O n L res r O' n':=by
 obtain ⟨L',e,F,h⟩:=h
 have:=F.le
 refine ⟨L',e,F,?_⟩
 cases res with
 | none=>exact ⟨by omega,by omega,h⟩
 | some τ=>exact h
def Zdi:Option (Int×Int×SG)→Int×Int
 | none=>(-1,-1)
 | some r=>(r.1,r.2.1)
theorem Zok {O:Objs} {n b i j:Nat} {L:List NR} {size most:Int} (k:Int) {σ:SG} (h:BA size most O n b i j L σ) (hs:St size most σ) :
  ∃ O' n' L',GTo Tryz.prog 17 [.ref b 0,.val (.int .i64 k)] O n (.tup [.val (.int .i64 (Zdi (Ys size σ k)).1),.val (.int .i64 (Zdi (Ys size σ k)).2)]) O' n'∧BO size most O' n' b i j L' ((Ys size σ k).map fun r=>r.2.2)∧Fr (isB b) i j O n L O' n' L':=by
 have hi:=h.a.1.hi
 have hb:=h.hb
 cases e:Ys size σ k with
 | none =>
  obtain ⟨O',n',L',g1,g2,g3⟩:=Ztd h hs e
  have:=g3.le
  exact ⟨O',n',L',g1,⟨by omega,by omega,g2⟩,g3⟩
 | some r =>
  obtain ⟨O',n',L',g1,g2,g3⟩:=Zte h hs e
  exact ⟨O',n',L',g1,g2,g3⟩
theorem Zpu {O:Objs} {n b i j:Nat} {L:List NR} {size most:Int} {o:Option SG} (h:BO size most O n b i j L o) {s p hm q k u:Int} (hh:∀ σ,o=some σ→St size most σ∧(0≤k∧k≤1∧0≤u∧u < 4294967296)∧Yl σ.1 s p 1=true∧(0≤q∧q≤131072)∧(0≤hm∧hm≤1000)) :
  GCalls Tryz.prog 33 [.ref b 0,.val (.int .i64 s),.val (.int .i64 p),.val (.int .i64 hm),.val (.int .i64 q),.val (.int .u64 k),.val (.int .u64 u)] O n (Z5h size most b i j O n L (o.bind fun σ=>K5 size σ s p k u hm q)):=by
 cases o with
 | none=>exact (Z29 h.1 h.2.1 h.2.2).then ⟨L,rfl,Fr.refl _ _ _ _ _ _,h⟩
 | some σ =>
  obtain ⟨a1,a2,a3,a4,a5⟩:=hh σ rfl
  exact (Z6k h a1 a2 a3 a4 a5).mono fun r O' n' hE=>hE.o h.hb h.a.1.hi
theorem Ye0 {O:Objs} {n b i j:Nat} {L:List NR} {size most:Int} {o:Option SG} (h:BO size most O n b i j L o) {s p v:Int} (hh:∀ σ,o=some σ→Yl σ.1 s p 1=true) :
  GCalls Tryz.prog 37 [.ref b 0,.val (.int .i64 s),.val (.int .i64 p),.val (.int .u64 v)] O n (Z5h size most b i j O n L (o.map (pt1 s p v))):=by
 cases o with
 | none=>exact (Z4o h.1 h.2.2 h.2.1).then ⟨L,rfl,Fr.refl _ _ _ _ _ _,h⟩
 | some σ =>
  obtain ⟨O',L',g1,g2,g3⟩:=Zfj v h (hh σ rfl)
  exact g1.then ⟨L',rfl,g3,g2⟩
theorem Z23 {O:Objs} {n b i j:Nat} {L:List NR} {size most:Int} {o:Option SG} (h:BO size most O n b i j L o) {s p:Int} {ws:List Int} (hw:ws.length≤1000000) (hh:∀ σ,o=some σ→(0≤p∧p+(ws.length:Int)≤1000000)∧(Yl σ.1 s p (ws.length:Int)=true∨ws=[])) :
  GCalls Tryz.prog 34 [.ref b 0,.val (.int .i64 s),.val (.int .i64 p),.sl ws.length (fl (eI .u64) ws)] O n (Z5h size most b i j O n L (o.map fun σ=>(Y5 σ.1 s p ws,σ.2))):=by
 cases o with
 | none=>exact (Z9o h.1 h.2.1 h.2.2 hw).then ⟨L,rfl,Fr.refl _ _ _ _ _ _,h⟩
 | some σ =>
  obtain ⟨a1,a2⟩:=hh σ rfl
  exact Ybw h a1 a2 fun O' n' L' x y=>⟨L',rfl,y,x⟩
def PR (size most:Int) (f:Tr→Int→Int→SG→Option SG) (t:Tr):Prop:=∀ {O:Objs} {n b i j:Nat} {L:List NR} {σ:SG} {s p:Int},BA size most O n b i j L σ→St size most σ→Yl σ.1 s p 1=true →
 GCalls Tryz.prog 18 [.ref b 0,.val (.int .i64 s),.val (.int .i64 p),.agg (Zn t)] O n (Z5h size most b i j O n L (f t s p σ))
theorem Zy9 {O:Objs} {n b i j:Nat} {L:List NR} {size most:Int} {o:Option SG} {f:Tr→Int→Int→SG→Option SG} {t:Tr} {s p:Int} (h:BO size most O n b i j L o) (hf:Gp size most f) (hk:∀ x∈t.Kids,PR size most f x) (hl:t.Kids.length≤1000000)
  (hh:∀ σ,o=some σ→St size most σ∧(0≤p∧p+(t.Kids.length:Int)≤1000000)∧(∀ q,p≤q→q < p+(t.Kids.length:Int)→Yl σ.1 s q 1=true)) :
  GCalls Tryz.prog 35 [.ref b 0,.val (.int .i64 s),.val (.int .i64 p),.agg (Zn t)] O n (Z5h size most b i j O n L (o.bind (Jy f s p t.Kids))):=by
 obtain ⟨hb0,hi0⟩:=h.b_lt
 refine Ztj Zc Tryz.call35 Tryz.func35 rfl (Nat.le_of_ble_eq_true rfl) fun hU => ?_
 have hN0:O n=none:=hU.fresh _ (Nat.le_refl _)
 have hN:∀ k,O (n+k)=none:=fun k=>hU.fresh _ (Nat.le_add_right _ _)
 show Go.Proofs.YtmjjjfamipncdaaGreat.W _ _ _ _ ⟨33,[],[(0,.ref b 0),(1,.val (.int .i64 s)),(2,.val (.int .i64 p)),(3,.agg (Zn t))]⟩ (Z3 O n []) _
 rw [Jw hU.fresh]
 refine Zk [0,1,2,7] (Zb Zc [] ?_)
 simp only [push_cast,seval,Za,hi0,hb0,hN0,hN]
 have A0:=h.own (some ⟨false,29,3,1,Zn t⟩)
 have F0:=Fr.own (X:=isB b) (i:=i) (j:=j) (O:=O) (n:=n) L (some ⟨false,29,3,1,Zn t⟩)
 obtain ⟨Z,hZ⟩:∃ Z,Z=O.upd n (some ⟨false,29,3,1,Zn t⟩):=⟨_,rfl⟩
 have hZn:Z n=some ⟨false,29,3,1,Zn t⟩:=by rw [hZ];exact Yj _ _ _
 have hZ2:=hZ
 simp only [push_cast] at hZ2
 rw [← hZ] at A0 F0
 rw [← hZ2]
 have hb:b < n+1:=by omega
 have hi:i < n+1:=by omega
 have hn1:n < n+1:=Nat.lt_succ_self n
 refine Zk [0,1,2,7,8] (Zb Zc [] ?_)
 simp only [push_cast,seval,Za,hi,hb,hn1]
 refine Yo ?_
 have hnt:∀ σ,o=some σ→¬ ter i j L n:=fun σ e q=>by subst e;have:=BA.a h |>.1.ter_lt q;omega
 refine Zsu (S:=Int×Objs×Nat×List NR×Option SG) (fun q=>⟨33,[],[(0,.ref b 0),(1,.val (.int .i64 s)),(2,.val (.int .i64 p)),(7,.ref n 0),(8,.val (.int .i64 q.1))]⟩) (fun q=>q.2.1) (fun q=>q.2.2.1)
  (fun q=>(0≤q.1∧q.1≤(t.Kids.length:Int))∧BO size most q.2.1 q.2.2.1 b i j q.2.2.2.1 q.2.2.2.2∧Fr (isB b) i j O n L q.2.1 q.2.2.1 q.2.2.2.1∧q.2.1 n=some ⟨false,29,3,1,Zn t⟩∧n < q.2.2.1∧(∀ τ,q.2.2.2.2=some τ→St size most τ∧(∃ σ,o=some σ∧Ex σ τ)∧¬ ter i j q.2.2.2.1 n)∧o.bind (Jy f s p t.Kids)=q.2.2.2.2.bind (Jy f s (p+q.1) (t.Kids.drop q.1.toNat)))
  (fun q=>((t.Kids.length:Int) - q.1).toNat) (fun q hq=>hq.2.2.1.le) (fun q hq => ?_) (0,Z,n+1,L,o) ⟨⟨Int.le_refl _,by omega⟩,A0,F0,hZn,hn1,fun τ e=>⟨(hh τ e).1,⟨τ,e,Ex.refl _⟩,hnt τ e⟩,by simp⟩
 obtain ⟨k,Y,m,M,τo⟩:=q
 obtain ⟨⟨k0,k1⟩,g1,g3,g4,g5,g6,g8⟩:=hq
 dsimp only at k0 k1 g1 g3 g4 g5 g6 g8 ⊢
 obtain ⟨hb,hi⟩:=g1.b_lt
 have hob:=g1.ho
 simp only [push_cast] at g4
 refine Q8 fun hUY => ?_
 by_cases c1:k < (t.Kids.length:Int)∧Zjw τo=true
 ·have d1:decide (k < (t.Kids.length:Int))=true:=decide_eq_true c1.1
  obtain ⟨τ,rfl⟩:∃ τ,τo=some τ:=by
   cases τo with
   | none=>exact absurd c1.2 (by decide)
   | some τ=>exact ⟨τ,rfl⟩
  rw [c1.2] at hob
  obtain ⟨x,hx⟩:=Zkl (L:=t.Kids) k0 c1.1
  obtain ⟨x5,hx5,ax5,bx5,cx5,_⟩:=bE (f:=Zr) (K:=fun y=>some y) (r:=x) Zdb (fun _=>rfl) (by decide) (by rw [hx];rfl)
  obtain rfl:x5=x:=Option.some.inj (hx5.symm.trans hx)
  have hstep:=Z52 f s p k0 hx τ
  obtain ⟨t1,⟨σ,e0,t2⟩,t3⟩:=g6 τ rfl
  obtain ⟨hs,hp,hbb⟩:=hh σ e0
  have hwp:IntKind.i64.wrap (p+k)=p+k:=Vv (by omega)
  refine Zf ?_
  refine Zk [0,1,2,7,8,19] (Zb Zc (Zyn []) ?_)
  simp only [push_cast,seval,Za,hb,hi,hob,g4,g5,d1]
  refine Zo (t:=true) rfl (fun Vn => ?_) (fun Vn=>by cases Vn)
  refine Zt ?_
  try simp only [Zh,Ze]
  refine Zf ?_
  refine Yo ?_
  refine Zb Zc [] ?_
  simp only [push_cast,Nat.reduceAdd,Nat.reduceSub,Nat.reduceMul,Nat.reduceLeDiff,Nat.reduceLT,Nat.reduceEqDiff,↓reduceIte,reduceCtorEq,Int.reduceBEq,Int.reduceBNe,Nat.reduceBEq,Int.reduceLE,Int.reduceLT,Int.reduceEq,Int.reduceNe,Int.reduceNeg,Nat.reduceDiv,Nat.reduceMod,Nat.reducePow,Za,hb,hi,hob,g4,g5,hwp,ax5,bx5,cx5]
  refine (hk x5 (Xe hx) (s:=s) (p:=p+k) g1 t1 (t2 _ _ _ (hbb (p+k) (by omega) (by omega)))).mono fun r O' n' hE => ?_
  obtain ⟨L',rfl,F4,hres⟩:=hE
  have hn':=F4.le
  have hnb:n≠b:=by omega
  simp only [push_cast,seval,Za]
  refine Q8 fun hU9 => ?_
  obtain ⟨q1,q2,q3⟩:=F4.keepB g5 hnb t3
  obtain ⟨hb9,hi9⟩:=hres.b_lt
  refine Zb Zc [] ?_
  have hwk:IntKind.i64.wrap (k+1)=k+1:=Vv (by omega)
  simp only [push_cast,seval,Za,hb9,hi9,q2,hwk]
  refine .inl ⟨rfl,(k+1,O',n',L',f x5 s (p+k) τ),⟨⟨by omega,by omega⟩,hres,g3.trans F4,q1.trans g4,q2,fun ρ e => ?_,?_⟩,by show ((t.Kids.length:Int) - (k+1)).toNat < ((t.Kids.length:Int) - k).toNat;omega,Kc hU9 (Nat.le_trans g3.le F4.le) rfl ?_⟩
  ·obtain ⟨u1,u2⟩:=(hf x5 s (p+k) τ t1).1 ρ e
   exact ⟨u1,⟨σ,e0,t2.trans u2⟩,q3⟩
  ·show o.bind (Jy f s p t.Kids)=(f x5 s (p+k) τ).bind (Jy f s (p+(k+1)) (t.Kids.drop (k+1).toNat))
   rw [g8];exact hstep
  simp only [push_cast,seval,Za,hb9,hi9,q2]
 have hex:o.bind (Jy f s p t.Kids)=τo:=by
  rw [g8]
  cases τo with
  | none=>rfl
  | some τ =>
   have:¬ k < (t.Kids.length:Int):=fun z=>c1 ⟨z,rfl⟩
   rw [List.drop_eq_nil_of_le (by omega)];rfl
 refine Zf ?_
 refine Yr (E':=⟨33,[],[(0,.ref b 0),(1,.val (.int .i64 s)),(2,.val (.int .i64 p)),(7,.ref n 0),(8,.val (.int .i64 k)),(19,.val (.bool false))]⟩) (O':=Y) (n0:=m) ?_ ?_
 ·by_cases c2:k < (t.Kids.length:Int)
  ·have d1:decide (k < (t.Kids.length:Int))=true:=decide_eq_true c2
   have d2:Zjw τo=false:=by
    cases h:Zjw τo with
    | true=>exact absurd ⟨c2,h⟩ c1
    | false=>rfl
   rw [d2] at hob
   refine Zb Zc (Zyn []) ?_
   simp only [push_cast,seval,Za,hb,hi,hob,g4,g5,d1]
   refine And.intro rfl (Kc hUY g3.le rfl ?_)
   simp only [push_cast,seval,Za,hb,hi,hob,g4,g5]
  have d1:decide (k < (t.Kids.length:Int))=false:=decide_eq_false c2
  refine Zb Zc (Z2y []) ?_
  simp only [push_cast,seval,Za,hb,hi,hob,g4,g5,d1]
  refine And.intro rfl (Kc hUY g3.le rfl ?_)
  simp only [push_cast,seval,Za,hb,hi,hob,g4,g5]
 refine Zo (t:=false) rfl (fun Vn=>by cases Vn) (fun Vn => ?_)
 refine Q7 ?_
 try simp only [Zh,Ze,↓reduceIte,Nat.reduceEqDiff]
 refine .inr ⟨(fun h=>by cases h),?_⟩
 try simp only [Zh,Ze,↓reduceIte,Nat.reduceEqDiff]
 show Zzj _ _ _ _ .normal _ _ _
 refine ⟨.tup [],Y,m,g3.le,⟨M,rfl,g3,by rw [hex];exact g1⟩,?_⟩
 refine Yz (P:=Tryz.prog) (.inl rfl) hUY [] g3.le ?_
 simp only [push_cast,seval,Za,Tryz.results35]
attribute [local push_cast] Bool.and_self List.drop_succ_cons Zc0 List.getD_cons_zero List.getD_cons_succ or_false gt_iff_lt Zbm Gn K2 Nat.add_assoc Zdu List.length_append Zdc Zf2 Zy8 Zuy Z3k Zyk Z38 Zfi Z3l Zfh Zaj Zb3
theorem Fit2.base {ba ba':Nat} {E E':Env} {O O':Objs} {n n':Nat} (h:Fit2 ba' E O n E' O' n') (hb:ba≤ba'):Fit2 ba E O n E' O' n':=fun w m a hM hE=>by
 obtain ⟨m',a1,a2,a3⟩:=h w m a hM hE
 exact ⟨m',a1,a2,a3.base hb⟩
noncomputable def Z8w (t:Tr) (s:Int×List Int):Option ((Int×List Int) ⊕ List Int) :=
 cond (decide (s.1 < (t.Kids.length:Int))) ((Z5 t.Kids s.1).bind fun x2=>(Z5 x2.Words 0).bind fun y3=>(Zf5 8 s.2 ([y3]:List Int)).bind fun l4=>some (.inl ((IntKind.i64.wrap (s.1+1)),l4))) (some (.inr s.2))
theorem Ybg {t:Tr} {d:Nat} (hF:Fine t d) (hk:2≤t.Kind∧t.Kind≤7):Z6 (Z8w t) (0,[])=some (ato t):=by
 have p:=hF.pt
 have pk:=Zii t
 have ha:=Zoj hF hk
 have l0:=Z8n t.Kids (fun k=>k.Words.headD 0) (Z8w t) [] (by omega) (fun i x out hi hx hm ho=>by
  obtain ⟨w,hw,_⟩:=ha x hm
  have e:Z5 x.Words 0=some w:=by rw [hw];rfl
  unfold Z8w
  simp only [List.length_nil] at ho ⊢
  rw [Zt4 hi,cond_true,Zaz hx,Option.bind_some,e,Option.bind_some,Zcx (by simp only [List.length_singleton];omega) (by simp only [List.length_singleton];omega),Option.bind_some,hw]
  rfl) (fun out=>by
  unfold Z8w
  simp only
  rw [Zt3,cond_false])
 rw [l0,List.nil_append]
 rfl
theorem Zem {A:List (List Int)} {s p k q m:Int} (h:Yl A s p k=true) (h1:p≤q) (h0:0≤m) (h2:q+m≤p+k):Yl A s q m=true:=by
 obtain ⟨x,hx,a,b,c⟩:=Qw h
 exact Zh9 hx (by omega) h0 (by omega)
theorem Zo0 {size most:Int} {σ:SG} {k:Int} (hs:St size most σ):-1≤(Zdi (Ys size σ k)).1∧(Zdi (Ys size σ k)).1≤16∧-1≤(Zdi (Ys size σ k)).2∧(Zdi (Ys size σ k)).2≤200000:=by
 cases e:Ys size σ k with
 | none=>exact ⟨by decide,by decide,by decide,by decide⟩
 | some r =>
  have g:=Qj hs e
  have:r.1≤16:=by
   obtain ⟨y,hy,_⟩:=Qw g.2.2.2.2.2.2.1
   have:=Q4 hy
   have:=g.2.2.2.2.1.h16
   omega
  exact ⟨by show -1≤r.1;omega,this,by show -1≤r.2.1;omega,by show r.2.1≤200000;omega⟩
structure Fx (size most:Int) (V:Int×Int) (k:Int) (τ:SG):Prop where
 st:St size most τ
 hb:Yl τ.1 V.1 V.2 k=true
 v1:0≤V.1
 v2:0≤V.2
 v3:V.2+k≤131072
 k0:0≤k
theorem Fx.ex {size most:Int} {V:Int×Int} {k:Int} {τ ρ:SG} (h:Fx size most V k τ) (hs:St size most ρ) (he:Ex τ ρ):Fx size most V k ρ:=⟨hs,he _ _ _ h.hb,h.v1,h.v2,h.v3,h.k0⟩
theorem Zsy {size most:Int} {σ:SG} {k:Int} (hs:St size most σ):∀ τ,(Ys size σ k).map (fun r=>r.2.2)=some τ→Fx size most (Zdi (Ys size σ k)) k τ∧Ex σ τ:=fun τ h=>by
 cases e:Ys size σ k with
 | none=>rw [e] at h;cases h
 | some r =>
  rw [e] at h
  have:=Option.some.inj h;subst this
  have g:=Qj hs e
  exact ⟨⟨g.2.2.2.2.1,g.2.2.2.2.2.2.1,g.2.1,g.2.2.1,g.2.2.2.1,g.1⟩,g.2.2.2.2.2.1⟩
theorem Zxq {size most:Int} {V:Int×Int} {k0:Int} {o:Option SG} {s p k u hm q:Int} (h:∀ τ,o=some τ→Fx size most V k0 τ):∀ ρ,(o.bind fun σ=>K5 size σ s p k u hm q)=some ρ→Fx size most V k0 ρ:=fun ρ e=>by
 cases o with
 | none=>cases e
 | some τ =>
  have a:=Zh6 (h τ rfl).st e
  exact (h τ rfl).ex a.1 a.2.1
theorem Ya8 {size most:Int} {V:Int×Int} {k0:Int} {o:Option SG} {s p:Int} {ws:List Int} (h:∀ τ,o=some τ→Fx size most V k0 τ):∀ ρ,(o.map fun σ=>((Y5 σ.1 s p ws,σ.2):SG))=some ρ→Fx size most V k0 ρ:=fun ρ e=>by
 cases o with
 | none=>cases e
 | some τ =>
  have:=Option.some.inj e;subst this
  exact (h τ rfl).ex (St.lays _ _ (h τ rfl).st _) (Ex.lays _ _ _ _)
theorem Yey {size most:Int} {V:Int×Int} {k0:Int} {o:Option SG} {s p v:Int} (h:∀ τ,o=some τ→Fx size most V k0 τ):∀ ρ,o.map (pt1 s p v)=some ρ→Fx size most V k0 ρ:=fun ρ e=>by
 cases o with
 | none=>cases e
 | some τ =>
  have:=Option.some.inj e;subst this
  exact (h τ rfl).ex ((h τ rfl).st.put _ _ _) (Ex.put _ _ _ _)
theorem Z2f (f:Tr→Int→Int→SG→Option SG) (s m w p:Int) {ts:List Tr} {k:Int} {x:Tr} (h0:0≤k) (hx:Z5 ts k=some x) (σ:SG):Zas f s m w (p+k * m) (ts.drop k.toNat) σ=(Jy f s (p+k * m+w) x.Kids (Y5 σ.1 s (p+k * m) x.Words,σ.2)).bind (Zas f s m w (p+(k+1) * m) (ts.drop (k+1).toNat)):=by
 unfold Z5 at hx
 rw [if_pos h0] at hx
 obtain ⟨hl2,e⟩:=List.getElem?_eq_some_iff.1 hx
 rw [List.drop_eq_getElem_cons hl2,Zas,e,show (k+1).toNat=k.toNat+1 by omega,show p+(k+1) * m=p+k * m+m by rw [Int.add_mul];omega]
theorem Zs5 (size most:Int):∀ (N:Nat) (t:Tr) (d:Nat),SizeOf.sizeOf t < N→Fine t d→¬ t.Kind=10→PR size most (Vx false size N) t
 | 0,_,_,h,_,_=>by omega
 | N+1,t,d,hsz,hF,h10=>by
  rename_i O n b i j L σ s p
  intro h hs hsb
  have hf:=Zbg false size most N
  have pp:=hF.pt
  have pk:=Zii t
  obtain ⟨x0,hx0,p0,_,p1⟩:=Qw hsb
  have hx0b:=hs.hB x0 (Xe hx0)
  have hl0:=hs.hl0
  have hb0:=h.hb
  have hi0:=h.a.1.hi
  refine Ztj Zc Tryz.call18 Tryz.func18 rfl (Nat.le_of_ble_eq_true rfl) fun hU => ?_
  have hN0:O n=none:=hU.fresh _ (Nat.le_refl _)
  have hN:∀ k,O (n+k)=none:=fun k=>hU.fresh _ (Nat.le_add_right _ _)
  show Go.Proofs.YtmjjjfamipncdaaGreat.W _ _ _ _ ⟨238,[],[(0,.ref b 0),(1,.val (.int .i64 s)),(2,.val (.int .i64 p)),(3,.agg (Zn t))]⟩ (Z3 O n []) _
  rw [Jw hU.fresh]
  refine Zk [0,1,2,7] (Zb Zc [] ?_)
  simp only [push_cast,seval,Za,hi0,hb0,hN0,hN]
  have A0:=h.own (some ⟨false,29,3,1,Zn t⟩)
  have F0:=Fr.own (X:=isB b) (i:=i) (j:=j) (O:=O) (n:=n) L (some ⟨false,29,3,1,Zn t⟩)
  obtain ⟨Z,hZ⟩:∃ Z,Z=O.upd n (some ⟨false,29,3,1,Zn t⟩):=⟨_,rfl⟩
  have hZn:Z n=some ⟨false,29,3,1,Zn t⟩:=by rw [hZ];exact Yj _ _ _
  have hZ2:=hZ
  simp only [push_cast] at hZ2
  rw [← hZ] at A0 F0
  rw [← hZ2]
  have hb:b < n+1:=by omega
  have hi:i < n+1:=by omega
  have hn1:n < n+1:=Nat.lt_succ_self n
  have hnt:¬ ter i j L n:=fun q=>by have:=h.a.1.ter_lt q;omega
  have hnb:n≠b:=by omega
  simp only [push_cast] at hZn
  refine Q8 fun hUZ => ?_
  refine Zk [0,1,2,7,8] (Zb Zc [] ?_)
  simp only [push_cast,seval,Za,hi,hb,hn1,hZn]
  refine Zk [0,1,2,7,8,28] (Zb Zc [] ?_)
  simp only [push_cast,seval,Za,hi,hb,hn1,hZn]
  refine Yo ?_
  refine Zk [0,1,2,7,8,28,79] (Zb Zc [] ?_)
  simp only [push_cast,seval,Za,hi,hb,hn1,hZn]
  refine Zo (t:=(t.Kind == 0)) rfl (fun c => ?_) (fun c => ?_)
  ·have c0:t.Kind=0:=eq_of_beq c
   have eqL:Vx false size (N+1) t s p σ=some σ:=by simp only [Vx];rw [if_pos c0]
   refine Zu ?_
   try simp only [Zh,Ze]
   refine ⟨.tup [],Z,n+1,F0.le,⟨L,rfl,F0,by rw [eqL];exact A0⟩,?_⟩
   refine Yz (P:=Tryz.prog) (.inr rfl) hUZ [] F0.le ?_
   simp only [push_cast,seval,Za,Tryz.results18]
  have c0:¬ t.Kind=0:=ne_of_beq_false c
  have kd:=Zvz hF c0 h10
  have eqL:Vx false size (N+1) t s p σ=(Ys size σ (Gd t)).bind fun r=>(K5 size r.2.2 s p (pkd t) (pup t) r.1 r.2.1).bind fun τ=>inT false (Vx false size N) r.1 r.2.1 t τ:=by simp only [Vx];rw [if_neg c0]
  obtain ⟨i1,i2,i3,ik⟩:=Uu hF.rt c0 h10
  refine Zk [0,1,2,7,8,28,81] (Zb Zc [] ?_)
  simp only [push_cast,seval,Za,hi,hb,hn1,hZn]
  refine Zo (t:=(t.Kind == 1)) rfl (fun c => ?_) (fun c => ?_)
  ·have c1:t.Kind=1:=eq_of_beq c
   obtain ⟨V,hV⟩:∃ V,V=Zdi (Ys size σ (Gd t)):=⟨_,rfl⟩
   have hVb:=Zo0 (k:=Gd t) hs
   have hfx:=Zsy (k:=Gd t) hs
   have hm1:∀ τ,(Ys size σ (Gd t)).map (fun r=>r.2.2)=some τ→Yl τ.1 s p 1=true:=fun τ e=>(hfx τ e).2 _ _ _ hsb
   have hfx1:∀ τ,(Ys size σ (Gd t)).map (fun r=>r.2.2)=some τ→Fx size most V (Gd t) τ:=fun τ e=>by rw [hV];exact (hfx τ e).1
   obtain ⟨O5,n5,L5,g5,A5,F5⟩:=Zok (Gd t) A0 hs
   rw [← hV] at hVb g5
   obtain ⟨q1,q2,q3⟩:=F5.keepB hn1 hnb hnt
   have ep:Gd t=(t.Words.length:Int)+(t.Kids.length:Int):=Ze0 c1
   have ek:pkd t=0:=by unfold pkd;rw [if_pos c1]
   have eu:pup t=(t.Words.length:Int)+65536 * (t.Kids.length:Int):=by unfold pup;rw [if_pos c1]
   have hi2:=i2 c1
   have w0:IntKind.i64.wrap ((t.Words.length:Int)+(t.Kids.length:Int))=Gd t:=by rw [ep];exact Vv (by omega)
   refine Zk [0,1,2,7,8,9,10] (Zb Zc [] ?_)
   simp only [push_cast,seval,Za,hi,hb,hn1,hZn,w0]
   refine g5.then ?_
   have hZn:=q1.trans hZn
   have hn1:=q2
   have hnt:=q3
   have F9:=F0.trans F5
   obtain ⟨hb,hi⟩:=A5.b_lt
   simp only [push_cast,seval,Za,hi,hb,hn1,hZn]
   refine Q8 fun hU5 => ?_
   have u1:IntKind.u64.wrap (t.Words.length:Int)=(t.Words.length:Int):=Kr (by omega) (by omega)
   have u2:IntKind.u64.wrap (t.Kids.length:Int)=(t.Kids.length:Int):=Kr (by omega) (by omega)
   have u3:IntKind.u64.wrap (65536 * (t.Kids.length:Int))=65536 * (t.Kids.length:Int):=Kr (by omega) (by omega)
   have u4:IntKind.u64.wrap ((t.Words.length:Int)+65536 * (t.Kids.length:Int))=pup t:=by rw [eu];exact Kr (by omega) (by omega)
   refine Zk [0,7,8,9,10] (Zb Zc [] ?_)
   simp only [push_cast,seval,Za,hi,hb,hn1,hZn,u1,u2,u3,u4]
   refine (Zpu A5 (s:=s) (p:=p) (k:=0) (u:=pup t) (q:=V.2) (hm:=V.1) (fun τ e=>⟨(hfx1 τ e).st,⟨by decide,by decide,by omega,by have a3:=(hfx1 τ e).v3;have a0:=(hfx1 τ e).k0;omega⟩,hm1 τ e,⟨(hfx1 τ e).v2,by have a3:=(hfx1 τ e).v3;have a0:=(hfx1 τ e).k0;omega⟩,⟨(hfx1 τ e).v1,by omega⟩⟩)).mono fun r O6 n6 hE => ?_
   obtain ⟨L6,rfl,F6,A6⟩:=hE
   have F9:=F9.trans F6
   obtain ⟨q1,q2,q3⟩:=F6.keepB hn1 hnb hnt
   have hZn:=q1.trans hZn
   have hn1:=q2
   have hnt:=q3
   obtain ⟨hb,hi⟩:=A6.b_lt
   simp only [push_cast,seval,Za,hi,hb,hn1,hZn]
   refine Q8 fun hU6 => ?_
   have hfx2:=Zxq (s:=s) (p:=p) (k:=0) (u:=pup t) (hm:=V.1) (q:=V.2) hfx1
   refine Zk [0,7,8,9,10] (Zb Zc [] ?_)
   simp only [push_cast,seval,Za,hi,hb,hn1,hZn]
   refine (Z23 A6 (s:=V.1) (p:=V.2) (ws:=t.Words) (by omega) (fun τ e=>⟨⟨(hfx2 τ e).v2,by have:=(hfx2 τ e).v3;omega⟩,.inl (Zem (hfx2 τ e).hb (Int.le_refl _) (by omega) (by omega))⟩)).mono fun r O6 n6 hE => ?_
   obtain ⟨L6,rfl,F6,A6⟩:=hE
   have F9:=F9.trans F6
   obtain ⟨q1,q2,q3⟩:=F6.keepB hn1 hnb hnt
   have hZn:=q1.trans hZn
   have hn1:=q2
   have hnt:=q3
   obtain ⟨hb,hi⟩:=A6.b_lt
   simp only [push_cast,seval,Za,hi,hb,hn1,hZn]
   refine Q8 fun hU6 => ?_
   have hfx3:=Ya8 (s:=V.1) (p:=V.2) (ws:=t.Words) hfx2
   have w3:IntKind.i64.wrap (V.2+(t.Words.length:Int))=V.2+(t.Words.length:Int):=Vv (by omega)
   refine Z3o ?_
   refine Zb Zc [] ?_
   simp only [push_cast,seval,Za,hi,hb,hn1,hZn,w3]
   refine (Zy9 A6 (s:=V.1) (p:=V.2+(t.Words.length:Int)) hf (fun x hx=>@Zs5 size most N x (d - 1) (by have:=Xc hx;omega) (hF.kid hx) (Vl (by omega) (ik x hx).2).1) (by omega) (fun τ e=>⟨(hfx3 τ e).st,⟨by have:=(hfx3 τ e).v2;omega,by have:=(hfx3 τ e).v3;omega⟩,fun q a b=>Zem (hfx3 τ e).hb (by omega) (by omega) (by omega)⟩)).mono fun r O6 n6 hE => ?_
   obtain ⟨L6,rfl,F6,A6⟩:=hE
   have F9:=F9.trans F6
   simp only [push_cast,seval,Za,hi,hb,hn1,hZn]
   intro hU9
   have hEQ:((Ys size σ (Gd t)).bind fun r=>(K5 size r.2.2 s p (pkd t) (pup t) r.1 r.2.1).bind fun τ=>inT false (Vx false size N) r.1 r.2.1 t τ)=(((((Ys size σ (Gd t)).map fun r=>r.2.2).bind fun σ=>K5 size σ s p 0 (pup t) V.1 V.2).map fun σ=>((Y5 σ.1 V.1 V.2 t.Words,σ.2):SG)).bind (Jy (Vx false size N) V.1 (V.2+(t.Words.length:Int)) t.Kids)):=by
    rw [hV,ek]
    cases Ys size σ (Gd t) with
    | none=>rfl
    | some r =>
     show (K5 size r.2.2 s p 0 (pup t) r.1 r.2.1).bind _=_
     simp only [Option.map_some,Option.bind_some,Zdi]
     cases K5 size r.2.2 s p 0 (pup t) r.1 r.2.1 with
     | none=>rfl
     | some ρ=>show inT false (Vx false size N) r.1 r.2.1 t ρ=_;unfold inT;rw [if_pos c1];rfl
   try simp only [Zh,Ze,↓reduceIte,Nat.reduceEqDiff]
   show Zzj _ _ _ _ .normal _ _ _
   refine ⟨.tup [],O6,n6,F9.le,⟨L6,rfl,F9,?_⟩,?_⟩
   ·have e9:Vx false size (N+1) t s p σ=_:=eqL
    rw [e9,hEQ]
    exact A6
   refine Yz (P:=Tryz.prog) (.inl rfl) hU9 [] F9.le ?_
   simp only [push_cast,seval,Za,Tryz.results18]
  have c1:¬ t.Kind=1:=ne_of_beq_false c
  refine Zk [0,1,2,7,8,28,122] (Zb Zc [] ?_)
  simp only [push_cast,seval,Za,hi,hb,hn1,hZn]
  refine Zo (t:=(t.Kind == 8)) rfl (fun c => ?_) (fun c => ?_)
  ·have c8:t.Kind=8:=eq_of_beq c
   obtain ⟨V,hV⟩:∃ V,V=Zdi (Ys size σ (Gd t)):=⟨_,rfl⟩
   have hVb:=Zo0 (k:=Gd t) hs
   have hfx:=Zsy (k:=Gd t) hs
   have hm1:∀ τ,(Ys size σ (Gd t)).map (fun r=>r.2.2)=some τ→Yl τ.1 s p 1=true:=fun τ e=>(hfx τ e).2 _ _ _ hsb
   have hfx1:∀ τ,(Ys size σ (Gd t)).map (fun r=>r.2.2)=some τ→Fx size most V (Gd t) τ:=fun τ e=>by rw [hV];exact (hfx τ e).1
   obtain ⟨O5,n5,L5,g5,A5,F5⟩:=Zok (Gd t) A0 hs
   rw [← hV] at hVb g5
   obtain ⟨q1,q2,q3⟩:=F5.keepB hn1 hnb hnt
   have ep:Gd t=(t.Kids.length:Int):=Zjt c8
   have ek:pkd t=1:=by unfold pkd;rw [if_neg c1]
   have eu:pup t=6+8 * (t.Kids.length:Int):=by unfold pup;rw [if_neg c1,if_neg (by omega),c8];omega
   have g5':=g5
   rw [ep] at g5'
   refine Zk [0,1,2,7,8,11,12] (Zb Zc [] ?_)
   simp only [push_cast,seval,Za,hi,hb,hn1,hZn]
   refine g5'.then ?_
   have hZn:=q1.trans hZn
   have hn1:=q2
   have hnt:=q3
   have F9:=F0.trans F5
   obtain ⟨hb,hi⟩:=A5.b_lt
   simp only [push_cast,seval,Za,hi,hb,hn1,hZn]
   refine Q8 fun hU5 => ?_
   have u2:IntKind.u64.wrap (t.Kids.length:Int)=(t.Kids.length:Int):=Kr (by omega) (by omega)
   have u3:IntKind.u64.wrap (8 * (t.Kids.length:Int))=8 * (t.Kids.length:Int):=Kr (by omega) (by omega)
   have u4:IntKind.u64.wrap (6+8 * (t.Kids.length:Int))=pup t:=by rw [eu];exact Kr (by omega) (by omega)
   refine Zk [0,7,8,11,12] (Zb Zc [] ?_)
   simp only [push_cast,seval,Za,hi,hb,hn1,hZn,u2,u3,u4]
   refine (Zpu A5 (s:=s) (p:=p) (k:=1) (u:=pup t) (q:=V.2) (hm:=V.1) (fun τ e=>⟨(hfx1 τ e).st,⟨by decide,by decide,by omega,by have a3:=(hfx1 τ e).v3;have a0:=(hfx1 τ e).k0;omega⟩,hm1 τ e,⟨(hfx1 τ e).v2,by have a3:=(hfx1 τ e).v3;have a0:=(hfx1 τ e).k0;omega⟩,⟨(hfx1 τ e).v1,by omega⟩⟩)).mono fun r O6 n6 hE => ?_
   obtain ⟨L6,rfl,F6,A6⟩:=hE
   have F9:=F9.trans F6
   obtain ⟨q1,q2,q3⟩:=F6.keepB hn1 hnb hnt
   have hZn:=q1.trans hZn
   have hn1:=q2
   have hnt:=q3
   obtain ⟨hb,hi⟩:=A6.b_lt
   simp only [push_cast,seval,Za,hi,hb,hn1,hZn]
   refine Q8 fun hU6 => ?_
   have hfx2:=Zxq (s:=s) (p:=p) (k:=1) (u:=pup t) (hm:=V.1) (q:=V.2) hfx1
   refine Z3o ?_
   refine Zb Zc [] ?_
   simp only [push_cast,seval,Za,hi,hb,hn1,hZn]
   refine (Zy9 A6 (s:=V.1) (p:=V.2) hf (fun x hx=>@Zs5 size most N x (d - 1) (by have:=Xc hx;omega) (hF.kid hx) (Vl (by omega) (ik x hx).2).1) (by omega) (fun τ e=>⟨(hfx2 τ e).st,⟨by have:=(hfx2 τ e).v2;omega,by have:=(hfx2 τ e).v3;omega⟩,fun q a b=>Zem (hfx2 τ e).hb (by omega) (by omega) (by omega)⟩)).mono fun r O6 n6 hE => ?_
   obtain ⟨L6,rfl,F6,A6⟩:=hE
   have F9:=F9.trans F6
   simp only [push_cast,seval,Za,hi,hb,hn1,hZn]
   intro hU9
   have hEQ:((Ys size σ (Gd t)).bind fun r=>(K5 size r.2.2 s p (pkd t) (pup t) r.1 r.2.1).bind fun τ=>inT false (Vx false size N) r.1 r.2.1 t τ)=((((Ys size σ (Gd t)).map fun r=>r.2.2).bind fun σ=>K5 size σ s p 1 (pup t) V.1 V.2).bind (Jy (Vx false size N) V.1 V.2 t.Kids)):=by
    rw [hV,ek]
    cases Ys size σ (Gd t) with
    | none=>rfl
    | some r =>
     show (K5 size r.2.2 s p 1 (pup t) r.1 r.2.1).bind _=_
     simp only [Option.map_some,Option.bind_some,Zdi]
     cases K5 size r.2.2 s p 1 (pup t) r.1 r.2.1 with
     | none=>rfl
     | some ρ=>show inT false (Vx false size N) r.1 r.2.1 t ρ=_;unfold inT;rw [if_neg c1,if_pos c8];rfl
   try simp only [Zh,Ze,↓reduceIte,Nat.reduceEqDiff]
   show Zzj _ _ _ _ .normal _ _ _
   refine ⟨.tup [],O6,n6,F9.le,⟨L6,rfl,F9,?_⟩,?_⟩
   ·have e9:Vx false size (N+1) t s p σ=_:=eqL
    rw [e9,hEQ]
    exact A6
   refine Yz (P:=Tryz.prog) (.inl rfl) hU9 [] F9.le ?_
   simp only [push_cast,seval,Za,Tryz.results18]
  have c8:¬ t.Kind=8:=ne_of_beq_false c
  refine Zk [0,1,2,7,8,28,145] (Zb Zc [] ?_)
  simp only [push_cast,seval,Za,hi,hb,hn1,hZn]
  refine Zo (t:=(t.Kind == 9)) rfl (fun c => ?_) (fun c => ?_)
  ·have c9:t.Kind=9:=eq_of_beq c
   obtain ⟨a1,a2,w0,w1,k0',k1',ak⟩:=Zth hF c9
   have hframe:=Z6j (t:=t) (by omega)
   have ep:=Zez c9
   have ek:pkd t=1:=by unfold pkd;rw [if_neg c1]
   have eu:pup t=7+8 * ((t.Kids.length:Int) * ((fr t.Kids).1+(fr t.Kids).2)):=by unfold pup;rw [if_neg c1,if_pos c9]
   have et:Zbl t=(t.Kids.length:Int) * 4+(fr t.Kids).1 * 4294967296+(fr t.Kids).2 * 281474976710656:=rfl
   have eIn:∀ hh bb ρ,inT false (Vx false size N) hh bb t ρ=Zas (Vx false size N) hh ((fr t.Kids).1+(fr t.Kids).2) (fr t.Kids).1 (bb+1) t.Kids (pt1 hh bb (Zbl t) ρ):=fun hh bb ρ=>by
    unfold inT
    rw [if_neg c1,if_neg c8,if_pos c9,if_neg (by decide)]
    rfl
   obtain ⟨W,hW⟩:∃ W,W=(fr t.Kids).1:=⟨_,rfl⟩
   obtain ⟨K,hK⟩:∃ K,K=(fr t.Kids).2:=⟨_,rfl⟩
   have hfr:fr t.Kids=(W,K):=Prod.ext hW.symm hK.symm
   simp only [hfr] at hframe a1 a2 w0 w1 k0' k1' ak ep eu et eIn
   clear hW hK
   have hWK:IntKind.i64.wrap (W+K)=W+K:=Vv (by omega)
   have hNM:IntKind.i64.wrap ((t.Kids.length:Int) * (W+K))=(t.Kids.length:Int) * (W+K):=Vv (by omega)
   have hPW:IntKind.i64.wrap (1+(t.Kids.length:Int) * (W+K))=Gd t:=by rw [ep];exact Vv (by omega)
   refine Zk [0,1,2,7,8,13,14] (Zb Zc [] ?_)
   simp only [push_cast,seval,Za,hi,hb,hn1,hZn]
   refine (Zm5 hframe).then ?_
   simp only [push_cast,seval,Za,hi,hb,hn1,hZn]
   obtain ⟨V,hV⟩:∃ V,V=Zdi (Ys size σ (Gd t)):=⟨_,rfl⟩
   have hVb:=Zo0 (k:=Gd t) hs
   have hfx:=Zsy (k:=Gd t) hs
   have hm1:∀ τ,(Ys size σ (Gd t)).map (fun r=>r.2.2)=some τ→Yl τ.1 s p 1=true:=fun τ e=>(hfx τ e).2 _ _ _ hsb
   have hfx1:∀ τ,(Ys size σ (Gd t)).map (fun r=>r.2.2)=some τ→Fx size most V (Gd t) τ:=fun τ e=>by rw [hV];exact (hfx τ e).1
   obtain ⟨O5,n5,L5,g5,A5,F5⟩:=Zok (Gd t) A0 hs
   rw [← hV] at hVb g5
   obtain ⟨q1,q2,q3⟩:=F5.keepB hn1 hnb hnt
   refine Zk [0,1,2,7,8,13,14,15,16] (Zb Zc [] ?_)
   simp only [push_cast,seval,Za,hi,hb,hn1,hZn,hWK,hNM,hPW]
   refine g5.then ?_
   have hZn:=q1.trans hZn
   have hn1:=q2
   have hnt:=q3
   have F9:=F0.trans F5
   obtain ⟨hb,hi⟩:=A5.b_lt
   simp only [push_cast,seval,Za,hi,hb,hn1,hZn]
   refine Q8 fun hU5 => ?_
   have u1:IntKind.u64.wrap ((t.Kids.length:Int) * (W+K))=(t.Kids.length:Int) * (W+K):=Kr (by omega) (by omega)
   have u2:IntKind.u64.wrap (8 * ((t.Kids.length:Int) * (W+K)))=8 * ((t.Kids.length:Int) * (W+K)):=Kr (by omega) (by omega)
   have u3:IntKind.u64.wrap (7+8 * ((t.Kids.length:Int) * (W+K)))=pup t:=by rw [eu];exact Kr (by omega) (by omega)
   refine Zk [0,7,8,13,14,15,16] (Zb Zc [] ?_)
   simp only [push_cast,seval,Za,hi,hb,hn1,hZn,hWK,hNM,u1,u2,u3]
   refine (Zpu A5 (s:=s) (p:=p) (k:=1) (u:=pup t) (q:=V.2) (hm:=V.1) (fun τ e=>⟨(hfx1 τ e).st,⟨by decide,by decide,by omega,by have a3:=(hfx1 τ e).v3;have a0:=(hfx1 τ e).k0;omega⟩,hm1 τ e,⟨(hfx1 τ e).v2,by have a3:=(hfx1 τ e).v3;have a0:=(hfx1 τ e).k0;omega⟩,⟨(hfx1 τ e).v1,by omega⟩⟩)).mono fun r O6 n6 hE => ?_
   obtain ⟨L6,rfl,F6,A6⟩:=hE
   have F9:=F9.trans F6
   obtain ⟨q1,q2,q3⟩:=F6.keepB hn1 hnb hnt
   have hZn:=q1.trans hZn
   have hn1:=q2
   have hnt:=q3
   obtain ⟨hb,hi⟩:=A6.b_lt
   simp only [push_cast,seval,Za,hi,hb,hn1,hZn]
   refine Q8 fun hU6 => ?_
   have hfx2:=Zxq (s:=s) (p:=p) (k:=1) (u:=pup t) (hm:=V.1) (q:=V.2) hfx1
   have z1:IntKind.i64.wrap (4 * (t.Kids.length:Int))=4 * (t.Kids.length:Int):=Vv (by omega)
   have z2:IntKind.u64.wrap (4 * (t.Kids.length:Int))=4 * (t.Kids.length:Int):=Kr (by omega) (by omega)
   have z3:IntKind.u64.wrap W=W:=Kr (by omega) (by omega)
   have z4:IntKind.u64.wrap K=K:=Kr (by omega) (by omega)
   have z5:IntKind.u64.wrap (65536 * K)=65536 * K:=Kr (by omega) (by omega)
   have z6:IntKind.u64.wrap (W+65536 * K)=W+65536 * K:=Kr (by omega) (by omega)
   have z7:IntKind.u64.wrap (4294967296 * (W+65536 * K))=4294967296 * (W+65536 * K):=Kr (by omega) (by omega)
   have z8:IntKind.u64.wrap (4 * (t.Kids.length:Int)+4294967296 * (W+65536 * K))=Zbl t:=by rw [et,Kr (by omega) (by omega)];omega
   refine Zk [0,7,8,13,14,15,16] (Zb Zc [] ?_)
   simp only [push_cast,seval,Za,hi,hb,hn1,hZn,z1,z2,z3,z4,z5,z6,z7,z8]
   refine (Ye0 A6 (s:=V.1) (p:=V.2) (v:=Zbl t) (fun τ e=>Zem (hfx2 τ e).hb (Int.le_refl _) (by omega) (by omega))).mono fun r O6 n6 hE => ?_
   obtain ⟨L6,rfl,F6,A6⟩:=hE
   have F9:=F9.trans F6
   obtain ⟨q1,q2,q3⟩:=F6.keepB hn1 hnb hnt
   have hZn:=q1.trans hZn
   have hn1:=q2
   have hnt:=q3
   obtain ⟨hb,hi⟩:=A6.b_lt
   simp only [push_cast,seval,Za,hi,hb,hn1,hZn]
   refine Q8 fun hU6 => ?_
   have hfx3:=Yey (s:=V.1) (p:=V.2) (v:=Zbl t) hfx2
   refine Zk [0,7,8,13,14,15,16,17] (Zb Zc [] ?_)
   simp only [push_cast,seval,Za,hi,hb,hn1,hZn]
   refine Yo ?_
   have hTot:Vx false size (N+1) t s p σ=((((Ys size σ (Gd t)).map fun r=>r.2.2).bind fun σ=>K5 size σ s p 1 (pup t) V.1 V.2).map (pt1 V.1 V.2 (Zbl t))).bind (Zas (Vx false size N) V.1 (W+K) W (V.2+1) t.Kids):=by
    rw [eqL,hV]
    cases Ys size σ (Gd t) with
    | none=>rfl
    | some r =>
     show (K5 size r.2.2 s p (pkd t) (pup t) r.1 r.2.1).bind _=_
     simp only [Option.map_some,Option.bind_some,Zdi]
     rw [ek]
     cases K5 size r.2.2 s p 1 (pup t) r.1 r.2.1 with
     | none=>rfl
     | some ρ=>exact eIn _ _ _
   generalize hτ3:((((Ys size σ (Gd t)).map fun r=>r.2.2).bind fun σ=>K5 size σ s p 1 (pup t) V.1 V.2).map (pt1 V.1 V.2 (Zbl t)))=o3 at A6 hfx3 hTot
   refine Zsu (S:=Int×Objs×Nat×List NR×Option SG) (fun q=>⟨238,[],[(0,.ref b 0),(7,.ref n 0),(8,.val (.int .i64 (t.Kids.length:Int))),(13,.val (.int .i64 W)),(14,.val (.int .i64 K)),(15,.val (.int .i64 V.1)),(16,.val (.int .i64 V.2)),(17,.val (.int .i64 q.1))]⟩) (fun q=>q.2.1) (fun q=>q.2.2.1)
    (fun q=>(0≤q.1∧q.1≤(t.Kids.length:Int))∧BO size most q.2.1 q.2.2.1 b i j q.2.2.2.1 q.2.2.2.2∧Fr (isB b) i j O n L q.2.1 q.2.2.1 q.2.2.2.1∧q.2.1 n=some ⟨false,29,3,1,Zn t⟩∧n < q.2.2.1∧¬ ter i j q.2.2.2.1 n∧(∀ τ,q.2.2.2.2=some τ→Fx size most V (Gd t) τ)∧Vx false size (N+1) t s p σ=q.2.2.2.2.bind (Zas (Vx false size N) V.1 (W+K) W (V.2+1+q.1 * (W+K)) (t.Kids.drop q.1.toNat)))
    (fun q=>((t.Kids.length:Int) - q.1).toNat) (fun q hq=>hq.2.2.1.le) (fun q hq => ?_) (0,O6,n6,L6,o3) ⟨⟨Int.le_refl _,by omega⟩,A6,F9,hZn,hn1,hnt,hfx3,by simpa using hTot⟩
   clear hZn hn1 hnt hb hi A6 F9 hTot hfx3 hfx2 hfx1 hfx A5 F5 F6
   obtain ⟨k,Y,m,M,τo⟩:=q
   obtain ⟨⟨k0,k1⟩,g1,g3,g4,g5,g5',g6,g8⟩:=hq
   dsimp only at k0 k1 g1 g3 g4 g5 g5' g6 g8 ⊢
   obtain ⟨hb,hi⟩:=g1.b_lt
   have hob:=g1.ho
   simp only [push_cast] at g4
   refine Q8 fun hUY => ?_
   by_cases c5:k < (t.Kids.length:Int)∧Zjw τo=true
   ·have d1:decide (k < (t.Kids.length:Int))=true:=decide_eq_true c5.1
    obtain ⟨τ,rfl⟩:∃ τ,τo=some τ:=by
     cases τo with
     | none=>exact absurd c5.2 (by decide)
     | some τ=>exact ⟨τ,rfl⟩
    rw [c5.2] at hob
    obtain ⟨x,hx⟩:=Zkl (L:=t.Kids) k0 c5.1
    obtain ⟨x5,hx5,ax5,bx5,cx5,_⟩:=bE (f:=Zr) (K:=fun y=>some y) (r:=x) Zdb (fun _=>rfl) (by decide) (by rw [hx];rfl)
    obtain rfl:x5=x:=Option.some.inj (hx5.symm.trans hx)
    have dx5:Zc2 X0 26 (fl Zr t.Kids) (k.toNat * 3+1)=some (.sl x5.Words.length (fl (eI .u64) x5.Words)):=(Zdw (sz:=3) Uv (fun _=>rfl) (by decide) (by decide) hx).trans rfl
    have hstep:=Z2f (Vx false size N) V.1 (W+K) W (V.2+1) k0 hx τ
    have fx:=g6 τ rfl
    have v1:=fx.v1
    have v2:=fx.v2
    have v3:=fx.v3
    have hax:=ak x5 (Xe hx)
    have hmul:=Yeo k0 c5.1 (m:=W+K) (by omega)
    have e0:IntKind.i64.wrap (V.2+1)=V.2+1:=Vv (by omega)
    have e1:IntKind.i64.wrap (k * (W+K))=k * (W+K):=Vv (by omega)
    have e2:IntKind.i64.wrap (V.2+1+k * (W+K))=V.2+1+k * (W+K):=Vv (by omega)
    have e3:IntKind.i64.wrap (V.2+1+k * (W+K)+W)=V.2+1+k * (W+K)+W:=Vv (by omega)
    have k9:=(Vl (by omega) (ik x5 (Xe hx)).2).2 c9
    refine Zf ?_
    refine Zk [0,7,8,13,14,15,16,17,200] (Zb Zc (Zyn []) ?_)
    simp only [push_cast,seval,Za,hb,hi,hob,g4,g5,d1]
    refine Zo (t:=true) rfl (fun Vn => ?_) (fun Vn=>by cases Vn)
    refine Zt ?_
    try simp only [Zh,Ze]
    refine Zf ?_
    refine Yo ?_
    refine Zk [0,7,8,13,14,15,16,17] (Zb Zc [] ?_)
    simp only [push_cast,Nat.reduceAdd,Nat.reduceSub,Nat.reduceMul,Nat.reduceLeDiff,Nat.reduceLT,Nat.reduceEqDiff,↓reduceIte,reduceCtorEq,Int.reduceBEq,Int.reduceBNe,Nat.reduceBEq,Int.reduceLE,Int.reduceLT,Int.reduceEq,Int.reduceNe,Int.reduceNeg,Nat.reduceDiv,Nat.reduceMod,Nat.reducePow,Za,hb,hi,hob,g4,g5,hWK,e0,e1,e2,dx5,ax5,bx5,cx5]
    refine (Z23 g1 (s:=V.1) (p:=V.2+1+k * (W+K)) (ws:=x5.Words) (by omega) (fun ρ e=>⟨⟨by omega,by omega⟩,.inl (Zem (g6 ρ e).hb (by omega) (by omega) (by omega))⟩)).mono fun r O6 n6 hE => ?_
    obtain ⟨L6,rfl,F6,A6⟩:=hE
    have hn':=F6.le
    have hnb:n≠b:=by omega
    obtain ⟨q1,q2,q3⟩:=F6.keepB g5 hnb g5'
    obtain ⟨hb,hi⟩:=A6.b_lt
    have g4:=q1.trans g4
    have A6':BA size most O6 n6 b i j L6 (Y5 τ.1 V.1 (V.2+1+k * (W+K)) x5.Words,τ.2):=A6
    have fx6:Fx size most V (Gd t) (Y5 τ.1 V.1 (V.2+1+k * (W+K)) x5.Words,τ.2):=fx.ex (St.lays _ _ fx.st _) (Ex.lays _ _ _ _)
    simp only [push_cast,seval,Za,hb,hi]
    refine Q8 fun hU6 => ?_
    refine Zb Zc [] ?_
    simp only [push_cast,Nat.reduceAdd,Nat.reduceSub,Nat.reduceMul,Nat.reduceLeDiff,Nat.reduceLT,Nat.reduceEqDiff,↓reduceIte,reduceCtorEq,Int.reduceBEq,Int.reduceBNe,Nat.reduceBEq,Int.reduceLE,Int.reduceLT,Int.reduceEq,Int.reduceNe,Int.reduceNeg,Nat.reduceDiv,Nat.reduceMod,Nat.reducePow,Za,hb,hi,g4,q2,hWK,e0,e1,e2,e3,ax5,bx5,cx5]
    refine (Zy9 A6 (t:=x5) (s:=V.1) (p:=V.2+1+k * (W+K)+W) hf (fun y hy=>by
     have j4:=(Uu (hF.kid (Xe hx)).rt (by omega) (by omega)).2.2.2 y hy
     exact @Zs5 size most N y (d - 1 - 1) (by have:=Xc (Xe hx);have:=Xc hy;omega) ((hF.kid (Xe hx)).kid hy) (Vl (by omega) j4.2).1) (by omega) (fun ρ e=>by
     have:=Option.some.inj e;subst this
     exact ⟨fx6.st,⟨by omega,by omega⟩,fun q a b=>Zem fx6.hb (by omega) (by omega) (by omega)⟩)).mono fun r O' n' hE => ?_
    obtain ⟨L',rfl,F4,hres⟩:=hE
    obtain ⟨p1',p2',p3'⟩:=F4.keepB q2 hnb q3
    obtain ⟨hb9,hi9⟩:=hres.b_lt
    simp only [push_cast,seval,Za]
    refine Q8 fun hU9 => ?_
    refine Zb Zc [] ?_
    have hwk:IntKind.i64.wrap (k+1)=k+1:=Vv (by omega)
    simp only [push_cast,seval,Za,hb9,hi9,p2',hwk]
    refine .inl ⟨rfl,(k+1,O',n',L',Jy (Vx false size N) V.1 (V.2+1+k * (W+K)+W) x5.Kids (Y5 τ.1 V.1 (V.2+1+k * (W+K)) x5.Words,τ.2)),⟨⟨by omega,by omega⟩,hres,g3.trans (F6.trans F4),p1'.trans g4,p2',p3',fun ρ e => ?_,?_⟩,by show ((t.Kids.length:Int) - (k+1)).toNat < ((t.Kids.length:Int) - k).toNat;omega,Kc hU9 (Nat.le_trans g3.le (Nat.le_trans F6.le F4.le)) rfl ?_⟩
    ·have t9:=(Un hf V.1 x5.Kids _ _ fx6.st).1 ρ e
     exact fx6.ex t9.1 t9.2
    ·show Vx false size (N+1) t s p σ=(Jy (Vx false size N) V.1 (V.2+1+k * (W+K)+W) x5.Kids (Y5 τ.1 V.1 (V.2+1+k * (W+K)) x5.Words,τ.2)).bind (Zas (Vx false size N) V.1 (W+K) W (V.2+1+(k+1) * (W+K)) (t.Kids.drop (k+1).toNat))
     rw [g8];exact hstep
    simp only [push_cast,seval,Za,hb9,hi9,p2']
   have hex:Vx false size (N+1) t s p σ=τo:=by
    rw [g8]
    cases τo with
    | none=>rfl
    | some τ =>
     have:¬ k < (t.Kids.length:Int):=fun z=>c5 ⟨z,rfl⟩
     rw [List.drop_eq_nil_of_le (by omega)];rfl
   refine Zf ?_
   refine Yr (E':=⟨238,[],[(0,.ref b 0),(200,.val (.bool false))]⟩) (O':=Y) (n0:=m) ?_ ?_
   ·by_cases c2:k < (t.Kids.length:Int)
    ·have d1:decide (k < (t.Kids.length:Int))=true:=decide_eq_true c2
     have d2:Zjw τo=false:=by
      cases h:Zjw τo with
      | true=>exact absurd ⟨c2,h⟩ c5
      | false=>rfl
     rw [d2] at hob
     refine Zb Zc (Zyn []) ?_
     simp only [push_cast,seval,Za,hb,hi,hob,g4,g5,d1]
     refine And.intro rfl (Kc hUY g3.le rfl ?_)
     simp only [push_cast,seval,Za,hb,hi,hob,g4,g5]
    have d1:decide (k < (t.Kids.length:Int))=false:=decide_eq_false c2
    refine Zb Zc (Z2y []) ?_
    simp only [push_cast,seval,Za,hb,hi,hob,g4,g5,d1]
    refine And.intro rfl (Kc hUY g3.le rfl ?_)
    simp only [push_cast,seval,Za,hb,hi,hob,g4,g5]
   refine Zo (t:=false) rfl (fun Vn=>by cases Vn) (fun Vn => ?_)
   refine Q7 ?_
   try simp only [Zh,Ze,↓reduceIte,Nat.reduceEqDiff]
   refine .inr ⟨(fun h=>by cases h),?_⟩
   try simp only [Zh,Ze,↓reduceIte,Nat.reduceEqDiff]
   show Zzj _ _ _ _ .normal _ _ _
   refine ⟨.tup [],Y,m,g3.le,⟨M,rfl,g3,by rw [hex];exact g1⟩,?_⟩
   refine Yz (P:=Tryz.prog) (.inl rfl) hUY [] g3.le ?_
   simp only [push_cast,seval,Za,Tryz.results18]
  have c9:¬ t.Kind=9:=ne_of_beq_false c
  have hkd:2≤t.Kind∧t.Kind≤7:=by omega
  have hbk:∀ k:Nat,b < n+k:=fun k=>by omega
  have hnum:=Ybg hF hkd
  have hput:=Z1k hF hkd
  have hZL:Z=Z3 O n [some ⟨false,29,3,1,(Zn t)⟩]:=by rw [hZ,← K2,Jw hU.fresh]
  rw [hZL]
  have hN0:O n=none:=hU.fresh _ (Nat.le_refl _)
  have hN:∀ k,O (n+k)=none:=fun k=>hU.fresh _ (Nat.le_add_right _ _)
  refine Zk [0,1,2,7,8,18] (Zb Zc [] ?_)
  simp only [push_cast,seval,Za,hb,hi,hN0,hN,hbk]
  refine Zf ?_
  refine Zk [0,1,2,7,8,18,19] (Zb Zc [] ?_)
  simp only [push_cast,seval,Za,hb,hi,hN0,hN,hbk]
  refine Zh5 (E':=(⟨238,[],[(0,.ref b 0),(1,.val (.int .i64 s)),(2,.val (.int .i64 p)),(7,.ref n 0),(8,.val (.int .i64 (t.Kids.length:Int))),(18,.row (n+1) ([]:List Int).length),(19,.val (.int .i64 0))]⟩:Env)) (O':=(Z3 O n [some ⟨false,29,3,1,(Zn t)⟩,some ⟨true,49,1,([]:List Int).length,fl (eI .u64) ([]:List Int)⟩,none])) (n':=(n+3)) ?_ ?_
  ·refine Fit2.trans (E':=(⟨238,[],[(0,.ref b 0),(1,.val (.int .i64 s)),(2,.val (.int .i64 p)),(7,.ref n 0),(8,.val (.int .i64 (t.Kids.length:Int))),(18,.val (.slice none 0 0)),(19,.val (.int .i64 0))]⟩:Env)) (O':=(Z3 O n [some ⟨false,29,3,1,(Zn t)⟩])) (n':=(n+1)) (Fit2.of (Zm hU rfl rfl ?_) (by omega)) ?_
   ·simp only [push_cast,seval,Za,hb0,hi0,hN0,hN,hbk]
   refine Fit2.trans (Zj7 18 49 1 rfl (by omega)) ?_
   simp only [Gn,K2,Zbm,List.set_cons_zero,List.set_cons_succ,List.cons_append,List.nil_append,List.length_cons,List.length_nil,Nat.zero_add,Nat.reduceAdd,Nat.reduceLT,Nat.add_assoc]
   refine Fit2.trans (E':=(⟨238,[],[(0,.ref b 0),(1,.val (.int .i64 s)),(2,.val (.int .i64 p)),(7,.ref n 0),(8,.val (.int .i64 (t.Kids.length:Int))),(18,.row (n+1) ([]:List Int).length),(19,.val (.int .i64 0))]⟩:Env)) (O':=(Z3 O n [some ⟨false,29,3,1,(Zn t)⟩,some ⟨true,49,1,([]:List Int).length,fl (eI .u64) ([]:List Int)⟩])) (n':=(n+2)) (Fit2.of (Zm hU rfl rfl ?_) (by omega)) ?_
   ·simp only [push_cast,seval,Za,hb0,hi0,hN0,hN,hbk]
   refine Zil (k:=2) (k':=3) hU [0,1] [0,1,0] rfl rfl rfl rfl ⟨rfl,rfl⟩ ?_
   simp only [push_cast,seval,Za,hb0,hi0,hN0,hN,hbk]
  refine Xx (E':=⟨238,[],[(0,.ref b 0),(1,.val (.int .i64 s)),(2,.val (.int .i64 p)),(7,.ref n 0),(8,.val (.int .i64 (t.Kids.length:Int))),(18,.row (n+1) (ato t).length)]⟩) (O':=(Z3 O n [some ⟨false,29,3,1,(Zn t)⟩,some ⟨true,49,1,(ato t).length,fl (eI .u64) (ato t)⟩,none])) (n0:=(n+3)) ?_ ?_
  ·refine Qt hnum (fun s0_=>⟨238,[],[(0,.ref b 0),(1,.val (.int .i64 s)),(2,.val (.int .i64 p)),(7,.ref n 0),(8,.val (.int .i64 (t.Kids.length:Int))),(18,.row (n+1) s0_.2.length),(19,.val (.int .i64 s0_.1))]⟩) (fun s0_=>(Z3 O n [some ⟨false,29,3,1,(Zn t)⟩,some ⟨true,49,1,s0_.2.length,fl (eI .u64) s0_.2⟩,none])) (fun z6=>JX 1 n (⟨238,[],[(0,.ref b 0),(1,.val (.int .i64 s)),(2,.val (.int .i64 p)),(7,.ref n 0),(8,.val (.int .i64 (t.Kids.length:Int))),(18,.row (n+1) z6.length)]⟩:Env) (Z3 O n [some ⟨false,29,3,1,(Zn t)⟩,some ⟨true,49,1,z6.length,fl (eI .u64) z6⟩,none]) (n+3)) ?_
   intro s0_ x0_ hs0_
   unfold Z8w at hs0_
   try dsimp only
   refine Zf ?_
   refine Zk [0,1,2,7,8,18,19,31] (Zb Zc [] ?_)
   simp only [push_cast,seval,Za,hb0,hi0,hN0,hN,hbk]
   refine Zo (t:=(decide (s0_.1 < (t.Kids.length:Int)))) rfl (fun c5 => ?_) (fun c5 => ?_)
   ·replace hs0_:=Zw c5 hs0_
    refine Zt ?_
    try simp only [Zh,Ze]
    refine Zf ?_
    refine Yo ?_
    obtain ⟨x2,hx2,ax2,bx2,cx2,hs0_⟩:=bE (f:=Zr) Zdb (fun _=>rfl) (by decide) hs0_
    obtain ⟨x3,hx3,ax3,bx3,cx3,hs0_⟩:=bE (f:=eI .u64) Ug (fun _=>rfl) (by decide) hs0_
    obtain ⟨l4,pl4,ql4,el4,hs0_⟩:=bA (k:=1) rfl hs0_
    have dx2:Zc2 X0 26 (fl Zr t.Kids) (s0_.1.toNat * 3+1)=some (.sl x2.Words.length (fl (eI .u64) x2.Words)):=(Zdw (sz:=3) Uv (fun _=>rfl) (by decide) (by decide) hx2).trans rfl
    refine Zb Zc [] ?_
    simp only [push_cast,Nat.reduceAdd,Nat.reduceSub,Nat.reduceMul,Nat.reduceLeDiff,Nat.reduceLT,Nat.reduceEqDiff,↓reduceIte,reduceCtorEq,Int.reduceBEq,Int.reduceBNe,Nat.reduceBEq,Int.reduceLE,Int.reduceLT,Int.reduceEq,Int.reduceNe,Int.reduceNeg,Nat.reduceDiv,Nat.reduceMod,Nat.reducePow,Za,pl4,ql4,el4,dx2,ax2,bx2,cx2,ax3,bx3,cx3,hb0,hi0,hN0,hN,hbk]
    refine Za8 ⟨238,[],[(0,.ref b 0),(1,.val (.int .i64 s)),(2,.val (.int .i64 p)),(7,.ref n 0),(8,.val (.int .i64 (t.Kids.length:Int))),(18,.row (n+1) l4.length),(19,.val (.int .i64 s0_.1))]⟩ (Z3 O n [some ⟨false,29,3,1,(Zn t)⟩,some ⟨true,49,1,l4.length,fl (eI .u64) l4⟩,none,none]) (Zm hU rfl rfl ?_) ?_
    ·simp only [push_cast,seval,Za,pl4,ql4,el4,hb0,hi0,hN0,hN,hbk]
    refine Zb Zc [] ?_
    simp only [push_cast,seval,Za,hb0,hi0,hN0,hN,hbk]
    have hs0_:=Option.some.inj hs0_;subst hs0_
    refine And.intro rfl (Fit2.of (Zm hU rfl rfl ?_) (by omega))
    simp only [push_cast,seval,Za,hb0,hi0,hN0,hN,hbk]
   replace hs0_:=Zv c5 hs0_
   refine Q7 ?_
   try simp only [Zh,Ze,↓reduceIte,Nat.reduceEqDiff]
   have hs0_:=Option.some.inj hs0_;subst hs0_
   refine And.intro (fun h=>by cases h) (And.intro rfl (Fit2.of (Zm hU rfl rfl ?_) (by omega)))
   simp only [push_cast,seval,Za,hb0,hi0,hN0,hN,hbk]
  try simp only [Zh,Ze,↓reduceIte,Nat.reduceEqDiff]
  refine Za8 ⟨238,[],[(0,.ref b 0),(1,.val (.int .i64 s)),(2,.val (.int .i64 p)),(7,.ref n 0),(8,.val (.int .i64 (t.Kids.length:Int))),(18,.sl (ato t).length (fl (eI .u64) (ato t)))]⟩ (Z3 O n [some ⟨false,29,3,1,(Zn t)⟩,none,none]) (Zm hU rfl rfl ?_) ?_
  ·simp only [push_cast,seval,Za,hb0,hi0,hN0,hN,hbk]
  have hL3:Z3 O n [some ⟨false,29,3,1,(Zn t)⟩,none,none]=Z:=by
   rw [hZL]
   funext u
   unfold Z3
   by_cases hu:u < n
   ·rw [if_pos hu,if_pos hu]
   rw [if_neg hu,if_neg hu]
   match hx:u - n with
   | 0=>rfl
   | 1=>rfl
   | 2=>rfl
   | q+3=>rfl
  rw [hL3]
  clear hL3 hZL
  have hn1:n < n+3:=by omega
  have hb:b < n+3:=by omega
  have hi:i < n+3:=by omega
  have A1:BA size most Z (n+3) b i j L σ:=⟨A0.a.frame (fun _ _=>rfl) (by omega),hb,A0.ht,A0.ho⟩
  have F1:Fr (isB b) i j O n L Z (n+3) L:=⟨by omega,F0.off,F0.ter⟩
  have ew:Gd t=((Zaq (t.Kind - 2) (ato t)).length:Int):=by unfold Gd;rw [if_neg c1,if_neg c9,if_neg c8]
  have w0:IntKind.i64.wrap (t.Kind - 2)=t.Kind - 2:=Vv (by omega)
  refine Zk [0,1,2,7,8,20] (Zb Zc [] ?_)
  simp only [push_cast,seval,Za,hi,hb,hn1,hZn,w0]
  refine (Zpf hput).then ?_
  simp only [push_cast,seval,Za,hi,hb,hn1,hZn]
  obtain ⟨V,hV⟩:∃ V,V=Zdi (Ys size σ (Gd t)):=⟨_,rfl⟩
  have hVb:=Zo0 (k:=Gd t) hs
  have hfx:=Zsy (k:=Gd t) hs
  have hm1:∀ τ,(Ys size σ (Gd t)).map (fun r=>r.2.2)=some τ→Yl τ.1 s p 1=true:=fun τ e=>(hfx τ e).2 _ _ _ hsb
  have hfx1:∀ τ,(Ys size σ (Gd t)).map (fun r=>r.2.2)=some τ→Fx size most V (Gd t) τ:=fun τ e=>by rw [hV];exact (hfx τ e).1
  obtain ⟨O5,n5,L5,g5,A5,F5⟩:=Zok (Gd t) A1 hs
  rw [← hV] at hVb g5
  obtain ⟨q1,q2,q3⟩:=F5.keepB hn1 hnb hnt
  have ek:pkd t=1:=by unfold pkd;rw [if_neg c1]
  have eu:pup t=t.Kind - 2+8 * (t.Kids.length:Int):=by unfold pup;rw [if_neg c1,if_neg c9]
  have g5':=g5
  rw [ew] at g5'
  refine Zk [0,1,2,7,8,20,22,23] (Zb Zc [] ?_)
  simp only [push_cast,seval,Za,hi,hb,hn1,hZn]
  refine g5'.then ?_
  have hZn:=q1.trans hZn
  have hn1:=q2
  have hnt:=q3
  have F9:=F1.trans F5
  obtain ⟨hb,hi⟩:=A5.b_lt
  simp only [push_cast,seval,Za,hi,hb,hn1,hZn]
  refine Q8 fun hU5 => ?_
  have u1:IntKind.u64.wrap (t.Kind - 2)=t.Kind - 2:=Kr (by omega) (by omega)
  have u2:IntKind.u64.wrap (t.Kids.length:Int)=(t.Kids.length:Int):=Kr (by omega) (by omega)
  have u3:IntKind.u64.wrap (8 * (t.Kids.length:Int))=8 * (t.Kids.length:Int):=Kr (by omega) (by omega)
  have u4:IntKind.u64.wrap (t.Kind - 2+8 * (t.Kids.length:Int))=pup t:=by rw [eu];exact Kr (by omega) (by omega)
  have hwl:(Zaq (t.Kind - 2) (ato t)).length≤200000:=by
   have q:=(Z5d (c:=t.Kind - 2) (ns:=ato t) (by omega) (by rw [Zj8];omega) (fun n hn=>by
    obtain ⟨k,hk,rfl⟩:=List.mem_map.1 hn
    obtain ⟨w,hw,q0,_,q1⟩:=Zoj hF hkd k hk
    rw [hw];exact ⟨q0,q1⟩)).2
   have:=Yb1 (c:=t.Kind - 2) (by omega) (ato t).length
   rw [q,Zj8] at *
   omega
  refine Zk [0,20,22,23] (Zb Zc [] ?_)
  simp only [push_cast,seval,Za,hi,hb,hn1,hZn,u1,u2,u3,u4,w0]
  refine (Zpu A5 (s:=s) (p:=p) (k:=1) (u:=pup t) (q:=V.2) (hm:=V.1) (fun τ e=>⟨(hfx1 τ e).st,⟨by decide,by decide,by omega,by have a3:=(hfx1 τ e).v3;have a0:=(hfx1 τ e).k0;omega⟩,hm1 τ e,⟨(hfx1 τ e).v2,by have a3:=(hfx1 τ e).v3;have a0:=(hfx1 τ e).k0;omega⟩,⟨(hfx1 τ e).v1,by omega⟩⟩)).mono fun r O6 n6 hE => ?_
  obtain ⟨L6,rfl,F6,A6⟩:=hE
  have F9:=F9.trans F6
  obtain ⟨q1,q2,q3⟩:=F6.keepB hn1 hnb hnt
  have hZn:=q1.trans hZn
  have hn1:=q2
  have hnt:=q3
  obtain ⟨hb,hi⟩:=A6.b_lt
  simp only [push_cast,seval,Za,hi,hb,hn1,hZn]
  refine Q8 fun hU6 => ?_
  have hfx2:=Zxq (s:=s) (p:=p) (k:=1) (u:=pup t) (hm:=V.1) (q:=V.2) hfx1
  refine Z3o ?_
  refine Zb Zc [] ?_
  simp only [push_cast,seval,Za,hi,hb,hn1,hZn]
  refine (Z23 A6 (s:=V.1) (p:=V.2) (ws:=Zaq (t.Kind - 2) (ato t)) (by omega) (fun τ e=>⟨⟨(hfx2 τ e).v2,by have:=(hfx2 τ e).v3;omega⟩,.inl (Zem (hfx2 τ e).hb (Int.le_refl _) (by omega) (by omega))⟩)).mono fun r O6 n6 hE => ?_
  obtain ⟨L6,rfl,F6,A6⟩:=hE
  have F9:=F9.trans F6
  simp only [push_cast,seval,Za,hi,hb,hn1,hZn]
  intro hU9
  have hEQ:((Ys size σ (Gd t)).bind fun r=>(K5 size r.2.2 s p (pkd t) (pup t) r.1 r.2.1).bind fun τ=>inT false (Vx false size N) r.1 r.2.1 t τ)=((((Ys size σ (Gd t)).map fun r=>r.2.2).bind fun σ=>K5 size σ s p 1 (pup t) V.1 V.2).map fun σ=>((Y5 σ.1 V.1 V.2 (Zaq (t.Kind - 2) (ato t)),σ.2):SG)):=by
   rw [hV,ek]
   cases Ys size σ (Gd t) with
   | none=>rfl
   | some r =>
    show (K5 size r.2.2 s p 1 (pup t) r.1 r.2.1).bind _=_
    simp only [Option.map_some,Option.bind_some,Zdi]
    cases K5 size r.2.2 s p 1 (pup t) r.1 r.2.1 with
    | none=>rfl
    | some ρ=>show inT false (Vx false size N) r.1 r.2.1 t ρ=_;unfold inT;rw [if_neg c1,if_neg c8,if_neg c9];rfl
  try simp only [Zh,Ze,↓reduceIte,Nat.reduceEqDiff]
  show Zzj _ _ _ _ .normal _ _ _
  refine ⟨.tup [],O6,n6,F9.le,⟨L6,rfl,F9,?_⟩,?_⟩
  ·have e9:Vx false size (N+1) t s p σ=_:=eqL
   rw [e9,hEQ]
   exact A6
  refine Yz (P:=Tryz.prog) (.inl rfl) hU9 [] F9.le ?_
  simp only [push_cast,seval,Za,Tryz.results18]
theorem GCalls.less {P:Program} {f:FuncId} {gs gs':List G} {O O2:Objs} {n:Nat} {K:G→Objs→Nat→Prop} (h:GCalls P f gs' O2 n K) (hL:LessO O O2 n) (hw:wkl O O2 n gs gs'):GCalls P f gs O n K:=by
 refine ⟨h.1,fun w m vs hM hr=>(h.2 w m vs (hM.weak hL) (J9 hM hL _ _ hr _ hw)).mono fun e w' ⟨v,g,O',n',m',h1,h2,h3,h4,h5⟩=>⟨v,g,O',n',m',h1,h2,⟨h3.os,h3.tape,h3.output,h3.size,h3.more,fun b hb ho=>h3.keep b hb (fun q=>ho (hL.owns q)),fun i hi o' ho' => ?_⟩,h4,h5⟩⟩
 obtain ⟨o2,k1,k2,k3,k4⟩:=h3.stay i hi o' ho'
 obtain ⟨o,a1,a2,_,_,a5,_⟩:=hL.obj i o2 k1
 exact ⟨o,a1,k2.trans a2,by omega,fun e=>k4 (by rcases e with e | e;exact .inl (by omega);exact .inr e)⟩
def szB (size:Int):Int:=if size < 1 then 1 else size
def Q6 (most:Int):Int:=if 131072 < (if most < 0 then 0 else most) then 131072 else (if most < 0 then 0 else most)
theorem Z0t (most:Int):0≤Q6 most∧Q6 most≤131072:=by
 have key:∀ k:Int,0≤k→0≤(if 131072 < k then 131072 else k)∧(if 131072 < k then 131072 else k)≤131072:=fun k h=>by
  by_cases c:131072 < k
  ·rw [if_pos c];exact ⟨by omega,Int.le_refl _⟩
  rw [if_neg c];exact ⟨h,Int.not_lt.1 c⟩
 refine key _ ?_
 by_cases c:most < 0
 ·rw [if_pos c];exact Int.le_refl _
 rw [if_neg c];exact Int.not_lt.1 c
noncomputable def Zf6 (o:Bool) (t:Tr) (size most:Int):Option SG :=
 if t.Kind=10∨rt t 64=false then none else (Ys (szB size) ([],Q6 most) 1).bind fun r=>Vx o (szB size) (SizeOf.sizeOf (nrm t)+1) (nrm t) r.1 r.2.1 r.2.2
theorem Zqz (size most:Int):St (szB size) (Q6 most) ([],Q6 most):=⟨Nat.zero_le _,(Z0t most).1,Int.le_refl _,(Z0t most).2,fun x hx=>by cases hx⟩
theorem Z7t {t:Tr} (hb:Bd t) (hp:pt t≤200000) (size most:Int):Zf6 true t size most=Zf6 false t size most:=by
 unfold Zf6
 by_cases c:t.Kind=10∨rt t 64=false
 ·rw [if_pos c,if_pos c]
 rw [if_neg c,if_neg c]
 have hr:rt t 64=true:=by
  cases h:rt t 64 with
  | true=>rfl
  | false=>exact absurd (.inr h) c
 have hF:Fine (nrm t) 64:=Fine.nrm ⟨hb,hr,hp⟩
 cases hg:Ys (szB size) ([],Q6 most) 1 with
 | none=>rw [Option.bind_none,Option.bind_none]
 | some r =>
  have g:=Qj (Zqz size most) hg
  rw [Option.bind_some,Option.bind_some]
  exact Ztw (szB size) (Q6 most) _ (nrm t) 64 (Nat.lt_succ_self _) hF (by rw [Kv];exact fun h=>c (.inl h)) r.1 r.2.1 r.2.2 g.2.2.2.2.1 (Uk g.2.2.2.2.2.2.1 (Int.le_refl _) (by omega))
theorem Yd5 {o:Bool} {t:Tr} {size most:Int} {τ:SG} (h:Zf6 o t size most=some τ):St (szB size) (Q6 most) τ:=by
 unfold Zf6 at h
 split at h
 ·cases h
 cases hg:Ys (szB size) ([],Q6 most) 1 with
 | none=>rw [hg] at h;cases h
 | some r =>
  rw [hg] at h
  have g:=Qj (Zqz size most) hg
  exact ((Zbg o (szB size) (Q6 most) _ _ _ _ _ g.2.2.2.2.1).1 τ h).1
attribute [local push_cast] Z7p Vh
def Yir (res:Option SG) (O:Objs) (n:Nat) (size most:Int) (r:G) (O':Objs) (n':Nat):Prop :=
 n≤n'∧(∀ u,u < n→O' u=O u)∧match res with
  | none=>r = .tup [.val (.slice none 0 0),.val (.bool false)]
  | some τ=>∃ i j L,r = .tup [.row j L.length,.val (.bool true)]∧AR (szB size) (Q6 most) O' n' i j L τ∧∀ u,ter i j L u→n≤u
theorem Yez (size most:Int):Zae size most=some ⟨[],szB size,Q6 most,0⟩:=by
 unfold Zae szB Q6
 by_cases c1:size < 1
 ·rw [decide_eq_true c1,cond_true,Option.bind_some,if_pos c1]
  by_cases c2:most < 0
  ·rw [decide_eq_true c2,cond_true,Option.bind_some,if_pos c2,decide_eq_false (by omega),cond_false,Option.bind_some,if_neg (by omega)]
  rw [decide_eq_false c2,cond_false,Option.bind_some,if_neg c2]
  by_cases c3:131072 < most
  ·rw [decide_eq_true c3,cond_true,Option.bind_some,if_pos c3]
  rw [decide_eq_false c3,cond_false,Option.bind_some,if_neg c3]
 rw [decide_eq_false c1,cond_false,Option.bind_some,if_neg c1]
 by_cases c2:most < 0
 ·rw [decide_eq_true c2,cond_true,Option.bind_some,if_pos c2,decide_eq_false (by omega),cond_false,Option.bind_some,if_neg (by omega)]
 rw [decide_eq_false c2,cond_false,Option.bind_some,if_neg c2]
 by_cases c3:131072 < most
 ·rw [decide_eq_true c3,cond_true,Option.bind_some,if_pos c3]
 rw [decide_eq_false c3,cond_false,Option.bind_some,if_neg c3]
theorem Yer {O:Objs} {n:Nat} (hU:Und O n) (size most:Int):GTo Tryz.prog 16 [.val (.int .i64 size),.val (.int .i64 most)] O n (.ref n 0) (Z3 O n [some (HR (n+1) (szB size) (Q6 most) 0 0),some ⟨true,26,1,0,[]⟩]) (n+2) :=
 Zpg (r:=⟨[],szB size,Q6 most,0⟩) (Yez size most)
theorem Z6f {O:Objs} {n:Nat} {t:Tr} (hbd:Bd t) (hpt:pt t≤200000) (size most:Int) :
  GCalls Tryz.prog 8 [.agg (Zn t),.val (.int .i64 size),.val (.int .i64 most)] O n (Yir (Zf6 false t size most) O n size most):=by
 have hright:Za2 t 64=some (rt t 64):=Z6m hbd (d:=64) (Nat.le_refl _)
 have hnorm:=Z9w hbd
 refine Ztj Zc Tryz.call8 Tryz.func8 rfl (Nat.le_of_ble_eq_true rfl) fun hU => ?_
 have hN0:O n=none:=hU.fresh _ (Nat.le_refl _)
 have hN:∀ k,O (n+k)=none:=fun k=>hU.fresh _ (Nat.le_add_right _ _)
 show Go.Proofs.YtmjjjfamipncdaaGreat.W _ _ _ _ ⟨51,[],[(0,.agg (Zn t)),(1,.val (.int .i64 size)),(2,.val (.int .i64 most))]⟩ (Z3 O n []) _
 rw [Jw hU.fresh]
 refine Zk [1,2,3] (Zb Zc [] ?_)
 simp only [push_cast,seval,Za,hN0,hN]
 obtain ⟨Z,hZ⟩:∃ Z,Z=O.upd n (some ⟨false,29,3,1,Zn t⟩):=⟨_,rfl⟩
 have hZn:Z n=some ⟨false,29,3,1,Zn t⟩:=by rw [hZ];exact Yj _ _ _
 have hZo:∀ u,u < n→Z u=O u:=fun u hu=>by rw [hZ];exact Yb _ _ (by omega)
 have hZ2:=hZ
 simp only [push_cast] at hZ2 hZn
 rw [← hZ2]
 have hn1:n < n+1:=Nat.lt_succ_self n
 refine Q8 fun hUZ => ?_
 refine Zf ?_
 by_cases cc:t.Kind=10∨rt t 64=false
 ·have eB:Zf6 false t size most=none:=by unfold Zf6;rw [if_pos cc]
  refine Yr (E':=⟨51,[],[(1,.val (.int .i64 size)),(2,.val (.int .i64 most)),(3,.ref n 0),(18,.val (.bool true))]⟩) (O':=Z) (n0:=n+1) ?_ ?_
  ·cases hr:rt t 64 with
   | false =>
    rw [hr] at hright
    refine Zb Zc (Z8z []) ?_
    simp only [push_cast,seval,Za,hn1,hZn]
    refine (Zap hright).then ?_
    simp only [push_cast,seval,Za,hn1,hZn]
    refine And.intro rfl (Kc hUZ (Nat.le_succ n) rfl ?_)
    simp only [push_cast,seval,Za,hn1,hZn]
   | true =>
    rw [hr] at hright
    have Gi:t.Kind=10:=cc.resolve_right (by rw [hr];decide)
    have d1:(t.Kind == 10)=true:=Z7r Gi
    refine Zb Zc (Z58 []) ?_
    simp only [push_cast,seval,Za,hn1,hZn,d1]
    refine (Zap hright).then ?_
    simp only [push_cast,seval,Za,hn1,hZn,d1]
    refine And.intro rfl (Kc hUZ (Nat.le_succ n) rfl ?_)
    simp only [push_cast,seval,Za,hn1,hZn]
  refine Zo (t:=true) rfl (fun Vn => ?_) (fun Vn=>by cases Vn)
  refine Zk [6,7] (Zb Zc [] ?_)
  simp only [push_cast,seval,Za]
  refine Zu ?_
  try simp only [Zh,Ze]
  refine ⟨.tup [.val (.slice none 0 0),.val (.bool false)],Z,n+1,Nat.le_succ n,⟨Nat.le_succ n,hZo,by rw [eB]⟩,?_⟩
  refine Yz (P:=Tryz.prog) (.inr rfl) hUZ [.val (.slice none 0 0),.val (.bool false)] (Nat.le_succ n) ?_
  simp only [push_cast,seval,Za,Tryz.results8]
 have Gi:¬ t.Kind=10:=fun h=>cc (.inl h)
 have hr:rt t 64=true:=by
  cases h:rt t 64 with
  | true=>rfl
  | false=>exact absurd (.inr h) cc
 have eB:Zf6 false t size most=(Ys (szB size) ([],Q6 most) 1).bind fun r=>Vx false (szB size) (SizeOf.sizeOf (nrm t)+1) (nrm t) r.1 r.2.1 r.2.2:=by unfold Zf6;rw [if_neg cc]
 have hF:Fine (nrm t) 64:=Fine.nrm ⟨hbd,hr,hpt⟩
 have d1:(t.Kind == 10)=false:=Um Gi
 rw [hr] at hright
 have hs0:=Zqz size most
 refine Zk [1,2,3,18] (Zb Zc (Z58 []) ?_)
 simp only [push_cast,seval,Za,hn1,hZn,d1]
 refine (Zap hright).then ?_
 simp only [push_cast,seval,Za,hn1,hZn,d1]
 refine Zo (t:=false) rfl (fun Vn=>by cases Vn) (fun Vn => ?_)
 refine Zt ?_
 try simp only [Zh,Ze]
 obtain ⟨X,hX⟩:∃ X,X=Z3 Z (n+1) [some (HR (n+1+1) (szB size) (Q6 most) 0 0),some ⟨true,26,1,0,[]⟩]:=⟨_,rfl⟩
 have hXpx:PX (HR (n+1+1) (szB size) (Q6 most) 0) X (n+3) (n+1) (n+1+1) []:=by rw [hX];exact Yes hUZ _
 have hXo:∀ u,u < n+1→X u=Z u:=fun u hu=>by rw [hX];exact Vh _ hu
 have hXU:X (n+3)=none:=by rw [hX,show n+3=n+1+2 by omega,Uz];rfl
 refine Zk [3,8] (Zb Zc [] ?_)
 simp only [push_cast,seval,Za,hn1,hZn]
 have gn:=Yer hUZ size most
 rw [← hX] at gn
 refine GTo.then gn ?_
 simp only [push_cast,seval,Za,hn1,hZn]
 obtain ⟨Y,hY⟩:∃ Y,Y=X.upd (n+3) (some ⟨false,63,2,1,[.ref (n+1) 0,.val (.bool true)]⟩):=⟨_,rfl⟩
 rw [← hY]
 have A4:BA (szB size) (Q6 most) Y (n+4) (n+3) (n+1) (n+1+1) [] ([],Q6 most):=⟨⟨by rw [show Q6 most - ((([]:List (List Int)),Q6 most):SG).2=0 from Int.sub_self _];exact hXpx.frame (fun u hu=>by rw [hY];exact Yb _ _ (by rcases Zpx hu with h | h <;> omega)) (by omega),rfl⟩,by omega,fun q=>by rcases Zpx q with h | h <;> omega,by rw [hY];exact Yj _ _ _⟩
 have hYn:Y n=some ⟨false,29,3,1,Zn t⟩:=by rw [hY,Yb _ _ (by omega),hXo _ (by omega)];exact hZn
 have hYo:∀ u,u < n→Y u=O u:=fun u hu=>by rw [hY,Yb _ _ (by omega),hXo _ (by omega)];exact hZo u hu
 simp only [push_cast] at hYn
 have ht0:¬ ter (n+1) (n+1+1) [] n:=fun q=>by rcases Zpx q with h | h <;> omega
 have htu:∀ u,u < n→¬ ter (n+1) (n+1+1) [] u:=fun u hu q=>by rcases Zpx q with h | h <;> omega
 have hn1:n < n+4:=by omega
 have hn3:n+3 < n+4:=by omega
 have hnb:n≠n+3:=by omega
 obtain ⟨O5,n5,L5,g5,A5,F5⟩:=Zok 1 A4 hs0
 refine Zk [3,8,9,10] (Zb Zc [] ?_)
 simp only [push_cast,seval,Za,hn1,hn3,hYn]
 refine g5.then ?_
 obtain ⟨q1,q2,q3⟩:=F5.keepB hn1 hnb ht0
 have hYn:=q1.trans hYn
 obtain ⟨hb,hi⟩:=A5.b_lt
 have hob:=A5.ho
 simp only [push_cast,seval,Za,hi,hb,q2,hYn]
 refine Q8 fun hU5 => ?_
 refine Yd1 ⟨51,[],[(8,.ref (n+3) 0)]⟩ (fun Z m=>∃ M,BO (szB size) (Q6 most) Z m (n+3) (n+1) (n+1+1) M (Zf6 false t size most)∧Fr (isB (n+3)) (n+1) (n+1+1) Y (n+4) [] Z m M) ?_ ?_
 ·cases hg:Ys (szB size) ([],Q6 most) 1 with
  | none =>
   rw [hg,Option.bind_none] at eB
   rw [hg] at A5 hob
   simp only [Option.map_none,Zjw] at A5 hob
   refine Zk [3,8,32] (Zb Zc [] ?_)
   simp only [push_cast,seval,Za,hi,hb,q2,hob]
   refine Zo (t:=false) rfl (fun Vn=>by cases Vn) (fun Vn => ?_)
   refine Zt ?_
   refine .inl ⟨rfl,O5,n5,⟨L5,by rw [eB];exact A5,F5⟩,Kc hU5 (Nat.le_trans (by omega) F5.le) rfl ?_⟩
   simp only [push_cast,seval,Za,hi,hb]
  | some r =>
   rw [hg,Option.bind_some] at eB
   rw [hg] at A5 hob
   simp only [Option.map_some,Zjw] at A5 hob
   have g:=Qj hs0 hg
   refine Zk [3,8,9,10,32] (Zb Zc [] ?_)
   simp only [push_cast,seval,Za,hi,hb,q2,hob]
   refine Zo (t:=true) rfl (fun Vn => ?_) (fun Vn=>by cases Vn)
   refine Zb Zc [] ?_
   simp only [push_cast,seval,Za,hi,hb,q2,hYn,Zdi]
   refine (Zn6 hnorm).then ?_
   simp only [push_cast,seval,Za,hi,hb,q2,hYn]
   refine (@Zs5 (szB size) (Q6 most) (SizeOf.sizeOf (nrm t)+1) (nrm t) 64 (Nat.lt_succ_self _) hF (by rw [Kv];exact Gi) O5 n5 (n+3) (n+1) (n+1+1) L5 r.2.2 r.1 r.2.1 A5 g.2.2.2.2.1 (Uk g.2.2.2.2.2.2.1 (Int.le_refl _) (by omega))).mono fun r' O9 n9 hE => ?_
   obtain ⟨L9,rfl,F9,A9⟩:=hE
   obtain ⟨hb,hi⟩:=A9.b_lt
   simp only [push_cast,seval,Za,hi,hb]
   refine .inl ⟨rfl,O9,n9,⟨L9,by rw [eB];exact A9,F5.trans F9⟩,Fit2.und fun hU9=>Kc hU9 (Nat.le_trans (by omega) (Nat.le_trans F5.le F9.le)) rfl ?_⟩
   simp only [push_cast,seval,Za,hi,hb]
 intro Z m hI
 obtain ⟨M,A9,F9⟩:=hI
 obtain ⟨hb,hi⟩:=A9.b_lt
 have hob:=A9.ho
 have m9:n≤m:=Nat.le_trans (by omega) F9.le
 have ho9:∀ u,u < n→Z u=O u:=fun u hu=>(F9.off u (by omega) (by show ¬ u=n+3;omega) (htu u hu)).trans (hYo u hu)
 refine Q8 fun hU9 => ?_
 refine Zf ?_
 cases ec:Zf6 false t size most with
 | none =>
  rw [ec] at A9 hob
  simp only [Zjw] at hob
  refine Zk [8,43] (Zb Zc [] ?_)
  simp only [push_cast,seval,Za,hi,hb,hob]
  refine Zo (t:=true) rfl (fun Vn => ?_) (fun Vn=>by cases Vn)
  refine Zk [6,7] (Zb Zc [] ?_)
  simp only [push_cast,seval,Za]
  refine Zu ?_
  try simp only [Zh,Ze]
  refine ⟨.tup [.val (.slice none 0 0),.val (.bool false)],Z,m,m9,⟨m9,ho9,rfl⟩,?_⟩
  refine Yz (P:=Tryz.prog) (.inr rfl) hU9 [.val (.slice none 0 0),.val (.bool false)] m9 ?_
  simp only [push_cast,seval,Za,Tryz.results8]
 | some τ =>
  rw [ec] at A9 hob
  simp only [Zjw] at hob
  have A9':BA (szB size) (Q6 most) Z m (n+3) (n+1) (n+1+1) M τ:=A9
  have hoi:=A9'.a.1.ho
  have hj:=A9'.a.1.hj
  unfold HR at hoi
  refine Zk [8,43] (Zb Zc [] ?_)
  simp only [push_cast,seval,Za,hi,hb,hob]
  refine Zo (t:=false) rfl (fun Vn=>by cases Vn) (fun Vn => ?_)
  refine Zt ?_
  try simp only [Zh,Ze]
  have hlr:∀ (Z:Objs) i k,Kf Z (.row i k)=True:=fun Z i k=>by simp [Kf]
  refine Zk [6,7] (Zb Zc [] ?_)
  simp only [push_cast,seval,Za,hi,hb,hob,hoi,hj,hlr]
  refine Zu ?_
  try simp only [Zh,Ze]
  refine ⟨.tup [.row (n+1+1) M.length,.val (.bool true)],Z,m,m9,⟨m9,ho9,n+1,n+1+1,M,rfl,A9'.a,fun u hu=>by rcases F9.ter u hu with q | q;rcases Zpx q with h | h <;> omega;omega⟩,?_⟩
  refine Yz (P:=Tryz.prog) (.inr rfl) hU9 [.row (n+1+1) M.length,.val (.bool true)] m9 ?_
  simp only [push_cast,seval,Za,hi,hj,hlr,Tryz.results8]
attribute [local push_cast] Zpy
def R6 (v:Int):Prop:=0≤v∧v < 18446744073709551616
def UWs (A:List (List Int)):Prop:=∀ x∈A,∀ w∈x,R6 w
theorem UWs.put {A:List (List Int)} (h:UWs A) (s p:Int) {v:Int} (hv:R6 v):UWs (Xi A s p v):=by
 unfold Xi
 split
 ·rename_i c
  obtain ⟨z,hz,_⟩:=Qw c
  intro x hx w hw
  rcases List.mem_or_eq_of_mem_set hx with q | q
  ·exact h x q w hw
  rw [q,hz] at hw
  rcases List.mem_or_eq_of_mem_set hw with r | r
  ·exact h z (Xe hz) w r
  rw [r];exact hv
 exact h
theorem UWs.lays (s:Int):∀ (ws:List Int) {A:List (List Int)} (p:Int),UWs A→(∀ w∈ws,R6 w)→UWs (Y5 A s p ws)
 | [],_,_,h,_=>h
 | w::ws,A,p,h,hw=>UWs.lays s ws (p+1) (h.put s p (hw w List.mem_cons_self)) (fun x hx=>hw x (List.mem_cons_of_mem _ hx))
theorem R6.zero:R6 0:=⟨by decide,by decide⟩
theorem Yaq {x:List Int} (h:∀ w∈x,R6 w) (k:Int):∀ w∈zl x k,R6 w:=fun w hw=>by
 unfold zl at hw
 rcases List.mem_append.1 hw with q | q
 ·exact h w q
 rw [(List.mem_replicate.1 q).2];exact R6.zero
theorem UWs.give {size k:Int} {σ:SG} {r:Int×Int×SG} (h:UWs σ.1) (e:Ys size σ k=some r):UWs r.2.2.1:=by
 obtain ⟨h1,rfl⟩:=Zoz e
 by_cases c:k < 0∨σ.2 < k
 ·have e:Xf σ.1 size σ.2 k=(0,0,false,σ.1,σ.2):=if_pos c
  rw [e];exact h
 by_cases c2:σ.1.length=0∨σ.1.length < 16∧¬ k≤IntKind.i64.wrap (size - ((Q3 σ.1).length:Int))
 ·have e:Xf σ.1 size σ.2 k=((σ.1.length:Int),0,true,σ.1++[zl [] k],IntKind.i64.wrap (σ.2 - k)):=(if_neg c).trans (if_pos c2)
  rw [e]
  intro x hx
  rcases List.mem_append.1 hx with q | q
  ·exact h x q
  rw [List.mem_singleton.1 q];exact Yaq (fun w hw=>by cases hw) k
 have e:Xf σ.1 size σ.2 k=((σ.1.length:Int) - 1,((Q3 σ.1).length:Int),true,σ.1.set (σ.1.length - 1) (zl (Q3 σ.1) k),IntKind.i64.wrap (σ.2 - k)):=(if_neg c).trans (if_neg c2)
 rw [e]
 intro x hx
 rcases List.mem_or_eq_of_mem_set hx with q | q
 ·exact h x q
 rw [q];exact Yaq (h _ (Xe (Zdz (by omega)))) k
theorem UWs.inU {size s:Int} {σ:SG} {r:Int×SG} (h:UWs σ.1) (e:inO size σ s=some r):UWs r.2.1:=by
 unfold inO at e
 cases hx:Z5 σ.1 s with
 | none=>rw [hx] at e;cases e
 | some x =>
  rw [hx] at e
  dsimp only at e
  split at e
  ·have:=Option.some.inj e;subst this
   intro y hy
   rcases List.mem_or_eq_of_mem_set hy with q | q
   ·exact h y q
   rw [q];exact Yaq (h _ (Xe hx)) 1
  cases e
theorem Yc0 {a b k u:Int} (k0:0≤k) (k1:k≤1) (u0:0≤u) (u1:u < 4294967296):R6 (nw a b k u):=by unfold R6 nw;omega
theorem Z74 {h b d:Int} (h0:0≤h) (h1:h≤1000) (b0:0≤b) (b1:b≤131072) (d0:0≤d) (d1:d≤1):R6 (fw h b d):=by unfold R6 fw;omega
theorem Z92 {size most:Int} {σ:SG} (hs:St size most σ) {s p k:Int} (h:Yl σ.1 s p k=true):0≤s∧s≤16:=by
 obtain ⟨y,hy,_⟩:=Qw h
 have:=Q4 hy
 have:=hs.h16
 omega
theorem UWs.aim {size most:Int} {σ τ:SG} {s p k u hm b:Int} (hs:St size most σ) (h:UWs σ.1) (kb:0≤k∧k≤1∧0≤u∧u < 4294967296) (hb:0≤b∧b≤131072) (hh:0≤hm∧hm≤16) (e:K5 size σ s p k u hm b=some τ):UWs τ.1:=by
 unfold K5 at e
 split at e
 ·have:=Option.some.inj e;subst this
  exact h.put _ _ ⟨by decide,by decide⟩
 split at e
 ·have:=Option.some.inj e;subst this
  exact h.put _ _ (Yc0 kb.1 kb.2.1 kb.2.2.1 kb.2.2.2)
 cases hi:inO size σ hm with
 | some r =>
  rw [hi] at e
  have:=Option.some.inj e;subst this
  have o:=Zts hs hi
  exact ((h.inU hi).put _ _ (Yc0 kb.1 kb.2.1 kb.2.2.1 kb.2.2.2)).put _ _ (Z74 hh.1 (by omega) o.1 (by omega) (by decide) (by decide))
 | none =>
  rw [hi] at e
  dsimp only at e
  cases hg:Ys size σ 2 with
  | none=>rw [hg] at e;cases e
  | some r =>
   rw [hg] at e
   have:=Option.some.inj e;subst this
   have o:=Qj hs hg
   have sl:=Z92 o.2.2.2.2.1 o.2.2.2.2.2.2.1
   refine (UWs.lays r.1 _ r.2.1 (h.give hg) (fun w hw => ?_)).put _ _ (Z74 sl.1 (by omega) o.2.2.1 (by omega) (by decide) (by decide))
   simp only [List.mem_cons,List.not_mem_nil,or_false] at hw
   rcases hw with rfl | rfl
   ·exact Z74 hh.1 (by omega) hb.1 hb.2 (by decide) (by decide)
   unfold R6;omega
def Z65 (size most:Int) (f:Tr→Int→Int→SG→Option SG) (t:Tr):Prop:=∀ s p σ τ,St size most σ→Yl σ.1 s p 1=true→UWs σ.1→f t s p σ=some τ→UWs τ.1
theorem Zyf {size most:Int} {f:Tr→Int→Int→SG→Option SG} (hf:Gp size most f) (s:Int):∀ (ts:List Tr) (p:Int) (σ τ:SG),(∀ t∈ts,Z65 size most f t)→St size most σ→(∀ q,p≤q→q < p+(ts.length:Int)→Yl σ.1 s q 1=true)→UWs σ.1→Jy f s p ts σ=some τ→UWs τ.1
 | [],_,_,_,_,_,_,h,e=>by have:=Option.some.inj e;subst this;exact h
 | t::ts,p,σ,τ,hk,hs,hb,h,e=>by
  rw [List.length_cons] at hb
  rw [Jy] at e
  cases h1:f t s p σ with
  | none=>rw [h1] at e;cases e
  | some ρ =>
   rw [h1] at e
   obtain ⟨a,b⟩:=(hf t s p σ hs).1 ρ h1
   exact Zyf hf s ts (p+1) ρ τ (fun x hx=>hk x (List.mem_cons_of_mem _ hx)) a (fun q x y=>b _ _ _ (hb q (by omega) (by omega))) (hk t List.mem_cons_self s p σ ρ hs (hb p (Int.le_refl _) (by omega)) h h1) e
theorem Z3v {size most:Int} {f:Tr→Int→Int→SG→Option SG} (hf:Gp size most f) (s m w:Int) (hm:0≤m) (hw:0≤w):∀ (us:List Tr) (p:Int) (σ τ:SG),(∀ u∈us,(∀ x∈u.Words,R6 x)∧w+(u.Kids.length:Int)≤m∧∀ t∈u.Kids,Z65 size most f t)→St size most σ→(∀ q,p≤q→q < p+(us.length:Int) * m→Yl σ.1 s q 1=true)→UWs σ.1→Zas f s m w p us σ=some τ→UWs τ.1
 | [],_,_,_,_,_,_,h,e=>by have:=Option.some.inj e;subst this;exact h
 | u::us,p,σ,τ,hk,hs,hb,h,e=>by
  obtain ⟨k1,k2,k3⟩:=hk u List.mem_cons_self
  rw [List.length_cons,Int.natCast_add,Int.add_mul] at hb
  simp only [Int.natCast_one,Int.one_mul] at hb
  have hn:0≤(us.length:Int) * m:=Int.mul_nonneg (by omega) hm
  have hs1:=St.lays s u.Words hs p
  rw [Zas] at e
  cases h1:Jy f s (p+w) u.Kids (Y5 σ.1 s p u.Words,σ.2) with
  | none=>rw [h1] at e;cases e
  | some ρ =>
   rw [h1] at e
   have u1:=Zyf hf s u.Kids (p+w) _ ρ k3 hs1 (fun q x y=>Ex.lays _ _ _ _ _ _ _ (hb q (by omega) (by omega))) (UWs.lays s u.Words p h k1) h1
   obtain ⟨a,b⟩:=(Un hf s u.Kids (p+w) _ hs1).1 ρ h1
   exact Z3v hf s m w hm hw us (p+m) ρ τ (fun x hx=>hk x (List.mem_cons_of_mem _ hx)) a (fun q x y=>b _ _ _ (Ex.lays _ _ _ _ _ _ _ (hb q (by omega) (by omega)))) u1 e
theorem Zyg (size most:Int):∀ (n:Nat) (t:Tr) (d:Nat),SizeOf.sizeOf t < n→Fine t d→¬ t.Kind=10→Z65 size most (Vx false size n) t
 | 0,_,_,h,_,_=>by omega
 | n+1,t,d,h,hF,h10=>fun s p σ τ hs hb hu e=>by
  simp only [Vx] at e
  have hf:=Zbg false size most n
  by_cases c0:t.Kind=0
  ·rw [if_pos c0] at e
   have:=Option.some.inj e;subst this
   exact hu
  rw [if_neg c0] at e
  have kd:=Zvz hF c0 h10
  have ik:=(Uu hF.rt c0 h10).2.2.2
  obtain ⟨P,_,_,hP⟩:=Z95 hF c0 h10
  cases hg:Ys size σ (Gd t) with
  | none=>rw [hg] at e;cases e
  | some r =>
   rw [hg,Option.bind_some] at e
   have g:=Qj hs hg
   have sl:=Z92 g.2.2.2.2.1 g.2.2.2.2.2.2.1
   cases ha:K5 size r.2.2 s p (pkd t) (pup t) r.1 r.2.1 with
   | none=>rw [ha] at e;cases e
   | some ρ =>
    rw [ha,Option.bind_some] at e
    have a:=Zh6 g.2.2.2.2.1 ha
    have u1:=UWs.aim g.2.2.2.2.1 (hu.give hg) (hP (by omega)).bd ⟨g.2.2.1,by omega⟩ sl ha
    have hB:=a.2.1 _ _ _ g.2.2.2.2.2.2.1
    have one:∀ q,r.2.1≤q→q < r.2.1+Gd t→Yl ρ.1 r.1 q 1=true:=fun q x y=>Uk hB x y
    unfold inT at e
    by_cases c1:t.Kind=1
    ·rw [if_pos c1] at e
     rw [Ze0 c1] at one
     exact Zyf hf r.1 t.Kids _ _ τ (fun x hx=>Zyg size most n x (d - 1) (by have:=Xc hx;omega) (hF.kid hx) (Vl (by omega) (ik x hx).2).1) (St.lays r.1 _ a.1 _) (fun q x y=>Ex.lays _ _ _ _ _ _ _ (one q (by omega) (by omega))) (UWs.lays r.1 t.Words _ u1 hF.bd.u) e
    by_cases c8:t.Kind=8
    ·rw [if_neg c1,if_pos c8] at e
     rw [Zjt c8] at one
     exact Zyf hf r.1 t.Kids _ _ τ (fun x hx=>Zyg size most n x (d - 1) (by have:=Xc hx;omega) (hF.kid hx) (Vl (by omega) (ik x hx).2).1) a.1 one u1 e
    by_cases c9:t.Kind=9
    ·obtain ⟨a1,a2,w0,w1,k0,k1,ak⟩:=Zth hF c9
     rw [if_neg c1,if_neg c8,if_pos c9,if_neg (by decide)] at e
     rw [Zez c9] at one
     have hs1:St size most (Xi ρ.1 r.1 r.2.1 (Zbl t),ρ.2):=a.1.put _ _ _
     refine Z3v hf r.1 _ _ (by omega) w0 t.Kids (r.2.1+1) _ τ (fun u hu'=>⟨(hF.bd.all u hu').u,by have:=ak u hu';omega,fun x hx => ?_⟩) hs1 (fun q x y=>Ex.put _ _ _ ρ _ _ _ (one q (by omega) (by omega))) (u1.put _ _ ?_) e
     ·have k1':=(Vl (by omega) (ik u hu').2).2 c9
      have j4:=(Uu (hF.kid hu').rt (by omega) (by omega)).2.2.2 x hx
      exact Zyg size most n x (d - 1 - 1) (by have:=Xc hu';have:=Xc hx;omega) ((hF.kid hu').kid hx) (Vl (by omega) j4.2).1
     have:=Zii t
     have:=hF.pt
     unfold R6 Zbl
     omega
    rw [if_neg c1,if_neg c8,if_neg c9] at e
    have:=Option.some.inj e;subst this
    refine UWs.lays r.1 _ _ u1 (Ybt (by omega) (fun n hn => ?_))
    obtain ⟨k,hk,rfl⟩:=List.mem_map.1 hn
    obtain ⟨w,hw,q0,_,q1⟩:=Zoj hF (by omega) k hk
    rw [hw];exact ⟨q0,q1⟩
theorem Yd6 {t:Tr} (hbd:Bd t) (hp:pt t≤200000) {size most:Int} {τ:SG} (h:Zf6 false t size most=some τ):WS τ.1:=by
 have hst:=Yd5 h
 refine ⟨by have:=hst.h16;omega,fun x hx=>by have:=hst.hB x hx;have:=hst.hl0;omega,?_⟩
 unfold Zf6 at h
 by_cases c:t.Kind=10∨rt t 64=false
 ·rw [if_pos c] at h;cases h
 rw [if_neg c] at h
 have hr:rt t 64=true:=by
  cases h:rt t 64 with
  | true=>rfl
  | false=>exact absurd (.inr h) c
 have hF:Fine (nrm t) 64:=Fine.nrm ⟨hbd,hr,hp⟩
 cases hg:Ys (szB size) ([],Q6 most) 1 with
 | none=>rw [hg] at h;cases h
 | some r =>
  rw [hg,Option.bind_some] at h
  have g:=Qj (Zqz size most) hg
  exact Zyg (szB size) (Q6 most) _ (nrm t) 64 (Nat.lt_succ_self _) hF (by rw [Kv];exact fun h=>c (.inl h)) r.1 r.2.1 r.2.2 τ g.2.2.2.2.1 (Uk g.2.2.2.2.2.2.1 (Int.le_refl _) (by omega)) (UWs.give (σ:=([],Q6 most)) (fun x hx=>by cases hx) hg) h
open Classical in
/-- the reference's Build as a plain function -/
noncomputable def U2 (a0:Zj) (a1:Int) (a2:Int):Option ((List (List Int))×Bool) :=
 if Bd a0∧pt a0≤200000 then some (match Zf6 false a0 a1 a2 with | none=>([],false) | some τ=>(τ.1,true)) else none
theorem GCalls.freeze {P:Program} {f:FuncId} {gs:List G} {O:Objs} {n:Nat} {r3:G} {K:G→Objs→Nat→Prop} (h:GCalls P f gs O n K) (hk:Und O n→∀ r O' n',K r O' n'→n≤n'∧LessO O' O n∧wk O' O n r r3):GTo P f gs O n r3 O n:=by
 refine ⟨h.1,fun w m vs hM hr=>(h.2 w m vs hM hr).mono fun e w' ⟨v,g,O',n',m',h1,h2,h3,h4,h5⟩ => ?_⟩
 obtain ⟨hn,hL,hw⟩:=hk ⟨hM.fresh,fun i o hi=>by obtain ⟨vs,hv,_⟩:=hM.obj i o hi;exact Jv _ _ hv⟩ g O' n' h5
 exact ⟨v,r3,O,n,m',h1,h2.weak hL,h3.weak hL (Nat.le_refl _),Zh2 h2 hL _ v h4 _ hw,rfl,rfl,rfl⟩
theorem Z1x {Z O:Objs} {n:Nat}:∀ L:List NR,(∀ x∈L,Z x.1=some ⟨true,49,1,x.2.length,fl (eI .u64) x.2⟩∧O x.1=none)→wkl Z O n (fl eN L) (fl (eL (eI .u64)) (L.map (·.2)))
 | [],_=>by simp [fl,wkl]
 | x::L,h=>by
  show wkl Z O n (.row x.1 x.2.length::fl eN L) (.sl x.2.length (fl (eI .u64) x.2)::fl (eL (eI .u64)) (L.map (·.2)))
  unfold wkl
  refine ⟨_,_,rfl,?_,Z1x L fun y hy=>h y (List.mem_cons_of_mem _ hy)⟩
  unfold wk
  exact ⟨rfl,(h x List.mem_cons_self).2,_,(h x List.mem_cons_self).1,rfl,rfl,Za7 _⟩
theorem Zm6 {a0:Zj} {a1:Int} {a2:Int} {r:((List (List Int))×Bool)} {O:Objs} {n:Nat} (h:U2 a0 a1 a2=some r):GTo Tryz.prog 8 [.agg (Zn a0),.val (.int .i64 a1),.val (.int .i64 a2)] O n (.tup [.sl r.1.length (fl (eL (eI .u64)) r.1),.val (.bool r.2)]) O n:=by
 unfold U2 at h
 split at h
 ·rename_i c
  have:=Option.some.inj h;subst this
  refine GCalls.freeze (Z6f c.1 c.2 a1 a2) fun hU r O' n' hE => ?_
  obtain ⟨m9,ho9,hres⟩:=hE
  have hL:LessO O' O n:=Zyh hU fun t o ht=>by
   rcases Nat.lt_or_ge t n with q | q
   ·rw [ho9 t q];exact ht
   rw [hU.fresh t q] at ht;cases ht
  refine ⟨m9,hL,?_⟩
  cases e:Zf6 false a0 a1 a2 with
  | none =>
   rw [e] at hres
   subst hres
   simp only [push_cast,seval,Za]
  | some τ =>
   rw [e] at hres
   obtain ⟨i,j,L,rfl,A,ht⟩:=hres
   obtain ⟨A1,A2⟩:=A
   show wk O' O n (.tup [.row j L.length,.val (.bool true)]) (.tup [.sl τ.1.length (fl (eL (eI .u64)) τ.1),.val (.bool true)])
   unfold wk
   refine ⟨_,rfl,?_⟩
   unfold wkl
   refine ⟨_,_,rfl,?_,by simp only [push_cast,seval,Za]⟩
   unfold wk
   rw [← A2]
   exact ⟨by rw [List.length_map],hU.fresh j (ht j (.inr (.inl rfl))),_,A1.hoj,rfl,rfl,Z1x L fun x hx=>⟨A1.hL x hx,hU.fresh _ (ht _ (.inr (.inr ⟨x,hx,rfl⟩)))⟩⟩
 cases h
end Go.Proofs.YtmjjjfamipncdaaGreat
