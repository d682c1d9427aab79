/- Part J: rows of rows, copied; each theorem bears its own conditions. -/
import Derived.Test.YtaddaloondpnkaaUA
namespace Go.Proofs.Ytaddaloondpnkaa
open Go.RowKit
set_option linter.unusedVariables false
set_option linter.unusedSimpArgs false
set_option maxRecDepth 100000
set_option maxHeartbeats 4000000
attribute [local push_cast] Zf Z3 Zhy Zhx Ziw Ziv Zj Zh Zel Zai Zah onW Yp Gl Us Zkz Zh2 Zcx Zc1 Zcw Zc0 Zfm Zfi Zcz Zfl Zfk Zfj Zcy Zfg Zaw evS wok Xj Op.operands Call.operands gop onK onP atK List.all_cons List.all_nil Bool.and_true Bool.true_and Bool.and_self Value.oneCell' List.take_zero List.take_succ_cons List.take_nil List.drop_zero List.drop_succ_cons List.drop_nil List.append_nil Nat.add_zero Nat.zero_add Jr Z8 ev Xi Zg1 Zhr Zhq Zhw Zhu Zhv Zhs Zht Zhp Zmq Zov Zql Zdr Vw Zdv Ut Zci Zbl Ul Uq Zag Zac Uo Zaf Zae Zad Un Zaa Um Up Vp Zab Zg3 Zaj Jw Zc6 Jx Zek Zdq Zpr Gd bHi bMx Vy Zei Zrc Zdp Zgd G0 Q6 Zmf Zrh Zc5 Gu Zrj Vv Ztw Zeq Zeu Zep Zet Zii Zie Zic Zck Zer Zih Zig Zif Zes Zh8 Zib Zh7 Zia Zm2 Zmz Zmy Zh9 Zm0 Zm1 Zid Zem Zkr Ze8 Zau Zat pop TK.isAgg Zip Zit Zio Zis Ze2 Znc Zm8 Zir Znb Zna Zm9 Ziq Zm7 G.under G.unders List.getD_cons_zero List.getD_cons_succ List.set_cons_zero List.set_cons_succ List.map_cons List.map_nil List.toList_toArray Array.toList_append Option.toArray_none Option.toArray_some Array.toList_map Option.map_some Option.map_none Option.bind_some Option.bind_none List.getElem?_cons_zero List.getElem?_cons_succ List.getElem?_nil List.nil_append List.cons_append List.replicate_succ List.replicate_zero List.length_cons List.length_nil and_true true_and and_false false_and Bool.true_eq_false Bool.false_eq_true forall_const false_implies implies_true IntKind.bits if_true if_false ite_true ite_false eq_self true_implies false_or or_false or_true true_or not_true_eq_false not_false_eq_true decide_true decide_false decide_eq_true_eq decide_eq_false_iff_not beq_iff_eq bne_iff_ne ne_eq Bool.not_eq_true Bool.not_eq_false beq_eq_false_iff_ne bne_eq_false_iff_eq beq_self_eq_true bne_self_eq_false Option.some.injEq exists_eq_left' exists_eq_left ge_iff_le gt_iff_lt decide_not Bool.not_true Bool.not_false imp_self Zms cond_true cond_false Zx7 Zx6 Bool.not_not Bool.and_false Bool.false_and Bool.or_true Bool.true_or Bool.or_false Bool.false_or Vc Zc3 Gy Ui Jk X8 Option.join_some Nat.add_assoc Int.toNat_natCast eI eB eS eL Ke Za3 Uu Zh1 Zhz Zh0 Zt2 Zvr Zba U1 Zi2 Zi0 Zi1 Zqq Zkq Zon Zhg Zmb Vf Zkw List.length_append G.agg.injEq G.row.injEq G.ref.injEq G.val.injEq G.sl.injEq G.tup.injEq Value.int.injEq Value.bool.injEq Value.string.injEq List.cons.injEq exists_and_left exists_const List.flatten_cons List.flatten_nil Int.le_refl Nat.le_refl Gb Yy Jt Bool.not_eq_true' Bool.not_eq_false' Zkj Zby Zoe Zoi Zod Zoh Ztt Zto List.size_toArray Zmc Zlm G.ren G.rens Zpb Zbu Zi5 Zhn Zho Zfh Zoj Zdt G.fn.injEq Zdn Zf9 Zki Ztp Zf8 Zog Zts Ztr Ztq Zof Zm3 Zrp Option.join_none Zs Jn undef Zgh Arr.len Arr.put_eq Za9 Zco Zaq U0 Ziz Zix Ziy onB Zt1 Zme Ya Zcf Zd5 Zd6 Zd7 Zd8 Zd9 Zea Zcm Zcr Zcp Zas U2 Zcq Ze7 Ze6 Ze5 Ze4 Zt3 Zvq Zqp Zp1 Kc Zqm Zk9 Zcs Zar Zlk Zlj Zwm Zr4 Zln Zdo Zgc Gi Zdl Zeb Zec Zed Zee Zb1 Zb2 Zb3 Zb4 Zb5 Zb6 Zb7 Zb8 Zb9 Zca Zcb Zcc Zcd Zbi prT Zga Zyz Zn3 Zt7 Zn4 Zy0 Zn5 Zy1 Zn6 Zy2 Zn7 Zy3 Zn8 Zy4 Zn9 Zy5 Zoa Zsg Zjc Zsh Zjd Zsi Zje Zsj Zjf Zsk Zjg Zsl Zjh Zsm Zji Zsn Zjj Zso Zjk Zsp Zjl Zsq Zjm Zdx Zbw Zsr Zgm Zss Zjn Vo Zjo Zst Zgn Zsu Zjp Zsv Zjq Zsw Zjr Zsx Zjs Zsy Zjt Zsz Zju Zs0 Zjv Zs1 Zjw U8 Zjx Zs2 Zjy Zs3 Zjz Zs4 Zj0 Zs5 Zj1 Zs6 Zj2 Zs7 Zj3 Zs8 Zj4 Zs9 Zj5 Zta Zj6 Ztb Zj7 Ztc Zj8 Ztd Zj9 Zte Zka Ztf Zkb Ztg Zkc Zth Zkd Zti Zke Ztj Zkf Ztk Zkg Zni Zfn Znj Zfo Znk Zfp Znl Zfq Znm Zfr Znn Zfs Zno Zft Znp Zfu Znq Zfv Znr Zfw Zns Zfx Znt Zfy Znu Zfz Znv Zf0 Znw Zf1 Znx Zf2 Zny Zf3 Znz Zf4 Zn0 Zf5 Zn1 Zf6 Zn2 Zf7 Zo Gc Zaz Zal Zap Za2 Ga U6 U4 Jj K2 K1 Kx Kz K3 J8 J6 J5 K0 Xk X0 Xz Xw Xx X1 Xp Xo Xn Xy Zg Ys Qy Qx Qr Qu Q0 Qk Qj Qi Qv Za0 Zay Zak Zao Za1 U9 U5 U3 Zax Ur Jg
section
variable {P:Program} {T:Ql} {O:Objs} {n ba:Nat} {E:Env} {Q:GQ} {x y:Code}
theorem Z24 (s i k:Nat) (o:GObj) (ho:O i=some o) (hrow:o.row=true) (hok:k=o.n) (hi:i < ba) (hs:Xi E.l s = .row i k) (hk:s < E.n)
  (h:∀ A c,(A=none→k=0)→W P ba x (Zj (fun E1 O1 n1=>Xi E1.l s = .val (.slice A k c)∧s < E1.n∧W P ba y Q ⟨E1.n,E1.keep,(s,.row i k)::E1.l⟩ O1 n1) Q) ⟨E.n,E.keep,(s,.val (.slice A k c))::E.l⟩ O n):W P ba (.seq x y) Q E O n:=fun hb w m a hM hE=>by
 have hlt:s < a.tmps.size:=by rw [hE.size];exact hk
 have hv:=hE.at_ s _ (Array.getElem?_eq_getElem hlt)
 rw [hs] at hv
 have hv':=hv
 simp only [G.rep] at hv
 obtain ⟨hin,⟨A,c,e⟩,hoo⟩:=hv
 have hA:A=none→k=0:=fun h0=>by
  obtain ⟨vs,_,hl⟩:=hM.obj i o ho
  rw [if_pos hrow] at hl
  have hm:=(hoo o ho).2 hok hrow
  rw [hm,e,h0] at hl
  rcases hl.2 with ⟨_,h1⟩ | ⟨g,cap,cur,h1,_⟩
  ·omega
  cases h1
 have hvb:(G.row i k).rep w O m ba a.tmps[s]:=by
  simp only [G.rep]
  exact ⟨hi,⟨A,c,e⟩,hoo⟩
 have hput:∀ (E:Env) (O:Objs) (m:Hands) (n:Nat) (w:World) (a:Act) (g:G),Holds w O m n E a→s < E.n→(∀ v,a.tmps[s]? = some v→g.rep w O m n v)→Holds w O m n ⟨E.n,E.keep,(s,g)::E.l⟩ a:=fun E O m n w a g hE hs hg=>by
  refine ⟨hE.size,fun t v hv => ?_,fun t ht => ?_,hE.defers⟩
  ·simp only [Xi]
   split
   ·rename_i e;subst e;exact hg v hv
   exact hE.at_ t v hv
  simp only [Xi]
  split
  ·rename_i e;subst e;simp only at ht;omega
  exact hE.out t ht
 refine wp_seq (wp_mono (h A c hA hb w m a hM (hput E O m n w a _ hE hk fun v hv=>by
  rw [Array.getElem?_eq_getElem hlt] at hv;injection hv with hv;subst hv;simp only [G.rep];exact e)) fun e' a' w' ⟨E2,O2,n2,m2,h1,h2,h3,h4⟩ => ?_)
 cases e' with
 | normal =>
  obtain ⟨g1,g2,g3⟩:=h1
  refine g3.then h2 (hput E2 O2 m2 n2 w' a' _ h3 g2 fun v hv => ?_) h4
  have hq:=h3.at_ s v hv
  rw [g1] at hq
  simp only [G.rep] at hq
  rw [hq,← e]
  exact G.rep_ext h4 _ _ hvb
 | exit id=>exact ⟨E2,O2,n2,m2,h1,h2,h3,h4⟩
 | goto l=>exact ⟨E2,O2,n2,m2,h1,h2,h3,h4⟩
 | ret=>exact ⟨E2,O2,n2,m2,h1,h2,h3,h4⟩
 | panic ch=>exact ⟨E2,O2,n2,m2,h1,h2,h3,h4⟩
 | outgrown=>exact ⟨E2,O2,n2,m2,h1,h2,h3,h4⟩
end
theorem Z0o {r:List Int} {O:Objs} {n i:Nat} (hi:i < n) (ho:O i=some ⟨true,58,1,r.length,fl (eI .u64) r⟩) (h1:r.length * 8≤140737488355328):GTo Try.prog 64 [.row i r.length] O n (.row n r.length) (Zu O n [some ⟨true,58,1,r.length,fl (eI .u64) r⟩]) (n+1):=by
 have h2:r.length≤140737488355328:=by omega
 refine Yt Zd Try.call64 Try.func64 rfl (Nat.le_of_ble_eq_true rfl) (by omega) fun hU => ?_
 have hN0:O n=none:=hU.fresh _ (Nat.le_refl _)
 have hN:∀ k,O (n+k)=none:=fun k=>hU.fresh _ (Nat.le_add_right _ _)
 have hoL:∀ l,Zu O n l i=some ⟨true,58,1,r.length,fl (eI .u64) r⟩:=fun l=>(Yy l hi).trans ho
 have hk0:∀ k,i < n+k:=fun k=>by omega
 show W _ _ _ _ ⟨8,[],[(0,.row i r.length)]⟩ (Zu O n []) _
 refine Zl [0] (Zb Zd [] ?_)
 simp only [push_cast,seval,↓reduceIte,Za,hN0,hN]
 refine Z24 0 i r.length _ (hoL _) rfl rfl hi rfl (Nat.le_of_ble_eq_true rfl) fun A c hA => ?_
 refine Zl [0,4] (Zb Zd [] ?_)
 simp only [push_cast,seval,↓reduceIte,Za,hN0,hN]
 cases A with
 | none =>
  obtain rfl:r=[]:=List.eq_nil_of_length_eq_zero (hA rfl)
  refine Zq (t:=true) rfl (fun _ => ?_) (fun hc=>by cases hc)
  refine Zl [2] (Zb Zd [] ?_)
  simp only [push_cast,seval,↓reduceIte,Za,hN0,hN]
  refine Zy ?_
  try simp only [Zj,Zh]
  refine Zom (k:=1) (L3:=[some ⟨true,58,1,0,[]⟩]) (E2:=⟨8,[],[(2,.row n 0),(2,.val (.slice none 0 0))]⟩) (n3:=(n+1)) (.inr rfl) hU rfl [.row n 0] ?_ ?_
  ·have ha:=Zlt (ba:=n) (E:=⟨8,[],[(2,.val (.slice none 0 0))]⟩) (O:=(Zu O n [])) (n:=n) 2 58 1 rfl (by omega)
   simp only [X8] at ha
   exact ha
  simp only [push_cast,seval,↓reduceIte,Za,Try.results64,hN0,hN]
 | some A =>
  refine Zq (t:=false) rfl (fun hc=>by cases hc) (fun _ => ?_)
  refine Z0 ?_
  try simp only [Zj,Zh]
  refine And.intro rfl (And.intro (Nat.le_of_ble_eq_true rfl) ?_)
  refine Zk ?_
  refine Zb Zd [] ?_
  simp only [push_cast,seval,↓reduceIte,Za,h1,h2,hN0,hN,hoL,hi,hk0]
  refine Zy ?_
  try simp only [Zj,Zh]
  refine Zwk (.inr rfl) hU rfl [.row n r.length] (by omega) ?_
  simp only [push_cast,seval,↓reduceIte,Za,Try.results64,hN0,hN]
theorem Zx8 {r:List Int} {O:Objs} {n i:Nat} (hi:i < n) (ho:O i=some ⟨true,58,1,r.length,fl (eI .u64) r⟩) (h1:r.length * 8≤140737488355328):GTo Try.prog 64 [.row i r.length] O n (.sl r.length (fl (eI .u64) r)) O n:=by
 refine GTo.freeze (Z0o hi ho h1) fun hU => ?_
 have hN0:O n=none:=hU.fresh _ (Nat.le_refl _)
 have hN:∀ k,O (n+k)=none:=fun k=>hU.fresh _ (Nat.le_add_right _ _)
 simp only [push_cast,seval,↓reduceIte,Za,hN0,hN]
abbrev MR:=Option Nat×List Int
def eM1 (x:MR):G:=match x.1 with
 | none => .sl x.2.length (fl (eI .u64) x.2)
 | some v => .row v x.2.length
def eM (x:MR):List G:=[eM1 x]
theorem Vi (xs:List MR):(fl eM xs).length=xs.length * 1:=Qq (f:=eM) (k:=1) (fun _=>rfl) xs
theorem Z32 (x:MR):(eM1 x).one=true:=by unfold eM1;cases x.1 <;> simp [G.one]
theorem Vl (xs:List MR):(fl eM xs).all G.one=true:=Uj (fun x=>by simp [eM,Z32]) xs
theorem Zwh {L:List MR} {r:List (List Int)} {O:Objs} {n j:Nat} (hj:j < n) (ho:O j=some ⟨true,22,1,L.length,fl eM L⟩) (hm:∀ x∈L,∀ v,x.1=some v→v < n∧O v=some ⟨true,58,1,x.2.length,fl (eI .u64) x.2⟩) (h:V7 (L.map (·.2))=some r):GTo Try.prog 33 [.row j L.length] O n (.row n r.length) (Zu O n [some ⟨true,22,1,r.length,fl (eL (eI .u64)) r⟩]) (n+1):=by
 unfold V7 at h
 refine Yt Zd Try.call33 Try.func33 rfl (Nat.le_of_ble_eq_true rfl) (by omega) fun hU => ?_
 have hN0:O n=none:=hU.fresh _ (Nat.le_refl _)
 have hN:∀ k,O (n+k)=none:=fun k=>hU.fresh _ (Nat.le_add_right _ _)
 have hoL:∀ l,Zu O n l j=some ⟨true,22,1,L.length,fl eM L⟩:=fun l=>(Yy l hj).trans ho
 have hk0:∀ k,j < n+k:=fun k=>by omega
 have hla:(L.map (·.2)).length=L.length:=List.length_map _
 rw [hla] at h
 show W _ _ _ _ ⟨23,[],[(0,.row j L.length)]⟩ (Zu O n []) _
 refine Zl [0] (Zb Zd [] ?_)
 simp only [push_cast,seval,↓reduceIte,Za,hN0,hN,hoL,hj,hk0,Vi,Vl]
 refine Zk ?_
 obtain ⟨l2,al2,bl2,cl2,el2,h⟩:=bM2 (c:=24) rfl h
 have nl2:Int.toNat (L.length:Int)=List.length l2:=by rw [el2,List.length_replicate]
 have fl2:∀ O O' n,Kt O O' n (List.replicate (List.length l2) [G.val (.slice none 0 0)]).flatten (fl (eL (eI .u64)) l2)=True:=fun O O' n=>by rw [← nl2,el2];exact eq_true (Zxv _ _)
 clear el2
 refine Zb Zd [] ?_
 simp only [push_cast,seval,↓reduceIte,Za,al2,bl2,cl2,fl2,nl2,hN0,hN,hoL,hj,hk0,Vi,Vl]
 refine Zgb ⟨23,[],[(0,.row j L.length),(3,.row n l2.length)]⟩ (Zu O n [some ⟨true,22,1,l2.length,fl (eL (eI .u64)) l2⟩]) (Zp hU rfl rfl ?_) ?_
 ·simp only [push_cast,seval,↓reduceIte,Za,al2,bl2,cl2,fl2,nl2,hN0,hN,hoL,hj,hk0,Vi,Vl]
 refine Zk ?_
 refine Zl [3,9,10,11] (Zb Zd [] ?_)
 simp only [push_cast,seval,↓reduceIte,Za,hN0,hN,hoL,hj,hk0,Vi,Vl]
 refine Zm [3,9,10,11] [true] ?_
 simp only [push_cast,seval,↓reduceIte]
 obtain ⟨z9,hz9,h⟩:=bC h
 refine X9 (E':=⟨23,[],[(3,.row n z9.length)]⟩) (O':=(Zu O n [some ⟨true,22,1,z9.length,fl (eL (eI .u64)) z9⟩])) (n0:=(n+1)) ?_ ?_
 ·refine Jc hz9 (fun s0_=>⟨23,[],[(3,.row n s0_.2.length),(9,.row j L.length),(10,.val (.int .i64 (L.length:Int))),(11,.val (.int .i64 s0_.1))]⟩) (fun s0_=>(Zu O n [some ⟨true,22,1,s0_.2.length,fl (eL (eI .u64)) s0_.2⟩])) (fun z9=>JX 0 n (⟨23,[],[(3,.row n z9.length)]⟩:Env) (Zu O n [some ⟨true,22,1,z9.length,fl (eL (eI .u64)) z9⟩]) (n+1)) ?_
  intro s0_ x0_ hs0_
  unfold Gf at hs0_
  rw [hla] at hs0_
  try dsimp only
  refine Zl [3,9,10,11,12] (Zb Zd [] ?_)
  simp only [push_cast,seval,↓reduceIte,Za,hN0,hN,hoL,hj,hk0,Vi,Vl]
  refine Zk ?_
  refine Zq (t:=(decide (s0_.1 < (L.length:Int)))) rfl (fun c8 => ?_) (fun c8 => ?_)
  ·replace hs0_:=Yd c8 hs0_
   refine Z0 ?_
   try simp only [Zj,Zh]
   refine Zm [3,9,10,11] [true] ?_
   simp only [push_cast,seval,↓reduceIte]
   refine Zk ?_
   refine Yk ?_
   obtain ⟨x4,hx4,hs0_⟩:=bC hs0_
   obtain ⟨q,hq,hq2⟩:∃ q,Zx L s0_.1=some q∧q.2=x4:=by
    unfold Zx at hx4 ⊢
    by_cases h0:0≤s0_.1
    ·rw [if_pos h0] at hx4 ⊢
     rw [List.getElem?_map] at hx4
     cases e:L[s0_.1.toNat]? with
     | none=>rw [e] at hx4;cases hx4
     | some q=>rw [e] at hx4;exact ⟨q,rfl,Option.some.inj hx4⟩
    rw [if_neg h0] at hx4;cases hx4
   have hqm:q∈L:=by
    unfold Zx at hq
    split at hq
    ·exact List.mem_of_getElem? hq
    cases hq
   subst hq2
   obtain ⟨x9,hx9,ax4,bx4,cx4,_⟩:=bE (f:=eM) (K:=fun y=>some y) (r:=q) Zdx (fun _=>rfl) (by decide) (by rw [hq];rfl)
   obtain rfl:x9=q:=Option.some.inj (hx9.symm.trans hq)
   obtain ⟨y5,hy5,hs0_⟩:=bC hs0_
   have hy5b:x9.2.length * 8≤140737488355328:=by have:=Zx4 hy5;simpa using this
   have hy5e:y5=x9.2:=by have:=Zuz hy5;simpa using this
   cases hv:x9.1 with
   | none =>
    have hE:(eM x9)[0]? = some (.sl x9.2.length (fl (eI .u64) x9.2)):=by show some (eM1 x9)=_;unfold eM1;rw [hv]
    refine Zl [3,4,5,9,10,11] (Zb Zd [] ?_)
    simp only [push_cast,Nat.reduceAdd,Nat.reduceSub,Nat.reduceMul,Nat.reduceLeDiff,Nat.reduceLT,Nat.reduceEqDiff,↓reduceIte,reduceCtorEq,Int.reduceBEq,Int.reduceBNe,Nat.reduceBEq,Int.reduceLE,Int.reduceLT,Int.reduceEq,Int.reduceNe,Int.reduceNeg,Nat.reduceDiv,Nat.reduceMod,Nat.reducePow,Za,ax4,bx4,cx4,hE,hN0,hN,hoL,hj,hk0,Vi,Vl]
    obtain ⟨x6,hx6,ax6,bx6,cx6,hs0_⟩:=bE (f:=(eL (eI .u64))) Zdx (fun _=>rfl) (by decide) hs0_
    have gu7:Q8 (fl (eL (eI .u64)) s0_.2) [.sl y5.length (fl (eI .u64) y5)] (Int.toNat s0_.1 * 1)=some (fl (eL (eI .u64)) (Z9 s0_.2 s0_.1 y5)):=Za5 (f:=(eL (eI .u64))) (ti:=⟨.bool,1,0,[],false⟩) (x:=y5) (fun _=>rfl) (Vx hx6)
    refine Zb Zd [] ?_
    simp only [push_cast,Nat.reduceAdd,Nat.reduceSub,Nat.reduceMul,Nat.reduceLeDiff,Nat.reduceLT,Nat.reduceEqDiff,↓reduceIte,reduceCtorEq,Int.reduceBEq,Int.reduceBNe,Nat.reduceBEq,Int.reduceLE,Int.reduceLT,Int.reduceEq,Int.reduceNe,Int.reduceNeg,Nat.reduceDiv,Nat.reduceMod,Nat.reducePow,Za,ax6,bx6,cx6,gu7,hN0,hN,hoL,hj,hk0,Vi,Vl]
    refine (Zcn hy5).then ?_
    simp only [push_cast,Nat.reduceAdd,Nat.reduceSub,Nat.reduceMul,Nat.reduceLeDiff,Nat.reduceLT,Nat.reduceEqDiff,↓reduceIte,reduceCtorEq,Int.reduceBEq,Int.reduceBNe,Nat.reduceBEq,Int.reduceLE,Int.reduceLT,Int.reduceEq,Int.reduceNe,Int.reduceNeg,Nat.reduceDiv,Nat.reduceMod,Nat.reducePow,Za,ax6,bx6,cx6,gu7,hN0,hN,hoL,hj,hk0,Vi,Vl]
    refine Zm [3,9,10,11] [true] ?_
    simp only [push_cast,seval,↓reduceIte]
    refine Zb Zd [] ?_
    simp only [push_cast,seval,↓reduceIte,Za,hN0,hN,hoL,hj,hk0,Vi,Vl]
    have hs0_:=Option.some.inj hs0_;subst hs0_
    refine And.intro rfl (Fit2.of (Zp hU rfl rfl ?_) (by omega))
    simp only [push_cast,seval,↓reduceIte,Za,hN0,hN,hoL,hj,hk0,Vi,Vl]
   | some v =>
    have hE:(eM x9)[0]? = some (.row v x9.2.length):=by show some (eM1 x9)=_;unfold eM1;rw [hv]
    subst hy5e
    refine Zl [3,4,5,9,10,11] (Zb Zd [] ?_)
    simp only [push_cast,Nat.reduceAdd,Nat.reduceSub,Nat.reduceMul,Nat.reduceLeDiff,Nat.reduceLT,Nat.reduceEqDiff,↓reduceIte,reduceCtorEq,Int.reduceBEq,Int.reduceBNe,Nat.reduceBEq,Int.reduceLE,Int.reduceLT,Int.reduceEq,Int.reduceNe,Int.reduceNeg,Nat.reduceDiv,Nat.reduceMod,Nat.reducePow,Za,ax4,bx4,cx4,hE,hN0,hN,hoL,hj,hk0,Vi,Vl]
    obtain ⟨x6,hx6,ax6,bx6,cx6,hs0_⟩:=bE (f:=(eL (eI .u64))) Zdx (fun _=>rfl) (by decide) hs0_
    have gu7:Q8 (fl (eL (eI .u64)) s0_.2) [.sl x9.2.length (fl (eI .u64) x9.2)] (Int.toNat s0_.1 * 1)=some (fl (eL (eI .u64)) (Z9 s0_.2 s0_.1 x9.2)):=Za5 (f:=(eL (eI .u64))) (ti:=⟨.bool,1,0,[],false⟩) (x:=x9.2) (fun _=>rfl) (Vx hx6)
    refine Zb Zd [] ?_
    simp only [push_cast,Nat.reduceAdd,Nat.reduceSub,Nat.reduceMul,Nat.reduceLeDiff,Nat.reduceLT,Nat.reduceEqDiff,↓reduceIte,reduceCtorEq,Int.reduceBEq,Int.reduceBNe,Nat.reduceBEq,Int.reduceLE,Int.reduceLT,Int.reduceEq,Int.reduceNe,Int.reduceNeg,Nat.reduceDiv,Nat.reduceMod,Nat.reducePow,Za,ax6,bx6,cx6,gu7,hN0,hN,hoL,hj,hk0,Vi,Vl]
    refine (Zx8 (i:=v) (by have:=(hm x9 hqm v hv).1;omega) ((Yy _ (hm x9 hqm v hv).1).trans (hm x9 hqm v hv).2) hy5b).then ?_
    simp only [push_cast,Nat.reduceAdd,Nat.reduceSub,Nat.reduceMul,Nat.reduceLeDiff,Nat.reduceLT,Nat.reduceEqDiff,↓reduceIte,reduceCtorEq,Int.reduceBEq,Int.reduceBNe,Nat.reduceBEq,Int.reduceLE,Int.reduceLT,Int.reduceEq,Int.reduceNe,Int.reduceNeg,Nat.reduceDiv,Nat.reduceMod,Nat.reducePow,Za,ax6,bx6,cx6,gu7,hN0,hN,hoL,hj,hk0,Vi,Vl]
    refine Zm [3,9,10,11] [true] ?_
    simp only [push_cast,seval,↓reduceIte]
    refine Zb Zd [] ?_
    simp only [push_cast,seval,↓reduceIte,Za,hN0,hN,hoL,hj,hk0,Vi,Vl]
    have hs0_:=Option.some.inj hs0_;subst hs0_
    refine And.intro rfl (Fit2.of (Zp hU rfl rfl ?_) (by omega))
    simp only [push_cast,seval,↓reduceIte,Za,hN0,hN,hoL,hj,hk0,Vi,Vl]
  replace hs0_:=Yc c8 hs0_
  refine Jf ?_
  try simp only [Zj,Zh,↓reduceIte,Nat.reduceEqDiff]
  have hs0_:=Option.some.inj hs0_;subst hs0_
  refine And.intro (fun h=>by cases h) (And.intro rfl (Fit2.of (Zp hU rfl rfl ?_) (by omega)))
  simp only [push_cast,seval,↓reduceIte,Za,hN0,hN,hoL,hj,hk0,Vi,Vl]
 try simp only [Zj,Zh,↓reduceIte,Nat.reduceEqDiff]
 refine Zm [3] [true] ?_
 simp only [push_cast,seval,↓reduceIte]
 refine Zl [2] (Zb Zd [] ?_)
 simp only [push_cast,seval,↓reduceIte,Za,hN0,hN,hoL,hj,hk0,Vi,Vl]
 refine Zy ?_
 try simp only [Zj,Zh]
 have h:=Option.some.inj h;subst h
 refine Zom (k:=1) (L3:=[some ⟨true,22,1,z9.length,fl (eL (eI .u64)) z9⟩,none]) (E2:=(⟨23,[],[(2,.row n z9.length)]⟩:Env)) (n3:=(n+2)) (.inr rfl) hU rfl [.row n z9.length] ?_ ?_
 ·refine Fit2.trans (E':=(⟨23,[],[(2,.row n z9.length)]⟩:Env)) (O':=(Zu O n [some ⟨true,22,1,z9.length,fl (eL (eI .u64)) z9⟩])) (n':=(n+1)) (Fit2.of (Zp hU rfl rfl ?_) (by omega)) ?_
  ·simp only [push_cast,seval,↓reduceIte,Za,hN0,hN,hoL,hj,hk0,Vi,Vl]
  refine Zl6 (k:=1) (k':=2) hU [0] [0,0] rfl rfl rfl rfl ⟨rfl,rfl⟩ ?_
  simp only [push_cast,seval,↓reduceIte,Za,hN0,hN,hoL,hj,hk0,Vi,Vl]
 simp only [push_cast,seval,↓reduceIte,Za,Try.results33,hN0,hN,hoL,hj,hk0,Vi,Vl]
theorem Zu2 {L:List MR} {r:List (List Int)} {O:Objs} {n j:Nat} (hj:j < n) (ho:O j=some ⟨true,22,1,L.length,fl eM L⟩) (hm:∀ x∈L,∀ v,x.1=some v→v < n∧O v=some ⟨true,58,1,x.2.length,fl (eI .u64) x.2⟩) (h:V7 (L.map (·.2))=some r):GTo Try.prog 33 [.row j L.length] O n (.sl r.length (fl (eL (eI .u64)) r)) O n:=by
 refine GTo.freeze (Zwh hj ho hm h) fun hU => ?_
 have hN0:O n=none:=hU.fresh _ (Nat.le_refl _)
 have hN:∀ k,O (n+k)=none:=fun k=>hU.fresh _ (Nat.le_add_right _ _)
 simp only [push_cast,seval,↓reduceIte,Za,hN0,hN]
theorem Z2o {L:List MR} {r:List (List Int)} {O:Objs} {n i j:Nat} {size left:Int} (hi:i < n) (hv:O i=some ⟨false,80,3,1,[.row j L.length,.val (.int .i64 size),.val (.int .i64 left)]⟩) (hj:j < n) (ho:O j=some ⟨true,22,1,L.length,fl eM L⟩) (hm:∀ x∈L,∀ v,x.1=some v→v < n∧O v=some ⟨true,58,1,x.2.length,fl (eI .u64) x.2⟩) (h:V7 (L.map (·.2))=some r):GTo Try.prog 11 [.ref i 0] O n (.sl r.length (fl (eL (eI .u64)) r)) O n:=by
 refine Yt Zd Try.call11 Try.func11 rfl (Nat.le_of_ble_eq_true rfl) (by omega) fun hU => ?_
 show W _ _ _ _ ⟨10,[],[(0,.ref i 0)]⟩ (Zu O n []) _
 rw [Qd hU.fresh]
 refine Zl [0] (Zb Zd [] ?_)
 simp only [push_cast,seval,↓reduceIte,Za,hi]
 refine Zk ?_
 refine Zl [0,4] (Zb Zd [] ?_)
 simp only [push_cast,seval,↓reduceIte,Za,hi,hv]
 refine Zq (t:=false) rfl (fun hc=>by cases hc) (fun _ => ?_)
 refine Z0 ?_
 try simp only [Zj,Zh]
 refine Zk ?_
 refine Zb Zd [] ?_
 simp only [push_cast,seval,↓reduceIte,Za,hi,hv,hj,ho]
 refine (Zu2 hj ho hm h).then ?_
 simp only [push_cast,seval,↓reduceIte,Za]
 refine Zy ?_
 try simp only [Zj,Zh]
 refine Ye (P:=Try.prog) (.inr rfl) hU [.sl r.length (fl (eL (eI .u64)) r)] (Nat.le_refl _) ?_
 simp only [push_cast,seval,↓reduceIte,Za,Try.results11]
theorem map_none (xs:List (List Int)):(xs.map fun s=>((none:Option Nat),s)).map (·.2)=xs:=by
 rw [List.map_map];exact List.map_id xs
def WO (l:List (List Int)):Prop:=l.length * 24≤140737488351232∧∀ x∈l,x.length * 8≤140737488351232
theorem Z03 {x:List Int} (h:x.length * 8≤140737488351232):Xa x=some x:=by
 unfold Xa
 rw [Zdy (by simp;omega) (by simp;omega),List.nil_append]
theorem Z2x {l:List (List Int)} {i:Nat} {x:List Int} (h:l[i]? = some x) (hi:i < l.length):Z9 (l.take i++List.replicate (l.length - i) ([]:List Int)) (i:Int) x=l.take (i+1)++List.replicate (l.length - (i+1)) []:=by
 unfold Z9
 have hl:(l.take i).length=i:=by rw [List.length_take];omega
 rw [Int.toNat_natCast,List.set_append_right _ _ (by omega),hl,Nat.sub_self,show l.length - i=(l.length - (i+1))+1 by omega,List.replicate_succ,List.set_cons_zero,List.take_add_one,h]
 simp
theorem Z3b {l:List (List Int)} (h:WO l):V7 l=some l:=by
 unfold V7
 rw [Zlb (by omega) (by have:=h.1;omega) (by have:=h.1;omega),Option.bind_some,Int.toNat_natCast]
 have key:=Zi8 (step:=Gf l) (r:=l) (fun s=>∃ i:Nat,s.1=(i:Int)∧i≤l.length∧s.2=l.take i++List.replicate (l.length - i) []) (fun s=>((l.length:Int) - s.1).toNat) (fun s hs=>by
  obtain ⟨i,h1,h2,h3⟩:=hs
  unfold Gf
  by_cases c:s.1 < (l.length:Int)
  ·left
   have hi:i < l.length:=by omega
   obtain ⟨x,hx⟩:∃ x,l[i]? = some x:=⟨_,List.getElem?_eq_getElem hi⟩
   have hg:Zx l s.1=some x:=by rw [h1];exact Yu hx
   have hg2:Zx s.2 s.1=some []:=by
    rw [h1,h3]
    refine Yu ?_
    rw [List.getElem?_append_right (by rw [List.length_take];omega),List.length_take,show i - min i l.length=0 by omega,show l.length - i=(l.length - (i+1))+1 by omega,List.replicate_succ];rfl
   have hb:=h.2 x (List.mem_of_getElem? hx)
   have hw:IntKind.i64.wrap (s.1+1)=s.1+1:=Gp (by have:=h.1;omega)
   refine ⟨(s.1+1,Z9 s.2 s.1 x),?_,⟨i+1,by show s.1+1=_;omega,by omega,?_⟩,by show ((l.length:Int) - (s.1+1)).toNat < _;omega⟩
   ·rw [decide_eq_true c,hg,Option.bind_some,Z03 hb,Option.bind_some,hg2,Option.bind_some,hw];rfl
   show Z9 s.2 s.1 x=_
   rw [h1,h3];exact Z2x hx hi
  right
  have e:i=l.length:=by omega
  rw [decide_eq_false c,h3,e]
  simp) (0,List.replicate l.length []) ⟨0,rfl,Nat.zero_le _,by simp⟩
 rw [key];rfl
theorem Z37 {x:List Int} (h:x.length * 8≤140737488351232):Kk x x=some true:=by
 unfold Kk
 have hn:((x.length:Int) != (x.length:Int))=false:=by simp
 rw [hn]
 have key:=Zi8 (step:=Kl x x) (r := .inr ()) (fun (s:Int)=>0≤s∧s≤(x.length:Int)) (fun s=>((x.length:Int) - s).toNat) (fun s ⟨i0,i1⟩=>by
  unfold Kl
  by_cases c:s < (x.length:Int)
  ·left
   obtain ⟨y,hy⟩:∃ y,Zx x s=some y:=⟨x[s.toNat]'(by omega),by unfold Zx;rw [if_pos i0];exact List.getElem?_eq_getElem _⟩
   have hw:IntKind.i64.wrap (s+1)=s+1:=Gp (by omega)
   have hne:(y != y)=false:=by simp
   exact ⟨s+1,by rw [decide_eq_true c,hy,Option.bind_some,Option.bind_some,hne,hw];rfl,⟨by omega,by omega⟩,by omega⟩
  right;rw [decide_eq_false c];rfl) 0 ⟨by omega,by omega⟩
 rw [key];rfl
theorem Zz1 {l:List (List Int)} (h:WO l):Ue l l=some true:=by
 unfold Ue
 have hn:((l.length:Int) != (l.length:Int))=false:=by simp
 rw [hn]
 have key:=Zi8 (step:=Km l l) (r := .inr ()) (fun (s:Int)=>0≤s∧s≤(l.length:Int)) (fun s=>((l.length:Int) - s).toNat) (fun s ⟨i0,i1⟩=>by
  unfold Km
  by_cases c:s < (l.length:Int)
  ·left
   have hy:Zx l s=some (l[s.toNat]'(by omega)):=by unfold Zx;rw [if_pos i0];exact List.getElem?_eq_getElem _
   have hm:l[s.toNat]'(by omega)∈l:=List.getElem_mem _
   generalize l[s.toNat]'(by omega)=y at hy hm
   have hw:IntKind.i64.wrap (s+1)=s+1:=Gp (by have:=h.1;omega)
   exact ⟨s+1,by rw [decide_eq_true c,hy,Option.bind_some,Option.bind_some,Z37 (h.2 y hm),Option.bind_some,hw];rfl,⟨by omega,by omega⟩,by omega⟩
  right;rw [decide_eq_false c];rfl) 0 ⟨by omega,by omega⟩
 rw [key];rfl
end Go.Proofs.Ytaddaloondpnkaa
