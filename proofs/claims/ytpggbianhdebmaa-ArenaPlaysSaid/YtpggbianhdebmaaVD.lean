/- Part VD: the law; each theorem bears its own conditions. -/
import Derived.Test.YtpggbianhdebmaaVA
namespace Go.Proofs.Ytpggbianhdebmaa
open Go.RowKit
set_option linter.unusedVariables false
set_option linter.unusedSimpArgs false
set_option maxRecDepth 100000
set_option maxHeartbeats 4000000
attribute [local push_cast] Zb2 Zb1 Zcs Zcr Zn Zi Gu Km Kl onW Yi Vg Ka Zel Zdx Uh Ul Ug Uk Zal Zah Uj Zak Zaj Zai Ui Zaf Ky evS wok Xg Op.operands Call.operands gop onK onP atK List.all_cons List.all_nil Bool.and_true Bool.true_and Bool.and_self Value.oneCell' List.take_zero List.take_succ_cons List.take_nil List.drop_zero List.drop_succ_cons List.drop_nil List.append_nil Nat.add_zero Nat.zero_add Qi Zp ev Xo Zhw Zbu Zbt Zbz Zbx Zby Zbv Zbw Zbs Zf7 Zgk Zhz U4 Q8 Gs J3 V6 Vn Jf Jk Kj Kf Ji Ki Kh Kg Jh Kc Jg Jj Qz Ke Zdy Ko Qg Up Qh Zaq U2 Zg8 K5 bHi bMx Q9 Zap Zjl U0 Za4 K7 Xx Zew Zjm Uo Kk Zjn Q7 Zj9 Gx G3 Gw G0 Zch Zcd Zcb V7 Gy Zcg Zcf Zce Gz Zb7 Zca Zb6 Zb9 Ze6 Ze3 Ze2 Zb8 Ze4 Ze5 Zcc Zbo Zex Zad Kx Kw pop TK.isAgg Zcm Zcq Zcl Zcp G7 Zfd Ze9 Zco Zfc Zfb Zfa Zcn Ze8 G.under G.unders List.getD_cons_zero List.getD_cons_succ List.set_cons_zero List.set_cons_succ List.map_cons List.map_nil List.toList_toArray Array.toList_append Option.toArray_none Option.toArray_some Array.toList_map Option.map_some Option.map_none Option.bind_some Option.bind_none List.getElem?_cons_zero List.getElem?_cons_succ List.getElem?_nil List.nil_append List.cons_append List.replicate_succ List.replicate_zero List.length_cons List.length_nil and_true true_and and_false false_and Bool.true_eq_false Bool.false_eq_true forall_const false_implies implies_true IntKind.bits if_true if_false ite_true ite_false eq_self true_implies false_or or_false or_true true_or not_true_eq_false not_false_eq_true decide_true decide_false decide_eq_true_eq decide_eq_false_iff_not beq_iff_eq bne_iff_ne ne_eq Bool.not_eq_true Bool.not_eq_false beq_eq_false_iff_ne bne_eq_false_iff_eq beq_self_eq_true bne_self_eq_false Option.some.injEq exists_eq_left' exists_eq_left ge_iff_le gt_iff_lt decide_not Bool.not_true Bool.not_false imp_self Zey cond_true cond_false Zmh Zmg Bool.not_not Bool.and_false Bool.false_and Bool.or_true Bool.true_or Bool.or_false Bool.false_or Xy Un K4 Jw Q6 Qa Option.join_some Nat.add_assoc Int.toNat_natCast eI eB eS eL Vm K6 Jl Zb5 Zb3 Zb4 Zkl Zkw Vc Jo Zcy Zcw Zcx Zh2 Zeu Zga Zem Zd2 Jz Zec List.length_append G.agg.injEq G.row.injEq G.ref.injEq G.val.injEq G.sl.injEq G.tup.injEq Value.int.injEq Value.bool.injEq Value.string.injEq List.cons.injEq exists_and_left exists_const List.flatten_cons List.flatten_nil Int.le_refl Nat.le_refl Zam Xi Gq Bool.not_eq_true' Bool.not_eq_false' Zdw Vl Zfr Zfv Zfq Zfu Zjk Zjf List.size_toArray Zgs Zfg G.ren G.rens Zff Zat Zcz Zbq Zbr Zag Zfw U6 G.fn.injEq Ux Zao Zdv Zjg Zan Zft Zjj Zji Zjh Zfs Ze7 Zih Option.join_none Zk Q0 undef Za6 Arr.len Arr.put_eq Ub Ua Kt Jn Zcv Zct Zcu onB Zkk Zev X7 V3 Gf Gg Gh Gi Gj Gk V8 Ue Uc Kv Jp Ud Zac Zab Zaa G9 Zkm Zkv Zh1 Zhi Xu Zh0 Zep Uf Ku Zbg Zbf Zic Zjo Zen Uz Za0 Us Ur Gl Gm Gn Gp Vq Vr Vs Vt Vu Vv Vw Vx Vy Vz V0 V1 V2 V4 prT Vo Zne Zfi Znf Zfj Zng Zfk Znh Zfl Zni Zfm Znj Zfn Znk Zfo Znl Zfp Zin Zc1 Zio Zc2 Zip Zc3 Ziq Zc4 Zir Zc5 Zis Zc6 Zit Zc7 Ziu Zc8 Ziv Zc9 Ziw Zda Zix Zdb Ziy Zdc Ziz Gd Zi0 Zdd Zbn Zde Zi1 Zdf Zhp Zdg Zi2 Zdh Zi3 Zdi Zi4 Zdj Jr Uw Zi5 Zdk Zi6 Zdl Zi7 Zdm Zi8 Zdn Zi9 Zdo Zja Zdp Zjb Zdq Zjc Zdr Zjd Zds Zje Zdt Zd Yp Yo Yl Ym Yq Ye Zz Yc Yn Zf Jv Kz Kr Ks K0 Js Xk Jq Yj Qq Qp Ql Qm Qr X8 X6 X5 Qo Ze Xc Xb Y8 Y9 Xd Y5 Y4 Y3 Xa Yg Yf Ya Yb Yh Z7 Z6 Z5 Yd
theorem Ztk {l:List (List Int)} (h16:l.length≤16) (h:∀ t∈l,(t.length:Int)≤131072):WO l:=⟨by omega,fun x hx=>by have:=h x hx;omega⟩
theorem Zsq (L:List NR):fl eM (L.map fun x=>(some x.1,x.2))=fl eN L:=by
 induction L with
 | nil=>rfl
 | cons x L ih =>
  show eM (some x.1,x.2)++fl eM (L.map fun x=>(some x.1,x.2))=eN x++fl eN L
  rw [ih];rfl
theorem Zq8 {O:Objs} {n i j:Nat} {L:List NR} {size left:Int} {r:List (List Int)} (h:PX (HP j size left) O n i j L) (hr:L.map (·.2)=r) (hw:WO r):GTo Try.prog 13 [.ref i 0] O n (.sl r.length (fl (eL (eI .u64)) r)) O n:=by
 have e1:(L.map fun x=>((some x.1:Option Nat),x.2)).map (·.2)=r:=by rw [← hr,List.map_map];rfl
 have e2:(L.map fun x=>((some x.1:Option Nat),x.2)).length=L.length:=List.length_map _
 refine Zp8 (L:=L.map fun x=>(some x.1,x.2)) (j:=j) (size:=size) (left:=left) h.hi (by rw [e2];exact h.ho) h.hj (by rw [e2,Zsq];exact h.hoj) (fun x hx v hv => ?_) (by rw [e1];exact Zqo hw)
 obtain ⟨y,hy,rfl⟩:=List.mem_map.1 hx
 have:=Option.some.inj hv;subst this
 exact ⟨h.lt y hy,h.hL y hy⟩
theorem Zsb {Z:Objs} {j:Nat} {L:List NR} {r:List (List Int)} (hj:Z j=some ⟨true,40,1,L.length,fl eN L⟩) (h:∀ x∈L,Z x.1=some ⟨true,27,1,x.2.length,fl (eI .u64) x.2⟩) (hr:L.map (·.2)=r):wk Z Yt 0 (.row j L.length) (.sl r.length (fl (eL (eI .u64)) r)):=by
 subst hr
 unfold wk
 exact ⟨by rw [List.length_map],rfl,_,hj,rfl,rfl,Zjw L h⟩
theorem Zqw {O:Objs} {n i j:Nat} {L:List NR} {size left:Int} (h:PX (HP j size left) O n i j L):GTo Try.prog 10 [.ref i 0] O n (.val (.int .i64 left)) O n :=
 GCalls.lend (Zf8 (a0:=some ⟨L.map (·.2),size,left⟩) rfl) rfl (by unfold Q4;exact ⟨_,_,rfl,Zef h.ho h.hoj h.hL,Y7 rfl⟩) ⟨rfl,rfl,rfl⟩
theorem Zr5 {O:Objs} {n i j:Nat} {L:List NR} {size left:Int} {r:List (List Int)} (h:PX (HP j size left) O n i j L) (hr:L.map (·.2)=r):GTo Try.prog 11 [.ref i 0] O n (.val (.int .i64 (r.length:Int))) O n:=by
 subst hr
 exact GCalls.lend (Zbb (a0:=some ⟨L.map (·.2),size,left⟩) rfl) rfl (by unfold Q4;exact ⟨_,_,rfl,Zef h.ho h.hoj h.hL,Y7 rfl⟩) ⟨rfl,rfl,rfl⟩
theorem Zr2 {O:Objs} {n i j:Nat} {L:List NR} {size left:Int} {r:List (List Int)} (h:PX (HP j size left) O n i j L) (hr:L.map (·.2)=r) (hb:∀ t∈r,t.length≤1000000) (s p k:Int):GTo Try.prog 14 [.ref i 0,.val (.int .i64 s),.val (.int .i64 p),.val (.int .i64 k)] O n (.val (.bool (Kp r s p k))) O n:=by
 subst hr
 exact GCalls.lend (Qu (Zg9 ⟨L.map (·.2),size,left⟩ s p k hb)) rfl (by unfold Q4;exact ⟨_,_,rfl,Zef h.ho h.hoj h.hL,Y7 rfl⟩) ⟨rfl,rfl,rfl⟩
theorem Zha {O:Objs} {n i j:Nat} {L:List NR} {size most used:Int} {r:List (List Int)} (h:PX (HR j size most used) O n i j L) (hr:L.map (·.2)=r) (hb:∀ t∈r,t.length≤1000000) (s p k:Int):GTo Try.prog 15 [.ref i 0,.val (.int .i64 s),.val (.int .i64 p),.val (.int .i64 k)] O n (.val (.bool (Kp r s p k))) O n:=by
 subst hr
 exact GCalls.lend (Jb (Zkb ⟨L.map (·.2),size,most,used⟩ s p k hb)) rfl (by unfold Q4;exact ⟨_,_,rfl,Zn1 h.ho h.hoj h.hL,Y7 rfl⟩) ⟨rfl,rfl,rfl⟩
theorem Zq7 {O:Objs} {n j:Nat} {L:List NR} {r:List (List Int)} (hj:O j=some ⟨true,40,1,L.length,fl eN L⟩) (h:∀ x∈L,O x.1=some ⟨true,27,1,x.2.length,fl (eI .u64) x.2⟩) (hr:L.map (·.2)=r) (hw:WO r):GTo Try.prog 12 [.sl r.length (fl (eL (eI .u64)) r),.row j L.length] O n (.val (.bool true)) O n :=
 GCalls.lend (Zbc (Zoo hw)) rfl (by
  unfold Q4
  refine ⟨_,_,rfl,Ge _ (by show G.unders 0 _=true;exact Z9 _ _ (Z8 X3 r)),?_⟩
  unfold Q4
  exact ⟨_,_,rfl,Zsb hj h hr,Y7 rfl⟩) ⟨rfl,rfl,rfl⟩
def Zkt (r:List (List Int)) (s p:Int):Int×Bool:=if Kp r s p 1=true then ((Zv ((Zv r s).getD []) p).getD 0,true) else (0,false)
theorem Zjr {r:List (List Int)} {s p k:Int} (h:Kp r s p k=true):∃ t,Zv r s=some t∧0≤p∧0≤k∧k≤(t.length:Int)∧p≤(t.length:Int) - k:=by
 unfold Kp at h
 cases e:Zv r s with
 | none=>rw [e] at h;cases h
 | some t=>rw [e] at h;exact ⟨t,rfl,of_decide_eq_true h⟩
theorem Zqs (A:Zl) (s p:Int) (hb:∀ t∈A.segments,t.length≤1000000):J6 (some A) s p=some (Zkt A.segments s p):=by
 unfold J6 Zkt
 rw [Zg9 A s p 1 hb]
 by_cases c:Kp A.segments s p 1=true
 ·obtain ⟨t,ht,h1,h2,h3,h4⟩:=Zjr c
  obtain ⟨w,hw⟩:=U1 (L:=t) h1 (by omega)
  rw [if_pos c,ht]
  simp [c,ht,hw]
 rw [if_neg c]
 have c':Kp A.segments s p 1=false:=by simpa using c
 simp [c']
theorem Zr1 {O:Objs} {n i j:Nat} {L:List NR} {size left:Int} {r:List (List Int)} (h:PX (HP j size left) O n i j L) (hr:L.map (·.2)=r) (hb:∀ t∈r,t.length≤1000000) (s p:Int):GTo Try.prog 16 [.ref i 0,.val (.int .i64 s),.val (.int .i64 p)] O n (.tup [.val (.int .u64 (Zkt r s p).1),.val (.bool (Zkt r s p).2)]) O n:=by
 subst hr
 exact GCalls.lend (Zgp (Zqs ⟨L.map (·.2),size,left⟩ s p hb)) rfl (by unfold Q4;exact ⟨_,_,rfl,Zef h.ho h.hoj h.hL,Y7 rfl⟩) ⟨rfl,rfl,rfl⟩
def Zgf (r:List (List Int)) (s p k:Int):List Int×Bool:=if Kp r s p k=true then ((((Zv r s).getD []).drop p.toNat).take k.toNat,true) else ([],false)
theorem Zp4 (A:Zl) (s p k:Int) (hb:∀ t∈A.segments,t.length≤1000000):Ju (some A) s p k=some (Zgf A.segments s p k):=by
 unfold Ju Zgf
 rw [Zg9 A s p k hb]
 by_cases c:Kp A.segments s p k=true
 ·obtain ⟨t,ht,h1,h2,h3,h4⟩:=Zjr c
  have hl:=hb t (Zw ht)
  rw [if_pos c,ht]
  have hw:IntKind.i64.wrap (p+k)=p+k:=Gv (by omega)
  have hs:Zgv t p (p+k)=some ((t.drop p.toNat).take k.toNat):=by
   unfold Zgv
   rw [if_pos (by omega)]
   congr 2
   omega
  simp only [c,ht,Bool.not_true,cond_false,Option.bind_some,hw,hs,Option.getD_some]
  rw [Zle (by simp;omega)];rfl
 rw [if_neg c]
 have c':Kp A.segments s p k=false:=by simpa using c
 simp [c']
theorem Zq3 {O:Objs} {n i j:Nat} {L:List NR} {size left:Int} {r:List (List Int)} (h:PX (HP j size left) O n i j L) (hr:L.map (·.2)=r) (hb:∀ t∈r,t.length≤1000000) (s p k:Int):GTo Try.prog 17 [.ref i 0,.val (.int .i64 s),.val (.int .i64 p),.val (.int .i64 k)] O n (.tup [.row n (Zgf r s p k).1.length,.val (.bool (Zgf r s p k).2)]) (O.upd n (some ⟨true,27,1,(Zgf r s p k).1.length,fl (eI .u64) (Zgf r s p k).1⟩)) (n+1):=by
 subst hr
 exact GCalls.lendTup (Zf9 (O:=Yt) (n:=0) (Zp4 ⟨L.map (·.2),size,left⟩ s p k hb)) (Zpd _) (by unfold Q4;exact ⟨_,_,rfl,Zef h.ho h.hoj h.hL,Y7 rfl⟩) ⟨rfl,rfl,rfl⟩
theorem Zhn {O:Objs} {n a b:Nat} {p:List Int} {g g':G} (ha:O a=some ⟨true,40,1,1,[g]⟩) (hb:O b=some ⟨true,40,1,1,[g']⟩) (hg:wk O Yt 0 g (.sl p.length (fl (eI .u64) p))) (hg':wk O Yt 0 g' (.sl p.length (fl (eI .u64) p))) (hp:p.length≤1000000):GTo Try.prog 12 [.row a 1,.row b 1] O n (.val (.bool true)) O n:=by
 have hw:WO [p]:=⟨by simp,fun x hx=>by rw [List.mem_singleton.1 hx];omega⟩
 have key:∀ {c:Nat} {g:G},O c=some ⟨true,40,1,1,[g]⟩→wk O Yt 0 g (.sl p.length (fl (eI .u64) p))→wk O Yt 0 (.row c 1) (.sl [p].length (fl (eL (eI .u64)) [p])):=fun {c g} h1 h2=>by
  unfold wk
  refine ⟨rfl,rfl,_,h1,rfl,rfl,?_⟩
  show Q4 O Yt 0 [g] [.sl p.length (fl (eI .u64) p)]
  unfold Q4
  exact ⟨_,_,rfl,h2,Y7 rfl⟩
 exact GCalls.lend (Zbc (Zoo hw)) rfl (by
  unfold Q4
  refine ⟨_,_,rfl,key ha hg,?_⟩
  unfold Q4
  exact ⟨_,_,rfl,key hb hg',Y7 rfl⟩) ⟨rfl,rfl,rfl⟩
theorem Zok {O:Objs} {v:Nat} {t p:List Int} {a k:Int} (hv:O v=some ⟨true,27,1,t.length,fl (eI .u64) t⟩) (hp:p=(t.drop a.toNat).take k.toNat) (hk:k.toNat≤t.length - a.toNat):wk O Yt 0 (.rl v t.length a.toNat k.toNat) (.sl p.length (fl (eI .u64) p)):=by
 have hl:p.length=k.toNat:=by rw [hp,List.length_take,List.length_drop];omega
 have e:∀ xs:List Int,fl (eI .u64) xs=xs.map fun x=>G.val (.int .u64 x):=fun xs=>by
  induction xs with
  | nil=>rfl
  | cons x xs ih=>rw [List.map_cons,← ih];rfl
 have hl2:(fl (eI .u64) p).length=k.toNat:=by rw [e,List.length_map,hl]
 unfold wk
 refine ⟨hl.symm,rfl,_,hv,rfl,rfl,Z8 Xw t,?_⟩
 rw [hl2,e,e,hp,List.map_take,List.map_drop]
theorem Zpf {v k:Nat} {a b:Int} (hk:0 < k) (h:0≤a∧a≤b∧b≤(k:Int)):U3 Jd 40 (.row v k) (some (.i64,a)) (some (.i64,b)) none=some (True,.rl v k a.toNat (b - a).toNat):=by
 unfold U3
 simp only [Uw,Zbn]
 rw [if_neg (by simp),if_neg (by omega)]
 simp only [K5,bHi,Nat.mul_one]
 rw [show (0 < 1∧0 < k∧0≤a∧a≤b∧b≤(k:Int))=True from eq_true ⟨Nat.one_pos,hk,h⟩]
theorem Zn7 {v:Nat}:U3 Jd 40 (.row v 0) (some (.i64,0)) (some (.i64,0)) none=some (True,.sl 0 []):=by
 unfold U3
 simp only [Uw,Zbn]
 rw [if_neg (by simp),if_pos True.intro]
 simp only [K5,bHi,and_self]
theorem Zqx {X:Objs} {N t:Nat} {l l2:List (Option GObj)} {q:GObj} (h:Zu X N l t=some q):Zu X N (l++l2) t=some q:=by
 unfold Zu at *
 by_cases c:t < N
 ·rw [if_pos c] at h ⊢;exact h
 rw [if_neg c] at h ⊢
 cases e:l[t - N]? with
 | none=>rw [e] at h;cases h
 | some o =>
  rw [e] at h
  obtain ⟨hl,_⟩:=List.getElem?_eq_some_iff.1 e
  rw [List.getElem?_append_left hl,e];exact h
theorem Zrg {X:Objs} {N:Nat} (hX:Und X N) {l:List (Option GObj)} (h:∀ q,some q∈l→G.unders (N+l.length) q.cells=true):Und (Zu X N l) (N+l.length):=by
 refine ⟨fun i hi => ?_,fun i o ho => ?_⟩
 ·unfold Zu;rw [if_neg (by omega),List.getElem?_eq_none (by omega)];rfl
 unfold Zu at ho
 by_cases c:i < N
 ·rw [if_pos c] at ho;exact Xr (by omega) _ (hX.und i o ho)
 rw [if_neg c] at ho
 cases e:l[i - N]? with
 | none=>rw [e] at ho;cases ho
 | some q =>
  rw [e] at ho
  have ho:q=some o:=ho
  subst ho
  exact h o (List.mem_of_getElem? e)
def SB (O:Objs) (n:Nat) (sA sB:List (List Int)) (a b c d e:GObj):Objs:=Zu (XO (XO O n sA) (n+16) sB) (n+32) [some a,some b,some c,some d,some e]
section
variable {O:Objs} {n t:Nat} {sA sB:List (List Int)} {a b c d e q:GObj}
theorem Zkj {m p:Nat} {segs:List (List Int)} {s:List Int} (h:segs[p]? = some s):(m+p,s)∈J4 m segs:=List.mem_of_getElem? (i:=p) (by rw [Zki,h];rfl)
theorem Zgy (h:SB O n sA sB a b c d e t=some q) :
  (t < n∧O t=some q)∨(∃ x∈J4 n sA,t=x.1∧q=⟨true,27,1,x.2.length,fl (eI .u64) x.2⟩)∨(∃ x∈J4 (n+16) sB,t=x.1∧q=⟨true,27,1,x.2.length,fl (eI .u64) x.2⟩) ∨
  (t=n+32∧q=a)∨(t=n+33∧q=b)∨(t=n+34∧q=c)∨(t=n+35∧q=d)∨(t=n+36∧q=e):=by
 unfold SB at h
 by_cases h1:t < n
 ·rw [Xi _ (by omega),Zd1 (by omega),Zd1 h1] at h;exact .inl ⟨h1,h⟩
 by_cases h2:t < n+16
 ·obtain ⟨p,rfl⟩:∃ p,t=n+p:=⟨t - n,by omega⟩
  rw [Xi _ (by omega),Zd1 h2,Zia p (by omega)] at h
  cases e1:sA[p]? with
  | none=>rw [e1] at h;cases h
  | some s=>rw [e1] at h;exact .inr (.inl ⟨_,Zkj e1,rfl,(Option.some.inj h).symm⟩)
 by_cases h3:t < n+32
 ·obtain ⟨p,rfl⟩:∃ p,t=n+16+p:=⟨t - (n+16),by omega⟩
  rw [Xi _ h3,Zia p (by omega)] at h
  cases e1:sB[p]? with
  | none=>rw [e1] at h;cases h
  | some s=>rw [e1] at h;exact .inr (.inr (.inl ⟨_,Zkj e1,rfl,(Option.some.inj h).symm⟩))
 obtain ⟨p,rfl⟩:∃ p,t=n+32+p:=⟨t - (n+32),by omega⟩
 rw [Xy] at h
 match p,h with
 | 0,h=>exact .inr (.inr (.inr (.inl ⟨rfl,(Option.some.inj h).symm⟩)))
 | 1,h=>exact .inr (.inr (.inr (.inr (.inl ⟨rfl,(Option.some.inj h).symm⟩))))
 | 2,h=>exact .inr (.inr (.inr (.inr (.inr (.inl ⟨rfl,(Option.some.inj h).symm⟩)))))
 | 3,h=>exact .inr (.inr (.inr (.inr (.inr (.inr (.inl ⟨rfl,(Option.some.inj h).symm⟩))))))
 | 4,h=>exact .inr (.inr (.inr (.inr (.inr (.inr (.inr ⟨rfl,(Option.some.inj h).symm⟩))))))
 | p+5,h=>cases h
theorem Zsh:SB O n sA sB a b c d e (n+32)=some a∧SB O n sA sB a b c d e (n+33)=some b∧SB O n sA sB a b c d e (n+34)=some c∧SB O n sA sB a b c d e (n+35)=some d∧SB O n sA sB a b c d e (n+36)=some e:=by
 unfold SB
 exact ⟨Xy _ 0,Xy _ 1,Xy _ 2,Xy _ 3,Xy _ 4⟩
theorem Zsi (h:t < n):SB O n sA sB a b c d e t=O t:=by unfold SB;rw [Xi _ (by omega),Zd1 (by omega),Zd1 h]
theorem Ztl {x:NR} (h16:sA.length≤16) (hx:x∈J4 n sA):SB O n sA sB a b c d e x.1=some ⟨true,27,1,x.2.length,fl (eI .u64) x.2⟩:=by
 obtain ⟨p,h1,h2⟩:=Zck hx
 obtain ⟨hl,_⟩:=List.getElem?_eq_some_iff.1 h2
 unfold SB;rw [h1,Xi _ (by omega),Zd1 (by omega),Zia p (by omega),h2];rfl
theorem Ztm {x:NR} (h16:sB.length≤16) (hx:x∈J4 (n+16) sB):SB O n sA sB a b c d e x.1=some ⟨true,27,1,x.2.length,fl (eI .u64) x.2⟩:=by
 obtain ⟨p,h1,h2⟩:=Zck hx
 obtain ⟨hl,_⟩:=List.getElem?_eq_some_iff.1 h2
 unfold SB;rw [h1,Xi _ (by omega),Zia p (by omega),h2];rfl
theorem Zn9 (h:n+37≤t):SB O n sA sB a b c d e t=none:=by
 unfold SB Zu;rw [if_neg (by omega),List.getElem?_eq_none (by simp;omega)];rfl
theorem Zqh (hU:Und O n) {m:Nat} (hm:n+37≤m) (ha:G.unders m a.cells=true) (hb:G.unders m b.cells=true) (hc:G.unders m c.cells=true) (hd:G.unders m d.cells=true) (he:G.unders m e.cells=true):Und (SB O n sA sB a b c d e) m:=by
 refine ⟨fun i hi=>Zn9 (by omega),fun i o ho => ?_⟩
 rcases Zgy ho with ⟨h1,h2⟩ | ⟨x,_,_,rfl⟩ | ⟨x,_,_,rfl⟩ | ⟨_,rfl⟩ | ⟨_,rfl⟩ | ⟨_,rfl⟩ | ⟨_,rfl⟩ | ⟨_,rfl⟩
 ·exact Xr (by omega) _ (hU.und i o h2)
 ·exact Yj _
 ·exact Yj _
 ·exact ha
 ·exact hb
 ·exact hc
 ·exact hd
 exact he
theorem Zar {m:Nat} {segs:List (List Int)} {x:NR} (hx:x∈J4 m segs):m≤x.1∧x.1 < m+segs.length:=by
 obtain ⟨p,h1,h2⟩:=Zck hx
 obtain ⟨hl,_⟩:=List.getElem?_eq_some_iff.1 h2
 omega
end
theorem Zm3 {L M:List NR} (h1:L.map (·.1)=M.map (·.1)) (h2:L.map (·.2)=M.map (·.2)):L=M:=by
 induction L generalizing M with
 | nil=>cases M with
  | nil=>rfl
  | cons y M=>cases h1
 | cons x L ih=>cases M with
  | nil=>cases h1
  | cons y M =>
   simp only [List.map_cons,List.cons.injEq] at h1 h2
   rw [ih h1.2 h2.2,Prod.ext h1.1 h2.1]
theorem Zm9 {ρ:Nat→Nat} {L:List NR} (h:∀ x∈L,ρ x.1=x.1):G.rens ρ (fl eN L)=fl eN L:=by
 rw [Zjv]
 congr 1
 exact (List.map_congr_left (fun x hx=>by rw [h x hx];rfl)).trans (List.map_id _)
theorem Zn6 {O:Objs} {n:Nat} {size most:Int} {r:List (List Int)×Int} {bx:GObj} {E E':Env} (hU:Und O n) (h16:r.1.length≤16) (hn:E'.n=E.n) (hF:∀ Z Z' m,n+36≤m→Zd2 Z Z' m E.l E'.l) :
  Fit2 n E (Zu (XO (XO O n r.1) (n+16) r.1) (n+32) [some (HP (n+33) size r.2 r.1.length),some ⟨true,40,1,r.1.length,fl eN (J4 n r.1)⟩,some (HR (n+35) size most (most - r.2) r.1.length),some ⟨true,40,1,r.1.length,fl eN (J4 (n+16) r.1)⟩,some bx]) (n+37)
   E' (Zu (XO (XO O n r.1) (n+16) r.1) (n+32) [some (HP (n+33) size r.2 r.1.length),some ⟨true,40,1,r.1.length,fl eN (J4 n r.1)⟩,some (HR (n+35) size most (most - r.2) r.1.length),some ⟨true,40,1,r.1.length,fl eN (J4 (n+16) r.1)⟩]) (n+36):=by
 refine Fit2.of ⟨hn,K9 (Zrg (N:=n+32) (l:=[some (HP (n+33) size r.2 r.1.length),some ⟨true,40,1,r.1.length,fl eN (J4 n r.1)⟩,some (HR (n+35) size most (most - r.2) r.1.length),some ⟨true,40,1,r.1.length,fl eN (J4 (n+16) r.1)⟩]) (Zli (Zli hU r.1) r.1) fun q hq => ?_) (fun t o ht=>Zqx (l2:=[some bx]) ht),hF _ _ _ (Nat.le_refl _)⟩ (by omega)
 simp only [List.mem_cons,Option.some.injEq,List.not_mem_nil,or_false] at hq
 rcases hq with rfl | rfl | rfl | rfl
 ·simp [HP,G.unders,G.under]
 ·exact Je _ fun y hy=>by have:=Zar hy;show y.1 < n+32+4;omega
 ·simp [HR,G.unders,G.under]
 exact Je _ fun y hy=>by have:=Zar hy;show y.1 < n+32+4;omega
theorem Zsc {O O':Objs} {n n':Nat} {size most left:Int} {segs:List (List Int)} {r:List (List Int)×Int} {bx:GObj} {L1 L1':List NR} {E E':Env} (hU:Und O n) (hUO:Und O' n') (h16:segs.length≤16)
  (hbx:G.pures bx.cells=true) (hR:Rel (SO O n size most segs left [some bx]) (n+37) (n+32) (n+33) (n+34) (n+35) (J4 n segs) (J4 (n+16) segs) size most r O' n' L1 L1')
  (hn:E'.n=E.n) (hF:∀ Z Z' m,n+37≤m→Zd2 Z Z' m E.l E'.l) (hF':∀ Z Z' m,n+37≤m→Zd2 Z Z' m E'.l E'.l) (hE:∀ r M,r < n+32→n+37≤M→Zff (sw r M) E'.l=E'.l) :
  Fit2 n E O' n' E' (SB O n r.1 r.1 (HP (n+33) size r.2 r.1.length) ⟨true,40,1,r.1.length,fl eN (J4 n r.1)⟩ (HR (n+35) size most (most - r.2) r.1.length) ⟨true,40,1,r.1.length,fl eN (J4 (n+16) r.1)⟩ bx) (n+37):=by
 obtain ⟨Z2,hZ2⟩:∃ Z2,Z2=SB O n r.1 r.1 (HP (n+33) size r.2 r.1.length) ⟨true,40,1,r.1.length,fl eN (J4 n r.1)⟩ (HR (n+35) size most (most - r.2) r.1.length) ⟨true,40,1,r.1.length,fl eN (J4 (n+16) r.1)⟩ bx:=⟨_,rfl⟩
 have hl1:L1.length=r.1.length:=by have:=congrArg List.length hR.s1;rwa [List.length_map] at this
 have hl2:L1'.length=r.1.length:=by have:=congrArg List.length hR.s2;rwa [List.length_map] at this
 have hlo:∀ t,t < n→O' t=O t:=fun t ht=>by
  rw [hR.off t (by omega) (fun q=>by have:=Zqf h16 q;omega) (fun q=>by have:=Zqg h16 q;omega)]
  exact Zsj ht
 have hob:O' (n+36)=some bx:=by
  rw [hR.off _ (by omega) (fun q=>by have:=Zqf h16 q;omega) (fun q=>by have:=Zqg h16 q;omega)]
  unfold SO;exact Xy _ 4
 have g32:O' (n+32)=some (HP (n+33) size r.2 r.1.length):=by rw [← hl1];exact hR.a.ho
 have g33:O' (n+33)=some ⟨true,40,1,r.1.length,fl eN L1⟩:=by rw [← hl1];exact hR.a.hoj
 have g34:O' (n+34)=some (HR (n+35) size most (most - r.2) r.1.length):=by rw [← hl2];exact hR.b.ho
 have g35:O' (n+35)=some ⟨true,40,1,r.1.length,fl eN L1'⟩:=by rw [← hl2];exact hR.b.hoj
 have hUZ:r.1.length≤16→Und Z2 (n+37):=fun h=>by
  rw [hZ2]
  refine Zqh hU (Nat.le_refl _) (by simp [HP,G.unders,G.under]) (Je _ fun y hy=>by have:=Zar hy;omega) (by simp [HR,G.unders,G.under]) (Je _ fun y hy=>by have:=Zar hy;omega) (Z9 _ _ hbx)
 rw [← hZ2]
 have hle:=hR.le
 rcases hR.nums with ⟨e1,e2⟩ | ⟨hlt,z,ν,ν',e1,e2,b1,b2,b3⟩
 ·have hlen:r.1.length=segs.length:=by
   have:=congrArg List.length e1
   rw [List.length_map,List.length_map,J9] at this;omega
  have f1:L1=J4 n r.1:=Zm3 (by rw [e1,Zhe,Zhe,hlen]) (by rw [hR.s1,Zcj])
  have f2:L1'=J4 (n+16) r.1:=Zm3 (by rw [e2,Zhe,Zhe,hlen]) (by rw [hR.s2,Zcj])
  refine Fit2.of ⟨hn,K9 (hUZ (by omega)) (fun t o ht => ?_),hF _ _ _ (Nat.le_refl _)⟩ (by omega)
  rw [hZ2] at ht
  rcases Zgy ht with ⟨h1,h2⟩ | ⟨x,hx,rfl,rfl⟩ | ⟨x,hx,rfl,rfl⟩ | ⟨rfl,rfl⟩ | ⟨rfl,rfl⟩ | ⟨rfl,rfl⟩ | ⟨rfl,rfl⟩ | ⟨rfl,rfl⟩
  ·rw [hlo t h1];exact h2
  ·exact hR.a.hL x (by rw [f1];exact hx)
  ·exact hR.b.hL x (by rw [f2];exact hx)
  ·exact g32
  ·rw [g33,f1]
  ·exact g34
  ·rw [g35,f2]
  exact hob
 rw [J9] at hlt
 have hr1:r.1=segs++[z]:=by rw [← hR.s1,e1,List.map_append,Zcj];rfl
 have hlen:r.1.length=segs.length+1:=by rw [hr1];simp
 have hsn:∀ m,J4 m r.1=J4 m segs++[(m+segs.length,z)]:=fun m=>by rw [hr1];exact Zpy m segs z
 obtain ⟨Y0,hY0⟩:∃ Y0,Y0=SB O n segs r.1 (HP (n+33) size r.2 r.1.length) ⟨true,40,1,r.1.length,fl eN (J4 n segs++[(ν,z)])⟩ (HR (n+35) size most (most - r.2) r.1.length) ⟨true,40,1,r.1.length,fl eN (J4 (n+16) r.1)⟩ bx:=⟨_,rfl⟩
 obtain ⟨Y,hY⟩:∃ Y,Y=Y0.upd ν (some ⟨true,27,1,z.length,fl (eI .u64) z⟩):=⟨_,rfl⟩
 have hYν:Y ν=some ⟨true,27,1,z.length,fl (eI .u64) z⟩:=by rw [hY];exact Zk _ _ _
 have hYo:∀ t,t≠ν→Y t=Y0 t:=fun t ht=>by rw [hY];exact Zj _ _ ht
 have hUY:Und Y (ν+1):=by
  rw [hY]
  refine Und.set ?_ (Nat.lt_succ_self ν) (Yj _)
  rw [hY0]
  refine Zqh hU (by omega) (by simp [HP,G.unders,G.under];omega) (Je _ fun y hy => ?_) (by simp [HR,G.unders,G.under];omega) (Je _ fun y hy=>by have:=Zar hy;omega) (Z9 _ _ hbx)
  rcases List.mem_append.1 hy with q | q
  ·have:=Zar q;omega
  rw [List.mem_singleton.1 q];exact Nat.lt_succ_self ν
 have p0:(ν,z)∈L1:=by rw [e1];simp
 have p0':(ν',z)∈L1':=by rw [e2];simp
 -- the reference's first
 have step1:Fit2 n E' O' (ν'+1) E' Y (ν'+1):=by
  refine Znd (r:=n+16+segs.length) (by omega) (by omega) (fun j hj => ?_) (fun j q' hq => ?_) (hE _ _ (by omega) (by omega))
  ·rw [hYo j (by omega),hY0];exact Zn9 (by omega)
  by_cases c:j=ν
  ·subst c
   rw [hYν] at hq
   have:=Option.some.inj hq;subst this
   exact ⟨_,(by rw [Qn (by omega) (by omega)];exact hR.a.hL _ p0),rfl,rfl,rfl,rfl,.inl (Xk z).symm⟩
  rw [hYo j c,hY0] at hq
  rcases Zgy hq with ⟨h1,h2⟩ | ⟨x,hx,rfl,rfl⟩ | ⟨x,hx,rfl,rfl⟩ | ⟨rfl,rfl⟩ | ⟨rfl,rfl⟩ | ⟨rfl,rfl⟩ | ⟨rfl,rfl⟩ | ⟨rfl,rfl⟩
  ·exact ⟨q',(by rw [Qn (by omega) (by omega),hlo j h1];exact h2),rfl,rfl,rfl,rfl,.inr ⟨rfl,hU.und j q' h2⟩⟩
  ·have:=Zar hx
   exact ⟨_,(by rw [Qn (by omega) (by omega)];exact hR.a.hL x (by rw [e1];exact List.mem_append.2 (.inl hx))),rfl,rfl,rfl,rfl,.inl (Xk _).symm⟩
  ·rw [hsn] at hx
   rcases List.mem_append.1 hx with q | q
   ·have:=Zar q
    exact ⟨_,(by rw [Qn (by omega) (by omega)];exact hR.b.hL x (by rw [e2];exact List.mem_append.2 (.inl q))),rfl,rfl,rfl,rfl,.inl (Xk _).symm⟩
   have:=List.mem_singleton.1 q;subst this
   exact ⟨_,(by rw [Zqc];exact hR.b.hL _ p0'),rfl,rfl,rfl,rfl,.inl (Xk _).symm⟩
  ·refine ⟨_,(by rw [Qn (by omega) (by omega)];exact g32),rfl,rfl,rfl,rfl,.inl ?_⟩
   simp only [HP,G.rens,G.ren]
   rw [Qn (by omega) (by omega)]
  ·refine ⟨_,(by rw [Qn (by omega) (by omega)];rw [e1] at g33;exact g33),rfl,rfl,rfl,rfl,.inl ?_⟩
   refine (Zm9 fun y hy => ?_).symm
   rcases List.mem_append.1 hy with q | q
   ·have:=Zar q;exact Qn (by omega) (by omega)
   rw [List.mem_singleton.1 q];exact Qn (by show ν≠_;omega) (by show ν≠_;omega)
  ·refine ⟨_,(by rw [Qn (by omega) (by omega)];exact g34),rfl,rfl,rfl,rfl,.inl ?_⟩
   simp only [HR,G.rens,G.ren]
   rw [Qn (by omega) (by omega)]
  ·refine ⟨⟨true,40,1,r.1.length,fl eN L1'⟩,(by rw [Qn (by omega) (by omega)];exact g35),rfl,rfl,rfl,rfl,.inl ?_⟩
   show fl eN (J4 (n+16) r.1)=G.rens _ (fl eN L1')
   rw [e2,Zjv,List.map_append,Zog rfl (by omega),hsn]
   simp only [List.map_cons,List.map_nil,Zqb]
  exact ⟨_,(by rw [Qn (by omega) (by omega)];exact hob),rfl,rfl,rfl,rfl,.inl (Qs _ _ hbx).symm⟩
 have step2:Fit2 n E' Y (ν'+1) E' Y (ν+1):=Fit2.of ⟨rfl,K9 hUY (fun t o h=>h),hF' _ _ _ (by omega)⟩ (by omega)
 have step3:Fit2 n E' Y (ν+1) E' Z2 (ν+1):=by
  refine Znd (r:=n+segs.length) (by omega) (by omega) (fun j hj => ?_) (fun j q' hq => ?_) (hE _ _ (by omega) (by omega))
  ·rw [hZ2];exact Zn9 (by omega)
  have hjν:j≠ν:=fun e=>by
   subst e
   rw [hZ2,Zn9 (by omega)] at hq;cases hq
  rw [hZ2] at hq
  have hYat:=Zsh (O:=O) (n:=n) (sA:=segs) (sB:=r.1) (a:=HP (n+33) size r.2 r.1.length) (b:=⟨true,40,1,r.1.length,fl eN (J4 n segs++[(ν,z)])⟩) (c:=HR (n+35) size most (most - r.2) r.1.length) (d:=⟨true,40,1,r.1.length,fl eN (J4 (n+16) r.1)⟩) (e:=bx)
  rw [← hY0] at hYat
  obtain ⟨y32,y33,y34,y35,y36⟩:=hYat
  rcases Zgy hq with ⟨h1,h2⟩ | ⟨x,hx,rfl,rfl⟩ | ⟨x,hx,rfl,rfl⟩ | ⟨rfl,rfl⟩ | ⟨rfl,rfl⟩ | ⟨rfl,rfl⟩ | ⟨rfl,rfl⟩ | ⟨rfl,rfl⟩
  ·exact ⟨q',(by rw [Qn (by omega) (by omega),hYo j hjν,hY0,Zsi h1];exact h2),rfl,rfl,rfl,rfl,.inr ⟨rfl,hU.und j q' h2⟩⟩
  ·rw [hsn] at hx
   rcases List.mem_append.1 hx with q | q
   ·have:=Zar q
    exact ⟨_,(by rw [Qn (by omega) (by omega),hYo _ hjν,hY0];exact Ztl h16 q),rfl,rfl,rfl,rfl,.inl (Xk _).symm⟩
   have:=List.mem_singleton.1 q;subst this
   exact ⟨_,(by rw [Zqc];exact hYν),rfl,rfl,rfl,rfl,.inl (Xk _).symm⟩
  ·have:=Zar hx
   exact ⟨_,(by rw [Qn (by omega) (by omega),hYo _ hjν,hY0];exact Ztm (by omega) hx),rfl,rfl,rfl,rfl,.inl (Xk _).symm⟩
  ·refine ⟨_,(by rw [Qn (by omega) (by omega),hYo _ hjν];exact y32),rfl,rfl,rfl,rfl,.inl ?_⟩
   simp only [HP,G.rens,G.ren]
   rw [Qn (by omega) (by omega)]
  ·refine ⟨⟨true,40,1,r.1.length,fl eN (J4 n segs++[(ν,z)])⟩,(by rw [Qn (by omega) (by omega),hYo _ hjν];exact y33),rfl,rfl,rfl,rfl,.inl ?_⟩
   show fl eN (J4 n r.1)=G.rens _ (fl eN (J4 n segs++[(ν,z)]))
   rw [Zjv,List.map_append,Zog rfl (by omega),hsn]
   simp only [List.map_cons,List.map_nil,Zqb]
  ·refine ⟨_,(by rw [Qn (by omega) (by omega),hYo _ hjν];exact y34),rfl,rfl,rfl,rfl,.inl ?_⟩
   simp only [HR,G.rens,G.ren]
   rw [Qn (by omega) (by omega)]
  ·refine ⟨_,(by rw [Qn (by omega) (by omega),hYo _ hjν];exact y35),rfl,rfl,rfl,rfl,.inl ?_⟩
   exact (Zm9 fun y hy=>by have:=Zar hy;exact Qn (by omega) (by omega)).symm
  exact ⟨_,(by rw [Qn (by omega) (by omega),hYo _ hjν];exact y36),rfl,rfl,rfl,rfl,.inl (Qs _ _ hbx).symm⟩
 have step4:Fit2 n E' Z2 (ν+1) E' Z2 (n+37):=Fit2.of ⟨rfl,K9 (hUZ (by omega)) (fun t o h=>h),hF' _ _ _ (Nat.le_refl _)⟩ (by omega)
 have step0:Fit2 n E O' n' E' O' (ν'+1):=by
  rw [← b3]
  exact Fit2.of ⟨hn,less_self hUO,hF _ _ _ hle⟩ (by omega)
 exact step0.trans (step1.trans (step2.trans (step3.trans step4)))
theorem news (a0 a1:Int):∃ sz lf:Int,Zci a0 a1=some ⟨[],sz,lf⟩∧Vb a0 a1=some ⟨[],sz,lf,0⟩∧0≤lf∧lf≤131072:=by
 refine ⟨_,_,rfl,?_,?_,?_⟩
 ·unfold Vb
  by_cases c1:a0 < 1 <;> by_cases c2:a1 < 0 <;> by_cases c3:131072 < a1 <;> simp [c1,c2,c3]
  all_goals omega
 ·split <;> split <;> omega
 split <;> split <;> omega
theorem Zdz {a0:Int} {a1:Int} {a2:(List Zq)} {r:Bool} {O:Objs} {n:Nat} (h:Zd5 a0 a1 a2=some r):GTo Try.prog 3 [.val (.int .i64 a0),.val (.int .i64 a1),.sl a2.length (fl Zd a2)] O n (.val (.bool r)) O n:=by
 obtain rfl:true=r:=Option.some.inj h
 refine Xq Zc Try.call3 Try.func3 rfl (Nat.le_of_ble_eq_true rfl) (Nat.le_refl _) fun hU => ?_
 obtain ⟨N,hNn⟩:∃ N,N=n+32:=⟨_,rfl⟩
 obtain ⟨X,hXd⟩:∃ X:List (List Int)→Objs,X=fun segs=>XO (XO O n segs) (n+16) segs:=⟨_,rfl⟩
 have hX:∀ segs,Und (X segs) N:=fun segs=>by subst hNn;rw [hXd];exact Zli (Zli hU segs) segs
 have hN0:∀ segs,X segs N=none:=fun segs=>(hX segs).fresh _ (Nat.le_refl _)
 have hN:∀ segs k,X segs (N+k)=none:=fun segs k=>(hX segs).fresh _ (Nat.le_add_right _ _)
 have hX0:Zu (X []) N []=O:=by rw [Xe (hX []).fresh,hXd];show XO (XO O n []) (n+16) []=O;rw [Zpn hU,Zpn (hU.more (by omega))]
 have h2:∀ {E c Q},W Try.prog n c Q E (Zu (X []) N []) N→W Try.prog n c Q E O N:=fun h=>by rw [hX0] at h;exact h
 obtain ⟨sz,lf,hy1,hy2,hl0,hl1⟩:=news a0 a1
 show W _ _ _ _ ⟨183,[],[(0,.val (.int .i64 a0)),(1,.val (.int .i64 a1)),(2,.sl a2.length (fl Zd a2))]⟩ (Zu O n []) _
 rw [Xe hU.fresh]
 refine Zgg (Zpa hU (by omega:n≤N) ?_) ?_
 ·simp only [push_cast,seval,↓reduceIte,Za]
 refine h2 ?_
 refine Zh [0,1,2] (Zb Zc [] ?_)
 simp only [push_cast,seval,↓reduceIte,Za,hN0,hN]
 refine Zt ?_
 refine Zb Zc [] ?_
 simp only [push_cast,seval,↓reduceIte,Za,hN0,hN]
 refine (Zhf hy1).then ?_
 simp only [push_cast,seval,↓reduceIte,Za,hN0,hN]
 refine Xl [0,1,2,7] [true,true] ?_
 simp only [push_cast,seval,↓reduceIte]
 refine Zt ?_
 refine Zb Zc [] ?_
 simp only [push_cast,seval,↓reduceIte,Za,hN0,hN]
 refine (Zhg hy2).then ?_
 simp only [push_cast,seval,↓reduceIte,Za,hN0,hN]
 try simp only [Q6,Qa,K4,Jw,List.set_cons_zero,List.set_cons_succ,List.cons_append,List.nil_append,List.length_cons,List.length_nil,Nat.zero_add,Nat.reduceAdd,Nat.reduceLT,Nat.add_assoc]
 refine Xl [2,7,8] [true,true,true,true] ?_
 simp only [push_cast,seval,↓reduceIte]
 obtain ⟨H,hH⟩:∃ H:LSt→Objs,H=fun s=>Zu (X s.2.1) N [some (HP (N+1) sz s.2.2 s.2.1.length),some ⟨true,40,1,s.2.1.length,fl eN (J4 n s.2.1)⟩,some (HR (N+3) sz lf (lf - s.2.2) s.2.1.length),some ⟨true,40,1,s.2.1.length,fl eN (J4 (n+16) s.2.1)⟩]:=⟨_,rfl⟩
 have hst:Zu (X []) N [some ⟨false,59,3,1,[.row (N+1) 0,.val (.int .i64 sz),.val (.int .i64 lf)]⟩,some ⟨true,40,1,0,[]⟩,some ⟨false,34,4,1,[.row (N+3) 0,.val (.int .i64 sz),.val (.int .i64 lf),.val (.int .i64 0)]⟩,some ⟨true,40,1,0,[]⟩]=H (0,[],lf):=by
  rw [hH]
  show _=Zu (X []) N [some (HP (N+1) sz lf 0),some ⟨true,40,1,0,fl eN (J4 n [])⟩,some (HR (N+3) sz lf (lf - lf) 0),some ⟨true,40,1,0,fl eN (J4 (n+16) [])⟩]
  rw [Int.sub_self];rfl
 rw [hst]
 refine Zt ?_
 refine Zh [2,7,8,9] (Zb Zc [] ?_)
 have hm:N < N+4:=by omega
 have hm2:N+2 < N+4:=by omega
 simp only [push_cast,seval,↓reduceIte,Za,hm,hm2]
 refine Zer (E':=⟨183,[],[]⟩) (O':=O) (n0:=n) ?_ ?_
 ·refine Zgz (Zt1 a2 sz lf (0,[],lf) ⟨⟨Int.le_refl 0,(by show (0:Int)≤40;omega)⟩,(by show 0≤16;omega),⟨hl0,Int.le_refl _,hl1⟩,fun t ht=>by cases ht⟩) (fun s=>⟨183,[],[(2,.sl a2.length (fl Zd a2)),(7,.ref N 0),(8,.ref (N+2) 0),(9,.val (.int .i64 s.1))]⟩) H (fun _=>JX 0 n ⟨183,[],[]⟩ O n) ?_
  intro s x0 hs0
  obtain ⟨i,segs,left⟩:=s
  have hI:Zpj lf (i,segs,left):=by
   unfold Zlf at hs0
   by_cases c:Zpj lf (i,segs,left)
   ·exact c
   rw [if_neg c] at hs0;cases hs0
  unfold Zlf at hs0
  rw [if_pos hI] at hs0
  obtain ⟨⟨hi0,hi1⟩,h16,⟨hlf0,hlf1,_⟩,hbd⟩:=hI
  dsimp only at hs0 hi0 hi1 h16 hlf0 hlf1 hbd ⊢
  refine Zt ?_
  refine Zh [2,7,8,9,28] (Zb Zc [none,none] ?_)
  simp only [push_cast,seval,↓reduceIte,Za,hm,hm2]
  repeat (with_reducible refine And.intro (by first | (intro h0;simp only [h0,and_self];done) | (intro h0;simp only [h0,Bool.not_false,Bool.not_true,Bool.true_and,Bool.and_true,true_and,and_true,and_self,imp_self,implies_true,bne_iff_ne,ne_eq,beq_iff_eq];done) | (intros;simp_all;done) | exact True.intro) ?_)
  refine Zg (t:=(cond (decide (i < (a2.length:Int))) (decide (i < 40)) false)) rfl (fun c24 => ?_) (fun c24 => ?_)
  ·have c1:i < (a2.length:Int)∧i < 40:=by
    cases e:decide (i < (a2.length:Int)) with
    | false=>rw [e] at c24;cases c24
    | true=>rw [e] at c24;exact ⟨of_decide_eq_true e,of_decide_eq_true c24⟩
   rw [if_pos c1] at hs0
   refine Zr ?_
   try simp only [Zn,Zi]
   obtain ⟨d,hd⟩:=U1 (L:=a2) hi0 c1.1
   rw [hd] at hs0
   have hs0:=Option.some.inj hs0;subst hs0
   rw [hH]
   dsimp only
   refine Xl [2,7,8,9] [true,true,true,true] ?_
   simp only [push_cast,seval,↓reduceIte]
   refine Zt ?_
   refine J5 ?_
   obtain ⟨x5,hx5,ax5,bx5,cx5,_⟩:=bE (f:=Zd) (K:=fun y=>some y) (r:=d) Zhp (fun _=>rfl) (by decide) (by rw [hd];rfl)
   obtain rfl:x5=d:=Option.some.inj (hx5.symm.trans hd)
   refine Zh [2,7,8,9,10] (Zb Zc [] ?_)
   simp only [push_cast,Nat.reduceAdd,Nat.reduceSub,Nat.reduceMul,Nat.reduceLeDiff,Nat.reduceLT,Nat.reduceEqDiff,↓reduceIte,reduceCtorEq,Int.reduceBEq,Int.reduceBNe,Nat.reduceBEq,Int.reduceLE,Int.reduceLT,Int.reduceEq,Int.reduceNe,Int.reduceNeg,Nat.reduceDiv,Nat.reduceMod,Nat.reducePow,Za,hN0,hN,ax5,bx5,cx5]
   obtain ⟨Z,hZ⟩:∃ Z,Z=Zu (X segs) N [some (HP (N+1) sz left segs.length),some ⟨true,40,1,segs.length,fl eN (J4 n segs)⟩,some (HR (N+3) sz lf (lf - left) segs.length),some ⟨true,40,1,segs.length,fl eN (J4 (n+16) segs)⟩,some ⟨false,29,5,1,[.val (.int .i64 x5.Kind),.val (.int .i64 x5.S),.val (.int .i64 x5.At),.val (.int .i64 x5.N),.val (.int .u64 x5.W)]⟩]:=⟨_,rfl⟩
   have hZS:Z=SO O n sz lf segs left [some ⟨false,29,5,1,[.val (.int .i64 x5.Kind),.val (.int .i64 x5.S),.val (.int .i64 x5.At),.val (.int .i64 x5.N),.val (.int .u64 x5.W)]⟩]:=by rw [hZ,hXd,hNn];rfl
   have hZb:Z (N+4)=some ⟨false,29,5,1,[.val (.int .i64 x5.Kind),.val (.int .i64 x5.S),.val (.int .i64 x5.At),.val (.int .i64 x5.N),.val (.int .u64 x5.W)]⟩:=by rw [hZ];exact Xy _ 4
   have pa:PX (HP (N+1) sz left) Z (N+5) N (N+1) (J4 n segs):=by rw [hZS,hNn];exact Zsf h16 (by omega)
   have pb:PX (HR (N+3) sz lf (lf - left)) Z (N+5) (N+2) (N+3) (J4 (n+16) segs):=by rw [hZS,hNn];exact Zsg h16 (by omega)
   have dj:∀ t,ter N (N+1) (J4 n segs) t→¬ ter (N+2) (N+3) (J4 (n+16) segs) t:=fun t h1 h2=>by
    rw [hNn] at h1 h2
    have:=Zqf h16 h1
    have:=Zqg h16 h2
    omega
   obtain ⟨O',n',L1,L1',hdo,hR⟩:=Zqp (K:=x5.Kind) (S:=x5.S) (A:=x5.At) (N:=x5.N) (v:=x5.W) pa pb dj (by rw [Zcj,Zcj]) hlf0 hlf1 hl1 (fun x hx=>by
    obtain ⟨p,_,h2⟩:=Zck hx
    exact hbd _ (List.mem_of_getElem? h2)) (by rw [J9];exact h16)
   rw [Zcj] at hR
   obtain ⟨q1,q2,q3⟩:=Zk6 (size:=sz) (K:=x5.Kind) (S:=x5.S) (A:=x5.At) (N:=x5.N) (v:=x5.W) h16 hlf0 hlf1 hl1 hbd
   obtain ⟨rr,hrr⟩:∃ rr,rr=Jx segs sz left x5.Kind x5.S x5.At x5.N x5.W:=⟨_,rfl⟩
   rw [← hrr] at hR q1 q2 q3
   have hw1:WO rr.1:=Ztk q1 fun t ht=>by have:=q3 t ht;omega
   have hle:=hR.le
   have m0:N < n':=by omega
   have m2:N+2 < n':=by omega
   have m4:N+4 < n':=by omega
   have k0:N < N+5:=by omega
   have k2:N+2 < N+5:=by omega
   have k4:N+4 < N+5:=by omega
   have ho1:=hR.b.ho
   unfold HR at ho1
   have hll:L1'.length=rr.1.length:=by have:=congrArg List.length hR.s2;rwa [List.length_map] at this
   have hww:IntKind.i64.wrap (lf - (lf - rr.2))=rr.2:=by rw [Gv (by omega)];omega
   have hlr:∀ i k,Yv O' (.row i k)=True:=fun i k=>by simp [Yv]
   rw [← hZ]
   refine Z0 (E':=⟨183,[],[(2,.sl a2.length (fl Zd a2)),(7,.ref N 0),(8,.ref (N+2) 0),(9,.val (.int .i64 i)),(10,.ref (N+4) 0)]⟩) (O':=Zu (X rr.1) N [some (HP (N+1) sz rr.2 rr.1.length),some ⟨true,40,1,rr.1.length,fl eN (J4 n rr.1)⟩,some (HR (N+3) sz lf (lf - rr.2) rr.1.length),some ⟨true,40,1,rr.1.length,fl eN (J4 (n+16) rr.1)⟩,some ⟨false,29,5,1,[.val (.int .i64 x5.Kind),.val (.int .i64 x5.S),.val (.int .i64 x5.At),.val (.int .i64 x5.N),.val (.int .u64 x5.W)]⟩]) (n0:=N+5) ?_ ?_
   ·refine Zh [2,7,8,9,10,73] (Zjp Zc (by kernel_rfl) [.plain,.plain,.plain,.bar,.plain,.plain,.plain,.plain,.plain,.plain,.plain,.plain,.plain,.plain,.plain,.plain,.plain,.plain,.plain,.plain,.plain,.plain,.plain,.plain,.plain,.plain,.plain,.plain,.plain,.plain,.plain,.plain,.plain,.plain,.plain,.plain,.plain,.plain,.plain] (fun t=>t=N) [0,1,2,3,4,5,6,7,8,9,10,11,12,13,14,15,16,17,18,19,20,21,22,23,24,25,26,27,28,29,30,31,32,33,34,35,36,37,38] [.plain,.plain,.plain,.bar,.plain,.plain,.plain,.plain,.plain,.plain,.plain,.plain,.plain,.plain,.plain,.plain,.plain,.plain,.plain,.plain,.plain,.plain,.plain,.plain,.plain,.plain,.plain,.plain,.plain,.plain,.plain,.plain,.plain,.plain,.plain,.plain,.plain,.plain,.plain] (Zs0 []) (by kernel_rfl) rfl ?_)
    simp only [push_cast,seval,↓reduceIte,Za,hZb,k0,k2,k4]
    refine hdo.then ?_
    simp only [push_cast,seval,↓reduceIte,Za,m0,m2,m4,hlr]
    refine PCall.of (Zqw hR.a) ?_
    simp only [push_cast,seval,↓reduceIte,Za,m0,m2,m4,hlr,ho1,hww,bne_self_eq_false]
    refine PCall.of (Zr5 hR.a hR.s1) ?_
    simp only [push_cast,seval,↓reduceIte,Za,m0,m2,m4,hlr,ho1,hll,bne_self_eq_false]
    refine PCall.of (Zq8 hR.a hR.s1 hw1) ?_
    simp only [push_cast,seval,↓reduceIte,Za,m0,m2,m4,hlr,ho1,bne_self_eq_false]
    refine PCall.of (Zq7 hR.b.hoj hR.b.hL hR.s2 hw1) ?_
    simp only [push_cast,seval,↓reduceIte,Za,m0,m2,m4,hlr,ho1,bne_self_eq_false]
    refine Zes fun hUO => ?_
    refine Zg (t:=false) rfl (fun c15=>by cases c15) (fun c15 => ?_)
    refine Zr ?_
    refine And.intro rfl ?_
    subst hNn hXd
    rw [hZS] at hR
    refine Zsc hU hUO h16 rfl hR rfl (fun Z Z' m hm' => ?_) (fun Z Z' m hm' => ?_) (fun r M hr hM => ?_)
    ·have j0:n+32 < m:=by omega
     have j2:n+32+2 < m:=by omega
     have j4:n+32+4 < m:=by omega
     simp only [push_cast,seval,↓reduceIte,Za,j0,j2,j4]
    ·have j0:n+32 < m:=by omega
     have j2:n+32+2 < m:=by omega
     have j4:n+32+4 < m:=by omega
     simp only [push_cast,seval,↓reduceIte,Za,j0,j2,j4]
    have j0:sw r M (n+32)=n+32:=Qn (by omega) (by omega)
    have j2:sw r M (n+32+2)=n+32+2:=Qn (by omega) (by omega)
    have j4:sw r M (n+32+4)=n+32+4:=Qn (by omega) (by omega)
    simp only [Zff,G.ren,Zz,j0,j2,j4]
   have hB:∀ t∈rr.1,t.length≤1000000:=fun t ht=>by have:=q3 t ht;omega
   obtain ⟨Z2,hZ2⟩:∃ Z2,Z2=Zu (X rr.1) N [some (HP (N+1) sz rr.2 rr.1.length),some ⟨true,40,1,rr.1.length,fl eN (J4 n rr.1)⟩,some (HR (N+3) sz lf (lf - rr.2) rr.1.length),some ⟨true,40,1,rr.1.length,fl eN (J4 (n+16) rr.1)⟩,some ⟨false,29,5,1,[.val (.int .i64 x5.Kind),.val (.int .i64 x5.S),.val (.int .i64 x5.At),.val (.int .i64 x5.N),.val (.int .u64 x5.W)]⟩]:=⟨_,rfl⟩
   have hZS2:Z2=SO O n sz lf rr.1 rr.2 [some ⟨false,29,5,1,[.val (.int .i64 x5.Kind),.val (.int .i64 x5.S),.val (.int .i64 x5.At),.val (.int .i64 x5.N),.val (.int .u64 x5.W)]⟩]:=by rw [hZ2,hXd,hNn];rfl
   have hb2:Z2 (N+4)=some ⟨false,29,5,1,[.val (.int .i64 x5.Kind),.val (.int .i64 x5.S),.val (.int .i64 x5.At),.val (.int .i64 x5.N),.val (.int .u64 x5.W)]⟩:=by rw [hZ2];exact Xy _ 4
   have pa2:PX (HP (N+1) sz rr.2) Z2 (N+5) N (N+1) (J4 n rr.1):=by rw [hZS2,hNn];exact Zsf q1 (by omega)
   have pb2:PX (HR (N+3) sz lf (lf - rr.2)) Z2 (N+5) (N+2) (N+3) (J4 (n+16) rr.1):=by rw [hZS2,hNn];exact Zsg q1 (by omega)
   have s1:(J4 n rr.1).map (·.2)=rr.1:=Zcj n rr.1
   have s2:(J4 (n+16) rr.1).map (·.2)=rr.1:=Zcj (n+16) rr.1
   have ho2:=pb2.ho
   unfold HR at ho2
   rw [J9] at ho2
   have hlr2:∀ i k,Yv Z2 (.row i k)=True:=fun i k=>by simp [Yv]
   rw [← hZ2]
   refine Zes fun hUZ => ?_
   have hbn:n≤N+5:=by omega
   refine Z0 (E':=⟨183,[],[(2,.sl a2.length (fl Zd a2)),(7,.ref N 0),(8,.ref (N+2) 0),(9,.val (.int .i64 i)),(10,.ref (N+4) 0)]⟩) (O':=Z2) (n0:=N+5) ?_ ?_
   ·refine Zh [2,7,8,9,10,90] (Qb Zc (by kernel_rfl) [] (Y2 (by kernel_rfl)) ?_)
    simp only [push_cast,seval,↓reduceIte,Za,hb2,k0,k2,k4]
    refine PCall.of (Zr2 pa2 s1 hB x5.S x5.At x5.N) ?_
    simp only [push_cast,seval,↓reduceIte,Za,hb2,k0,k2,k4]
    refine PCall.of (Zha pb2 s2 hB x5.S x5.At x5.N) ?_
    simp only [push_cast,seval,↓reduceIte,Za,hb2,k0,k2,k4,bne_self_eq_false]
    refine Zg (t:=false) rfl (fun c15=>by cases c15) (fun c15 => ?_)
    refine Zr ?_
    refine And.intro rfl (Zm hUZ hbn rfl ?_)
    simp only [push_cast,seval,↓reduceIte,Za,k0,k2,k4,X9]
   refine Zh [2,7,8,9,10,11,12] (Zb Zc [] ?_)
   simp only [push_cast,seval,↓reduceIte,Za,hb2,k0,k2,k4]
   refine (Zr1 pa2 s1 hB x5.S x5.At).then ?_
   simp only [push_cast,seval,↓reduceIte,Za,hb2,k0,k2,k4]
   refine Zh [2,7,8,9,10,11,12,13,14] (Zb Zc [] ?_)
   simp only [push_cast,seval,↓reduceIte,Za,hb2,k0,k2,k4]
   refine (Zq3 pa2 s1 hB x5.S x5.At x5.N).then ?_
   simp only [push_cast,seval,↓reduceIte,Za,hb2,k0,k2,k4]
   obtain ⟨pt,hpt⟩:∃ pt,pt=Zgf rr.1 x5.S x5.At x5.N:=⟨_,rfl⟩
   rw [← hpt]
   have hZn:Z2 (N+5)=none:=hUZ.fresh _ (Nat.le_refl _)
   refine Zgg (E':=⟨183,[],[(2,.sl a2.length (fl Zd a2)),(7,.ref N 0),(8,.ref (N+2) 0),(9,.val (.int .i64 i)),(10,.ref (N+4) 0),(11,.val (.int .u64 (Zkt rr.1 x5.S x5.At).1)),(12,.val (.bool (Zkt rr.1 x5.S x5.At).2)),(13,.sl pt.1.length (fl (eI .u64) pt.1)),(14,.val (.bool pt.2))]⟩) (O':=Z2) (n':=N+5) (Fit2.of ⟨rfl,K9 hUZ (fun t o ht => ?_),?_⟩ hbn) ?_
   ·by_cases e:t=N+5
    ·subst e;rw [hZn] at ht;cases ht
    rw [Zj _ _ e];exact ht
   ·simp only [push_cast,seval,↓reduceIte,Za,k0,k2,k4,hZn]
   have hoj2:=pb2.hoj
   rw [J9] at hoj2
   have k3:N+3 < N+5:=by omega
   refine Z0 (E':=⟨183,[],[(2,.sl a2.length (fl Zd a2)),(7,.ref N 0),(8,.ref (N+2) 0),(9,.val (.int .i64 i)),(10,.ref (N+4) 0),(13,.sl pt.1.length (fl (eI .u64) pt.1)),(14,.val (.bool pt.2))]⟩) (O':=Z2) (n0:=N+5) ?_ ?_
   ·have hp2:pt.2=Kp rr.1 x5.S x5.At x5.N:=by
     rw [hpt];unfold Zgf
     cases e:Kp rr.1 x5.S x5.At x5.N with
     | true=>rw [if_pos rfl]
     | false=>rw [if_neg (by decide)]
    by_cases c:Kp rr.1 x5.S x5.At 1=true
    ·obtain ⟨t,ht,p1,_,_,p4⟩:=Zjr c
     obtain ⟨w,hw⟩:=U1 (L:=t) p1 (by omega)
     have hgv:Zkt rr.1 x5.S x5.At=(w,true):=by unfold Zkt;rw [if_pos c,ht];show ((Zv t x5.At).getD 0,true)=_;rw [hw];rfl
     rw [hgv]
     obtain ⟨y,hy,ey⟩:=Zph (L:=(rr.1.map fun t=>((0,t):NR))) (L':=J4 (n+16) rr.1) (s:=x5.S) (x:=(0,t)) (by rw [s2,List.map_map];exact List.map_id _) (by
      unfold Zv at *
      split at ht
      ·rename_i q;rw [if_pos q,List.getElem?_map,ht];rfl
      cases ht)
     have hy2:=pb2.hL y (Zw hy)
     have hy1:=pb2.lt y (Zw hy)
     have ey:y.2=t:=ey
     rw [ey] at hy2
     obtain ⟨u2,hu2,ax2,bx2,cx2,_⟩:=bE (f:=eN) (K:=fun y=>some y) (r:=y) Jr (fun _=>rfl) (by decide) (by rw [hy];rfl)
     obtain rfl:u2=y:=Option.some.inj (hu2.symm.trans hy)
     rw [J9] at bx2
     have hE:(eN u2)[0]? = some (.row u2.1 t.length):=by rw [← ey];rfl
     obtain ⟨v2,hv2,ax3,bx3,cx3,_⟩:=bE (f:=eI .u64) (K:=fun y=>some y) (r:=w) Zbn (fun _=>rfl) (by decide) (by rw [hw];rfl)
     obtain rfl:v2=w:=Option.some.inj (hv2.symm.trans hw)
     refine Zh [2,7,8,9,10,13,14,157] (Qb Zc (by kernel_rfl) (Zsz (Yw::Yw::Zmz [])) (Y2 (by kernel_rfl)) ?_)
     simp only [push_cast,seval,↓reduceIte,Za,hb2,k0,k2,k3,k4]
     refine PCall.of (Zha pb2 s2 hB x5.S x5.At 1) ?_
     rw [c]
     simp only [push_cast,Nat.reduceAdd,Nat.reduceSub,Nat.reduceMul,Nat.reduceLeDiff,Nat.reduceLT,Nat.reduceEqDiff,↓reduceIte,reduceCtorEq,Int.reduceBEq,Int.reduceBNe,Nat.reduceBEq,Int.reduceLE,Int.reduceLT,Int.reduceEq,Int.reduceNe,Int.reduceNeg,Nat.reduceDiv,Nat.reduceMod,Nat.reducePow,Za,hb2,k0,k2,k3,k4,ho2,hoj2,hlr2,ax2,bx2,cx2,ax3,bx3,cx3,hE,hy1,hy2,J9,bne_self_eq_false]
     refine PCall.of (Zha pb2 s2 hB x5.S x5.At x5.N) ?_
     rw [← hp2]
     simp only [push_cast,seval,↓reduceIte,Za,hb2,k0,k2,k4,bne_self_eq_false]
     refine Zg (t:=false) rfl (fun c15=>by cases c15) (fun c15 => ?_)
     refine Zr ?_
     refine And.intro rfl (Zm hUZ hbn rfl ?_)
     simp only [push_cast,seval,↓reduceIte,Za,k0,k2,k4,X9]
    have c':Kp rr.1 x5.S x5.At 1=false:=by simpa using c
    have hgv:Zkt rr.1 x5.S x5.At=(0,false):=by unfold Zkt;rw [if_neg c]
    rw [hgv]
    refine Zh [2,7,8,9,10,13,14,157] (Qb Zc (by kernel_rfl) (Zy::Zy::Zsw (Zp2 [])) (Y2 (by kernel_rfl)) ?_)
    simp only [push_cast,seval,↓reduceIte,Za,hb2,k0,k2,k4]
    refine PCall.of (Zha pb2 s2 hB x5.S x5.At 1) ?_
    rw [c']
    simp only [push_cast,seval,↓reduceIte,Za,hb2,k0,k2,k4,bne_self_eq_false]
    refine PCall.of (Zha pb2 s2 hB x5.S x5.At x5.N) ?_
    rw [← hp2]
    simp only [push_cast,seval,↓reduceIte,Za,hb2,k0,k2,k4,bne_self_eq_false]
    refine Zg (t:=false) rfl (fun c15=>by cases c15) (fun c15 => ?_)
    refine Zr ?_
    refine And.intro rfl (Zm hUZ hbn rfl ?_)
    simp only [push_cast,seval,↓reduceIte,Za,k0,k2,k4,X9]
   refine Zsk (E':=⟨183,[],[(2,.sl a2.length (fl Zd a2)),(7,.ref N 0),(8,.ref (N+2) 0),(9,.val (.int .i64 i))]⟩) (O':=Z2) (n0:=N+5) ?_ ?_
   ·cases c:pt.2 with
    | false =>
     refine Zh [2,7,8,9,181] (Qb Zc (by kernel_rfl) (Zrq []) (Y2 (by kernel_rfl)) ?_)
     simp only [push_cast,seval,↓reduceIte,Za,hb2,k0,k2,k4]
     refine Zg (t:=false) rfl (fun c15=>by cases c15) (fun c15 => ?_)
     refine Zr ?_
     refine And.intro rfl (Zm hUZ hbn rfl ?_)
     simp only [push_cast,seval,↓reduceIte,Za,k0,k2,k4]
    | true =>
     have hh:Kp rr.1 x5.S x5.At x5.N=true:=by
      rw [hpt] at c
      unfold Zgf at c
      cases e:Kp rr.1 x5.S x5.At x5.N with
      | true=>rfl
      | false=>rw [e] at c;cases c
     obtain ⟨t,ht,p1,p2,p3,p4⟩:=Zjr hh
     have hpt1:pt.1=(t.drop x5.At.toNat).take x5.N.toNat:=by rw [hpt];unfold Zgf;rw [if_pos hh,ht];rfl
     have hlt:=hB t (Zw ht)
     have hwa:IntKind.i64.wrap (x5.At+x5.N)=x5.At+x5.N:=Gv (by omega)
     obtain ⟨y,hy,ey⟩:=Zph (L:=(rr.1.map fun t=>((0,t):NR))) (L':=J4 (n+16) rr.1) (s:=x5.S) (x:=(0,t)) (by rw [s2,List.map_map];exact List.map_id _) (by
      unfold Zv at *
      split at ht
      ·rename_i q;rw [if_pos q,List.getElem?_map,ht];rfl
      cases ht)
     have hy2:=pb2.hL y (Zw hy)
     have hy1:=pb2.lt y (Zw hy)
     have ey:y.2=t:=ey
     rw [ey] at hy2
     obtain ⟨u2,hu2,ax2,bx2,cx2,_⟩:=bE (f:=eN) (K:=fun y=>some y) (r:=y) Jr (fun _=>rfl) (by decide) (by rw [hy];rfl)
     obtain rfl:u2=y:=Option.some.inj (hu2.symm.trans hy)
     rw [J9] at bx2
     have hE:(eN u2)[0]? = some (.row u2.1 t.length):=by rw [← ey];rfl
     have p5:x5.At≤x5.At+x5.N:=by omega
     have p6:x5.At+x5.N≤(t.length:Int):=by omega
     have hlrx:∀ i k,Yv Z2 (.row i k)=True:=hlr2
     by_cases hz:t.length=0
     ·have ea:x5.At=0:=by omega
      have eb:x5.N=0:=by omega
      have et:t=[]:=List.eq_nil_of_length_eq_zero hz
      have hgs:U3 Jd 40 (.row u2.1 t.length) (some (.i64,x5.At)) (some (.i64,x5.At+x5.N)) none=some (True,.sl 0 []):=by rw [hz,ea,eb];exact Zn7
      have hp0:pt.1=[]:=by rw [hpt1,et];simp
      refine Zh [2,7,8,9,181] (Zmb Zc (by kernel_rfl) [.plain,.plain,.plain,.pass,.plain,.low,.low,.low,.low,.low,.low,.low,.low,.low,.low,.low,.low,.low,.low,.low,.pass,.plain,.plain,.plain] (fun t=>t < N+5) 3 20 [0,1,2,4,5,6,7,8,9,10,11,12,13,14,15,16,17,18,19] [21,22,23] [.plain,.plain,.plain,.plain,.low,.low,.low,.low,.low,.low,.low,.low,.low,.low,.low,.low,.low,.low,.low] [.pass,.pass,.plain,.plain,.plain] [.pass,.pass,.plain,.plain,.plain] (Zp3 []) (Zp3 []) (Zp2 []) (by kernel_rfl) rfl rfl rfl ?_)
      simp only [push_cast,Nat.reduceAdd,Nat.reduceSub,Nat.reduceMul,Nat.reduceLeDiff,Nat.reduceLT,Nat.reduceEqDiff,↓reduceIte,reduceCtorEq,Int.reduceBEq,Int.reduceBNe,Nat.reduceBEq,Int.reduceLE,Int.reduceLT,Int.reduceEq,Int.reduceNe,Int.reduceNeg,Nat.reduceDiv,Nat.reduceMod,Nat.reducePow,Za,hb2,k0,k2,k3,k4,ho2,hoj2,hlr2,ax2,bx2,cx2,hE,hy1,hy2,J9,bne_self_eq_false,c,hwa,p1,p5,p6,hgs,hlrx]
      have hag:∀ (Y:Objs) (a:Nat) (o:Option GObj),N+5≤a→agree (fun t=>t < N+5) Y (Y.upd a o):=fun Y a o ha t ht=>Zj _ _ (by have:t < N+5:=ht;omega)
      have hpl:pt.1.length≤1000000:=by rw [hpt1];simp;omega
      refine And.intro (And.intro (hag _ _ _ (by omega)) (And.intro (hag _ _ _ (by omega)) ?_)) (And.intro (hag _ _ _ (by omega)) (And.intro (hag _ _ _ (by omega)) ?_))
      ·refine PCall.of (Zhn (p:=pt.1) (by rw [Zj _ _ (by omega),Zk]) (by rw [Zk]) (Ge _ (by show G.unders 0 _=true;exact Z9 _ _ (Z8 Xw pt.1))) (by rw [hp0];exact Ge _ rfl) hpl) ?_
       simp only [push_cast,seval,↓reduceIte,Za,k0,k2,c]
       refine Zg (t:=false) rfl (fun c15=>by cases c15) (fun c15 => ?_)
       refine Zr ?_
       refine And.intro rfl (Fit2.of ⟨rfl,K9 hUZ (fun u o hu => ?_),?_⟩ hbn)
       ·have hu5:u < N+5:=by
         rcases Nat.lt_or_ge u (N+5) with q | q
         ·exact q
         rw [hUZ.fresh u q] at hu;cases hu
        rw [Zj _ _ (by omega),Zj _ _ (by omega)];exact hu
       simp only [push_cast,seval,↓reduceIte,Za,k0,k2]
      refine PCall.of (Zhn (p:=pt.1) (by rw [Zk]) (by rw [Zj _ _ (by omega),Zk]) (Ge _ (by show G.unders 0 _=true;exact Z9 _ _ (Z8 Xw pt.1))) (by rw [hp0];exact Ge _ rfl) hpl) ?_
      simp only [push_cast,seval,↓reduceIte,Za,k0,k2,c]
      refine Zg (t:=false) rfl (fun c15=>by cases c15) (fun c15 => ?_)
      refine Zr ?_
      refine And.intro rfl (Fit2.of ⟨rfl,K9 hUZ (fun u o hu => ?_),?_⟩ hbn)
      ·have hu5:u < N+5:=by
        rcases Nat.lt_or_ge u (N+5) with q | q
        ·exact q
        rw [hUZ.fresh u q] at hu;cases hu
       rw [Zj _ _ (by omega),Zj _ _ (by omega)];exact hu
      simp only [push_cast,seval,↓reduceIte,Za,k0,k2]
     have hgs:U3 Jd 40 (.row u2.1 t.length) (some (.i64,x5.At)) (some (.i64,x5.At+x5.N)) none=some (True,.rl u2.1 t.length x5.At.toNat x5.N.toNat):=by
      rw [Zpf (by omega) ⟨p1,p5,p6⟩];congr 4;omega
     refine Zh [2,7,8,9,181] (Zmb Zc (by kernel_rfl) [.plain,.plain,.plain,.pass,.plain,.low,.low,.low,.low,.low,.low,.low,.low,.low,.low,.low,.low,.low,.low,.low,.pass,.plain,.plain,.plain] (fun t=>t < N+5) 3 20 [0,1,2,4,5,6,7,8,9,10,11,12,13,14,15,16,17,18,19] [21,22,23] [.plain,.plain,.plain,.plain,.low,.low,.low,.low,.low,.low,.low,.low,.low,.low,.low,.low,.low,.low,.low] [.pass,.pass,.plain,.plain,.plain] [.pass,.pass,.plain,.plain,.plain] (Zp3 []) (Zp3 []) (Zp2 []) (by kernel_rfl) rfl rfl rfl ?_)
     simp only [push_cast,Nat.reduceAdd,Nat.reduceSub,Nat.reduceMul,Nat.reduceLeDiff,Nat.reduceLT,Nat.reduceEqDiff,↓reduceIte,reduceCtorEq,Int.reduceBEq,Int.reduceBNe,Nat.reduceBEq,Int.reduceLE,Int.reduceLT,Int.reduceEq,Int.reduceNe,Int.reduceNeg,Nat.reduceDiv,Nat.reduceMod,Nat.reducePow,Za,hb2,k0,k2,k3,k4,ho2,hoj2,hlr2,ax2,bx2,cx2,hE,hy1,hy2,J9,bne_self_eq_false,c,hwa,p1,p5,p6,hgs,hlrx]
     have hag:∀ (Y:Objs) (a:Nat) (o:Option GObj),N+5≤a→agree (fun t=>t < N+5) Y (Y.upd a o):=fun Y a o ha t ht=>Zj _ _ (by have:t < N+5:=ht;omega)
     have hpl:pt.1.length≤1000000:=by rw [hpt1];simp;omega
     refine And.intro (And.intro (hag _ _ _ (by omega)) (And.intro (hag _ _ _ (by omega)) ?_)) (And.intro (hag _ _ _ (by omega)) (And.intro (hag _ _ _ (by omega)) ?_))
     ·refine PCall.of (Zhn (p:=pt.1) (by rw [Zj _ _ (by omega),Zk]) (by rw [Zk]) (Ge _ (by show G.unders 0 _=true;exact Z9 _ _ (Z8 Xw pt.1))) (Zok (by rw [Zj _ _ (by omega),Zj _ _ (by omega)];exact hy2) hpt1 (by omega)) hpl) ?_
      simp only [push_cast,seval,↓reduceIte,Za,k0,k2,c]
      refine Zg (t:=false) rfl (fun c15=>by cases c15) (fun c15 => ?_)
      refine Zr ?_
      refine And.intro rfl (Fit2.of ⟨rfl,K9 hUZ (fun u o hu => ?_),?_⟩ hbn)
      ·have hu5:u < N+5:=by
        rcases Nat.lt_or_ge u (N+5) with q | q
        ·exact q
        rw [hUZ.fresh u q] at hu;cases hu
       rw [Zj _ _ (by omega),Zj _ _ (by omega)];exact hu
      simp only [push_cast,seval,↓reduceIte,Za,k0,k2]
     refine PCall.of (Zhn (p:=pt.1) (by rw [Zk]) (by rw [Zj _ _ (by omega),Zk]) (Ge _ (by show G.unders 0 _=true;exact Z9 _ _ (Z8 Xw pt.1))) (Zok (by rw [Zj _ _ (by omega),Zj _ _ (by omega)];exact hy2) hpt1 (by omega)) hpl) ?_
     simp only [push_cast,seval,↓reduceIte,Za,k0,k2,c]
     refine Zg (t:=false) rfl (fun c15=>by cases c15) (fun c15 => ?_)
     refine Zr ?_
     refine And.intro rfl (Fit2.of ⟨rfl,K9 hUZ (fun u o hu => ?_),?_⟩ hbn)
     ·have hu5:u < N+5:=by
       rcases Nat.lt_or_ge u (N+5) with q | q
       ·exact q
       rw [hUZ.fresh u q] at hu;cases hu
      rw [Zj _ _ (by omega),Zj _ _ (by omega)];exact hu
     simp only [push_cast,seval,↓reduceIte,Za,k0,k2]
   try simp only [Zn,Zi]
   have hwi:IntKind.i64.wrap (i+1)=i+1:=Gv (by omega)
   refine Zb Zc [] ?_
   simp only [push_cast,seval,↓reduceIte,Za,hwi,k0,k2]
   refine And.intro rfl ?_
   rw [hZ2]
   show Fit2 n _ _ _ _ (Zu (X (Jx segs sz left x5.Kind x5.S x5.At x5.N x5.W).1) N [some (HP (N+1) sz (Jx segs sz left x5.Kind x5.S x5.At x5.N x5.W).2 (Jx segs sz left x5.Kind x5.S x5.At x5.N x5.W).1.length),some ⟨true,40,1,(Jx segs sz left x5.Kind x5.S x5.At x5.N x5.W).1.length,fl eN (J4 n (Jx segs sz left x5.Kind x5.S x5.At x5.N x5.W).1)⟩,some (HR (N+3) sz lf (lf - (Jx segs sz left x5.Kind x5.S x5.At x5.N x5.W).2) (Jx segs sz left x5.Kind x5.S x5.At x5.N x5.W).1.length),some ⟨true,40,1,(Jx segs sz left x5.Kind x5.S x5.At x5.N x5.W).1.length,fl eN (J4 (n+16) (Jx segs sz left x5.Kind x5.S x5.At x5.N x5.W).1)⟩]) (N+4)
   rw [← hrr]
   subst hNn hXd
   refine Zn6 hU q1 rfl (fun Z Z' m hm' => ?_)
   have j0:n+32 < m:=by omega
   have j2:n+32+2 < m:=by omega
   simp only [push_cast,seval,↓reduceIte,Za,j0,j2]
  have c1:¬ (i < (a2.length:Int)∧i < 40):=fun h=>by rw [decide_eq_true h.1,decide_eq_true h.2] at c24;cases c24
  rw [if_neg c1] at hs0
  refine Zjz ?_
  try simp only [Zn,Zi,↓reduceIte,Nat.reduceEqDiff]
  have hs0:=Option.some.inj hs0;subst hs0
  refine And.intro (fun h=>by cases h) (And.intro rfl (Zpr hU (fun t ht => ?_) rfl ?_))
  ·rw [hH]
   show Zu (X segs) N _ t=O t
   rw [Xi _ (by omega),hXd]
   show XO (XO O n segs) (n+16) segs t=O t
   rw [Zd1 (by omega),Zd1 ht]
  simp only [push_cast,seval,↓reduceIte,Za]
 try simp only [Zn,Zi,↓reduceIte,Nat.reduceEqDiff]
 refine Zh [6] (Zb Zc [] ?_)
 simp only [push_cast,seval,↓reduceIte,Za]
 refine awake_ok.then ?_
 simp only [push_cast,seval,↓reduceIte,Za]
 refine Yy ?_
 try simp only [Zn,Zi]
 refine Yk (P:=Try.prog) (.inr rfl) hU [.val (.bool true)] (Nat.le_refl n) ?_
 simp only [push_cast,seval,↓reduceIte,Za,Try.results3]
end Go.Proofs.Ytpggbianhdebmaa
