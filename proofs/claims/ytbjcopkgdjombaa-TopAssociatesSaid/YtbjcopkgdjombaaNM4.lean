/- Part NM4 of this seat's mirrors: functions of the seat's program, and the plain functions that they are; each theorem bears its own conditions. -/
import Derived.Test.YtbjcopkgdjombaaND
import Derived.Test.YtbjcopkgdjombaaNM1
namespace Go.Proofs.Ytbjcopkgdjombaa
open Go.RowKit
set_option linter.unusedVariables false
set_option linter.unusedSimpArgs false
set_option maxRecDepth 100000
set_option maxHeartbeats 4000000
attribute [local push_cast] Try.results104 Try.results109 Try.results110 Try.results111 Try.results112 Try.results113 Try.results114 Try.results115 Try.results116 Try.results43 Try.results44 Try.results70 X8 Ze Y5 Yw Zi Xb Znl Znk Zn7 Zn6 Xf Yn Zjx Ze1 Ze0 onW Qm Zez Zeo Zqt Zpc Zhx Zh1 Zhw Zh0 Zkr Zko Zhz Zkq Zkp Zhy Zkm Zft evS wok K3 Op.operands Call.operands gop onK onP atK List.all_cons List.all_nil Bool.and_true Bool.true_and Bool.and_self Value.oneCell' List.take_zero List.take_succ_cons List.take_nil List.drop_zero List.drop_succ_cons List.drop_nil List.append_nil Nat.add_zero Nat.zero_add Za2 Yt ev Vz Zf7 Znd Znc Zni Zng Znh Zne Znf Znb Ztu Zuf Zwl Zi7 Zcp Zjv Zef Zhj Zgy Zc0 Zc5 Zex Zeu Zc3 Zew Zev Zc2 Zes Zc1 Zc4 Zb7 Zet Zpr Ze2 Zax Zif Zay Zln Zi5 Zvk bLo bHi bMx Zcq Zlm Zyh Zi4 Zmf Zf9 Gc Zrc Zyi Zid Zyj Zco Zzw Zj0 Zj4 Zjz Zj3 Znx Znu Zns Zhl Zj1 Znw Znv Zj2 Znt Zm3 gone Zki Zfl Zfk pop TK.isAgg Zn1 Zn5 Zn0 Zn4 Zkd Zr2 Zry Zn3 Zr1 Zr0 Zn2 Zrx G.under G.unders List.getD_cons_zero List.getD_cons_succ List.set_cons_zero List.set_cons_succ List.map_cons List.map_nil List.toList_toArray Array.toList_append Option.toArray_none Option.toArray_some Array.toList_map Option.map_some Option.map_none Option.bind_some Option.bind_none List.getElem?_cons_zero List.getElem?_cons_succ List.getElem?_nil List.nil_append List.cons_append List.replicate_succ List.replicate_zero List.length_cons List.length_nil and_true true_and and_false false_and Bool.true_eq_false Bool.false_eq_true forall_const false_implies implies_true IntKind.bits if_true if_false ite_true ite_false eq_self true_implies false_or or_false or_true true_or not_true_eq_false not_false_eq_true decide_true decide_false decide_eq_true_eq decide_eq_false_iff_not beq_iff_eq bne_iff_ne ne_eq Bool.not_eq_true Bool.not_eq_false beq_eq_false_iff_ne bne_eq_false_iff_eq beq_self_eq_true bne_self_eq_false Option.some.injEq exists_eq_left' exists_eq_left ge_iff_le gt_iff_lt decide_not Bool.not_true Bool.not_false imp_self Zrd cond_true cond_false Z3x Z3w Bool.not_not Bool.and_false Bool.false_and Bool.or_true Bool.true_or Bool.or_false Bool.false_or Uy Zan Us K8 Y2 Yk Option.join_some Nat.add_assoc Int.toNat_natCast eI eB eS eL Y8 Zf8 Zc6 Zno Znm Znn Z0l Z1c Zgc Zdc Zod Zob Zoc Zww Zp5 Zt4 Zog Zvc Zd9 Zp6 List.length_append G.agg.injEq G.row.injEq G.ref.injEq G.val.injEq G.sl.injEq G.tup.injEq Value.int.injEq Value.bool.injEq Value.string.injEq List.cons.injEq exists_and_left exists_const List.flatten_cons List.flatten_nil Int.le_refl Nat.le_refl X5 Yl Yp Bool.not_eq_true' Bool.not_eq_false' Zpb Zit Ztb Ztf Zta Zte Zyf Zyb List.size_toArray Zr4 Zqy G.ren G.rens Zur Zg5 Zof Zm9 Zna Zkn Ztg Zei G.fn.injEq Zlj Zlk Zpa Zyc Zli Ztd Zye Zyd Ztc Zrh Zxf Option.join_none Yb Gj undef Zmi Arr.len Arr.put_eq Zgb Zhq Zfh Zdb Zoa Zn8 Zn9 onB Z0k Zrb Zkl Zji Zjj Zjk Zjl Zjm Zjn Zhm Zht Zhr Zfj Zdd Zhs Zkh Zkg Zkf Zke Z1b Z25 Zwv Zvx Vs Zwm Zrk Zhu Zfi Zyq Zqz Zi3 Zmc Zen Ziq Zjo Zjp Zjq Zjr Zg9 Zha Zhb Zhc Zhd Zhe Zhf Zhg prT Ze3 Z43 Zs0 Z0y Zs1 Z44 Zs2 Zw4 Zs3 Z45 Zs4 Z46 Zs5 Z47 Zs6 Z48 Zs7 Zxk Zoh Zxl Zoi Zxm Zoj Zxn Zok Zxo Zol Zxp Zom Zxq Zon Zxr Zoo Zxs Zop Zxt Zoq Zxu Zor Zxv Zl4 Zt8 Zcl Zxw Zos Gr Zot Zxx Zgv Zxy Zgw Zxz Zl5 Zx0 Zou Zq1 Zov Zi1 Zow Zx1 Zox Zfu Zoy Zx2 Zoz Zdh Zo0 Zx3 Zo1 Zdi Zo2 Zt9 Zl6 Zx4 Zo3 Zx5 Zo4 Zx6 Zo5 Zv7 Zo6 Zx7 Zo7 Zx8 Zo8 Zr9 Zkt Zsa Zku Zsb Zkv Zsc Zkw Zsd Zkx Zse Zky Zsf Zkz Zsg Zk0 Zsh Zk1 Zsi Zk2 Zsj Zk3 Zsk Zk4 Zsl Zk5 Zsm Zk6 Zsn Zk7 Zso Zk8 Zsp Zk9 Zsq Zla Zsr Zlb Zss Zlc Zst Zld Zsu Zle Zsv Zlf Zsw Zlg Zsx Zlh Za Z5 Zfz Zfy Ze4 Zff Zf2 Zdk Zdg Zdf Zfv Uq Up Uf Ul Ur Vx Vw Vv Uo Zb Xp Zc Zd Yz Y4 Z9 J8 J5 Jm Jq Kb Q2 Qy Qv Jy Kv Kt Kk Ko Kx J3 Jw Ju Kr Zak Zaj Zad Zah Zal Gg Gf Ge Zai Zh4 Zh3 Zhk Zho Zh5 Zfx Zfq Zfp Zh2 Z4 Q5 Q4 Qr Qt Q6 Ql Qk Qj Q0 Z7 J9 J6 Jn Jr Kc Q3 Qz Qw Jz Z6 J7 J4 Jl Jp Ka Q1 Qx Qu Jx Zw Ku Ks Kj Km Kw J0 Jv Jt Kq
def Zlu (V9:(S_api_Tree→S_api_Tree→Option Bool)):Prop:=∀ {a0:S_api_Tree} {a1:S_api_Tree} {r:Bool} {O:Objs} {n:Nat},V9 a0 a1=some r→GTo Try.prog 70 [.agg (Zi a0),.agg (Zi a1)] O n (.val (.bool r)) O n
def Xh (Zo:((List S_api_Tree)→(List S_api_Tree)→Option Bool)):Prop:=∀ {a0:(List S_api_Tree)} {a1:(List S_api_Tree)} {r:Bool} {O:Objs} {n:Nat},Zo a0 a1=some r→GTo Try.prog 109 [.sl a0.length (fl Za a0),.sl a1.length (fl Za a1),.fn 70 0 []] O n (.val (.bool r)) O n
theorem Z0j {V9:(S_api_Tree→S_api_Tree→Option Bool)} {Zo:((List S_api_Tree)→(List S_api_Tree)→Option Bool)} (Zqw:Zlu V9) (Xi:Xh Zo) {a0:S_api_Tree} {a1:S_api_Tree} {r:Bool} {O:Objs} {n:Nat} (h:Zh9 V9 Zo a0 a1=some r):GTo Try.prog 70 [.agg (Zi a0),.agg (Zi a1)] O n (.val (.bool r)) O n:=by
 unfold Zh9 at h
 refine zFn Try.call70 Try.func70 fun hU hN0 hN => ?_
 show W _ _ _ _ ⟨44,[],[(0,.agg (Zi a0)),(1,.agg (Zi a1))]⟩ (Zu O n []) _
 refine zQ [2,3] ?_
 refine Zj ?_
 refine zQ [2,3,9] ?_
 refine Zn (t:=(a0.Kind != a1.Kind)) rfl (fun c31 => ?_) (fun c31 => ?_)
 ·replace h:=Zq c31 h
  refine zQ [4] ?_
  exact Xe [.val (.bool false)]
 replace h:=Zp c31 h
 refine zKd [2,3] [true,true] ?_
 refine Zj ?_
 refine zQ [2,3,11] ?_
 refine Yy ?_
 refine zQ [2,3,11,12] ?_
 refine Zn (t:=(a0.Kind == 0)) rfl (fun c30 => ?_) (fun c30 => ?_)
 ·replace h:=Zq c30 h
  refine zQ [4] ?_
  exact Xe [.val (.bool true)]
 replace h:=Zp c30 h
 refine zQ [2,3,14] ?_
 refine Zn (t:=(a0.Kind == 1)) rfl (fun c29 => ?_) (fun c29 => ?_)
 ·replace h:=Zq c29 h
  obtain ⟨z7,hz7,h⟩:=bC h
  refine Xt (E':=⟨44,[],[(4,.val (.bool z7))]⟩) (O':=(Zu O n [none,none])) (n0:=(n+2)) ?_ ?_
  ·obtain ⟨y14,hy14,hz7⟩:=bC hz7
   obtain ⟨y15,hy15,hz7⟩:=bC hz7
   obtain ⟨y16,hy16,hz7⟩:=bC hz7
   rcases Bool.eq_false_or_eq_true y16 with c20 | c20
   ·replace hz7:=Zq c20 hz7
    obtain ⟨y17,hy17,hz7⟩:=bC hz7
    obtain ⟨y18,hy18,hz7⟩:=bC hz7
    obtain ⟨y19,hy19,hz7⟩:=bC hz7
    refine Vh Zz (by kernel_rfl) [some true,some true,some true,some true,some true,some true,some true] (by kernel_rfl) ?_
    refine zX1 c20 ?_
    refine PCall.of (Zcd hy14) ?_
    refine zX1 c20 ?_
    refine PCall.of (Zcd hy15) ?_
    refine zX1 c20 ?_
    refine PCall.of (Vr hy16) ?_
    refine zX1 c20 ?_
    refine PCall.of (Zjb hy17) ?_
    refine zX1 c20 ?_
    refine PCall.of (Zjb hy18) ?_
    refine zX1 c20 ?_
    refine PCall.of (Xi hy19) ?_
    refine zX1 c20 ?_
    exact G4 hz7 c20
   replace hz7:=Zp c20 hz7
   refine Vh Zz (by kernel_rfl) [some false,some false,some false,some false,some false,some false,some false] (by kernel_rfl) ?_
   refine zX1 c20 ?_
   refine PCall.of (Zcd hy14) ?_
   refine zX1 c20 ?_
   refine PCall.of (Zcd hy15) ?_
   refine zX1 c20 ?_
   refine PCall.of (Vr hy16) ?_
   refine zX1 c20 ?_
   exact G4 hz7 c20
  exact Xe [.val (.bool z7)]
 replace h:=Zp c29 h
 refine zKd [2,3] [true,true] ?_
 obtain ⟨z23,hz23,h⟩:=bC h
 refine Xt (E':=⟨44,[],[(4,.val (.bool z23))]⟩) (O':=(Zu O n [none,none])) (n0:=(n+2)) ?_ ?_
 ·obtain ⟨y26,hy26,hz23⟩:=bC hz23
  rcases Bool.eq_false_or_eq_true y26 with c28 | c28
  ·replace hz23:=Zq c28 hz23
   obtain ⟨y27,hy27,hz23⟩:=bC hz23
   refine Zbv [some true,some true,some true,some true,some true] c28 ?_
   refine (Vr hy26).then ?_
   refine zX1 c28 ?_
   refine (Xi hy27).then ?_
   refine zX1 c28 ?_
   exact G4 hz23 c28
  replace hz23:=Zp c28 hz23
  refine Zbv [some false,some false,some false,some false,some false] c28 ?_
  refine (Vr hy26).then ?_
  refine zX1 c28 ?_
  exact G4 hz23 c28
 exact Xe [.val (.bool z23)]
theorem Gi {V9:(S_api_Tree→S_api_Tree→Option Bool)} {Zo:((List S_api_Tree)→(List S_api_Tree)→Option Bool)} (Zqw:Zlu V9) (Xi:Xh Zo) {a0:(List S_api_Tree)} {a1:(List S_api_Tree)} {r:Bool} {O:Objs} {n:Nat} (h:Yg V9 Zo a0 a1=some r):GTo Try.prog 109 [.sl a0.length (fl Za a0),.sl a1.length (fl Za a1),.fn 70 0 []] O n (.val (.bool r)) O n:=by
 unfold Yg at h
 refine zFn Try.call109 Try.func109 fun hU hN0 hN => ?_
 show W _ _ _ _ ⟨32,[],[(0,.sl a0.length (fl Za a0)),(1,.sl a1.length (fl Za a1)),(2,.fn 70 0 [])]⟩ (Zu O n []) _
 refine zQ [0,1,2] ?_
 refine Zj ?_
 refine zQ [0,1,2,14] ?_
 refine Zn (t:=((a0.length:Int) != (a1.length:Int))) rfl (fun c10 => ?_) (fun c10 => ?_)
 ·replace h:=Zq c10 h
  refine zQ [6] ?_
  exact Xe [.val (.bool false)]
 replace h:=Zp c10 h
 refine zKd [0,1,2] [] ?_
 refine Zj ?_
 refine zQd [1,2,15,16,17] [1,2,15,16,17] [] ?_
 obtain ⟨z9,hz9,h⟩:=bC h
 refine Zee (J:=(K5 (fun z9=>JR n (⟨32,[],[(6,.val (.bool false))]⟩:Env) (Zu O n []) n) (fun z9=>JX 0 n (⟨32,[],[]⟩:Env) (Zu O n []) n))) (z:=z9) ?_ fun hw => ?_
 ·refine Xr hz9 (fun s0_=>⟨32,[],[(1,.sl a1.length (fl Za a1)),(2,.fn 70 0 []),(15,.sl a0.length (fl Za a0)),(16,.val (.int .i64 (a0.length:Int))),(17,.val (.int .i64 s0_))]⟩) (fun s0_=>(Zu O n [])) (K5 (fun z9=>JR n (⟨32,[],[(6,.val (.bool false))]⟩:Env) (Zu O n []) n) (fun z9=>JX 0 n (⟨32,[],[]⟩:Env) (Zu O n []) n)) ?_
  intro s0_ x0_ hs0_
  unfold Yc at hs0_
  try dsimp only
  refine zQ [1,2,15,16,17,18] ?_
  refine Zj ?_
  refine Zn (t:=(decide (s0_ < (a0.length:Int)))) rfl (fun c8 => ?_) (fun c8 => ?_)
  ·replace hs0_:=Zq c8 hs0_
   refine zKd [1,2,15,16,17] [] ?_
   refine Zj ?_
   refine Yy ?_
   refine Zj ?_
   obtain ⟨x2,hx2,ax2,bx2,cx2,hs0_⟩:=bE (f:=Za) Gr (fun _=>rfl) (by decide) hs0_
   refine Ziu [] ax2 bx2 cx2 ?_
   refine zDs [1,2,7,8,15,16,17] [true] ?_
   obtain ⟨x4,hx4,ax4,bx4,cx4,hs0_⟩:=bE (f:=Za) Gr (fun _=>rfl) (by decide) hs0_
   refine Ziu [] ax4 bx4 cx4 ?_
   refine zDs [1,2,8,9,15,16,17] [true,true] ?_
   obtain ⟨y6,hy6,hs0_⟩:=bC hs0_
   refine zCd (Zqw hy6) [1,2,15,16,17,30] [false,false] ?_
   refine Zn (t:=(!y6)) rfl (fun c7 => ?_) (fun c7 => ?_)
   ·replace hs0_:=Zq c7 hs0_
    refine zQ [6] ?_
    refine zW ?_
    exact zEy hs0_
   replace hs0_:=Zp c7 hs0_
   refine zKd [1,2,15,16,17] [false,false] ?_
   refine zR ?_
   exact zEn hs0_
  replace hs0_:=Zp c8 hs0_
  exact zEx hs0_
 rcases z9 with z9 | z9
 ·dsimp only [K5] at hw h
  refine Uz hw ?_
  try simp only [Xf,Yn,↓reduceIte,Nat.reduceEqDiff]
  exact Zq7 [.val (.bool false)]
 dsimp only [K5] at hw h
 refine Y9 hw ?_
 try simp only [Xf,Yn,↓reduceIte,Nat.reduceEqDiff]
 refine zD [] [] ?_
 refine zQ [6] ?_
 exact Xe [.val (.bool true)]
theorem Zps:∀ k,(Zlu ((X3 k).1))∧(Xh ((X3 k).2)):=fun k=>by
 induction k with
 | zero=>exact ⟨@fun a0 a1 r O n h=>(nomatch (show (none:Option _)=some _ from h)),@fun a0 a1 r O n h=>(nomatch (show (none:Option _)=some _ from h))⟩
 | succ k ih=>exact ⟨@fun a0 a1 r O n h=>Z0j (ih.1) (ih.2)  h,@fun a0 a1 r O n h=>Gi (ih.1) (ih.2)  h⟩
theorem Z09 {a0:S_api_Tree} {a1:S_api_Tree} {r:Bool} {O:Objs} {n:Nat} (h:Zqe a0 a1=some r):GTo Try.prog 70 [.agg (Zi a0),.agg (Zi a1)] O n (.val (.bool r)) O n:=by
 obtain ⟨k,hk⟩:=Zcr h
 exact (Zps k).1  hk
theorem Qs {a0:(List S_api_Tree)} {a1:(List S_api_Tree)} {r:Bool} {O:Objs} {n:Nat} (h:Y1 a0 a1=some r):GTo Try.prog 109 [.sl a0.length (fl Za a0),.sl a1.length (fl Za a1),.fn 70 0 []] O n (.val (.bool r)) O n:=by
 obtain ⟨k,hk⟩:=Zcr h
 exact (Zps k).2  hk
theorem Zda {a0 r:List Int} {O:Objs} {n:Nat} (h:Zaz a0=some r):GTo Try.prog 110 [.sl a0.length (fl (eI .u64) a0)] O n (.row n r.length) (Zu O n [some ⟨true,40,1,r.length,fl (eI .u64) r⟩]) (n+1):=by
 have h1:=Z2d h
 have h2:=Z2e h
 have h3:=Zyu h
 rw [List.nil_append] at h3
 subst h3
 simp only [List.length_nil,Nat.zero_add] at h1 h2
 clear h
 refine zFn Try.call110 Try.func110 fun hU hN0 hN => ?_
 show W _ _ _ _ ⟨8,[],[(0,.sl r.length (fl (eI .u64) r))]⟩ (Zu O n []) _
 refine zQ [0] ?_
 refine Z5o 0 r.length (fl (eI .u64) r) rfl (Nat.le_of_ble_eq_true rfl) (Yh Um _) fun A c hA => ?_
 refine zQ [0,4] ?_
 cases A with
 | none =>
  obtain rfl:r=[]:=List.eq_nil_of_length_eq_zero (hA rfl)
  refine Zn (t:=true) rfl (fun _ => ?_) (fun hc=>by cases hc)
  refine zQ [2] ?_
  refine zW ?_
  refine Zzr (k:=1) (L3:=[some ⟨true,40,1,0,[]⟩]) (E2:=⟨8,[],[(2,.row n 0),(2,.val (.slice none 0 0))]⟩) (n3:=(n+1)) (.inr rfl) hU rfl [.row n 0] ?_ ?_
  ·have ha:=Zl7 (ba:=n) (E:=⟨8,[],[(2,.val (.slice none 0 0))]⟩) (O:=(Zu O n [])) (n:=n) 2 40 1 rfl (by omega)
   simp only [Yk] at ha
   exact ha
  simp only [push_cast,seval,↓reduceIte,Zk,Try.results110,hN0,hN]
 | some A =>
  refine Zn (t:=false) rfl (fun hc=>by cases hc) (fun _ => ?_)
  refine zK ?_
  refine And.intro rfl (And.intro (Nat.le_of_ble_eq_true rfl) ?_)
  refine Zj ?_
  refine Xa Zz [] ?_
  simp only [push_cast,seval,↓reduceIte,Zk,h1,h2,hN0,hN]
  refine zW ?_
  refine Zzq (.inr rfl) hU rfl [.row n r.length] (by omega) ?_
  simp only [push_cast,seval,↓reduceIte,Zk,Try.results110,hN0,hN]
theorem Uu {a0 r:List S_api_Tree} {O:Objs} {n:Nat} (h:U2 a0=some r):GTo Try.prog 111 [.sl a0.length (fl Za a0)] O n (.row n r.length) (Zu O n [some ⟨true,25,3,r.length,fl Za r⟩]) (n+1):=by
 have h1:=Z2d h
 have h2:=Z2e h
 have h3:=Zyu h
 rw [List.nil_append] at h3
 subst h3
 simp only [List.length_nil,Nat.zero_add] at h1 h2
 clear h
 refine zFn Try.call111 Try.func111 fun hU hN0 hN => ?_
 show W _ _ _ _ ⟨8,[],[(0,.sl r.length (fl Za r))]⟩ (Zu O n []) _
 refine zQ [0] ?_
 refine Z5o 0 r.length (fl Za r) rfl (Nat.le_of_ble_eq_true rfl) (Yh Xj _) fun A c hA => ?_
 refine zQ [0,4] ?_
 cases A with
 | none =>
  obtain rfl:r=[]:=List.eq_nil_of_length_eq_zero (hA rfl)
  refine Zn (t:=true) rfl (fun _ => ?_) (fun hc=>by cases hc)
  refine zQ [2] ?_
  refine zW ?_
  refine Zzr (k:=1) (L3:=[some ⟨true,25,3,0,[]⟩]) (E2:=⟨8,[],[(2,.row n 0),(2,.val (.slice none 0 0))]⟩) (n3:=(n+1)) (.inr rfl) hU rfl [.row n 0] ?_ ?_
  ·have ha:=Zl7 (ba:=n) (E:=⟨8,[],[(2,.val (.slice none 0 0))]⟩) (O:=(Zu O n [])) (n:=n) 2 25 3 rfl (by omega)
   simp only [Yk] at ha
   exact ha
  simp only [push_cast,seval,↓reduceIte,Zk,Try.results111,hN0,hN]
 | some A =>
  refine Zn (t:=false) rfl (fun hc=>by cases hc) (fun _ => ?_)
  refine zK ?_
  refine And.intro rfl (And.intro (Nat.le_of_ble_eq_true rfl) ?_)
  refine Zj ?_
  refine Xa Zz [] ?_
  simp only [push_cast,seval,↓reduceIte,Zk,h1,h2,hN0,hN]
  refine zW ?_
  refine Zzq (.inr rfl) hU rfl [.row n r.length] (by omega) ?_
  simp only [push_cast,seval,↓reduceIte,Zk,Try.results111,hN0,hN]
theorem Z24 {a0:S_api_Tree} {a1:Int} {r:Int} {O:Objs} {n:Nat} (h:Zj8 a0 a1=some r):GTo Try.prog 112 [.agg (Zi a0),.val (.int .i64 a1)] O n (.val (.int .u64 r)) O n:=by
 unfold Zj8 at h
 refine zFn Try.call112 Try.func112 fun hU hN0 hN => ?_
 show W _ _ _ _ ⟨19,[],[(0,.agg (Zi a0)),(1,.val (.int .i64 a1))]⟩ (Zu O n []) _
 refine zQ [1,2] ?_
 refine Zj ?_
 refine zQD [1,2,13] [none,none,none,none,none] ?_
 refine Zn (t:=(cond (decide (a1 < 0)) true (decide ((a0.Words.length:Int)≤a1)))) rfl (fun c3 => ?_) (fun c3 => ?_)
 ·replace h:=Zq c3 h
  refine zQ [4] ?_
  exact Xe [.val (.int .u64 0)]
 replace h:=Zp c3 h
 refine zKd [1,2] [true] ?_
 obtain ⟨x2,hx2,ax2,bx2,cx2,h⟩:=bE (f:=(eI .u64)) Zi1 (fun _=>rfl) (by decide) h
 refine Zuc [4] (Xa Zz [] ?_)
 refine zF3 ax2 bx2 cx2 ?_
 exact Xe [.val (.int .u64 x2)]
theorem Zja {a0:Int} {r:Bool} {O:Objs} {n:Nat} (h:Zbx a0=some r):GTo Try.prog 113 [.val (.int .i64 a0)] O n (.val (.bool r)) O n:=by
 unfold Zbx at h
 refine zFn Try.call113 Try.func113 fun hU hN0 hN => ?_
 show W _ _ _ _ ⟨9,[],[(0,.val (.int .i64 a0))]⟩ (Zu O n []) _
 refine zQ [0] ?_
 refine zQD [2] [none,none] ?_
 exact Xe [.val (.bool (cond (decide (a0 < 0)) true (decide (65534 < a0))))]
theorem Zqf {a0:Int} {r:Int} {O:Objs} {n:Nat} (h:Zc9 a0=some r):GTo Try.prog 43 [.val (.int .u8 a0)] O n (.val (.int .u64 r)) O n:=by
 unfold Zc9 at h
 refine zFn Try.call43 Try.func43 fun hU hN0 hN => ?_
 show W _ _ _ _ ⟨20,[],[(0,.val (.int .u8 a0))]⟩ (Zu O n []) _
 refine zQ [0] ?_
 refine zQ [0,3] ?_
 refine Zj ?_
 refine zQd [0,3,5] [0,3,5] [] ?_
 obtain ⟨z7,hz7,h⟩:=bC h
 refine Y9 (E':=⟨20,[],[(3,.val (.int .u64 z7))]⟩) (O':=(Zu O n [])) (n0:=n) ?_ ?_
 ·refine Xr hz7 (fun s0_=>⟨20,[],[(0,.val (.int .u8 a0)),(3,.val (.int .u64 s0_.1)),(5,.val (.int .i64 s0_.2))]⟩) (fun s0_=>(Zu O n [])) (fun z7=>JX 0 n (⟨20,[],[(3,.val (.int .u64 z7))]⟩:Env) (Zu O n []) n) ?_
  intro s0_ x0_ hs0_
  unfold Ze9 at hs0_
  try dsimp only
  refine zQ [0,3,5,6] ?_
  refine Zj ?_
  refine Zn (t:=(decide (s0_.2 < 8))) rfl (fun c6 => ?_) (fun c6 => ?_)
  ·replace hs0_:=Zq c6 hs0_
   refine zKd [0,3,5] [] ?_
   obtain ⟨z1,hz1,hs0_⟩:=bC hs0_
   refine Xt (E':=⟨20,[],[(0,.val (.int .u8 a0)),(3,.val (.int .u64 z1)),(5,.val (.int .i64 s0_.2))]⟩) (O':=(Zu O n [])) (n0:=n) ?_ ?_
   ·refine Yy ?_
    refine zQ [0,3,4,5] ?_
    obtain ⟨pu3,hz1⟩:=bG hz1
    refine Zuc [0,3,4,5,12] (Xa Zz [] ?_)
    simp only [push_cast,seval,↓reduceIte,Zk,pu3,hN0,hN]
    refine Zn (t:=((IntKind.u8.wrap (Zii .u8 (Int.fdiv a0 (2 ^ min (Int.toNat s0_.2) 8)) 1)) == 1)) rfl (fun c5 => ?_) (fun c5 => ?_)
    ·replace hz1:=Zq c5 hz1
     obtain ⟨pu4,hz1⟩:=bG hz1
     refine Xa Zz [] ?_
     simp only [push_cast,seval,↓reduceIte,Zk,pu4,hN0,hN]
     have hz1:=Option.some.inj hz1;subst hz1
     refine And.intro rfl (Fit2.of (Yj hU rfl rfl ?_) (by omega))
     simp only [push_cast,seval,↓reduceIte,Zk,pu4,hN0,hN]
    replace hz1:=Zp c5 hz1
    refine zK ?_
    exact zEn hz1
   refine zR ?_
   exact zEn hs0_
  replace hs0_:=Zp c6 hs0_
  exact zEx hs0_
 try simp only [Xf,Yn,↓reduceIte,Nat.reduceEqDiff]
 refine zD [3] [] ?_
 refine zQ [2] ?_
 exact Xe [.val (.int .u64 z7)]
theorem Zrt {a0:Int} {a1:Int} {a2:Int} {r:Int} {O:Objs} {n:Nat} (h:Ze8 a0 a1 a2=some r):GTo Try.prog 44 [.val (.int .u64 a0),.val (.int .u64 a1),.val (.int .u8 a2)] O n (.val (.int .u64 r)) O n:=by
 unfold Ze8 at h
 refine zFn Try.call44 Try.func44 fun hU hN0 hN => ?_
 show W _ _ _ _ ⟨17,[],[(0,.val (.int .u64 a0)),(1,.val (.int .u64 a1)),(2,.val (.int .u8 a2))]⟩ (Zu O n []) _
 refine zQ [0,1,2] ?_
 refine Zj ?_
 obtain ⟨y2,hy2,h⟩:=bC h
 refine zCd (Zqf hy2) [0,1,7] [] ?_
 refine zQ [6] ?_
 exact Xe [.val (.int .u64 (IntKind.u64.wrap (Zuk .u64 (IntKind.u64.wrap (Z1t .u64 a0 y2)) (IntKind.u64.wrap (Zii .u64 a1 y2)))))]
theorem Zwq {a0:S_api_Tree} {a1:Int} {a2:Int} {r:S_api_Tree} {O:Objs} {n:Nat} {i0 j0_0 j0_1:Nat} (hi0:i0 < n) (Za9:j0_0 < n) (Zjy:j0_1 < n) (V5:i0≠j0_0) (Zbn:i0≠j0_1) (Zbm:j0_0≠j0_1) (ho0:O i0=some ⟨false,25,3,1,[.val (.int .i64 a0.Kind),.row j0_1 a0.Words.length,.row j0_0 a0.Kids.length]⟩) (Zbo:O j0_0=some ⟨true,25,3,a0.Kids.length,fl Za a0.Kids⟩) (Zmg:O j0_1=some ⟨true,40,1,a0.Words.length,fl (eI .u64) a0.Words⟩) (h:Zd1 a0 a1 a2=some r):GTo Try.prog 114 [.ref i0 0,.val (.int .i64 a1),.val (.int .u64 a2)] O n (.tup []) (Zu (((O.upd j0_0 none).upd j0_1 none).upd i0 (some ⟨false,25,3,1,[.val (.int .i64 r.Kind),.row (n+1) r.Words.length,.row n r.Kids.length]⟩)) n [some ⟨true,25,3,r.Kids.length,fl Za r.Kids⟩,some ⟨true,40,1,r.Words.length,fl (eI .u64) r.Words⟩]) (n+2):=by
 unfold Zd1 at h
 refine Zqs Zz Try.call114 Try.func114 rfl (Nat.le_of_ble_eq_true rfl) (by omega) fun hU => ?_
 have e0:=Un (ba:=n) (E:=⟨40,[],Zf7 0 [.ref i0 0,.val (.int .i64 a1),.val (.int .u64 a2)]⟩) (O:=(Zu O n [])) (n:=n) (i:=i0) (j:=j0_0) (k:=2) (len:=a0.Kids.length) (q:=⟨false,25,3,1,[.val (.int .i64 a0.Kind),.row j0_1 a0.Words.length,.row j0_0 a0.Kids.length]⟩) (qj:=⟨true,25,3,a0.Kids.length,fl Za a0.Kids⟩) (by rw [Yl _ hi0];first | exact ho0 | exact Yb _ _ _) rfl (by rw [Yl _ Za9];exact Zbo) V5 (by omega)
 simp only [Yp _ _ Za9,Yp _ _ hi0,Y2,Yk,X5,Zcx V5,List.set_cons_zero,List.set_cons_succ,List.cons_append,List.nil_append,List.length_cons,List.length_nil,Nat.zero_add,Nat.reduceAdd,Nat.add_assoc] at e0
 refine Vn e0 ?_
 have e1:=Un (ba:=n) (E:=⟨40,[],Zf7 0 [.ref i0 0,.val (.int .i64 a1),.val (.int .u64 a2)]⟩) (O:=(Zu ((O.upd j0_0 none).upd i0 (some ⟨false,25,3,1,[.val (.int .i64 a0.Kind),.row j0_1 a0.Words.length,.row n a0.Kids.length]⟩)) n [some ⟨true,25,3,a0.Kids.length,fl Za a0.Kids⟩])) (n:=(n+1)) (i:=i0) (j:=j0_1) (k:=1) (len:=a0.Words.length) (q:=⟨false,25,3,1,[.val (.int .i64 a0.Kind),.row j0_1 a0.Words.length,.row n a0.Kids.length]⟩) (qj:=⟨true,40,1,a0.Words.length,fl (eI .u64) a0.Words⟩) (by rw [Yl _ hi0];first | exact ho0 | exact Yb _ _ _) rfl (by rw [Yl _ Zjy,Xd _ _ (Ne.symm Zbn),Xd _ _ (Ne.symm Zbm)];exact Zmg) Zbn (by omega)
 simp only [Yp _ _ Zjy,Yp _ _ hi0,Y2,Yk,X5,Zcx Zbn,List.set_cons_zero,List.set_cons_succ,List.cons_append,List.nil_append,List.length_cons,List.length_nil,Nat.zero_add,Nat.reduceAdd,Nat.add_assoc] at e1
 refine Vn e1 ?_
 have hU:=(Und.drop (Und.drop hU j0_0) j0_1)
 have hk0:∀ k,i0 < n+k:=fun k=>by omega
 have hN0:∀ o,Objs.upd ((O.upd j0_0 none).upd j0_1 none) i0 o n=none:=fun o=>Kf hU hi0 _ (Nat.le_refl _)
 have hN:∀ o k,Objs.upd ((O.upd j0_0 none).upd j0_1 none) i0 o (n+k)=none:=fun o k=>Kf hU hi0 _ (Nat.le_add_right _ _)
 show W _ _ _ _ ⟨40,[],[(0,.ref i0 0),(1,.val (.int .i64 a1)),(2,.val (.int .u64 a2))]⟩ (Zu (((O.upd j0_0 none).upd j0_1 none).upd i0 (some ⟨false,25,3,1,[.val (.int .i64 a0.Kind),.row (n+1) a0.Words.length,.row n a0.Kids.length]⟩)) n [some ⟨true,25,3,a0.Kids.length,fl Za a0.Kids⟩,some ⟨true,40,1,a0.Words.length,fl (eI .u64) a0.Words⟩]) _
 refine Zj ?_
 refine zD [0,1,2] [true,true] ?_
 obtain ⟨z3,hz3,h⟩:=bC h
 refine Y9 (E':=⟨40,[],[(0,.ref i0 0),(1,.val (.int .i64 a1)),(2,.val (.int .u64 a2))]⟩) (O':=(Zu (((O.upd j0_0 none).upd j0_1 none).upd i0 (some ⟨false,25,3,1,[.val (.int .i64 a0.Kind),.row (n+1) z3.length,.row n a0.Kids.length]⟩)) n [some ⟨true,25,3,a0.Kids.length,fl Za a0.Kids⟩,some ⟨true,40,1,z3.length,fl (eI .u64) z3⟩])) (n0:=(n+2)) ?_ ?_
 ·refine Xr hz3 (fun s0_=>⟨40,[],[(0,.ref i0 0),(1,.val (.int .i64 a1)),(2,.val (.int .u64 a2))]⟩) (fun s0_=>(Zu (((O.upd j0_0 none).upd j0_1 none).upd i0 (some ⟨false,25,3,1,[.val (.int .i64 a0.Kind),.row (n+1) s0_.length,.row n a0.Kids.length]⟩)) n [some ⟨true,25,3,a0.Kids.length,fl Za a0.Kids⟩,some ⟨true,40,1,s0_.length,fl (eI .u64) s0_⟩])) (fun z3=>JX 0 n (⟨40,[],[(0,.ref i0 0),(1,.val (.int .i64 a1)),(2,.val (.int .u64 a2))]⟩:Env) (Zu (((O.upd j0_0 none).upd j0_1 none).upd i0 (some ⟨false,25,3,1,[.val (.int .i64 a0.Kind),.row (n+1) z3.length,.row n a0.Kids.length]⟩)) n [some ⟨true,25,3,a0.Kids.length,fl Za a0.Kids⟩,some ⟨true,40,1,z3.length,fl (eI .u64) z3⟩]) (n+2)) ?_
  intro s0_ x0_ hs0_
  unfold Zbq at hs0_
  try dsimp only
  refine Zj ?_
  refine Zuc [0,1,2,16] (Xa Zz [none,none] ?_)
  refine zX2 hi0 hk0 ?_
  refine zG ?_
  refine Zn (t:=(cond (decide ((s0_.length:Int)≤a1)) (a2 != 0) false)) rfl (fun c2 => ?_) (fun c2 => ?_)
  ·replace hs0_:=Zq c2 hs0_
   refine zKd [0,1,2] [true,true] ?_
   refine Yy ?_
   obtain ⟨l1,pl1,ql1,el1,hs0_⟩:=bA (k:=1) rfl hs0_
   refine Ygb [] pl1 ql1 el1 hi0 hk0 ?_
   have hs0_:=Option.some.inj hs0_;subst hs0_
   refine And.intro rfl (Fit2.of (Ya hU rfl rfl ?_) (by omega))
   exact Ygc pl1 ql1 el1 hi0 hk0
  replace hs0_:=Zp c2 hs0_
  refine zXt ?_
  have hs0_:=Option.some.inj hs0_;subst hs0_
  refine And.intro (fun h=>by cases h) (And.intro rfl (Fit2.of (Ya hU rfl rfl ?_) (by omega)))
  exact Ve hi0 hk0
 try simp only [Xf,Yn,↓reduceIte,Nat.reduceEqDiff]
 refine zD [0,1,2] [true,true] ?_
 refine Zdv [0,1,2,32] hi0 hk0 ?_
 refine Zn (t:=(decide (a1 < (z3.length:Int)))) rfl (fun c6 => ?_) (fun c6 => ?_)
 ·replace h:=Zq c6 h
  obtain ⟨x4,hx4,ax4,bx4,cx4,h⟩:=bE (f:=(eI .u64)) Zi1 (fun _=>rfl) (by decide) h
  have gu5:U1 (fl (eI .u64) z3) [.val (.int .u64 a2)] (Int.toNat a1 * 1)=some (fl (eI .u64) (Zg6 z3 a1 a2)):=Zpq (f:=(eI .u64)) (ti:=⟨.bool,1,0,[],false⟩) (x:=a2) (fun _=>rfl) (Zie hx4)
  refine Yga [] ax4 bx4 cx4 gu5 hi0 hk0 ?_
  have h:=Option.some.inj h;subst h
  refine Vk (k:=2) (i:=i0) (q1:=⟨false,25,3,1,[.val (.int .i64 a0.Kind),.row (n+1) (Zg6 z3 a1 a2).length,.row n a0.Kids.length]⟩) (L3:=[some ⟨true,25,3,a0.Kids.length,fl Za a0.Kids⟩,some ⟨true,40,1,(Zg6 z3 a1 a2).length,fl (eI .u64) (Zg6 z3 a1 a2)⟩,none]) (E2:=(⟨40,[],[]⟩:Env)) (n3:=(n+3)) (.inl rfl) hU rfl [] ?_ ?_
  ·refine Fit2.trans (E':=(⟨40,[],[]⟩:Env)) (O':=(Zu (((O.upd j0_0 none).upd j0_1 none).upd i0 (some ⟨false,25,3,1,[.val (.int .i64 a0.Kind),.row (n+1) (Zg6 z3 a1 a2).length,.row n a0.Kids.length]⟩)) n [some ⟨true,25,3,a0.Kids.length,fl Za a0.Kids⟩,some ⟨true,40,1,(Zg6 z3 a1 a2).length,fl (eI .u64) (Zg6 z3 a1 a2)⟩])) (n':=(n+2)) (Fit2.of (Ya hU rfl rfl ?_) (by omega)) ?_
   ·exact Yf8 ax4 bx4 cx4 gu5 hi0 hk0
   refine Qq (k:=2) (k':=3) hU [0,1] [0,1,0] rfl rfl rfl rfl ⟨rfl,rfl⟩ ?_
   exact Ve hi0 hk0
  simp only [push_cast,seval,↓reduceIte,Zk,Try.results114,hi0,hk0,hN0,hN]
 replace h:=Zp c6 h
 refine zK ?_
 have h:=Option.some.inj h;subst h
 refine Vk (k:=2) (i:=i0) (q1:=⟨false,25,3,1,[.val (.int .i64 a0.Kind),.row (n+1) z3.length,.row n a0.Kids.length]⟩) (L3:=[some ⟨true,25,3,a0.Kids.length,fl Za a0.Kids⟩,some ⟨true,40,1,z3.length,fl (eI .u64) z3⟩,none]) (E2:=(⟨40,[],[]⟩:Env)) (n3:=(n+3)) (.inl rfl) hU rfl [] ?_ ?_
 ·refine Fit2.trans (E':=(⟨40,[],[]⟩:Env)) (O':=(Zu (((O.upd j0_0 none).upd j0_1 none).upd i0 (some ⟨false,25,3,1,[.val (.int .i64 a0.Kind),.row (n+1) z3.length,.row n a0.Kids.length]⟩)) n [some ⟨true,25,3,a0.Kids.length,fl Za a0.Kids⟩,some ⟨true,40,1,z3.length,fl (eI .u64) z3⟩])) (n':=(n+2)) (Fit2.of (Ya hU rfl rfl ?_) (by omega)) ?_
  ·exact Ve hi0 hk0
  refine Qq (k:=2) (k':=3) hU [0,1] [0,1,0] rfl rfl rfl rfl ⟨rfl,rfl⟩ ?_
  exact Ve hi0 hk0
 simp only [push_cast,seval,↓reduceIte,Zk,Try.results114,hi0,hk0,hN0,hN]
theorem Zxh {a0:S_api_Tree} {a1:Int} {r:S_api_Tree} {O:Objs} {n:Nat} (h:Zmk a0 a1=some r):GTo Try.prog 115 [.agg (Zi a0),.val (.int .i64 a1)] O n (.agg (Zi r)) O n:=by
 unfold Zmk at h
 refine zFn Try.call115 Try.func115 fun hU hN0 hN => ?_
 show W _ _ _ _ ⟨20,[],[(0,.agg (Zi a0)),(1,.val (.int .i64 a1))]⟩ (Zu O n []) _
 refine zQ [1,2,4] ?_
 refine Zj ?_
 refine zQD [1,2,4,13] [none,none,none,none,none] ?_
 refine Zn (t:=(cond (decide (a1 < 0)) true (decide ((a0.Kids.length:Int)≤a1)))) rfl (fun c3 => ?_) (fun c3 => ?_)
 ·replace h:=Zq c3 h
  refine Zj ?_
  refine zRd [4] [false,true] ?_
  exact Xe [.agg [.val (.int .i64 0),.val (.slice none 0 0),.val (.slice none 0 0)]]
 replace h:=Zp c3 h
 refine zKd [1,2,4] [true,true] ?_
 refine Zj ?_
 obtain ⟨x2,hx2,ax2,bx2,cx2,h⟩:=bE (f:=Za) Gr (fun _=>rfl) (by decide) h
 refine Ziu [] ax2 bx2 cx2 ?_
 refine zD [4] [false,true] ?_
 exact Xe [.agg (Zi x2)]
theorem Zyn {a0:S_api_Tree} {a1:Int} {a2:S_api_Tree} {r:S_api_Tree} {O:Objs} {n:Nat} {i0 j0_0:Nat} (hi0:i0 < n) (Za9:j0_0 < n) (V5:i0≠j0_0) (ho0:O i0=some ⟨false,25,3,1,[.val (.int .i64 a0.Kind),.sl a0.Words.length (fl (eI .u64) a0.Words),.row j0_0 a0.Kids.length]⟩) (Zbo:O j0_0=some ⟨true,25,3,a0.Kids.length,fl Za a0.Kids⟩) (h:Ze6 a0 a1 a2=some r):GTo Try.prog 116 [.ref i0 0,.val (.int .i64 a1),.agg (Zi a2)] O n (.tup []) (Zu ((O.upd j0_0 none).upd i0 (some ⟨false,25,3,1,[.val (.int .i64 r.Kind),.sl r.Words.length (fl (eI .u64) r.Words),.row n r.Kids.length]⟩)) n [some ⟨true,25,3,r.Kids.length,fl Za r.Kids⟩]) (n+1):=by
 unfold Ze6 at h
 refine Zqs Zz Try.call116 Try.func116 rfl (Nat.le_of_ble_eq_true rfl) (by omega) fun hU => ?_
 have e0:=Un (ba:=n) (E:=⟨43,[],Zf7 0 [.ref i0 0,.val (.int .i64 a1),.agg [.val (.int .i64 a2.Kind),.sl a2.Words.length (fl (eI .u64) a2.Words),.sl a2.Kids.length (fl Za a2.Kids)]]⟩) (O:=(Zu O n [])) (n:=n) (i:=i0) (j:=j0_0) (k:=2) (len:=a0.Kids.length) (q:=⟨false,25,3,1,[.val (.int .i64 a0.Kind),.sl a0.Words.length (fl (eI .u64) a0.Words),.row j0_0 a0.Kids.length]⟩) (qj:=⟨true,25,3,a0.Kids.length,fl Za a0.Kids⟩) (by rw [Yl _ hi0];first | exact ho0 | exact Yb _ _ _) rfl (by rw [Yl _ Za9];exact Zbo) V5 (by omega)
 simp only [Yp _ _ Za9,Yp _ _ hi0,Y2,Yk,X5,Zcx V5,List.set_cons_zero,List.set_cons_succ,List.cons_append,List.nil_append,List.length_cons,List.length_nil,Nat.zero_add,Nat.reduceAdd,Nat.add_assoc] at e0
 refine Vn e0 ?_
 have hU:=(Und.drop hU j0_0)
 have hk0:∀ k,i0 < n+k:=fun k=>by omega
 have hN0:∀ o,Objs.upd (O.upd j0_0 none) i0 o n=none:=fun o=>Kf hU hi0 _ (Nat.le_refl _)
 have hN:∀ o k,Objs.upd (O.upd j0_0 none) i0 o (n+k)=none:=fun o k=>Kf hU hi0 _ (Nat.le_add_right _ _)
 show W _ _ _ _ ⟨43,[],[(0,.ref i0 0),(1,.val (.int .i64 a1)),(2,.agg (Zi a2))]⟩ (Zu ((O.upd j0_0 none).upd i0 (some ⟨false,25,3,1,[.val (.int .i64 a0.Kind),.sl a0.Words.length (fl (eI .u64) a0.Words),.row n a0.Kids.length]⟩)) n [some ⟨true,25,3,a0.Kids.length,fl Za a0.Kids⟩]) _
 refine Zdv [0,1,5] hi0 hk0 ?_
 refine Zj ?_
 refine zD [0,1,5] [true,true] ?_
 obtain ⟨z5,hz5,h⟩:=bC h
 refine Y9 (E':=⟨43,[],[(0,.ref i0 0),(1,.val (.int .i64 a1)),(5,.ref (n+1) 0)]⟩) (O':=(Zu ((O.upd j0_0 none).upd i0 (some ⟨false,25,3,1,[.val (.int .i64 a0.Kind),.sl a0.Words.length (fl (eI .u64) a0.Words),.row n z5.length]⟩)) n [some ⟨true,25,3,z5.length,fl Za z5⟩,some ⟨false,25,3,1,(Zi a2)⟩])) (n0:=(n+2)) ?_ ?_
 ·refine Xr hz5 (fun s0_=>⟨43,[],[(0,.ref i0 0),(1,.val (.int .i64 a1)),(5,.ref (n+1) 0)]⟩) (fun s0_=>(Zu ((O.upd j0_0 none).upd i0 (some ⟨false,25,3,1,[.val (.int .i64 a0.Kind),.sl a0.Words.length (fl (eI .u64) a0.Words),.row n s0_.length]⟩)) n [some ⟨true,25,3,s0_.length,fl Za s0_⟩,some ⟨false,25,3,1,(Zi a2)⟩])) (fun z5=>JX 0 n (⟨43,[],[(0,.ref i0 0),(1,.val (.int .i64 a1)),(5,.ref (n+1) 0)]⟩:Env) (Zu ((O.upd j0_0 none).upd i0 (some ⟨false,25,3,1,[.val (.int .i64 a0.Kind),.sl a0.Words.length (fl (eI .u64) a0.Words),.row n z5.length]⟩)) n [some ⟨true,25,3,z5.length,fl Za z5⟩,some ⟨false,25,3,1,(Zi a2)⟩]) (n+2)) ?_
  intro s0_ x0_ hs0_
  unfold Zb9 at hs0_
  try dsimp only
  refine Zj ?_
  refine Zuc [0,1,5,17] (Xa Zz [none,none,none] ?_)
  refine zX2 hi0 hk0 ?_
  refine zG ?_
  refine Zn (t:=(cond (decide ((s0_.length:Int)≤a1)) (a2.Kind != 0) false)) rfl (fun c4 => ?_) (fun c4 => ?_)
  ·replace hs0_:=Zq c4 hs0_
   refine zKd [0,1,5] [true,true] ?_
   refine Yy ?_
   obtain ⟨l1,pl1,ql1,el1,hs0_⟩:=bA (k:=1) rfl hs0_
   obtain ⟨x2,hx2,ax2,bx2,cx2,hs0_⟩:=bE (f:=Za) Gr (fun _=>rfl) (by decide) hs0_
   have gu3:U1 (fl Za s0_++[.val (.int .i64 0),.val (.slice none 0 0),.val (.slice none 0 0)]) [.val (.int .i64 0),.val (.slice none 0 0),.val (.slice none 0 0)] (List.length s0_ * 3)=some (fl Za s0_++[.val (.int .i64 0),.val (.slice none 0 0),.val (.slice none 0 0)]):=Zc7 (f:=Za) (sz:=3) (fun _=>rfl) rfl rfl
   refine K6 Zz (by kernel_rfl) [.plain,.low,.low,.low,.plain,.low,.pass,.bar,.shp,.fill true,.shp,.shp,.fill false] (fun i=>i < (n+2)) [0,1,2,3,4,5,6,7,8,9,10,11,12] [.plain,.low,.low,.low,.plain,.low,.pass,.bar,.shp,.fill true,.shp,.shp,.fill false] [] (by kernel_rfl) rfl ?_
   refine zF9 pl1 ql1 el1 ax2 bx2 cx2 gu3 hi0 hk0 ?_
   refine zO ?_
   have hs0_:=Option.some.inj hs0_;subst hs0_
   refine And.intro rfl (Fit2.of (Ya hU rfl rfl ?_) (by omega))
   exact Z5j pl1 ql1 el1 ax2 bx2 cx2 gu3 hi0 hk0
  replace hs0_:=Zp c4 hs0_
  refine zXt ?_
  have hs0_:=Option.some.inj hs0_;subst hs0_
  refine And.intro (fun h=>by cases h) (And.intro rfl (Fit2.of (Ya hU rfl rfl ?_) (by omega)))
  exact Ve hi0 hk0
 try simp only [Xf,Yn,↓reduceIte,Nat.reduceEqDiff]
 refine zD [0,1,5] [true,true] ?_
 refine Zdv [0,1,5,35] hi0 hk0 ?_
 refine Zn (t:=(decide (a1 < (z5.length:Int)))) rfl (fun c8 => ?_) (fun c8 => ?_)
 ·replace h:=Zq c8 h
  obtain ⟨x6,hx6,ax6,bx6,cx6,h⟩:=bE (f:=Za) Gr (fun _=>rfl) (by decide) h
  have gu7:U1 (fl Za z5) [.val (.int .i64 a2.Kind),.sl a2.Words.length (fl (eI .u64) a2.Words),.sl a2.Kids.length (fl Za a2.Kids)] (Int.toNat a1 * 3)=some (fl Za (Zg6 z5 a1 a2)):=(congrArg (fun c=>U1 (fl Za z5) c (Int.toNat a1 * 3)) (show [.val (.int .i64 a2.Kind),.sl a2.Words.length (fl (eI .u64) a2.Words),.sl a2.Kids.length (fl Za a2.Kids)]=Za a2 from by simp only [Za,Z5,eI,eB,eS,eL])).trans (Zpq (f:=Za) (ti:=⟨.bool,3,0,[],false⟩) (x:=a2) (fun _=>rfl) (Zie hx6))
  refine Zl2 Zz (by kernel_rfl) [false,false,false,false,false,false,false,true] [] (by kernel_rfl) ?_
  refine zF6 ax6 bx6 cx6 gu7 hi0 hk0 ?_
  have h:=Option.some.inj h;subst h
  refine Vk (k:=1) (i:=i0) (q1:=⟨false,25,3,1,[.val (.int .i64 a0.Kind),.sl a0.Words.length (fl (eI .u64) a0.Words),.row n (Zg6 z5 a1 a2).length]⟩) (L3:=[some ⟨true,25,3,(Zg6 z5 a1 a2).length,fl Za (Zg6 z5 a1 a2)⟩,none]) (E2:=(⟨43,[],[]⟩:Env)) (n3:=(n+2)) (.inl rfl) hU rfl [] ?_ ?_
  ·refine Fit2.trans (E':=(⟨43,[],[]⟩:Env)) (O':=(Zu ((O.upd j0_0 none).upd i0 (some ⟨false,25,3,1,[.val (.int .i64 a0.Kind),.sl a0.Words.length (fl (eI .u64) a0.Words),.row n (Zg6 z5 a1 a2).length]⟩)) n [some ⟨true,25,3,(Zg6 z5 a1 a2).length,fl Za (Zg6 z5 a1 a2)⟩,none])) (n':=(n+2)) (Fit2.of (Ya hU rfl rfl ?_) (by omega)) ?_
   ·exact Yf8 ax6 bx6 cx6 gu7 hi0 hk0
   refine Qq (k:=2) (k':=2) hU [0,1] [0,0] rfl rfl rfl rfl ⟨rfl,rfl⟩ ?_
   exact Ve hi0 hk0
  simp only [push_cast,seval,↓reduceIte,Zk,Try.results116,hi0,hk0,hN0,hN]
 replace h:=Zp c8 h
 refine zK ?_
 have h:=Option.some.inj h;subst h
 refine Vk (k:=1) (i:=i0) (q1:=⟨false,25,3,1,[.val (.int .i64 a0.Kind),.sl a0.Words.length (fl (eI .u64) a0.Words),.row n z5.length]⟩) (L3:=[some ⟨true,25,3,z5.length,fl Za z5⟩,none]) (E2:=(⟨43,[],[]⟩:Env)) (n3:=(n+2)) (.inl rfl) hU rfl [] ?_ ?_
 ·refine Fit2.trans (E':=(⟨43,[],[]⟩:Env)) (O':=(Zu ((O.upd j0_0 none).upd i0 (some ⟨false,25,3,1,[.val (.int .i64 a0.Kind),.sl a0.Words.length (fl (eI .u64) a0.Words),.row n z5.length]⟩)) n [some ⟨true,25,3,z5.length,fl Za z5⟩,none])) (n':=(n+2)) (Fit2.of (Ya hU rfl rfl ?_) (by omega)) ?_
  ·exact Ve hi0 hk0
  refine Qq (k:=2) (k':=2) hU [0,1] [0,0] rfl rfl rfl rfl ⟨rfl,rfl⟩ ?_
  exact Ve hi0 hk0
 simp only [push_cast,seval,↓reduceIte,Zk,Try.results116,hi0,hk0,hN0,hN]
theorem Z23 {a0:Int} {r:Bool} {O:Objs} {n:Nat} (h:Zj7 a0=some r):GTo Try.prog 104 [.val (.int .i64 a0)] O n (.val (.bool r)) O n:=by
 unfold Zj7 at h
 refine zFn Try.call104 Try.func104 fun hU hN0 hN => ?_
 show W _ _ _ _ ⟨9,[],[(0,.val (.int .i64 a0))]⟩ (Zu O n []) _
 refine zQ [0] ?_
 refine zQD [2] [none,none] ?_
 exact Xe [.val (.bool (cond (decide (2≤a0)) (decide (a0≤9)) false))]
attribute [local push_cast] Try.results117 Try.results128 Try.results16 Try.results18 Try.results37 Try.results71 Try.results72 Try.results78 Try.results79 Try.results81 X8 Ze Y5 Yw Zi Xb Znl Znk Zn7 Zn6 Xf Yn Zjx Ze1 Ze0 onW Qm Zez Zeo Zqt Zpc Zhx Zh1 Zhw Zh0 Zkr Zko Zhz Zkq Zkp Zhy Zkm Zft evS wok K3 Op.operands Call.operands gop onK onP atK List.all_cons List.all_nil Bool.and_true Bool.true_and Bool.and_self Value.oneCell' List.take_zero List.take_succ_cons List.take_nil List.drop_zero List.drop_succ_cons List.drop_nil List.append_nil Nat.add_zero Nat.zero_add Za2 Yt ev Vz Zf7 Znd Znc Zni Zng Znh Zne Znf Znb Ztu Zuf Zwl Zi7 Zcp Zjv Zef Zhj Zgy Zc0 Zc5 Zex Zeu Zc3 Zew Zev Zc2 Zes Zc1 Zc4 Zb7 Zet Zpr Ze2 Zax Zif Zay Zln Zi5 Zvk bLo bHi bMx Zcq Zlm Zyh Zi4 Zmf Zf9 Gc Zrc Zyi Zid Zyj Zco Zzw Zj0 Zj4 Zjz Zj3 Znx Znu Zns Zhl Zj1 Znw Znv Zj2 Znt Zm3 gone Zki Zfl Zfk pop TK.isAgg Zn1 Zn5 Zn0 Zn4 Zkd Zr2 Zry Zn3 Zr1 Zr0 Zn2 Zrx G.under G.unders List.getD_cons_zero List.getD_cons_succ List.set_cons_zero List.set_cons_succ List.map_cons List.map_nil List.toList_toArray Array.toList_append Option.toArray_none Option.toArray_some Array.toList_map Option.map_some Option.map_none Option.bind_some Option.bind_none List.getElem?_cons_zero List.getElem?_cons_succ List.getElem?_nil List.nil_append List.cons_append List.replicate_succ List.replicate_zero List.length_cons List.length_nil and_true true_and and_false false_and Bool.true_eq_false Bool.false_eq_true forall_const false_implies implies_true IntKind.bits if_true if_false ite_true ite_false eq_self true_implies false_or or_false or_true true_or not_true_eq_false not_false_eq_true decide_true decide_false decide_eq_true_eq decide_eq_false_iff_not beq_iff_eq bne_iff_ne ne_eq Bool.not_eq_true Bool.not_eq_false beq_eq_false_iff_ne bne_eq_false_iff_eq beq_self_eq_true bne_self_eq_false Option.some.injEq exists_eq_left' exists_eq_left ge_iff_le gt_iff_lt decide_not Bool.not_true Bool.not_false imp_self Zrd cond_true cond_false Z3x Z3w Bool.not_not Bool.and_false Bool.false_and Bool.or_true Bool.true_or Bool.or_false Bool.false_or Uy Zan Us K8 Y2 Yk Option.join_some Nat.add_assoc Int.toNat_natCast eI eB eS eL Y8 Zf8 Zc6 Zno Znm Znn Z0l Z1c Zgc Zdc Zod Zob Zoc Zww Zp5 Zt4 Zog Zvc Zd9 Zp6 List.length_append G.agg.injEq G.row.injEq G.ref.injEq G.val.injEq G.sl.injEq G.tup.injEq Value.int.injEq Value.bool.injEq Value.string.injEq List.cons.injEq exists_and_left exists_const List.flatten_cons List.flatten_nil Int.le_refl Nat.le_refl X5 Yl Yp Bool.not_eq_true' Bool.not_eq_false' Zpb Zit Ztb Ztf Zta Zte Zyf Zyb List.size_toArray Zr4 Zqy G.ren G.rens Zur Zg5 Zof Zm9 Zna Zkn Ztg Zei G.fn.injEq Zlj Zlk Zpa Zyc Zli Ztd Zye Zyd Ztc Zrh Zxf Option.join_none Yb Gj undef Zmi Arr.len Arr.put_eq Zgb Zhq Zfh Zdb Zoa Zn8 Zn9 onB Z0k Zrb Zkl Zji Zjj Zjk Zjl Zjm Zjn Zhm Zht Zhr Zfj Zdd Zhs Zkh Zkg Zkf Zke Z1b Z25 Zwv Zvx Vs Zwm Zrk Zhu Zfi Zyq Zqz Zi3 Zmc Zen Ziq Zjo Zjp Zjq Zjr Zg9 Zha Zhb Zhc Zhd Zhe Zhf Zhg prT Ze3 Z43 Zs0 Z0y Zs1 Z44 Zs2 Zw4 Zs3 Z45 Zs4 Z46 Zs5 Z47 Zs6 Z48 Zs7 Zxk Zoh Zxl Zoi Zxm Zoj Zxn Zok Zxo Zol Zxp Zom Zxq Zon Zxr Zoo Zxs Zop Zxt Zoq Zxu Zor Zxv Zl4 Zt8 Zcl Zxw Zos Gr Zot Zxx Zgv Zxy Zgw Zxz Zl5 Zx0 Zou Zq1 Zov Zi1 Zow Zx1 Zox Zfu Zoy Zx2 Zoz Zdh Zo0 Zx3 Zo1 Zdi Zo2 Zt9 Zl6 Zx4 Zo3 Zx5 Zo4 Zx6 Zo5 Zv7 Zo6 Zx7 Zo7 Zx8 Zo8 Zr9 Zkt Zsa Zku Zsb Zkv Zsc Zkw Zsd Zkx Zse Zky Zsf Zkz Zsg Zk0 Zsh Zk1 Zsi Zk2 Zsj Zk3 Zsk Zk4 Zsl Zk5 Zsm Zk6 Zsn Zk7 Zso Zk8 Zsp Zk9 Zsq Zla Zsr Zlb Zss Zlc Zst Zld Zsu Zle Zsv Zlf Zsw Zlg Zsx Zlh Za Z5 Zfz Zfy Ze4 Zff Zf2 Zdk Zdg Zdf Zfv Uq Up Uf Ul Ur Vx Vw Vv Uo Zb Xp Zc Zd Yz Y4 Z9 J8 J5 Jm Jq Kb Q2 Qy Qv Jy Kv Kt Kk Ko Kx J3 Jw Ju Kr Zak Zaj Zad Zah Zal Gg Gf Ge Zai Zh4 Zh3 Zhk Zho Zh5 Zfx Zfq Zfp Zh2 Z4 Q5 Q4 Qr Qt Q6 Ql Qk Qj Q0 Z7 J9 J6 Jn Jr Kc Q3 Qz Qw Jz Z6 J7 J4 Jl Jp Ka Q1 Qx Qu Jx Zw Ku Ks Kj Km Kw J0 Jv Jt Kq
def Zby (Y6:(S_api_Edit→S_api_Tree→Option (S_api_Tree×Bool))):Prop:=∀ {a0:S_api_Edit} {a1:S_api_Tree} {r:(S_api_Tree×Bool)} {O:Objs} {n:Nat},Y6 a0 a1=some r→GTo Try.prog 37 [.agg (Ze a0),.agg (Zi a1)] O n (.tup [.agg (Zi r.1),.val (.bool r.2)]) O n
def Uk (Yf:(S_api_Edit→S_api_Tree→Option (S_api_Tree×Bool))):Prop:=∀ {a0:S_api_Edit} {a1:S_api_Tree} {r:(S_api_Tree×Bool)} {O:Objs} {n:Nat},Yf a0 a1=some r→GTo Try.prog 71 [.agg (Ze a0),.agg (Zi a1)] O n (.tup [.agg (Zi r.1),.val (.bool r.2)]) O n
def Zbz (Xl:(S_api_Edit→S_api_Tree→Option (S_api_Tree×Bool))):Prop:=∀ {a0:S_api_Edit} {a1:S_api_Tree} {r:(S_api_Tree×Bool)} {O:Objs} {n:Nat},Xl a0 a1=some r→GTo Try.prog 72 [.agg (Ze a0),.agg (Zi a1)] O n (.tup [.agg (Zi r.1),.val (.bool r.2)]) O n
def Vj (Z0:(Zg→S_api_Op→Option (Bool×Zg))):Prop:=∀ {a0:Zg} {a1:S_api_Op} {r:(Bool×Zg)} {O:Objs} {n:Nat} {i0 j0_0:Nat},i0 < n→j0_0 < n→i0≠j0_0→O i0=some ⟨false,131,2,1,[.sl a0.left.length (fl Za a0.left),.row j0_0 a0.out.length]⟩→O j0_0=some ⟨true,25,3,a0.out.length,fl Za a0.out⟩→Z0 a0 a1=some r→GTo Try.prog 117 [.ref i0 0,.agg (Yw a1)] O n (.val (.bool r.1)) (Zu ((O.upd j0_0 none).upd i0 (some ⟨false,131,2,1,[.sl r.2.left.length (fl Za r.2.left),.row n r.2.out.length]⟩)) n [some ⟨true,25,3,r.2.out.length,fl Za r.2.out⟩]) (n+1)
def Ke (Zy:(Zg→S_api_Edit→Option (Bool×Zg))):Prop:=∀ {a0:Zg} {a1:S_api_Edit} {r:(Bool×Zg)} {O:Objs} {n:Nat} {i0 j0_0:Nat},i0 < n→j0_0 < n→i0≠j0_0→O i0=some ⟨false,131,2,1,[.sl a0.left.length (fl Za a0.left),.row j0_0 a0.out.length]⟩→O j0_0=some ⟨true,25,3,a0.out.length,fl Za a0.out⟩→Zy a0 a1=some r→GTo Try.prog 128 [.ref i0 0,.agg (Ze a1)] O n (.val (.bool r.1)) (Zu ((O.upd j0_0 none).upd i0 (some ⟨false,131,2,1,[.sl r.2.left.length (fl Za r.2.left),.row n r.2.out.length]⟩)) n [some ⟨true,25,3,r.2.out.length,fl Za r.2.out⟩]) (n+1)
theorem Z0g {Y6:(S_api_Edit→S_api_Tree→Option (S_api_Tree×Bool))} {Yf:(S_api_Edit→S_api_Tree→Option (S_api_Tree×Bool))} {Xl:(S_api_Edit→S_api_Tree→Option (S_api_Tree×Bool))} {Z0:(Zg→S_api_Op→Option (Bool×Zg))} {Zy:(Zg→S_api_Edit→Option (Bool×Zg))} (Gd:Zby Y6) (Zag:Uk Yf) (Zd4:Zbz Xl) (U4:Vj Z0) (Vl:Ke Zy) {a0:S_api_Edit} {a1:S_api_Tree} {r:(S_api_Tree×Bool)} {O:Objs} {n:Nat} (h:Zb3 Y6 Yf Xl Z0 Zy a0 a1=some r):GTo Try.prog 37 [.agg (Ze a0),.agg (Zi a1)] O n (.tup [.agg (Zi r.1),.val (.bool r.2)]) O n:=by
 unfold Zb3 at h
 refine zFn Try.call37 Try.func37 fun hU hN0 hN => ?_
 show W _ _ _ _ ⟨34,[],[(0,.agg (Ze a0)),(1,.agg (Zi a1))]⟩ (Zu O n []) _
 refine zQ [2,3,4] ?_
 refine Zj ?_
 refine zQ [2,3,4,7] ?_
 refine Yy ?_
 refine zQ [2,3,4,7,8] ?_
 refine Zn (t:=(a0.Kind == 0)) rfl (fun c10 => ?_) (fun c10 => ?_)
 ·replace h:=Zq c10 h
  refine Zj ?_
  refine zRd [4,5] [false,false,true] ?_
  exact Xe [.agg (Zi a1),.val (.bool true)]
 replace h:=Zp c10 h
 refine zQ [2,3,4,7,11] ?_
 refine Zn (t:=(a0.Kind == 1)) rfl (fun c9 => ?_) (fun c9 => ?_)
 ·replace h:=Zq c9 h
  refine Zj ?_
  obtain ⟨y2,hy2,h⟩:=bC h
  refine Zl2 Zz (by kernel_rfl) [false,false,false,false,false,false,true,false] [] (by kernel_rfl) ?_
  refine zS ?_
  refine PCall.of (Z09 hy2) ?_
  refine zS ?_
  refine zD [4,5] [false,false,true] ?_
  exact Xe [.agg (Zi a0.New),.val (.bool y2)]
 replace h:=Zp c9 h
 refine zQ [2,3,4,7,19] ?_
 refine Zn (t:=(a0.Kind == 2)) rfl (fun c8 => ?_) (fun c8 => ?_)
 ·replace h:=Zq c8 h
  refine Zj ?_
  obtain ⟨y4,hy4,h⟩:=bC h
  refine zCd (Zag hy4) [4,5] [false,false,true] ?_
  exact Xe [.agg (Zi y4.1),.val (.bool y4.2)]
 replace h:=Zp c8 h
 refine zQ [2,3,4,26] ?_
 refine Zn (t:=(a0.Kind == 3)) rfl (fun c7 => ?_) (fun c7 => ?_)
 ·replace h:=Zq c7 h
  refine Zj ?_
  obtain ⟨y6,hy6,h⟩:=bC h
  refine zCd (Zd4 hy6) [4,5] [false,false,true] ?_
  exact Xe [.agg (Zi y6.1),.val (.bool y6.2)]
 replace h:=Zp c7 h
 refine zKd [4] [false,false,true] ?_
 refine Zj ?_
 refine zRd [4,5] [false,false,true] ?_
 exact Xe [.agg [.val (.int .i64 0),.val (.slice none 0 0),.val (.slice none 0 0)],.val (.bool false)]
theorem Ztz {Y6:(S_api_Edit→S_api_Tree→Option (S_api_Tree×Bool))} {Yf:(S_api_Edit→S_api_Tree→Option (S_api_Tree×Bool))} {Xl:(S_api_Edit→S_api_Tree→Option (S_api_Tree×Bool))} {Z0:(Zg→S_api_Op→Option (Bool×Zg))} {Zy:(Zg→S_api_Edit→Option (Bool×Zg))} (Gd:Zby Y6) (Zag:Uk Yf) (Zd4:Zbz Xl) (U4:Vj Z0) (Vl:Ke Zy) {a0:S_api_Edit} {a1:S_api_Tree} {r:(S_api_Tree×Bool)} {O:Objs} {n:Nat} (h:Zap Y6 Yf Xl Z0 Zy a0 a1=some r):GTo Try.prog 71 [.agg (Ze a0),.agg (Zi a1)] O n (.tup [.agg (Zi r.1),.val (.bool r.2)]) O n:=by
 unfold Zap at h
 refine zFn Try.call71 Try.func71 fun hU hN0 hN => ?_
 show W _ _ _ _ ⟨92,[],[(0,.agg (Ze a0)),(1,.agg (Zi a1))]⟩ (Zu O n []) _
 refine zQ [2,3,4] ?_
 refine Zj ?_
 refine zQ [2,3,4,16] ?_
 refine Zn (t:=(a1.Kind != 1)) rfl (fun c138 => ?_) (fun c138 => ?_)
 ·replace h:=Zq c138 h
  refine Zj ?_
  refine zRd [4,5] [false,false,true] ?_
  exact Xe [.agg [.val (.int .i64 0),.val (.slice none 0 0),.val (.slice none 0 0)],.val (.bool false)]
 replace h:=Zp c138 h
 refine zKd [2,3,4] [true,true,true] ?_
 obtain ⟨y25,hy25,h⟩:=bC h
 obtain ⟨y61,hy61,h⟩:=bC h
 refine Xt (E':=⟨92,[],[(2,.ref n 0),(3,.ref (n+1) 0),(4,.ref (n+2) 0),(6,.ref (n+5) 0)]⟩) (O':=(Zu O n [some ⟨false,30,11,1,(Ze a0)⟩,some ⟨false,25,3,1,(Zi a1)⟩,some ⟨false,25,3,1,[.val (.int .i64 0),.val (.slice none 0 0),.val (.slice none 0 0)]⟩,some ⟨true,40,1,y25.length,fl (eI .u64) y25⟩,some ⟨true,25,3,y61.length,fl Za y61⟩,some ⟨false,25,3,1,[.val (.int .i64 1),.row (n+3) y25.length,.row (n+4) y61.length]⟩])) (n0:=(n+6)) ?_ ?_
 ·refine Yb0 Zz (by kernel_rfl) [.low,.low,.pass,.low,.low,.pass,.plain,.pass,.pass] (fun i=>i < (n+3)) [0,1,3,4] [2,5,6,7] [8] (.two 2 (.two 5 (.seq [6,7]) 7 (.seq [5,6])) 7 (.seq [2,5,6])) [.low,.low,.low,.low] [] (by kernel_rfl) rfl ?_
  refine zS ?_
  repeat (with_reducible refine And.intro (by omega) ?_)
  try simp only [push_cast,seval,↓reduceIte,Zk,hN0,hN]
  refine And.intro ?_ ?_
  ·try simp only [push_cast,seval,↓reduceIte,Zk,hN0,hN]
   repeat (with_reducible refine And.intro (by first | exact Gt rfl | exact Ua) ?_)
   refine (Zda hy25).then ?_
   try simp only [push_cast,seval,↓reduceIte,Zk,hN0,hN]
   repeat (with_reducible refine And.intro (by first | exact Gt rfl | exact Ua) ?_)
   try simp only [push_cast,seval,↓reduceIte,Zk,hN0,hN]
   refine And.intro ?_ ?_
   ·try simp only [push_cast,seval,↓reduceIte,Zk,hN0,hN]
    repeat (with_reducible refine And.intro (by first | exact Gt rfl | exact Ua) ?_)
    refine (Uu hy61).then ?_
    try simp only [push_cast,seval,↓reduceIte,Zk,hN0,hN]
    repeat (with_reducible refine And.intro (by first | exact Gt rfl | exact Ua) ?_)
    try simp only [push_cast,seval,↓reduceIte,Zk,hN0,hN]
    repeat (with_reducible refine And.intro (by first | exact Gt rfl | exact Ua) ?_)
    exact zEf
   try simp only [push_cast,seval,↓reduceIte,Zk,hN0,hN]
   repeat (with_reducible refine And.intro (by first | exact Gt rfl | exact Ua) ?_)
   try simp only [push_cast,seval,↓reduceIte,Zk,hN0,hN]
   repeat (with_reducible refine And.intro (by first | exact Gt rfl | exact Ua) ?_)
   refine (Uu hy61).then ?_
   try simp only [push_cast,seval,↓reduceIte,Zk,hN0,hN]
   repeat (with_reducible refine And.intro (by first | exact Gt rfl | exact Ua) ?_)
   refine And.intro rfl ?_
   refine Fit2.trans (E':=(⟨92,[],[(2,.ref n 0),(3,.ref (n+1) 0),(4,.ref (n+2) 0),(6,.ref (n+4) 0)]⟩:Env)) (O':=(Zu O n [some ⟨false,30,11,1,(Ze a0)⟩,some ⟨false,25,3,1,(Zi a1)⟩,some ⟨false,25,3,1,[.val (.int .i64 0),.val (.slice none 0 0),.val (.slice none 0 0)]⟩,some ⟨true,40,1,y25.length,fl (eI .u64) y25⟩,some ⟨false,25,3,1,[.val (.int .i64 1),.row (n+3) y25.length,.row (n+5) y61.length]⟩,some ⟨true,25,3,y61.length,fl Za y61⟩])) (n':=(n+6)) (Fit2.of (Yj hU rfl rfl ?_) (by omega)) ?_
   ·exact zSe
   refine Vu (k:=6) (k':=6) hU [0,1,2,3,5,4] [0,1,2,3,5,4] rfl rfl rfl rfl ⟨rfl,rfl⟩ ?_
   exact zSe
  try simp only [push_cast,seval,↓reduceIte,Zk,hN0,hN]
  repeat (with_reducible refine And.intro (by first | exact Gt rfl | exact Ua) ?_)
  try simp only [push_cast,seval,↓reduceIte,Zk,hN0,hN]
  repeat (with_reducible refine And.intro (by first | exact Gt rfl | exact Ua) ?_)
  refine (Zda hy25).then ?_
  try simp only [push_cast,seval,↓reduceIte,Zk,hN0,hN]
  repeat (with_reducible refine And.intro (by first | exact Gt rfl | exact Ua) ?_)
  refine (Uu hy61).then ?_
  try simp only [push_cast,seval,↓reduceIte,Zk,hN0,hN]
  repeat (with_reducible refine And.intro (by first | exact Gt rfl | exact Ua) ?_)
  refine And.intro rfl ?_
  refine Fit2.trans (E':=(⟨92,[],[(2,.ref n 0),(3,.ref (n+1) 0),(4,.ref (n+2) 0),(6,.ref (n+3) 0)]⟩:Env)) (O':=(Zu O n [some ⟨false,30,11,1,(Ze a0)⟩,some ⟨false,25,3,1,(Zi a1)⟩,some ⟨false,25,3,1,[.val (.int .i64 0),.val (.slice none 0 0),.val (.slice none 0 0)]⟩,some ⟨false,25,3,1,[.val (.int .i64 1),.row (n+4) y25.length,.row (n+5) y61.length]⟩,some ⟨true,40,1,y25.length,fl (eI .u64) y25⟩,some ⟨true,25,3,y61.length,fl Za y61⟩])) (n':=(n+6)) (Fit2.of (Yj hU rfl rfl ?_) (by omega)) ?_
  ·exact zSe
  refine Vu (k:=6) (k':=6) hU [0,1,2,5,3,4] [0,1,2,4,5,3] rfl rfl rfl rfl ⟨rfl,rfl⟩ ?_
  exact zSe
 refine Zj ?_
 refine zQd [2,3,4,6,26,27,28] [2,3,4,6,26,27,28] [true,true,true,true,true,true] ?_
 refine Vn (E':=(⟨92,[],[(2,.ref n 0),(3,.ref (n+1) 0),(4,.ref (n+2) 0),(6,.ref (n+5) 0),(26,.sl a0.Words.length (fl Zb a0.Words)),(27,.val (.int .i64 (a0.Words.length:Int))),(28,.val (.int .i64 0))]⟩:Env)) (O':=(Zu O n [some ⟨false,30,11,1,(Ze a0)⟩,some ⟨false,25,3,1,(Zi a1)⟩,some ⟨false,25,3,1,[.val (.int .i64 0),.val (.slice none 0 0),.val (.slice none 0 0)]⟩,none,none,some ⟨false,25,3,1,[.val (.int .i64 1),.row (n+6) y25.length,.row (n+7) y61.length]⟩,some ⟨true,40,1,y25.length,fl (eI .u64) y25⟩,some ⟨true,25,3,y61.length,fl Za y61⟩,none])) (n':=(n+9)) ?_ ?_
 ·refine Fit2.trans (E':=(⟨92,[],[(2,.ref n 0),(3,.ref (n+1) 0),(4,.ref (n+2) 0),(6,.ref (n+5) 0),(26,.sl a0.Words.length (fl Zb a0.Words)),(27,.val (.int .i64 (a0.Words.length:Int))),(28,.val (.int .i64 0))]⟩:Env)) (O':=(Zu O n [some ⟨false,30,11,1,(Ze a0)⟩,some ⟨false,25,3,1,(Zi a1)⟩,some ⟨false,25,3,1,[.val (.int .i64 0),.val (.slice none 0 0),.val (.slice none 0 0)]⟩,some ⟨true,40,1,y25.length,fl (eI .u64) y25⟩,some ⟨true,25,3,y61.length,fl Za y61⟩,some ⟨false,25,3,1,[.val (.int .i64 1),.row (n+3) y25.length,.row (n+4) y61.length]⟩])) (n':=(n+6)) (Fit2.of (Yj hU rfl rfl ?_) (by omega)) ?_
  ·exact zSe
  refine Vu (k:=6) (k':=9) hU [0,1,2,6,7,5] [0,1,2,0,0,5,3,4,0] rfl rfl rfl rfl ⟨rfl,rfl⟩ ?_
  exact zSe
 obtain ⟨z125,hz125,h⟩:=bC h
 refine Zee (J:=(K5 (fun z125=>JR n (⟨92,[],[(4,.ref (n+2) 0),(5,.val (.bool false))]⟩:Env) (Zu O n [none,none,some ⟨false,25,3,1,[.val (.int .i64 0),.val (.slice none 0 0),.val (.slice none 0 0)]⟩,none,none,none]) (n+6)) (fun z125=>JX 0 n (⟨92,[],[(2,.ref n 0),(3,.ref (n+1) 0),(4,.ref (n+2) 0),(6,.ref (n+5) 0)]⟩:Env) (Zu O n [some ⟨false,30,11,1,(Ze a0)⟩,some ⟨false,25,3,1,(Zi a1)⟩,some ⟨false,25,3,1,[.val (.int .i64 0),.val (.slice none 0 0),.val (.slice none 0 0)]⟩,none,none,some ⟨false,25,3,1,[.val (.int .i64 z125.1),.row (n+6) z125.2.1.length,.row (n+7) z125.2.2.length]⟩,some ⟨true,40,1,z125.2.1.length,fl (eI .u64) z125.2.1⟩,some ⟨true,25,3,z125.2.2.length,fl Za z125.2.2⟩,none]) (n+9)))) (z:=z125) ?_ fun hw => ?_
 ·refine Xr hz125 (fun s0_=>⟨92,[],[(2,.ref n 0),(3,.ref (n+1) 0),(4,.ref (n+2) 0),(6,.ref (n+5) 0),(26,.sl a0.Words.length (fl Zb a0.Words)),(27,.val (.int .i64 (a0.Words.length:Int))),(28,.val (.int .i64 s0_.1))]⟩) (fun s0_=>(Zu O n [some ⟨false,30,11,1,(Ze a0)⟩,some ⟨false,25,3,1,(Zi a1)⟩,some ⟨false,25,3,1,[.val (.int .i64 0),.val (.slice none 0 0),.val (.slice none 0 0)]⟩,none,none,some ⟨false,25,3,1,[.val (.int .i64 s0_.2.1),.row (n+6) s0_.2.2.1.length,.row (n+7) s0_.2.2.2.length]⟩,some ⟨true,40,1,s0_.2.2.1.length,fl (eI .u64) s0_.2.2.1⟩,some ⟨true,25,3,s0_.2.2.2.length,fl Za s0_.2.2.2⟩,none])) (K5 (fun z125=>JR n (⟨92,[],[(4,.ref (n+2) 0),(5,.val (.bool false))]⟩:Env) (Zu O n [none,none,some ⟨false,25,3,1,[.val (.int .i64 0),.val (.slice none 0 0),.val (.slice none 0 0)]⟩,none,none,none]) (n+6)) (fun z125=>JX 0 n (⟨92,[],[(2,.ref n 0),(3,.ref (n+1) 0),(4,.ref (n+2) 0),(6,.ref (n+5) 0)]⟩:Env) (Zu O n [some ⟨false,30,11,1,(Ze a0)⟩,some ⟨false,25,3,1,(Zi a1)⟩,some ⟨false,25,3,1,[.val (.int .i64 0),.val (.slice none 0 0),.val (.slice none 0 0)]⟩,none,none,some ⟨false,25,3,1,[.val (.int .i64 z125.1),.row (n+6) z125.2.1.length,.row (n+7) z125.2.2.length]⟩,some ⟨true,40,1,z125.2.1.length,fl (eI .u64) z125.2.1⟩,some ⟨true,25,3,z125.2.2.length,fl Za z125.2.2⟩,none]) (n+9))) ?_
  intro s0_ x0_ hs0_
  unfold Va at hs0_
  try dsimp only
  refine zQ [2,3,4,6,26,27,28,29] ?_
  refine Zj ?_
  refine Zn (t:=(decide (s0_.1 < (a0.Words.length:Int)))) rfl (fun c124 => ?_) (fun c124 => ?_)
  ·replace hs0_:=Zq c124 hs0_
   refine zKd [2,3,4,6,26,27,28] [true,true,true,false,false,true,true,true,false] ?_
   refine Zj ?_
   refine Yy ?_
   refine Zj ?_
   obtain ⟨x110,hx110,ax110,bx110,cx110,hs0_⟩:=bE (f:=Zb) Zfu (fun _=>rfl) (by decide) hs0_
   refine Ziu [] ax110 bx110 cx110 ?_
   refine zDs [2,3,4,6,8,26,27,28] [true,true,true,false,false,true,true,true,false,true] ?_
   obtain ⟨y112,hy112,hs0_⟩:=bC hs0_
   refine zCd (Z24 hy112) [2,3,4,6,8,9,26,27,28] [true,true,true,false,false,true,true,true,false,true] ?_
   refine Zj ?_
   obtain ⟨z115,hz115,hs0_⟩:=bC hs0_
   refine Xt (E':=⟨92,[],[(2,.ref n 0),(3,.ref (n+1) 0),(4,.ref (n+2) 0),(6,.ref (n+5) 0),(8,.ref (n+9) 0),(9,.val (.int .u64 y112)),(26,.sl a0.Words.length (fl Zb a0.Words)),(27,.val (.int .i64 (a0.Words.length:Int))),(28,.val (.int .i64 s0_.1)),(49,.val (.bool z115))]⟩) (O':=(Zu O n [some ⟨false,30,11,1,(Ze a0)⟩,some ⟨false,25,3,1,(Zi a1)⟩,some ⟨false,25,3,1,[.val (.int .i64 0),.val (.slice none 0 0),.val (.slice none 0 0)]⟩,none,none,some ⟨false,25,3,1,[.val (.int .i64 s0_.2.1),.row (n+6) s0_.2.2.1.length,.row (n+7) s0_.2.2.2.length]⟩,some ⟨true,40,1,s0_.2.2.1.length,fl (eI .u64) s0_.2.2.1⟩,some ⟨true,25,3,s0_.2.2.2.length,fl Za s0_.2.2.2⟩,none,some ⟨false,42,4,1,(Xb x110)⟩])) (n0:=(n+10)) ?_ ?_
   ·obtain ⟨y118,hy118,hz115⟩:=bC hz115
    rcases Bool.eq_false_or_eq_true y118 with c120 | c120
    ·replace hz115:=Zq c120 hz115
     refine Vh Zz (by kernel_rfl) [some false,some false,some false,some false,some false,some false,some false,some false,some false] (by kernel_rfl) ?_
     refine zX1 c120 ?_
     refine PCall.of (Zja hy118) ?_
     refine zX1 c120 ?_
     exact G4 hz115 c120
    replace hz115:=Zp c120 hz115
    obtain ⟨y119,hy119,hz115⟩:=bC hz115
    refine Vh Zz (by kernel_rfl) [some true,some true,some true,some true,some true,some true,some true,some true,some true] (by kernel_rfl) ?_
    refine zX1 c120 ?_
    refine PCall.of (Zja hy118) ?_
    refine zX1 c120 ?_
    refine PCall.of (Zqf hy119) ?_
    refine zX1 c120 ?_
    exact G4 hz115 c120
   refine Zn (t:=z115) rfl (fun c123 => ?_) (fun c123 => ?_)
   ·replace hs0_:=Zq c123 hs0_
    refine Zj ?_
    refine zRd [4,5] [false,false,true,false,false,false,false,false,false,false] ?_
    refine zW ?_
    exact zEy hs0_
   replace hs0_:=Zp c123 hs0_
   refine zKd [2,3,4,6,8,9,26,27,28] [true,true,true,false,false,true,true,true,false,true] ?_
   obtain ⟨y121,hy121,hs0_⟩:=bC hs0_
   obtain ⟨y122,hy122,hs0_⟩:=bC hs0_
   refine Zl2 Zz (by kernel_rfl) [false,false,false,false,false,false,false,false,true] [] (by kernel_rfl) ?_
   refine zS ?_
   refine PCall.of (Zrt hy121) ?_
   refine zS ?_
   refine (Zwq (i0:=(n+5)) (j0_0:=(n+7)) (j0_1:=(n+6)) (by omega) (by omega) (by omega) (by omega) (by omega) (by omega) (by simp only [push_cast,seval,↓reduceIte,Zk,Y8,hN0,hN] <;> rfl) (by simp only [push_cast,seval,↓reduceIte,Zk,Y8,hN0,hN] <;> rfl) (by simp only [push_cast,seval,↓reduceIte,Zk,Y8,hN0,hN] <;> rfl) hy122).then ?_
   refine zS ?_
   refine zD [2,3,4,6,26,27,28] [true,true,true,false,false,true,false,false,false,false,true,true] ?_
   refine zR ?_
   have hs0_:=Option.some.inj hs0_;subst hs0_
   refine And.intro rfl ?_
   refine Fit2.trans (E':=(⟨92,[],[(2,.ref n 0),(3,.ref (n+1) 0),(4,.ref (n+2) 0),(6,.ref (n+5) 0),(26,.sl a0.Words.length (fl Zb a0.Words)),(27,.val (.int .i64 (a0.Words.length:Int))),(28,.val (.int .i64 (IntKind.i64.wrap (s0_.1+1))))]⟩:Env)) (O':=(Zu O n [some ⟨false,30,11,1,(Ze a0)⟩,some ⟨false,25,3,1,(Zi a1)⟩,some ⟨false,25,3,1,[.val (.int .i64 0),.val (.slice none 0 0),.val (.slice none 0 0)]⟩,none,none,some ⟨false,25,3,1,[.val (.int .i64 y122.Kind),.row (n+11) y122.Words.length,.row (n+10) y122.Kids.length]⟩,none,none,none,none,some ⟨true,25,3,y122.Kids.length,fl Za y122.Kids⟩,some ⟨true,40,1,y122.Words.length,fl (eI .u64) y122.Words⟩])) (n':=(n+12)) (Fit2.of (Yj hU rfl rfl ?_) (by omega)) ?_
   ·exact zSe
   refine Vu (k:=12) (k':=9) hU [0,1,2,8,8,5,8,8,8,8,7,6] [0,1,2,0,0,5,11,10,0] rfl rfl rfl rfl ⟨rfl,rfl⟩ ?_
   exact zSe
  replace hs0_:=Zp c124 hs0_
  exact zEx hs0_
 rcases z125 with z125 | z125
 ·dsimp only [K5] at hw h
  refine Uz hw ?_
  try simp only [Xf,Yn,↓reduceIte,Nat.reduceEqDiff]
  exact Zq7 [.agg [.val (.int .i64 0),.val (.slice none 0 0),.val (.slice none 0 0)],.val (.bool false)]
 dsimp only [K5] at hw h
 refine Y9 hw ?_
 try simp only [Xf,Yn,↓reduceIte,Nat.reduceEqDiff]
 refine zDs [2,3,4,6] [true,true,true,false,false,true,true,true,false] ?_
 refine zQd [3,4,6,62,63,64] [3,4,6,62,63,64] [false,true,true,false,false,true,true,true,false] ?_
 refine Vn (E':=(⟨92,[],[(3,.ref (n+1) 0),(4,.ref (n+2) 0),(6,.ref (n+5) 0),(62,.sl a0.Kids.length (fl Zd a0.Kids)),(63,.val (.int .i64 (a0.Kids.length:Int))),(64,.val (.int .i64 0))]⟩:Env)) (O':=(Zu O n [none,some ⟨false,25,3,1,(Zi a1)⟩,some ⟨false,25,3,1,[.val (.int .i64 0),.val (.slice none 0 0),.val (.slice none 0 0)]⟩,none,none,some ⟨false,25,3,1,[.val (.int .i64 z125.1),.sl z125.2.1.length (fl (eI .u64) z125.2.1),.row (n+9) z125.2.2.length]⟩,none,none,none,some ⟨true,25,3,z125.2.2.length,fl Za z125.2.2⟩,none])) (n':=(n+11)) ?_ ?_
 ·refine Fit2.trans (E':=(⟨92,[],[(3,.ref (n+1) 0),(4,.ref (n+2) 0),(6,.ref (n+5) 0),(62,.sl a0.Kids.length (fl Zd a0.Kids)),(63,.val (.int .i64 (a0.Kids.length:Int))),(64,.val (.int .i64 0))]⟩:Env)) (O':=(Zu O n [none,some ⟨false,25,3,1,(Zi a1)⟩,some ⟨false,25,3,1,[.val (.int .i64 0),.val (.slice none 0 0),.val (.slice none 0 0)]⟩,none,none,some ⟨false,25,3,1,[.val (.int .i64 z125.1),.sl z125.2.1.length (fl (eI .u64) z125.2.1),.row (n+7) z125.2.2.length]⟩,none,some ⟨true,25,3,z125.2.2.length,fl Za z125.2.2⟩,none])) (n':=(n+9)) (Fit2.of (Yj hU rfl rfl ?_) (by omega)) ?_
  ·exact zSe
  refine Vu (k:=9) (k':=11) hU [10,1,2,10,10,5,10,9,10] [0,1,2,0,0,5,0,0,0,7,0] rfl rfl rfl rfl ⟨rfl,rfl⟩ ?_
  exact zSe
 obtain ⟨z137,hz137,h⟩:=bC h
 refine Zee (J:=(K5 (fun z137=>JR n (⟨92,[],[(4,.ref (n+2) 0),(5,.val (.bool false))]⟩:Env) (Zu O n [none,none,some ⟨false,25,3,1,[.val (.int .i64 0),.val (.slice none 0 0),.val (.slice none 0 0)]⟩,none,none,none,none,none,none]) (n+9)) (fun z137=>JX 2 n (⟨92,[],[(4,.ref (n+2) 0),(6,.ref (n+5) 0)]⟩:Env) (Zu O n [none,none,some ⟨false,25,3,1,[.val (.int .i64 0),.val (.slice none 0 0),.val (.slice none 0 0)]⟩,none,none,some ⟨false,25,3,1,[.val (.int .i64 z137.1),.sl z137.2.1.length (fl (eI .u64) z137.2.1),.row (n+9) z137.2.2.length]⟩,none,none,none,some ⟨true,25,3,z137.2.2.length,fl Za z137.2.2⟩,none]) (n+11)))) (z:=z137) ?_ fun hw => ?_
 ·refine Xr hz137 (fun s1_=>⟨92,[],[(3,.ref (n+1) 0),(4,.ref (n+2) 0),(6,.ref (n+5) 0),(62,.sl a0.Kids.length (fl Zd a0.Kids)),(63,.val (.int .i64 (a0.Kids.length:Int))),(64,.val (.int .i64 s1_.1))]⟩) (fun s1_=>(Zu O n [none,some ⟨false,25,3,1,(Zi a1)⟩,some ⟨false,25,3,1,[.val (.int .i64 0),.val (.slice none 0 0),.val (.slice none 0 0)]⟩,none,none,some ⟨false,25,3,1,[.val (.int .i64 s1_.2.1),.sl s1_.2.2.1.length (fl (eI .u64) s1_.2.2.1),.row (n+9) s1_.2.2.2.length]⟩,none,none,none,some ⟨true,25,3,s1_.2.2.2.length,fl Za s1_.2.2.2⟩,none])) (K5 (fun z137=>JR n (⟨92,[],[(4,.ref (n+2) 0),(5,.val (.bool false))]⟩:Env) (Zu O n [none,none,some ⟨false,25,3,1,[.val (.int .i64 0),.val (.slice none 0 0),.val (.slice none 0 0)]⟩,none,none,none,none,none,none]) (n+9)) (fun z137=>JX 2 n (⟨92,[],[(4,.ref (n+2) 0),(6,.ref (n+5) 0)]⟩:Env) (Zu O n [none,none,some ⟨false,25,3,1,[.val (.int .i64 0),.val (.slice none 0 0),.val (.slice none 0 0)]⟩,none,none,some ⟨false,25,3,1,[.val (.int .i64 z137.1),.sl z137.2.1.length (fl (eI .u64) z137.2.1),.row (n+9) z137.2.2.length]⟩,none,none,none,some ⟨true,25,3,z137.2.2.length,fl Za z137.2.2⟩,none]) (n+11))) ?_
  intro s1_ x1_ hs1_
  unfold Ji at hs1_
  try dsimp only
  refine zQ [3,4,6,62,63,64,65] ?_
  refine Zj ?_
  refine Zn (t:=(decide (s1_.1 < (a0.Kids.length:Int)))) rfl (fun c136 => ?_) (fun c136 => ?_)
  ·replace hs1_:=Zq c136 hs1_
   refine zKd [3,4,6,62,63,64] [false,true,true,false,false,true,false,false,false,true,false] ?_
   refine Zj ?_
   refine Yy ?_
   refine Zj ?_
   obtain ⟨x127,hx127,ax127,bx127,cx127,hs1_⟩:=bE (f:=Zd) Zdi (fun _=>rfl) (by decide) hs1_
   refine Ziu [] ax127 bx127 cx127 ?_
   refine zDs [3,4,6,11,62,63,64] [false,true,true,false,false,true,false,false,false,true,false,true] ?_
   obtain ⟨y130,hy130,hs1_⟩:=bC hs1_
   obtain ⟨y131,hy131,hs1_⟩:=bC hs1_
   refine K6 Zz (by kernel_rfl) [.low,.low,.low,.low,.low,.low,.low,.plain,.plain,.plain,.pass,.bar,.plain] (fun i=>i < (n+12)) [0,1,2,3,4,5,6,7,8,9,10,11,12] [.low,.low,.low,.low,.low,.low,.low,.plain,.plain,.plain,.pass,.bar,.plain] [] (by kernel_rfl) rfl ?_
   refine zS ?_
   refine zO ?_
   first | refine PCallA.of (fun _ _=>Zxh hy130) ?_ | refine PCall.of (Zxh hy130) ?_
   refine zS ?_
   refine zO ?_
   first | refine PCallA.of (fun _ _=>Gd hy131) ?_ | refine PCall.of (Gd hy131) ?_
   refine zS ?_
   refine zO ?_
   refine zDs [3,4,6,11,12,13,62,63,64] [false,true,true,false,false,true,false,false,false,true,false,true,true] ?_
   refine Zj ?_
   obtain ⟨y133,hy133,hs1_⟩:=bC hs1_
   refine zRo [none,none] ?_
   refine zG ?_
   refine zTs (Zja hy133) ?_
   refine zG ?_
   refine zD [3,4,6,11,12,62,63,64,84] [false,true,true,false,false,true,false,false,false,true,false,true,true] ?_
   refine Zn (t:=(cond y133 true (!y131.2))) rfl (fun c135 => ?_) (fun c135 => ?_)
   ·replace hs1_:=Zq c135 hs1_
    refine Zj ?_
    refine zRd [4,5] [false,false,true,false,false,false,false,false,false,false,false,false,false] ?_
    refine zW ?_
    exact zEy hs1_
   replace hs1_:=Zp c135 hs1_
   refine zKd [3,4,6,11,12,62,63,64] [false,true,true,false,false,true,false,false,false,true,false,true,true] ?_
   obtain ⟨y134,hy134,hs1_⟩:=bC hs1_
   refine zR ?_
   refine (Zyn (i0:=(n+5)) (j0_0:=(n+9)) (by omega) (by omega) (by omega) (by simp only [push_cast,seval,↓reduceIte,Zk,Y8,hN0,hN] <;> rfl) (by simp only [push_cast,seval,↓reduceIte,Zk,Y8,hN0,hN] <;> rfl) hy134).then ?_
   refine zS ?_
   refine zD [3,4,6,62,63,64] [false,true,true,false,false,true,false,false,false,false,false,false,false,true] ?_
   refine zR ?_
   have hs1_:=Option.some.inj hs1_;subst hs1_
   refine And.intro rfl ?_
   refine Fit2.trans (E':=(⟨92,[],[(3,.ref (n+1) 0),(4,.ref (n+2) 0),(6,.ref (n+5) 0),(62,.sl a0.Kids.length (fl Zd a0.Kids)),(63,.val (.int .i64 (a0.Kids.length:Int))),(64,.val (.int .i64 (IntKind.i64.wrap (s1_.1+1))))]⟩:Env)) (O':=(Zu O n [none,some ⟨false,25,3,1,(Zi a1)⟩,some ⟨false,25,3,1,[.val (.int .i64 0),.val (.slice none 0 0),.val (.slice none 0 0)]⟩,none,none,some ⟨false,25,3,1,[.val (.int .i64 y134.Kind),.sl y134.Words.length (fl (eI .u64) y134.Words),.row (n+13) y134.Kids.length]⟩,none,none,none,none,none,none,none,some ⟨true,25,3,y134.Kids.length,fl Za y134.Kids⟩])) (n':=(n+14)) (Fit2.of (Yj hU rfl rfl ?_) (by omega)) ?_
   ·exact zSe
   refine Vu (k:=14) (k':=11) hU [10,1,2,10,10,5,10,10,10,10,10,10,10,9] [0,1,2,0,0,5,0,0,0,13,0] rfl rfl rfl rfl ⟨rfl,rfl⟩ ?_
   exact zSe
  replace hs1_:=Zp c136 hs1_
  exact zEx hs1_
 rcases z137 with z137 | z137
 ·dsimp only [K5] at hw h
  refine Uz hw ?_
  try simp only [Xf,Yn,↓reduceIte,Nat.reduceEqDiff]
  exact Zq7 [.agg [.val (.int .i64 0),.val (.slice none 0 0),.val (.slice none 0 0)],.val (.bool false)]
 dsimp only [K5] at hw h
 refine Y9 hw ?_
 try simp only [Xf,Yn,↓reduceIte,Nat.reduceEqDiff]
 refine zDs [4,6] [false,false,true,false,false,true,false,false,false,true,false] ?_
 refine zRd [4,5] [false,false,true,false,false,false,false,false,false,true,false] ?_
 exact Xe [.agg [.val (.int .i64 z137.1),.sl z137.2.1.length (fl (eI .u64) z137.2.1),.row (n+9) z137.2.2.length],.val (.bool true)]
theorem Z0h {Y6:(S_api_Edit→S_api_Tree→Option (S_api_Tree×Bool))} {Yf:(S_api_Edit→S_api_Tree→Option (S_api_Tree×Bool))} {Xl:(S_api_Edit→S_api_Tree→Option (S_api_Tree×Bool))} {Z0:(Zg→S_api_Op→Option (Bool×Zg))} {Zy:(Zg→S_api_Edit→Option (Bool×Zg))} (Gd:Zby Y6) (Zag:Uk Yf) (Zd4:Zbz Xl) (U4:Vj Z0) (Vl:Ke Zy) {a0:S_api_Edit} {a1:S_api_Tree} {r:(S_api_Tree×Bool)} {O:Objs} {n:Nat} (h:Zf3 Y6 Yf Xl Z0 Zy a0 a1=some r):GTo Try.prog 72 [.agg (Ze a0),.agg (Zi a1)] O n (.tup [.agg (Zi r.1),.val (.bool r.2)]) O n:=by
 unfold Zf3 at h
 refine zFn Try.call72 Try.func72 fun hU hN0 hN => ?_
 show W _ _ _ _ ⟨45,[],[(0,.agg (Ze a0)),(1,.agg (Zi a1))]⟩ (Zu O n []) _
 refine zQ [2,3,4] ?_
 refine Zj ?_
 obtain ⟨z2,hz2,h⟩:=bC h
 refine Xt (E':=⟨45,[],[(2,.ref n 0),(3,.ref (n+1) 0),(4,.ref (n+2) 0),(19,.val (.bool z2))]⟩) (O':=(Zu O n [some ⟨false,30,11,1,(Ze a0)⟩,some ⟨false,25,3,1,(Zi a1)⟩,some ⟨false,25,3,1,[.val (.int .i64 0),.val (.slice none 0 0),.val (.slice none 0 0)]⟩])) (n0:=(n+3)) ?_ ?_
 ·rcases Bool.eq_false_or_eq_true (a1.Kind != a0.List_) with c5 | c5
  ·replace hz2:=Zq c5 hz2
   refine Zbv [some false,some false,some false,some false] c5 ?_
   exact G4 hz2 c5
  replace hz2:=Zp c5 hz2
  obtain ⟨y4,hy4,hz2⟩:=bC hz2
  refine Zbv [some true,some true,some true,some true] c5 ?_
  refine (Z23 hy4).then ?_
  refine zX1 c5 ?_
  exact G4 hz2 c5
 refine Zn (t:=z2) rfl (fun c13 => ?_) (fun c13 => ?_)
 ·replace h:=Zq c13 h
  refine Zj ?_
  refine zRd [4,5] [false,false,true] ?_
  exact Xe [.agg [.val (.int .i64 0),.val (.slice none 0 0),.val (.slice none 0 0)],.val (.bool false)]
 replace h:=Zp c13 h
 refine zKd [2,3,4] [true,true,true] ?_
 refine Zj ?_
 refine zRd [2,3,4,6] [true,true,true,true] ?_
 refine Zj ?_
 refine zQd [3,4,6,25,26,27] [3,4,6,25,26,27] [false,true,true,true] ?_
 refine Vn (E':=(⟨45,[],[(3,.ref (n+1) 0),(4,.ref (n+2) 0),(6,.ref (n+3) 0),(25,.sl a0.Ops.length (fl Zc a0.Ops)),(26,.val (.int .i64 (a0.Ops.length:Int))),(27,.val (.int .i64 0))]⟩:Env)) (O':=(Zu O n [none,some ⟨false,25,3,1,(Zi a1)⟩,some ⟨false,25,3,1,[.val (.int .i64 0),.val (.slice none 0 0),.val (.slice none 0 0)]⟩,some ⟨false,131,2,1,[.sl a1.Kids.length (fl Za a1.Kids),.row (n+4) ([]:List S_api_Tree).length]⟩,some ⟨true,25,3,([]:List S_api_Tree).length,fl Za ([]:List S_api_Tree)⟩,none])) (n':=(n+6)) ?_ ?_
 ·refine Fit2.trans (E':=(⟨45,[],[(3,.ref (n+1) 0),(4,.ref (n+2) 0),(6,.ref (n+3) 0),(25,.sl a0.Ops.length (fl Zc a0.Ops)),(26,.val (.int .i64 (a0.Ops.length:Int))),(27,.val (.int .i64 0))]⟩:Env)) (O':=(Zu O n [none,some ⟨false,25,3,1,(Zi a1)⟩,some ⟨false,25,3,1,[.val (.int .i64 0),.val (.slice none 0 0),.val (.slice none 0 0)]⟩,some ⟨false,131,2,1,[.sl a1.Kids.length (fl Za a1.Kids),.val (.slice none 0 0)]⟩])) (n':=(n+4)) (Fit2.of (Yj hU rfl rfl ?_) (by omega)) ?_
  ·exact zSe
  refine Fit2.trans (Zav (p:=(n+3)) (k:=1) (q:=⟨false,131,2,1,[.sl a1.Kids.length (fl Za a1.Kids),.val (.slice none 0 0)]⟩) 25 3 (by simp only [Uy,Zan,List.getElem?_cons_zero,List.getElem?_cons_succ,Option.join_some,List.length_nil,Yb]) rfl (by omega)) ?_
  simp only [Y2,Yk,Us,K8,List.set_cons_zero,List.set_cons_succ,List.cons_append,List.nil_append,List.length_cons,List.length_nil,Nat.zero_add,Nat.reduceAdd,Nat.reduceLT,Nat.add_assoc]
  refine Vu (k:=5) (k':=6) hU [5,1,2,3,4] [0,1,2,3,4,0] rfl rfl rfl rfl ⟨rfl,rfl⟩ ?_
  exact zSe
 obtain ⟨z12,hz12,h⟩:=bC h
 refine Zee (J:=(K5 (fun z12=>JR n (⟨45,[],[(4,.ref (n+2) 0),(5,.val (.bool false))]⟩:Env) (Zu O n [none,none,some ⟨false,25,3,1,[.val (.int .i64 0),.val (.slice none 0 0),.val (.slice none 0 0)]⟩,none]) (n+4)) (fun z12=>JX 0 n (⟨45,[],[(3,.ref (n+1) 0),(4,.ref (n+2) 0),(6,.ref (n+3) 0)]⟩:Env) (Zu O n [none,some ⟨false,25,3,1,(Zi a1)⟩,some ⟨false,25,3,1,[.val (.int .i64 0),.val (.slice none 0 0),.val (.slice none 0 0)]⟩,some ⟨false,131,2,1,[.sl z12.1.length (fl Za z12.1),.row (n+4) z12.2.length]⟩,some ⟨true,25,3,z12.2.length,fl Za z12.2⟩,none]) (n+6)))) (z:=z12) ?_ fun hw => ?_
 ·refine Xr hz12 (fun s0_=>⟨45,[],[(3,.ref (n+1) 0),(4,.ref (n+2) 0),(6,.ref (n+3) 0),(25,.sl a0.Ops.length (fl Zc a0.Ops)),(26,.val (.int .i64 (a0.Ops.length:Int))),(27,.val (.int .i64 s0_.1))]⟩) (fun s0_=>(Zu O n [none,some ⟨false,25,3,1,(Zi a1)⟩,some ⟨false,25,3,1,[.val (.int .i64 0),.val (.slice none 0 0),.val (.slice none 0 0)]⟩,some ⟨false,131,2,1,[.sl s0_.2.1.length (fl Za s0_.2.1),.row (n+4) s0_.2.2.length]⟩,some ⟨true,25,3,s0_.2.2.length,fl Za s0_.2.2⟩,none])) (K5 (fun z12=>JR n (⟨45,[],[(4,.ref (n+2) 0),(5,.val (.bool false))]⟩:Env) (Zu O n [none,none,some ⟨false,25,3,1,[.val (.int .i64 0),.val (.slice none 0 0),.val (.slice none 0 0)]⟩,none]) (n+4)) (fun z12=>JX 0 n (⟨45,[],[(3,.ref (n+1) 0),(4,.ref (n+2) 0),(6,.ref (n+3) 0)]⟩:Env) (Zu O n [none,some ⟨false,25,3,1,(Zi a1)⟩,some ⟨false,25,3,1,[.val (.int .i64 0),.val (.slice none 0 0),.val (.slice none 0 0)]⟩,some ⟨false,131,2,1,[.sl z12.1.length (fl Za z12.1),.row (n+4) z12.2.length]⟩,some ⟨true,25,3,z12.2.length,fl Za z12.2⟩,none]) (n+6))) ?_
  intro s0_ x0_ hs0_
  unfold Gb at hs0_
  try dsimp only
  refine zQ [3,4,6,25,26,27,28] ?_
  refine Zj ?_
  refine Zn (t:=(decide (s0_.1 < (a0.Ops.length:Int)))) rfl (fun c11 => ?_) (fun c11 => ?_)
  ·replace hs0_:=Zq c11 hs0_
   refine zKd [3,4,6,25,26,27] [false,true,true,true,true,false] ?_
   refine Zj ?_
   refine Yy ?_
   refine Zj ?_
   obtain ⟨x7,hx7,ax7,bx7,cx7,hs0_⟩:=bE (f:=Zc) Zdh (fun _=>rfl) (by decide) hs0_
   refine Ziu [] ax7 bx7 cx7 ?_
   refine zDs [3,4,6,8,25,26,27] [false,true,true,true,true,false,true] ?_
   obtain ⟨y9,hy9,hs0_⟩:=bC hs0_
   refine zR ?_
   refine (U4 (i0:=(n+3)) (j0_0:=(n+4)) (by omega) (by omega) (by omega) (by simp only [push_cast,seval,↓reduceIte,Zk,Y8,hN0,hN] <;> rfl) (by simp only [push_cast,seval,↓reduceIte,Zk,Y8,hN0,hN] <;> rfl) hy9).then ?_
   refine zS ?_
   refine zD [3,4,6,25,26,27,33] [false,true,true,true,false,false,false,true] ?_
   refine Zn (t:=(!y9.1)) rfl (fun c10 => ?_) (fun c10 => ?_)
   ·replace hs0_:=Zq c10 hs0_
    refine Zj ?_
    refine zRd [4,5] [false,false,true,false,false,false,false,false] ?_
    refine zW ?_
    exact zEy hs0_
   replace hs0_:=Zp c10 hs0_
   refine zKd [3,4,6,25,26,27] [false,true,true,true,false,false,false,true] ?_
   refine zR ?_
   have hs0_:=Option.some.inj hs0_;subst hs0_
   refine And.intro rfl ?_
   refine Fit2.trans (E':=(⟨45,[],[(3,.ref (n+1) 0),(4,.ref (n+2) 0),(6,.ref (n+3) 0),(25,.sl a0.Ops.length (fl Zc a0.Ops)),(26,.val (.int .i64 (a0.Ops.length:Int))),(27,.val (.int .i64 (IntKind.i64.wrap (s0_.1+1))))]⟩:Env)) (O':=(Zu O n [none,some ⟨false,25,3,1,(Zi a1)⟩,some ⟨false,25,3,1,[.val (.int .i64 0),.val (.slice none 0 0),.val (.slice none 0 0)]⟩,some ⟨false,131,2,1,[.sl y9.2.left.length (fl Za y9.2.left),.row (n+7) y9.2.out.length]⟩,none,none,none,some ⟨true,25,3,y9.2.out.length,fl Za y9.2.out⟩])) (n':=(n+8)) (Fit2.of (Yj hU rfl rfl ?_) (by omega)) ?_
   ·exact zSe
   refine Vu (k:=8) (k':=6) hU [5,1,2,3,5,5,5,4] [0,1,2,3,7,0] rfl rfl rfl rfl ⟨rfl,rfl⟩ ?_
   exact zSe
  replace hs0_:=Zp c11 hs0_
  exact zEx hs0_
 rcases z12 with z12 | z12
 ·dsimp only [K5] at hw h
  refine Uz hw ?_
  try simp only [Xf,Yn,↓reduceIte,Nat.reduceEqDiff]
  exact Zq7 [.agg [.val (.int .i64 0),.val (.slice none 0 0),.val (.slice none 0 0)],.val (.bool false)]
 dsimp only [K5] at hw h
 refine Y9 hw ?_
 try simp only [Xf,Yn,↓reduceIte,Nat.reduceEqDiff]
 refine zDs [3,4,6] [false,true,true,true,true,false] ?_
 refine K6 Zz (by kernel_rfl) [.plain,.plain,.plain,.plain,.plain,.low,.low,.low,.low,.pass,.plain] (fun i=>i≠n+2) [0,1,2,3,4,5,6,7,8,9,10] [.plain,.plain,.plain,.plain,.plain,.low,.low,.low,.low,.pass,.plain] [] (by kernel_rfl) rfl ?_
 refine zS ?_
 refine zO ?_
 refine zD [4,5] [false,false,true,false,true,false] ?_
 exact Xe [.agg [.val (.int .i64 a1.Kind),.val (.slice none 0 0),.row (n+4) z12.2.length],.val (.bool ((z12.1.length:Int) == 0))]
theorem Zq6 {Y6:(S_api_Edit→S_api_Tree→Option (S_api_Tree×Bool))} {Yf:(S_api_Edit→S_api_Tree→Option (S_api_Tree×Bool))} {Xl:(S_api_Edit→S_api_Tree→Option (S_api_Tree×Bool))} {Z0:(Zg→S_api_Op→Option (Bool×Zg))} {Zy:(Zg→S_api_Edit→Option (Bool×Zg))} (Gd:Zby Y6) (Zag:Uk Yf) (Zd4:Zbz Xl) (U4:Vj Z0) (Vl:Ke Zy) {a0:Zg} {a1:S_api_Op} {r:(Bool×Zg)} {O:Objs} {n:Nat} {i0 j0_0:Nat} (hi0:i0 < n) (Za9:j0_0 < n) (V5:i0≠j0_0) (ho0:O i0=some ⟨false,131,2,1,[.sl a0.left.length (fl Za a0.left),.row j0_0 a0.out.length]⟩) (Zbo:O j0_0=some ⟨true,25,3,a0.out.length,fl Za a0.out⟩) (h:Za1 Y6 Yf Xl Z0 Zy a0 a1=some r):GTo Try.prog 117 [.ref i0 0,.agg (Yw a1)] O n (.val (.bool r.1)) (Zu ((O.upd j0_0 none).upd i0 (some ⟨false,131,2,1,[.sl r.2.left.length (fl Za r.2.left),.row n r.2.out.length]⟩)) n [some ⟨true,25,3,r.2.out.length,fl Za r.2.out⟩]) (n+1):=by
 unfold Za1 at h
 refine Zqs Zz Try.call117 Try.func117 rfl (Nat.le_of_ble_eq_true rfl) (by omega) fun hU => ?_
 have e0:=Un (ba:=n) (E:=⟨99,[],Zf7 0 [.ref i0 0,.agg [.val (.int .i64 a1.Kind),.val (.int .i64 a1.N),.sl a1.L.length (fl Za a1.L),.val (.int .i64 a1.E.Kind),.val (.int .i64 a1.E.Old.Kind),.sl a1.E.Old.Words.length (fl (eI .u64) a1.E.Old.Words),.sl a1.E.Old.Kids.length (fl Za a1.E.Old.Kids),.val (.int .i64 a1.E.New.Kind),.sl a1.E.New.Words.length (fl (eI .u64) a1.E.New.Words),.sl a1.E.New.Kids.length (fl Za a1.E.New.Kids),.sl a1.E.Words.length (fl Zb a1.E.Words),.sl a1.E.Kids.length (fl Zd a1.E.Kids),.val (.int .i64 a1.E.List_),.sl a1.E.Ops.length (fl Zc a1.E.Ops)]]⟩) (O:=(Zu O n [])) (n:=n) (i:=i0) (j:=j0_0) (k:=1) (len:=a0.out.length) (q:=⟨false,131,2,1,[.sl a0.left.length (fl Za a0.left),.row j0_0 a0.out.length]⟩) (qj:=⟨true,25,3,a0.out.length,fl Za a0.out⟩) (by rw [Yl _ hi0];first | exact ho0 | exact Yb _ _ _) rfl (by rw [Yl _ Za9];exact Zbo) V5 (by omega)
 simp only [Yp _ _ Za9,Yp _ _ hi0,Y2,Yk,X5,Zcx V5,List.set_cons_zero,List.set_cons_succ,List.cons_append,List.nil_append,List.length_cons,List.length_nil,Nat.zero_add,Nat.reduceAdd,Nat.add_assoc] at e0
 refine Vn e0 ?_
 have hU:=(Und.drop hU j0_0)
 have hk0:∀ k,i0 < n+k:=fun k=>by omega
 have hN0:∀ o,Objs.upd (O.upd j0_0 none) i0 o n=none:=fun o=>Kf hU hi0 _ (Nat.le_refl _)
 have hN:∀ o k,Objs.upd (O.upd j0_0 none) i0 o (n+k)=none:=fun o k=>Kf hU hi0 _ (Nat.le_add_right _ _)
 show W _ _ _ _ ⟨99,[],[(0,.ref i0 0),(1,.agg (Yw a1))]⟩ (Zu ((O.upd j0_0 none).upd i0 (some ⟨false,131,2,1,[.sl a0.left.length (fl Za a0.left),.row n a0.out.length]⟩)) n [some ⟨true,25,3,a0.out.length,fl Za a0.out⟩]) _
 refine Zdv [0,3] hi0 hk0 ?_
 refine Zj ?_
 refine Zdv [0,3,7] hi0 hk0 ?_
 refine Yy ?_
 refine Zdv [0,3,7,8] hi0 hk0 ?_
 refine Zn (t:=(a1.Kind == 0)) rfl (fun c28 => ?_) (fun c28 => ?_)
 ·replace h:=Zq c28 h
  refine Zj ?_
  obtain ⟨z1,hz1,h⟩:=bC h
  refine Xt (E':=⟨99,[],[(0,.ref i0 0),(3,.ref (n+1) 0),(22,.val (.bool z1))]⟩) (O':=(Zu ((O.upd j0_0 none).upd i0 (some ⟨false,131,2,1,[.sl a0.left.length (fl Za a0.left),.row n a0.out.length]⟩)) n [some ⟨true,25,3,a0.out.length,fl Za a0.out⟩,some ⟨false,53,14,1,(Yw a1)⟩])) (n0:=(n+2)) ?_ ?_
  ·rcases Bool.eq_false_or_eq_true (decide (a1.N < 0)) with c2 | c2
   ·replace hz1:=Zq c2 hz1
    refine Vh Zz (by kernel_rfl) [some false,some false,some false,some false,some false,some false,some false,some false] (by kernel_rfl) ?_
    refine zX3 c2 hi0 hk0 ?_
    have hz1:=Option.some.inj hz1;subst hz1
    refine And.intro rfl (Fit2.of (Ya hU rfl rfl ?_) (by omega))
    exact Z5k c2 hi0 hk0
   replace hz1:=Zp c2 hz1
   refine Vh Zz (by kernel_rfl) [some true,some true,some true,some true,some true,some true,some true,some true] (by kernel_rfl) ?_
   refine zX3 c2 hi0 hk0 ?_
   have hz1:=Option.some.inj hz1;subst hz1
   refine And.intro rfl (Fit2.of (Ya hU rfl rfl ?_) (by omega))
   exact Z5k c2 hi0 hk0
  refine Zn (t:=z1) rfl (fun c9 => ?_) (fun c9 => ?_)
  ·replace h:=Zq c9 h
   refine Zdv [4] hi0 hk0 ?_
   refine zW ?_
   have h:=Option.some.inj h;subst h
   refine Vk (k:=1) (i:=i0) (q1:=⟨false,131,2,1,[.sl a0.left.length (fl Za a0.left),.row n a0.out.length]⟩) (L3:=[some ⟨true,25,3,a0.out.length,fl Za a0.out⟩,none]) (E2:=(⟨99,[],[(4,.val (.bool false))]⟩:Env)) (n3:=(n+2)) (.inr rfl) hU rfl [.val (.bool false)] ?_ ?_
   ·refine Fit2.trans (E':=(⟨99,[],[(4,.val (.bool false))]⟩:Env)) (O':=(Zu ((O.upd j0_0 none).upd i0 (some ⟨false,131,2,1,[.sl a0.left.length (fl Za a0.left),.row n a0.out.length]⟩)) n [some ⟨true,25,3,a0.out.length,fl Za a0.out⟩,none])) (n':=(n+2)) (Fit2.of (Ya hU rfl rfl ?_) (by omega)) ?_
    ·exact Ve hi0 hk0
    refine Qq (k:=2) (k':=2) hU [0,1] [0,0] rfl rfl rfl rfl ⟨rfl,rfl⟩ ?_
    exact Ve hi0 hk0
   simp only [push_cast,seval,↓reduceIte,Zk,Try.results117,hi0,hk0,hN0,hN]
  replace h:=Zp c9 h
  refine zKd [0,3] [true,true] ?_
  refine Zj ?_
  obtain ⟨l5,al5,bl5,cl5,gl5,h⟩:=bS (lo:=none) (hi:=(some (.i64,a1.N))) (f:=Za) rfl rfl Zcl Gr (fun _=>rfl) h
  obtain ⟨l6,pl6,ql6,el6,h⟩:=bA (k:=l5.length) rfl h
  refine K6 Zz (by kernel_rfl) [.plain,.plain,.plain,.plain,.plain,.plain,.plain,.plain,.plain,.plain,.plain,.plain,.pass,.plain,.plain,.bar] (fun i=>i≠n+0) [0,1,2,3,4,5,6,7,8,9,10,11,12,13,14,15] [.plain,.plain,.plain,.plain,.plain,.plain,.plain,.plain,.plain,.plain,.plain,.plain,.pass,.plain,.plain,.bar] [] (by kernel_rfl) rfl ?_
  simp only [push_cast,seval,↓reduceIte,Zk,al5,bl5,cl5,gl5,pl6,ql6,el6,hi0,hk0,hN0,hN]
  refine zO ?_
  refine Zek ⟨99,[],[(0,.ref i0 0),(3,.ref (n+1) 0)]⟩ (Zu ((O.upd j0_0 none).upd i0 (some ⟨false,131,2,1,[.sl a0.left.length (fl Za a0.left),.row n l6.length]⟩)) n [some ⟨true,25,3,l6.length,fl Za l6⟩,some ⟨false,53,14,1,(Yw a1)⟩]) (Ya hU rfl rfl ?_) ?_
  ·simp only [push_cast,seval,↓reduceIte,Zk,al5,bl5,cl5,gl5,pl6,ql6,el6,hi0,hk0,hN0,hN]
  refine Zj ?_
  obtain ⟨l8,al8,bl8,cl8,gl8,h⟩:=bS (lo:=(some (.i64,a1.N))) (hi:=none) (f:=Za) rfl rfl Zcl Gr (fun _=>rfl) h
  refine Zl2 Zz (by kernel_rfl) [false,false,false,false,false,false,false,false,false,false,true] [] (by kernel_rfl) ?_
  refine zX6 al8 bl8 cl8 gl8 hi0 hk0 ?_
  refine zD [] [true,false] ?_
  refine Zdv [4] hi0 hk0 ?_
  refine zW ?_
  have h:=Option.some.inj h;subst h
  refine Vk (k:=1) (i:=i0) (q1:=⟨false,131,2,1,[.sl l8.length (fl Za l8),.row n l6.length]⟩) (L3:=[some ⟨true,25,3,l6.length,fl Za l6⟩,none]) (E2:=(⟨99,[],[(4,.val (.bool true))]⟩:Env)) (n3:=(n+2)) (.inr rfl) hU rfl [.val (.bool true)] ?_ ?_
  ·refine Fit2.trans (E':=(⟨99,[],[(4,.val (.bool true))]⟩:Env)) (O':=(Zu ((O.upd j0_0 none).upd i0 (some ⟨false,131,2,1,[.sl l8.length (fl Za l8),.row n l6.length]⟩)) n [some ⟨true,25,3,l6.length,fl Za l6⟩,none])) (n':=(n+2)) (Fit2.of (Ya hU rfl rfl ?_) (by omega)) ?_
   ·exact Ve hi0 hk0
   refine Qq (k:=2) (k':=2) hU [0,1] [0,0] rfl rfl rfl rfl ⟨rfl,rfl⟩ ?_
   exact Ve hi0 hk0
  simp only [push_cast,seval,↓reduceIte,Zk,Try.results117,hi0,hk0,hN0,hN]
 replace h:=Zp c28 h
 refine Zdv [0,3,7,48] hi0 hk0 ?_
 refine Zn (t:=(a1.Kind == 1)) rfl (fun c27 => ?_) (fun c27 => ?_)
 ·replace h:=Zq c27 h
  refine Zdv [0,3,5] hi0 hk0 ?_
  refine Zj ?_
  obtain ⟨z12,hz12,h⟩:=bC h
  refine Xt (E':=⟨99,[],[(0,.ref i0 0),(5,.val (.int .i64 (a1.L.length:Int))),(71,.val (.bool z12))]⟩) (O':=(Zu ((O.upd j0_0 none).upd i0 (some ⟨false,131,2,1,[.sl a0.left.length (fl Za a0.left),.row n a0.out.length]⟩)) n [some ⟨true,25,3,a0.out.length,fl Za a0.out⟩,none])) (n0:=(n+2)) ?_ ?_
  ·rcases Bool.eq_false_or_eq_true (decide ((a0.left.length:Int) < (a1.L.length:Int))) with c17 | c17
   ·replace hz12:=Zq c17 hz12
    refine Vh Zz (by kernel_rfl) [some false,some false,some false,some false,some false,some false,some false,some false,some false,some false] (by kernel_rfl) ?_
    refine zX3 c17 hi0 hk0 ?_
    have hz12:=Option.some.inj hz12;subst hz12
    refine And.intro rfl (Fit2.of (Ya hU rfl rfl ?_) (by omega))
    exact Z5k c17 hi0 hk0
   replace hz12:=Zp c17 hz12
   obtain ⟨l15,al15,bl15,cl15,gl15,hz12⟩:=bS (lo:=none) (hi:=(some (.i64,(a1.L.length:Int)))) (f:=Za) rfl rfl Zcl Gr (fun _=>rfl) hz12
   obtain ⟨y16,hy16,hz12⟩:=bC hz12
   refine Vh Zz (by kernel_rfl) [some true,some true,some true,some true,some true,some true,some true,some true,some true,some true] (by kernel_rfl) ?_
   simp only [push_cast,seval,↓reduceIte,Zk,c17,al15,bl15,cl15,gl15,hi0,hk0,hN0,hN]
   refine PCall.of (Qs hy16) ?_
   simp only [push_cast,seval,↓reduceIte,Zk,c17,al15,bl15,cl15,gl15,hi0,hk0,hN0,hN]
   have hz12:=Option.some.inj hz12;subst hz12
   refine And.intro rfl (Fit2.of (Ya hU rfl rfl ?_) (by omega))
   simp only [push_cast,seval,↓reduceIte,Zk,c17,al15,bl15,cl15,gl15,hi0,hk0,hN0,hN]
  refine Zn (t:=z12) rfl (fun c20 => ?_) (fun c20 => ?_)
  ·replace h:=Zq c20 h
   refine Zdv [4] hi0 hk0 ?_
   refine zW ?_
   have h:=Option.some.inj h;subst h
   refine Vk (k:=1) (i:=i0) (q1:=⟨false,131,2,1,[.sl a0.left.length (fl Za a0.left),.row n a0.out.length]⟩) (L3:=[some ⟨true,25,3,a0.out.length,fl Za a0.out⟩,none]) (E2:=(⟨99,[],[(4,.val (.bool false))]⟩:Env)) (n3:=(n+2)) (.inr rfl) hU rfl [.val (.bool false)] ?_ ?_
   ·refine Fit2.trans (E':=(⟨99,[],[(4,.val (.bool false))]⟩:Env)) (O':=(Zu ((O.upd j0_0 none).upd i0 (some ⟨false,131,2,1,[.sl a0.left.length (fl Za a0.left),.row n a0.out.length]⟩)) n [some ⟨true,25,3,a0.out.length,fl Za a0.out⟩,none])) (n':=(n+2)) (Fit2.of (Ya hU rfl rfl ?_) (by omega)) ?_
    ·exact Ve hi0 hk0
    refine Qq (k:=2) (k':=2) hU [0,1] [0,0] rfl rfl rfl rfl ⟨rfl,rfl⟩ ?_
    exact Ve hi0 hk0
   simp only [push_cast,seval,↓reduceIte,Zk,Try.results117,hi0,hk0,hN0,hN]
  replace h:=Zp c20 h
  refine zKd [0,5] [true,false] ?_
  refine Zj ?_
  obtain ⟨l19,al19,bl19,cl19,gl19,h⟩:=bS (lo:=(some (.i64,(a1.L.length:Int)))) (hi:=none) (f:=Za) rfl rfl Zcl Gr (fun _=>rfl) h
  refine Ybt [] al19 bl19 cl19 gl19 hi0 hk0 ?_
  refine zD [] [true,false] ?_
  refine Zdv [4] hi0 hk0 ?_
  refine zW ?_
  have h:=Option.some.inj h;subst h
  refine Vk (k:=1) (i:=i0) (q1:=⟨false,131,2,1,[.sl l19.length (fl Za l19),.row n a0.out.length]⟩) (L3:=[some ⟨true,25,3,a0.out.length,fl Za a0.out⟩,none]) (E2:=(⟨99,[],[(4,.val (.bool true))]⟩:Env)) (n3:=(n+2)) (.inr rfl) hU rfl [.val (.bool true)] ?_ ?_
  ·refine Fit2.trans (E':=(⟨99,[],[(4,.val (.bool true))]⟩:Env)) (O':=(Zu ((O.upd j0_0 none).upd i0 (some ⟨false,131,2,1,[.sl l19.length (fl Za l19),.row n a0.out.length]⟩)) n [some ⟨true,25,3,a0.out.length,fl Za a0.out⟩,none])) (n':=(n+2)) (Fit2.of (Ya hU rfl rfl ?_) (by omega)) ?_
   ·exact Ve hi0 hk0
   refine Qq (k:=2) (k':=2) hU [0,1] [0,0] rfl rfl rfl rfl ⟨rfl,rfl⟩ ?_
   exact Ve hi0 hk0
  simp only [push_cast,seval,↓reduceIte,Zk,Try.results117,hi0,hk0,hN0,hN]
 replace h:=Zp c27 h
 refine Zdv [0,3,7,81] hi0 hk0 ?_
 refine Zn (t:=(a1.Kind == 2)) rfl (fun c26 => ?_) (fun c26 => ?_)
 ·replace h:=Zq c26 h
  refine Zj ?_
  obtain ⟨l22,pl22,ql22,el22,h⟩:=bA (k:=a1.L.length) rfl h
  refine K6 Zz (by kernel_rfl) [.plain,.plain,.plain,.plain,.plain,.plain,.plain,.pass,.plain,.plain,.bar] (fun i=>i≠n+0) [0,1,2,3,4,5,6,7,8,9,10] [.plain,.plain,.plain,.plain,.plain,.plain,.plain,.pass,.plain,.plain,.bar] [] (by kernel_rfl) rfl ?_
  refine zX5 pl22 ql22 el22 hi0 hk0 ?_
  refine zO ?_
  refine Zek ⟨99,[],[]⟩ (Zu ((O.upd j0_0 none).upd i0 (some ⟨false,131,2,1,[.sl a0.left.length (fl Za a0.left),.row n l22.length]⟩)) n [some ⟨true,25,3,l22.length,fl Za l22⟩,none]) (Ya hU rfl rfl ?_) ?_
  ·exact Ygc pl22 ql22 el22 hi0 hk0
  refine Zdv [4] hi0 hk0 ?_
  refine zW ?_
  have h:=Option.some.inj h;subst h
  refine Vk (k:=1) (i:=i0) (q1:=⟨false,131,2,1,[.sl a0.left.length (fl Za a0.left),.row n l22.length]⟩) (L3:=[some ⟨true,25,3,l22.length,fl Za l22⟩,none]) (E2:=(⟨99,[],[(4,.val (.bool true))]⟩:Env)) (n3:=(n+2)) (.inr rfl) hU rfl [.val (.bool true)] ?_ ?_
  ·refine Fit2.trans (E':=(⟨99,[],[(4,.val (.bool true))]⟩:Env)) (O':=(Zu ((O.upd j0_0 none).upd i0 (some ⟨false,131,2,1,[.sl a0.left.length (fl Za a0.left),.row n l22.length]⟩)) n [some ⟨true,25,3,l22.length,fl Za l22⟩,none])) (n':=(n+2)) (Fit2.of (Ya hU rfl rfl ?_) (by omega)) ?_
   ·exact Ve hi0 hk0
   refine Qq (k:=2) (k':=2) hU [0,1] [0,0] rfl rfl rfl rfl ⟨rfl,rfl⟩ ?_
   exact Ve hi0 hk0
  simp only [push_cast,seval,↓reduceIte,Zk,Try.results117,hi0,hk0,hN0,hN]
 replace h:=Zp c26 h
 refine Zdv [0,3,93] hi0 hk0 ?_
 refine Zn (t:=(a1.Kind == 3)) rfl (fun c25 => ?_) (fun c25 => ?_)
 ·replace h:=Zq c25 h
  refine Zj ?_
  obtain ⟨y24,hy24,h⟩:=bC h
  refine Zbb [] hi0 hk0 ?_
  refine (Vl (i0:=i0) (j0_0:=n) (by omega) (by omega) (by omega) (by simp only [push_cast,seval,↓reduceIte,Zk,Y8,hi0,hk0,hN0,hN] <;> rfl) (by simp only [push_cast,seval,↓reduceIte,Zk,Y8,hi0,hk0,hN0,hN] <;> rfl) hy24).then ?_
  refine zX2 hi0 hk0 ?_
  refine zD [4] [false,false,true] ?_
  refine zW ?_
  have h:=Option.some.inj h;subst h
  refine Vk (k:=1) (i:=i0) (q1:=⟨false,131,2,1,[.sl y24.2.left.length (fl Za y24.2.left),.row n y24.2.out.length]⟩) (L3:=[some ⟨true,25,3,y24.2.out.length,fl Za y24.2.out⟩,none]) (E2:=(⟨99,[],[(4,.val (.bool y24.1))]⟩:Env)) (n3:=(n+2)) (.inr rfl) hU rfl [.val (.bool y24.1)] ?_ ?_
  ·refine Fit2.trans (E':=(⟨99,[],[(4,.val (.bool y24.1))]⟩:Env)) (O':=(Zu ((O.upd j0_0 none).upd i0 (some ⟨false,131,2,1,[.sl y24.2.left.length (fl Za y24.2.left),.row (n+2) y24.2.out.length]⟩)) n [none,none,some ⟨true,25,3,y24.2.out.length,fl Za y24.2.out⟩])) (n':=(n+3)) (Fit2.of (Ya hU rfl rfl ?_) (by omega)) ?_
   ·exact Ve hi0 hk0
   refine Qq (k:=3) (k':=2) hU [1,1,0] [2,0] rfl rfl rfl rfl ⟨rfl,rfl⟩ ?_
   exact Ve hi0 hk0
  simp only [push_cast,seval,↓reduceIte,Zk,Try.results117,hi0,hk0,hN0,hN]
 replace h:=Zp c25 h
 refine zKd [] [true,false] ?_
 refine Zdv [4] hi0 hk0 ?_
 refine zW ?_
 have h:=Option.some.inj h;subst h
 refine Vk (k:=1) (i:=i0) (q1:=⟨false,131,2,1,[.sl a0.left.length (fl Za a0.left),.row n a0.out.length]⟩) (L3:=[some ⟨true,25,3,a0.out.length,fl Za a0.out⟩,none]) (E2:=(⟨99,[],[(4,.val (.bool false))]⟩:Env)) (n3:=(n+2)) (.inr rfl) hU rfl [.val (.bool false)] ?_ ?_
 ·refine Fit2.trans (E':=(⟨99,[],[(4,.val (.bool false))]⟩:Env)) (O':=(Zu ((O.upd j0_0 none).upd i0 (some ⟨false,131,2,1,[.sl a0.left.length (fl Za a0.left),.row n a0.out.length]⟩)) n [some ⟨true,25,3,a0.out.length,fl Za a0.out⟩,none])) (n':=(n+2)) (Fit2.of (Ya hU rfl rfl ?_) (by omega)) ?_
  ·exact Ve hi0 hk0
  refine Qq (k:=2) (k':=2) hU [0,1] [0,0] rfl rfl rfl rfl ⟨rfl,rfl⟩ ?_
  exact Ve hi0 hk0
 simp only [push_cast,seval,↓reduceIte,Zk,Try.results117,hi0,hk0,hN0,hN]
theorem Zpg {Y6:(S_api_Edit→S_api_Tree→Option (S_api_Tree×Bool))} {Yf:(S_api_Edit→S_api_Tree→Option (S_api_Tree×Bool))} {Xl:(S_api_Edit→S_api_Tree→Option (S_api_Tree×Bool))} {Z0:(Zg→S_api_Op→Option (Bool×Zg))} {Zy:(Zg→S_api_Edit→Option (Bool×Zg))} (Gd:Zby Y6) (Zag:Uk Yf) (Zd4:Zbz Xl) (U4:Vj Z0) (Vl:Ke Zy) {a0:Zg} {a1:S_api_Edit} {r:(Bool×Zg)} {O:Objs} {n:Nat} {i0 j0_0:Nat} (hi0:i0 < n) (Za9:j0_0 < n) (V5:i0≠j0_0) (ho0:O i0=some ⟨false,131,2,1,[.sl a0.left.length (fl Za a0.left),.row j0_0 a0.out.length]⟩) (Zbo:O j0_0=some ⟨true,25,3,a0.out.length,fl Za a0.out⟩) (h:U0 Y6 Yf Xl Z0 Zy a0 a1=some r):GTo Try.prog 128 [.ref i0 0,.agg (Ze a1)] O n (.val (.bool r.1)) (Zu ((O.upd j0_0 none).upd i0 (some ⟨false,131,2,1,[.sl r.2.left.length (fl Za r.2.left),.row n r.2.out.length]⟩)) n [some ⟨true,25,3,r.2.out.length,fl Za r.2.out⟩]) (n+1):=by
 unfold U0 at h
 refine Zqs Zz Try.call128 Try.func128 rfl (Nat.le_of_ble_eq_true rfl) (by omega) fun hU => ?_
 have e0:=Un (ba:=n) (E:=⟨44,[],Zf7 0 [.ref i0 0,.agg [.val (.int .i64 a1.Kind),.val (.int .i64 a1.Old.Kind),.sl a1.Old.Words.length (fl (eI .u64) a1.Old.Words),.sl a1.Old.Kids.length (fl Za a1.Old.Kids),.val (.int .i64 a1.New.Kind),.sl a1.New.Words.length (fl (eI .u64) a1.New.Words),.sl a1.New.Kids.length (fl Za a1.New.Kids),.sl a1.Words.length (fl Zb a1.Words),.sl a1.Kids.length (fl Zd a1.Kids),.val (.int .i64 a1.List_),.sl a1.Ops.length (fl Zc a1.Ops)]]⟩) (O:=(Zu O n [])) (n:=n) (i:=i0) (j:=j0_0) (k:=1) (len:=a0.out.length) (q:=⟨false,131,2,1,[.sl a0.left.length (fl Za a0.left),.row j0_0 a0.out.length]⟩) (qj:=⟨true,25,3,a0.out.length,fl Za a0.out⟩) (by rw [Yl _ hi0];first | exact ho0 | exact Yb _ _ _) rfl (by rw [Yl _ Za9];exact Zbo) V5 (by omega)
 simp only [Yp _ _ Za9,Yp _ _ hi0,Y2,Yk,X5,Zcx V5,List.set_cons_zero,List.set_cons_succ,List.cons_append,List.nil_append,List.length_cons,List.length_nil,Nat.zero_add,Nat.reduceAdd,Nat.add_assoc] at e0
 refine Vn e0 ?_
 have hU:=(Und.drop hU j0_0)
 have hk0:∀ k,i0 < n+k:=fun k=>by omega
 have hN0:∀ o,Objs.upd (O.upd j0_0 none) i0 o n=none:=fun o=>Kf hU hi0 _ (Nat.le_refl _)
 have hN:∀ o k,Objs.upd (O.upd j0_0 none) i0 o (n+k)=none:=fun o k=>Kf hU hi0 _ (Nat.le_add_right _ _)
 show W _ _ _ _ ⟨44,[],[(0,.ref i0 0),(1,.agg (Ze a1))]⟩ (Zu ((O.upd j0_0 none).upd i0 (some ⟨false,131,2,1,[.sl a0.left.length (fl Za a0.left),.row n a0.out.length]⟩)) n [some ⟨true,25,3,a0.out.length,fl Za a0.out⟩]) _
 refine Zdv [0,3] hi0 hk0 ?_
 refine Zj ?_
 refine Zdv [0,3,12] hi0 hk0 ?_
 refine Zn (t:=((a0.left.length:Int) == 0)) rfl (fun c13 => ?_) (fun c13 => ?_)
 ·replace h:=Zq c13 h
  refine Zdv [4] hi0 hk0 ?_
  refine zW ?_
  have h:=Option.some.inj h;subst h
  refine Vk (k:=1) (i:=i0) (q1:=⟨false,131,2,1,[.sl a0.left.length (fl Za a0.left),.row n a0.out.length]⟩) (L3:=[some ⟨true,25,3,a0.out.length,fl Za a0.out⟩,none]) (E2:=(⟨44,[],[(4,.val (.bool false))]⟩:Env)) (n3:=(n+2)) (.inr rfl) hU rfl [.val (.bool false)] ?_ ?_
  ·refine Fit2.trans (E':=(⟨44,[],[(4,.val (.bool false))]⟩:Env)) (O':=(Zu ((O.upd j0_0 none).upd i0 (some ⟨false,131,2,1,[.sl a0.left.length (fl Za a0.left),.row n a0.out.length]⟩)) n [some ⟨true,25,3,a0.out.length,fl Za a0.out⟩,none])) (n':=(n+2)) (Fit2.of (Ya hU rfl rfl ?_) (by omega)) ?_
   ·exact Ve hi0 hk0
   refine Qq (k:=2) (k':=2) hU [0,1] [0,0] rfl rfl rfl rfl ⟨rfl,rfl⟩ ?_
   exact Ve hi0 hk0
  simp only [push_cast,seval,↓reduceIte,Zk,Try.results128,hi0,hk0,hN0,hN]
 replace h:=Zp c13 h
 refine zKd [0,3] [true,true] ?_
 refine Zj ?_
 obtain ⟨x3,hx3,ax3,bx3,cx3,h⟩:=bE (f:=Za) Gr (fun _=>rfl) (by decide) h
 obtain ⟨y4,hy4,h⟩:=bC h
 refine K6 Zz (by kernel_rfl) [.low,.plain,.low,.low,.low,.low,.low,.low,.plain,.plain,.plain,.pass,.bar,.plain] (fun i=>i < (n+2)) [0,1,2,3,4,5,6,7,8,9,10,11,12,13] [.low,.plain,.low,.low,.low,.low,.low,.low,.plain,.plain,.plain,.pass,.bar,.plain] [] (by kernel_rfl) rfl ?_
 refine zF5 ax3 bx3 cx3 hi0 hk0 ?_
 refine zO ?_
 first | refine PCallA.of (fun _ _=>Gd hy4) ?_ | refine PCall.of (Gd hy4) ?_
 refine zF5 ax3 bx3 cx3 hi0 hk0 ?_
 refine zO ?_
 refine zDs [0,5,6] [true,false,true] ?_
 obtain ⟨l8,pl8,ql8,el8,h⟩:=bA (k:=1) rfl h
 obtain ⟨x9,hx9,ax9,bx9,cx9,h⟩:=bE (f:=Za) Gr (fun _=>rfl) (by decide) h
 have gu10:U1 (fl Za a0.out++[.val (.int .i64 0),.val (.slice none 0 0),.val (.slice none 0 0)]) [.val (.int .i64 y4.1.Kind),.sl y4.1.Words.length (fl (eI .u64) y4.1.Words),.sl y4.1.Kids.length (fl Za y4.1.Kids)] (List.length a0.out * 3)=some (fl Za a0.out++[.val (.int .i64 y4.1.Kind),.sl y4.1.Words.length (fl (eI .u64) y4.1.Words),.sl y4.1.Kids.length (fl Za y4.1.Kids)]):=Zc7 (f:=Za) (sz:=3) (fun _=>rfl) rfl rfl
 refine K6 Zz (by kernel_rfl) [.plain,.low,.low,.low,.low,.low,.pass,.bar,.shp,.fill true,.shp,.shp,.fill false] (fun i=>i < (n+3)) [0,1,2,3,4,5,6,7,8,9,10,11,12] [.plain,.low,.low,.low,.low,.low,.pass,.bar,.shp,.fill true,.shp,.shp,.fill false] [] (by kernel_rfl) rfl ?_
 refine zF9 pl8 ql8 el8 ax9 bx9 cx9 gu10 hi0 hk0 ?_
 refine zO ?_
 refine Zek ⟨44,[],[(0,.ref i0 0),(6,.val (.bool y4.2))]⟩ (Zu ((O.upd j0_0 none).upd i0 (some ⟨false,131,2,1,[.sl a0.left.length (fl Za a0.left),.row n (a0.out++[y4.1]).length]⟩)) n [some ⟨true,25,3,(a0.out++[y4.1]).length,fl Za (a0.out++[y4.1])⟩,none,none,none]) (Ya hU rfl rfl ?_) ?_
 ·exact Z5j pl8 ql8 el8 ax9 bx9 cx9 gu10 hi0 hk0
 refine Zj ?_
 obtain ⟨l12,al12,bl12,cl12,gl12,h⟩:=bS (lo:=(some (.i64,1))) (hi:=none) (f:=Za) rfl rfl Zcl Gr (fun _=>rfl) h
 refine Ybt [] al12 bl12 cl12 gl12 hi0 hk0 ?_
 refine zD [6] [true,false,false,false] ?_
 refine Zdv [4] hi0 hk0 ?_
 refine zW ?_
 have h:=Option.some.inj h;subst h
 refine Vk (k:=1) (i:=i0) (q1:=⟨false,131,2,1,[.sl l12.length (fl Za l12),.row n (a0.out++[y4.1]).length]⟩) (L3:=[some ⟨true,25,3,(a0.out++[y4.1]).length,fl Za (a0.out++[y4.1])⟩,none]) (E2:=(⟨44,[],[(4,.val (.bool y4.2))]⟩:Env)) (n3:=(n+2)) (.inr rfl) hU rfl [.val (.bool y4.2)] ?_ ?_
 ·refine Fit2.trans (E':=(⟨44,[],[(4,.val (.bool y4.2))]⟩:Env)) (O':=(Zu ((O.upd j0_0 none).upd i0 (some ⟨false,131,2,1,[.sl l12.length (fl Za l12),.row n (a0.out++[y4.1]).length]⟩)) n [some ⟨true,25,3,(a0.out++[y4.1]).length,fl Za (a0.out++[y4.1])⟩,none,none,none])) (n':=(n+4)) (Fit2.of (Ya hU rfl rfl ?_) (by omega)) ?_
  ·exact Ve hi0 hk0
  refine Qq (k:=4) (k':=2) hU [0,1,1,1] [0,0] rfl rfl rfl rfl ⟨rfl,rfl⟩ ?_
  exact Ve hi0 hk0
 simp only [push_cast,seval,↓reduceIte,Zk,Try.results128,hi0,hk0,hN0,hN]
theorem Zwn:∀ k,(Zby ((Zm k).1))∧(Uk ((Zm k).2.1))∧(Zbz ((Zm k).2.2.1))∧(Vj ((Zm k).2.2.2.1))∧(Ke ((Zm k).2.2.2.2)):=fun k=>by
 induction k with
 | zero=>exact ⟨@fun a0 a1 r O n h=>(nomatch (show (none:Option _)=some _ from h)),@fun a0 a1 r O n h=>(nomatch (show (none:Option _)=some _ from h)),@fun a0 a1 r O n h=>(nomatch (show (none:Option _)=some _ from h)),@fun a0 a1 r O n i0 j0_0 hi0 Za9 V5 ho0 Zbo h=>(nomatch (show (none:Option _)=some _ from h)),@fun a0 a1 r O n i0 j0_0 hi0 Za9 V5 ho0 Zbo h=>(nomatch (show (none:Option _)=some _ from h))⟩
 | succ k ih=>exact ⟨@fun a0 a1 r O n h=>Z0g (ih.1) (ih.2.1) (ih.2.2.1) (ih.2.2.2.1) (ih.2.2.2.2)  h,@fun a0 a1 r O n h=>Ztz (ih.1) (ih.2.1) (ih.2.2.1) (ih.2.2.2.1) (ih.2.2.2.2)  h,@fun a0 a1 r O n h=>Z0h (ih.1) (ih.2.1) (ih.2.2.1) (ih.2.2.2.1) (ih.2.2.2.2)  h,@fun a0 a1 r O n i0 j0_0 hi0 Za9 V5 ho0 Zbo h=>Zq6 (ih.1) (ih.2.1) (ih.2.2.1) (ih.2.2.2.1) (ih.2.2.2.2) hi0 Za9 V5 ho0 Zbo h,@fun a0 a1 r O n i0 j0_0 hi0 Za9 V5 ho0 Zbo h=>Zpg (ih.1) (ih.2.1) (ih.2.2.1) (ih.2.2.2.1) (ih.2.2.2.2) hi0 Za9 V5 ho0 Zbo h⟩
theorem Z08 {a0:S_api_Edit} {a1:S_api_Tree} {r:(S_api_Tree×Bool)} {O:Objs} {n:Nat} (h:Zqd a0 a1=some r):GTo Try.prog 37 [.agg (Ze a0),.agg (Zi a1)] O n (.tup [.agg (Zi r.1),.val (.bool r.2)]) O n:=by
 obtain ⟨k,hk⟩:=Zcr h
 exact (Zwn k).1  hk
theorem Ux {a0:S_api_Edit} {a1:S_api_Tree} {r:(S_api_Tree×Bool)} {O:Objs} {n:Nat} (h:Xq a0 a1=some r):GTo Try.prog 16 [.agg (Ze a0),.agg (Zi a1)] O n (.tup [.agg (Zi r.1),.val (.bool r.2)]) O n:=by
 unfold Xq at h
 refine zFn Try.call16 Try.func16 fun hU hN0 hN => ?_
 show W _ _ _ _ ⟨19,[],[(0,.agg (Ze a0)),(1,.agg (Zi a1))]⟩ (Zu O n []) _
 refine zQ [2,3,4] ?_
 refine Zj ?_
 obtain ⟨y2,hy2,h⟩:=bC h
 refine zCd (Z08 hy2) [4,6,7] [false,false,true,true] ?_
 refine Zj ?_
 refine zQ [4,6,15] ?_
 refine Zn (t:=(!y2.2)) rfl (fun c5 => ?_) (fun c5 => ?_)
 ·replace h:=Zq c5 h
  refine Zj ?_
  refine zRd [4,5] [false,false,true,false] ?_
  exact Xe [.agg [.val (.int .i64 0),.val (.slice none 0 0),.val (.slice none 0 0)],.val (.bool false)]
 replace h:=Zp c5 h
 refine zKd [4,6] [false,false,true,true] ?_
 refine Zj ?_
 obtain ⟨y4,hy4,h⟩:=bC h
 refine zCd (Zdt hy4) [4,5] [false,false,true,false] ?_
 exact Xe [.agg (Zi y4),.val (.bool true)]
theorem Zas {a0:Zf} {r:Int} {O:Objs} {n:Nat} (h:Xx a0=some r):GTo Try.prog 79 [.agg (Xb a0)] O n (.val (.int .i64 r)) O n:=by
 unfold Xx at h
 refine zFn Try.call79 Try.func79 fun hU hN0 hN => ?_
 show W _ _ _ _ ⟨5,[],[(0,.agg (Xb a0))]⟩ (Zu O n []) _
 refine zQ [1] ?_
 refine zQ [2] ?_
 exact Xe [.val (.int .i64 a0.At)]
theorem Zqu {a0:Zf} {a1:Zf} {r:(Zf×Bool)} {O:Objs} {n:Nat} (h:Ze7 a0 a1=some r):GTo Try.prog 18 [.agg (Xb a0),.agg (Xb a1)] O n (.tup [.agg (Xb r.1),.val (.bool r.2)]) O n:=by
 unfold Ze7 at h
 refine zFn Try.call18 Try.func18 fun hU hN0 hN => ?_
 show W _ _ _ _ ⟨42,[],[(0,.agg (Xb a0)),(1,.agg (Xb a1))]⟩ (Zu O n []) _
 refine zQ [2,3,4] ?_
 refine Zj ?_
 refine Zj ?_
 obtain ⟨y2,hy2,h⟩:=bC h
 refine Vh Zz (by kernel_rfl) [] (by kernel_rfl) ?_
 refine zS ?_
 refine PCall.of (Zqf hy2) ?_
 refine zS ?_
 refine zD [2,3,4,18] [true,true,true] ?_
 refine Zn (t:=((IntKind.u64.wrap (Zii .u64 (IntKind.u64.wrap (Zrl .u64 a0.New a1.Old)) y2)) != 0)) rfl (fun c7 => ?_) (fun c7 => ?_)
 ·replace h:=Zq c7 h
  refine Zj ?_
  refine zRd [4,5] [false,false,true] ?_
  exact Xe [.agg [.val (.int .i64 0),.val (.int .u8 0),.val (.int .u64 0),.val (.int .u64 0)],.val (.bool false)]
 replace h:=Zp c7 h
 refine zKd [2,3,4] [true,true,true] ?_
 refine Zj ?_
 obtain ⟨y5,hy5,h⟩:=bC h
 obtain ⟨y6,hy6,h⟩:=bC h
 refine Zl2 Zz (by kernel_rfl) [false,false,false,false,false,false,false,false,false,false,false,false,false,false,false,false,false,false,false,false,false,false,true,false] [] (by kernel_rfl) ?_
 refine zS ?_
 refine PCall.of (Zrt hy5) ?_
 refine zS ?_
 refine PCall.of (Zrt hy6) ?_
 refine zS ?_
 refine zD [4,5] [false,false,true] ?_
 exact Xe [.agg [.val (.int .i64 a0.At),.val (.int .u8 (IntKind.u8.wrap (Zuk .u8 a0.Mask a1.Mask))),.val (.int .u64 y5),.val (.int .u64 y6)],.val (.bool true)]
theorem Zfc {a0:(List Zf)} {a1:(List Zf)} {r:((List Zf)×Bool)} {O:Objs} {n:Nat} (h:Xs a0 a1=some r):GTo Try.prog 78 [.sl a0.length (fl Zb a0),.sl a1.length (fl Zb a1),.fn 79 0 [],.fn 18 0 []] O n (.tup [.sl r.1.length (fl Zb r.1),.val (.bool r.2)]) O n:=by
 unfold Xs at h
 refine zFn Try.call78 Try.func78 fun hU hN0 hN => ?_
 show W _ _ _ _ ⟨87,[],[(0,.sl a0.length (fl Zb a0)),(1,.sl a1.length (fl Zb a1)),(2,.fn 79 0 []),(3,.fn 18 0 [])]⟩ (Zu O n []) _
 refine zQ [0,1,2,3] ?_
 refine zQ [0,1,2,3,10] ?_
 refine Zj ?_
 refine zD [0,1,2,3,10] [] ?_
 refine Vn (E':=(⟨87,[],[(0,.sl a0.length (fl Zb a0)),(1,.sl a1.length (fl Zb a1)),(2,.fn 79 0 []),(3,.fn 18 0 []),(10,.row n ([]:List Zf).length)]⟩:Env)) (O':=(Zu O n [some ⟨true,42,4,([]:List Zf).length,fl Zb ([]:List Zf)⟩,none])) (n':=(n+2)) ?_ ?_
 ·refine Fit2.trans (E':=(⟨87,[],[(0,.sl a0.length (fl Zb a0)),(1,.sl a1.length (fl Zb a1)),(2,.fn 79 0 []),(3,.fn 18 0 []),(10,.val (.slice none 0 0))]⟩:Env)) (O':=(Zu O n [])) (n':=n) (Fit2.of (Yj hU rfl rfl ?_) (by omega)) ?_
  ·exact zSe
  refine Fit2.trans (Zl7 10 42 4 rfl (by omega)) ?_
  simp only [Y2,Yk,Us,K8,List.set_cons_zero,List.set_cons_succ,List.cons_append,List.nil_append,List.length_cons,List.length_nil,Nat.zero_add,Nat.reduceAdd,Nat.reduceLT,Nat.add_assoc]
  refine Fit2.trans (E':=(⟨87,[],[(0,.sl a0.length (fl Zb a0)),(1,.sl a1.length (fl Zb a1)),(2,.fn 79 0 []),(3,.fn 18 0 []),(10,.row n ([]:List Zf).length)]⟩:Env)) (O':=(Zu O n [some ⟨true,42,4,([]:List Zf).length,fl Zb ([]:List Zf)⟩])) (n':=(n+1)) (Fit2.of (Yj hU rfl rfl ?_) (by omega)) ?_
  ·exact zSe
  refine Vu (k:=1) (k':=2) hU [0] [0,0] rfl rfl rfl rfl ⟨rfl,rfl⟩ ?_
  exact zSe
 obtain ⟨z36,hz36,h⟩:=bC h
 refine Zee (J:=(K5 (fun z36=>JR n (⟨87,[],[(8,.val (.slice none 0 0)),(9,.val (.bool false))]⟩:Env) (Zu O n []) n) (fun z36=>JX 0 n (⟨87,[],[(0,.sl z36.1.length (fl Zb z36.1)),(1,.sl z36.2.1.length (fl Zb z36.2.1)),(10,.row n z36.2.2.length)]⟩:Env) (Zu O n [some ⟨true,42,4,z36.2.2.length,fl Zb z36.2.2⟩,none]) (n+2)))) (z:=z36) ?_ fun hw => ?_
 ·refine Xr hz36 (fun s0_=>⟨87,[],[(0,.sl s0_.1.length (fl Zb s0_.1)),(1,.sl s0_.2.1.length (fl Zb s0_.2.1)),(2,.fn 79 0 []),(3,.fn 18 0 []),(10,.row n s0_.2.2.length)]⟩) (fun s0_=>(Zu O n [some ⟨true,42,4,s0_.2.2.length,fl Zb s0_.2.2⟩,none])) (K5 (fun z36=>JR n (⟨87,[],[(8,.val (.slice none 0 0)),(9,.val (.bool false))]⟩:Env) (Zu O n []) n) (fun z36=>JX 0 n (⟨87,[],[(0,.sl z36.1.length (fl Zb z36.1)),(1,.sl z36.2.1.length (fl Zb z36.2.1)),(10,.row n z36.2.2.length)]⟩:Env) (Zu O n [some ⟨true,42,4,z36.2.2.length,fl Zb z36.2.2⟩,none]) (n+2))) ?_
  intro s0_ x0_ hs0_
  unfold Ys at hs0_
  try dsimp only
  refine Zj ?_
  refine zQD [0,1,2,3,10,20] [none,none,none] ?_
  refine Zn (t:=(cond (decide (0 < (s0_.1.length:Int))) (decide (0 < (s0_.2.1.length:Int))) false)) rfl (fun c35 => ?_) (fun c35 => ?_)
  ·replace hs0_:=Zq c35 hs0_
   refine zKd [0,1,2,3,10] [true,false] ?_
   refine Yy ?_
   refine Yy ?_
   refine Zj ?_
   obtain ⟨x5,hx5,ax5,bx5,cx5,hs0_⟩:=bE (f:=Zb) Zfu (fun _=>rfl) (by decide) hs0_
   obtain ⟨y6,hy6,hs0_⟩:=bC hs0_
   obtain ⟨x7,hx7,ax7,bx7,cx7,hs0_⟩:=bE (f:=Zb) Zfu (fun _=>rfl) (by decide) hs0_
   obtain ⟨y8,hy8,hs0_⟩:=bC hs0_
   refine Vh Zz (by kernel_rfl) [] (by kernel_rfl) ?_
   refine zF6 ax5 bx5 cx5 ax7 bx7 cx7 ?_
   refine PCall.of (Zas hy6) ?_
   refine zF6 ax5 bx5 cx5 ax7 bx7 cx7 ?_
   refine PCall.of (Zas hy8) ?_
   refine zF6 ax5 bx5 cx5 ax7 bx7 cx7 ?_
   refine zD [0,1,2,3,10,42] [true,false] ?_
   refine Zn (t:=(decide (y6 < y8))) rfl (fun c34 => ?_) (fun c34 => ?_)
   ·replace hs0_:=Zq c34 hs0_
    obtain ⟨x9,hx9,ax9,bx9,cx9,hs0_⟩:=bE (f:=Zb) Zfu (fun _=>rfl) (by decide) hs0_
    obtain ⟨l10,al10,bl10,cl10,gl10,hs0_⟩:=bS (lo:=(some (.i64,1))) (hi:=none) (f:=Zb) rfl rfl Zgv Zfu (fun _=>rfl) hs0_
    obtain ⟨l11,pl11,ql11,el11,hs0_⟩:=bA (k:=1) rfl hs0_
    refine K6 Zz (by kernel_rfl) [.plain,.plain,.plain,.plain,.pass,.pass,.plain,.low,.plain,.plain] (fun i=>i < (n+2)∧¬ i=n) [0,1,2,3,6,7,4,5,8,9] [.plain,.plain,.plain,.plain,.plain,.low,.pass,.pass,.plain,.plain] [] (by kernel_rfl) rfl ?_
    refine Ydb ax9 bx9 cx9 al10 bl10 cl10 gl10 pl11 ql11 el11 ?_
    refine zO ?_
    have hs0_:=Option.some.inj hs0_;subst hs0_
    refine And.intro rfl (Fit2.of (Yj hU rfl rfl ?_) (by omega))
    exact Z79 ax9 bx9 cx9 al10 bl10 cl10 gl10 pl11 ql11 el11
   replace hs0_:=Zp c34 hs0_
   refine Zj ?_
   obtain ⟨x16,hx16,ax16,bx16,cx16,hs0_⟩:=bE (f:=Zb) Zfu (fun _=>rfl) (by decide) hs0_
   obtain ⟨y17,hy17,hs0_⟩:=bC hs0_
   obtain ⟨x18,hx18,ax18,bx18,cx18,hs0_⟩:=bE (f:=Zb) Zfu (fun _=>rfl) (by decide) hs0_
   obtain ⟨y19,hy19,hs0_⟩:=bC hs0_
   refine Vh Zz (by kernel_rfl) [] (by kernel_rfl) ?_
   refine zF6 ax16 bx16 cx16 ax18 bx18 cx18 ?_
   refine PCall.of (Zas hy17) ?_
   refine zF6 ax16 bx16 cx16 ax18 bx18 cx18 ?_
   refine PCall.of (Zas hy19) ?_
   refine zF6 ax16 bx16 cx16 ax18 bx18 cx18 ?_
   refine zD [0,1,2,3,10,62] [true,false] ?_
   refine Zn (t:=(decide (y17 < y19))) rfl (fun c33 => ?_) (fun c33 => ?_)
   ·replace hs0_:=Zq c33 hs0_
    obtain ⟨x20,hx20,ax20,bx20,cx20,hs0_⟩:=bE (f:=Zb) Zfu (fun _=>rfl) (by decide) hs0_
    obtain ⟨l21,al21,bl21,cl21,gl21,hs0_⟩:=bS (lo:=(some (.i64,1))) (hi:=none) (f:=Zb) rfl rfl Zgv Zfu (fun _=>rfl) hs0_
    obtain ⟨l22,pl22,ql22,el22,hs0_⟩:=bA (k:=1) rfl hs0_
    refine K6 Zz (by kernel_rfl) [.plain,.plain,.plain,.plain,.pass,.pass,.plain,.low,.plain,.plain] (fun i=>i < (n+2)∧¬ i=n) [0,1,2,3,6,7,4,5,8,9] [.plain,.plain,.plain,.plain,.plain,.low,.pass,.pass,.plain,.plain] [] (by kernel_rfl) rfl ?_
    refine Ydb ax20 bx20 cx20 al21 bl21 cl21 gl21 pl22 ql22 el22 ?_
    refine zO ?_
    have hs0_:=Option.some.inj hs0_;subst hs0_
    refine And.intro rfl (Fit2.of (Yj hU rfl rfl ?_) (by omega))
    exact Z79 ax20 bx20 cx20 al21 bl21 cl21 gl21 pl22 ql22 el22
   replace hs0_:=Zp c33 hs0_
   refine Zj ?_
   obtain ⟨x26,hx26,ax26,bx26,cx26,hs0_⟩:=bE (f:=Zb) Zfu (fun _=>rfl) (by decide) hs0_
   obtain ⟨x27,hx27,ax27,bx27,cx27,hs0_⟩:=bE (f:=Zb) Zfu (fun _=>rfl) (by decide) hs0_
   obtain ⟨y28,hy28,hs0_⟩:=bC hs0_
   refine K6 Zz (by kernel_rfl) [.plain,.plain,.low,.low,.plain,.low,.low,.low,.plain,.plain,.plain,.pass,.bar,.plain] (fun i=>i < (n+2)) [0,1,2,3,4,5,6,7,8,9,10,11,12,13] [.plain,.plain,.low,.low,.plain,.low,.low,.low,.plain,.plain,.plain,.pass,.bar,.plain] [] (by kernel_rfl) rfl ?_
   refine zF6 ax26 bx26 cx26 ax27 bx27 cx27 ?_
   refine zO ?_
   first | refine PCallA.of (fun _ _=>Zqu hy28) ?_ | refine PCall.of (Zqu hy28) ?_
   refine zF6 ax26 bx26 cx26 ax27 bx27 cx27 ?_
   refine zO ?_
   refine zDs [0,1,2,3,10,11,12] [true,false,true] ?_
   refine zQ [0,1,2,3,10,11,33] ?_
   refine Zn (t:=(!y28.2)) rfl (fun c32 => ?_) (fun c32 => ?_)
   ·replace hs0_:=Zq c32 hs0_
    refine zQ [8,9] ?_
    refine zW ?_
    exact zEy hs0_
   replace hs0_:=Zp c32 hs0_
   refine zKd [0,1,2,3,10,11] [true,false,true] ?_
   obtain ⟨l29,al29,bl29,cl29,gl29,hs0_⟩:=bS (lo:=(some (.i64,1))) (hi:=none) (f:=Zb) rfl rfl Zgv Zfu (fun _=>rfl) hs0_
   obtain ⟨l30,al30,bl30,cl30,gl30,hs0_⟩:=bS (lo:=(some (.i64,1))) (hi:=none) (f:=Zb) rfl rfl Zgv Zfu (fun _=>rfl) hs0_
   obtain ⟨l31,pl31,ql31,el31,hs0_⟩:=bA (k:=1) rfl hs0_
   refine K6 Zz (by kernel_rfl) [.plain,.plain,.pass,.pass,.plain,.low,.plain,.low,.plain,.plain,.plain] (fun i=>i < (n+3)∧¬ i=n) [0,1,4,5,6,7,2,3,8,9,10] [.plain,.plain,.plain,.low,.plain,.low,.pass,.pass,.plain,.plain,.plain] [] (by kernel_rfl) rfl ?_
   simp only [push_cast,seval,↓reduceIte,Zk,al29,bl29,cl29,gl29,al30,bl30,cl30,gl30,pl31,ql31,el31,hN0,hN]
   refine zO ?_
   have hs0_:=Option.some.inj hs0_;subst hs0_
   refine And.intro rfl (Fit2.of (Yj hU rfl rfl ?_) (by omega))
   simp only [push_cast,seval,↓reduceIte,Zk,al29,bl29,cl29,gl29,al30,bl30,cl30,gl30,pl31,ql31,el31,hN0,hN]
  replace hs0_:=Zp c35 hs0_
  exact zEx hs0_
 rcases z36 with z36 | z36
 ·dsimp only [K5] at hw h
  refine Uz hw ?_
  try simp only [Xf,Yn,↓reduceIte,Nat.reduceEqDiff]
  exact Zq7 [.val (.slice none 0 0),.val (.bool false)]
 dsimp only [K5] at hw h
 refine Y9 hw ?_
 try simp only [Xf,Yn,↓reduceIte,Nat.reduceEqDiff]
 refine zDs [0,1,10] [true,false] ?_
 obtain ⟨l39,pl39,ql39,el39,h⟩:=bA (k:=z36.1.length) rfl h
 obtain ⟨l40,pl40,ql40,el40,h⟩:=bA (k:=z36.2.1.length) rfl h
 try simp only [el39,List.length_append,Nat.add_assoc] at pl40 ql40
 refine Xa Zz [] ?_
 simp only [push_cast,seval,↓reduceIte,Zk,pl39,ql39,el39,pl40,ql40,el40,List.append_assoc,hN0,hN]
 refine Zek ⟨87,[],[(8,.row n l40.length),(9,.val (.bool true))]⟩ (Zu O n [some ⟨true,42,4,l40.length,fl Zb l40⟩,none]) (Yj hU rfl rfl ?_) ?_
 ·simp only [push_cast,seval,↓reduceIte,Zk,pl39,ql39,el39,pl40,ql40,el40,List.append_assoc,hN0,hN]
 exact Xe [.row n l40.length,.val (.bool true)]
theorem Zat {a0:S_api_KidEdit} {r:Int} {O:Objs} {n:Nat} (h:Xy a0=some r):GTo Try.prog 81 [.agg (Y5 a0)] O n (.val (.int .i64 r)) O n:=by
 unfold Xy at h
 refine zFn Try.call81 Try.func81 fun hU hN0 hN => ?_
 show W _ _ _ _ ⟨5,[],[(0,.agg (Y5 a0))]⟩ (Zu O n []) _
 refine zQ [1] ?_
 refine zQ [2] ?_
 exact Xe [.val (.int .i64 a0.At)]
end Go.Proofs.Ytbjcopkgdjombaa
