/- Part FM4 of this seat's mirrors: functions of the seat's program, and the plain functions that they are; each theorem bears its own conditions. -/
import Derived.Test.YtfjkcekfifobpaaFD
import Derived.Test.YtfjkcekfifobpaaFM1
namespace Go.Proofs.Ytfjkcekfifobpaa
open Go.RowKit
set_option linter.unusedVariables false
set_option linter.unusedSimpArgs false
set_option maxRecDepth 100000
set_option maxHeartbeats 4000000
attribute [local push_cast] Try.results104 Try.results124 Try.results125 Try.results129 Try.results132 Try.results134 Try.results152 Try.results159 Try.results62 Try.results94 vI vB nV sL oR Zf Uf Y6 Zd Zav Zzq Zzp Z0v Z0u Y2 Z7 Zug Zoi Zoh onW Ql Zfz Zel Zui Zuj Zr3 Zr7 Zr2 Zr6 Zwb Zv8 Zr5 Zwa Zv9 Zr4 Zv6 Zpc evS wok J0 Op.operands Call.operands gop onK onP atK List.all_cons List.all_nil Bool.and_true Bool.true_and Bool.and_self Value.oneCell' List.take_zero List.take_succ_cons List.take_nil List.drop_zero List.drop_succ_cons List.drop_nil List.append_nil Nat.add_zero Nat.zero_add Zam Yw ev Jw Zfd Zzg Zzf Zzl Zzj Zzk Zzh Zzi Zze Zuc Zxg Z27 Zl7 Zg1 Zle Zf7 Zrd Zjn Zlt Zly Zob Zn8 Zlw Zoa Zn9 Zlv Zn6 Zlu Zlx Zkq Zn7 Zok Zoj Zem Zm7 Zen Zog Zl3 Zzv bLo bHi bMx Zg2 Zof Z4w Zl2 Znw Zja Zcz Zx5 Z4z Zm5 Z44 Zg0 Z8q Zuu Zuy Zut Zux Z0e Z0b Zz9 Zrg Zuv Z0d Z0c Zuw Z0a Zl5 gone Zvq Zo6 Zo5 pop TK.isAgg Z0n Z0r Z0m Z0q Zvg Z5d Z5a Z0p Z5c Z5b Z0o Z49 G.under G.unders List.getD_cons_zero List.getD_cons_succ List.set_cons_zero List.set_cons_succ List.map_cons List.map_nil List.toList_toArray Array.toList_append Option.toArray_none Option.toArray_some Array.toList_map Option.map_some Option.map_none Option.bind_some Option.bind_none List.getElem?_cons_zero List.getElem?_cons_succ List.getElem?_nil List.nil_append List.cons_append List.replicate_succ List.replicate_zero List.length_cons List.length_nil and_true true_and and_false false_and Bool.true_eq_false Bool.false_eq_true forall_const false_implies implies_true IntKind.bits if_true if_false ite_true ite_false eq_self true_implies false_or or_false or_true true_or not_true_eq_false not_false_eq_true decide_true decide_false decide_eq_true_eq decide_eq_false_iff_not beq_iff_eq bne_iff_ne ne_eq Bool.not_eq_true Bool.not_eq_false beq_eq_false_iff_ne bne_eq_false_iff_eq beq_self_eq_true bne_self_eq_false Option.some.injEq exists_eq_left' exists_eq_left ge_iff_le gt_iff_lt decide_not Bool.not_true Bool.not_false imp_self Z41 cond_true cond_false Yez Yey Bool.not_not Bool.and_false Bool.false_and Bool.or_true Bool.true_or Bool.or_false Bool.false_or Zah Zeh Zbc Gu Xk Y3 Option.join_some Nat.add_assoc Int.toNat_natCast eI eB eS eL Xn Zm6 Zl4 Zzu Zzs Zzt Z81 Yaq Zna Zmn Z04 Z02 Z03 Z3t Zoc Z2z Zql Zy6 Zj6 Zy8 List.length_append G.agg.injEq G.row.injEq G.ref.injEq G.val.injEq G.sl.injEq G.tup.injEq Value.int.injEq Value.bool.injEq Value.string.injEq List.cons.injEq exists_and_left exists_const List.flatten_cons List.flatten_nil Int.le_refl Nat.le_refl Qn Yr Yy Bool.not_eq_true' Bool.not_eq_false' Z2k Zqs Z6s Z6w Z6r Z6v Ycu Ycp List.size_toArray Zs1 Zvs G.ren G.rens Zxq Zjx Z09 Zzb Zzc Zv7 Z6x Zgj G.fn.injEq Zxc Zxd Z2j Ycq Zxb Z6u Yct Ycs Z6t Z46 Yaf Option.join_none Yj Gz undef Zny Arr.len Arr.put_eq Zm9 Zrt Zo2 Zmm Z01 Z0z Z00 onB Z80 Zx4 Zv0 Zth Zti Ztj Ztk Ztl Ztm Zrk Zrw Zru Zo4 Zmo Zrv Zvp Zvo Zvn Zvm Yap Yds Z3s Z0w Zbm Z3i Zsu Zrx Zo3 Z5e Zv2 Zlz Znv Zh1 Zqh Ztn Zto Ztp Ztq Zqt Zqu Zqv Zqw Zqx Zqy Zqz Zh6 prT Zi6 Yfs Z6i Z4b Z6j Yft Z6k Z4c Z6l Yfu Z6m Yfv Z6n Yfw Z6o Yfx Z6p Ybj Z1g Ybk Z1h Ybl Z1i Ybm Z1j Ybn Z1k Ybo Z1l Ybp Z1m Ybq Z1n Ybr Z1o Ybs Z1p Ybt Z1q Ybu Zqr Z4a Zfw Ybv Z1r V5 Z1s Ybw Z1t Ybx Z1u Yby Z1v Ybz Z1w Zso Z1x Yb0 Z1y Yb1 Znh Yb2 Z1z Zmw Z10 Yb3 Z11 Yb4 Z12 Yb5 Z13 Yb6 Z14 Zf5 Z15 Yb7 Z16 Zfv Z17 Yb8 Z18 Yb9 Z19 Yca Z2a Zyo Z2b Ycb Z2c Zmx Z2d Ycc Z2e Ycd Z2f Z5q Zwf Z5r Zwg Z5s Zwh Z5t Zwi Z5u Zwj Z5v Zwk Z5w Zwl Z5x Zwm Z5y Zwn Z5z Zwo Z50 Zwp Z51 Zwq Z52 Zwr Zwd Zqq Z53 Zws Z54 Zwt Z55 Zwu Z56 Zwv Z57 Zww Z58 Zwx Z59 Zwy Z6a Zwz Z6b Zw0 Z6c Zw1 Z6d Zw2 Z6e Zw3 Z6f Zw4 Z6g Zw5 Z6h Zw6 Za Yu Zpk Zpi Zoo Zo0 Zpm Zm0 Zms Zmq Zpf Zgu Zgs Zga Zgi Zgw Zfy Zfr Zfp Zgp Zm Qt Ze Zi Xs Xz Y8 Zdn Zdl Zc1 Zc9 Zdr Zco Zcl Zcj Zdh Zd8 Zd7 Zd3 Zd5 Zd9 Zdk Zdf Zde Zd6 Zi4 Zi3 Zic Zio Zi5 Zhp Zhn Zhm Zi2 Zsh Zsg Zrf Zrq Zsi Zpg Zo8 Zo7 Zsa Zu Zgt Zgr Zf9 Zgh Zgv Zfx Zfq Zfo Zgo Yh Zcr Zcq Zce Zci Zcs Zbp Zbo Zbn Zcn Zpj Zph Zon Zoz Zpl Zmz Zmr Zmp Zpe Yo Zdo Zdm Zc2 Zda Zds Zcp Zcm Zck Zdi
def Zb0 (Xq:(Zb→Option Bool)):Prop:=∀ {a0:Zb} {r:Bool} {O:Objs} {n:Nat},Xq a0=some r→GTo Try.prog 62 [.agg (Zd a0)] O n ((vB r)) O n
def Zb1 (Xo:(Zb→Int→Option Bool)):Prop:=∀ {a0:Zb} {a1:Int} {r:Bool} {O:Objs} {n:Nat},Xo a0 a1=some r→GTo Try.prog 94 [.agg (Zd a0),(vI a1)] O n ((vB r)) O n
def Gg (Y4:((List Zb)→Int→Option Bool)):Prop:=∀ {a0:(List Zb)} {a1:Int} {r:Bool} {O:Objs} {n:Nat},Y4 a0 a1=some r→GTo Try.prog 132 [(sL Za a0),(vI a1)] O n ((vB r)) O n
def Gf (Y9:((List Zb)→Int→Option Bool)):Prop:=∀ {a0:(List Zb)} {a1:Int} {r:Bool} {O:Objs} {n:Nat},Y9 a0 a1=some r→GTo Try.prog 134 [(sL Za a0),(vI a1)] O n ((vB r)) O n
theorem Zve {Xq:(Zb→Option Bool)} {Xo:(Zb→Int→Option Bool)} {Y4:((List Zb)→Int→Option Bool)} {Y9:((List Zb)→Int→Option Bool)} (Zb3:Zb0 Xq) (Zb4:Zb1 Xo) (Vp:Gg Y4) (Zbk:Gf Y9) {a0:Zb} {r:Bool} {O:Objs} {n:Nat} (h:Ze8 Xq Xo Y4 Y9 a0=some r):GTo Try.prog 62 [.agg (Zd a0)] O n ((vB r)) O n:=by
 unfold Ze8 at h
 refine zFn Try.call62 Try.func62 fun hU hN0 hN => ?_
 show W _ _ _ _ ⟨18,[],[(0,.agg (Zd a0))]⟩ (Zv O n []) _
 refine zQ [1] ?_
 refine Zg ?_
 refine zQ [1,5] ?_
 refine Zq (t:=(a0.Kind == 10)) rfl (fun c3 => ?_) (fun c3 => ?_)
 ·replace h:=Zp c3 h
  refine zQD [2] [none,none,none,none] ?_
  exact Yn [(vB (cond ((a0.Words.length:Int) == 1) ((a0.Kids.length:Int) == 0) false))]
 replace h:=Zo c3 h
 refine Q7 [1] [true] ?_
 refine Zg ?_
 obtain ⟨y2,hy2,h⟩:=bC h
 refine zCd (Zb4 hy2) [2] [false] ?_
 exact Yn [(vB y2)]
theorem Zvf {Xq:(Zb→Option Bool)} {Xo:(Zb→Int→Option Bool)} {Y4:((List Zb)→Int→Option Bool)} {Y9:((List Zb)→Int→Option Bool)} (Zb3:Zb0 Xq) (Zb4:Zb1 Xo) (Vp:Gg Y4) (Zbk:Gf Y9) {a0:Zb} {a1:Int} {r:Bool} {O:Objs} {n:Nat} (h:Ze9 Xq Xo Y4 Y9 a0 a1=some r):GTo Try.prog 94 [.agg (Zd a0),(vI a1)] O n ((vB r)) O n:=by
 unfold Ze9 at h
 refine zFn Try.call94 Try.func94 fun hU hN0 hN => ?_
 show W _ _ _ _ ⟨83,[],[(0,.agg (Zd a0)),(1,(vI a1))]⟩ (Zv O n []) _
 refine zQ [1,2] ?_
 refine Zg ?_
 refine zQ [1,2,7] ?_
 refine Zq (t:=(a0.Kind == 0)) rfl (fun c26 => ?_) (fun c26 => ?_)
 ·replace h:=Zp c26 h
  refine zQD [4] [none,none,none,none] ?_
  exact Yn [(vB (cond ((a0.Words.length:Int) == 0) ((a0.Kids.length:Int) == 0) false))]
 replace h:=Zo c26 h
 refine Q7 [1,2] [true] ?_
 refine Zg ?_
 refine zQ [1,2,19] ?_
 refine Zq (t:=(a1 == 0)) rfl (fun c25 => ?_) (fun c25 => ?_)
 ·replace h:=Zp c25 h
  refine zQ [4] ?_
  exact Yn [(vB false)]
 replace h:=Zo c25 h
 refine Q7 [1,2] [true] ?_
 refine Zg ?_
 refine zQ [1,2,22] ?_
 refine Zq (t:=(a0.Kind == 1)) rfl (fun c24 => ?_) (fun c24 => ?_)
 ·replace h:=Zp c24 h
  obtain ⟨z2,hz2,h⟩:=bC h
  refine Y1 (E':=⟨83,[],[(4,(vB z2))]⟩) (O':=(Zv O n [none])) (n0:=(n+1)) ?_ ?_
  ·rcases Bool.eq_false_or_eq_true (decide ((a0.Words.length:Int) < 65536)) with c5 | c5
   ·replace hz2:=Zp c5 hz2
    rcases Bool.eq_false_or_eq_true (decide ((a0.Kids.length:Int) < 65536)) with c6 | c6
    ·replace hz2:=Zp c6 hz2
     try rw [c6] at c5
     obtain ⟨y4,hy4,hz2⟩:=bC hz2
     refine Ju [none,none,none,none,some true,some true,some true,some true,some true] c5 c6 ?_
     refine zG ?_
     refine (Vp hy4).then ?_
     refine zX2 c5 c6 ?_
     refine zG ?_
     exact Gl hz2 c5 c6
    replace hz2:=Zo c6 hz2
    try rw [c6] at c5
    refine Ju [none,none,none,none,some false,some false,some false,some false,some false] c5 c6 ?_
    refine zG ?_
    exact Gl hz2 c5 c6
   replace hz2:=Zo c5 hz2
   refine Jl [none,none,none,none,some false,some false,some false,some false,some false] c5 ?_
   refine zG ?_
   exact Qx hz2 c5
  exact Yn [(vB z2)]
 replace h:=Zo c24 h
 refine Q7 [1,2] [true] ?_
 refine Zg ?_
 refine Zg ?_
 obtain ⟨y8,hy8,h⟩:=bC h
 refine zRo [none,none,none,none,none,none,none,none] ?_
 refine zG ?_
 refine zTs (Zfn hy8) ?_
 refine zG ?_
 refine zD [1,2,55] [true] ?_
 refine Zq (t:=(cond (cond (!y8) true (decide (0 < (a0.Words.length:Int)))) true (decide (1048576≤(a0.Kids.length:Int))))) rfl (fun c23 => ?_) (fun c23 => ?_)
 ·replace h:=Zp c23 h
  refine zQ [4] ?_
  exact Yn [(vB false)]
 replace h:=Zo c23 h
 refine Q7 [1,2] [true] ?_
 refine Zg ?_
 refine zQ [1,2,57] ?_
 refine Yg ?_
 refine zQ [1,2,57,58] ?_
 refine Zq (t:=(a0.Kind == 8)) rfl (fun c22 => ?_) (fun c22 => ?_)
 ·replace h:=Zp c22 h
  refine Zg ?_
  obtain ⟨y10,hy10,h⟩:=bC h
  refine zCd (Vp hy10) [4] [false] ?_
  exact Yn [(vB y10)]
 replace h:=Zo c22 h
 refine zQ [1,2,65] ?_
 refine Zq (t:=(a0.Kind == 9)) rfl (fun c21 => ?_) (fun c21 => ?_)
 ·replace h:=Zp c21 h
  obtain ⟨z13,hz13,h⟩:=bC h
  refine Y1 (E':=⟨83,[],[(4,(vB z13))]⟩) (O':=(Zv O n [none])) (n0:=(n+1)) ?_ ?_
  ·obtain ⟨y16,hy16,hz13⟩:=bC hz13
   rcases Bool.eq_false_or_eq_true y16 with c18 | c18
   ·replace hz13:=Zp c18 hz13
    obtain ⟨y17,hy17,hz13⟩:=bC hz13
    refine Jl [some true,some true,some true,some true,some true] c18 ?_
    refine (Zin hy16).then ?_
    refine zX1 c18 ?_
    refine (Vp hy17).then ?_
    refine zX1 c18 ?_
    exact Qx hz13 c18
   replace hz13:=Zo c18 hz13
   refine Jl [some false,some false,some false,some false,some false] c18 ?_
   refine (Zin hy16).then ?_
   refine zX1 c18 ?_
   exact Qx hz13 c18
  exact Yn [(vB z13)]
 replace h:=Zo c21 h
 refine Q7 [2] [true] ?_
 refine Zg ?_
 obtain ⟨y20,hy20,h⟩:=bC h
 refine zCd (Zbk hy20) [4] [false] ?_
 exact Yn [(vB y20)]
theorem Zqc {Xq:(Zb→Option Bool)} {Xo:(Zb→Int→Option Bool)} {Y4:((List Zb)→Int→Option Bool)} {Y9:((List Zb)→Int→Option Bool)} (Zb3:Zb0 Xq) (Zb4:Zb1 Xo) (Vp:Gg Y4) (Zbk:Gf Y9) {a0:(List Zb)} {a1:Int} {r:Bool} {O:Objs} {n:Nat} (h:Zbv Xq Xo Y4 Y9 a0 a1=some r):GTo Try.prog 132 [(sL Za a0),(vI a1)] O n ((vB r)) O n:=by
 unfold Zbv at h
 refine zFn Try.call132 Try.func132 fun hU hN0 hN => ?_
 show W _ _ _ _ ⟨18,[],[(0,(sL Za a0)),(1,(vI a1))]⟩ (Zv O n []) _
 refine zQ [0,1] ?_
 refine Zg ?_
 refine zQd [1,7,8,9] [1,7,8,9] [] ?_
 obtain ⟨z7,hz7,h⟩:=bC h
 refine Ux (J:=(Xl (fun z7=>JR n (⟨18,[],[(4,(vB false))]⟩:Env) (Zv O n []) n) (fun z7=>JX 0 n (⟨18,[],[]⟩:Env) (Zv O n []) n))) (z:=z7) ?_ fun hw => ?_
 ·refine Xe hz7 (fun s0_=>⟨18,[],[(1,(vI a1)),(7,(sL Za a0)),(8,(vI (a0.length:Int))),(9,(vI s0_))]⟩) (fun s0_=>(Zv O n [])) (Xl (fun z7=>JR n (⟨18,[],[(4,(vB false))]⟩:Env) (Zv O n []) n) (fun z7=>JX 0 n (⟨18,[],[]⟩:Env) (Zv O n []) n)) ?_
  intro s0_ x0_ hs0_
  unfold U5 at hs0_
  try dsimp only
  refine zQ [1,7,8,9,10] ?_
  refine Zg ?_
  refine Zq (t:=(decide (s0_ < (a0.length:Int)))) rfl (fun c6 => ?_) (fun c6 => ?_)
  ·replace hs0_:=Zp c6 hs0_
   refine Q7 [1,7,8,9] [] ?_
   refine Zg ?_
   refine Yg ?_
   refine Zg ?_
   obtain ⟨x2,hx2,ax2,bx2,cx2,hs0_⟩:=bE (f:=Za) V5 (fun _=>rfl) (by decide) hs0_
   refine Zao [] ax2 bx2 cx2 ?_
   refine zDs [1,6,7,8,9] [true] ?_
   obtain ⟨y4,hy4,hs0_⟩:=bC hs0_
   refine zCd (Zb4 hy4) [1,7,8,9,16] [false] ?_
   refine Zq (t:=(!y4)) rfl (fun c5 => ?_) (fun c5 => ?_)
   ·replace hs0_:=Zp c5 hs0_
    refine zQ [4] ?_
    refine zW ?_
    exact zEy hs0_
   replace hs0_:=Zo c5 hs0_
   refine Q7 [1,7,8,9] [false] ?_
   refine zR ?_
   exact zEn hs0_
  replace hs0_:=Zo c6 hs0_
  exact zEx hs0_
 rcases z7 with z7 | z7
 ·dsimp only [Xl] at hw h
  refine Qy hw ?_
  try simp only [Y2,Z7,↓reduceIte,Nat.reduceEqDiff]
  exact Zhq [(vB false)]
 dsimp only [Xl] at hw h
 refine Yz hw ?_
 try simp only [Y2,Z7,↓reduceIte,Nat.reduceEqDiff]
 refine zD [] [] ?_
 refine zQ [4] ?_
 exact Yn [(vB true)]
theorem Zqb {Xq:(Zb→Option Bool)} {Xo:(Zb→Int→Option Bool)} {Y4:((List Zb)→Int→Option Bool)} {Y9:((List Zb)→Int→Option Bool)} (Zb3:Zb0 Xq) (Zb4:Zb1 Xo) (Vp:Gg Y4) (Zbk:Gf Y9) {a0:(List Zb)} {a1:Int} {r:Bool} {O:Objs} {n:Nat} (h:Zbu Xq Xo Y4 Y9 a0 a1=some r):GTo Try.prog 134 [(sL Za a0),(vI a1)] O n ((vB r)) O n:=by
 unfold Zbu at h
 refine zFn Try.call134 Try.func134 fun hU hN0 hN => ?_
 show W _ _ _ _ ⟨31,[],[(0,(sL Za a0)),(1,(vI a1))]⟩ (Zv O n []) _
 refine zQ [0,1] ?_
 refine Zg ?_
 refine zQd [1,7,8,9] [1,7,8,9] [] ?_
 obtain ⟨z17,hz17,h⟩:=bC h
 refine Ux (J:=(Xl (fun z17=>JR n (⟨31,[],[(4,(vB false))]⟩:Env) (Zv O n []) n) (fun z17=>JX 0 n (⟨31,[],[]⟩:Env) (Zv O n []) n))) (z:=z17) ?_ fun hw => ?_
 ·refine Xe hz17 (fun s0_=>⟨31,[],[(1,(vI a1)),(7,(sL Za a0)),(8,(vI (a0.length:Int))),(9,(vI s0_))]⟩) (fun s0_=>(Zv O n [])) (Xl (fun z17=>JR n (⟨31,[],[(4,(vB false))]⟩:Env) (Zv O n []) n) (fun z17=>JX 0 n (⟨31,[],[]⟩:Env) (Zv O n []) n)) ?_
  intro s0_ x0_ hs0_
  unfold U4 at hs0_
  try dsimp only
  refine zQ [1,7,8,9,10] ?_
  refine Zg ?_
  refine Zq (t:=(decide (s0_ < (a0.length:Int)))) rfl (fun c16 => ?_) (fun c16 => ?_)
  ·replace hs0_:=Zp c16 hs0_
   refine Q7 [1,7,8,9] [] ?_
   refine Zg ?_
   refine Yg ?_
   refine Zg ?_
   obtain ⟨x2,hx2,ax2,bx2,cx2,hs0_⟩:=bE (f:=Za) V5 (fun _=>rfl) (by decide) hs0_
   refine Zao [] ax2 bx2 cx2 ?_
   refine zD [1,6,7,8,9] [true] ?_
   obtain ⟨z6,hz6,hs0_⟩:=bC hs0_
   refine Y1 (E':=⟨31,[],[(1,(vI a1)),(7,(sL Za a0)),(8,(vI (a0.length:Int))),(9,(vI s0_)),(29,(vB z6))]⟩) (O':=(Zv O n [none])) (n0:=(n+1)) ?_ ?_
   ·rcases Bool.eq_false_or_eq_true (x2.Kind != 10) with c13 | c13
    ·replace hz6:=Zp c13 hz6
     refine Jl [some false,some false,some false,some false,some false,some false,some false,some false,some false,some false] c13 ?_
     exact Qx hz6 c13
    replace hz6:=Zo c13 hz6
    obtain ⟨y10,hy10,hz6⟩:=bC hz6
    rcases Bool.eq_false_or_eq_true y10 with c14 | c14
    ·replace hz6:=Zp c14 hz6
     try rw [c14] at c13
     obtain ⟨x11,hx11,ax11,bx11,cx11,hz6⟩:=bE (f:=(eI .u64)) Zf5 (fun _=>rfl) (by decide) hz6
     obtain ⟨y12,hy12,hz6⟩:=bC hz6
     refine Z8f [some true,some true,some true,some true,some true,some true,some true,some true,some true,some true] c13 c14 ax11 bx11 cx11 ?_
     refine (Zb3 hy10).then ?_
     refine zF5 c13 c14 ax11 bx11 cx11 ?_
     refine (Z0l hy12).then ?_
     refine zF5 c13 c14 ax11 bx11 cx11 ?_
     exact Yeo hz6 c13 c14 ax11 bx11 cx11
    replace hz6:=Zo c14 hz6
    try rw [c14] at c13
    refine Ju [some true,some true,some true,some false,some false,some false,some false,some false,some false,some false] c13 c14 ?_
    refine (Zb3 hy10).then ?_
    refine zX2 c13 c14 ?_
    exact Gl hz6 c13 c14
   refine Zq (t:=z6) rfl (fun c15 => ?_) (fun c15 => ?_)
   ·replace hs0_:=Zp c15 hs0_
    refine zQ [4] ?_
    refine zW ?_
    exact zEy hs0_
   replace hs0_:=Zo c15 hs0_
   refine Q7 [1,7,8,9] [false] ?_
   refine zR ?_
   exact zEn hs0_
  replace hs0_:=Zo c16 hs0_
  exact zEx hs0_
 rcases z17 with z17 | z17
 ·dsimp only [Xl] at hw h
  refine Qy hw ?_
  try simp only [Y2,Z7,↓reduceIte,Nat.reduceEqDiff]
  exact Zhq [(vB false)]
 dsimp only [Xl] at hw h
 refine Yz hw ?_
 try simp only [Y2,Z7,↓reduceIte,Nat.reduceEqDiff]
 refine zD [] [] ?_
 refine zQ [4] ?_
 exact Yn [(vB true)]
theorem Zrj:∀ k,(Zb0 ((Zz k).1))∧(Zb1 ((Zz k).2.1))∧(Gg ((Zz k).2.2.1))∧(Gf ((Zz k).2.2.2)):=fun k=>by
 induction k with
 | zero=>exact ⟨@fun a0 r O n h=>(nomatch (show (none:Option _)=some _ from h)),@fun a0 a1 r O n h=>(nomatch (show (none:Option _)=some _ from h)),@fun a0 a1 r O n h=>(nomatch (show (none:Option _)=some _ from h)),@fun a0 a1 r O n h=>(nomatch (show (none:Option _)=some _ from h))⟩
 | succ k ih=>exact ⟨@fun a0 r O n h=>Zve (ih.1) (ih.2.1) (ih.2.2.1) (ih.2.2.2)  h,@fun a0 a1 r O n h=>Zvf (ih.1) (ih.2.1) (ih.2.2.1) (ih.2.2.2)  h,@fun a0 a1 r O n h=>Zqc (ih.1) (ih.2.1) (ih.2.2.1) (ih.2.2.2)  h,@fun a0 a1 r O n h=>Zqb (ih.1) (ih.2.1) (ih.2.2.1) (ih.2.2.2)  h⟩
theorem Zn0 {a0:Zb} {r:Bool} {O:Objs} {n:Nat} (h:Zhz a0=some r):GTo Try.prog 62 [.agg (Zd a0)] O n ((vB r)) O n:=by
 obtain ⟨k,hk⟩:=Un h
 exact (Zrj k).1  hk
theorem Zjr {a0:Zb} {r:Bool} {O:Objs} {n:Nat} (h:Zdz a0=some r):GTo Try.prog 124 [.agg (Zd a0)] O n ((vB r)) O n:=by
 unfold Zdz at h
 refine zFn Try.call124 Try.func124 fun hU hN0 hN => ?_
 show W _ _ _ _ ⟨10,[],[(0,.agg (Zd a0))]⟩ (Zv O n []) _
 refine zQ [1] ?_
 obtain ⟨z2,hz2,h⟩:=bC h
 refine Y1 (E':=⟨10,[],[(2,(vB z2))]⟩) (O':=(Zv O n [none])) (n0:=(n+1)) ?_ ?_
 ·rcases Bool.eq_false_or_eq_true (a0.Kind != 10) with c5 | c5
  ·replace hz2:=Zp c5 hz2
   obtain ⟨y4,hy4,hz2⟩:=bC hz2
   refine Jl [some true,some true] c5 ?_
   refine (Zn0 hy4).then ?_
   refine zX1 c5 ?_
   exact Qx hz2 c5
  replace hz2:=Zo c5 hz2
  refine Jl [some false,some false] c5 ?_
  exact Qx hz2 c5
 exact Yn [(vB z2)]
theorem Zk1 {a0:Int} {r:Int} {O:Objs} {n:Nat} (h:Zad a0=some r):GTo Try.prog 104 [.val (.int .u8 a0)] O n (.val (.int .u64 r)) O n:=by
 unfold Zad at h
 refine zFn Try.call104 Try.func104 fun hU hN0 hN => ?_
 show W _ _ _ _ ⟨20,[],[(0,.val (.int .u8 a0))]⟩ (Zv O n []) _
 refine zQ [0] ?_
 refine zQ [0,3] ?_
 refine Zg ?_
 refine zQd [0,3,5] [0,3,5] [] ?_
 obtain ⟨z7,hz7,h⟩:=bC h
 refine Yz (E':=⟨20,[],[(3,.val (.int .u64 z7))]⟩) (O':=(Zv O n [])) (n0:=n) ?_ ?_
 ·refine Xe hz7 (fun s0_=>⟨20,[],[(0,.val (.int .u8 a0)),(3,.val (.int .u64 s0_.1)),(5,(vI s0_.2))]⟩) (fun s0_=>(Zv O n [])) (fun z7=>JX 0 n (⟨20,[],[(3,.val (.int .u64 z7))]⟩:Env) (Zv O n []) n) ?_
  intro s0_ x0_ hs0_
  unfold Zc7 at hs0_
  try dsimp only
  refine zQ [0,3,5,6] ?_
  refine Zg ?_
  refine Zq (t:=(decide (s0_.2 < 8))) rfl (fun c6 => ?_) (fun c6 => ?_)
  ·replace hs0_:=Zp c6 hs0_
   refine Q7 [0,3,5] [] ?_
   obtain ⟨z1,hz1,hs0_⟩:=bC hs0_
   refine Y1 (E':=⟨20,[],[(0,.val (.int .u8 a0)),(3,.val (.int .u64 z1)),(5,(vI s0_.2))]⟩) (O':=(Zv O n [])) (n0:=n) ?_ ?_
   ·refine Yg ?_
    refine zQ [0,3,4,5] ?_
    obtain ⟨pu3,hz1⟩:=bG hz1
    refine Zni [0,3,4,5,12] (Yx Z4 [] ?_)
    simp only [push_cast,seval,↓reduceIte,Zk,pu3,hN0,hN]
    refine Zq (t:=((IntKind.u8.wrap (Zez .u8 (Int.fdiv a0 (2 ^ min (Int.toNat s0_.2) 8)) 1)) == 1)) rfl (fun c5 => ?_) (fun c5 => ?_)
    ·replace hz1:=Zp c5 hz1
     obtain ⟨pu4,hz1⟩:=bG hz1
     refine Yx Z4 [] ?_
     simp only [push_cast,seval,↓reduceIte,Zk,pu4,hN0,hN]
     have hz1:=Option.some.inj hz1;subst hz1
     refine And.intro rfl (Fit2.of (Ys hU rfl rfl ?_) (by omega))
     simp only [push_cast,seval,↓reduceIte,Zk,pu4,hN0,hN]
    replace hz1:=Zo c5 hz1
    refine zK ?_
    exact zEn hz1
   refine zR ?_
   exact zEn hs0_
  replace hs0_:=Zo c6 hs0_
  exact zEx hs0_
 try simp only [Y2,Z7,↓reduceIte,Nat.reduceEqDiff]
 refine zD [3] [] ?_
 refine zQ [2] ?_
 exact Yn [.val (.int .u64 z7)]
theorem Zik {a0:(List Zs)} {r:Bool} {O:Objs} {n:Nat} (h:Zaa a0=some r):GTo Try.prog 125 [(sL Zm a0)] O n ((vB r)) O n:=by
 unfold Zaa at h
 refine zFn Try.call125 Try.func125 fun hU hN0 hN => ?_
 show W _ _ _ _ ⟨48,[],[(0,(sL Zm a0))]⟩ (Zv O n []) _
 refine zQ [0] ?_
 refine zQ [0,3] ?_
 refine Zg ?_
 refine zQd [3,7,8,9] [3,7,8,9] [] ?_
 obtain ⟨z7,hz7,h⟩:=bC h
 refine Ux (J:=(Xl (fun z7=>JR n (⟨48,[],[(2,(vB false))]⟩:Env) (Zv O n []) n) (fun z7=>JX 0 n (⟨48,[],[]⟩:Env) (Zv O n []) n))) (z:=z7) ?_ fun hw => ?_
 ·refine Xe hz7 (fun s0_=>⟨48,[],[(3,(vI s0_.1)),(7,(sL Zm a0)),(8,(vI (a0.length:Int))),(9,(vI s0_.2))]⟩) (fun s0_=>(Zv O n [])) (Xl (fun z7=>JR n (⟨48,[],[(2,(vB false))]⟩:Env) (Zv O n []) n) (fun z7=>JX 0 n (⟨48,[],[]⟩:Env) (Zv O n []) n)) ?_
  intro s0_ x0_ hs0_
  unfold Vz at hs0_
  try dsimp only
  refine zQ [3,7,8,9,10] ?_
  refine Zg ?_
  refine Zq (t:=(decide (s0_.2 < (a0.length:Int)))) rfl (fun c6 => ?_) (fun c6 => ?_)
  ·replace hs0_:=Zp c6 hs0_
   refine Q7 [3,7,8,9] [] ?_
   refine Zg ?_
   refine Yg ?_
   refine Zg ?_
   obtain ⟨x2,hx2,ax2,bx2,cx2,hs0_⟩:=bE (f:=Zm) Zyo (fun _=>rfl) (by decide) hs0_
   refine Zao [] ax2 bx2 cx2 ?_
   refine zDs [3,5,7,8,9] [true] ?_
   obtain ⟨y4,hy4,hs0_⟩:=bC hs0_
   refine zCd (Zk1 hy4) [3,5,6,7,8,9] [true] ?_
   refine Zg ?_
   refine zQD [5,7,8,9,44] [none,none,none,none,none,none,none,none,none,none,none,none,none,none,none,none] ?_
   refine Zq (t:=(cond (cond (cond (cond (decide (x2.At≤s0_.1)) true (decide (65534 < x2.At))) true (x2.Mask == 0)) true ((IntKind.u64.wrap (Zez .u64 x2.Old (IntKind.u64.wrap (Zg8 .u64 (if IntKind.signed .u64=true then -1 else IntKind.max .u64) y4)))) != 0)) true ((IntKind.u64.wrap (Zez .u64 x2.New (IntKind.u64.wrap (Zg8 .u64 (if IntKind.signed .u64=true then -1 else IntKind.max .u64) y4)))) != 0))) rfl (fun c5 => ?_) (fun c5 => ?_)
   ·replace hs0_:=Zp c5 hs0_
    refine zQ [2] ?_
    refine zW ?_
    exact zEy hs0_
   replace hs0_:=Zo c5 hs0_
   refine Q7 [5,7,8,9] [true] ?_
   refine zRd [3,7,8,9] [false] ?_
   refine zR ?_
   exact zEn hs0_
  replace hs0_:=Zo c6 hs0_
  exact zEx hs0_
 rcases z7 with z7 | z7
 ·dsimp only [Xl] at hw h
  refine Qy hw ?_
  try simp only [Y2,Z7,↓reduceIte,Nat.reduceEqDiff]
  exact Zhq [(vB false)]
 dsimp only [Xl] at hw h
 refine Yz hw ?_
 try simp only [Y2,Z7,↓reduceIte,Nat.reduceEqDiff]
 refine zD [] [] ?_
 refine zQ [2] ?_
 exact Yn [(vB true)]
theorem Zkh {a0:Int} {a1:Zc} {r:Bool} {O:Objs} {n:Nat} (h:Zbz a0 a1=some r):GTo Try.prog 159 [(vI a0),.agg (Zf a1)] O n ((vB r)) O n:=by
 unfold Zbz at h
 refine zFn Try.call159 Try.func159 fun hU hN0 hN => ?_
 show W _ _ _ _ ⟨33,[],[(0,(vI a0)),(1,.agg (Zf a1))]⟩ (Zv O n []) _
 refine zQ [0,3] ?_
 refine Zg ?_
 refine zQ [3,5] ?_
 refine Yg ?_
 refine zQ [3,5,6] ?_
 refine Zq (t:=(a0 == 8)) rfl (fun c2 => ?_) (fun c2 => ?_)
 ·replace h:=Zp c2 h
  refine zQ [4] ?_
  exact Yn [(vB (a1.Kind != 0))]
 replace h:=Zo c2 h
 refine zQ [3,11] ?_
 refine Zq (t:=(a0 == 9)) rfl (fun c1 => ?_) (fun c1 => ?_)
 ·replace h:=Zp c1 h
  refine zQD [4] [none,none,none,none,none,none,none,none,none,none,none,none,none,none,none] ?_
  exact Yn [(vB (cond (a1.Kind == 2) true (cond (cond (a1.Kind == 1) (a1.Old.Kind == 1) false) (a1.New.Kind == 1) false)))]
 replace h:=Zo c1 h
 refine Q7 [] [false] ?_
 refine zQ [4] ?_
 exact Yn [(vB false)]
theorem Zlf {a0:Zj} {r:Int} {O:Objs} {n:Nat} (h:Zay a0=some r):GTo Try.prog 152 [.agg (Y6 a0)] O n ((vI r)) O n:=by
 unfold Zay at h
 refine zFn Try.call152 Try.func152 fun hU hN0 hN => ?_
 show W _ _ _ _ ⟨19,[],[(0,.agg (Y6 a0))]⟩ (Zv O n []) _
 refine zQ [1] ?_
 refine Zg ?_
 refine zQ [1,4] ?_
 refine Yg ?_
 refine zQ [1,4,5] ?_
 refine Zq (t:=(a0.Kind == 0)) rfl (fun c5 => ?_) (fun c5 => ?_)
 ·replace h:=Zp c5 h
  refine zQ [2] ?_
  exact Yn [(vI (if 1048576 < (if a0.N < 0 then 0 else a0.N) then 1048576 else (if a0.N < 0 then 0 else a0.N)))]
 replace h:=Zo c5 h
 obtain ⟨z1,hz1,h⟩:=bC h
 refine Y1 (E':=⟨19,[],[(1,.ref n 0),(4,(vI a0.Kind)),(11,(vB z1))]⟩) (O':=(Zv O n [some ⟨false,75,14,1,(Y6 a0)⟩])) (n0:=(n+1)) ?_ ?_
 ·refine zQ [1,4,11] ?_
  refine Zq (t:=(a0.Kind == 1)) rfl (fun c2 => ?_) (fun c2 => ?_)
  ·replace hz1:=Zp c2 hz1
   refine zK ?_
   exact zEn hz1
  replace hz1:=Zo c2 hz1
  refine zR ?_
  exact zEn hz1
 refine Zq (t:=z1) rfl (fun c4 => ?_) (fun c4 => ?_)
 ·replace h:=Zp c4 h
  refine zQ [2] ?_
  exact Yn [(vI (a0.L.length:Int))]
 replace h:=Zo c4 h
 refine zQ [17] ?_
 refine Zq (t:=(a0.Kind == 3)) rfl (fun c3 => ?_) (fun c3 => ?_)
 ·replace h:=Zp c3 h
  refine zQ [2] ?_
  exact Yn [(vI 1)]
 replace h:=Zo c3 h
 refine Q7 [] [false] ?_
 refine zQ [2] ?_
 exact Yn [(vI 0)]
theorem Zsx {a0:Zc} {r:(Int×Int)} {O:Objs} {n:Nat} (h:Zc5 a0=some r):GTo Try.prog 129 [.agg (Zf a0)] O n (.tup [(vI r.1),(vI r.2)]) O n:=by
 unfold Zc5 at h
 refine zFn Try.call129 Try.func129 fun hU hN0 hN => ?_
 show W _ _ _ _ ⟨34,[],[(0,.agg (Zf a0))]⟩ (Zv O n []) _
 refine zQ [1] ?_
 refine zQ [1,4,5] ?_
 refine Zg ?_
 refine zQd [4,5,9,10,11] [4,5,9,10,11] [false] ?_
 obtain ⟨z10,hz10,h⟩:=bC h
 refine Yz (E':=⟨34,[],[(4,(vI z10.1)),(5,(vI z10.2))]⟩) (O':=(Zv O n [none])) (n0:=(n+1)) ?_ ?_
 ·refine Xe hz10 (fun s0_=>⟨34,[],[(4,(vI s0_.1)),(5,(vI s0_.2.1)),(9,(sL Ze a0.Ops)),(10,(vI (a0.Ops.length:Int))),(11,(vI s0_.2.2))]⟩) (fun s0_=>(Zv O n [none])) (fun z10=>JX 0 n (⟨34,[],[(4,(vI z10.1)),(5,(vI z10.2))]⟩:Env) (Zv O n [none]) (n+1)) ?_
  intro s0_ x0_ hs0_
  unfold G9 at hs0_
  try dsimp only
  refine zQ [4,5,9,10,11,12] ?_
  refine Zg ?_
  refine Zq (t:=(decide (s0_.2.2 < (a0.Ops.length:Int)))) rfl (fun c9 => ?_) (fun c9 => ?_)
  ·replace hs0_:=Zp c9 hs0_
   refine Q7 [4,5,9,10,11] [false] ?_
   obtain ⟨z1,hz1,hs0_⟩:=bC hs0_
   refine Y1 (E':=⟨34,[],[(4,(vI z1.1)),(5,(vI z1.2)),(9,(sL Ze a0.Ops)),(10,(vI (a0.Ops.length:Int))),(11,(vI s0_.2.2))]⟩) (O':=(Zv O n [none,none])) (n0:=(n+2)) ?_ ?_
   ·refine Yg ?_
    refine Zg ?_
    obtain ⟨x3,hx3,ax3,bx3,cx3,hz1⟩:=bE (f:=Ze) Zfv (fun _=>rfl) (by decide) hz1
    refine Zao [] ax3 bx3 cx3 ?_
    refine zD [4,5,7,9,10,11] [false,true] ?_
    obtain ⟨z4,hz4,hz1⟩:=bC hz1
    refine Y1 (E':=⟨34,[],[(4,(vI z4)),(5,(vI s0_.2.1)),(7,.ref (n+1) 0),(9,(sL Ze a0.Ops)),(10,(vI (a0.Ops.length:Int))),(11,(vI s0_.2.2))]⟩) (O':=(Zv O n [none,some ⟨false,75,14,1,(Y6 x3)⟩])) (n0:=(n+2)) ?_ ?_
    ·refine zQ [4,5,7,9,10,11,17] ?_
     refine Zq (t:=(x3.Kind != 2)) rfl (fun c6 => ?_) (fun c6 => ?_)
     ·replace hz4:=Zp c6 hz4
      obtain ⟨y5,hy5,hz4⟩:=bC hz4
      refine zC (Zlf hy5) ?_
      exact zEn hz4
     replace hz4:=Zo c6 hz4
     refine zK ?_
     exact zEn hz4
    refine zQ [4,5,7,9,10,11,25] ?_
    refine Zq (t:=(x3.Kind != 1)) rfl (fun c8 => ?_) (fun c8 => ?_)
    ·replace hz1:=Zp c8 hz1
     obtain ⟨y7,hy7,hz1⟩:=bC hz1
     refine zC (Zlf hy7) ?_
     exact zEn hz1
    replace hz1:=Zo c8 hz1
    refine zK ?_
    exact zEn hz1
   refine zR ?_
   exact zEn hs0_
  replace hs0_:=Zo c9 hs0_
  exact zEx hs0_
 try simp only [Y2,Z7,↓reduceIte,Nat.reduceEqDiff]
 refine zD [4,5] [false] ?_
 refine zQ [2,3] ?_
 exact Yn [(vI z10.1),(vI z10.2)]
attribute [local push_cast] Try.results126 Try.results127 Try.results149 Try.results158 Try.results21 Try.results53 Try.results85 Try.results87 Try.results88 Try.results89
def Ui (Yt:(Zc→Option Bool)):Prop:=∀ {a0:Zc} {r:Bool} {O:Objs} {n:Nat},Yt a0=some r→GTo Try.prog 53 [.agg (Zf a0)] O n ((vB r)) O n
def Uj (Ym:(Zc→Int→Option Bool)):Prop:=∀ {a0:Zc} {a1:Int} {r:Bool} {O:Objs} {n:Nat},Ym a0 a1=some r→GTo Try.prog 85 [.agg (Zf a0),(vI a1)] O n ((vB r)) O n
def Jc (Z6:((List Zl)→Int→Option Bool)):Prop:=∀ {a0:(List Zl)} {a1:Int} {r:Bool} {O:Objs} {n:Nat},Z6 a0 a1=some r→GTo Try.prog 126 [(sL Zi a0),(vI a1)] O n ((vB r)) O n
def J5 (Ya:(Zc→Int→Option Bool)):Prop:=∀ {a0:Zc} {a1:Int} {r:Bool} {O:Objs} {n:Nat},Ya a0 a1=some r→GTo Try.prog 127 [.agg (Zf a0),(vI a1)] O n ((vB r)) O n
def Kw (Yc:(Int→Zj→Int→Option Bool)):Prop:=∀ {a0:Int} {a1:Zj} {a2:Int} {r:Bool} {O:Objs} {n:Nat},Yc a0 a1 a2=some r→GTo Try.prog 149 [(vI a0),.agg (Y6 a1),(vI a2)] O n ((vB r)) O n
def Jd (Z5:(Bool→Bool→Bool→Zj→Option Bool)):Prop:=∀ {a0:Bool} {a1:Bool} {a2:Bool} {a3:Zj} {r:Bool} {O:Objs} {n:Nat},Z5 a0 a1 a2 a3=some r→GTo Try.prog 158 [(vB a0),(vB a1),(vB a2),.ip (Y6 a3) 0] O n ((vB r)) O n
theorem Zva {Yt:(Zc→Option Bool)} {Ym:(Zc→Int→Option Bool)} {Z6:((List Zl)→Int→Option Bool)} {Ya:(Zc→Int→Option Bool)} {Yc:(Int→Zj→Int→Option Bool)} {Z5:(Bool→Bool→Bool→Zj→Option Bool)} (Jy:Ui Yt) (K5:Uj Ym) (K1:Jc Z6) (Vo:J5 Ya) (Uc:Kw Yc) (Xm:Jd Z5) {a0:Zc} {r:Bool} {O:Objs} {n:Nat} (h:Ze5 Yt Ym Z6 Ya Yc Z5 a0=some r):GTo Try.prog 53 [.agg (Zf a0)] O n ((vB r)) O n:=by
 unfold Ze5 at h
 refine zFn Try.call53 Try.func53 fun hU hN0 hN => ?_
 show W _ _ _ _ ⟨5,[],[(0,.agg (Zf a0))]⟩ (Zv O n []) _
 refine zQ [1] ?_
 refine Zg ?_
 obtain ⟨y2,hy2,h⟩:=bC h
 refine zCd (K5 hy2) [2] [false] ?_
 exact Yn [(vB y2)]
theorem Zvb {Yt:(Zc→Option Bool)} {Ym:(Zc→Int→Option Bool)} {Z6:((List Zl)→Int→Option Bool)} {Ya:(Zc→Int→Option Bool)} {Yc:(Int→Zj→Int→Option Bool)} {Z5:(Bool→Bool→Bool→Zj→Option Bool)} (Jy:Ui Yt) (K5:Uj Ym) (K1:Jc Z6) (Vo:J5 Ya) (Uc:Kw Yc) (Xm:Jd Z5) {a0:Zc} {a1:Int} {r:Bool} {O:Objs} {n:Nat} (h:Ze6 Yt Ym Z6 Ya Yc Z5 a0 a1=some r):GTo Try.prog 85 [.agg (Zf a0),(vI a1)] O n ((vB r)) O n:=by
 unfold Ze6 at h
 refine zFn Try.call85 Try.func85 fun hU hN0 hN => ?_
 show W _ _ _ _ ⟨55,[],[(0,.agg (Zf a0)),(1,(vI a1))]⟩ (Zv O n []) _
 refine zQ [1,2] ?_
 refine Zg ?_
 refine zQ [1,2,7] ?_
 refine Zq (t:=(a1 == 0)) rfl (fun c39 => ?_) (fun c39 => ?_)
 ·replace h:=Zp c39 h
  refine zQ [4] ?_
  exact Yn [(vB false)]
 replace h:=Zo c39 h
 refine Q7 [1,2] [true] ?_
 refine Zea ⟨55,[],[(1,(vI a1)),(2,.ip (Zf a0) 0)]⟩ (Zv O n [none]) (Ys hU rfl rfl ?_) ?_
 ·exact zSe
 refine zQ [1,2,5] ?_
 refine Zg ?_
 refine zQ [1,2,5,10] ?_
 refine Yg ?_
 refine zQ [1,2,5,10,11] ?_
 refine Zq (t:=(a0.Kind == 0)) rfl (fun c38 => ?_) (fun c38 => ?_)
 ·replace h:=Zp c38 h
  refine Zg ?_
  obtain ⟨y2,hy2,h⟩:=bC h
  refine zR ?_
  refine GCalls.argsW ?_ ((Jx hy2).then ?_)
  ·exact zSe
  refine zS ?_
  refine zD [4] [false] ?_
  exact Yn [(vB y2)]
 replace h:=Zo c38 h
 refine zQ [1,2,5,10,15] ?_
 refine Zq (t:=(a0.Kind == 1)) rfl (fun c37 => ?_) (fun c37 => ?_)
 ·replace h:=Zp c37 h
  obtain ⟨z6,hz6,h⟩:=bC h
  refine Y1 (E':=⟨55,[],[(4,(vB z6))]⟩) (O':=(Zv O n [none])) (n0:=(n+1)) ?_ ?_
  ·obtain ⟨y10,hy10,hz6⟩:=bC hz6
   rcases Bool.eq_false_or_eq_true y10 with c13 | c13
   ·replace hz6:=Zp c13 hz6
    obtain ⟨y11,hy11,hz6⟩:=bC hz6
    rcases Bool.eq_false_or_eq_true y11 with c14 | c14
    ·replace hz6:=Zp c14 hz6
     try rw [c14] at c13
     obtain ⟨y12,hy12,hz6⟩:=bC hz6
     refine Ju [some true,some true,some true,some true,some true,some true] c13 c14 ?_
     refine GCalls.argsW ?_ ((Jx hy10).then ?_)
     ·exact Q9 c13 c14
     refine zX2 c13 c14 ?_
     refine (Zjr hy11).then ?_
     refine zX2 c13 c14 ?_
     refine (Zjr hy12).then ?_
     refine zX2 c13 c14 ?_
     exact Gl hz6 c13 c14
    replace hz6:=Zo c14 hz6
    try rw [c14] at c13
    refine Ju [some true,some true,some true,some false,some false,some false] c13 c14 ?_
    refine GCalls.argsW ?_ ((Jx hy10).then ?_)
    ·exact Q9 c13 c14
    refine zX2 c13 c14 ?_
    refine (Zjr hy11).then ?_
    refine zX2 c13 c14 ?_
    exact Gl hz6 c13 c14
   replace hz6:=Zo c13 hz6
   refine Jl [some false,some false,some false,some false,some false,some false] c13 ?_
   refine GCalls.argsW ?_ ((Jx hy10).then ?_)
   ·exact Z9b c13
   refine zX1 c13 ?_
   exact Qx hz6 c13
  exact Yn [(vB z6)]
 replace h:=Zo c37 h
 refine zQ [1,2,5,10,29] ?_
 refine Zq (t:=(a0.Kind == 2)) rfl (fun c36 => ?_) (fun c36 => ?_)
 ·replace h:=Zp c36 h
  obtain ⟨z18,hz18,h⟩:=bC h
  refine Y1 (E':=⟨55,[],[(4,(vB z18))]⟩) (O':=(Zv O n [none])) (n0:=(n+1)) ?_ ?_
  ·obtain ⟨y22,hy22,hz18⟩:=bC hz18
   rcases Bool.eq_false_or_eq_true y22 with c25 | c25
   ·replace hz18:=Zp c25 hz18
    obtain ⟨y23,hy23,hz18⟩:=bC hz18
    rcases Bool.eq_false_or_eq_true y23 with c26 | c26
    ·replace hz18:=Zp c26 hz18
     try rw [c26] at c25
     obtain ⟨y24,hy24,hz18⟩:=bC hz18
     refine Ju [some true,some true,some true,some true,some true,some true,some true,some true] c25 c26 ?_
     refine GCalls.argsW ?_ ((Jx hy22).then ?_)
     ·exact Q9 c25 c26
     refine zX2 c25 c26 ?_
     refine (Zik hy23).then ?_
     refine zX2 c25 c26 ?_
     refine (K1 hy24).then ?_
     refine zX2 c25 c26 ?_
     exact Gl hz18 c25 c26
    replace hz18:=Zo c26 hz18
    try rw [c26] at c25
    refine Ju [some true,some true,some true,some false,some false,some false,some false,some false] c25 c26 ?_
    refine GCalls.argsW ?_ ((Jx hy22).then ?_)
    ·exact Q9 c25 c26
    refine zX2 c25 c26 ?_
    refine (Zik hy23).then ?_
    refine zX2 c25 c26 ?_
    exact Gl hz18 c25 c26
   replace hz18:=Zo c25 hz18
   refine Jl [some false,some false,some false,some false,some false,some false,some false,some false] c25 ?_
   refine GCalls.argsW ?_ ((Jx hy22).then ?_)
   ·exact Z9b c25
   refine zX1 c25 ?_
   exact Qx hz18 c25
  exact Yn [(vB z18)]
 replace h:=Zo c36 h
 refine zQ [1,2,5,45] ?_
 refine Zq (t:=(a0.Kind == 3)) rfl (fun c35 => ?_) (fun c35 => ?_)
 ·replace h:=Zp c35 h
  obtain ⟨z29,hz29,h⟩:=bC h
  refine Y1 (E':=⟨55,[],[(4,(vB z29))]⟩) (O':=(Zv O n [none])) (n0:=(n+1)) ?_ ?_
  ·obtain ⟨y32,hy32,hz29⟩:=bC hz29
   rcases Bool.eq_false_or_eq_true y32 with c34 | c34
   ·replace hz29:=Zp c34 hz29
    obtain ⟨y33,hy33,hz29⟩:=bC hz29
    refine Jl [some true,some true,some true,some true] c34 ?_
    refine GCalls.argsW ?_ ((Jx hy32).then ?_)
    ·exact Z9b c34
    refine zX1 c34 ?_
    refine (Vo hy33).then ?_
    refine zX1 c34 ?_
    exact Qx hz29 c34
   replace hz29:=Zo c34 hz29
   refine Jl [some false,some false,some false,some false] c34 ?_
   refine GCalls.argsW ?_ ((Jx hy32).then ?_)
   ·exact Z9b c34
   refine zX1 c34 ?_
   exact Qx hz29 c34
  exact Yn [(vB z29)]
 replace h:=Zo c35 h
 refine Q7 [] [false] ?_
 refine zQ [4] ?_
 exact Yn [(vB false)]
theorem Zox {Yt:(Zc→Option Bool)} {Ym:(Zc→Int→Option Bool)} {Z6:((List Zl)→Int→Option Bool)} {Ya:(Zc→Int→Option Bool)} {Yc:(Int→Zj→Int→Option Bool)} {Z5:(Bool→Bool→Bool→Zj→Option Bool)} (Jy:Ui Yt) (K5:Uj Ym) (K1:Jc Z6) (Vo:J5 Ya) (Uc:Kw Yc) (Xm:Jd Z5) {a0:(List Zl)} {a1:Int} {r:Bool} {O:Objs} {n:Nat} (h:Zar Yt Ym Z6 Ya Yc Z5 a0 a1=some r):GTo Try.prog 126 [(sL Zi a0),(vI a1)] O n ((vB r)) O n:=by
 unfold Zar at h
 refine zFn Try.call126 Try.func126 fun hU hN0 hN => ?_
 show W _ _ _ _ ⟨39,[],[(0,(sL Zi a0)),(1,(vI a1))]⟩ (Zv O n []) _
 refine zQ [0,1] ?_
 refine zQ [0,1,5] ?_
 refine Zg ?_
 refine zQd [1,5,8,9,10] [1,5,8,9,10] [] ?_
 obtain ⟨z12,hz12,h⟩:=bC h
 refine Ux (J:=(Xl (fun z12=>JR n (⟨39,[],[(4,(vB false))]⟩:Env) (Zv O n []) n) (fun z12=>JX 0 n (⟨39,[],[]⟩:Env) (Zv O n []) n))) (z:=z12) ?_ fun hw => ?_
 ·refine Xe hz12 (fun s0_=>⟨39,[],[(1,(vI a1)),(5,(vI s0_.1)),(8,(sL Zi a0)),(9,(vI (a0.length:Int))),(10,(vI s0_.2))]⟩) (fun s0_=>(Zv O n [])) (Xl (fun z12=>JR n (⟨39,[],[(4,(vB false))]⟩:Env) (Zv O n []) n) (fun z12=>JX 0 n (⟨39,[],[]⟩:Env) (Zv O n []) n)) ?_
  intro s0_ x0_ hs0_
  unfold Um at hs0_
  try dsimp only
  refine zQ [1,5,8,9,10,11] ?_
  refine Zg ?_
  refine Zq (t:=(decide (s0_.2 < (a0.length:Int)))) rfl (fun c11 => ?_) (fun c11 => ?_)
  ·replace hs0_:=Zp c11 hs0_
   refine Q7 [1,5,8,9,10] [] ?_
   refine Zg ?_
   refine Yg ?_
   refine Zg ?_
   obtain ⟨x2,hx2,ax2,bx2,cx2,hs0_⟩:=bE (f:=Zi) Zmx (fun _=>rfl) (by decide) hs0_
   refine Zao [] ax2 bx2 cx2 ?_
   refine zDs [1,5,7,8,9,10] [true] ?_
   obtain ⟨z4,hz4,hs0_⟩:=bC hs0_
   refine Y1 (E':=⟨39,[],[(1,(vI a1)),(7,.ref n 0),(8,(sL Zi a0)),(9,(vI (a0.length:Int))),(10,(vI s0_.2)),(35,(vB z4))]⟩) (O':=(Zv O n [some ⟨false,84,12,1,(Uf x2)⟩])) (n0:=(n+1)) ?_ ?_
   ·rcases Bool.eq_false_or_eq_true (decide (x2.At≤s0_.1)) with c7 | c7
    ·replace hz4:=Zp c7 hz4
     refine Jl [none,none,none,none,none,none,none,some false,some false,some false,some false,some false] c7 ?_
     refine zG ?_
     exact Qx hz4 c7
    replace hz4:=Zo c7 hz4
    rcases Bool.eq_false_or_eq_true (decide (65534 < x2.At)) with c8 | c8
    ·replace hz4:=Zp c8 hz4
     try rw [c8] at c7
     refine Ju [none,none,none,none,none,none,none,some false,some false,some false,some false,some false] c7 c8 ?_
     refine zG ?_
     exact Gl hz4 c7 c8
    replace hz4:=Zo c8 hz4
    try rw [c8] at c7
    rcases Bool.eq_false_or_eq_true (x2.E.Kind == 0) with c9 | c9
    ·replace hz4:=Zp c9 hz4
     try rw [c9] at c7
     try rw [c9] at c8
     refine Zdt [none,none,none,none,none,none,none,some false,some false,some false,some false,some false] c7 c8 c9 ?_
     refine zG ?_
     exact Zf6 hz4 c7 c8 c9
    replace hz4:=Zo c9 hz4
    try rw [c9] at c7
    try rw [c9] at c8
    obtain ⟨y6,hy6,hz4⟩:=bC hz4
    refine Zdt [none,none,none,none,none,none,none,some true,some true,some true,some true,some true] c7 c8 c9 ?_
    refine zG ?_
    refine (K5 hy6).then ?_
    refine zX3 c7 c8 c9 ?_
    refine zG ?_
    exact Zf6 hz4 c7 c8 c9
   refine Zq (t:=z4) rfl (fun c10 => ?_) (fun c10 => ?_)
   ·replace hs0_:=Zp c10 hs0_
    refine zQ [4] ?_
    refine zW ?_
    exact zEy hs0_
   replace hs0_:=Zo c10 hs0_
   refine Q7 [1,7,8,9,10] [true] ?_
   refine zRd [1,5,8,9,10] [false] ?_
   refine zR ?_
   exact zEn hs0_
  replace hs0_:=Zo c11 hs0_
  exact zEx hs0_
 rcases z12 with z12 | z12
 ·dsimp only [Xl] at hw h
  refine Qy hw ?_
  try simp only [Y2,Z7,↓reduceIte,Nat.reduceEqDiff]
  exact Zhq [(vB false)]
 dsimp only [Xl] at hw h
 refine Yz hw ?_
 try simp only [Y2,Z7,↓reduceIte,Nat.reduceEqDiff]
 refine zD [] [] ?_
 refine zQ [4] ?_
 exact Yn [(vB true)]
theorem Zp9 {Yt:(Zc→Option Bool)} {Ym:(Zc→Int→Option Bool)} {Z6:((List Zl)→Int→Option Bool)} {Ya:(Zc→Int→Option Bool)} {Yc:(Int→Zj→Int→Option Bool)} {Z5:(Bool→Bool→Bool→Zj→Option Bool)} (Jy:Ui Yt) (K5:Uj Ym) (K1:Jc Z6) (Vo:J5 Ya) (Uc:Kw Yc) (Xm:Jd Z5) {a0:Zc} {a1:Int} {r:Bool} {O:Objs} {n:Nat} (h:Zbt Yt Ym Z6 Ya Yc Z5 a0 a1=some r):GTo Try.prog 127 [.agg (Zf a0),(vI a1)] O n ((vB r)) O n:=by
 unfold Zbt at h
 refine zFn Try.call127 Try.func127 fun hU hN0 hN => ?_
 show W _ _ _ _ ⟨38,[],[(0,.agg (Zf a0)),(1,(vI a1))]⟩ (Zv O n []) _
 refine zQ [1,2] ?_
 refine Zg ?_
 refine Zg ?_
 obtain ⟨y2,hy2,h⟩:=bC h
 refine zCd (Zfn hy2) [1,2,12] [true] ?_
 refine Zq (t:=(!y2)) rfl (fun c12 => ?_) (fun c12 => ?_)
 ·replace h:=Zp c12 h
  refine zQ [4] ?_
  exact Yn [(vB false)]
 replace h:=Zo c12 h
 refine Q7 [1,2] [true] ?_
 refine Zg ?_
 refine zQd [1,2,14,15,16] [1,2,14,15,16] [true] ?_
 obtain ⟨z9,hz9,h⟩:=bC h
 refine Ux (J:=(Xl (fun z9=>JR n (⟨38,[],[(4,(vB false))]⟩:Env) (Zv O n [none]) (n+1)) (fun z9=>JX 0 n (⟨38,[],[(2,.ref n 0)]⟩:Env) (Zv O n [some ⟨false,30,11,1,(Zf a0)⟩]) (n+1)))) (z:=z9) ?_ fun hw => ?_
 ·refine Xe hz9 (fun s0_=>⟨38,[],[(1,(vI a1)),(2,.ref n 0),(14,(sL Ze a0.Ops)),(15,(vI (a0.Ops.length:Int))),(16,(vI s0_))]⟩) (fun s0_=>(Zv O n [some ⟨false,30,11,1,(Zf a0)⟩])) (Xl (fun z9=>JR n (⟨38,[],[(4,(vB false))]⟩:Env) (Zv O n [none]) (n+1)) (fun z9=>JX 0 n (⟨38,[],[(2,.ref n 0)]⟩:Env) (Zv O n [some ⟨false,30,11,1,(Zf a0)⟩]) (n+1))) ?_
  intro s0_ x0_ hs0_
  unfold U3 at hs0_
  try dsimp only
  refine zQ [1,2,14,15,16,17] ?_
  refine Zg ?_
  refine Zq (t:=(decide (s0_ < (a0.Ops.length:Int)))) rfl (fun c8 => ?_) (fun c8 => ?_)
  ·replace hs0_:=Zp c8 hs0_
   refine Q7 [1,2,14,15,16] [true] ?_
   refine Zg ?_
   refine Yg ?_
   refine Zg ?_
   obtain ⟨x4,hx4,ax4,bx4,cx4,hs0_⟩:=bE (f:=Ze) Zfv (fun _=>rfl) (by decide) hs0_
   refine Zao [] ax4 bx4 cx4 ?_
   refine zDs [1,2,6,14,15,16] [true,true] ?_
   obtain ⟨y6,hy6,hs0_⟩:=bC hs0_
   refine zCd (Uc hy6) [1,2,14,15,16,25] [true,false] ?_
   refine Zq (t:=(!y6)) rfl (fun c7 => ?_) (fun c7 => ?_)
   ·replace hs0_:=Zp c7 hs0_
    refine zQ [4] ?_
    refine zW ?_
    exact zEy hs0_
   replace hs0_:=Zo c7 hs0_
   refine Q7 [1,2,14,15,16] [true,false] ?_
   refine zR ?_
   exact zEn hs0_
  replace hs0_:=Zo c8 hs0_
  exact zEx hs0_
 rcases z9 with z9 | z9
 ·dsimp only [Xl] at hw h
  refine Qy hw ?_
  try simp only [Y2,Z7,↓reduceIte,Nat.reduceEqDiff]
  exact Zhq [(vB false)]
 dsimp only [Xl] at hw h
 refine Yz hw ?_
 try simp only [Y2,Z7,↓reduceIte,Nat.reduceEqDiff]
 refine zDs [2] [true] ?_
 obtain ⟨y11,hy11,h⟩:=bC h
 refine zCd (Zsx hy11) [7,8] [false] ?_
 refine zQD [4] [none,none] ?_
 exact Yn [(vB (cond (decide (y11.1 < 1048576)) (decide (y11.2 < 1048576)) false))]
theorem Zrp {Yt:(Zc→Option Bool)} {Ym:(Zc→Int→Option Bool)} {Z6:((List Zl)→Int→Option Bool)} {Ya:(Zc→Int→Option Bool)} {Yc:(Int→Zj→Int→Option Bool)} {Z5:(Bool→Bool→Bool→Zj→Option Bool)} (Jy:Ui Yt) (K5:Uj Ym) (K1:Jc Z6) (Vo:J5 Ya) (Uc:Kw Yc) (Xm:Jd Z5) {a0:Int} {a1:Zj} {a2:Int} {r:Bool} {O:Objs} {n:Nat} (h:Zcv Yt Ym Z6 Ya Yc Z5 a0 a1 a2=some r):GTo Try.prog 149 [(vI a0),.agg (Y6 a1),(vI a2)] O n ((vB r)) O n:=by
 unfold Zcv at h
 refine zFn Try.call149 Try.func149 fun hU hN0 hN => ?_
 show W _ _ _ _ ⟨60,[],[(0,(vI a0)),(1,.agg (Y6 a1)),(2,(vI a2))]⟩ (Zv O n []) _
 refine zQ [0,2,4] ?_
 refine Zea ⟨60,[],[(0,(vI a0)),(2,(vI a2)),(4,.ip (Y6 a1) 0)]⟩ (Zv O n [none]) (Ys hU rfl rfl ?_) ?_
 ·exact zSe
 refine zQ [0,2,4,7] ?_
 refine Zg ?_
 refine zQ [0,2,4,7,10] ?_
 refine Yg ?_
 refine Zg ?_
 refine Yg ?_
 obtain ⟨z1,hz1,h⟩:=bC h
 refine Z6y (J:=(Xl (fun z1=>JN n (⟨60,[],[(0,(vI a0)),(4,.ip (Y6 a1) 0),(7,.fn 158 0 [.ip (Y6 a1) 0])]⟩:Env) (Zv O n [none]) (n+1)) (Xl (fun z1=>JR n (⟨60,[],[(6,(vB z1))]⟩:Env) (Zv O n [none]) (n+1)) (Xl (fun z1=>JX 4 n (⟨60,[],[(0,(vI a0)),(2,(vI a2)),(4,.ip (Y6 a1) 0),(7,.fn 158 0 [.ip (Y6 a1) 0])]⟩:Env) (Zv O n [none]) (n+1)) (fun z1=>JX 0 n (⟨60,[],[]⟩:Env) (Zv O n [none]) (n+1)))))) (z:=z1) ?_ fun hw => ?_
 ·refine Yg ?_
  refine Yg ?_
  refine Zg ?_
  refine Yg ?_
  refine Zg ?_
  refine Zg ?_
  refine zQ [0,2,4,7,10,11] ?_
  refine Zq (t:=(a1.Kind == 0)) rfl (fun c7 => ?_) (fun c7 => ?_)
  ·replace hz1:=Zp c7 hz1
   refine zXt ?_
   refine zDs [4,7] [false] ?_
   refine Zg ?_
   obtain ⟨y3,hy3,hz1⟩:=bC hz1
   refine zRo [none,none,none,none,none,none] ?_
   refine zG ?_
   refine GCalls.argsW ?_ ((Xm hy3).then ?_)
   ·exact zSe
   refine zS ?_
   refine zG ?_
   refine zD [6] [false] ?_
   refine zW ?_
   exact zEn hz1
  replace hz1:=Zo c7 hz1
  refine Q7 [0,2,4,7,10] [false] ?_
  refine Zg ?_
  refine zQ [0,2,4,7,10,13] ?_
  refine Zq (t:=(a1.Kind == 1)) rfl (fun c6 => ?_) (fun c6 => ?_)
  ·replace hz1:=Zp c6 hz1
   refine zXt ?_
   exact zEn hz1
  replace hz1:=Zo c6 hz1
  refine Q7 [0,2,4,7,10] [false] ?_
  refine Zg ?_
  refine zQ [0,2,4,7,10,15] ?_
  refine Zq (t:=(a1.Kind == 2)) rfl (fun c5 => ?_) (fun c5 => ?_)
  ·replace hz1:=Zp c5 hz1
   refine zXt ?_
   exact zEn hz1
  replace hz1:=Zo c5 hz1
  refine Q7 [0,2,4,7,10] [false] ?_
  refine zQ [0,2,4,7,17] ?_
  refine Zq (t:=(a1.Kind == 3)) rfl (fun c4 => ?_) (fun c4 => ?_)
  ·replace hz1:=Zp c4 hz1
   refine zXt ?_
   exact zEn hz1
  replace hz1:=Zo c4 hz1
  refine Q7 [] [false] ?_
  refine zXt ?_
  exact zEn hz1
 rcases z1 with z1 | z1
 ·dsimp only [Xl] at hw h
  refine Y1 hw ?_
  refine Zg ?_
  obtain ⟨z10,hz10,h⟩:=bC h
  refine Y1 (E':=⟨60,[],[(6,(vB z10))]⟩) (O':=(Zv O n [none])) (n0:=(n+1)) ?_ ?_
  ·obtain ⟨y13,hy13,hz10⟩:=bC hz10
   rcases Bool.eq_false_or_eq_true y13 with c15 | c15
   ·replace hz10:=Zp c15 hz10
    rcases Bool.eq_false_or_eq_true (decide (0 < (a1.L.length:Int))) with c16 | c16
    ·replace hz10:=Zp c16 hz10
     try rw [c16] at c15
     obtain ⟨y14,hy14,hz10⟩:=bC hz10
     refine Ju [none,none,none,none,some true,some true,some true,some true,some true] c15 c16 ?_
     refine zG ?_
     refine GCalls.argsW ?_ ((Xm hy13).then ?_)
     ·exact Q9 c15 c16
     refine zX2 c15 c16 ?_
     refine zG ?_
     refine GCalls.argsW ?_ ((Zn0 hy14).then ?_)
     ·exact Q9 c15 c16
     refine zX2 c15 c16 ?_
     refine zG ?_
     exact Gl hz10 c15 c16
    replace hz10:=Zo c16 hz10
    try rw [c16] at c15
    refine Ju [none,none,none,none,some false,some false,some false,some false,some false] c15 c16 ?_
    refine zG ?_
    refine GCalls.argsW ?_ ((Xm hy13).then ?_)
    ·exact Q9 c15 c16
    refine zX2 c15 c16 ?_
    refine zG ?_
    exact Gl hz10 c15 c16
   replace hz10:=Zo c15 hz10
   refine Jl [none,none,none,none,some false,some false,some false,some false,some false] c15 ?_
   refine zG ?_
   refine GCalls.argsW ?_ ((Xm hy13).then ?_)
   ·exact Z9b c15
   refine zX1 c15 ?_
   refine zG ?_
   exact Qx hz10 c15
  exact Yn [(vB z10)]
 rcases z1 with z1 | z1
 ·dsimp only [Xl] at hw h
  refine Zyy hw ?_
  try simp only [Y2,Z7]
  exact Zhq [(vB z1)]
 rcases z1 with z1 | z1
 ·dsimp only [Xl] at hw h
  refine Z4l hw ?_
  try simp only [Y2,Z7,↓reduceIte,Nat.reduceEqDiff]
  refine zDs [0,2,4,7] [false] ?_
  obtain ⟨z20,hz20,h⟩:=bC h
  refine Y1 (E':=⟨60,[],[(6,(vB z20))]⟩) (O':=(Zv O n [none])) (n0:=(n+1)) ?_ ?_
  ·obtain ⟨y24,hy24,hz20⟩:=bC hz20
   rcases Bool.eq_false_or_eq_true y24 with c27 | c27
   ·replace hz20:=Zp c27 hz20
    obtain ⟨y25,hy25,hz20⟩:=bC hz20
    rcases Bool.eq_false_or_eq_true y25 with c28 | c28
    ·replace hz20:=Zp c28 hz20
     try rw [c28] at c27
     obtain ⟨y26,hy26,hz20⟩:=bC hz20
     refine Ju [some true,some true,some true,some true,some true,some true,some true,some true] c27 c28 ?_
     refine GCalls.argsW ?_ ((Xm hy24).then ?_)
     ·exact Q9 c27 c28
     refine zX2 c27 c28 ?_
     refine (Zkh hy25).then ?_
     refine zX2 c27 c28 ?_
     refine (K5 hy26).then ?_
     refine zX2 c27 c28 ?_
     exact Gl hz20 c27 c28
    replace hz20:=Zo c28 hz20
    try rw [c28] at c27
    refine Ju [some true,some true,some true,some true,some false,some false,some false,some false] c27 c28 ?_
    refine GCalls.argsW ?_ ((Xm hy24).then ?_)
    ·exact Q9 c27 c28
    refine zX2 c27 c28 ?_
    refine (Zkh hy25).then ?_
    refine zX2 c27 c28 ?_
    exact Gl hz20 c27 c28
   replace hz20:=Zo c27 hz20
   refine Jl [some false,some false,some false,some false,some false,some false,some false,some false] c27 ?_
   refine GCalls.argsW ?_ ((Xm hy24).then ?_)
   ·exact Z9b c27
   refine zX1 c27 ?_
   exact Qx hz20 c27
  exact Yn [(vB z20)]
 dsimp only [Xl] at hw h
 refine Z4l hw ?_
 try simp only [Y2,Z7,↓reduceIte,Nat.reduceEqDiff]
 refine zD [] [false] ?_
 refine zQ [6] ?_
 exact Yn [(vB false)]
theorem Zoy {Yt:(Zc→Option Bool)} {Ym:(Zc→Int→Option Bool)} {Z6:((List Zl)→Int→Option Bool)} {Ya:(Zc→Int→Option Bool)} {Yc:(Int→Zj→Int→Option Bool)} {Z5:(Bool→Bool→Bool→Zj→Option Bool)} (Jy:Ui Yt) (K5:Uj Ym) (K1:Jc Z6) (Vo:J5 Ya) (Uc:Kw Yc) (Xm:Jd Z5) {a0:Bool} {a1:Bool} {a2:Bool} {a3:Zj} {r:Bool} {O:Objs} {n:Nat} (h:Zas Yt Ym Z6 Ya Yc Z5 a0 a1 a2 a3=some r):GTo Try.prog 158 [(vB a0),(vB a1),(vB a2),.ip (Y6 a3) 0] O n ((vB r)) O n:=by
 unfold Zas at h
 refine zFn Try.call158 Try.func158 fun hU hN0 hN => ?_
 show W _ _ _ _ ⟨41,[],[(0,(vB a0)),(1,(vB a1)),(2,(vB a2)),(3,.ip (Y6 a3) 0)]⟩ (Zv O n []) _
 refine zQ [0,1,2,3] ?_
 obtain ⟨z5,hz5,h⟩:=bC h
 refine Y1 (E':=⟨41,[],[(7,(vB z5))]⟩) (O':=(Zv O n [])) (n0:=n) ?_ ?_
 ·rcases Bool.eq_false_or_eq_true a0 with c14 | c14
  ·replace hz5:=Zp c14 hz5
   rcases Bool.eq_false_or_eq_true (a3.N != 0) with c15 | c15
   ·replace hz5:=Zp c15 hz5
    try rw [c15] at c14
    refine Ju [none,none,none,none,none,none,none,none,none,none,none,some false,some false,some false,some false,some false,some false,some false,some false,some false,some false,some false,some false,some false,some false] c14 c15 ?_
    refine zG ?_
    exact Gl hz5 c14 c15
   replace hz5:=Zo c15 hz5
   try rw [c15] at c14
   rcases Bool.eq_false_or_eq_true a1 with c16 | c16
   ·replace hz5:=Zp c16 hz5
    try rw [c16] at c14
    try rw [c16] at c15
    rcases Bool.eq_false_or_eq_true (decide (0 < (a3.L.length:Int))) with c17 | c17
    ·replace hz5:=Zp c17 hz5
     try rw [c17] at c14
     try rw [c17] at c15
     try rw [c17] at c16
     refine Zm1 [none,none,none,none,none,none,none,none,none,none,none,some false,some false,some false,some false,some false,some false,some false,some false,some false,some false,some false,some false,some false,some false] c14 c15 c16 c17 ?_
     refine zG ?_
     exact Zn3 hz5 c14 c15 c16 c17
    replace hz5:=Zo c17 hz5
    try rw [c17] at c14
    try rw [c17] at c15
    try rw [c17] at c16
    rcases Bool.eq_false_or_eq_true a2 with c18 | c18
    ·replace hz5:=Zp c18 hz5
     try rw [c18] at c14
     try rw [c18] at c15
     try rw [c18] at c16
     try rw [c18] at c17
     rcases Bool.eq_false_or_eq_true (a3.E.Kind != 0) with c19 | c19
     ·replace hz5:=Zp c19 hz5
      try rw [c19] at c14
      try rw [c19] at c15
      try rw [c19] at c16
      try rw [c19] at c17
      try rw [c19] at c18
      refine Z8g [none,none,none,none,none,none,none,none,none,none,none,some true,some true,some true,some true,some true,some true,some true,some false,some false,some false,some false,some true,some true,some true] c14 c15 c16 c17 c18 c19 ?_
      refine zG ?_
      exact Yeq hz5 c14 c15 c16 c17 c18 c19
     replace hz5:=Zo c19 hz5
     try rw [c19] at c14
     try rw [c19] at c15
     try rw [c19] at c16
     try rw [c19] at c17
     try rw [c19] at c18
     obtain ⟨y10,hy10,hz5⟩:=bC hz5
     refine Z8g [none,none,none,none,none,none,none,none,none,none,none,some true,some true,some true,some true,some true,some true,some true,some true,some true,some true,some true,some true,some true,some true] c14 c15 c16 c17 c18 c19 ?_
     refine zG ?_
     refine (Jy hy10).then ?_
     refine zX6 c14 c15 c16 c17 c18 c19 ?_
     refine zG ?_
     exact Yeq hz5 c14 c15 c16 c17 c18 c19
    replace hz5:=Zo c18 hz5
    try rw [c18] at c14
    try rw [c18] at c15
    try rw [c18] at c16
    try rw [c18] at c17
    refine Zys [none,none,none,none,none,none,none,none,none,none,none,some true,some true,some false,some false,some false,some false,some false,some false,some false,some false,some false,some false,some true,some true] c14 c15 c16 c17 c18 ?_
    refine zG ?_
    exact Zyr hz5 c14 c15 c16 c17 c18
   replace hz5:=Zo c16 hz5
   try rw [c16] at c14
   try rw [c16] at c15
   rcases Bool.eq_false_or_eq_true a2 with c20 | c20
   ·replace hz5:=Zp c20 hz5
    try rw [c20] at c14
    try rw [c20] at c15
    try rw [c20] at c16
    rcases Bool.eq_false_or_eq_true (a3.E.Kind != 0) with c21 | c21
    ·replace hz5:=Zp c21 hz5
     try rw [c21] at c14
     try rw [c21] at c15
     try rw [c21] at c16
     try rw [c21] at c20
     refine Zys [none,none,none,none,none,none,none,none,none,none,none,some true,some true,some true,some true,some true,some true,some true,some false,some false,some false,some false,some true,some true,some true] c14 c15 c16 c20 c21 ?_
     refine zG ?_
     exact Zyr hz5 c14 c15 c16 c20 c21
    replace hz5:=Zo c21 hz5
    try rw [c21] at c14
    try rw [c21] at c15
    try rw [c21] at c16
    try rw [c21] at c20
    obtain ⟨y11,hy11,hz5⟩:=bC hz5
    refine Zys [none,none,none,none,none,none,none,none,none,none,none,some true,some true,some true,some true,some true,some true,some true,some true,some true,some true,some true,some true,some true,some true] c14 c15 c16 c20 c21 ?_
    refine zG ?_
    refine (Jy hy11).then ?_
    refine zX5 c14 c15 c16 c20 c21 ?_
    refine zG ?_
    exact Zyr hz5 c14 c15 c16 c20 c21
   replace hz5:=Zo c20 hz5
   try rw [c20] at c14
   try rw [c20] at c15
   try rw [c20] at c16
   refine Zm1 [none,none,none,none,none,none,none,none,none,none,none,some true,some true,some false,some false,some false,some false,some false,some false,some false,some false,some false,some false,some true,some true] c14 c15 c16 c20 ?_
   refine zG ?_
   exact Zn3 hz5 c14 c15 c16 c20
  replace hz5:=Zo c14 hz5
  rcases Bool.eq_false_or_eq_true a1 with c22 | c22
  ·replace hz5:=Zp c22 hz5
   try rw [c22] at c14
   rcases Bool.eq_false_or_eq_true (decide (0 < (a3.L.length:Int))) with c23 | c23
   ·replace hz5:=Zp c23 hz5
    try rw [c23] at c14
    try rw [c23] at c22
    refine Zdt [none,none,none,none,none,none,none,none,none,none,none,some false,some false,some false,some false,some false,some false,some false,some false,some false,some false,some false,some false,some false,some false] c14 c22 c23 ?_
    refine zG ?_
    exact Zf6 hz5 c14 c22 c23
   replace hz5:=Zo c23 hz5
   try rw [c23] at c14
   try rw [c23] at c22
   rcases Bool.eq_false_or_eq_true a2 with c24 | c24
   ·replace hz5:=Zp c24 hz5
    try rw [c24] at c14
    try rw [c24] at c22
    try rw [c24] at c23
    rcases Bool.eq_false_or_eq_true (a3.E.Kind != 0) with c25 | c25
    ·replace hz5:=Zp c25 hz5
     try rw [c25] at c14
     try rw [c25] at c22
     try rw [c25] at c23
     try rw [c25] at c24
     refine Zys [none,none,none,none,none,none,none,none,none,none,none,some true,some true,some true,some true,some true,some true,some true,some false,some false,some false,some false,some true,some true,some true] c14 c22 c23 c24 c25 ?_
     refine zG ?_
     exact Zyr hz5 c14 c22 c23 c24 c25
    replace hz5:=Zo c25 hz5
    try rw [c25] at c14
    try rw [c25] at c22
    try rw [c25] at c23
    try rw [c25] at c24
    obtain ⟨y12,hy12,hz5⟩:=bC hz5
    refine Zys [none,none,none,none,none,none,none,none,none,none,none,some true,some true,some true,some true,some true,some true,some true,some true,some true,some true,some true,some true,some true,some true] c14 c22 c23 c24 c25 ?_
    refine zG ?_
    refine (Jy hy12).then ?_
    refine zX5 c14 c22 c23 c24 c25 ?_
    refine zG ?_
    exact Zyr hz5 c14 c22 c23 c24 c25
   replace hz5:=Zo c24 hz5
   try rw [c24] at c14
   try rw [c24] at c22
   try rw [c24] at c23
   refine Zm1 [none,none,none,none,none,none,none,none,none,none,none,some true,some true,some false,some false,some false,some false,some false,some false,some false,some false,some false,some false,some true,some true] c14 c22 c23 c24 ?_
   refine zG ?_
   exact Zn3 hz5 c14 c22 c23 c24
  replace hz5:=Zo c22 hz5
  try rw [c22] at c14
  rcases Bool.eq_false_or_eq_true a2 with c26 | c26
  ·replace hz5:=Zp c26 hz5
   try rw [c26] at c14
   try rw [c26] at c22
   rcases Bool.eq_false_or_eq_true (a3.E.Kind != 0) with c27 | c27
   ·replace hz5:=Zp c27 hz5
    try rw [c27] at c14
    try rw [c27] at c22
    try rw [c27] at c26
    refine Zm1 [none,none,none,none,none,none,none,none,none,none,none,some true,some true,some true,some true,some true,some true,some true,some false,some false,some false,some false,some true,some true,some true] c14 c22 c26 c27 ?_
    refine zG ?_
    exact Zn3 hz5 c14 c22 c26 c27
   replace hz5:=Zo c27 hz5
   try rw [c27] at c14
   try rw [c27] at c22
   try rw [c27] at c26
   obtain ⟨y13,hy13,hz5⟩:=bC hz5
   refine Zm1 [none,none,none,none,none,none,none,none,none,none,none,some true,some true,some true,some true,some true,some true,some true,some true,some true,some true,some true,some true,some true,some true] c14 c22 c26 c27 ?_
   refine zG ?_
   refine (Jy hy13).then ?_
   refine zX4 c14 c22 c26 c27 ?_
   refine zG ?_
   exact Zn3 hz5 c14 c22 c26 c27
  replace hz5:=Zo c26 hz5
  try rw [c26] at c14
  try rw [c26] at c22
  refine Zdt [none,none,none,none,none,none,none,none,none,none,none,some true,some true,some false,some false,some false,some false,some false,some false,some false,some false,some false,some false,some true,some true] c14 c22 c26 ?_
  refine zG ?_
  exact Zf6 hz5 c14 c22 c26
 exact Yn [(vB z5)]
theorem Zri:∀ k,(Ui ((Zn k).1))∧(Uj ((Zn k).2.1))∧(Jc ((Zn k).2.2.1))∧(J5 ((Zn k).2.2.2.1))∧(Kw ((Zn k).2.2.2.2.1))∧(Jd ((Zn k).2.2.2.2.2)):=fun k=>by
 induction k with
 | zero=>exact ⟨@fun a0 r O n h=>(nomatch (show (none:Option _)=some _ from h)),@fun a0 a1 r O n h=>(nomatch (show (none:Option _)=some _ from h)),@fun a0 a1 r O n h=>(nomatch (show (none:Option _)=some _ from h)),@fun a0 a1 r O n h=>(nomatch (show (none:Option _)=some _ from h)),@fun a0 a1 a2 r O n h=>(nomatch (show (none:Option _)=some _ from h)),@fun a0 a1 a2 a3 r O n h=>(nomatch (show (none:Option _)=some _ from h))⟩
 | succ k ih=>exact ⟨@fun a0 r O n h=>Zva (ih.1) (ih.2.1) (ih.2.2.1) (ih.2.2.2.1) (ih.2.2.2.2.1) (ih.2.2.2.2.2)  h,@fun a0 a1 r O n h=>Zvb (ih.1) (ih.2.1) (ih.2.2.1) (ih.2.2.2.1) (ih.2.2.2.2.1) (ih.2.2.2.2.2)  h,@fun a0 a1 r O n h=>Zox (ih.1) (ih.2.1) (ih.2.2.1) (ih.2.2.2.1) (ih.2.2.2.2.1) (ih.2.2.2.2.2)  h,@fun a0 a1 r O n h=>Zp9 (ih.1) (ih.2.1) (ih.2.2.1) (ih.2.2.2.1) (ih.2.2.2.2.1) (ih.2.2.2.2.2)  h,@fun a0 a1 a2 r O n h=>Zrp (ih.1) (ih.2.1) (ih.2.2.1) (ih.2.2.2.1) (ih.2.2.2.2.1) (ih.2.2.2.2.2)  h,@fun a0 a1 a2 a3 r O n h=>Zoy (ih.1) (ih.2.1) (ih.2.2.1) (ih.2.2.2.1) (ih.2.2.2.2.1) (ih.2.2.2.2.2)  h⟩
theorem Zxl {a0:Zc} {r:Bool} {O:Objs} {n:Nat} (h:Zkx a0=some r):GTo Try.prog 53 [.agg (Zf a0)] O n ((vB r)) O n:=by
 obtain ⟨k,hk⟩:=Un h
 exact (Zri k).1  hk
theorem Zxm {a0:Zb} {a1:(List Zy)} {a2:Zc} {r:(Zc×Bool)} {O:Objs} {n:Nat} (h:Zfj a0 a1 a2=some r):GTo Try.prog 21 [.agg (Zd a0),(sL Zu a1),.agg (Zf a2)] O n (.tup [.agg (Zf r.1),(vB r.2)]) O n:=by
 unfold Zfj at h
 refine zFn Try.call21 Try.func21 fun hU hN0 hN => ?_
 show W _ _ _ _ ⟨27,[],[(0,.agg (Zd a0)),(1,(sL Zu a1)),(2,.agg (Zf a2))]⟩ (Zv O n []) _
 refine zQ [1,3,5,6] ?_
 refine Zg ?_
 obtain ⟨y2,hy2,h⟩:=bC h
 refine zCd (Zro hy2) [6,8,9] [false,false,true,true] ?_
 refine Zg ?_
 refine zQ [6,8,18] ?_
 refine Zq (t:=(!y2.2)) rfl (fun c8 => ?_) (fun c8 => ?_)
 ·replace h:=Zp c8 h
  refine Zg ?_
  refine zRd [6,7] [false,false,true,false] ?_
  exact Yn [.agg [(vI 0),(vI 0),nV,nV,(vI 0),nV,nV,nV,nV,(vI 0),nV],(vB false)]
 replace h:=Zo c8 h
 refine Q7 [6,8] [false,false,true,true] ?_
 refine Zg ?_
 obtain ⟨y4,hy4,h⟩:=bC h
 refine zCd (Zme hy4) [6,8] [false,false,true,true] ?_
 refine Zg ?_
 refine Zg ?_
 obtain ⟨y6,hy6,h⟩:=bC h
 refine zCd (Zxl hy6) [6,8,24] [false,false,true,true] ?_
 refine Zq (t:=(!y6)) rfl (fun c7 => ?_) (fun c7 => ?_)
 ·replace h:=Zp c7 h
  refine Zg ?_
  refine zRd [6,7] [false,false,true,false] ?_
  exact Yn [.agg [(vI 0),(vI 0),nV,nV,(vI 0),nV,nV,nV,nV,(vI 0),nV],(vB false)]
 replace h:=Zo c7 h
 refine Q7 [6,8] [false,false,true,true] ?_
 refine Zg ?_
 refine zRd [6,7] [false,false,true,false] ?_
 exact Yn [.agg (Zf y4),(vB true)]
theorem Znq {a0:Zl} {a1:Zy} {r:Bool} {O:Objs} {n:Nat} (h:Zbj a0 a1=some r):GTo Try.prog 88 [.agg (Uf a0),.ip [(vI a1.Kind),(vI a1.At)] 0] O n ((vB r)) O n:=by
 unfold Zbj at h
 refine zFn Try.call88 Try.func88 fun hU hN0 hN => ?_
 show W _ _ _ _ ⟨9,[],[(0,.agg (Uf a0)),(1,.ip [(vI a1.Kind),(vI a1.At)] 0)]⟩ (Zv O n []) _
 refine zQ [1,2] ?_
 refine zQ [3] ?_
 exact Yn [(vB (a0.At == a1.At))]
theorem Gh {a0:(List Zl)} {a1_0:Zy} {r:Int} {O:Objs} {n:Nat} (h:Y0 a0 a1_0=some r):GTo Try.prog 87 [(sL Zi a0),.fn 88 0 [.ip [(vI a1_0.Kind),(vI a1_0.At)] 0]] O n ((vI r)) O n:=by
 unfold Y0 at h
 refine zFn Try.call87 Try.func87 fun hU hN0 hN => ?_
 show W _ _ _ _ ⟨19,[],[(0,(sL Zi a0)),(1,.fn 88 0 [.ip [(vI a1_0.Kind),(vI a1_0.At)] 0])]⟩ (Zv O n []) _
 refine zQ [0,1] ?_
 refine Zg ?_
 refine zQd [0,1,7,8] [0,1,7,8] [] ?_
 obtain ⟨z7,hz7,h⟩:=bC h
 refine Ux (J:=(Xl (fun z7=>JR n (⟨19,[],[(4,(vI z7))]⟩:Env) (Zv O n []) n) (fun z7=>JX 0 n (⟨19,[],[]⟩:Env) (Zv O n []) n))) (z:=z7) ?_ fun hw => ?_
 ·refine Xe hz7 (fun s0_=>⟨19,[],[(0,(sL Zi a0)),(1,.fn 88 0 [.ip [(vI a1_0.Kind),(vI a1_0.At)] 0]),(7,(vI (a0.length:Int))),(8,(vI s0_))]⟩) (fun s0_=>(Zv O n [])) (Xl (fun z7=>JR n (⟨19,[],[(4,(vI z7))]⟩:Env) (Zv O n []) n) (fun z7=>JX 0 n (⟨19,[],[]⟩:Env) (Zv O n []) n)) ?_
  intro s0_ x0_ hs0_
  unfold Yb at hs0_
  try dsimp only
  refine zQ [0,1,7,8,9] ?_
  refine Zg ?_
  refine Zq (t:=(decide (s0_ < (a0.length:Int)))) rfl (fun c6 => ?_) (fun c6 => ?_)
  ·replace hs0_:=Zp c6 hs0_
   refine Q7 [0,1,7,8] [] ?_
   refine Zg ?_
   refine Yg ?_
   refine zQ [0,1,5,7,8] ?_
   refine Zg ?_
   obtain ⟨x3,hx3,ax3,bx3,cx3,hs0_⟩:=bE (f:=Zi) Zmx (fun _=>rfl) (by decide) hs0_
   obtain ⟨y4,hy4,hs0_⟩:=bC hs0_
   refine Zao [] ax3 bx3 cx3 ?_
   refine GCalls.argsW ?_ ((Znq hy4).then ?_)
   ·exact Yhr ax3 bx3 cx3
   refine zF3 ax3 bx3 cx3 ?_
   refine zD [0,1,5,7,8,16] [] ?_
   refine Zq (t:=y4) rfl (fun c5 => ?_) (fun c5 => ?_)
   ·replace hs0_:=Zp c5 hs0_
    refine zQ [4] ?_
    refine zW ?_
    exact zEy hs0_
   replace hs0_:=Zo c5 hs0_
   refine Q7 [0,1,7,8] [] ?_
   refine zR ?_
   exact zEn hs0_
  replace hs0_:=Zo c6 hs0_
  exact zEx hs0_
 rcases z7 with z7 | z7
 ·dsimp only [Xl] at hw h
  refine Qy hw ?_
  try simp only [Y2,Z7,↓reduceIte,Nat.reduceEqDiff]
  exact Zhq [(vI z7)]
 dsimp only [Xl] at hw h
 refine Yz hw ?_
 try simp only [Y2,Z7,↓reduceIte,Nat.reduceEqDiff]
 refine zD [] [] ?_
 refine zQ [4] ?_
 exact Yn [(vI (-1))]
theorem Zsy {a0:(List Zj)} {a1:Int} {r:(Zc×Int×Bool)} {O:Objs} {n:Nat} (h:Zc6 a0 a1=some r):GTo Try.prog 89 [(sL Ze a0),(vI a1)] O n (.tup [.agg (Zf r.1),(vI r.2.1),(vB r.2.2)]) O n:=by
 unfold Zc6 at h
 refine zFn Try.call89 Try.func89 fun hU hN0 hN => ?_
 show W _ _ _ _ ⟨59,[],[(0,(sL Ze a0)),(1,(vI a1))]⟩ (Zv O n []) _
 refine zQ [0,1,4] ?_
 refine zQ [0,1,4,7,8] ?_
 refine Zg ?_
 refine zQd [1,4,7,8,12,13,14] [1,4,7,8,12,13,14] [true] ?_
 obtain ⟨z9,hz9,h⟩:=bC h
 refine Ux (J:=(Xl (fun z9=>JR n (⟨59,[],[(4,.ref n 0),(5,(vI z9.1)),(6,(vB z9.2.1))]⟩:Env) (Zv O n [some ⟨false,30,11,1,[(vI z9.2.2.1),(vI z9.2.2.2.1),(sL (eI .u64) z9.2.2.2.2.1),(sL Za z9.2.2.2.2.2.1),(vI z9.2.2.2.2.2.2.1),(sL (eI .u64) z9.2.2.2.2.2.2.2.1),(sL Za z9.2.2.2.2.2.2.2.2.1),(sL Zm z9.2.2.2.2.2.2.2.2.2.1),(sL Zi z9.2.2.2.2.2.2.2.2.2.2.1),(vI z9.2.2.2.2.2.2.2.2.2.2.2.1),(sL Ze z9.2.2.2.2.2.2.2.2.2.2.2.2)]⟩]) (n+1)) (fun z9=>JX 0 n (⟨59,[],[(4,.ref n 0)]⟩:Env) (Zv O n [some ⟨false,30,11,1,[(vI 0),(vI 0),nV,nV,(vI 0),nV,nV,nV,nV,(vI 0),nV]⟩]) (n+1)))) (z:=z9) ?_ fun hw => ?_
 ·refine Xe hz9 (fun s0_=>⟨59,[],[(1,(vI a1)),(4,.ref n 0),(7,(vI s0_.1)),(8,(vI s0_.2.1)),(12,(sL Ze a0)),(13,(vI (a0.length:Int))),(14,(vI s0_.2.2))]⟩) (fun s0_=>(Zv O n [some ⟨false,30,11,1,[(vI 0),(vI 0),nV,nV,(vI 0),nV,nV,nV,nV,(vI 0),nV]⟩])) (Xl (fun z9=>JR n (⟨59,[],[(4,.ref n 0),(5,(vI z9.1)),(6,(vB z9.2.1))]⟩:Env) (Zv O n [some ⟨false,30,11,1,[(vI z9.2.2.1),(vI z9.2.2.2.1),(sL (eI .u64) z9.2.2.2.2.1),(sL Za z9.2.2.2.2.2.1),(vI z9.2.2.2.2.2.2.1),(sL (eI .u64) z9.2.2.2.2.2.2.2.1),(sL Za z9.2.2.2.2.2.2.2.2.1),(sL Zm z9.2.2.2.2.2.2.2.2.2.1),(sL Zi z9.2.2.2.2.2.2.2.2.2.2.1),(vI z9.2.2.2.2.2.2.2.2.2.2.2.1),(sL Ze z9.2.2.2.2.2.2.2.2.2.2.2.2)]⟩]) (n+1)) (fun z9=>JX 0 n (⟨59,[],[(4,.ref n 0)]⟩:Env) (Zv O n [some ⟨false,30,11,1,[(vI 0),(vI 0),nV,nV,(vI 0),nV,nV,nV,nV,(vI 0),nV]⟩]) (n+1))) ?_
  intro s0_ x0_ hs0_
  unfold Ub at hs0_
  try dsimp only
  refine zQ [1,4,7,8,12,13,14,15] ?_
  refine Zg ?_
  refine Zq (t:=(decide (s0_.2.2 < (a0.length:Int)))) rfl (fun c8 => ?_) (fun c8 => ?_)
  ·replace hs0_:=Zp c8 hs0_
   refine Q7 [1,4,7,8,12,13,14] [true] ?_
   obtain ⟨z1,hz1,hs0_⟩:=bC hs0_
   refine Z6y (J:=(Xl (fun z1=>JN n (⟨59,[],[(1,(vI a1)),(4,.ref n 0),(7,(vI z1.1)),(8,(vI z1.2)),(12,(sL Ze a0)),(13,(vI (a0.length:Int))),(14,(vI s0_.2.2))]⟩:Env) (Zv O n [some ⟨false,30,11,1,[(vI 0),(vI 0),nV,nV,(vI 0),nV,nV,nV,nV,(vI 0),nV]⟩,none]) (n+2)) (fun z1=>JR n (⟨59,[],[(4,.ref n 0),(5,(vI (IntKind.i64.wrap ((IntKind.i64.wrap (s0_.2.1+a1)) - s0_.1)))),(6,(vB z1.1))]⟩:Env) (Zv O n [some ⟨false,30,11,1,[(vI z1.2.1),(vI z1.2.2.1),(sL (eI .u64) z1.2.2.2.1),(sL Za z1.2.2.2.2.1),(vI z1.2.2.2.2.2.1),(sL (eI .u64) z1.2.2.2.2.2.2.1),(sL Za z1.2.2.2.2.2.2.2.1),(sL Zm z1.2.2.2.2.2.2.2.2.1),(sL Zi z1.2.2.2.2.2.2.2.2.2.1),(vI z1.2.2.2.2.2.2.2.2.2.2.1),(sL Ze z1.2.2.2.2.2.2.2.2.2.2.2)]⟩]) (n+1)))) (z:=z1) ?_ fun hw => ?_
   ·refine Yg ?_
    refine Zg ?_
    obtain ⟨x3,hx3,ax3,bx3,cx3,hz1⟩:=bE (f:=Ze) Zfv (fun _=>rfl) (by decide) hz1
    refine Zao [] ax3 bx3 cx3 ?_
    refine zD [1,4,7,8,10,12,13,14] [true,true] ?_
    refine zQ [1,4,7,8,10,11,12,13,14] ?_
    obtain ⟨z4,hz4,hz1⟩:=bC hz1
    refine Z6y (J:=(Xl (fun z4=>JN n (⟨59,[],[(1,(vI a1)),(4,.ref n 0),(7,(vI s0_.1)),(8,(vI z4)),(11,(vI (if (if 1 < x3.N then x3.N else 1) < (x3.L.length:Int) then (x3.L.length:Int) else (if 1 < x3.N then x3.N else 1)))),(12,(sL Ze a0)),(13,(vI (a0.length:Int))),(14,(vI s0_.2.2))]⟩:Env) (Zv O n [some ⟨false,30,11,1,[(vI 0),(vI 0),nV,nV,(vI 0),nV,nV,nV,nV,(vI 0),nV]⟩,none]) (n+2)) (Xl (fun z4=>JX 1 n (⟨59,[],[(1,(vI a1)),(4,.ref n 0),(7,(vI s0_.1)),(8,(vI (IntKind.i64.wrap (s0_.2.1+(if (if 1 < x3.N then x3.N else 1) < (x3.L.length:Int) then (x3.L.length:Int) else (if 1 < x3.N then x3.N else 1)))))),(12,(sL Ze a0)),(13,(vI (a0.length:Int))),(14,(vI s0_.2.2))]⟩:Env) (Zv O n [some ⟨false,30,11,1,[(vI 0),(vI 0),nV,nV,(vI 0),nV,nV,nV,nV,(vI 0),nV]⟩,none]) (n+2)) (fun z4=>JR n (⟨59,[],[(4,.ref n 0),(5,(vI (IntKind.i64.wrap ((IntKind.i64.wrap (s0_.2.1+a1)) - s0_.1)))),(6,(vB (x3.Kind != 1)))]⟩:Env) (Zv O n [some ⟨false,30,11,1,(Zf x3.E)⟩,none]) (n+2))))) (z:=z4) ?_ fun hw => ?_
    ·refine Yg ?_
     refine zQ [1,4,7,8,10,11,12,13,14,24] ?_
     refine Zq (t:=(x3.Kind == 2)) rfl (fun c7 => ?_) (fun c7 => ?_)
     ·replace hz4:=Zp c7 hz4
      refine zQ [1,4,7,8,12,13,14] ?_
      refine zXt ?_
      exact zEn hz4
     replace hz4:=Zo c7 hz4
     refine zQ [1,4,7,8,10,11,12,13,14,31] ?_
     refine Zq (t:=(decide (a1 < (IntKind.i64.wrap (s0_.1+(if (if 1 < x3.N then x3.N else 1) < (x3.L.length:Int) then (x3.L.length:Int) else (if 1 < x3.N then x3.N else 1))))))) rfl (fun c6 => ?_) (fun c6 => ?_)
     ·replace hz4:=Zp c6 hz4
      refine Zg ?_
      refine Vs Z4 (by kernel_rfl) [.plain,.plain,.plain,.plain,.low,.plain,.low,.low,.low,.low,.pass,.plain,.plain] (fun i=>i≠n+0) [0,1,2,3,4,5,6,7,8,9,10,11,12] [.plain,.plain,.plain,.plain,.low,.plain,.low,.low,.low,.low,.pass,.plain,.plain] [] (by kernel_rfl) rfl ?_
      refine zS ?_
      refine zO ?_
      refine zD [4,5,6] [true,false] ?_
      refine zW ?_
      exact zEn hz4
     replace hz4:=Zo c6 hz4
     refine zQ [1,4,7,8,11,12,13,14,47] ?_
     refine Zq (t:=(x3.Kind != 1)) rfl (fun c5 => ?_) (fun c5 => ?_)
     ·replace hz4:=Zp c5 hz4
      refine zR ?_
      exact zEn hz4
     replace hz4:=Zo c5 hz4
     refine zK ?_
     exact zEn hz4
    rcases z4 with z4 | z4
    ·dsimp only [Xl] at hw hz1
     refine Y1 hw ?_
     refine zR ?_
     exact zEn hz1
    rcases z4 with z4 | z4
    ·dsimp only [Xl] at hw hz1
     refine Z4l hw ?_
     try simp only [Y2,Z7,↓reduceIte,Nat.reduceEqDiff]
     exact zEn hz1
    dsimp only [Xl] at hw hz1
    refine Zyy hw ?_
    try simp only [Y2,Z7]
    exact zEn hz1
   rcases z1 with z1 | z1
   ·dsimp only [Xl] at hw hs0_
    refine Y1 hw ?_
    refine zR ?_
    exact zEn hs0_
   dsimp only [Xl] at hw hs0_
   refine Zyy hw ?_
   try simp only [Y2,Z7]
   exact zEy hs0_
  replace hs0_:=Zo c8 hs0_
  exact zEx hs0_
 rcases z9 with z9 | z9
 ·dsimp only [Xl] at hw h
  refine Qy hw ?_
  try simp only [Y2,Z7,↓reduceIte,Nat.reduceEqDiff]
  exact Zhq [.agg [(vI z9.2.2.1),(vI z9.2.2.2.1),(sL (eI .u64) z9.2.2.2.2.1),(sL Za z9.2.2.2.2.2.1),(vI z9.2.2.2.2.2.2.1),(sL (eI .u64) z9.2.2.2.2.2.2.2.1),(sL Za z9.2.2.2.2.2.2.2.2.1),(sL Zm z9.2.2.2.2.2.2.2.2.2.1),(sL Zi z9.2.2.2.2.2.2.2.2.2.2.1),(vI z9.2.2.2.2.2.2.2.2.2.2.2.1),(sL Ze z9.2.2.2.2.2.2.2.2.2.2.2.2)],(vI z9.1),(vB z9.2.1)]
 dsimp only [Xl] at hw h
 refine Yz hw ?_
 try simp only [Y2,Z7,↓reduceIte,Nat.reduceEqDiff]
 refine zDs [4] [true] ?_
 refine zRd [4,5,6] [true] ?_
 exact Yn [.agg [(vI 0),(vI 0),nV,nV,(vI 0),nV,nV,nV,nV,(vI 0),nV],(vI 0),(vB false)]
attribute [local push_cast] Try.results100 Try.results101 Try.results102 Try.results103 Try.results105 Try.results106 Try.results107 Try.results20 Try.results23 Try.results55 Try.results70 Try.results98 Try.results99
theorem Zp7 {a0:Zc} {a1:Zy} {r:(Zc×Int×Bool)} {O:Objs} {n:Nat} (h:Za0 a0 a1=some r):GTo Try.prog 55 [.agg (Zf a0),.agg [(vI a1.Kind),(vI a1.At)]] O n (.tup [.agg (Zf r.1),(vI r.2.1),(vB r.2.2)]) O n:=by
 unfold Za0 at h
 refine zFn Try.call55 Try.func55 fun hU hN0 hN => ?_
 show W _ _ _ _ ⟨54,[],[(0,.agg (Zf a0)),(1,.agg [(vI a1.Kind),(vI a1.At)])]⟩ (Zv O n []) _
 refine zQ [2,3,4] ?_
 refine Zg ?_
 refine zQD [2,3,4,15] [none,none,none] ?_
 refine Zq (t:=(cond (a1.Kind != 0) true (decide (a1.At < 0)))) rfl (fun c13 => ?_) (fun c13 => ?_)
 ·replace h:=Zp c13 h
  refine Zg ?_
  refine zRd [4,5,6] [false,false,true] ?_
  exact Yn [.agg [(vI 0),(vI 0),nV,nV,(vI 0),nV,nV,nV,nV,(vI 0),nV],(vI 0),(vB false)]
 replace h:=Zo c13 h
 refine Q7 [2,3,4] [true,true,true] ?_
 refine Zg ?_
 refine zQ [2,3,4,18] ?_
 refine Yg ?_
 refine zQ [2,3,4,18,19] ?_
 refine Zq (t:=(a0.Kind == 0)) rfl (fun c12 => ?_) (fun c12 => ?_)
 ·replace h:=Zp c12 h
  refine Zg ?_
  refine Vs Z4 (by kernel_rfl) [.plain,.low,.low,.pass,.plain,.plain] (fun i=>i≠n+2) [0,1,2,3,4,5] [.plain,.low,.low,.pass,.plain,.plain] [] (by kernel_rfl) rfl ?_
  refine zS ?_
  refine zO ?_
  refine zD [4,5,6] [false,false,true] ?_
  exact Yn [.agg [(vI 0),(vI 0),nV,nV,(vI 0),nV,nV,nV,nV,(vI 0),nV],(vI a1.At),(vB true)]
 replace h:=Zo c12 h
 refine zQ [2,3,4,18,24] ?_
 refine Zq (t:=(a0.Kind == 2)) rfl (fun c11 => ?_) (fun c11 => ?_)
 ·replace h:=Zp c11 h
  refine Zea ⟨54,[],[(2,.ref n 0),(3,.ip [(vI a1.Kind),(vI a1.At)] 0),(4,.ref (n+2) 0)]⟩ (Zv O n [some ⟨false,30,11,1,(Zf a0)⟩,none,some ⟨false,30,11,1,[(vI 0),(vI 0),nV,nV,(vI 0),nV,nV,nV,nV,(vI 0),nV]⟩]) (Ys hU rfl rfl ?_) ?_
  ·exact zSe
  refine Zg ?_
  obtain ⟨y2,hy2,h⟩:=bC h
  refine zR ?_
  refine GCalls.argsW ?_ ((Gh hy2).then ?_)
  ·exact zSe
  refine zS ?_
  refine zDs [2,3,4,7] [true,false,true] ?_
  refine zQ [2,3,4,7,31] ?_
  refine Zq (t:=(decide (y2 < 0))) rfl (fun c7 => ?_) (fun c7 => ?_)
  ·replace h:=Zp c7 h
   refine Zg ?_
   refine Vs Z4 (by kernel_rfl) [.plain,.low,.low,.pass,.plain,.plain] (fun i=>i≠n+2) [0,1,2,3,4,5] [.plain,.low,.low,.pass,.plain,.plain] [] (by kernel_rfl) rfl ?_
   refine zS ?_
   refine zO ?_
   refine zD [4,5,6] [false,false,true] ?_
   exact Yn [.agg [(vI 0),(vI 0),nV,nV,(vI 0),nV,nV,nV,nV,(vI 0),nV],(vI a1.At),(vB true)]
  replace h:=Zo c7 h
  refine Q7 [2,3,4,7] [true,false,true] ?_
  refine Zg ?_
  obtain ⟨x5,hx5,ax5,bx5,cx5,h⟩:=bE (f:=Zi) Zmx (fun _=>rfl) (by decide) h
  have g6:=Zb9 (f:=Zi) (off:=1) (sz:=12) Zso (fun _=>rfl) (by decide) (by decide) hx5
  refine Vs Z4 (by kernel_rfl) [.plain,.plain,.plain,.plain,.plain,.plain,.low,.low,.pass,.plain,.plain] (fun i=>i≠n+2) [0,1,2,3,4,5,6,7,8,9,10] [.plain,.plain,.plain,.plain,.plain,.plain,.low,.low,.pass,.plain,.plain] [] (by kernel_rfl) rfl ?_
  refine zF4 ax5 bx5 cx5 g6 ?_
  refine zO ?_
  refine zD [4,5,6] [false,false,true] ?_
  exact Yn [.agg (Zf x5.E),(vI a1.At),(vB true)]
 replace h:=Zo c11 h
 refine zQ [2,3,4,43] ?_
 refine Zq (t:=(a0.Kind == 3)) rfl (fun c10 => ?_) (fun c10 => ?_)
 ·replace h:=Zp c10 h
  refine Zg ?_
  obtain ⟨y9,hy9,h⟩:=bC h
  refine zCd (Zsy hy9) [4,5,6] [false,false,true] ?_
  exact Yn [.agg (Zf y9.1),(vI y9.2.1),(vB y9.2.2)]
 replace h:=Zo c10 h
 refine Q7 [4] [false,false,true] ?_
 refine Zg ?_
 refine zRd [4,5,6] [false,false,true] ?_
 exact Yn [.agg [(vI 0),(vI 0),nV,nV,(vI 0),nV,nV,nV,nV,(vI 0),nV],(vI 0),(vB false)]
theorem Zlg {a0:Zc} {a1:(List Zy)} {r:(Zc×(List Zy)×Bool)} {O:Objs} {n:Nat} (h:Zaz a0 a1=some r):GTo Try.prog 23 [.agg (Zf a0),(sL Zu a1)] O n (.tup [.agg (Zf r.1),(sL Zu r.2.1),(vB r.2.2)]) O n:=by
 unfold Zaz at h
 refine zFn Try.call23 Try.func23 fun hU hN0 hN => ?_
 show W _ _ _ _ ⟨39,[],[(0,.agg (Zf a0)),(1,(sL Zu a1))]⟩ (Zv O n []) _
 refine zQ [1,2,4] ?_
 refine zQ [1,2,4,7] ?_
 refine Zg ?_
 refine zQd [2,4,7,13,14,15] [2,4,7,13,14,15] [true,true] ?_
 refine Kq (E':=(⟨39,[],[(2,.ref n 0),(4,.ref (n+1) 0),(7,.row (n+2) ([]:List Zy).length),(13,(sL Zu a1)),(14,(vI (a1.length:Int))),(15,(vI 0))]⟩:Env)) (O':=(Zv O n [some ⟨false,30,11,1,(Zf a0)⟩,some ⟨false,30,11,1,[(vI 0),(vI 0),nV,nV,(vI 0),nV,nV,nV,nV,(vI 0),nV]⟩,some (oR 54 2 Zu ([]:List Zy)),none])) (n':=(n+4)) ?_ ?_
 ·refine Fit2.trans (E':=(⟨39,[],[(2,.ref n 0),(4,.ref (n+1) 0),(7,nV),(13,(sL Zu a1)),(14,(vI (a1.length:Int))),(15,(vI 0))]⟩:Env)) (O':=(Zv O n [some ⟨false,30,11,1,(Zf a0)⟩,some ⟨false,30,11,1,[(vI 0),(vI 0),nV,nV,(vI 0),nV,nV,nV,nV,(vI 0),nV]⟩])) (n':=(n+2)) (Fit2.of (Ys hU rfl rfl ?_) (by omega)) ?_
  ·exact zSe
  refine Fit2.trans (Zjz 7 54 2 rfl (by omega)) ?_
  simp only [Xk,Y3,Zbc,Gu,List.set_cons_zero,List.set_cons_succ,List.cons_append,List.nil_append,List.length_cons,List.length_nil,Nat.zero_add,Nat.reduceAdd,Nat.reduceLT,Nat.add_assoc]
  refine Fit2.trans (E':=(⟨39,[],[(2,.ref n 0),(4,.ref (n+1) 0),(7,.row (n+2) ([]:List Zy).length),(13,(sL Zu a1)),(14,(vI (a1.length:Int))),(15,(vI 0))]⟩:Env)) (O':=(Zv O n [some ⟨false,30,11,1,(Zf a0)⟩,some ⟨false,30,11,1,[(vI 0),(vI 0),nV,nV,(vI 0),nV,nV,nV,nV,(vI 0),nV]⟩,some (oR 54 2 Zu ([]:List Zy))])) (n':=(n+3)) (Fit2.of (Ys hU rfl rfl ?_) (by omega)) ?_
  ·exact zSe
  refine Kh (k:=3) (k':=4) hU [0,1,2] [0,1,2,0] rfl rfl rfl rfl ⟨rfl,rfl⟩ ?_
  exact zSe
 obtain ⟨z8,hz8,h⟩:=bC h
 refine Ux (J:=(Xl (fun z8=>JR n (⟨39,[],[(4,.ref (n+1) 0),(5,nV),(6,(vB false))]⟩:Env) (Zv O n [none,some ⟨false,30,11,1,[(vI 0),(vI 0),nV,nV,(vI 0),nV,nV,nV,nV,(vI 0),nV]⟩]) (n+2)) (fun z8=>JX 0 n (⟨39,[],[(2,.ref n 0),(4,.ref (n+1) 0),(7,.row (n+2) z8.2.2.2.2.2.2.2.2.2.2.2.length)]⟩:Env) (Zv O n [some ⟨false,30,11,1,[(vI z8.1),(vI z8.2.1),(sL (eI .u64) z8.2.2.1),(sL Za z8.2.2.2.1),(vI z8.2.2.2.2.1),(sL (eI .u64) z8.2.2.2.2.2.1),(sL Za z8.2.2.2.2.2.2.1),(sL Zm z8.2.2.2.2.2.2.2.1),(sL Zi z8.2.2.2.2.2.2.2.2.1),(vI z8.2.2.2.2.2.2.2.2.2.1),(sL Ze z8.2.2.2.2.2.2.2.2.2.2.1)]⟩,some ⟨false,30,11,1,[(vI 0),(vI 0),nV,nV,(vI 0),nV,nV,nV,nV,(vI 0),nV]⟩,some (oR 54 2 Zu z8.2.2.2.2.2.2.2.2.2.2.2),none]) (n+4)))) (z:=z8) ?_ fun hw => ?_
 ·refine Xe hz8 (fun s0_=>⟨39,[],[(2,.ref n 0),(4,.ref (n+1) 0),(7,.row (n+2) s0_.2.2.2.2.2.2.2.2.2.2.2.2.length),(13,(sL Zu a1)),(14,(vI (a1.length:Int))),(15,(vI s0_.1))]⟩) (fun s0_=>(Zv O n [some ⟨false,30,11,1,[(vI s0_.2.1),(vI s0_.2.2.1),(sL (eI .u64) s0_.2.2.2.1),(sL Za s0_.2.2.2.2.1),(vI s0_.2.2.2.2.2.1),(sL (eI .u64) s0_.2.2.2.2.2.2.1),(sL Za s0_.2.2.2.2.2.2.2.1),(sL Zm s0_.2.2.2.2.2.2.2.2.1),(sL Zi s0_.2.2.2.2.2.2.2.2.2.1),(vI s0_.2.2.2.2.2.2.2.2.2.2.1),(sL Ze s0_.2.2.2.2.2.2.2.2.2.2.2.1)]⟩,some ⟨false,30,11,1,[(vI 0),(vI 0),nV,nV,(vI 0),nV,nV,nV,nV,(vI 0),nV]⟩,some (oR 54 2 Zu s0_.2.2.2.2.2.2.2.2.2.2.2.2),none])) (Xl (fun z8=>JR n (⟨39,[],[(4,.ref (n+1) 0),(5,nV),(6,(vB false))]⟩:Env) (Zv O n [none,some ⟨false,30,11,1,[(vI 0),(vI 0),nV,nV,(vI 0),nV,nV,nV,nV,(vI 0),nV]⟩]) (n+2)) (fun z8=>JX 0 n (⟨39,[],[(2,.ref n 0),(4,.ref (n+1) 0),(7,.row (n+2) z8.2.2.2.2.2.2.2.2.2.2.2.length)]⟩:Env) (Zv O n [some ⟨false,30,11,1,[(vI z8.1),(vI z8.2.1),(sL (eI .u64) z8.2.2.1),(sL Za z8.2.2.2.1),(vI z8.2.2.2.2.1),(sL (eI .u64) z8.2.2.2.2.2.1),(sL Za z8.2.2.2.2.2.2.1),(sL Zm z8.2.2.2.2.2.2.2.1),(sL Zi z8.2.2.2.2.2.2.2.2.1),(vI z8.2.2.2.2.2.2.2.2.2.1),(sL Ze z8.2.2.2.2.2.2.2.2.2.2.1)]⟩,some ⟨false,30,11,1,[(vI 0),(vI 0),nV,nV,(vI 0),nV,nV,nV,nV,(vI 0),nV]⟩,some (oR 54 2 Zu z8.2.2.2.2.2.2.2.2.2.2.2),none]) (n+4))) ?_
  intro s0_ x0_ hs0_
  unfold Ua at hs0_
  try dsimp only
  refine zQ [2,4,7,13,14,15,16] ?_
  refine Zg ?_
  refine Zq (t:=(decide (s0_.1 < (a1.length:Int)))) rfl (fun c7 => ?_) (fun c7 => ?_)
  ·replace hs0_:=Zp c7 hs0_
   refine Q7 [2,4,7,13,14,15] [true,true,true,false] ?_
   refine Zg ?_
   refine Yg ?_
   refine Zg ?_
   obtain ⟨x2,hx2,ax2,bx2,cx2,hs0_⟩:=bE (f:=Zu) Zmw (fun _=>rfl) (by decide) hs0_
   refine Zao [] ax2 bx2 cx2 ?_
   refine zDs [2,4,7,9,13,14,15] [true,true,true,false,true] ?_
   obtain ⟨y4,hy4,hs0_⟩:=bC hs0_
   refine zCd (Zp7 hy4) [2,4,7,10,11,12,13,14,15] [true,true,true,false,false,true] ?_
   refine Zg ?_
   refine zQ [2,4,7,10,11,13,14,15,27] ?_
   refine Zq (t:=(!y4.2.2)) rfl (fun c6 => ?_) (fun c6 => ?_)
   ·replace hs0_:=Zp c6 hs0_
    refine Zg ?_
    refine zRd [4,5,6] [false,true,false,false,false,false] ?_
    refine zW ?_
    exact zEy hs0_
   replace hs0_:=Zo c6 hs0_
   refine Q7 [2,4,7,10,11,13,14,15] [true,true,true,false,false,true] ?_
   refine Zg ?_
   refine zRd [2,4,7,11,13,14,15] [true,true,true,false,false,false] ?_
   obtain ⟨l5,pl5,ql5,el5,hs0_⟩:=bA (k:=1) rfl hs0_
   refine Zdt [] pl5 ql5 el5 ?_
   refine Zea ⟨39,[],[(2,.ref n 0),(4,.ref (n+1) 0),(7,.row (n+2) l5.length),(13,(sL Zu a1)),(14,(vI (a1.length:Int))),(15,(vI s0_.1))]⟩ (Zv O n [some ⟨false,30,11,1,(Zf y4.1)⟩,some ⟨false,30,11,1,[(vI 0),(vI 0),nV,nV,(vI 0),nV,nV,nV,nV,(vI 0),nV]⟩,some (oR 54 2 Zu l5),none,none,none,none]) (Ys hU rfl rfl ?_) ?_
   ·exact Z2m pl5 ql5 el5
   refine zR ?_
   exact zEn hs0_
  replace hs0_:=Zo c7 hs0_
  exact zEx hs0_
 rcases z8 with z8 | z8
 ·dsimp only [Xl] at hw h
  refine Qy hw ?_
  try simp only [Y2,Z7,↓reduceIte,Nat.reduceEqDiff]
  exact Zhq [.agg [(vI 0),(vI 0),nV,nV,(vI 0),nV,nV,nV,nV,(vI 0),nV],nV,(vB false)]
 dsimp only [Xl] at hw h
 refine Yz hw ?_
 try simp only [Y2,Z7,↓reduceIte,Nat.reduceEqDiff]
 refine zDs [2,4,7] [true,true,true,false] ?_
 obtain ⟨y10,hy10,h⟩:=bC h
 refine zCd (Zme hy10) [4,5,6] [false,true,true,false] ?_
 exact Yn [.agg (Zf y10),.row (n+2) z8.2.2.2.2.2.2.2.2.2.2.2.length,(vB true)]
theorem Zd4  {r:Bool} {O:Objs} {n:Nat} (h:J4=some r):GTo Try.prog 20 [] O n ((vB r)) O n:=by
 unfold J4 at h
 refine zFn Try.call20 Try.func20 fun hU hN0 hN => ?_
 show W _ _ _ _ ⟨71,[],[]⟩ (Zv O n []) _
 refine zQ [] ?_
 refine Zg ?_
 refine zR ?_
 refine Zea ⟨71,[],[(1,.ref (n+2) 0)]⟩ (Zv O n [none,some (oR 25 3 Za ([(⟨0,([]:(List Int)),([]:(List Zb))⟩:Zb),(⟨1,([1]:List Int),([]:(List Zb))⟩:Zb),(⟨0,([]:(List Int)),([]:(List Zb))⟩:Zb)]:List Zb)),some ⟨false,25,3,1,[(vI 8),nV,.row (n+1) ([(⟨0,([]:(List Int)),([]:(List Zb))⟩:Zb),(⟨1,([1]:List Int),([]:(List Zb))⟩:Zb),(⟨0,([]:(List Int)),([]:(List Zb))⟩:Zb)]:List Zb).length]⟩]) (Ys hU rfl rfl ?_) ?_
 ·exact zSe
 refine Zea ⟨71,[],[(1,.ref (n+2) 0)]⟩ (Zv O n [none,none,some ⟨false,25,3,1,[(vI 8),nV,(sL Za ([(⟨0,([]:(List Int)),([]:(List Zb))⟩:Zb),(⟨1,([1]:List Int),([]:(List Zb))⟩:Zb),(⟨0,([]:(List Int)),([]:(List Zb))⟩:Zb)]:List Zb))]⟩]) (Ys hU rfl rfl ?_) ?_
 ·exact zSe
 refine Zg ?_
 obtain ⟨y2,hy2,h⟩:=bC h
 refine zR ?_
 refine GCalls.dropL (l':=[none,none,some ⟨false,25,3,1,[(vI 8),nV,(sL Za ([(⟨0,([]:(List Int)),([]:(List Zb))⟩:Zb),(⟨1,([1]:List Int),([]:(List Zb))⟩:Zb),(⟨0,([]:(List Int)),([]:(List Zb))⟩:Zb)]:List Zb))]⟩,none,none]) hU rfl ?_ ((Zxm hy2).then ?_)
 ·exact zSe
 refine zS ?_
 refine zDs [2,3] [false,false,false,false,false,true] ?_
 obtain ⟨y4,hy4,h⟩:=bC h
 refine zR ?_
 refine GCalls.dropL (l':=[none,none,none,none,none,some ⟨false,30,11,1,(Zf y2.1)⟩,none]) hU rfl ?_ ((Zlg hy4).then ?_)
 ·exact zSe
 refine zS ?_
 refine zD [2,3,4,5,6] [false,false,false,false,false,true,false,true] ?_
 obtain ⟨z9,hz9,h⟩:=bC h
 refine Y1 (E':=⟨71,[],[(0,(vB z9))]⟩) (O':=(Zv O n [none,none,none,none,none,none,none,none])) (n0:=(n+8)) ?_ ?_
 ·rcases Bool.eq_false_or_eq_true y2.2 with c18 | c18
  ·replace hz9:=Zp c18 hz9
   rcases Bool.eq_false_or_eq_true y4.2.2 with c19 | c19
   ·replace hz9:=Zp c19 hz9
    try rw [c19] at c18
    rcases Bool.eq_false_or_eq_true (y2.1.Kind == 3) with c20 | c20
    ·replace hz9:=Zp c20 hz9
     try rw [c20] at c18
     try rw [c20] at c19
     rcases Bool.eq_false_or_eq_true ((y2.1.Ops.length:Int) == 3) with c21 | c21
     ·replace hz9:=Zp c21 hz9
      try rw [c21] at c18
      try rw [c21] at c19
      try rw [c21] at c20
      obtain ⟨x14,hx14,ax14,bx14,cx14,hz9⟩:=bE (f:=Ze) Zfv (fun _=>rfl) (by decide) hz9
      have g15:=Zuh (f:=Ze) (sz:=14) Z4b (fun _=>rfl) (by decide) (by decide) hx14
      rcases Bool.eq_false_or_eq_true (x14.Kind == 3) with c22 | c22
      ·replace hz9:=Zp c22 hz9
       try rw [c22] at c18
       try rw [c22] at c19
       try rw [c22] at c20
       try rw [c22] at c21
       rcases Bool.eq_false_or_eq_true (y4.1.Kind == 2) with c23 | c23
       ·replace hz9:=Zp c23 hz9
        try rw [c23] at c18
        try rw [c23] at c19
        try rw [c23] at c20
        try rw [c23] at c21
        try rw [c23] at c22
        rcases Bool.eq_false_or_eq_true ((y4.2.1.length:Int) == 1) with c24 | c24
        ·replace hz9:=Zp c24 hz9
         try rw [c24] at c18
         try rw [c24] at c19
         try rw [c24] at c20
         try rw [c24] at c21
         try rw [c24] at c22
         try rw [c24] at c23
         obtain ⟨x16,hx16,ax16,bx16,cx16,hz9⟩:=bE (f:=Zu) Zmw (fun _=>rfl) (by decide) hz9
         have g17:=Zb9 (f:=Zu) (off:=1) (sz:=2) Z4b (fun _=>rfl) (by decide) (by decide) hx16
         refine Yx Z4 [none,none,none,none,none,none,none,none,some true,some true,some true,some true,some true,some true,none,none,none,none,none,none,some true,some true,some true,some true,some true] ?_
         simp only [push_cast,Nat.reduceAdd,Nat.reduceSub,Nat.reduceMul,Nat.reduceLeDiff,Nat.reduceLT,Nat.reduceEqDiff,↓reduceIte,reduceCtorEq,Int.reduceBEq,Int.reduceBNe,Nat.reduceBEq,Int.reduceLE,Int.reduceLT,Int.reduceEq,Int.reduceNe,Int.reduceNeg,Nat.reduceDiv,Nat.reduceMod,Nat.reducePow,Zk,c18,c19,c20,c21,ax14,bx14,cx14,g15,c22,c23,c24,ax16,bx16,cx16,g17,hN0,hN]
         refine zG ?_
         have hz9:=Option.some.inj hz9;subst hz9
         refine And.intro rfl (Fit2.of (Ys hU rfl rfl ?_) (by omega))
         simp only [push_cast,Nat.reduceAdd,Nat.reduceSub,Nat.reduceMul,Nat.reduceLeDiff,Nat.reduceLT,Nat.reduceEqDiff,↓reduceIte,reduceCtorEq,Int.reduceBEq,Int.reduceBNe,Nat.reduceBEq,Int.reduceLE,Int.reduceLT,Int.reduceEq,Int.reduceNe,Int.reduceNeg,Nat.reduceDiv,Nat.reduceMod,Nat.reducePow,Zk,c18,c19,c20,c21,ax14,bx14,cx14,g15,c22,c23,c24,ax16,bx16,cx16,g17,hN0,hN]
        replace hz9:=Zo c24 hz9
        try rw [c24] at c18
        try rw [c24] at c19
        try rw [c24] at c20
        try rw [c24] at c21
        try rw [c24] at c22
        try rw [c24] at c23
        refine Yx Z4 [none,none,none,none,none,none,none,none,some true,some true,some true,some true,some true,some true,none,none,none,none,none,none,some false,some false,some false,some false,some false] ?_
        refine Yi7 c18 c19 c20 c21 ax14 bx14 cx14 g15 c22 c23 c24 ?_
        refine zG ?_
        have hz9:=Option.some.inj hz9;subst hz9
        refine And.intro rfl (Fit2.of (Ys hU rfl rfl ?_) (by omega))
        exact Yhq c18 c19 c20 c21 ax14 bx14 cx14 g15 c22 c23 c24
       replace hz9:=Zo c23 hz9
       try rw [c23] at c18
       try rw [c23] at c19
       try rw [c23] at c20
       try rw [c23] at c21
       try rw [c23] at c22
       refine Yx Z4 [none,none,none,none,none,none,none,none,some true,some true,some true,some true,some true,some true,none,none,none,none,none,none,some false,some false,some false,some false,some false] ?_
       refine Yi6 c18 c19 c20 c21 ax14 bx14 cx14 g15 c22 c23 ?_
       refine zG ?_
       have hz9:=Option.some.inj hz9;subst hz9
       refine And.intro rfl (Fit2.of (Ys hU rfl rfl ?_) (by omega))
       exact Yhp c18 c19 c20 c21 ax14 bx14 cx14 g15 c22 c23
      replace hz9:=Zo c22 hz9
      try rw [c22] at c18
      try rw [c22] at c19
      try rw [c22] at c20
      try rw [c22] at c21
      refine Yx Z4 [none,none,none,none,none,none,none,none,some true,some true,some true,some true,some true,some true,none,none,none,none,none,none,some false,some false,some false,some false,some false] ?_
      refine zF9 c18 c19 c20 c21 ax14 bx14 cx14 g15 c22 ?_
      refine zG ?_
      have hz9:=Option.some.inj hz9;subst hz9
      refine And.intro rfl (Fit2.of (Ys hU rfl rfl ?_) (by omega))
      exact Z2l c18 c19 c20 c21 ax14 bx14 cx14 g15 c22
     replace hz9:=Zo c21 hz9
     try rw [c21] at c18
     try rw [c21] at c19
     try rw [c21] at c20
     refine Zm1 [none,none,none,none,none,none,none,none,some false,some false,some false,some false,some false,some false,some false,some false,some false,some false,some false,some false,some false,some false,some false,some false,some false] c18 c19 c20 c21 ?_
     refine zG ?_
     exact Zn3 hz9 c18 c19 c20 c21
    replace hz9:=Zo c20 hz9
    try rw [c20] at c18
    try rw [c20] at c19
    refine Zdt [none,none,none,none,none,none,none,none,some false,some false,some false,some false,some false,some false,some false,some false,some false,some false,some false,some false,some false,some false,some false,some false,some false] c18 c19 c20 ?_
    refine zG ?_
    exact Zf6 hz9 c18 c19 c20
   replace hz9:=Zo c19 hz9
   try rw [c19] at c18
   refine Ju [none,none,none,none,none,none,none,none,some false,some false,some false,some false,some false,some false,some false,some false,some false,some false,some false,some false,some false,some false,some false,some false,some false] c18 c19 ?_
   refine zG ?_
   exact Gl hz9 c18 c19
  replace hz9:=Zo c18 hz9
  refine Jl [none,none,none,none,none,none,none,none,some false,some false,some false,some false,some false,some false,some false,some false,some false,some false,some false,some false,some false,some false,some false,some false,some false] c18 ?_
  refine zG ?_
  exact Qx hz9 c18
 exact Yn [(vB z9)]
theorem Jh {a0:(List Int)} {a1:(List Int)} {r:Bool} {O:Objs} {n:Nat} (h:Xw a0 a1=some r):GTo Try.prog 98 [(sL (eI .u64) a0),(sL (eI .u64) a1)] O n ((vB r)) O n:=by
 unfold Xw at h
 refine zFn Try.call98 Try.func98 fun hU hN0 hN => ?_
 show W _ _ _ _ ⟨26,[],[(0,(sL (eI .u64) a0)),(1,(sL (eI .u64) a1))]⟩ (Zv O n []) _
 refine zQ [0,1] ?_
 refine Zg ?_
 refine zQ [0,1,10] ?_
 refine Zq (t:=((a0.length:Int) != (a1.length:Int))) rfl (fun c8 => ?_) (fun c8 => ?_)
 ·replace h:=Zp c8 h
  refine zQ [4] ?_
  exact Yn [(vB false)]
 replace h:=Zo c8 h
 refine Q7 [0,1] [] ?_
 refine Zg ?_
 refine zQd [0,1,12,13] [0,1,12,13] [] ?_
 obtain ⟨z7,hz7,h⟩:=bC h
 refine Ux (J:=(Xl (fun z7=>JR n (⟨26,[],[(4,(vB false))]⟩:Env) (Zv O n []) n) (fun z7=>JX 0 n (⟨26,[],[]⟩:Env) (Zv O n []) n))) (z:=z7) ?_ fun hw => ?_
 ·refine Xe hz7 (fun s0_=>⟨26,[],[(0,(sL (eI .u64) a0)),(1,(sL (eI .u64) a1)),(12,(vI (a0.length:Int))),(13,(vI s0_))]⟩) (fun s0_=>(Zv O n [])) (Xl (fun z7=>JR n (⟨26,[],[(4,(vB false))]⟩:Env) (Zv O n []) n) (fun z7=>JX 0 n (⟨26,[],[]⟩:Env) (Zv O n []) n)) ?_
  intro s0_ x0_ hs0_
  unfold X7 at hs0_
  try dsimp only
  refine zQ [0,1,12,13,14] ?_
  refine Zg ?_
  refine Zq (t:=(decide (s0_ < (a0.length:Int)))) rfl (fun c6 => ?_) (fun c6 => ?_)
  ·replace hs0_:=Zp c6 hs0_
   refine Q7 [0,1,12,13] [] ?_
   refine Zg ?_
   refine Yg ?_
   refine zQ [0,1,5,12,13] ?_
   obtain ⟨x3,hx3,ax3,bx3,cx3,hs0_⟩:=bE (f:=(eI .u64)) Zf5 (fun _=>rfl) (by decide) hs0_
   obtain ⟨x4,hx4,ax4,bx4,cx4,hs0_⟩:=bE (f:=(eI .u64)) Zf5 (fun _=>rfl) (by decide) hs0_
   refine Zni [0,1,12,13,24] (K7 Z4 (by kernel_rfl) [] (by kernel_rfl) ?_)
   refine zF6 ax3 bx3 cx3 ax4 bx4 cx4 ?_
   refine Zq (t:=(x3 != x4)) rfl (fun c5 => ?_) (fun c5 => ?_)
   ·replace hs0_:=Zp c5 hs0_
    refine zQ [4] ?_
    refine zW ?_
    exact zEy hs0_
   replace hs0_:=Zo c5 hs0_
   refine Q7 [0,1,12,13] [] ?_
   refine zR ?_
   exact zEn hs0_
  replace hs0_:=Zo c6 hs0_
  exact zEx hs0_
 rcases z7 with z7 | z7
 ·dsimp only [Xl] at hw h
  refine Qy hw ?_
  try simp only [Y2,Z7,↓reduceIte,Nat.reduceEqDiff]
  exact Zhq [(vB false)]
 dsimp only [Xl] at hw h
 refine Yz hw ?_
 try simp only [Y2,Z7,↓reduceIte,Nat.reduceEqDiff]
 refine zD [] [] ?_
 refine zQ [4] ?_
 exact Yn [(vB true)]
def Zhl (Jz:(Zb→Zb→Option Bool)):Prop:=∀ {a0:Zb} {a1:Zb} {r:Bool} {O:Objs} {n:Nat},Jz a0 a1=some r→GTo Try.prog 70 [.agg (Zd a0),.agg (Zd a1)] O n ((vB r)) O n
def Xc (Zt:((List Zb)→(List Zb)→Option Bool)):Prop:=∀ {a0:(List Zb)} {a1:(List Zb)} {r:Bool} {O:Objs} {n:Nat},Zt a0 a1=some r→GTo Try.prog 99 [(sL Za a0),(sL Za a1),.fn 70 0 []] O n ((vB r)) O n
theorem Zvd {Jz:(Zb→Zb→Option Bool)} {Zt:((List Zb)→(List Zb)→Option Bool)} (Zli:Zhl Jz) (Xd:Xc Zt) {a0:Zb} {a1:Zb} {r:Bool} {O:Objs} {n:Nat} (h:Ze7 Jz Zt a0 a1=some r):GTo Try.prog 70 [.agg (Zd a0),.agg (Zd a1)] O n ((vB r)) O n:=by
 unfold Ze7 at h
 refine zFn Try.call70 Try.func70 fun hU hN0 hN => ?_
 show W _ _ _ _ ⟨44,[],[(0,.agg (Zd a0)),(1,.agg (Zd a1))]⟩ (Zv O n []) _
 refine zQ [2,3] ?_
 refine Zg ?_
 refine zQ [2,3,9] ?_
 refine Zq (t:=(a0.Kind != a1.Kind)) rfl (fun c31 => ?_) (fun c31 => ?_)
 ·replace h:=Zp c31 h
  refine zQ [4] ?_
  exact Yn [(vB false)]
 replace h:=Zo c31 h
 refine Q7 [2,3] [true,true] ?_
 refine Zg ?_
 refine zQ [2,3,11] ?_
 refine Yg ?_
 refine zQ [2,3,11,12] ?_
 refine Zq (t:=(a0.Kind == 0)) rfl (fun c30 => ?_) (fun c30 => ?_)
 ·replace h:=Zp c30 h
  refine zQ [4] ?_
  exact Yn [(vB true)]
 replace h:=Zo c30 h
 refine zQ [2,3,14] ?_
 refine Zq (t:=(a0.Kind == 1)) rfl (fun c29 => ?_) (fun c29 => ?_)
 ·replace h:=Zp c29 h
  obtain ⟨z7,hz7,h⟩:=bC h
  refine Y1 (E':=⟨44,[],[(4,(vB z7))]⟩) (O':=(Zv O n [none,none])) (n0:=(n+2)) ?_ ?_
  ·obtain ⟨y14,hy14,hz7⟩:=bC hz7
   obtain ⟨y15,hy15,hz7⟩:=bC hz7
   obtain ⟨y16,hy16,hz7⟩:=bC hz7
   rcases Bool.eq_false_or_eq_true y16 with c20 | c20
   ·replace hz7:=Zp c20 hz7
    obtain ⟨y17,hy17,hz7⟩:=bC hz7
    obtain ⟨y18,hy18,hz7⟩:=bC hz7
    obtain ⟨y19,hy19,hz7⟩:=bC hz7
    refine K7 Z4 (by kernel_rfl) [some true,some true,some true,some true,some true,some true,some true] (by kernel_rfl) ?_
    refine zX1 c20 ?_
    refine PCall.of (Zae hy14) ?_
    refine zX1 c20 ?_
    refine PCall.of (Zae hy15) ?_
    refine zX1 c20 ?_
    refine PCall.of (Jh hy16) ?_
    refine zX1 c20 ?_
    refine PCall.of (Zgg hy17) ?_
    refine zX1 c20 ?_
    refine PCall.of (Zgg hy18) ?_
    refine zX1 c20 ?_
    refine PCall.of (Xd hy19) ?_
    refine zX1 c20 ?_
    exact Qx hz7 c20
   replace hz7:=Zo c20 hz7
   refine K7 Z4 (by kernel_rfl) [some false,some false,some false,some false,some false,some false,some false] (by kernel_rfl) ?_
   refine zX1 c20 ?_
   refine PCall.of (Zae hy14) ?_
   refine zX1 c20 ?_
   refine PCall.of (Zae hy15) ?_
   refine zX1 c20 ?_
   refine PCall.of (Jh hy16) ?_
   refine zX1 c20 ?_
   exact Qx hz7 c20
  exact Yn [(vB z7)]
 replace h:=Zo c29 h
 refine Q7 [2,3] [true,true] ?_
 obtain ⟨z23,hz23,h⟩:=bC h
 refine Y1 (E':=⟨44,[],[(4,(vB z23))]⟩) (O':=(Zv O n [none,none])) (n0:=(n+2)) ?_ ?_
 ·obtain ⟨y26,hy26,hz23⟩:=bC hz23
  rcases Bool.eq_false_or_eq_true y26 with c28 | c28
  ·replace hz23:=Zp c28 hz23
   obtain ⟨y27,hy27,hz23⟩:=bC hz23
   refine Jl [some true,some true,some true,some true,some true] c28 ?_
   refine (Jh hy26).then ?_
   refine zX1 c28 ?_
   refine (Xd hy27).then ?_
   refine zX1 c28 ?_
   exact Qx hz23 c28
  replace hz23:=Zo c28 hz23
  refine Jl [some false,some false,some false,some false,some false] c28 ?_
  refine (Jh hy26).then ?_
  refine zX1 c28 ?_
  exact Qx hz23 c28
 exact Yn [(vB z23)]
theorem K6 {Jz:(Zb→Zb→Option Bool)} {Zt:((List Zb)→(List Zb)→Option Bool)} (Zli:Zhl Jz) (Xd:Xc Zt) {a0:(List Zb)} {a1:(List Zb)} {r:Bool} {O:Objs} {n:Nat} (h:Ye Jz Zt a0 a1=some r):GTo Try.prog 99 [(sL Za a0),(sL Za a1),.fn 70 0 []] O n ((vB r)) O n:=by
 unfold Ye at h
 refine zFn Try.call99 Try.func99 fun hU hN0 hN => ?_
 show W _ _ _ _ ⟨32,[],[(0,(sL Za a0)),(1,(sL Za a1)),(2,.fn 70 0 [])]⟩ (Zv O n []) _
 refine zQ [0,1,2] ?_
 refine Zg ?_
 refine zQ [0,1,2,14] ?_
 refine Zq (t:=((a0.length:Int) != (a1.length:Int))) rfl (fun c10 => ?_) (fun c10 => ?_)
 ·replace h:=Zp c10 h
  refine zQ [6] ?_
  exact Yn [(vB false)]
 replace h:=Zo c10 h
 refine Q7 [0,1,2] [] ?_
 refine Zg ?_
 refine zQd [1,2,15,16,17] [1,2,15,16,17] [] ?_
 obtain ⟨z9,hz9,h⟩:=bC h
 refine Ux (J:=(Xl (fun z9=>JR n (⟨32,[],[(6,(vB false))]⟩:Env) (Zv O n []) n) (fun z9=>JX 0 n (⟨32,[],[]⟩:Env) (Zv O n []) n))) (z:=z9) ?_ fun hw => ?_
 ·refine Xe hz9 (fun s0_=>⟨32,[],[(1,(sL Za a1)),(2,.fn 70 0 []),(15,(sL Za a0)),(16,(vI (a0.length:Int))),(17,(vI s0_))]⟩) (fun s0_=>(Zv O n [])) (Xl (fun z9=>JR n (⟨32,[],[(6,(vB false))]⟩:Env) (Zv O n []) n) (fun z9=>JX 0 n (⟨32,[],[]⟩:Env) (Zv O n []) n)) ?_
  intro s0_ x0_ hs0_
  unfold Z8 at hs0_
  try dsimp only
  refine zQ [1,2,15,16,17,18] ?_
  refine Zg ?_
  refine Zq (t:=(decide (s0_ < (a0.length:Int)))) rfl (fun c8 => ?_) (fun c8 => ?_)
  ·replace hs0_:=Zp c8 hs0_
   refine Q7 [1,2,15,16,17] [] ?_
   refine Zg ?_
   refine Yg ?_
   refine Zg ?_
   obtain ⟨x2,hx2,ax2,bx2,cx2,hs0_⟩:=bE (f:=Za) V5 (fun _=>rfl) (by decide) hs0_
   refine Zao [] ax2 bx2 cx2 ?_
   refine zDs [1,2,7,8,15,16,17] [true] ?_
   obtain ⟨x4,hx4,ax4,bx4,cx4,hs0_⟩:=bE (f:=Za) V5 (fun _=>rfl) (by decide) hs0_
   refine Zao [] ax4 bx4 cx4 ?_
   refine zDs [1,2,8,9,15,16,17] [true,true] ?_
   obtain ⟨y6,hy6,hs0_⟩:=bC hs0_
   refine zCd (Zli hy6) [1,2,15,16,17,30] [false,false] ?_
   refine Zq (t:=(!y6)) rfl (fun c7 => ?_) (fun c7 => ?_)
   ·replace hs0_:=Zp c7 hs0_
    refine zQ [6] ?_
    refine zW ?_
    exact zEy hs0_
   replace hs0_:=Zo c7 hs0_
   refine Q7 [1,2,15,16,17] [false,false] ?_
   refine zR ?_
   exact zEn hs0_
  replace hs0_:=Zo c8 hs0_
  exact zEx hs0_
 rcases z9 with z9 | z9
 ·dsimp only [Xl] at hw h
  refine Qy hw ?_
  try simp only [Y2,Z7,↓reduceIte,Nat.reduceEqDiff]
  exact Zhq [(vB false)]
 dsimp only [Xl] at hw h
 refine Yz hw ?_
 try simp only [Y2,Z7,↓reduceIte,Nat.reduceEqDiff]
 refine zD [] [] ?_
 refine zQ [6] ?_
 exact Yn [(vB true)]
theorem Zke:∀ k,(Zhl ((Xu k).1))∧(Xc ((Xu k).2)):=fun k=>by
 induction k with
 | zero=>exact ⟨@fun a0 a1 r O n h=>(nomatch (show (none:Option _)=some _ from h)),@fun a0 a1 r O n h=>(nomatch (show (none:Option _)=some _ from h))⟩
 | succ k ih=>exact ⟨@fun a0 a1 r O n h=>Zvd (ih.1) (ih.2)  h,@fun a0 a1 r O n h=>K6 (ih.1) (ih.2)  h⟩
theorem Zxn {a0:Zb} {a1:Zb} {r:Bool} {O:Objs} {n:Nat} (h:Zky a0 a1=some r):GTo Try.prog 70 [.agg (Zd a0),.agg (Zd a1)] O n ((vB r)) O n:=by
 obtain ⟨k,hk⟩:=Un h
 exact (Zke k).1  hk
theorem Vd {a0:(List Zb)} {a1:(List Zb)} {r:Bool} {O:Objs} {n:Nat} (h:Xi a0 a1=some r):GTo Try.prog 99 [(sL Za a0),(sL Za a1),.fn 70 0 []] O n ((vB r)) O n:=by
 obtain ⟨k,hk⟩:=Un h
 exact (Zke k).2  hk
theorem Za7 {a0 r:List Int} {O:Objs} {n:Nat} (h:Ug a0=some r):GTo Try.prog 100 [(sL (eI .u64) a0)] O n (.row n r.length) (Zv O n [some (oR 73 1 (eI .u64) r)]) (n+1):=by
 have h1:=Ztw h
 have h2:=Ztx h
 have h3:=Zpp h
 rw [List.nil_append] at h3
 subst h3
 simp only [List.length_nil,Nat.zero_add] at h1 h2
 clear h
 refine zFn Try.call100 Try.func100 fun hU hN0 hN => ?_
 show W _ _ _ _ ⟨8,[],[(0,(sL (eI .u64) r))]⟩ (Zv O n []) _
 refine zQ [0] ?_
 refine Z4k 0 r.length (fl (eI .u64) r) rfl (Nat.le_of_ble_eq_true rfl) (Yf Kc _) fun A c hA => ?_
 refine zQ [0,4] ?_
 cases A with
 | none =>
  obtain rfl:r=[]:=List.eq_nil_of_length_eq_zero (hA rfl)
  refine Zq (t:=true) rfl (fun _ => ?_) (fun hc=>by cases hc)
  refine zQ [2] ?_
  refine zW ?_
  refine Zl0 (k:=1) (L3:=[some ⟨true,73,1,0,[]⟩]) (E2:=⟨8,[],[(2,.row n 0),(2,nV)]⟩) (n3:=(n+1)) (.inr rfl) hU rfl [.row n 0] ?_ ?_
  ·have ha:=Zjz (ba:=n) (E:=⟨8,[],[(2,.val (.slice none 0 0))]⟩) (O:=(Zv O n [])) (n:=n) 2 73 1 rfl (by omega)
   simp only [Y3] at ha
   exact ha
  simp only [push_cast,seval,↓reduceIte,Zk,Try.results100,hN0,hN]
 | some A =>
  refine Zq (t:=false) rfl (fun hc=>by cases hc) (fun _ => ?_)
  refine zK ?_
  refine And.intro rfl (And.intro (Nat.le_of_ble_eq_true rfl) ?_)
  refine Zg ?_
  refine Yx Z4 [] ?_
  simp only [push_cast,seval,↓reduceIte,Zk,h1,h2,hN0,hN]
  refine zW ?_
  refine Zt8 (.inr rfl) hU rfl [.row n r.length] (by omega) ?_
  simp only [push_cast,seval,↓reduceIte,Zk,Try.results100,hN0,hN]
theorem Kj {a0 r:List Zb} {O:Objs} {n:Nat} (h:Kv a0=some r):GTo Try.prog 101 [(sL Za a0)] O n (.row n r.length) (Zv O n [some (oR 25 3 Za r)]) (n+1):=by
 have h1:=Ztw h
 have h2:=Ztx h
 have h3:=Zpp h
 rw [List.nil_append] at h3
 subst h3
 simp only [List.length_nil,Nat.zero_add] at h1 h2
 clear h
 refine zFn Try.call101 Try.func101 fun hU hN0 hN => ?_
 show W _ _ _ _ ⟨8,[],[(0,(sL Za r))]⟩ (Zv O n []) _
 refine zQ [0] ?_
 refine Z4k 0 r.length (fl Za r) rfl (Nat.le_of_ble_eq_true rfl) (Yf Xf _) fun A c hA => ?_
 refine zQ [0,4] ?_
 cases A with
 | none =>
  obtain rfl:r=[]:=List.eq_nil_of_length_eq_zero (hA rfl)
  refine Zq (t:=true) rfl (fun _ => ?_) (fun hc=>by cases hc)
  refine zQ [2] ?_
  refine zW ?_
  refine Zl0 (k:=1) (L3:=[some ⟨true,25,3,0,[]⟩]) (E2:=⟨8,[],[(2,.row n 0),(2,nV)]⟩) (n3:=(n+1)) (.inr rfl) hU rfl [.row n 0] ?_ ?_
  ·have ha:=Zjz (ba:=n) (E:=⟨8,[],[(2,.val (.slice none 0 0))]⟩) (O:=(Zv O n [])) (n:=n) 2 25 3 rfl (by omega)
   simp only [Y3] at ha
   exact ha
  simp only [push_cast,seval,↓reduceIte,Zk,Try.results101,hN0,hN]
 | some A =>
  refine Zq (t:=false) rfl (fun hc=>by cases hc) (fun _ => ?_)
  refine zK ?_
  refine And.intro rfl (And.intro (Nat.le_of_ble_eq_true rfl) ?_)
  refine Zg ?_
  refine Yx Z4 [] ?_
  simp only [push_cast,seval,↓reduceIte,Zk,h1,h2,hN0,hN]
  refine zW ?_
  refine Zt8 (.inr rfl) hU rfl [.row n r.length] (by omega) ?_
  simp only [push_cast,seval,↓reduceIte,Zk,Try.results101,hN0,hN]
theorem Z0k {a0:Zb} {a1:Int} {r:Int} {O:Objs} {n:Nat} (h:Zg9 a0 a1=some r):GTo Try.prog 102 [.agg (Zd a0),(vI a1)] O n (.val (.int .u64 r)) O n:=by
 unfold Zg9 at h
 refine zFn Try.call102 Try.func102 fun hU hN0 hN => ?_
 show W _ _ _ _ ⟨19,[],[(0,.agg (Zd a0)),(1,(vI a1))]⟩ (Zv O n []) _
 refine zQ [1,2] ?_
 refine Zg ?_
 refine zQD [1,2,13] [none,none,none,none,none] ?_
 refine Zq (t:=(cond (decide (a1 < 0)) true (decide ((a0.Words.length:Int)≤a1)))) rfl (fun c3 => ?_) (fun c3 => ?_)
 ·replace h:=Zp c3 h
  refine zQ [4] ?_
  exact Yn [.val (.int .u64 0)]
 replace h:=Zo c3 h
 refine Q7 [1,2] [true] ?_
 obtain ⟨x2,hx2,ax2,bx2,cx2,h⟩:=bE (f:=(eI .u64)) Zf5 (fun _=>rfl) (by decide) h
 refine Zni [4] (Yx Z4 [] ?_)
 refine zF3 ax2 bx2 cx2 ?_
 exact Yn [.val (.int .u64 x2)]
theorem Zgf {a0:Int} {r:Bool} {O:Objs} {n:Nat} (h:Gm a0=some r):GTo Try.prog 103 [(vI a0)] O n ((vB r)) O n:=by
 unfold Gm at h
 refine zFn Try.call103 Try.func103 fun hU hN0 hN => ?_
 show W _ _ _ _ ⟨9,[],[(0,(vI a0))]⟩ (Zv O n []) _
 refine zQ [0] ?_
 refine zQD [2] [none,none] ?_
 exact Yn [(vB (cond (decide (a0 < 0)) true (decide (65534 < a0))))]
theorem Z3r {a0:Int} {a1:Int} {a2:Int} {r:Int} {O:Objs} {n:Nat} (h:Zgd a0 a1 a2=some r):GTo Try.prog 106 [.val (.int .u64 a0),.val (.int .u64 a1),.val (.int .u8 a2)] O n (.val (.int .u64 r)) O n:=by
 unfold Zgd at h
 refine zFn Try.call106 Try.func106 fun hU hN0 hN => ?_
 show W _ _ _ _ ⟨17,[],[(0,.val (.int .u64 a0)),(1,.val (.int .u64 a1)),(2,.val (.int .u8 a2))]⟩ (Zv O n []) _
 refine zQ [0,1,2] ?_
 refine Zg ?_
 obtain ⟨y2,hy2,h⟩:=bC h
 refine zCd (Zk1 hy2) [0,1,7] [] ?_
 refine zQ [6] ?_
 exact Yn [.val (.int .u64 (IntKind.u64.wrap (Zu2 .u64 (IntKind.u64.wrap (Zx7 .u64 a0 y2)) (IntKind.u64.wrap (Zez .u64 a1 y2)))))]
theorem Zrm {a0:Zb} {a1:Int} {a2:Int} {r:Zb} {O:Objs} {n:Nat} {i0 j0_0 j0_1:Nat} (hi0:i0 < n) (Ut:j0_0 < n) (Zg4:j0_1 < n) (Jr:i0≠j0_0) (U8:i0≠j0_1) (U7:j0_0≠j0_1) (ho0:O i0=some ⟨false,25,3,1,[(vI a0.Kind),.row j0_1 a0.Words.length,.row j0_0 a0.Kids.length]⟩) (U9:O j0_0=some (oR 25 3 Za a0.Kids)) (Zia:O j0_1=some (oR 73 1 (eI .u64) a0.Words)) (h:Zby a0 a1 a2=some r):GTo Try.prog 105 [.ref i0 0,(vI a1),.val (.int .u64 a2)] O n (.tup []) (Zv (((O.upd j0_0 none).upd j0_1 none).upd i0 (some ⟨false,25,3,1,[(vI r.Kind),.row (n+1) r.Words.length,.row n r.Kids.length]⟩)) n [some (oR 25 3 Za r.Kids),some (oR 73 1 (eI .u64) r.Words)]) (n+2):=by
 unfold Zby at h
 refine Zl1 Z4 Try.call105 Try.func105 rfl (Nat.le_of_ble_eq_true rfl) (by omega) fun hU => ?_
 have e0:=Kf (ba:=n) (E:=⟨40,[],Zfd 0 [.ref i0 0,.val (.int .i64 a1),.val (.int .u64 a2)]⟩) (O:=(Zv O n [])) (n:=n) (i:=i0) (j:=j0_0) (k:=2) (len:=a0.Kids.length) (q:=⟨false,25,3,1,[.val (.int .i64 a0.Kind),.row j0_1 a0.Words.length,.row j0_0 a0.Kids.length]⟩) (qj:=⟨true,25,3,a0.Kids.length,fl Za a0.Kids⟩) (by rw [Yr _ hi0];first | exact ho0 | exact Yj _ _ _) rfl (by rw [Yr _ Ut];exact U9) Jr (by omega)
 simp only [Yy _ _ Ut,Yy _ _ hi0,Xk,Y3,Qn,Za4 Jr,List.set_cons_zero,List.set_cons_succ,List.cons_append,List.nil_append,List.length_cons,List.length_nil,Nat.zero_add,Nat.reduceAdd,Nat.add_assoc] at e0
 refine Kq e0 ?_
 have e1:=Kf (ba:=n) (E:=⟨40,[],Zfd 0 [.ref i0 0,.val (.int .i64 a1),.val (.int .u64 a2)]⟩) (O:=(Zv ((O.upd j0_0 none).upd i0 (some ⟨false,25,3,1,[.val (.int .i64 a0.Kind),.row j0_1 a0.Words.length,.row n a0.Kids.length]⟩)) n [some ⟨true,25,3,a0.Kids.length,fl Za a0.Kids⟩])) (n:=(n+1)) (i:=i0) (j:=j0_1) (k:=1) (len:=a0.Words.length) (q:=⟨false,25,3,1,[.val (.int .i64 a0.Kind),.row j0_1 a0.Words.length,.row n a0.Kids.length]⟩) (qj:=⟨true,73,1,a0.Words.length,fl (eI .u64) a0.Words⟩) (by rw [Yr _ hi0];first | exact ho0 | exact Yj _ _ _) rfl (by rw [Yr _ Zg4,Xa _ _ (Ne.symm U8),Xa _ _ (Ne.symm U7)];exact Zia) U8 (by omega)
 simp only [Yy _ _ Zg4,Yy _ _ hi0,Xk,Y3,Qn,Za4 U8,List.set_cons_zero,List.set_cons_succ,List.cons_append,List.nil_append,List.length_cons,List.length_nil,Nat.zero_add,Nat.reduceAdd,Nat.add_assoc] at e1
 refine Kq e1 ?_
 have hU:=(Und.drop (Und.drop hU j0_0) j0_1)
 have hk0:∀ k,i0 < n+k:=fun k=>by omega
 have hN0:∀ o,Objs.upd ((O.upd j0_0 none).upd j0_1 none) i0 o n=none:=fun o=>Jq hU hi0 _ (Nat.le_refl _)
 have hN:∀ o k,Objs.upd ((O.upd j0_0 none).upd j0_1 none) i0 o (n+k)=none:=fun o k=>Jq hU hi0 _ (Nat.le_add_right _ _)
 show W _ _ _ _ ⟨40,[],[(0,.ref i0 0),(1,(vI a1)),(2,.val (.int .u64 a2))]⟩ (Zv (((O.upd j0_0 none).upd j0_1 none).upd i0 (some ⟨false,25,3,1,[(vI a0.Kind),.row (n+1) a0.Words.length,.row n a0.Kids.length]⟩)) n [some (oR 25 3 Za a0.Kids),some (oR 73 1 (eI .u64) a0.Words)]) _
 refine Zg ?_
 refine zD [0,1,2] [true,true] ?_
 obtain ⟨z3,hz3,h⟩:=bC h
 refine Yz (E':=⟨40,[],[(0,.ref i0 0),(1,(vI a1)),(2,.val (.int .u64 a2))]⟩) (O':=(Zv (((O.upd j0_0 none).upd j0_1 none).upd i0 (some ⟨false,25,3,1,[(vI a0.Kind),.row (n+1) z3.length,.row n a0.Kids.length]⟩)) n [some (oR 25 3 Za a0.Kids),some (oR 73 1 (eI .u64) z3)])) (n0:=(n+2)) ?_ ?_
 ·refine Xe hz3 (fun s0_=>⟨40,[],[(0,.ref i0 0),(1,(vI a1)),(2,.val (.int .u64 a2))]⟩) (fun s0_=>(Zv (((O.upd j0_0 none).upd j0_1 none).upd i0 (some ⟨false,25,3,1,[(vI a0.Kind),.row (n+1) s0_.length,.row n a0.Kids.length]⟩)) n [some (oR 25 3 Za a0.Kids),some (oR 73 1 (eI .u64) s0_)])) (fun z3=>JX 0 n (⟨40,[],[(0,.ref i0 0),(1,(vI a1)),(2,.val (.int .u64 a2))]⟩:Env) (Zv (((O.upd j0_0 none).upd j0_1 none).upd i0 (some ⟨false,25,3,1,[(vI a0.Kind),.row (n+1) z3.length,.row n a0.Kids.length]⟩)) n [some (oR 25 3 Za a0.Kids),some (oR 73 1 (eI .u64) z3)]) (n+2)) ?_
  intro s0_ x0_ hs0_
  unfold Gb at hs0_
  try dsimp only
  refine Zg ?_
  refine Zni [0,1,2,16] (Yx Z4 [none,none] ?_)
  refine zX2 hi0 hk0 ?_
  refine zG ?_
  refine Zq (t:=(cond (decide ((s0_.length:Int)≤a1)) (a2 != 0) false)) rfl (fun c2 => ?_) (fun c2 => ?_)
  ·replace hs0_:=Zp c2 hs0_
   refine Q7 [0,1,2] [true,true] ?_
   refine Yg ?_
   obtain ⟨l1,pl1,ql1,el1,hs0_⟩:=bA (k:=1) rfl hs0_
   refine Zys [] pl1 ql1 el1 hi0 hk0 ?_
   have hs0_:=Option.some.inj hs0_;subst hs0_
   refine And.intro rfl (Fit2.of (Yp hU rfl rfl ?_) (by omega))
   exact Yhx pl1 ql1 el1 hi0 hk0
  replace hs0_:=Zo c2 hs0_
  refine zXt ?_
  have hs0_:=Option.some.inj hs0_;subst hs0_
  refine And.intro (fun h=>by cases h) (And.intro rfl (Fit2.of (Yp hU rfl rfl ?_) (by omega)))
  exact Q9 hi0 hk0
 try simp only [Y2,Z7,↓reduceIte,Nat.reduceEqDiff]
 refine zD [0,1,2] [true,true] ?_
 refine Zex [0,1,2,32] hi0 hk0 ?_
 refine Zq (t:=(decide (a1 < (z3.length:Int)))) rfl (fun c6 => ?_) (fun c6 => ?_)
 ·replace h:=Zp c6 h
  obtain ⟨x4,hx4,ax4,bx4,cx4,h⟩:=bE (f:=(eI .u64)) Zf5 (fun _=>rfl) (by decide) h
  have gu5:Kt (fl (eI .u64) z3) [.val (.int .u64 a2)] (Int.toNat a1 * 1)=some (fl (eI .u64) (Zgm z3 a1 a2)):=Zj9 (f:=(eI .u64)) (ti:=⟨.bool,1,0,[],false⟩) (x:=a2) (fun _=>rfl) (Zfe hx4)
  refine Yhu [] ax4 bx4 cx4 gu5 hi0 hk0 ?_
  have h:=Option.some.inj h;subst h
  refine Ks (k:=2) (i:=i0) (q1:=⟨false,25,3,1,[(vI a0.Kind),.row (n+1) (Zgm z3 a1 a2).length,.row n a0.Kids.length]⟩) (L3:=[some (oR 25 3 Za a0.Kids),some (oR 73 1 (eI .u64) (Zgm z3 a1 a2)),none]) (E2:=(⟨40,[],[]⟩:Env)) (n3:=(n+3)) (.inl rfl) hU rfl [] ?_ ?_
  ·refine Fit2.trans (E':=(⟨40,[],[]⟩:Env)) (O':=(Zv (((O.upd j0_0 none).upd j0_1 none).upd i0 (some ⟨false,25,3,1,[(vI a0.Kind),.row (n+1) (Zgm z3 a1 a2).length,.row n a0.Kids.length]⟩)) n [some (oR 25 3 Za a0.Kids),some (oR 73 1 (eI .u64) (Zgm z3 a1 a2))])) (n':=(n+2)) (Fit2.of (Yp hU rfl rfl ?_) (by omega)) ?_
   ·exact Yhs ax4 bx4 cx4 gu5 hi0 hk0
   refine Qm (k:=2) (k':=3) hU [0,1] [0,1,0] rfl rfl rfl rfl ⟨rfl,rfl⟩ ?_
   exact Q9 hi0 hk0
  simp only [push_cast,seval,↓reduceIte,Zk,Try.results105,hi0,hk0,hN0,hN]
 replace h:=Zo c6 h
 refine zK ?_
 have h:=Option.some.inj h;subst h
 refine Ks (k:=2) (i:=i0) (q1:=⟨false,25,3,1,[(vI a0.Kind),.row (n+1) z3.length,.row n a0.Kids.length]⟩) (L3:=[some (oR 25 3 Za a0.Kids),some (oR 73 1 (eI .u64) z3),none]) (E2:=(⟨40,[],[]⟩:Env)) (n3:=(n+3)) (.inl rfl) hU rfl [] ?_ ?_
 ·refine Fit2.trans (E':=(⟨40,[],[]⟩:Env)) (O':=(Zv (((O.upd j0_0 none).upd j0_1 none).upd i0 (some ⟨false,25,3,1,[(vI a0.Kind),.row (n+1) z3.length,.row n a0.Kids.length]⟩)) n [some (oR 25 3 Za a0.Kids),some (oR 73 1 (eI .u64) z3)])) (n':=(n+2)) (Fit2.of (Yp hU rfl rfl ?_) (by omega)) ?_
  ·exact Q9 hi0 hk0
  refine Qm (k:=2) (k':=3) hU [0,1] [0,1,0] rfl rfl rfl rfl ⟨rfl,rfl⟩ ?_
  exact Q9 hi0 hk0
 simp only [push_cast,seval,↓reduceIte,Zk,Try.results105,hi0,hk0,hN0,hN]
theorem Zsw {a0:Zb} {a1:Int} {a2:Zb} {r:Zb} {O:Objs} {n:Nat} {i0 j0_0:Nat} (hi0:i0 < n) (Ut:j0_0 < n) (Jr:i0≠j0_0) (ho0:O i0=some ⟨false,25,3,1,[(vI a0.Kind),(sL (eI .u64) a0.Words),.row j0_0 a0.Kids.length]⟩) (U9:O j0_0=some (oR 25 3 Za a0.Kids)) (h:Zc4 a0 a1 a2=some r):GTo Try.prog 107 [.ref i0 0,(vI a1),.agg (Zd a2)] O n (.tup []) (Zv ((O.upd j0_0 none).upd i0 (some ⟨false,25,3,1,[(vI r.Kind),(sL (eI .u64) r.Words),.row n r.Kids.length]⟩)) n [some (oR 25 3 Za r.Kids)]) (n+1):=by
 unfold Zc4 at h
 refine Zl1 Z4 Try.call107 Try.func107 rfl (Nat.le_of_ble_eq_true rfl) (by omega) fun hU => ?_
 have e0:=Kf (ba:=n) (E:=⟨43,[],Zfd 0 [.ref i0 0,.val (.int .i64 a1),.agg [.val (.int .i64 a2.Kind),.sl a2.Words.length (fl (eI .u64) a2.Words),.sl a2.Kids.length (fl Za a2.Kids)]]⟩) (O:=(Zv O n [])) (n:=n) (i:=i0) (j:=j0_0) (k:=2) (len:=a0.Kids.length) (q:=⟨false,25,3,1,[.val (.int .i64 a0.Kind),.sl a0.Words.length (fl (eI .u64) a0.Words),.row j0_0 a0.Kids.length]⟩) (qj:=⟨true,25,3,a0.Kids.length,fl Za a0.Kids⟩) (by rw [Yr _ hi0];first | exact ho0 | exact Yj _ _ _) rfl (by rw [Yr _ Ut];exact U9) Jr (by omega)
 simp only [Yy _ _ Ut,Yy _ _ hi0,Xk,Y3,Qn,Za4 Jr,List.set_cons_zero,List.set_cons_succ,List.cons_append,List.nil_append,List.length_cons,List.length_nil,Nat.zero_add,Nat.reduceAdd,Nat.add_assoc] at e0
 refine Kq e0 ?_
 have hU:=(Und.drop hU j0_0)
 have hk0:∀ k,i0 < n+k:=fun k=>by omega
 have hN0:∀ o,Objs.upd (O.upd j0_0 none) i0 o n=none:=fun o=>Jq hU hi0 _ (Nat.le_refl _)
 have hN:∀ o k,Objs.upd (O.upd j0_0 none) i0 o (n+k)=none:=fun o k=>Jq hU hi0 _ (Nat.le_add_right _ _)
 show W _ _ _ _ ⟨43,[],[(0,.ref i0 0),(1,(vI a1)),(2,.agg (Zd a2))]⟩ (Zv ((O.upd j0_0 none).upd i0 (some ⟨false,25,3,1,[(vI a0.Kind),(sL (eI .u64) a0.Words),.row n a0.Kids.length]⟩)) n [some (oR 25 3 Za a0.Kids)]) _
 refine Zex [0,1,5] hi0 hk0 ?_
 refine Zg ?_
 refine zD [0,1,5] [true,true] ?_
 obtain ⟨z5,hz5,h⟩:=bC h
 refine Yz (E':=⟨43,[],[(0,.ref i0 0),(1,(vI a1)),(5,.ref (n+1) 0)]⟩) (O':=(Zv ((O.upd j0_0 none).upd i0 (some ⟨false,25,3,1,[(vI a0.Kind),(sL (eI .u64) a0.Words),.row n z5.length]⟩)) n [some (oR 25 3 Za z5),some ⟨false,25,3,1,(Zd a2)⟩])) (n0:=(n+2)) ?_ ?_
 ·refine Xe hz5 (fun s0_=>⟨43,[],[(0,.ref i0 0),(1,(vI a1)),(5,.ref (n+1) 0)]⟩) (fun s0_=>(Zv ((O.upd j0_0 none).upd i0 (some ⟨false,25,3,1,[(vI a0.Kind),(sL (eI .u64) a0.Words),.row n s0_.length]⟩)) n [some (oR 25 3 Za s0_),some ⟨false,25,3,1,(Zd a2)⟩])) (fun z5=>JX 0 n (⟨43,[],[(0,.ref i0 0),(1,(vI a1)),(5,.ref (n+1) 0)]⟩:Env) (Zv ((O.upd j0_0 none).upd i0 (some ⟨false,25,3,1,[(vI a0.Kind),(sL (eI .u64) a0.Words),.row n z5.length]⟩)) n [some (oR 25 3 Za z5),some ⟨false,25,3,1,(Zd a2)⟩]) (n+2)) ?_
  intro s0_ x0_ hs0_
  unfold G4 at hs0_
  try dsimp only
  refine Zg ?_
  refine Zni [0,1,5,17] (Yx Z4 [none,none,none] ?_)
  refine zX2 hi0 hk0 ?_
  refine zG ?_
  refine Zq (t:=(cond (decide ((s0_.length:Int)≤a1)) (a2.Kind != 0) false)) rfl (fun c4 => ?_) (fun c4 => ?_)
  ·replace hs0_:=Zp c4 hs0_
   refine Q7 [0,1,5] [true,true] ?_
   refine Yg ?_
   obtain ⟨l1,pl1,ql1,el1,hs0_⟩:=bA (k:=1) rfl hs0_
   obtain ⟨x2,hx2,ax2,bx2,cx2,hs0_⟩:=bE (f:=Za) V5 (fun _=>rfl) (by decide) hs0_
   have gu3:Kt (fl Za s0_++[.val (.int .i64 0),.val (.slice none 0 0),.val (.slice none 0 0)]) [.val (.int .i64 0),.val (.slice none 0 0),.val (.slice none 0 0)] (List.length s0_ * 3)=some (fl Za s0_++[.val (.int .i64 0),.val (.slice none 0 0),.val (.slice none 0 0)]):=Za5 (f:=Za) (sz:=3) (fun _=>rfl) rfl rfl
   refine Vs Z4 (by kernel_rfl) [.plain,.low,.low,.low,.plain,.low,.pass,.bar,.shp,.fill true,.shp,.shp,.fill false] (fun i=>i < (n+2)) [0,1,2,3,4,5,6,7,8,9,10,11,12] [.plain,.low,.low,.low,.plain,.low,.pass,.bar,.shp,.fill true,.shp,.shp,.fill false] [] (by kernel_rfl) rfl ?_
   refine zF9 pl1 ql1 el1 ax2 bx2 cx2 gu3 hi0 hk0 ?_
   refine zO ?_
   have hs0_:=Option.some.inj hs0_;subst hs0_
   refine And.intro rfl (Fit2.of (Yp hU rfl rfl ?_) (by omega))
   exact Z2l pl1 ql1 el1 ax2 bx2 cx2 gu3 hi0 hk0
  replace hs0_:=Zo c4 hs0_
  refine zXt ?_
  have hs0_:=Option.some.inj hs0_;subst hs0_
  refine And.intro (fun h=>by cases h) (And.intro rfl (Fit2.of (Yp hU rfl rfl ?_) (by omega)))
  exact Q9 hi0 hk0
 try simp only [Y2,Z7,↓reduceIte,Nat.reduceEqDiff]
 refine zD [0,1,5] [true,true] ?_
 refine Zex [0,1,5,35] hi0 hk0 ?_
 refine Zq (t:=(decide (a1 < (z5.length:Int)))) rfl (fun c8 => ?_) (fun c8 => ?_)
 ·replace h:=Zp c8 h
  obtain ⟨x6,hx6,ax6,bx6,cx6,h⟩:=bE (f:=Za) V5 (fun _=>rfl) (by decide) h
  have gu7:Kt (fl Za z5) [.val (.int .i64 a2.Kind),.sl a2.Words.length (fl (eI .u64) a2.Words),.sl a2.Kids.length (fl Za a2.Kids)] (Int.toNat a1 * 3)=some (fl Za (Zgm z5 a1 a2)):=(congrArg (fun c=>Kt (fl Za z5) c (Int.toNat a1 * 3)) (show [.val (.int .i64 a2.Kind),.sl a2.Words.length (fl (eI .u64) a2.Words),.sl a2.Kids.length (fl Za a2.Kids)]=Za a2 from by simp only [Za,Yu,eI,eB,eS,eL])).trans (Zj9 (f:=Za) (ti:=⟨.bool,3,0,[],false⟩) (x:=a2) (fun _=>rfl) (Zfe hx6))
  refine Zhx Z4 (by kernel_rfl) [false,false,false,false,false,false,false,true] [] (by kernel_rfl) ?_
  refine zF6 ax6 bx6 cx6 gu7 hi0 hk0 ?_
  have h:=Option.some.inj h;subst h
  refine Ks (k:=1) (i:=i0) (q1:=⟨false,25,3,1,[(vI a0.Kind),(sL (eI .u64) a0.Words),.row n (Zgm z5 a1 a2).length]⟩) (L3:=[some (oR 25 3 Za (Zgm z5 a1 a2)),none]) (E2:=(⟨43,[],[]⟩:Env)) (n3:=(n+2)) (.inl rfl) hU rfl [] ?_ ?_
  ·refine Fit2.trans (E':=(⟨43,[],[]⟩:Env)) (O':=(Zv ((O.upd j0_0 none).upd i0 (some ⟨false,25,3,1,[(vI a0.Kind),(sL (eI .u64) a0.Words),.row n (Zgm z5 a1 a2).length]⟩)) n [some (oR 25 3 Za (Zgm z5 a1 a2)),none])) (n':=(n+2)) (Fit2.of (Yp hU rfl rfl ?_) (by omega)) ?_
   ·exact Yhs ax6 bx6 cx6 gu7 hi0 hk0
   refine Qm (k:=2) (k':=2) hU [0,1] [0,0] rfl rfl rfl rfl ⟨rfl,rfl⟩ ?_
   exact Q9 hi0 hk0
  simp only [push_cast,seval,↓reduceIte,Zk,Try.results107,hi0,hk0,hN0,hN]
 replace h:=Zo c8 h
 refine zK ?_
 have h:=Option.some.inj h;subst h
 refine Ks (k:=1) (i:=i0) (q1:=⟨false,25,3,1,[(vI a0.Kind),(sL (eI .u64) a0.Words),.row n z5.length]⟩) (L3:=[some (oR 25 3 Za z5),none]) (E2:=(⟨43,[],[]⟩:Env)) (n3:=(n+2)) (.inl rfl) hU rfl [] ?_ ?_
 ·refine Fit2.trans (E':=(⟨43,[],[]⟩:Env)) (O':=(Zv ((O.upd j0_0 none).upd i0 (some ⟨false,25,3,1,[(vI a0.Kind),(sL (eI .u64) a0.Words),.row n z5.length]⟩)) n [some (oR 25 3 Za z5),none])) (n':=(n+2)) (Fit2.of (Yp hU rfl rfl ?_) (by omega)) ?_
  ·exact Q9 hi0 hk0
  refine Qm (k:=2) (k':=2) hU [0,1] [0,0] rfl rfl rfl rfl ⟨rfl,rfl⟩ ?_
  exact Q9 hi0 hk0
 simp only [push_cast,seval,↓reduceIte,Zk,Try.results107,hi0,hk0,hN0,hN]
end Go.Proofs.Ytfjkcekfifobpaa
