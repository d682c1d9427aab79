/- Part FM1 of this seat's mirrors: functions of the seat's program, and the plain functions that they are; each theorem bears its own conditions. -/
import Derived.Test.YtfjkcekfifobpaaFD
namespace Go.Proofs.Ytfjkcekfifobpaa
open Go.RowKit
set_option linter.unusedVariables false
set_option linter.unusedSimpArgs false
set_option maxRecDepth 100000
set_option maxHeartbeats 4000000
attribute [local push_cast] Try.results136 Try.results137 Try.results138 Try.results19 Try.results32 Try.results33 Try.results42 Try.results60 Try.results61 Try.results65 Try.results66 Try.results67 Try.results69 Try.results93 Try.results96 Try.results97 vI vB nV sL oR Zf Uf Y6 Zd Zav Zzq Zzp Z0v Z0u Y2 Z7 Zug Zoi Zoh onW Ql Zfz Zel Zui Zuj Zr3 Zr7 Zr2 Zr6 Zwb Zv8 Zr5 Zwa Zv9 Zr4 Zv6 Zpc evS wok J0 Op.operands Call.operands gop onK onP atK List.all_cons List.all_nil Bool.and_true Bool.true_and Bool.and_self Value.oneCell' List.take_zero List.take_succ_cons List.take_nil List.drop_zero List.drop_succ_cons List.drop_nil List.append_nil Nat.add_zero Nat.zero_add Zam Yw ev Jw Zfd Zzg Zzf Zzl Zzj Zzk Zzh Zzi Zze Zuc Zxg Z27 Zl7 Zg1 Zle Zf7 Zrd Zjn Zlt Zly Zob Zn8 Zlw Zoa Zn9 Zlv Zn6 Zlu Zlx Zkq Zn7 Zok Zoj Zem Zm7 Zen Zog Zl3 Zzv bLo bHi bMx Zg2 Zof Z4w Zl2 Znw Zja Zcz Zx5 Z4z Zm5 Z44 Zg0 Z8q Zuu Zuy Zut Zux Z0e Z0b Zz9 Zrg Zuv Z0d Z0c Zuw Z0a Zl5 gone Zvq Zo6 Zo5 pop TK.isAgg Z0n Z0r Z0m Z0q Zvg Z5d Z5a Z0p Z5c Z5b Z0o Z49 G.under G.unders List.getD_cons_zero List.getD_cons_succ List.set_cons_zero List.set_cons_succ List.map_cons List.map_nil List.toList_toArray Array.toList_append Option.toArray_none Option.toArray_some Array.toList_map Option.map_some Option.map_none Option.bind_some Option.bind_none List.getElem?_cons_zero List.getElem?_cons_succ List.getElem?_nil List.nil_append List.cons_append List.replicate_succ List.replicate_zero List.length_cons List.length_nil and_true true_and and_false false_and Bool.true_eq_false Bool.false_eq_true forall_const false_implies implies_true IntKind.bits if_true if_false ite_true ite_false eq_self true_implies false_or or_false or_true true_or not_true_eq_false not_false_eq_true decide_true decide_false decide_eq_true_eq decide_eq_false_iff_not beq_iff_eq bne_iff_ne ne_eq Bool.not_eq_true Bool.not_eq_false beq_eq_false_iff_ne bne_eq_false_iff_eq beq_self_eq_true bne_self_eq_false Option.some.injEq exists_eq_left' exists_eq_left ge_iff_le gt_iff_lt decide_not Bool.not_true Bool.not_false imp_self Z41 cond_true cond_false Yez Yey Bool.not_not Bool.and_false Bool.false_and Bool.or_true Bool.true_or Bool.or_false Bool.false_or Zah Zeh Zbc Gu Xk Y3 Option.join_some Nat.add_assoc Int.toNat_natCast eI eB eS eL Xn Zm6 Zl4 Zzu Zzs Zzt Z81 Yaq Zna Zmn Z04 Z02 Z03 Z3t Zoc Z2z Zql Zy6 Zj6 Zy8 List.length_append G.agg.injEq G.row.injEq G.ref.injEq G.val.injEq G.sl.injEq G.tup.injEq Value.int.injEq Value.bool.injEq Value.string.injEq List.cons.injEq exists_and_left exists_const List.flatten_cons List.flatten_nil Int.le_refl Nat.le_refl Qn Yr Yy Bool.not_eq_true' Bool.not_eq_false' Z2k Zqs Z6s Z6w Z6r Z6v Ycu Ycp List.size_toArray Zs1 Zvs G.ren G.rens Zxq Zjx Z09 Zzb Zzc Zv7 Z6x Zgj G.fn.injEq Zxc Zxd Z2j Ycq Zxb Z6u Yct Ycs Z6t Z46 Yaf Option.join_none Yj Gz undef Zny Arr.len Arr.put_eq Zm9 Zrt Zo2 Zmm Z01 Z0z Z00 onB Z80 Zx4 Zv0 Zth Zti Ztj Ztk Ztl Ztm Zrk Zrw Zru Zo4 Zmo Zrv Zvp Zvo Zvn Zvm Yap Yds Z3s Z0w Zbm Z3i Zsu Zrx Zo3 Z5e Zv2 Zlz Znv Zh1 Zqh Ztn Zto Ztp Ztq Zqt Zqu Zqv Zqw Zqx Zqy Zqz Zh6 prT Zi6 Yfs Z6i Z4b Z6j Yft Z6k Z4c Z6l Yfu Z6m Yfv Z6n Yfw Z6o Yfx Z6p Ybj Z1g Ybk Z1h Ybl Z1i Ybm Z1j Ybn Z1k Ybo Z1l Ybp Z1m Ybq Z1n Ybr Z1o Ybs Z1p Ybt Z1q Ybu Zqr Z4a Zfw Ybv Z1r V5 Z1s Ybw Z1t Ybx Z1u Yby Z1v Ybz Z1w Zso Z1x Yb0 Z1y Yb1 Znh Yb2 Z1z Zmw Z10 Yb3 Z11 Yb4 Z12 Yb5 Z13 Yb6 Z14 Zf5 Z15 Yb7 Z16 Zfv Z17 Yb8 Z18 Yb9 Z19 Yca Z2a Zyo Z2b Ycb Z2c Zmx Z2d Ycc Z2e Ycd Z2f Z5q Zwf Z5r Zwg Z5s Zwh Z5t Zwi Z5u Zwj Z5v Zwk Z5w Zwl Z5x Zwm Z5y Zwn Z5z Zwo Z50 Zwp Z51 Zwq Z52 Zwr Zwd Zqq Z53 Zws Z54 Zwt Z55 Zwu Z56 Zwv Z57 Zww Z58 Zwx Z59 Zwy Z6a Zwz Z6b Zw0 Z6c Zw1 Z6d Zw2 Z6e Zw3 Z6f Zw4 Z6g Zw5 Z6h Zw6 Za Yu Zpk Zpi Zoo Zo0 Zpm Zm0 Zms Zmq Zpf Zgu Zgs Zga Zgi Zgw Zfy Zfr Zfp Zgp Zm Qt Ze Zi Xs Xz Y8 Zdn Zdl Zc1 Zc9 Zdr Zco Zcl Zcj Zdh Zd8 Zd7 Zd3 Zd5 Zd9 Zdk Zdf Zde Zd6 Zi4 Zi3 Zic Zio Zi5 Zhp Zhn Zhm Zi2 Zsh Zsg Zrf Zrq Zsi Zpg Zo8 Zo7 Zsa Zu Zgt Zgr Zf9 Zgh Zgv Zfx Zfq Zfo Zgo Yh Zcr Zcq Zce Zci Zcs Zbp Zbo Zbn Zcn Zpj Zph Zon Zoz Zpl Zmz Zmr Zmp Zpe Yo Zdo Zdm Zc2 Zda Zds Zcp Zcm Zck Zdi
def Ze0 (Qi:(Zb→Int→Int→Option Int)):Prop:=∀ {a0:Zb} {a1:Int} {a2:Int} {r:Int} {O:Objs} {n:Nat},Qi a0 a1 a2=some r→GTo Try.prog 60 [.agg (Zd a0),(vI a1),(vI a2)] O n ((vI r)) O n
theorem Zk2 {Qi:(Zb→Int→Int→Option Int)} (Zki:Ze0 Qi) {a0:Zb} {a1:Int} {a2:Int} {r:Int} {O:Objs} {n:Nat} (h:Qf Qi a0 a1 a2=some r):GTo Try.prog 60 [.agg (Zd a0),(vI a1),(vI a2)] O n ((vI r)) O n:=by
 unfold Qf at h
 refine zFn Try.call60 Try.func60 fun hU hN0 hN => ?_
 show W _ _ _ _ ⟨41,[],[(0,.agg (Zd a0)),(1,(vI a1)),(2,(vI a2))]⟩ (Zv O n []) _
 refine zQ [1,2,3] ?_
 refine zQ [1,2,3] ?_
 refine Zg ?_
 refine zQD [1,2,3,19] [none,none] ?_
 refine Zq (t:=(cond (a1 == 0) true (decide ((IntKind.i64.wrap ((IntKind.i64.wrap (a2 - 1)) - (a0.Words.length:Int))) < 0)))) rfl (fun c5 => ?_) (fun c5 => ?_)
 ·replace h:=Zp c5 h
  refine zQ [6] ?_
  exact Yn [(vI (-1))]
 replace h:=Zo c5 h
 refine Q7 [1,2,3] [true] ?_
 refine Zg ?_
 refine zQd [1,2,3,7] [1,2,3,7] [true] ?_
 obtain ⟨z4,hz4,h⟩:=bC h
 refine Yz (E':=⟨41,[],[(2,(vI z4))]⟩) (O':=(Zv O n [none])) (n0:=(n+1)) ?_ ?_
 ·refine Xe hz4 (fun s0_=>⟨41,[],[(1,(vI a1)),(2,(vI s0_.1)),(3,.ref n 0),(7,(vI s0_.2))]⟩) (fun s0_=>(Zv O n [some ⟨false,25,3,1,(Zd a0)⟩])) (fun z4=>JX 0 n (⟨41,[],[(2,(vI z4))]⟩:Env) (Zv O n [none]) (n+1)) ?_
  intro s0_ x0_ hs0_
  unfold X9 at hs0_
  try dsimp only
  refine Zg ?_
  refine zQD [1,2,3,7,28] [none,none] ?_
  refine Zq (t:=(cond (decide (s0_.2 < (a0.Kids.length:Int))) (decide (0≤s0_.1)) false)) rfl (fun c3 => ?_) (fun c3 => ?_)
  ·replace hs0_:=Zp c3 hs0_
   refine Q7 [1,2,3,7] [true] ?_
   refine Zg ?_
   refine Yg ?_
   obtain ⟨x1,hx1,ax1,bx1,cx1,hs0_⟩:=bE (f:=Za) V5 (fun _=>rfl) (by decide) hs0_
   obtain ⟨y2,hy2,hs0_⟩:=bC hs0_
   refine Zao [] ax1 bx1 cx1 ?_
   refine (Zki hy2).then ?_
   refine zF3 ax1 bx1 cx1 ?_
   refine zD [1,2,3,7] [true] ?_
   refine zR ?_
   exact zEn hs0_
  replace hs0_:=Zo c3 hs0_
  exact zEx hs0_
 try simp only [Y2,Z7,↓reduceIte,Nat.reduceEqDiff]
 refine zD [2] [false] ?_
 refine zQ [6] ?_
 exact Yn [(vI z4)]
theorem Zjo:∀ k,(Ze0 (Y5 k)):=fun k=>by
 induction k with
 | zero=>exact @fun a0 a1 a2 r O n h=>(nomatch (show (none:Option _)=some _ from h))
 | succ k ih=>exact @fun a0 a1 a2 r O n h=>Zk2 (ih)  h
theorem Gk {a0:Zb} {a1:Int} {a2:Int} {r:Int} {O:Objs} {n:Nat} (h:X1 a0 a1 a2=some r):GTo Try.prog 60 [.agg (Zd a0),(vI a1),(vI a2)] O n ((vI r)) O n:=by
 obtain ⟨k,hk⟩:=Un h
 exact (Zjo k)  hk
theorem Zjf {a0:Zb} {r:Bool} {O:Objs} {n:Nat} (h:Zax a0=some r):GTo Try.prog 32 [.agg (Zd a0)] O n ((vB r)) O n:=by
 unfold Zax at h
 refine zFn Try.call32 Try.func32 fun hU hN0 hN => ?_
 show W _ _ _ _ ⟨6,[],[(0,.agg (Zd a0))]⟩ (Zv O n []) _
 refine zQ [1] ?_
 refine Zg ?_
 obtain ⟨y2,hy2,h⟩:=bC h
 refine zCd (Gk hy2) [2] [false] ?_
 exact Yn [(vB (decide (0≤y2)))]
theorem Zno {a0:Int} {r:Int} {O:Objs} {n:Nat} (h:Zep a0=some r):GTo Try.prog 93 [(vI a0)] O n ((vI r)) O n:=by
 unfold Zep at h
 refine zFn Try.call93 Try.func93 fun hU hN0 hN => ?_
 show W _ _ _ _ ⟨16,[],[(0,(vI a0))]⟩ (Zv O n []) _
 refine zQ [0] ?_
 refine Zg ?_
 refine zQ [3] ?_
 refine Yg ?_
 refine zQ [3,4] ?_
 refine Zq (t:=(a0 == 0)) rfl (fun c6 => ?_) (fun c6 => ?_)
 ·replace h:=Zp c6 h
  refine zQ [2] ?_
  exact Yn [(vI 0)]
 replace h:=Zo c6 h
 refine zQ [3,6] ?_
 refine Zq (t:=(a0 == 1)) rfl (fun c5 => ?_) (fun c5 => ?_)
 ·replace h:=Zp c5 h
  refine zQ [2] ?_
  exact Yn [(vI 1)]
 replace h:=Zo c5 h
 refine zQ [3,8] ?_
 refine Zq (t:=(a0 == 2)) rfl (fun c4 => ?_) (fun c4 => ?_)
 ·replace h:=Zp c4 h
  refine zQ [2] ?_
  exact Yn [(vI 8)]
 replace h:=Zo c4 h
 refine zQ [3,10] ?_
 refine Zq (t:=(a0 == 3)) rfl (fun c3 => ?_) (fun c3 => ?_)
 ·replace h:=Zp c3 h
  refine zQ [2] ?_
  exact Yn [(vI 16)]
 replace h:=Zo c3 h
 refine zQ [3,12] ?_
 refine Zq (t:=(a0 == 4)) rfl (fun c2 => ?_) (fun c2 => ?_)
 ·replace h:=Zp c2 h
  refine zQ [2] ?_
  exact Yn [(vI 32)]
 replace h:=Zo c2 h
 refine zQ [14] ?_
 refine Zq (t:=(a0 == 5)) rfl (fun c1 => ?_) (fun c1 => ?_)
 ·replace h:=Zp c1 h
  refine zQ [2] ?_
  exact Yn [(vI 64)]
 replace h:=Zo c1 h
 refine Q7 [] [] ?_
 refine zQ [2] ?_
 exact Yn [(vI (-1))]
theorem Zih {a0:Int} {a1:Int} {r:Bool} {O:Objs} {n:Nat} (h:V8 a0 a1=some r):GTo Try.prog 61 [(vI a0),.val (.int .u64 a1)] O n ((vB r)) O n:=by
 unfold V8 at h
 refine zFn Try.call61 Try.func61 fun hU hN0 hN => ?_
 show W _ _ _ _ ⟨20,[],[(0,(vI a0)),(1,.val (.int .u64 a1))]⟩ (Zv O n []) _
 refine zQ [0,1] ?_
 refine Zg ?_
 obtain ⟨y2,hy2,h⟩:=bC h
 refine zCd (Zno hy2) [1,5] [] ?_
 refine Zg ?_
 refine zQ [1,5,10] ?_
 refine Zq (t:=(decide (y2 < 0))) rfl (fun c5 => ?_) (fun c5 => ?_)
 ·replace h:=Zp c5 h
  refine zQ [4] ?_
  exact Yn [(vB false)]
 replace h:=Zo c5 h
 refine Q7 [1,5] [] ?_
 refine Zg ?_
 refine zQd [1,5,6] [1,5,6] [] ?_
 obtain ⟨z4,hz4,h⟩:=bC h
 refine Yz (E':=⟨20,[],[(1,.val (.int .u64 z4))]⟩) (O':=(Zv O n [])) (n0:=n) ?_ ?_
 ·refine Xe hz4 (fun s0_=>⟨20,[],[(1,.val (.int .u64 s0_.1)),(5,(vI y2)),(6,(vI s0_.2))]⟩) (fun s0_=>(Zv O n [])) (fun z4=>JX 0 n (⟨20,[],[(1,.val (.int .u64 z4))]⟩:Env) (Zv O n []) n) ?_
  intro s0_ x0_ hs0_
  unfold Qh at hs0_
  try dsimp only
  refine Zg ?_
  refine zQ [1,5,6,13] ?_
  refine Zq (t:=(decide (s0_.2 < y2))) rfl (fun c3 => ?_) (fun c3 => ?_)
  ·replace hs0_:=Zp c3 hs0_
   refine Q7 [1,5,6] [] ?_
   refine Zg ?_
   refine Yg ?_
   refine zRd [1,5,6] [] ?_
   refine zR ?_
   exact zEn hs0_
  replace hs0_:=Zo c3 hs0_
  exact zEx hs0_
 try simp only [Y2,Z7,↓reduceIte,Nat.reduceEqDiff]
 refine zD [1] [] ?_
 refine zQ [4] ?_
 exact Yn [(vB (z4 == 0))]
def Zf0 (Q3:(Zb→Int→Option Bool)):Prop:=∀ {a0:Zb} {a1:Int} {r:Bool} {O:Objs} {n:Nat},Q3 a0 a1=some r→GTo Try.prog 33 [.agg (Zd a0),(vI a1)] O n ((vB r)) O n
theorem Zmh {Q3:(Zb→Int→Option Bool)} (Zlq:Zf0 Q3) {a0:Zb} {a1:Int} {r:Bool} {O:Objs} {n:Nat} (h:Uz Q3 a0 a1=some r):GTo Try.prog 33 [.agg (Zd a0),(vI a1)] O n ((vB r)) O n:=by
 unfold Uz at h
 refine zFn Try.call33 Try.func33 fun hU hN0 hN => ?_
 show W _ _ _ _ ⟨132,[],[(0,.agg (Zd a0)),(1,(vI a1))]⟩ (Zv O n []) _
 refine zQ [1,2] ?_
 refine Zg ?_
 refine zQ [1,2,10] ?_
 refine Zq (t:=(a0.Kind == 0)) rfl (fun c32 => ?_) (fun c32 => ?_)
 ·replace h:=Zp c32 h
  refine zQD [4] [none,none,none,none] ?_
  exact Yn [(vB (cond ((a0.Words.length:Int) == 0) ((a0.Kids.length:Int) == 0) false))]
 replace h:=Zo c32 h
 refine Q7 [1,2] [true] ?_
 refine Zg ?_
 refine zQ [1,2,23] ?_
 refine Zq (t:=(a0.Kind == 10)) rfl (fun c31 => ?_) (fun c31 => ?_)
 ·replace h:=Zp c31 h
  refine zQD [4] [none,none,none,none] ?_
  exact Yn [(vB (cond ((a0.Words.length:Int) == 1) ((a0.Kids.length:Int) == 0) false))]
 replace h:=Zo c31 h
 refine Q7 [1,2] [true] ?_
 refine Zg ?_
 refine zQD [1,2,68] [none,none,none,none,none,none,none,none,none,none,none,none,none,none,none,none,none,none,none,none,none,none] ?_
 refine Zq (t:=(cond (cond (cond (cond (cond (decide (a0.Kind < 0)) true (decide (10 < a0.Kind))) true (a1 == 0)) true (decide (65536≤(a0.Words.length:Int)))) true (cond (a0.Kind == 1) (decide (65536≤(a0.Kids.length:Int))) false)) true (decide (1048576≤(a0.Kids.length:Int))))) rfl (fun c30 => ?_) (fun c30 => ?_)
 ·replace h:=Zp c30 h
  refine zQ [4] ?_
  exact Yn [(vB false)]
 replace h:=Zo c30 h
 refine Q7 [1,2] [true] ?_
 refine Zg ?_
 refine zQD [1,2,77] [none,none,none,none] ?_
 refine Zq (t:=(cond (decide (1 < a0.Kind)) (decide (0 < (a0.Words.length:Int))) false)) rfl (fun c29 => ?_) (fun c29 => ?_)
 ·replace h:=Zp c29 h
  refine zQ [4] ?_
  exact Yn [(vB false)]
 replace h:=Zo c29 h
 refine Q7 [1,2] [true] ?_
 refine Zg ?_
 refine zQd [1,2,5] [1,2,5] [true] ?_
 obtain ⟨z28,hz28,h⟩:=bC h
 refine Ux (J:=(Xl (fun z28=>JR n (⟨132,[],[(4,(vB false))]⟩:Env) (Zv O n [none]) (n+1)) (fun z28=>JX 0 n (⟨132,[],[]⟩:Env) (Zv O n [none]) (n+1)))) (z:=z28) ?_ fun hw => ?_
 ·refine Xe hz28 (fun s0_=>⟨132,[],[(1,(vI a1)),(2,.ref n 0),(5,(vI s0_))]⟩) (fun s0_=>(Zv O n [some ⟨false,25,3,1,(Zd a0)⟩])) (Xl (fun z28=>JR n (⟨132,[],[(4,(vB false))]⟩:Env) (Zv O n [none]) (n+1)) (fun z28=>JX 0 n (⟨132,[],[]⟩:Env) (Zv O n [none]) (n+1))) ?_
  intro s0_ x0_ hs0_
  unfold K9 at hs0_
  try dsimp only
  refine Zg ?_
  refine zQ [1,2,5,82] ?_
  refine Zq (t:=(decide (s0_ < (a0.Kids.length:Int)))) rfl (fun c27 => ?_) (fun c27 => ?_)
  ·replace hs0_:=Zp c27 hs0_
   refine Q7 [1,2,5] [true] ?_
   refine Zg ?_
   refine Yg ?_
   refine Zg ?_
   obtain ⟨x2,hx2,ax2,bx2,cx2,hs0_⟩:=bE (f:=Za) V5 (fun _=>rfl) (by decide) hs0_
   refine Zao [] ax2 bx2 cx2 ?_
   refine zDs [1,2,5,6] [true,true] ?_
   refine Zg ?_
   obtain ⟨y4,hy4,hs0_⟩:=bC hs0_
   refine zCd (Zlq hy4) [1,2,5,6,94] [true,true] ?_
   refine Zq (t:=(!y4)) rfl (fun c26 => ?_) (fun c26 => ?_)
   ·replace hs0_:=Zp c26 hs0_
    refine zQ [4] ?_
    refine zW ?_
    exact zEy hs0_
   replace hs0_:=Zo c26 hs0_
   refine Q7 [1,2,5,6] [true,true] ?_
   refine zQD [1,2,5,6,7] [none,none,none] ?_
   obtain ⟨z9,hz9,hs0_⟩:=bC hs0_
   refine Y1 (E':=⟨132,[],[(1,(vI a1)),(2,.ref n 0),(5,(vI s0_)),(131,(vB z9))]⟩) (O':=(Zv O n [some ⟨false,25,3,1,(Zd a0)⟩,none])) (n0:=(n+2)) ?_ ?_
   ·rcases Bool.eq_false_or_eq_true ((cond (decide (2≤a0.Kind)) (decide (a0.Kind≤7)) false) != (x2.Kind == 10)) with c18 | c18
    ·replace hz9:=Zp c18 hz9
     refine K7 Z4 (by kernel_rfl) [none,none,none,none,none,none,none,none,some false,some false,some false,some false,some false,some false,some false,some false,some false,some false,some false,some false] (by kernel_rfl) ?_
     refine zX1 c18 ?_
     refine zG ?_
     exact Qx hz9 c18
    replace hz9:=Zo c18 hz9
    rcases Bool.eq_false_or_eq_true (a0.Kind == 9) with c19 | c19
    ·replace hz9:=Zp c19 hz9
     try rw [c19] at c18
     try simp only [Bool.cond_true,Bool.cond_false,Bool.true_bne,Bool.false_bne,Bool.true_beq,Bool.false_beq,Bool.not_eq_true',Bool.not_eq_false'] at c18
     rcases Bool.eq_false_or_eq_true (x2.Kind != 1) with c20 | c20
     ·replace hz9:=Zp c20 hz9
      try rw [c20] at c18
      try rw [c20] at c19
      try simp only [Bool.cond_true,Bool.cond_false,Bool.true_bne,Bool.false_bne,Bool.true_beq,Bool.false_beq,Bool.not_eq_true',Bool.not_eq_false'] at c18
      refine K7 Z4 (by kernel_rfl) [none,none,none,none,none,none,none,none,some false,some false,some false,some false,some false,some false,some false,some false,some false,some false,some false,some false] (by kernel_rfl) ?_
      refine zX3 c18 c19 c20 ?_
      refine zG ?_
      exact Zf6 hz9 c18 c19 c20
     replace hz9:=Zo c20 hz9
     try rw [c20] at c18
     try rw [c20] at c19
     try simp only [Bool.cond_true,Bool.cond_false,Bool.true_bne,Bool.false_bne,Bool.true_beq,Bool.false_beq,Bool.not_eq_true',Bool.not_eq_false'] at c18
     rcases Bool.eq_false_or_eq_true (decide (2≤a0.Kind)) with c21 | c21
     ·replace hz9:=Zp c21 hz9
      try rw [c21] at c18
      try rw [c21] at c19
      try rw [c21] at c20
      try simp only [Bool.cond_true,Bool.cond_false,Bool.true_bne,Bool.false_bne,Bool.true_beq,Bool.false_beq,Bool.not_eq_true',Bool.not_eq_false'] at c18
      rcases Bool.eq_false_or_eq_true (decide (a0.Kind≤7)) with c22 | c22
      ·replace hz9:=Zp c22 hz9
       try rw [c22] at c18
       try rw [c22] at c19
       try rw [c22] at c20
       try rw [c22] at c21
       try simp only [Bool.cond_true,Bool.cond_false,Bool.true_bne,Bool.false_bne,Bool.true_beq,Bool.false_beq,Bool.not_eq_true',Bool.not_eq_false'] at c18
       obtain ⟨x14,hx14,ax14,bx14,cx14,hz9⟩:=bE (f:=(eI .u64)) Zf5 (fun _=>rfl) (by decide) hz9
       obtain ⟨y15,hy15,hz9⟩:=bC hz9
       refine K7 Z4 (by kernel_rfl) [none,none,none,none,none,none,none,none,some true,some true,some true,some true,some true,some true,some true,some true,some true,some true,some true,some true] (by kernel_rfl) ?_
       refine zF8 c18 c19 c20 c21 c22 ax14 bx14 cx14 ?_
       refine zG ?_
       refine PCall.of (Zih hy15) ?_
       refine zF8 c18 c19 c20 c21 c22 ax14 bx14 cx14 ?_
       refine zG ?_
       exact Yho hz9 c18 c19 c20 c21 c22 ax14 bx14 cx14
      replace hz9:=Zo c22 hz9
      try rw [c22] at c18
      try rw [c22] at c19
      try rw [c22] at c20
      try rw [c22] at c21
      try simp only [Bool.cond_true,Bool.cond_false,Bool.true_bne,Bool.false_bne,Bool.true_beq,Bool.false_beq,Bool.not_eq_true',Bool.not_eq_false'] at c18
      refine K7 Z4 (by kernel_rfl) [none,none,none,none,none,none,none,none,some true,some true,some false,some false,some false,some false,some false,some false,some false,some false,some false,some true] (by kernel_rfl) ?_
      refine zX5 c18 c19 c20 c21 c22 ?_
      refine zG ?_
      exact Zyr hz9 c18 c19 c20 c21 c22
     replace hz9:=Zo c21 hz9
     try rw [c21] at c18
     try rw [c21] at c19
     try rw [c21] at c20
     try simp only [Bool.cond_true,Bool.cond_false,Bool.true_bne,Bool.false_bne,Bool.true_beq,Bool.false_beq,Bool.not_eq_true',Bool.not_eq_false'] at c18
     refine K7 Z4 (by kernel_rfl) [none,none,none,none,none,none,none,none,some true,some true,some false,some false,some false,some false,some false,some false,some false,some false,some false,some true] (by kernel_rfl) ?_
     refine zX4 c18 c19 c20 c21 ?_
     refine zG ?_
     exact Zn3 hz9 c18 c19 c20 c21
    replace hz9:=Zo c19 hz9
    try rw [c19] at c18
    try simp only [Bool.cond_true,Bool.cond_false,Bool.true_bne,Bool.false_bne,Bool.true_beq,Bool.false_beq,Bool.not_eq_true',Bool.not_eq_false'] at c18
    rcases Bool.eq_false_or_eq_true (decide (2≤a0.Kind)) with c23 | c23
    ·replace hz9:=Zp c23 hz9
     try rw [c23] at c18
     try rw [c23] at c19
     try simp only [Bool.cond_true,Bool.cond_false,Bool.true_bne,Bool.false_bne,Bool.true_beq,Bool.false_beq,Bool.not_eq_true',Bool.not_eq_false'] at c18
     rcases Bool.eq_false_or_eq_true (decide (a0.Kind≤7)) with c24 | c24
     ·replace hz9:=Zp c24 hz9
      try rw [c24] at c18
      try rw [c24] at c19
      try rw [c24] at c23
      try simp only [Bool.cond_true,Bool.cond_false,Bool.true_bne,Bool.false_bne,Bool.true_beq,Bool.false_beq,Bool.not_eq_true',Bool.not_eq_false'] at c18
      obtain ⟨x16,hx16,ax16,bx16,cx16,hz9⟩:=bE (f:=(eI .u64)) Zf5 (fun _=>rfl) (by decide) hz9
      obtain ⟨y17,hy17,hz9⟩:=bC hz9
      refine K7 Z4 (by kernel_rfl) [none,none,none,none,none,none,none,none,some true,some true,some true,some true,some true,some true,some true,some true,some true,some true,some true,some true] (by kernel_rfl) ?_
      refine zF7 c18 c19 c23 c24 ax16 bx16 cx16 ?_
      refine zG ?_
      refine PCall.of (Zih hy17) ?_
      refine zF7 c18 c19 c23 c24 ax16 bx16 cx16 ?_
      refine zG ?_
      exact Yep hz9 c18 c19 c23 c24 ax16 bx16 cx16
     replace hz9:=Zo c24 hz9
     try rw [c24] at c18
     try rw [c24] at c19
     try rw [c24] at c23
     try simp only [Bool.cond_true,Bool.cond_false,Bool.true_bne,Bool.false_bne,Bool.true_beq,Bool.false_beq,Bool.not_eq_true',Bool.not_eq_false'] at c18
     refine K7 Z4 (by kernel_rfl) [none,none,none,none,none,none,none,none,some true,some true,some false,some false,some false,some false,some false,some false,some false,some false,some false,some true] (by kernel_rfl) ?_
     refine zX4 c18 c19 c23 c24 ?_
     refine zG ?_
     exact Zn3 hz9 c18 c19 c23 c24
    replace hz9:=Zo c23 hz9
    try rw [c23] at c18
    try rw [c23] at c19
    try simp only [Bool.cond_true,Bool.cond_false,Bool.true_bne,Bool.false_bne,Bool.true_beq,Bool.false_beq,Bool.not_eq_true',Bool.not_eq_false'] at c18
    refine K7 Z4 (by kernel_rfl) [none,none,none,none,none,none,none,none,some true,some true,some false,some false,some false,some false,some false,some false,some false,some false,some false,some true] (by kernel_rfl) ?_
    refine zX3 c18 c19 c23 ?_
    refine zG ?_
    exact Zf6 hz9 c18 c19 c23
   refine Zq (t:=z9) rfl (fun c25 => ?_) (fun c25 => ?_)
   ·replace hs0_:=Zp c25 hs0_
    refine zQ [4] ?_
    refine zW ?_
    exact zEy hs0_
   replace hs0_:=Zo c25 hs0_
   refine Q7 [1,2,5] [true,false] ?_
   refine zR ?_
   exact zEn hs0_
  replace hs0_:=Zo c27 hs0_
  exact zEx hs0_
 rcases z28 with z28 | z28
 ·dsimp only [Xl] at hw h
  refine Qy hw ?_
  try simp only [Y2,Z7,↓reduceIte,Nat.reduceEqDiff]
  exact Zhq [(vB false)]
 dsimp only [Xl] at hw h
 refine Yz hw ?_
 try simp only [Y2,Z7,↓reduceIte,Nat.reduceEqDiff]
 refine zD [] [false] ?_
 refine zQ [4] ?_
 exact Yn [(vB true)]
theorem Zkt:∀ k,(Zf0 (Ja k)):=fun k=>by
 induction k with
 | zero=>exact @fun a0 a1 r O n h=>(nomatch (show (none:Option _)=some _ from h))
 | succ k ih=>exact @fun a0 a1 r O n h=>Zmh (ih)  h
theorem Uq {a0:Zb} {a1:Int} {r:Bool} {O:Objs} {n:Nat} (h:Vj a0 a1=some r):GTo Try.prog 33 [.agg (Zd a0),(vI a1)] O n ((vB r)) O n:=by
 obtain ⟨k,hk⟩:=Un h
 exact (Zkt k)  hk
theorem Zeu {a0:Zb} {r:Bool} {O:Objs} {n:Nat} (h:V7 a0=some r):GTo Try.prog 19 [.agg (Zd a0)] O n ((vB r)) O n:=by
 unfold V7 at h
 refine zFn Try.call19 Try.func19 fun hU hN0 hN => ?_
 show W _ _ _ _ ⟨14,[],[(0,.agg (Zd a0))]⟩ (Zv O n []) _
 refine zQ [1] ?_
 obtain ⟨z3,hz3,h⟩:=bC h
 refine Y1 (E':=⟨14,[],[(2,(vB z3))]⟩) (O':=(Zv O n [none])) (n0:=(n+1)) ?_ ?_
 ·obtain ⟨y6,hy6,hz3⟩:=bC hz3
  rcases Bool.eq_false_or_eq_true y6 with c8 | c8
  ·replace hz3:=Zp c8 hz3
   obtain ⟨y7,hy7,hz3⟩:=bC hz3
   refine Jl [some true,some true,none,none,none] c8 ?_
   refine zG ?_
   refine (Zjf hy6).then ?_
   refine zX1 c8 ?_
   refine zG ?_
   refine (Uq hy7).then ?_
   refine zX1 c8 ?_
   refine zG ?_
   exact Qx hz3 c8
  replace hz3:=Zo c8 hz3
  refine Jl [some false,some false,some false,some false,some false] c8 ?_
  refine (Zjf hy6).then ?_
  refine zX1 c8 ?_
  exact Qx hz3 c8
 exact Yn [(vB z3)]
def Zhd (X4:(Zc→Int→Int→Option Int)):Prop:=∀ {a0:Zc} {a1:Int} {a2:Int} {r:Int} {O:Objs} {n:Nat},X4 a0 a1 a2=some r→GTo Try.prog 65 [.agg (Zf a0),(vI a1),(vI a2)] O n ((vI r)) O n
theorem Znu {X4:(Zc→Int→Int→Option Int)} (Zhe:Zhd X4) {a0:Zc} {a1:Int} {a2:Int} {r:Int} {O:Objs} {n:Nat} (h:Qb X4 a0 a1 a2=some r):GTo Try.prog 65 [.agg (Zf a0),(vI a1),(vI a2)] O n ((vI r)) O n:=by
 unfold Qb at h
 refine zFn Try.call65 Try.func65 fun hU hN0 hN => ?_
 show W _ _ _ _ ⟨107,[],[(0,.agg (Zf a0)),(1,(vI a1)),(2,(vI a2))]⟩ (Zv O n []) _
 refine zQ [1,2,3] ?_
 refine zQ [1,2,3] ?_
 refine Zg ?_
 refine zQD [1,2,3,25] [none,none] ?_
 refine Zq (t:=(cond (a1 == 0) true (decide ((IntKind.i64.wrap ((IntKind.i64.wrap ((IntKind.i64.wrap (a2 - 1)) - (a0.Words.length:Int))) - (a0.Ops.length:Int))) < 0)))) rfl (fun c28 => ?_) (fun c28 => ?_)
 ·replace h:=Zp c28 h
  refine zQ [6] ?_
  exact Yn [(vI (-1))]
 replace h:=Zo c28 h
 refine Q7 [1,2,3] [true] ?_
 refine Zg ?_
 obtain ⟨y2,hy2,h⟩:=bC h
 refine zCd (Gk hy2) [1,2,3] [true] ?_
 obtain ⟨z3,hz3,h⟩:=bC h
 refine Y1 (E':=⟨107,[],[(1,(vI a1)),(2,(vI z3)),(3,.ref n 0)]⟩) (O':=(Zv O n [some ⟨false,30,11,1,(Zf a0)⟩])) (n0:=(n+1)) ?_ ?_
 ·refine zQ [1,2,3,31] ?_
  refine Zq (t:=(decide (0≤y2))) rfl (fun c5 => ?_) (fun c5 => ?_)
  ·replace hz3:=Zp c5 hz3
   obtain ⟨y4,hy4,hz3⟩:=bC hz3
   refine zC (Gk hy4) ?_
   exact zEn hz3
  replace hz3:=Zo c5 hz3
  refine zK ?_
  exact zEn hz3
 refine Zg ?_
 refine zQd [1,2,3,7] [1,2,3,7] [true] ?_
 obtain ⟨z10,hz10,h⟩:=bC h
 refine Yz (E':=⟨107,[],[(1,(vI a1)),(2,(vI z10)),(3,.ref n 0)]⟩) (O':=(Zv O n [some ⟨false,30,11,1,(Zf a0)⟩])) (n0:=(n+1)) ?_ ?_
 ·refine Xe hz10 (fun s0_=>⟨107,[],[(1,(vI a1)),(2,(vI s0_.1)),(3,.ref n 0),(7,(vI s0_.2))]⟩) (fun s0_=>(Zv O n [some ⟨false,30,11,1,(Zf a0)⟩])) (fun z10=>JX 0 n (⟨107,[],[(1,(vI a1)),(2,(vI z10)),(3,.ref n 0)]⟩:Env) (Zv O n [some ⟨false,30,11,1,(Zf a0)⟩]) (n+1)) ?_
  intro s0_ x0_ hs0_
  unfold Xx at hs0_
  try dsimp only
  refine Zg ?_
  refine zQD [1,2,3,7,44] [none,none] ?_
  refine Zq (t:=(cond (decide (s0_.2 < (a0.Kids.length:Int))) (decide (0≤s0_.1)) false)) rfl (fun c9 => ?_) (fun c9 => ?_)
  ·replace hs0_:=Zp c9 hs0_
   refine Q7 [1,2,3,7] [true] ?_
   refine Zg ?_
   refine Yg ?_
   obtain ⟨x6,hx6,ax6,bx6,cx6,hs0_⟩:=bE (f:=Zi) Zmx (fun _=>rfl) (by decide) hs0_
   have g7:=Zb9 (f:=Zi) (off:=1) (sz:=12) Zso (fun _=>rfl) (by decide) (by decide) hx6
   obtain ⟨y8,hy8,hs0_⟩:=bC hs0_
   refine Zss [] ax6 bx6 cx6 g7 ?_
   refine (Zhe hy8).then ?_
   refine zF4 ax6 bx6 cx6 g7 ?_
   refine zD [1,2,3,7] [true] ?_
   refine zR ?_
   exact zEn hs0_
  replace hs0_:=Zo c9 hs0_
  exact zEx hs0_
 try simp only [Y2,Z7,↓reduceIte,Nat.reduceEqDiff]
 refine zDs [1,2,3] [true] ?_
 refine zQd [1,2,3,8] [1,2,3,8] [true] ?_
 obtain ⟨z27,hz27,h⟩:=bC h
 refine Yz (E':=⟨107,[],[(2,(vI z27))]⟩) (O':=(Zv O n [none])) (n0:=(n+1)) ?_ ?_
 ·refine Xe hz27 (fun s1_=>⟨107,[],[(1,(vI a1)),(2,(vI s1_.1)),(3,.ref n 0),(8,(vI s1_.2))]⟩) (fun s1_=>(Zv O n [some ⟨false,30,11,1,(Zf a0)⟩])) (fun z27=>JX 2 n (⟨107,[],[(2,(vI z27))]⟩:Env) (Zv O n [none]) (n+1)) ?_
  intro s1_ x1_ hs1_
  unfold Xy at hs1_
  try dsimp only
  refine Zg ?_
  refine zQD [1,2,3,8,65] [none,none] ?_
  refine Zq (t:=(cond (decide (s1_.2 < (a0.Ops.length:Int))) (decide (0≤s1_.1)) false)) rfl (fun c26 => ?_) (fun c26 => ?_)
  ·replace hs1_:=Zp c26 hs1_
   refine Q7 [1,2,3,8] [true] ?_
   obtain ⟨z11,hz11,hs1_⟩:=bC hs1_
   refine Y1 (E':=⟨107,[],[(1,(vI a1)),(2,(vI z11)),(3,.ref n 0),(8,(vI s1_.2))]⟩) (O':=(Zv O n [some ⟨false,30,11,1,(Zf a0)⟩])) (n0:=(n+1)) ?_ ?_
   ·refine Yg ?_
    refine Zg ?_
    refine zQd [1,2,3,8,9] [1,2,3,8,9] [true] ?_
    obtain ⟨z21,hz21,hz11⟩:=bC hz11
    refine Yz (E':=⟨107,[],[(1,(vI a1)),(2,(vI z21)),(3,.ref n 0),(8,(vI s1_.2))]⟩) (O':=(Zv O n [some ⟨false,30,11,1,(Zf a0)⟩])) (n0:=(n+1)) ?_ ?_
    ·refine Xe hz21 (fun s2_=>⟨107,[],[(1,(vI a1)),(2,(vI s2_.1)),(3,.ref n 0),(8,(vI s1_.2)),(9,(vI s2_.2))]⟩) (fun s2_=>(Zv O n [some ⟨false,30,11,1,(Zf a0)⟩])) (fun z21=>JX 4 n (⟨107,[],[(1,(vI a1)),(2,(vI z21)),(3,.ref n 0),(8,(vI s1_.2))]⟩:Env) (Zv O n [some ⟨false,30,11,1,(Zf a0)⟩]) (n+1)) ?_
     intro s2_ x2_ hs2_
     unfold Qg at hs2_
     try dsimp only
     refine Zg ?_
     obtain ⟨x14,hx14,ax14,bx14,cx14,hs2_⟩:=bE (f:=Ze) Zfv (fun _=>rfl) (by decide) hs2_
     have g15:=Zb9 (f:=Ze) (off:=2) (sz:=14) Z4a (fun _=>rfl) (by decide) (by decide) hx14
     refine Zni [1,2,3,8,9,80] (Yx Z4 [none,none] ?_)
     refine zF4 ax14 bx14 cx14 g15 ?_
     refine zG ?_
     refine Zq (t:=(cond (decide (s2_.2 < (x14.L.length:Int))) (decide (0≤s2_.1)) false)) rfl (fun c20 => ?_) (fun c20 => ?_)
     ·replace hs2_:=Zp c20 hs2_
      refine Q7 [1,2,3,8,9] [true] ?_
      refine Zg ?_
      refine Yg ?_
      obtain ⟨x16,hx16,ax16,bx16,cx16,hs2_⟩:=bE (f:=Ze) Zfv (fun _=>rfl) (by decide) hs2_
      have g17:=Zb9 (f:=Ze) (off:=2) (sz:=14) Z4a (fun _=>rfl) (by decide) (by decide) hx16
      obtain ⟨x18,hx18,ax18,bx18,cx18,hs2_⟩:=bE (f:=Za) V5 (fun _=>rfl) (by decide) hs2_
      obtain ⟨y19,hy19,hs2_⟩:=bC hs2_
      refine Yer [] ax16 bx16 cx16 g17 ax18 bx18 cx18 ?_
      refine (Gk hy19).then ?_
      refine zF7 ax16 bx16 cx16 g17 ax18 bx18 cx18 ?_
      refine zD [1,2,3,8,9] [true] ?_
      refine zR ?_
      exact zEn hs2_
     replace hs2_:=Zo c20 hs2_
     exact zEx hs2_
    try simp only [Y2,Z7,↓reduceIte,Nat.reduceEqDiff]
    refine zD [1,2,3,8] [true] ?_
    refine zQ [1,2,3,8,95] ?_
    refine Zq (t:=(decide (0≤z21))) rfl (fun c25 => ?_) (fun c25 => ?_)
    ·replace hz11:=Zp c25 hz11
     obtain ⟨x22,hx22,ax22,bx22,cx22,hz11⟩:=bE (f:=Ze) Zfv (fun _=>rfl) (by decide) hz11
     have g23:=Zb9 (f:=Ze) (off:=3) (sz:=14) Zso (fun _=>rfl) (by decide) (by decide) hx22
     obtain ⟨y24,hy24,hz11⟩:=bC hz11
     refine Zss [] ax22 bx22 cx22 g23 ?_
     refine (Zhe hy24).then ?_
     refine zF4 ax22 bx22 cx22 g23 ?_
     exact Z8e hz11 ax22 bx22 cx22 g23
    replace hz11:=Zo c25 hz11
    refine zK ?_
    exact zEn hz11
   refine zR ?_
   exact zEn hs1_
  replace hs1_:=Zo c26 hs1_
  exact zEx hs1_
 try simp only [Y2,Z7,↓reduceIte,Nat.reduceEqDiff]
 refine zD [2] [false] ?_
 refine zQ [6] ?_
 exact Yn [(vI z27)]
theorem Zlp:∀ k,(Zhd (Z9 k)):=fun k=>by
 induction k with
 | zero=>exact @fun a0 a1 a2 r O n h=>(nomatch (show (none:Option _)=some _ from h))
 | succ k ih=>exact @fun a0 a1 a2 r O n h=>Znu (ih)  h
theorem Zov {a0:Zc} {a1:Int} {a2:Int} {r:Int} {O:Objs} {n:Nat} (h:Zct a0 a1 a2=some r):GTo Try.prog 65 [.agg (Zf a0),(vI a1),(vI a2)] O n ((vI r)) O n:=by
 obtain ⟨k,hk⟩:=Un h
 exact (Zlp k)  hk
theorem Zfl {a0:Zc} {r:Bool} {O:Objs} {n:Nat} (h:Vk a0=some r):GTo Try.prog 42 [.agg (Zf a0)] O n ((vB r)) O n:=by
 unfold Vk at h
 refine zFn Try.call42 Try.func42 fun hU hN0 hN => ?_
 show W _ _ _ _ ⟨6,[],[(0,.agg (Zf a0))]⟩ (Zv O n []) _
 refine zQ [1] ?_
 refine Zg ?_
 obtain ⟨y2,hy2,h⟩:=bC h
 refine zCd (Zov hy2) [2] [false] ?_
 exact Yn [(vB (decide (0≤y2)))]
theorem Vn {a0:Zb} {r:Bool} {O:Objs} {n:Nat} (h:Jg a0=some r):GTo Try.prog 66 [.agg (Zd a0)] O n ((vB r)) O n:=by
 unfold Jg at h
 refine zFn Try.call66 Try.func66 fun hU hN0 hN => ?_
 show W _ _ _ _ ⟨16,[],[(0,.agg (Zd a0))]⟩ (Zv O n []) _
 refine zQ [1] ?_
 refine zQD [2] [none,none,none,none,none,none,none,none] ?_
 exact Yn [(vB (cond (a0.Kind == 0) ((IntKind.i64.wrap ((a0.Words.length:Int)+(a0.Kids.length:Int))) == 0) false))]
theorem Zht {a0:Int} {r:(Arr Int 8)} {O:Objs} {n:Nat} (h:Vi a0=some r):GTo Try.prog 136 [.val (.int .u64 a0)] O n (.agg (fl (eI .u8) r.1)) O n:=by
 unfold Vi at h
 refine zFn Try.call136 Try.func136 fun hU hN0 hN => ?_
 show W _ _ _ _ ⟨18,[],[(0,.val (.int .u64 a0))]⟩ (Zv O n []) _
 obtain ⟨y3,hy3,ey3,h⟩:=bY (f:=(eI .u8)) (cs:=[.val (.int .u8 0),.val (.int .u8 0),.val (.int .u8 0),.val (.int .u8 0),.val (.int .u8 0),.val (.int .u8 0),.val (.int .u8 0),.val (.int .u8 0)]) rfl h
 have g4:=congrArg (GObj.mk false 154 8 1) ey3
 refine Yi8 [0,2] g4 ?_
 refine Zg ?_
 obtain ⟨y9,hy9,ey9,h⟩:=bY (f:=(eI .u8)) (cs:=[.val (.int .u8 0),.val (.int .u8 0),.val (.int .u8 0),.val (.int .u8 0),.val (.int .u8 0),.val (.int .u8 0),.val (.int .u8 0),.val (.int .u8 0)]) rfl h
 have g10:=congrArg G.agg ey9
 have g11:=congrArg (GObj.mk false 154 8 1) ey9
 have g12:=Zh9 (f:=(eI .u8)) y9 y9 (fun _=>rfl)
 refine Zdt [] g10 g11 g12 ?_
 refine zDs [0,2,3] [true,true] ?_
 refine zQd [0,2,3,4] [0,2,3,4] [true,true] ?_
 obtain ⟨z18,hz18,h⟩:=bC h
 refine Yz (E':=⟨18,[],[(2,.ref n 0),(3,.ref (n+1) 0)]⟩) (O':=(Zv O n [some ⟨false,154,8,1,fl (eI .u8) y3.1⟩,some ⟨false,154,8,1,fl (eI .u8) z18.1⟩])) (n0:=(n+2)) ?_ ?_
 ·refine Xe hz18 (fun s0_=>⟨18,[],[(0,.val (.int .u64 s0_.1)),(2,.ref n 0),(3,.ref (n+1) 0),(4,(vI s0_.2.1))]⟩) (fun s0_=>(Zv O n [some ⟨false,154,8,1,fl (eI .u8) y3.1⟩,some ⟨false,154,8,1,fl (eI .u8) s0_.2.2.1⟩])) (fun z18=>JX 0 n (⟨18,[],[(2,.ref n 0),(3,.ref (n+1) 0)]⟩:Env) (Zv O n [some ⟨false,154,8,1,fl (eI .u8) y3.1⟩,some ⟨false,154,8,1,fl (eI .u8) z18.1⟩]) (n+2)) ?_
  intro s0_ x0_ hs0_
  unfold Vc at hs0_
  try dsimp only
  refine Zg ?_
  refine zQ [0,2,3,4,7] ?_
  refine Zq (t:=(decide (s0_.2.1 < 8))) rfl (fun c17 => ?_) (fun c17 => ?_)
  ·replace hs0_:=Zp c17 hs0_
   refine Q7 [0,2,3,4] [true,true] ?_
   refine Zg ?_
   refine Yg ?_
   refine Zg ?_
   obtain ⟨x15,hx15,ax15,bx15,cx15,hs0_⟩:=bEA (f:=(eI .u8)) (b:=8) rfl Z4c (fun _=>rfl) (by decide) hs0_
   have gu16:Kt (fl (eI .u8) s0_.2.2.1) [.val (.int .u8 (IntKind.u8.wrap (Int.tmod s0_.1 256)))] (Int.toNat s0_.2.1 * 1)=some (fl (eI .u8) (Zgm s0_.2.2.1 s0_.2.1 (IntKind.u8.wrap (Int.tmod s0_.1 256)))):=Zj9 (f:=(eI .u8)) (ti:=⟨.bool,1,0,[],false⟩) (x:=(IntKind.u8.wrap (Int.tmod s0_.1 256))) (fun _=>rfl) (Zfe hx15)
   refine Zss [] ax15 bx15 cx15 gu16 ?_
   refine zD [0,2,3,4] [true,true] ?_
   refine zRd [0,2,3,4] [true,true] ?_
   refine zR ?_
   exact zEn hs0_
  replace hs0_:=Zo c17 hs0_
  exact zEx hs0_
 try simp only [Y2,Z7,↓reduceIte,Nat.reduceEqDiff]
 refine zDs [2,3] [true,true] ?_
 have g21:=Zx6 (f:=(eI .u8)) z18 Zwd rfl (fun _=>rfl) rfl
 have g22:=Zh9 (f:=(eI .u8)) y3 z18 (fun _=>rfl)
 refine Ju [] g21 g22 ?_
 refine zD [2] [true,false] ?_
 refine zW ?_
 have h:=Option.some.inj h;subst h
 have gR0:=Zx6 (f:=(eI .u8)) z18 Zwd rfl (fun _=>rfl) rfl
 refine Zy5 (.inr rfl) hU [.agg (fl (eI .u8) z18.1)] (by omega) ?_
 simp only [push_cast,seval,↓reduceIte,Zk,Try.results136,hN0,hN,gR0]
theorem Znn {a0:Int} {a1:Int} {r:Bool} {O:Objs} {n:Nat} (h:Gc a0 a1=some r):GTo Try.prog 137 [.val (.int .u8 a0),(vI a1)] O n ((vB r)) O n:=by
 unfold Gc at h
 refine zFn Try.call137 Try.func137 fun hU hN0 hN => ?_
 show W _ _ _ _ ⟨16,[],[(0,.val (.int .u8 a0)),(1,(vI a1))]⟩ (Zv O n []) _
 refine zQ [0,1] ?_
 refine Zg ?_
 refine zQd [0,1,5] [0,1,5] [] ?_
 obtain ⟨z2,hz2,h⟩:=bC h
 refine Yz (E':=⟨16,[],[(0,.val (.int .u8 z2))]⟩) (O':=(Zv O n [])) (n0:=n) ?_ ?_
 ·refine Xe hz2 (fun s0_=>⟨16,[],[(0,.val (.int .u8 s0_.1)),(1,(vI a1)),(5,(vI s0_.2))]⟩) (fun s0_=>(Zv O n [])) (fun z2=>JX 0 n (⟨16,[],[(0,.val (.int .u8 z2))]⟩:Env) (Zv O n []) n) ?_
  intro s0_ x0_ hs0_
  unfold Jp at hs0_
  try dsimp only
  refine Zg ?_
  refine zQ [0,1,5,8] ?_
  refine Zq (t:=(decide (s0_.2 < a1))) rfl (fun c1 => ?_) (fun c1 => ?_)
  ·replace hs0_:=Zp c1 hs0_
   refine Q7 [0,1,5] [] ?_
   refine Zg ?_
   refine Yg ?_
   refine zRd [0,1,5] [] ?_
   refine zR ?_
   exact zEn hs0_
  replace hs0_:=Zo c1 hs0_
  exact zEx hs0_
 try simp only [Y2,Z7,↓reduceIte,Nat.reduceEqDiff]
 refine zD [0] [] ?_
 refine zQ [4] ?_
 exact Yn [(vB ((Int.tmod z2 2) == 1))]
theorem Zrn {a0:(List Int)} {a1:Int} {r:Int} {O:Objs} {n:Nat} (h:Zek a0 a1=some r):GTo Try.prog 138 [(sL (eI .u8) a0),(vI a1)] O n (.val (.int .u64 r)) O n:=by
 unfold Zek at h
 refine zFn Try.call138 Try.func138 fun hU hN0 hN => ?_
 show W _ _ _ _ ⟨22,[],[(0,(sL (eI .u8) a0)),(1,(vI a1))]⟩ (Zv O n []) _
 refine zQ [0,1] ?_
 refine zQ [0,1,5] ?_
 refine Zg ?_
 refine zQd [0,1,5,6] [0,1,5,6] [] ?_
 obtain ⟨z3,hz3,h⟩:=bC h
 refine Yz (E':=⟨22,[],[(5,.val (.int .u64 z3))]⟩) (O':=(Zv O n [])) (n0:=n) ?_ ?_
 ·refine Xe hz3 (fun s0_=>⟨22,[],[(0,(sL (eI .u8) a0)),(1,(vI a1)),(5,.val (.int .u64 s0_.1)),(6,(vI s0_.2))]⟩) (fun s0_=>(Zv O n [])) (fun z3=>JX 0 n (⟨22,[],[(5,.val (.int .u64 z3))]⟩:Env) (Zv O n []) n) ?_
  intro s0_ x0_ hs0_
  unfold Gd at hs0_
  try dsimp only
  refine Zg ?_
  refine zQ [0,1,5,6,8] ?_
  refine Zq (t:=(decide (0≤s0_.2))) rfl (fun c2 => ?_) (fun c2 => ?_)
  ·replace hs0_:=Zp c2 hs0_
   refine Q7 [0,1,5,6] [] ?_
   refine Zg ?_
   refine Yg ?_
   obtain ⟨x1,hx1,ax1,bx1,cx1,hs0_⟩:=bE (f:=(eI .u8)) Z4c (fun _=>rfl) (by decide) hs0_
   refine Zao [] ax1 bx1 cx1 ?_
   refine zD [0,1,5,6] [] ?_
   refine zR ?_
   exact zEn hs0_
  replace hs0_:=Zo c2 hs0_
  exact zEx hs0_
 try simp only [Y2,Z7,↓reduceIte,Nat.reduceEqDiff]
 refine zD [5] [] ?_
 refine zQ [4] ?_
 exact Yn [.val (.int .u64 z3)]
theorem Zp6 {a0:Int} {a1:Int} {a2:Int} {r:Int} {O:Objs} {n:Nat} (h:Zaw a0 a1 a2=some r):GTo Try.prog 96 [.val (.int .u64 a0),.val (.int .u64 a1),.val (.int .u8 a2)] O n (.val (.int .u64 r)) O n:=by
 unfold Zaw at h
 refine zFn Try.call96 Try.func96 fun hU hN0 hN => ?_
 show W _ _ _ _ ⟨28,[],[(0,.val (.int .u64 a0)),(1,.val (.int .u64 a1)),(2,.val (.int .u8 a2))]⟩ (Zv O n []) _
 refine zQ [0,1,2] ?_
 refine Zg ?_
 obtain ⟨y8,hy8,h⟩:=bC h
 obtain ⟨y9,hy9,h⟩:=bC h
 obtain ⟨y10,hy10,ey10,h⟩:=bY (f:=(eI .u8)) (cs:=[.val (.int .u8 0),.val (.int .u8 0),.val (.int .u8 0),.val (.int .u8 0),.val (.int .u8 0),.val (.int .u8 0),.val (.int .u8 0),.val (.int .u8 0)]) rfl h
 have g11:=congrArg (GObj.mk false 154 8 1) ey10
 have g12:=congrArg (GObj.mk false 154 8 1) ey10
 have g13:=Zh9 (f:=(eI .u8)) y10 y8 (fun _=>rfl)
 have g14:=Zh9 (f:=(eI .u8)) y10 y9 (fun _=>rfl)
 refine Zm1 [] g11 g12 g13 g14 ?_
 refine (Zht hy8).then ?_
 refine zX4 g11 g12 g13 g14 ?_
 refine (Zht hy9).then ?_
 refine zX4 g11 g12 g13 g14 ?_
 refine zDs [2,7,8] [true,true] ?_
 refine zQd [2,7,8,9] [2,7,8,9] [true,true] ?_
 obtain ⟨z23,hz23,h⟩:=bC h
 refine Yz (E':=⟨28,[],[(7,.ref n 0)]⟩) (O':=(Zv O n [some ⟨false,154,8,1,fl (eI .u8) z23.1⟩,none])) (n0:=(n+2)) ?_ ?_
 ·refine Xe hz23 (fun s0_=>⟨28,[],[(2,.val (.int .u8 a2)),(7,.ref n 0),(8,.ref (n+1) 0),(9,(vI s0_.1))]⟩) (fun s0_=>(Zv O n [some ⟨false,154,8,1,fl (eI .u8) s0_.2.1⟩,some ⟨false,154,8,1,fl (eI .u8) y9.1⟩])) (fun z23=>JX 0 n (⟨28,[],[(7,.ref n 0)]⟩:Env) (Zv O n [some ⟨false,154,8,1,fl (eI .u8) z23.1⟩,none]) (n+2)) ?_
  intro s0_ x0_ hs0_
  unfold Uo at hs0_
  try dsimp only
  refine Zg ?_
  refine zQ [2,7,8,9,15] ?_
  refine Zq (t:=(decide (s0_.1 < 8))) rfl (fun c22 => ?_) (fun c22 => ?_)
  ·replace hs0_:=Zp c22 hs0_
   refine Q7 [2,7,8,9] [true,true] ?_
   obtain ⟨z15,hz15,hs0_⟩:=bC hs0_
   refine Y1 (E':=⟨28,[],[(2,.val (.int .u8 a2)),(7,.ref n 0),(8,.ref (n+1) 0),(9,(vI s0_.1))]⟩) (O':=(Zv O n [some ⟨false,154,8,1,fl (eI .u8) z15.1⟩,some ⟨false,154,8,1,fl (eI .u8) y9.1⟩])) (n0:=(n+2)) ?_ ?_
   ·refine Yg ?_
    refine Zg ?_
    obtain ⟨y17,hy17,hz15⟩:=bC hz15
    refine zCd (Znn hy17) [2,7,8,9,20] [true,true] ?_
    refine Zq (t:=y17) rfl (fun c21 => ?_) (fun c21 => ?_)
    ·replace hz15:=Zp c21 hz15
     obtain ⟨x18,hx18,ax18,bx18,cx18,hz15⟩:=bEA (f:=(eI .u8)) (b:=8) rfl Z4c (fun _=>rfl) (by decide) hz15
     obtain ⟨x19,hx19,ax19,bx19,cx19,hz15⟩:=bEA (f:=(eI .u8)) (b:=8) rfl Z4c (fun _=>rfl) (by decide) hz15
     have gu20:Kt (fl (eI .u8) s0_.2.1) [.val (.int .u8 x18)] (Int.toNat s0_.1 * 1)=some (fl (eI .u8) (Zgm s0_.2.1 s0_.1 x18)):=Zj9 (f:=(eI .u8)) (ti:=⟨.bool,1,0,[],false⟩) (x:=x18) (fun _=>rfl) (Zfe hx19)
     refine Yer [] ax18 bx18 cx18 ax19 bx19 cx19 gu20 ?_
     exact Yep hz15 ax18 bx18 cx18 ax19 bx19 cx19 gu20
    replace hz15:=Zo c21 hz15
    refine zK ?_
    exact zEn hz15
   refine zR ?_
   exact zEn hs0_
  replace hs0_:=Zo c22 hs0_
  exact zEx hs0_
 try simp only [Y2,Z7,↓reduceIte,Nat.reduceEqDiff]
 refine zDs [7] [true,false] ?_
 have g27:=Z42 (j:=n) Zqq Z4c (by decide)
 have g28:=z23.2
 obtain ⟨y29,hy29,h⟩:=bC h
 refine Ju [] g27 g28 ?_
 refine GCalls.lend (Zrn hy29) rfl ?_ ?_
 ·exact Q9 g27 g28
 refine zX2 g27 g28 ?_
 refine zD [6] [false,false] ?_
 exact Yn [.val (.int .u64 y29)]
theorem Zc8 {a0:Int} {a1:Int} {r:Bool} {O:Objs} {n:Nat} (h:K0 a0 a1=some r):GTo Try.prog 67 [.val (.int .u64 a0),.val (.int .u8 a1)] O n ((vB r)) O n:=by
 unfold K0 at h
 refine zFn Try.call67 Try.func67 fun hU hN0 hN => ?_
 show W _ _ _ _ ⟨9,[],[(0,.val (.int .u64 a0)),(1,.val (.int .u8 a1))]⟩ (Zv O n []) _
 refine zQ [0,1] ?_
 refine Zg ?_
 obtain ⟨y2,hy2,h⟩:=bC h
 refine zCd (Zp6 hy2) [4] [] ?_
 exact Yn [(vB (y2 == 0))]
theorem Zij {a0:Zc} {r:Bool} {O:Objs} {n:Nat} (h:V9 a0=some r):GTo Try.prog 97 [.agg (Zf a0)] O n ((vB r)) O n:=by
 unfold V9 at h
 refine zFn Try.call97 Try.func97 fun hU hN0 hN => ?_
 show W _ _ _ _ ⟨35,[],[(0,.agg (Zf a0))]⟩ (Zv O n []) _
 refine zQ [1] ?_
 obtain ⟨z3,hz3,h⟩:=bC h
 refine Y1 (E':=⟨35,[],[(2,(vB z3))]⟩) (O':=(Zv O n [none])) (n0:=(n+1)) ?_ ?_
 ·rcases Bool.eq_false_or_eq_true (a0.Kind == 0) with c8 | c8
  ·replace hz3:=Zp c8 hz3
   obtain ⟨y6,hy6,hz3⟩:=bC hz3
   rcases Bool.eq_false_or_eq_true y6 with c9 | c9
   ·replace hz3:=Zp c9 hz3
    try rw [c9] at c8
    obtain ⟨y7,hy7,hz3⟩:=bC hz3
    refine Ju [some true,some true,some true,some true,some true,some true,none,none,none,none,none,none,none,none,none,none,none,none,none,none,none] c8 c9 ?_
    refine zG ?_
    refine (Vn hy6).then ?_
    refine zX2 c8 c9 ?_
    refine zG ?_
    refine (Vn hy7).then ?_
    refine zX2 c8 c9 ?_
    refine zG ?_
    exact Gl hz3 c8 c9
   replace hz3:=Zo c9 hz3
   try rw [c9] at c8
   refine Ju [some true,some true,some true,some false,some false,some false,some false,some false,some false,some false,some false,some false,some false,some false,some false,some false,some false,some false,some false,some false,some false] c8 c9 ?_
   refine (Vn hy6).then ?_
   refine zX2 c8 c9 ?_
   exact Gl hz3 c8 c9
  replace hz3:=Zo c8 hz3
  refine Jl [some false,some false,some false,some false,some false,some false,some false,some false,some false,some false,some false,some false,some false,some false,some false,some false,some false,some false,some false,some false,some false] c8 ?_
  exact Qx hz3 c8
 exact Yn [(vB z3)]
theorem Zf2 {a0:Zc} {r:(Int×Int)} {O:Objs} {n:Nat} (h:J6 a0=some r):GTo Try.prog 69 [.agg (Zf a0)] O n (.tup [(vI r.1),(vI r.2)]) O n:=by
 unfold J6 at h
 refine zFn Try.call69 Try.func69 fun hU hN0 hN => ?_
 show W _ _ _ _ ⟨48,[],[(0,.agg (Zf a0))]⟩ (Zv O n []) _
 refine zQ [1] ?_
 refine zQ [1,4,5] ?_
 refine Zg ?_
 refine zQd [1,4,5,6] [1,4,5,6] [true] ?_
 obtain ⟨z14,hz14,h⟩:=bC h
 refine Yz (E':=⟨48,[],[(4,(vI z14.1)),(5,(vI z14.2))]⟩) (O':=(Zv O n [none])) (n0:=(n+1)) ?_ ?_
 ·refine Xe hz14 (fun s0_=>⟨48,[],[(1,.ref n 0),(4,(vI s0_.1)),(5,(vI s0_.2.1)),(6,(vI s0_.2.2))]⟩) (fun s0_=>(Zv O n [some ⟨false,30,11,1,(Zf a0)⟩])) (fun z14=>JX 0 n (⟨48,[],[(4,(vI z14.1)),(5,(vI z14.2))]⟩:Env) (Zv O n [none]) (n+1)) ?_
  intro s0_ x0_ hs0_
  unfold J7 at hs0_
  try dsimp only
  refine Zg ?_
  refine zQ [1,4,5,6,13] ?_
  refine Zq (t:=(decide (s0_.2.2 < (a0.Ops.length:Int)))) rfl (fun c13 => ?_) (fun c13 => ?_)
  ·replace hs0_:=Zp c13 hs0_
   refine Q7 [1,4,5,6] [true] ?_
   obtain ⟨z1,hz1,hs0_⟩:=bC hs0_
   refine Y1 (E':=⟨48,[],[(1,.ref n 0),(4,(vI z1.1)),(5,(vI z1.2)),(6,(vI s0_.2.2))]⟩) (O':=(Zv O n [some ⟨false,30,11,1,(Zf a0)⟩,none])) (n0:=(n+2)) ?_ ?_
   ·refine Yg ?_
    refine Zg ?_
    obtain ⟨x3,hx3,ax3,bx3,cx3,hz1⟩:=bE (f:=Ze) Zfv (fun _=>rfl) (by decide) hz1
    refine Zao [] ax3 bx3 cx3 ?_
    refine zD [1,4,5,6,7] [true,true] ?_
    refine zQ [1,4,5,6,7,8] ?_
    obtain ⟨z4,hz4,hz1⟩:=bC hz1
    refine Y1 (E':=⟨48,[],[(1,.ref n 0),(4,(vI s0_.1)),(5,(vI s0_.2.1)),(6,(vI s0_.2.2)),(7,.ref (n+1) 0),(8,(vI z4))]⟩) (O':=(Zv O n [some ⟨false,30,11,1,(Zf a0)⟩,some ⟨false,75,14,1,(Y6 x3)⟩])) (n0:=(n+2)) ?_ ?_
    ·refine zQ [1,4,5,6,7,8,29] ?_
     refine Zq (t:=(x3.Kind == 3)) rfl (fun c5 => ?_) (fun c5 => ?_)
     ·replace hz4:=Zp c5 hz4
      refine zR ?_
      exact zEn hz4
     replace hz4:=Zo c5 hz4
     refine zK ?_
     exact zEn hz4
    obtain ⟨z6,hz6,hz1⟩:=bC hz1
    refine Y1 (E':=⟨48,[],[(1,.ref n 0),(4,(vI z6)),(5,(vI s0_.2.1)),(6,(vI s0_.2.2)),(7,.ref (n+1) 0),(8,(vI z4))]⟩) (O':=(Zv O n [some ⟨false,30,11,1,(Zf a0)⟩,some ⟨false,75,14,1,(Y6 x3)⟩])) (n0:=(n+2)) ?_ ?_
    ·refine zQ [1,4,5,6,7,8,32] ?_
     refine Zq (t:=(x3.Kind != 2)) rfl (fun c7 => ?_) (fun c7 => ?_)
     ·replace hz6:=Zp c7 hz6
      refine zR ?_
      exact zEn hz6
     replace hz6:=Zo c7 hz6
     refine zK ?_
     exact zEn hz6
    obtain ⟨z8,hz8,hz1⟩:=bC hz1
    refine Y1 (E':=⟨48,[],[(1,.ref n 0),(4,(vI z6)),(5,(vI z8)),(6,(vI s0_.2.2))]⟩) (O':=(Zv O n [some ⟨false,30,11,1,(Zf a0)⟩,none])) (n0:=(n+2)) ?_ ?_
    ·refine zQ [1,4,5,6,8,38] ?_
     refine Zq (t:=(x3.Kind != 1)) rfl (fun c9 => ?_) (fun c9 => ?_)
     ·replace hz8:=Zp c9 hz8
      refine zR ?_
      exact zEn hz8
     replace hz8:=Zo c9 hz8
     refine zK ?_
     exact zEn hz8
    obtain ⟨z10,hz10,hz1⟩:=bC hz1
    refine Y1 (E':=⟨48,[],[(1,.ref n 0),(4,(vI z10)),(5,(vI z8)),(6,(vI s0_.2.2))]⟩) (O':=(Zv O n [some ⟨false,30,11,1,(Zf a0)⟩,none])) (n0:=(n+2)) ?_ ?_
    ·refine zQ [1,4,5,6,43] ?_
     refine Zq (t:=(decide (1048576 < z6))) rfl (fun c11 => ?_) (fun c11 => ?_)
     ·replace hz10:=Zp c11 hz10
      refine zR ?_
      exact zEn hz10
     replace hz10:=Zo c11 hz10
     refine zK ?_
     exact zEn hz10
    refine zQ [1,4,5,6,45] ?_
    refine Zq (t:=(decide (1048576 < z8))) rfl (fun c12 => ?_) (fun c12 => ?_)
    ·replace hz1:=Zp c12 hz1
     refine zR ?_
     exact zEn hz1
    replace hz1:=Zo c12 hz1
    refine zK ?_
    exact zEn hz1
   refine zR ?_
   exact zEn hs0_
  replace hs0_:=Zo c13 hs0_
  exact zEx hs0_
 try simp only [Y2,Z7,↓reduceIte,Nat.reduceEqDiff]
 refine zD [4,5] [false] ?_
 refine zQ [2,3] ?_
 exact Yn [(vI z14.1),(vI z14.2)]
attribute [local push_cast] Try.results108 Try.results11 Try.results43 Try.results44 Try.results46 Try.results52 Try.results68 Try.results73 Try.results74 Try.results82 Try.results83 Try.results84
def Zcg (Xj:(Zc→Int→Option Bool)):Prop:=∀ {a0:Zc} {a1:Int} {r:Bool} {O:Objs} {n:Nat},Xj a0 a1=some r→GTo Try.prog 43 [.agg (Zf a0),(vI a1)] O n ((vB r)) O n
def Zet (X8:(Int→Zj→Int→Option Bool)):Prop:=∀ {a0:Int} {a1:Zj} {a2:Int} {r:Bool} {O:Objs} {n:Nat},X8 a0 a1 a2=some r→GTo Try.prog 68 [(vI a0),.agg (Y6 a1),(vI a2)] O n ((vB r)) O n
theorem Zmj {Xj:(Zc→Int→Option Bool)} {X8:(Int→Zj→Int→Option Bool)} (Zch:Zcg Xj) (Zil:Zet X8) {a0:Zc} {a1:Int} {r:Bool} {O:Objs} {n:Nat} (h:U1 Xj X8 a0 a1=some r):GTo Try.prog 43 [.agg (Zf a0),(vI a1)] O n ((vB r)) O n:=by
 unfold U1 at h
 refine zFn Try.call43 Try.func43 fun hU hN0 hN => ?_
 show W _ _ _ _ ⟨216,[],[(0,.agg (Zf a0)),(1,(vI a1))]⟩ (Zv O n []) _
 refine zQ [1,2] ?_
 refine Zg ?_
 refine zQD [1,2,24] [none,none,none,none,none,none] ?_
 refine Zq (t:=(cond (cond (a1 == 0) true (decide (a0.Kind < 0))) true (decide (3 < a0.Kind)))) rfl (fun c58 => ?_) (fun c58 => ?_)
 ·replace h:=Zp c58 h
  refine zQ [4] ?_
  exact Yn [(vB false)]
 replace h:=Zo c58 h
 refine Q7 [1,2] [true] ?_
 refine Zg ?_
 obtain ⟨z3,hz3,h⟩:=bC h
 refine Y1 (E':=⟨216,[],[(1,(vI a1)),(2,.ref n 0),(69,(vB z3))]⟩) (O':=(Zv O n [some ⟨false,30,11,1,(Zf a0)⟩])) (n0:=(n+1)) ?_ ?_
 ·rcases Bool.eq_false_or_eq_true (a0.Kind != 1) with c8 | c8
  ·replace hz3:=Zp c8 hz3
   obtain ⟨y6,hy6,hz3⟩:=bC hz3
   rcases Bool.eq_false_or_eq_true y6 with c9 | c9
   ·replace hz3:=Zp c9 hz3
    try rw [c9] at c8
    obtain ⟨y7,hy7,hz3⟩:=bC hz3
    refine Ju [some true,some true,some true,some true,some true,some true,some true,some true,some true,none,none,none,none,none,none,none,none,none,none,none,none,none,none,none,none,none,none,none,none,none,none,none,none,none,none,none] c8 c9 ?_
    refine zG ?_
    refine (Vn hy6).then ?_
    refine zX2 c8 c9 ?_
    refine zG ?_
    refine (Vn hy7).then ?_
    refine zX2 c8 c9 ?_
    refine zG ?_
    exact Gl hz3 c8 c9
   replace hz3:=Zo c9 hz3
   try rw [c9] at c8
   refine Ju [some true,some true,some true,some true,some false,some false,some false,some true,some true,some false,some false,some false,some false,some false,some false,some false,some false,some false,some false,some false,some false,some false,some false,some false,some false,some false,some false,some false,some false,some false,some false,some false,some false,some false,some false,some false] c8 c9 ?_
   refine (Vn hy6).then ?_
   refine zX2 c8 c9 ?_
   exact Gl hz3 c8 c9
  replace hz3:=Zo c8 hz3
  refine Jl [some false,some false,some false,some false,some false,some false,some false,some false,some false,some true,some true,some true,some true,none,none,none,none,none,none,none,none,some true,none,none,none,none,none,none,none,none,none,none,none,none,none,none] c8 ?_
  refine zG ?_
  exact Qx hz3 c8
 refine Zq (t:=z3) rfl (fun c57 => ?_) (fun c57 => ?_)
 ·replace h:=Zp c57 h
  refine zQ [4] ?_
  exact Yn [(vB false)]
 replace h:=Zo c57 h
 refine Q7 [1,2] [true] ?_
 refine Zg ?_
 refine zQ [1,2,72] ?_
 refine Zq (t:=(a0.Kind == 1)) rfl (fun c56 => ?_) (fun c56 => ?_)
 ·replace h:=Zp c56 h
  obtain ⟨z12,hz12,h⟩:=bC h
  refine Y1 (E':=⟨216,[],[(4,(vB z12))]⟩) (O':=(Zv O n [none])) (n0:=(n+1)) ?_ ?_
  ·obtain ⟨y15,hy15,hz12⟩:=bC hz12
   rcases Bool.eq_false_or_eq_true y15 with c17 | c17
   ·replace hz12:=Zp c17 hz12
    obtain ⟨y16,hy16,hz12⟩:=bC hz12
    refine Jl [some true,some true,some true,none,none,none,none,none,none,none,none] c17 ?_
    refine zG ?_
    refine (Uq hy15).then ?_
    refine zX1 c17 ?_
    refine zG ?_
    refine (Uq hy16).then ?_
    refine zX1 c17 ?_
    refine zG ?_
    exact Qx hz12 c17
   replace hz12:=Zo c17 hz12
   refine Jl [some false,some false,some false,some false,some false,some false,some false,some false,some false,some false,some false] c17 ?_
   refine (Uq hy15).then ?_
   refine zX1 c17 ?_
   exact Qx hz12 c17
  exact Yn [(vB z12)]
 replace h:=Zo c56 h
 refine Q7 [1,2] [true] ?_
 refine zQ [1,2,5] ?_
 refine Zg ?_
 refine zQd [1,2,5,6] [1,2,5,6] [true] ?_
 obtain ⟨z33,hz33,h⟩:=bC h
 refine Ux (J:=(Xl (fun z33=>JR n (⟨216,[],[(4,(vB false))]⟩:Env) (Zv O n [none]) (n+1)) (fun z33=>JX 0 n (⟨216,[],[(1,(vI a1)),(2,.ref n 0)]⟩:Env) (Zv O n [some ⟨false,30,11,1,(Zf a0)⟩]) (n+1)))) (z:=z33) ?_ fun hw => ?_
 ·refine Xe hz33 (fun s0_=>⟨216,[],[(1,(vI a1)),(2,.ref n 0),(5,(vI s0_.1)),(6,(vI s0_.2))]⟩) (fun s0_=>(Zv O n [some ⟨false,30,11,1,(Zf a0)⟩])) (Xl (fun z33=>JR n (⟨216,[],[(4,(vB false))]⟩:Env) (Zv O n [none]) (n+1)) (fun z33=>JX 0 n (⟨216,[],[(1,(vI a1)),(2,.ref n 0)]⟩:Env) (Zv O n [some ⟨false,30,11,1,(Zf a0)⟩]) (n+1))) ?_
  intro s0_ x0_ hs0_
  unfold Jm at hs0_
  try dsimp only
  refine Zg ?_
  refine zQ [1,2,5,6,97] ?_
  refine Zq (t:=(decide (s0_.2 < (a0.Words.length:Int)))) rfl (fun c32 => ?_) (fun c32 => ?_)
  ·replace hs0_:=Zp c32 hs0_
   refine Q7 [1,2,5,6] [true] ?_
   refine Zg ?_
   refine Yg ?_
   refine Zg ?_
   obtain ⟨x19,hx19,ax19,bx19,cx19,hs0_⟩:=bE (f:=Zm) Zyo (fun _=>rfl) (by decide) hs0_
   refine Zao [] ax19 bx19 cx19 ?_
   refine zDs [1,2,5,6,7] [true,true] ?_
   obtain ⟨z22,hz22,hs0_⟩:=bC hs0_
   refine Y1 (E':=⟨216,[],[(1,(vI a1)),(2,.ref n 0),(6,(vI s0_.2)),(7,.ref (n+1) 0),(134,(vB z22))]⟩) (O':=(Zv O n [some ⟨false,30,11,1,(Zf a0)⟩,some ⟨false,82,4,1,(Zav x19)⟩])) (n0:=(n+2)) ?_ ?_
   ·rcases Bool.eq_false_or_eq_true (decide (x19.At≤s0_.1)) with c27 | c27
    ·replace hz22:=Zp c27 hz22
     refine Jl [none,none,none,none,none,none,some false,some false,some false,some false,some false,some false,some false,some false,some false,some false,some false,some false] c27 ?_
     refine zG ?_
     exact Qx hz22 c27
    replace hz22:=Zo c27 hz22
    rcases Bool.eq_false_or_eq_true (decide (65534 < x19.At)) with c28 | c28
    ·replace hz22:=Zp c28 hz22
     try rw [c28] at c27
     refine Ju [none,none,none,none,none,none,some false,some false,some false,some false,some false,some false,some false,some false,some false,some false,some false,some false] c27 c28 ?_
     refine zG ?_
     exact Gl hz22 c27 c28
    replace hz22:=Zo c28 hz22
    try rw [c28] at c27
    rcases Bool.eq_false_or_eq_true (x19.Mask == 0) with c29 | c29
    ·replace hz22:=Zp c29 hz22
     try rw [c29] at c27
     try rw [c29] at c28
     refine Zdt [none,none,none,none,none,none,some false,some false,some false,some false,some false,some false,some false,some false,some false,some false,some false,some false] c27 c28 c29 ?_
     refine zG ?_
     exact Zf6 hz22 c27 c28 c29
    replace hz22:=Zo c29 hz22
    try rw [c29] at c27
    try rw [c29] at c28
    obtain ⟨y25,hy25,hz22⟩:=bC hz22
    rcases Bool.eq_false_or_eq_true y25 with c30 | c30
    ·replace hz22:=Zp c30 hz22
     try rw [c30] at c27
     try rw [c30] at c28
     try rw [c30] at c29
     obtain ⟨y26,hy26,hz22⟩:=bC hz22
     refine Zm1 [none,none,none,none,none,none,some true,some true,some true,some true,some true,some true,some true,some true,some true,some true,some true,some true] c27 c28 c29 c30 ?_
     refine zG ?_
     refine (Zc8 hy25).then ?_
     refine zX4 c27 c28 c29 c30 ?_
     refine zG ?_
     refine (Zc8 hy26).then ?_
     refine zX4 c27 c28 c29 c30 ?_
     refine zG ?_
     exact Zn3 hz22 c27 c28 c29 c30
    replace hz22:=Zo c30 hz22
    try rw [c30] at c27
    try rw [c30] at c28
    try rw [c30] at c29
    refine Zm1 [none,none,none,none,none,none,some true,some true,some true,some true,some true,some true,some false,some false,some false,some false,some false,some false] c27 c28 c29 c30 ?_
    refine zG ?_
    refine (Zc8 hy25).then ?_
    refine zX4 c27 c28 c29 c30 ?_
    refine zG ?_
    exact Zn3 hz22 c27 c28 c29 c30
   refine Zq (t:=z22) rfl (fun c31 => ?_) (fun c31 => ?_)
   ·replace hs0_:=Zp c31 hs0_
    refine zQ [4] ?_
    refine zW ?_
    exact zEy hs0_
   replace hs0_:=Zo c31 hs0_
   refine Q7 [1,2,6,7] [true,true] ?_
   refine zRd [1,2,5,6] [true,false] ?_
   refine zR ?_
   exact zEn hs0_
  replace hs0_:=Zo c32 hs0_
  exact zEx hs0_
 rcases z33 with z33 | z33
 ·dsimp only [Xl] at hw h
  refine Qy hw ?_
  try simp only [Y2,Z7,↓reduceIte,Nat.reduceEqDiff]
  exact Zhq [(vB false)]
 dsimp only [Xl] at hw h
 refine Yz hw ?_
 try simp only [Y2,Z7,↓reduceIte,Nat.reduceEqDiff]
 refine zD [1,2] [true] ?_
 refine zQ [1,2,5] ?_
 refine Zg ?_
 refine zQd [1,2,5,8] [1,2,5,8] [true] ?_
 obtain ⟨z45,hz45,h⟩:=bC h
 refine Ux (J:=(Xl (fun z45=>JR n (⟨216,[],[(4,(vB false))]⟩:Env) (Zv O n [none]) (n+1)) (fun z45=>JX 2 n (⟨216,[],[(1,(vI a1)),(2,.ref n 0)]⟩:Env) (Zv O n [some ⟨false,30,11,1,(Zf a0)⟩]) (n+1)))) (z:=z45) ?_ fun hw => ?_
 ·refine Xe hz45 (fun s1_=>⟨216,[],[(1,(vI a1)),(2,.ref n 0),(5,(vI s1_.1)),(8,(vI s1_.2))]⟩) (fun s1_=>(Zv O n [some ⟨false,30,11,1,(Zf a0)⟩])) (Xl (fun z45=>JR n (⟨216,[],[(4,(vB false))]⟩:Env) (Zv O n [none]) (n+1)) (fun z45=>JX 2 n (⟨216,[],[(1,(vI a1)),(2,.ref n 0)]⟩:Env) (Zv O n [some ⟨false,30,11,1,(Zf a0)⟩]) (n+1))) ?_
  intro s1_ x1_ hs1_
  unfold Jn at hs1_
  try dsimp only
  refine Zg ?_
  refine zQ [1,2,5,8,141] ?_
  refine Zq (t:=(decide (s1_.2 < (a0.Kids.length:Int)))) rfl (fun c44 => ?_) (fun c44 => ?_)
  ·replace hs1_:=Zp c44 hs1_
   refine Q7 [1,2,5,8] [true] ?_
   refine Zg ?_
   refine Yg ?_
   refine Zg ?_
   obtain ⟨x35,hx35,ax35,bx35,cx35,hs1_⟩:=bE (f:=Zi) Zmx (fun _=>rfl) (by decide) hs1_
   refine Zao [] ax35 bx35 cx35 ?_
   refine zDs [1,2,5,8,9] [true,true] ?_
   obtain ⟨z37,hz37,hs1_⟩:=bC hs1_
   refine Y1 (E':=⟨216,[],[(1,(vI a1)),(2,.ref n 0),(8,(vI s1_.2)),(9,.ref (n+1) 0),(171,(vB z37))]⟩) (O':=(Zv O n [some ⟨false,30,11,1,(Zf a0)⟩,some ⟨false,84,12,1,(Uf x35)⟩])) (n0:=(n+2)) ?_ ?_
   ·rcases Bool.eq_false_or_eq_true (decide (x35.At≤s1_.1)) with c40 | c40
    ·replace hz37:=Zp c40 hz37
     refine Jl [none,none,none,none,none,none,none,some false,some false,some false,some false,some false,some false] c40 ?_
     refine zG ?_
     exact Qx hz37 c40
    replace hz37:=Zo c40 hz37
    rcases Bool.eq_false_or_eq_true (decide (65534 < x35.At)) with c41 | c41
    ·replace hz37:=Zp c41 hz37
     try rw [c41] at c40
     refine Ju [none,none,none,none,none,none,none,some false,some false,some false,some false,some false,some false] c40 c41 ?_
     refine zG ?_
     exact Gl hz37 c40 c41
    replace hz37:=Zo c41 hz37
    try rw [c41] at c40
    rcases Bool.eq_false_or_eq_true (x35.E.Kind == 0) with c42 | c42
    ·replace hz37:=Zp c42 hz37
     try rw [c42] at c40
     try rw [c42] at c41
     refine Zdt [none,none,none,none,none,none,none,some false,some false,some false,some false,some false,some false] c40 c41 c42 ?_
     refine zG ?_
     exact Zf6 hz37 c40 c41 c42
    replace hz37:=Zo c42 hz37
    try rw [c42] at c40
    try rw [c42] at c41
    obtain ⟨y39,hy39,hz37⟩:=bC hz37
    refine Zdt [none,none,none,none,none,none,none,some true,some true,some true,some true,some true,some true] c40 c41 c42 ?_
    refine zG ?_
    refine (Zch hy39).then ?_
    refine zX3 c40 c41 c42 ?_
    refine zG ?_
    exact Zf6 hz37 c40 c41 c42
   refine Zq (t:=z37) rfl (fun c43 => ?_) (fun c43 => ?_)
   ·replace hs1_:=Zp c43 hs1_
    refine zQ [4] ?_
    refine zW ?_
    exact zEy hs1_
   replace hs1_:=Zo c43 hs1_
   refine Q7 [1,2,8,9] [true,true] ?_
   refine zRd [1,2,5,8] [true,false] ?_
   refine zR ?_
   exact zEn hs1_
  replace hs1_:=Zo c44 hs1_
  exact zEx hs1_
 rcases z45 with z45 | z45
 ·dsimp only [Xl] at hw h
  refine Qy hw ?_
  try simp only [Y2,Z7,↓reduceIte,Nat.reduceEqDiff]
  exact Zhq [(vB false)]
 dsimp only [Xl] at hw h
 refine Yz hw ?_
 try simp only [Y2,Z7,↓reduceIte,Nat.reduceEqDiff]
 refine zDs [1,2] [true] ?_
 refine zQD [1,2,186] [none,none,none,none,none,none,none,none] ?_
 refine Zq (t:=(cond (a0.Kind == 3) (cond (decide (a0.List_ < 2)) true (decide (9 < a0.List_))) false)) rfl (fun c55 => ?_) (fun c55 => ?_)
 ·replace h:=Zp c55 h
  refine zQ [4] ?_
  exact Yn [(vB false)]
 replace h:=Zo c55 h
 refine Q7 [1,2] [true] ?_
 refine Zg ?_
 refine zQd [1,2,10] [1,2,10] [true] ?_
 obtain ⟨z52,hz52,h⟩:=bC h
 refine Ux (J:=(Xl (fun z52=>JR n (⟨216,[],[(4,(vB false))]⟩:Env) (Zv O n [none]) (n+1)) (fun z52=>JX 4 n (⟨216,[],[(2,.ref n 0)]⟩:Env) (Zv O n [some ⟨false,30,11,1,(Zf a0)⟩]) (n+1)))) (z:=z52) ?_ fun hw => ?_
 ·refine Xe hz52 (fun s2_=>⟨216,[],[(1,(vI a1)),(2,.ref n 0),(10,(vI s2_))]⟩) (fun s2_=>(Zv O n [some ⟨false,30,11,1,(Zf a0)⟩])) (Xl (fun z52=>JR n (⟨216,[],[(4,(vB false))]⟩:Env) (Zv O n [none]) (n+1)) (fun z52=>JX 4 n (⟨216,[],[(2,.ref n 0)]⟩:Env) (Zv O n [some ⟨false,30,11,1,(Zf a0)⟩]) (n+1))) ?_
  intro s2_ x2_ hs2_
  unfold Qr at hs2_
  try dsimp only
  refine Zg ?_
  refine zQ [1,2,10,191] ?_
  refine Zq (t:=(decide (s2_ < (a0.Ops.length:Int)))) rfl (fun c51 => ?_) (fun c51 => ?_)
  ·replace hs2_:=Zp c51 hs2_
   refine Q7 [1,2,10] [true] ?_
   refine Zg ?_
   refine Yg ?_
   refine Zg ?_
   obtain ⟨x48,hx48,ax48,bx48,cx48,hs2_⟩:=bE (f:=Ze) Zfv (fun _=>rfl) (by decide) hs2_
   obtain ⟨y49,hy49,hs2_⟩:=bC hs2_
   refine K7 Z4 (by kernel_rfl) [] (by kernel_rfl) ?_
   refine zF3 ax48 bx48 cx48 ?_
   refine PCall.of (Zil hy49) ?_
   refine zF3 ax48 bx48 cx48 ?_
   refine zD [1,2,10,204] [true] ?_
   refine Zq (t:=(!y49)) rfl (fun c50 => ?_) (fun c50 => ?_)
   ·replace hs2_:=Zp c50 hs2_
    refine zQ [4] ?_
    refine zW ?_
    exact zEy hs2_
   replace hs2_:=Zo c50 hs2_
   refine Q7 [1,2,10] [true] ?_
   refine zR ?_
   exact zEn hs2_
  replace hs2_:=Zo c51 hs2_
  exact zEx hs2_
 rcases z52 with z52 | z52
 ·dsimp only [Xl] at hw h
  refine Qy hw ?_
  try simp only [Y2,Z7,↓reduceIte,Nat.reduceEqDiff]
  exact Zhq [(vB false)]
 dsimp only [Xl] at hw h
 refine Yz hw ?_
 try simp only [Y2,Z7,↓reduceIte,Nat.reduceEqDiff]
 refine zDs [2] [true] ?_
 obtain ⟨y54,hy54,h⟩:=bC h
 refine zCd (Zf2 hy54) [11,12] [false] ?_
 refine zQD [4] [none,none] ?_
 exact Yn [(vB (cond (decide (y54.1 < 1048576)) (decide (y54.2 < 1048576)) false))]
theorem Zp8 {Xj:(Zc→Int→Option Bool)} {X8:(Int→Zj→Int→Option Bool)} (Zch:Zcg Xj) (Zil:Zet X8) {a0:Int} {a1:Zj} {a2:Int} {r:Bool} {O:Objs} {n:Nat} (h:Zbs Xj X8 a0 a1 a2=some r):GTo Try.prog 68 [(vI a0),.agg (Y6 a1),(vI a2)] O n ((vB r)) O n:=by
 unfold Zbs at h
 refine zFn Try.call68 Try.func68 fun hU hN0 hN => ?_
 show W _ _ _ _ ⟨121,[],[(0,(vI a0)),(1,.agg (Y6 a1)),(2,(vI a2))]⟩ (Zv O n []) _
 refine zQ [0,2,4] ?_
 refine Zg ?_
 refine zQ [0,2,4,10] ?_
 refine Zq (t:=(a1.Kind == 0)) rfl (fun c30 => ?_) (fun c30 => ?_)
 ·replace h:=Zp c30 h
  obtain ⟨z2,hz2,h⟩:=bC h
  refine Y1 (E':=⟨121,[],[(6,(vB z2))]⟩) (O':=(Zv O n [none])) (n0:=(n+1)) ?_ ?_
  ·rcases Bool.eq_false_or_eq_true (decide (1≤a1.N)) with c5 | c5
   ·replace hz2:=Zp c5 hz2
    rcases Bool.eq_false_or_eq_true (decide (a1.N≤1048576)) with c6 | c6
    ·replace hz2:=Zp c6 hz2
     try rw [c6] at c5
     rcases Bool.eq_false_or_eq_true ((a1.L.length:Int) == 0) with c7 | c7
     ·replace hz2:=Zp c7 hz2
      try rw [c7] at c5
      try rw [c7] at c6
      obtain ⟨y4,hy4,hz2⟩:=bC hz2
      refine Zdt [none,none,none,none,none,none,none,some true,some true,some true] c5 c6 c7 ?_
      refine zG ?_
      refine (Zij hy4).then ?_
      refine zX3 c5 c6 c7 ?_
      refine zG ?_
      exact Zf6 hz2 c5 c6 c7
     replace hz2:=Zo c7 hz2
     try rw [c7] at c5
     try rw [c7] at c6
     refine Zdt [none,none,none,none,none,none,none,some false,some false,some false] c5 c6 c7 ?_
     refine zG ?_
     exact Zf6 hz2 c5 c6 c7
    replace hz2:=Zo c6 hz2
    try rw [c6] at c5
    refine Ju [none,none,none,none,none,none,none,some false,some false,some false] c5 c6 ?_
    refine zG ?_
    exact Gl hz2 c5 c6
   replace hz2:=Zo c5 hz2
   refine Jl [none,none,none,none,none,none,none,some false,some false,some false] c5 ?_
   refine zG ?_
   exact Qx hz2 c5
  exact Yn [(vB z2)]
 replace h:=Zo c30 h
 refine Q7 [0,2,4] [true] ?_
 refine Zg ?_
 refine zQD [0,2,4,42] [none,none,none,none,none,none] ?_
 refine Zq (t:=(cond (cond (a1.N != 0) true (decide (a1.Kind < 0))) true (decide (3 < a1.Kind)))) rfl (fun c29 => ?_) (fun c29 => ?_)
 ·replace h:=Zp c29 h
  refine zQ [6] ?_
  exact Yn [(vB false)]
 replace h:=Zo c29 h
 refine Q7 [0,2,4] [true] ?_
 refine Zg ?_
 refine zQ [0,2,4,45] ?_
 refine Zq (t:=(decide (a1.Kind < 3))) rfl (fun c28 => ?_) (fun c28 => ?_)
 ·replace h:=Zp c28 h
  refine Zg ?_
  refine zQd [0,4,7] [0,4,7] [true] ?_
  obtain ⟨z14,hz14,h⟩:=bC h
  refine Ux (J:=(Xl (fun z14=>JR n (⟨121,[],[(6,(vB false))]⟩:Env) (Zv O n [none]) (n+1)) (fun z14=>JX 0 n (⟨121,[],[(4,.ref n 0)]⟩:Env) (Zv O n [some ⟨false,75,14,1,(Y6 a1)⟩]) (n+1)))) (z:=z14) ?_ fun hw => ?_
  ·refine Xe hz14 (fun s0_=>⟨121,[],[(0,(vI a0)),(4,.ref n 0),(7,(vI s0_))]⟩) (fun s0_=>(Zv O n [some ⟨false,75,14,1,(Y6 a1)⟩])) (Xl (fun z14=>JR n (⟨121,[],[(6,(vB false))]⟩:Env) (Zv O n [none]) (n+1)) (fun z14=>JX 0 n (⟨121,[],[(4,.ref n 0)]⟩:Env) (Zv O n [some ⟨false,75,14,1,(Y6 a1)⟩]) (n+1))) ?_
   intro s0_ x0_ hs0_
   unfold U2 at hs0_
   try dsimp only
   refine Zg ?_
   refine zQ [0,4,7,50] ?_
   refine Zq (t:=(decide (s0_ < (a1.L.length:Int)))) rfl (fun c13 => ?_) (fun c13 => ?_)
   ·replace hs0_:=Zp c13 hs0_
    refine Q7 [0,4,7] [true] ?_
    refine Zg ?_
    refine Yg ?_
    refine Zg ?_
    obtain ⟨l10,al10,bl10,cl10,gl10,hs0_⟩:=bS (lo:=(some (.i64,s0_))) (hi:=(some (.i64,(IntKind.i64.wrap (s0_+1))))) (f:=Za) rfl rfl Zfw V5 (fun _=>rfl) hs0_
    obtain ⟨y11,hy11,hs0_⟩:=bC hs0_
    refine Zm1 [] al10 bl10 cl10 gl10 ?_
    refine GCalls.argsW ?_ ((Uq hy11).then ?_)
    ·exact Yhw al10 bl10 cl10 gl10
    refine zX4 al10 bl10 cl10 gl10 ?_
    refine zD [0,4,7,62] [true] ?_
    refine Zq (t:=(!y11)) rfl (fun c12 => ?_) (fun c12 => ?_)
    ·replace hs0_:=Zp c12 hs0_
     refine zQ [6] ?_
     refine zW ?_
     exact zEy hs0_
    replace hs0_:=Zo c12 hs0_
    refine Q7 [0,4,7] [true] ?_
    refine zR ?_
    exact zEn hs0_
   replace hs0_:=Zo c13 hs0_
   exact zEx hs0_
  rcases z14 with z14 | z14
  ·dsimp only [Xl] at hw h
   refine Qy hw ?_
   try simp only [Y2,Z7,↓reduceIte,Nat.reduceEqDiff]
   exact Zhq [(vB false)]
  dsimp only [Xl] at hw h
  refine Yz hw ?_
  try simp only [Y2,Z7,↓reduceIte,Nat.reduceEqDiff]
  refine zD [4] [true] ?_
  obtain ⟨z16,hz16,h⟩:=bC h
  refine Y1 (E':=⟨121,[],[(6,(vB z16))]⟩) (O':=(Zv O n [none])) (n0:=(n+1)) ?_ ?_
  ·rcases Bool.eq_false_or_eq_true (decide (0 < (a1.L.length:Int))) with c19 | c19
   ·replace hz16:=Zp c19 hz16
    obtain ⟨y18,hy18,hz16⟩:=bC hz16
    refine Jl [some true,some true,some true] c19 ?_
    refine (Zij hy18).then ?_
    refine zX1 c19 ?_
    exact Qx hz16 c19
   replace hz16:=Zo c19 hz16
   refine Jl [some false,some false,some false] c19 ?_
   exact Qx hz16 c19
  exact Yn [(vB z16)]
 replace h:=Zo c28 h
 refine Q7 [0,2,4] [true] ?_
 refine Zg ?_
 obtain ⟨z21,hz21,h⟩:=bC h
 refine Y1 (E':=⟨121,[],[(0,(vI a0)),(4,.ref n 0),(92,(vB z21))]⟩) (O':=(Zv O n [some ⟨false,75,14,1,(Y6 a1)⟩])) (n0:=(n+1)) ?_ ?_
 ·rcases Bool.eq_false_or_eq_true (decide (0 < (a1.L.length:Int))) with c24 | c24
  ·replace hz21:=Zp c24 hz21
   refine Jl [none,none,none,none,none,none,some false,some false,some false,some false,some false] c24 ?_
   refine zG ?_
   exact Qx hz21 c24
  replace hz21:=Zo c24 hz21
  rcases Bool.eq_false_or_eq_true (a1.E.Kind == 0) with c25 | c25
  ·replace hz21:=Zp c25 hz21
   try rw [c25] at c24
   refine Ju [none,none,none,none,none,none,some false,some false,some false,some false,some false] c24 c25 ?_
   refine zG ?_
   exact Gl hz21 c24 c25
  replace hz21:=Zo c25 hz21
  try rw [c25] at c24
  rcases Bool.eq_false_or_eq_true (decide (a0≤7)) with c26 | c26
  ·replace hz21:=Zp c26 hz21
   try rw [c26] at c24
   try rw [c26] at c25
   refine Zdt [none,none,none,none,none,none,some false,some false,some false,some false,some false] c24 c25 c26 ?_
   refine zG ?_
   exact Zf6 hz21 c24 c25 c26
  replace hz21:=Zo c26 hz21
  try rw [c26] at c24
  try rw [c26] at c25
  obtain ⟨y23,hy23,hz21⟩:=bC hz21
  refine Zdt [none,none,none,none,none,none,some true,some true,some true,some true,some true] c24 c25 c26 ?_
  refine zG ?_
  refine (Zch hy23).then ?_
  refine zX3 c24 c25 c26 ?_
  refine zG ?_
  exact Zf6 hz21 c24 c25 c26
 refine Zq (t:=z21) rfl (fun c27 => ?_) (fun c27 => ?_)
 ·replace h:=Zp c27 h
  refine zQ [6] ?_
  exact Yn [(vB false)]
 replace h:=Zo c27 h
 refine Q7 [0,4] [true] ?_
 refine zQD [6] [none,none,none,none,none,none,none,none,none,none,none,none,none,none,none,none,none,none,none,none,none,none] ?_
 exact Yn [(vB (cond (cond (a0 == 8) true (a1.E.Kind == 2)) true (cond (cond (a1.E.Kind == 1) (a1.E.Old.Kind == 1) false) (a1.E.New.Kind == 1) false)))]
theorem Zkv:∀ k,(Zcg ((Yq k).1))∧(Zet ((Yq k).2)):=fun k=>by
 induction k with
 | zero=>exact ⟨@fun a0 a1 r O n h=>(nomatch (show (none:Option _)=some _ from h)),@fun a0 a1 a2 r O n h=>(nomatch (show (none:Option _)=some _ from h))⟩
 | succ k ih=>exact ⟨@fun a0 a1 r O n h=>Zmj (ih.1) (ih.2)  h,@fun a0 a1 a2 r O n h=>Zp8 (ih.1) (ih.2)  h⟩
theorem Zhu {a0:Zc} {a1:Int} {r:Bool} {O:Objs} {n:Nat} (h:Zer a0 a1=some r):GTo Try.prog 43 [.agg (Zf a0),(vI a1)] O n ((vB r)) O n:=by
 obtain ⟨k,hk⟩:=Un h
 exact (Zkv k).1  hk
def Zf1 (Xt:(Zc→Option Bool)):Prop:=∀ {a0:Zc} {r:Bool} {O:Objs} {n:Nat},Xt a0=some r→GTo Try.prog 44 [.agg (Zf a0)] O n ((vB r)) O n
theorem Zmi {Xt:(Zc→Option Bool)} (Zf4:Zf1 Xt) {a0:Zc} {r:Bool} {O:Objs} {n:Nat} (h:U0 Xt a0=some r):GTo Try.prog 44 [.agg (Zf a0)] O n ((vB r)) O n:=by
 unfold U0 at h
 refine zFn Try.call44 Try.func44 fun hU hN0 hN => ?_
 show W _ _ _ _ ⟨48,[],[(0,.agg (Zf a0))]⟩ (Zv O n []) _
 refine zQ [1] ?_
 refine Zg ?_
 obtain ⟨y2,hy2,h⟩:=bC h
 refine zCd (Zf2 hy2) [1,3,4] [true] ?_
 refine Zg ?_
 refine zQD [1,17] [none,none] ?_
 refine Zq (t:=(cond (decide (2000 < y2.1)) true (decide (2000 < y2.2)))) rfl (fun c21 => ?_) (fun c21 => ?_)
 ·replace h:=Zp c21 h
  refine zQ [2] ?_
  exact Yn [(vB false)]
 replace h:=Zo c21 h
 refine Q7 [1] [true] ?_
 refine Zg ?_
 refine zQd [1,5] [1,5] [true] ?_
 obtain ⟨z11,hz11,h⟩:=bC h
 refine Ux (J:=(Xl (fun z11=>JR n (⟨48,[],[(2,(vB false))]⟩:Env) (Zv O n [none]) (n+1)) (fun z11=>JX 0 n (⟨48,[],[(1,.ref n 0)]⟩:Env) (Zv O n [some ⟨false,30,11,1,(Zf a0)⟩]) (n+1)))) (z:=z11) ?_ fun hw => ?_
 ·refine Xe hz11 (fun s0_=>⟨48,[],[(1,.ref n 0),(5,(vI s0_))]⟩) (fun s0_=>(Zv O n [some ⟨false,30,11,1,(Zf a0)⟩])) (Xl (fun z11=>JR n (⟨48,[],[(2,(vB false))]⟩:Env) (Zv O n [none]) (n+1)) (fun z11=>JX 0 n (⟨48,[],[(1,.ref n 0)]⟩:Env) (Zv O n [some ⟨false,30,11,1,(Zf a0)⟩]) (n+1))) ?_
  intro s0_ x0_ hs0_
  unfold Va at hs0_
  try dsimp only
  refine Zg ?_
  refine zQ [1,5,22] ?_
  refine Zq (t:=(decide (s0_ < (a0.Kids.length:Int)))) rfl (fun c10 => ?_) (fun c10 => ?_)
  ·replace hs0_:=Zp c10 hs0_
   refine Q7 [1,5] [true] ?_
   refine Zg ?_
   refine Yg ?_
   refine Zg ?_
   obtain ⟨x6,hx6,ax6,bx6,cx6,hs0_⟩:=bE (f:=Zi) Zmx (fun _=>rfl) (by decide) hs0_
   have g7:=Zb9 (f:=Zi) (off:=1) (sz:=12) Zso (fun _=>rfl) (by decide) (by decide) hx6
   obtain ⟨y8,hy8,hs0_⟩:=bC hs0_
   refine Zss [] ax6 bx6 cx6 g7 ?_
   refine (Zf4 hy8).then ?_
   refine zF4 ax6 bx6 cx6 g7 ?_
   refine zD [1,5,32] [true] ?_
   refine Zq (t:=(!y8)) rfl (fun c9 => ?_) (fun c9 => ?_)
   ·replace hs0_:=Zp c9 hs0_
    refine zQ [2] ?_
    refine zW ?_
    exact zEy hs0_
   replace hs0_:=Zo c9 hs0_
   refine Q7 [1,5] [true] ?_
   refine zR ?_
   exact zEn hs0_
  replace hs0_:=Zo c10 hs0_
  exact zEx hs0_
 rcases z11 with z11 | z11
 ·dsimp only [Xl] at hw h
  refine Qy hw ?_
  try simp only [Y2,Z7,↓reduceIte,Nat.reduceEqDiff]
  exact Zhq [(vB false)]
 dsimp only [Xl] at hw h
 refine Yz hw ?_
 try simp only [Y2,Z7,↓reduceIte,Nat.reduceEqDiff]
 refine zDs [1] [true] ?_
 refine zQd [1,6] [1,6] [true] ?_
 obtain ⟨z20,hz20,h⟩:=bC h
 refine Ux (J:=(Xl (fun z20=>JR n (⟨48,[],[(2,(vB false))]⟩:Env) (Zv O n [none]) (n+1)) (fun z20=>JX 2 n (⟨48,[],[]⟩:Env) (Zv O n [none]) (n+1)))) (z:=z20) ?_ fun hw => ?_
 ·refine Xe hz20 (fun s1_=>⟨48,[],[(1,.ref n 0),(6,(vI s1_))]⟩) (fun s1_=>(Zv O n [some ⟨false,30,11,1,(Zf a0)⟩])) (Xl (fun z20=>JR n (⟨48,[],[(2,(vB false))]⟩:Env) (Zv O n [none]) (n+1)) (fun z20=>JX 2 n (⟨48,[],[]⟩:Env) (Zv O n [none]) (n+1))) ?_
  intro s1_ x1_ hs1_
  unfold Vb at hs1_
  try dsimp only
  refine Zg ?_
  refine zQ [1,6,37] ?_
  refine Zq (t:=(decide (s1_ < (a0.Ops.length:Int)))) rfl (fun c19 => ?_) (fun c19 => ?_)
  ·replace hs1_:=Zp c19 hs1_
   refine Q7 [1,6] [true] ?_
   refine Zg ?_
   refine Yg ?_
   refine Zg ?_
   obtain ⟨x15,hx15,ax15,bx15,cx15,hs1_⟩:=bE (f:=Ze) Zfv (fun _=>rfl) (by decide) hs1_
   have g16:=Zb9 (f:=Ze) (off:=3) (sz:=14) Zso (fun _=>rfl) (by decide) (by decide) hx15
   obtain ⟨y17,hy17,hs1_⟩:=bC hs1_
   refine Zss [] ax15 bx15 cx15 g16 ?_
   refine (Zf4 hy17).then ?_
   refine zF4 ax15 bx15 cx15 g16 ?_
   refine zD [1,6,47] [true] ?_
   refine Zq (t:=(!y17)) rfl (fun c18 => ?_) (fun c18 => ?_)
   ·replace hs1_:=Zp c18 hs1_
    refine zQ [2] ?_
    refine zW ?_
    exact zEy hs1_
   replace hs1_:=Zo c18 hs1_
   refine Q7 [1,6] [true] ?_
   refine zR ?_
   exact zEn hs1_
  replace hs1_:=Zo c19 hs1_
  exact zEx hs1_
 rcases z20 with z20 | z20
 ·dsimp only [Xl] at hw h
  refine Qy hw ?_
  try simp only [Y2,Z7,↓reduceIte,Nat.reduceEqDiff]
  exact Zhq [(vB false)]
 dsimp only [Xl] at hw h
 refine Yz hw ?_
 try simp only [Y2,Z7,↓reduceIte,Nat.reduceEqDiff]
 refine zD [] [false] ?_
 refine zQ [2] ?_
 exact Yn [(vB true)]
theorem Zku:∀ k,(Zf1 (Jb k)):=fun k=>by
 induction k with
 | zero=>exact @fun a0 r O n h=>(nomatch (show (none:Option _)=some _ from h))
 | succ k ih=>exact @fun a0 r O n h=>Zmi (ih)  h
theorem Znp {a0:Zc} {r:Bool} {O:Objs} {n:Nat} (h:Zeq a0=some r):GTo Try.prog 44 [.agg (Zf a0)] O n ((vB r)) O n:=by
 obtain ⟨k,hk⟩:=Un h
 exact (Zku k)  hk
theorem Zou {a0:Zc} {r:Bool} {O:Objs} {n:Nat} (h:G8 a0=some r):GTo Try.prog 11 [.agg (Zf a0)] O n ((vB r)) O n:=by
 unfold G8 at h
 refine zFn Try.call11 Try.func11 fun hU hN0 hN => ?_
 show W _ _ _ _ ⟨13,[],[(0,.agg (Zf a0))]⟩ (Zv O n []) _
 refine zQ [1] ?_
 obtain ⟨z4,hz4,h⟩:=bC h
 refine Y1 (E':=⟨13,[],[(2,(vB z4))]⟩) (O':=(Zv O n [none])) (n0:=(n+1)) ?_ ?_
 ·obtain ⟨y8,hy8,hz4⟩:=bC hz4
  rcases Bool.eq_false_or_eq_true y8 with c11 | c11
  ·replace hz4:=Zp c11 hz4
   obtain ⟨y9,hy9,hz4⟩:=bC hz4
   rcases Bool.eq_false_or_eq_true y9 with c12 | c12
   ·replace hz4:=Zp c12 hz4
    try rw [c12] at c11
    obtain ⟨y10,hy10,hz4⟩:=bC hz4
    refine Ju [some true,some true,some true,some true] c11 c12 ?_
    refine (Zfl hy8).then ?_
    refine zX2 c11 c12 ?_
    refine (Zhu hy9).then ?_
    refine zX2 c11 c12 ?_
    refine (Znp hy10).then ?_
    refine zX2 c11 c12 ?_
    exact Gl hz4 c11 c12
   replace hz4:=Zo c12 hz4
   try rw [c12] at c11
   refine Ju [some true,some true,some false,some false] c11 c12 ?_
   refine (Zfl hy8).then ?_
   refine zX2 c11 c12 ?_
   refine (Zhu hy9).then ?_
   refine zX2 c11 c12 ?_
   exact Gl hz4 c11 c12
  replace hz4:=Zo c11 hz4
  refine Jl [some false,some false,some false,some false] c11 ?_
  refine (Zfl hy8).then ?_
  refine zX1 c11 ?_
  exact Qx hz4 c11
 exact Yn [(vB z4)]
theorem Zfn {a0:Int} {r:Bool} {O:Objs} {n:Nat} (h:Zab a0=some r):GTo Try.prog 108 [(vI a0)] O n ((vB r)) O n:=by
 unfold Zab at h
 refine zFn Try.call108 Try.func108 fun hU hN0 hN => ?_
 show W _ _ _ _ ⟨9,[],[(0,(vI a0))]⟩ (Zv O n []) _
 refine zQ [0] ?_
 refine zQD [2] [none,none] ?_
 exact Yn [(vB (cond (decide (2≤a0)) (decide (a0≤9)) false))]
theorem Zu5 {a0:Zb} {a1:Zy} {r:Bool} {O:Objs} {n:Nat} (h:Zjp a0 a1=some r):GTo Try.prog 82 [.agg (Zd a0),.agg [(vI a1.Kind),(vI a1.At)]] O n ((vB r)) O n:=by
 unfold Zjp at h
 refine zFn Try.call82 Try.func82 fun hU hN0 hN => ?_
 show W _ _ _ _ ⟨34,[],[(0,.agg (Zd a0)),(1,.agg [(vI a1.Kind),(vI a1.At)])]⟩ (Zv O n []) _
 refine zQ [2,3] ?_
 refine Zg ?_
 refine zQD [2,3,12] [none,none,none] ?_
 refine Zq (t:=(cond (a1.Kind != 0) true (decide (a1.At < 0)))) rfl (fun c10 => ?_) (fun c10 => ?_)
 ·replace h:=Zp c10 h
  refine zQ [4] ?_
  exact Yn [(vB false)]
 replace h:=Zo c10 h
 refine Q7 [2,3] [true,true] ?_
 obtain ⟨z3,hz3,h⟩:=bC h
 refine Y1 (E':=⟨34,[],[(4,(vB z3))]⟩) (O':=(Zv O n [none,none])) (n0:=(n+2)) ?_ ?_
 ·rcases Bool.eq_false_or_eq_true (a0.Kind == 1) with c8 | c8
  ·replace hz3:=Zp c8 hz3
   rcases Bool.eq_false_or_eq_true (decide (a1.At≤65534)) with c9 | c9
   ·replace hz3:=Zp c9 hz3
    try rw [c9] at c8
    refine Ju [none,none,none,some false,some false,some false,some false,some false,some false,some false,some false,some false,some false,some false] c8 c9 ?_
    refine zG ?_
    exact Gl hz3 c8 c9
   replace hz3:=Zo c9 hz3
   try rw [c9] at c8
   obtain ⟨y6,hy6,hz3⟩:=bC hz3
   refine Ju [none,none,none,some true,some true,some true,some true,none,none,none,none,none,none,some true] c8 c9 ?_
   refine zG ?_
   refine (Zfn hy6).then ?_
   refine zX2 c8 c9 ?_
   refine zG ?_
   exact Gl hz3 c8 c9
  replace hz3:=Zo c8 hz3
  obtain ⟨y7,hy7,hz3⟩:=bC hz3
  refine Jl [none,none,none,some true,some true,some true,some true,none,none,none,none,none,none,some true] c8 ?_
  refine zG ?_
  refine (Zfn hy7).then ?_
  refine zX1 c8 ?_
  refine zG ?_
  exact Qx hz3 c8
 exact Yn [(vB z3)]
theorem Zjh {a0:Zb} {a1:Int} {r:Zb} {O:Objs} {n:Nat} (h:Zgc a0 a1=some r):GTo Try.prog 83 [.agg (Zd a0),(vI a1)] O n (.agg (Zd r)) O n:=by
 unfold Zgc at h
 refine zFn Try.call83 Try.func83 fun hU hN0 hN => ?_
 show W _ _ _ _ ⟨20,[],[(0,.agg (Zd a0)),(1,(vI a1))]⟩ (Zv O n []) _
 refine zQ [1,2,4] ?_
 refine Zg ?_
 refine zQD [1,2,4,13] [none,none,none,none,none] ?_
 refine Zq (t:=(cond (decide (a1 < 0)) true (decide ((a0.Kids.length:Int)≤a1)))) rfl (fun c3 => ?_) (fun c3 => ?_)
 ·replace h:=Zp c3 h
  refine Zg ?_
  refine zRd [4] [false,true] ?_
  exact Yn [.agg [(vI 0),nV,nV]]
 replace h:=Zo c3 h
 refine Q7 [1,2,4] [true,true] ?_
 refine Zg ?_
 obtain ⟨x2,hx2,ax2,bx2,cx2,h⟩:=bE (f:=Za) V5 (fun _=>rfl) (by decide) h
 refine Zao [] ax2 bx2 cx2 ?_
 refine zD [4] [false,true] ?_
 exact Yn [.agg (Zd x2)]
theorem Zhv {a0:(List Zj)} {a1:Int} {r:(List Zj)} {O:Objs} {n:Nat} {t0:Nat} (ht0:t0 < n) (hot0:O t0=some (oR 75 14 Ze a0)) (h:Zbi a0 a1=some r):GTo Try.prog 84 [.row t0 a0.length,(vI a1)] O n (.row n r.length) (Zv (O.upd t0 none) n [some (oR 75 14 Ze r)]) (n+1):=by
 unfold Zbi at h
 refine Zl1 Z4 Try.call84 Try.func84 rfl (Nat.le_of_ble_eq_true rfl) (by omega) fun hU => ?_
 have e0:=Z89 (ba:=n) (E:=⟨13,[],[(0,.row t0 a0.length),(1,.val (.int .i64 a1))]⟩) (O:=(Zv O n [])) (n:=n) (j:=t0) (len:=a0.length) (q:=⟨true,75,14,a0.length,fl Ze a0⟩) 0 rfl (by rw [Yr _ ht0];exact hot0) (by omega)
 simp only [Yy _ _ ht0,Xk,Y3,List.cons_append,List.nil_append,List.length_cons,List.length_nil,Nat.zero_add,Nat.reduceAdd,Nat.add_assoc] at e0
 refine Kq e0 ?_
 have hU:=(Und.drop hU t0)
 have hN0:(O.upd t0 none) n=none:=hU.fresh _ (Nat.le_refl _)
 have hN:∀ k,(O.upd t0 none) (n+k)=none:=fun k=>hU.fresh _ (Nat.le_add_right _ _)
 show W _ _ _ _ ⟨13,[],[(0,.row n a0.length),(0,.row t0 a0.length),(1,(vI a1))]⟩ (Zv (O.upd t0 none) n [some (oR 75 14 Ze a0)]) _
 refine zQ [0,1] ?_
 refine Zg ?_
 refine zQ [0,1,6] ?_
 refine Zq (t:=(a1 == 0)) rfl (fun c3 => ?_) (fun c3 => ?_)
 ·replace h:=Zp c3 h
  refine zQ [4] ?_
  refine zW ?_
  have h:=Option.some.inj h;subst h
  refine Zl0 (k:=1) (L3:=[some (oR 75 14 Ze a0),none]) (E2:=(⟨13,[],[(4,.row n a0.length)]⟩:Env)) (n3:=(n+2)) (.inr rfl) hU rfl [.row n a0.length] ?_ ?_
  ·refine Fit2.trans (E':=(⟨13,[],[(4,.row n a0.length)]⟩:Env)) (O':=(Zv (O.upd t0 none) n [some (oR 75 14 Ze a0)])) (n':=(n+1)) (Fit2.of (Ys hU rfl rfl ?_) (by omega)) ?_
   ·exact zSe
   refine Kh (k:=1) (k':=2) hU [0] [0,0] rfl rfl rfl rfl ⟨rfl,rfl⟩ ?_
   exact zSe
  simp only [push_cast,seval,↓reduceIte,Zk,Try.results84,hN0,hN]
 replace h:=Zo c3 h
 refine Q7 [0,1] [true] ?_
 refine Zg ?_
 obtain ⟨l2,pl2,ql2,el2,h⟩:=bA (k:=1) rfl h
 refine Zdt [] pl2 ql2 el2 ?_
 refine Zea ⟨13,[],[(4,.row n l2.length)]⟩ (Zv (O.upd t0 none) n [some (oR 75 14 Ze l2),none]) (Ys hU rfl rfl ?_) ?_
 ·exact Z2m pl2 ql2 el2
 refine zW ?_
 have h:=Option.some.inj h;subst h
 refine Zl0 (k:=1) (L3:=[some (oR 75 14 Ze l2),none]) (E2:=(⟨13,[],[(4,.row n l2.length)]⟩:Env)) (n3:=(n+2)) (.inr rfl) hU rfl [.row n l2.length] ?_ ?_
 ·refine Fit2.trans (E':=(⟨13,[],[(4,.row n l2.length)]⟩:Env)) (O':=(Zv (O.upd t0 none) n [some (oR 75 14 Ze l2),none])) (n':=(n+2)) (Fit2.of (Ys hU rfl rfl ?_) (by omega)) ?_
  ·exact zSe
  refine Kh (k:=2) (k':=2) hU [0,1] [0,0] rfl rfl rfl rfl ⟨rfl,rfl⟩ ?_
  exact zSe
 simp only [push_cast,seval,↓reduceIte,Zk,Try.results84,hN0,hN]
def Zig (Gq:(Zb→(List Zy)→Zc→Option (Zc×Bool))):Prop:=∀ {a0:Zb} {a1:(List Zy)} {a2:Zc} {r:(Zc×Bool)} {O:Objs} {n:Nat},Gq a0 a1 a2=some r→GTo Try.prog 52 [.agg (Zd a0),(sL Zu a1),.agg (Zf a2)] O n (.tup [.agg (Zf r.1),(vB r.2)]) O n
theorem Zqa {Gq:(Zb→(List Zy)→Zc→Option (Zc×Bool))} (Zim:Zig Gq) {a0:Zb} {a1:(List Zy)} {a2:Zc} {r:(Zc×Bool)} {O:Objs} {n:Nat} (h:Zhh Gq a0 a1 a2=some r):GTo Try.prog 52 [.agg (Zd a0),(sL Zu a1),.agg (Zf a2)] O n (.tup [.agg (Zf r.1),(vB r.2)]) O n:=by
 unfold Zhh at h
 refine zFn Try.call52 Try.func52 fun hU hN0 hN => ?_
 show W _ _ _ _ ⟨75,[],[(0,.agg (Zd a0)),(1,(sL Zu a1)),(2,.agg (Zf a2))]⟩ (Zv O n []) _
 refine zQ [1,3,5,6] ?_
 refine Zg ?_
 refine zQ [1,3,5,6,14] ?_
 refine Zq (t:=((a1.length:Int) == 0)) rfl (fun c24 => ?_) (fun c24 => ?_)
 ·replace h:=Zp c24 h
  refine Zg ?_
  refine Vs Z4 (by kernel_rfl) [.plain,.low,.low,.low,.pass,.plain] (fun i=>i≠n+2) [0,1,2,3,4,5] [.plain,.low,.low,.low,.pass,.plain] [] (by kernel_rfl) rfl ?_
  refine zS ?_
  refine zO ?_
  refine zD [6,7] [false,false,true] ?_
  exact Yn [.agg (Zf a2),(vB (a0.Kind != 10))]
 replace h:=Zo c24 h
 refine Q7 [1,3,5,6] [true,true,true] ?_
 obtain ⟨x3,hx3,ax3,bx3,cx3,h⟩:=bE (f:=Zu) Zmw (fun _=>rfl) (by decide) h
 have g4:=Zb9 (f:=Zu) (off:=1) (sz:=2) Z4b (fun _=>rfl) (by decide) (by decide) hx3
 refine Zni [1,3,5,6,8] (Yx Z4 [] ?_)
 refine zF4 ax3 bx3 cx3 g4 ?_
 refine Zg ?_
 refine Zg ?_
 obtain ⟨x7,hx7,ax7,bx7,cx7,h⟩:=bE (f:=Zu) Zmw (fun _=>rfl) (by decide) h
 obtain ⟨y8,hy8,h⟩:=bC h
 refine K7 Z4 (by kernel_rfl) [] (by kernel_rfl) ?_
 refine zF3 ax7 bx7 cx7 ?_
 refine PCall.of (Zu5 hy8) ?_
 refine zF3 ax7 bx7 cx7 ?_
 refine zD [1,3,5,6,8,28] [true,true,true] ?_
 refine Zq (t:=(!y8)) rfl (fun c23 => ?_) (fun c23 => ?_)
 ·replace h:=Zp c23 h
  refine Zg ?_
  refine zRd [6,7] [false,false,true] ?_
  exact Yn [.agg [(vI 0),(vI 0),nV,nV,(vI 0),nV,nV,nV,nV,(vI 0),nV],(vB false)]
 replace h:=Zo c23 h
 refine Q7 [1,3,5,6,8] [true,true,true] ?_
 refine Zg ?_
 obtain ⟨y12,hy12,h⟩:=bC h
 obtain ⟨l13,al13,bl13,cl13,gl13,h⟩:=bS (lo:=(some (.i64,1))) (hi:=none) (f:=Zu) rfl rfl Znh Zmw (fun _=>rfl) h
 obtain ⟨y14,hy14,h⟩:=bC h
 refine Vs Z4 (by kernel_rfl) [.low,.plain,.low,.plain,.low,.low,.low,.plain,.plain,.plain,.pass,.bar,.plain] (fun i=>i < (n+3)) [0,1,2,3,4,5,6,7,8,9,10,11,12] [.low,.plain,.low,.plain,.low,.low,.low,.plain,.plain,.plain,.pass,.bar,.plain] [] (by kernel_rfl) rfl ?_
 refine zX4 al13 bl13 cl13 gl13 ?_
 refine zO ?_
 first | refine PCallA.of (fun _ _=>Zjh hy12) ?_ | refine PCall.of (Zjh hy12) ?_
 refine zX4 al13 bl13 cl13 gl13 ?_
 refine zO ?_
 first | refine PCallA.of (fun _ _=>Zim hy14) ?_ | refine PCall.of (Zim hy14) ?_
 refine zX4 al13 bl13 cl13 gl13 ?_
 refine zO ?_
 refine zDs [3,6,8,9,10] [true,false,true,true] ?_
 refine zQD [3,6,8,9,10,46] [none,none,none] ?_
 refine Zq (t:=(cond (!y14.2) true (y14.1.Kind == 0))) rfl (fun c22 => ?_) (fun c22 => ?_)
 ·replace h:=Zp c22 h
  refine Zg ?_
  refine zRd [6,7] [false,false,true,false] ?_
  exact Yn [.agg [(vI 0),(vI 0),nV,nV,(vI 0),nV,nV,nV,nV,(vI 0),nV],(vB y14.2)]
 replace h:=Zo c22 h
 refine Q7 [3,6,8,9] [true,false,true,true] ?_
 refine Zg ?_
 refine zQ [3,6,8,9,51] ?_
 refine Zq (t:=(a0.Kind == 1)) rfl (fun c21 => ?_) (fun c21 => ?_)
 ·replace h:=Zp c21 h
  refine Zg ?_
  refine zR ?_
  refine Zea ⟨75,[],[(6,.ref (n+2) 0),(7,(vB true))]⟩ (Zv O n [none,none,some ⟨false,30,11,1,[(vI 2),(vI 0),nV,nV,(vI 0),nV,nV,nV,.row (n+4) ([(⟨x3.At,y14.1⟩:Zl)]:List Zl).length,(vI 0),nV]⟩,none,some (oR 84 12 Zi ([(⟨x3.At,y14.1⟩:Zl)]:List Zl))]) (Ys hU rfl rfl ?_) ?_
  ·exact zSe
  exact Yn [.agg [(vI 2),(vI 0),nV,nV,(vI 0),nV,nV,nV,.row (n+4) ([(⟨x3.At,y14.1⟩:Zl)]:List Zl).length,(vI 0),nV],(vB true)]
 replace h:=Zo c21 h
 refine Q7 [3,6,8,9] [true,false,true,true] ?_
 refine Zg ?_
 obtain ⟨y16,hy16,h⟩:=bC h
 refine zR ?_
 refine GCalls.adopt (pre:=[]) 75 14 ?_
 simp only [push_cast,seval,↓reduceIte,Zk,List.append_eq,List.cons_append,List.nil_append,hN0,hN]
 refine (Zhv (t0:=(n+4)) (by omega) (by simp only [push_cast,seval,↓reduceIte,Zk,Xn,hN0,hN] <;> rfl) hy16).then ?_
 refine zS ?_
 refine zDs [3,6,8,9,11] [true,false,true,true,false,true] ?_
 obtain ⟨l18,pl18,ql18,el18,h⟩:=bA (k:=1) rfl h
 refine Zdt [] pl18 ql18 el18 ?_
 refine Zea ⟨75,[],[(3,.ref n 0),(6,.ref (n+2) 0),(8,(vI x3.At)),(11,.row (n+5) l18.length)]⟩ (Zv O n [some ⟨false,25,3,1,(Zd a0)⟩,none,some ⟨false,30,11,1,[(vI 0),(vI 0),nV,nV,(vI 0),nV,nV,nV,nV,(vI 0),nV]⟩,none,none,some (oR 75 14 Ze l18),none]) (Ys hU rfl rfl ?_) ?_
 ·exact Z2m pl18 ql18 el18
 refine Zg ?_
 obtain ⟨y20,hy20,h⟩:=bC h
 refine Vs Z4 (by kernel_rfl) [.low,.low,.plain,.plain,.plain,.plain,.plain,.plain,.plain,.pass,.plain,.bar,.plain] (fun i=>i < (n+7)∧¬ i=n+5) [0,1,2,3,4,5,6,7,8,9,10,11,12] [.low,.low,.plain,.plain,.plain,.plain,.plain,.plain,.plain,.pass,.plain,.bar,.plain] [] (by kernel_rfl) rfl ?_
 refine zS ?_
 refine zO ?_
 refine (Zhv (t0:=(n+5)) (by omega) (by simp only [push_cast,seval,↓reduceIte,Zk,Xn,hN0,hN] <;> rfl) hy20).then ?_
 refine zS ?_
 refine zO ?_
 refine zD [6,7] [false,false,true,false,false,false,false,true] ?_
 exact Yn [.agg [(vI 3),(vI 0),nV,nV,(vI 0),nV,nV,nV,nV,(vI a0.Kind),.row (n+7) y20.length],(vB true)]
theorem Znj:∀ k,(Zig (Zgb k)):=fun k=>by
 induction k with
 | zero=>exact @fun a0 a1 a2 r O n h=>(nomatch (show (none:Option _)=some _ from h))
 | succ k ih=>exact @fun a0 a1 a2 r O n h=>Zqa (ih)  h
theorem Zro {a0:Zb} {a1:(List Zy)} {a2:Zc} {r:(Zc×Bool)} {O:Objs} {n:Nat} (h:Zhj a0 a1 a2=some r):GTo Try.prog 52 [.agg (Zd a0),(sL Zu a1),.agg (Zf a2)] O n (.tup [.agg (Zf r.1),(vB r.2)]) O n:=by
 obtain ⟨k,hk⟩:=Un h
 exact (Znj k)  hk
theorem Zae {a0:(List Int)} {r:(List Int)} {O:Objs} {n:Nat} (h:Vl a0=some r):GTo Try.prog 73 [(sL (eI .u64) a0)] O n ((sL (eI .u64) r)) O n:=by
 unfold Vl at h
 refine zFn Try.call73 Try.func73 fun hU hN0 hN => ?_
 show W _ _ _ _ ⟨22,[],[(0,(sL (eI .u64) a0))]⟩ (Zv O n []) _
 refine zQ [0] ?_
 refine zQ [0,3] ?_
 refine Zg ?_
 refine zD [0,3] [] ?_
 obtain ⟨z7,hz7,h⟩:=bC h
 refine Yz (E':=⟨22,[],[(0,(sL (eI .u64) a0)),(3,(vI z7))]⟩) (O':=(Zv O n [])) (n0:=n) ?_ ?_
 ·refine Xe hz7 (fun s0_=>⟨22,[],[(0,(sL (eI .u64) a0)),(3,(vI s0_))]⟩) (fun s0_=>(Zv O n [])) (fun z7=>JX 0 n (⟨22,[],[(0,(sL (eI .u64) a0)),(3,(vI z7))]⟩:Env) (Zv O n []) n) ?_
  intro s0_ x0_ hs0_
  unfold Up at hs0_
  try dsimp only
  refine Zg ?_
  obtain ⟨z2,hz2,hs0_⟩:=bC hs0_
  refine Y1 (E':=⟨22,[],[(0,(sL (eI .u64) a0)),(3,(vI s0_)),(15,(vB z2))]⟩) (O':=(Zv O n [])) (n0:=n) ?_ ?_
  ·rcases Bool.eq_false_or_eq_true (decide (0 < s0_)) with c5 | c5
   ·replace hz2:=Zp c5 hz2
    obtain ⟨x4,hx4,ax4,bx4,cx4,hz2⟩:=bE (f:=(eI .u64)) Zf5 (fun _=>rfl) (by decide) hz2
    refine Zss [some true,some true,some true,some true,some true,some true] c5 ax4 bx4 cx4 ?_
    exact Z8e hz2 c5 ax4 bx4 cx4
   replace hz2:=Zo c5 hz2
   refine Jl [some false,some false,some false,some false,some false,some false] c5 ?_
   exact Qx hz2 c5
  refine Zq (t:=z2) rfl (fun c6 => ?_) (fun c6 => ?_)
  ·replace hs0_:=Zp c6 hs0_
   refine Q7 [0,3] [] ?_
   refine Yg ?_
   refine zR ?_
   exact zEn hs0_
  replace hs0_:=Zo c6 hs0_
  exact zEx hs0_
 try simp only [Y2,Z7,↓reduceIte,Nat.reduceEqDiff]
 refine zD [0,3] [] ?_
 obtain ⟨l9,al9,bl9,cl9,gl9,h⟩:=bS3 (lo:=none) (hi:=(.i64,z7)) (f:=(eI .u64)) rfl rfl Zqr Zf5 (fun _=>rfl) h
 refine Yht [2] al9 bl9 cl9 gl9 ?_
 exact Yn [(sL (eI .u64) l9)]
theorem Zgg {a0:(List Zb)} {r:(List Zb)} {O:Objs} {n:Nat} (h:Uh a0=some r):GTo Try.prog 74 [(sL Za a0)] O n ((sL Za r)) O n:=by
 unfold Uh at h
 refine zFn Try.call74 Try.func74 fun hU hN0 hN => ?_
 show W _ _ _ _ ⟨23,[],[(0,(sL Za a0))]⟩ (Zv O n []) _
 refine zQ [0] ?_
 refine zQ [0,3] ?_
 refine Zg ?_
 refine zD [0,3] [] ?_
 obtain ⟨z10,hz10,h⟩:=bC h
 refine Yz (E':=⟨23,[],[(0,(sL Za a0)),(3,(vI z10))]⟩) (O':=(Zv O n [])) (n0:=n) ?_ ?_
 ·refine Xe hz10 (fun s0_=>⟨23,[],[(0,(sL Za a0)),(3,(vI s0_))]⟩) (fun s0_=>(Zv O n [])) (fun z10=>JX 0 n (⟨23,[],[(0,(sL Za a0)),(3,(vI z10))]⟩:Env) (Zv O n []) n) ?_
  intro s0_ x0_ hs0_
  unfold Ge at hs0_
  try dsimp only
  refine Zg ?_
  obtain ⟨z3,hz3,hs0_⟩:=bC hs0_
  refine Y1 (E':=⟨23,[],[(0,(sL Za a0)),(3,(vI s0_)),(16,(vB z3))]⟩) (O':=(Zv O n [])) (n0:=n) ?_ ?_
  ·rcases Bool.eq_false_or_eq_true (decide (0 < s0_)) with c8 | c8
   ·replace hz3:=Zp c8 hz3
    obtain ⟨x6,hx6,ax6,bx6,cx6,hz3⟩:=bE (f:=Za) V5 (fun _=>rfl) (by decide) hz3
    have g7:=Zuh (f:=Za) (sz:=3) Z4b (fun _=>rfl) (by decide) (by decide) hx6
    refine Z8f [some true,some true,some true,some true,some true,some true,some true] c8 ax6 bx6 cx6 g7 ?_
    exact Yeo hz3 c8 ax6 bx6 cx6 g7
   replace hz3:=Zo c8 hz3
   refine Jl [some false,some false,some false,some false,some false,some false,some false] c8 ?_
   exact Qx hz3 c8
  refine Zq (t:=z3) rfl (fun c9 => ?_) (fun c9 => ?_)
  ·replace hs0_:=Zp c9 hs0_
   refine Q7 [0,3] [] ?_
   refine Yg ?_
   refine zR ?_
   exact zEn hs0_
  replace hs0_:=Zo c9 hs0_
  exact zEx hs0_
 try simp only [Y2,Z7,↓reduceIte,Nat.reduceEqDiff]
 refine zD [0,3] [] ?_
 obtain ⟨l12,al12,bl12,cl12,gl12,h⟩:=bS3 (lo:=none) (hi:=(.i64,z10)) (f:=Za) rfl rfl Zfw V5 (fun _=>rfl) h
 refine Yht [2] al12 bl12 cl12 gl12 ?_
 exact Yn [(sL Za l12)]
def Zmd (Za9:(Zb→Option Zb)):Prop:=∀ {a0:Zb} {r:Zb} {O:Objs} {n:Nat},Za9 a0=some r→GTo Try.prog 46 [.agg (Zd a0)] O n (.agg (Zd r)) O n
theorem Zxp {Za9:(Zb→Option Zb)} (Zu7:Zmd Za9) {a0:Zb} {r:Zb} {O:Objs} {n:Nat} (h:Zgz Za9 a0=some r):GTo Try.prog 46 [.agg (Zd a0)] O n (.agg (Zd r)) O n:=by
 unfold Zgz at h
 refine zFn Try.call46 Try.func46 fun hU hN0 hN => ?_
 show W _ _ _ _ ⟨49,[],[(0,.agg (Zd a0))]⟩ (Zv O n []) _
 refine zQ [1,2] ?_
 refine Zg ?_
 refine zQ [1,2,10] ?_
 refine Zq (t:=(a0.Kind == 0)) rfl (fun c15 => ?_) (fun c15 => ?_)
 ·replace h:=Zp c15 h
  refine Zg ?_
  refine zRd [2] [false,true] ?_
  exact Yn [.agg [(vI 0),nV,nV]]
 replace h:=Zo c15 h
 refine Q7 [1,2] [true,true] ?_
 refine Zni [1,2,3,4] (K7 Z4 (by kernel_rfl) [] (by kernel_rfl) ?_)
 refine zS ?_
 obtain ⟨z1,hz1,h⟩:=bC h
 refine Y1 (E':=⟨49,[],[(1,.ref n 0),(2,.ref (n+1) 0),(3,(sL (eI .u64) z1.1)),(4,(sL Za z1.2))]⟩) (O':=(Zv O n [some ⟨false,25,3,1,(Zd a0)⟩,some ⟨false,25,3,1,[(vI 0),nV,nV]⟩])) (n0:=(n+2)) ?_ ?_
 ·refine zQ [1,2,3,4,18] ?_
  refine Zq (t:=(a0.Kind == 1)) rfl (fun c4 => ?_) (fun c4 => ?_)
  ·replace hz1:=Zp c4 hz1
   obtain ⟨y2,hy2,hz1⟩:=bC hz1
   obtain ⟨y3,hy3,hz1⟩:=bC hz1
   refine zC (Zae hy2) ?_
   refine zTs (Zgg hy3) ?_
   exact zEn hz1
  replace hz1:=Zo c4 hz1
  refine zK ?_
  exact zEn hz1
 refine Zg ?_
 refine zRd [2,4,5] [false,true,true] ?_
 obtain ⟨z5,hz5,h⟩:=bC h
 refine Y1 (E':=⟨49,[],[(2,.ref (n+1) 0),(4,(sL Za z1.2)),(5,.ref (n+2) 0)]⟩) (O':=(Zv O n [none,some ⟨false,25,3,1,[(vI 0),nV,nV]⟩,some ⟨false,25,3,1,[(vI a0.Kind),(sL (eI .u64) z1.1),.row (n+4) z5.length]⟩,none,some (oR 25 3 Za z5),none])) (n0:=(n+6)) ?_ ?_
 ·refine zQ [2,4,5,29] ?_
  refine Zq (t:=(decide (0 < (z1.2.length:Int)))) rfl (fun c7 => ?_) (fun c7 => ?_)
  ·replace hz5:=Zp c7 hz5
   obtain ⟨l6,al6,bl6,cl6,el6,hz5⟩:=bM2 (c:=56) rfl hz5
   have nl6:Int.toNat (z1.2.length:Int)=List.length l6:=by rw [el6,List.length_replicate]
   have fl6:∀ O O' n,wkl O O' n (List.replicate (List.length l6) [.val (.int .i64 0),.val (.slice none 0 0),.val (.slice none 0 0)]).flatten (fl Za l6)=True:=fun O O' n=>by rw [← nl6,el6];exact eq_true (Z4i (by simp only [push_cast,seval,↓reduceIte,Zk]) _)
   clear el6
   refine Yx Z4 [] ?_
   simp only [push_cast,seval,↓reduceIte,Zk,al6,bl6,cl6,fl6,nl6,hN0,hN]
   have hz5:=Option.some.inj hz5;subst hz5
   refine And.intro rfl ?_
   refine Fit2.trans (E':=(⟨49,[],[(2,.ref (n+1) 0),(4,(sL Za z1.2)),(5,.ref (n+2) 0)]⟩:Env)) (O':=(Zv O n [none,some ⟨false,25,3,1,[(vI 0),nV,nV]⟩,some ⟨false,25,3,1,[(vI a0.Kind),(sL (eI .u64) z1.1),.row (n+3) l6.length]⟩,some (oR 25 3 Za l6)])) (n':=(n+4)) (Fit2.of (Ys hU rfl rfl ?_) (by omega)) ?_
   ·simp only [push_cast,seval,↓reduceIte,Zk,al6,bl6,cl6,fl6,nl6,hN0,hN]
   refine Kh (k:=4) (k':=6) hU [5,1,2,4] [0,1,2,0,3,0] rfl rfl rfl rfl ⟨rfl,rfl⟩ ?_
   exact zSe
  replace hz5:=Zo c7 hz5
  refine zK ?_
  have hz5:=Option.some.inj hz5;subst hz5
  refine And.intro rfl ?_
  refine Fit2.trans (E':=(⟨49,[],[(2,.ref (n+1) 0),(4,(sL Za z1.2)),(5,.ref (n+2) 0)]⟩:Env)) (O':=(Zv O n [none,some ⟨false,25,3,1,[(vI 0),nV,nV]⟩,some ⟨false,25,3,1,[(vI a0.Kind),(sL (eI .u64) z1.1),nV]⟩])) (n':=(n+3)) (Fit2.of (Ys hU rfl rfl ?_) (by omega)) ?_
  ·exact zSe
  refine Fit2.trans (Zbd (p:=(n+2)) (k:=2) (q:=⟨false,25,3,1,[(vI a0.Kind),(sL (eI .u64) z1.1),nV]⟩) 25 3 (by simp only [Zah,Zeh,List.getElem?_cons_zero,List.getElem?_cons_succ,Option.join_some,List.length_nil,Yj]) rfl (by omega)) ?_
  simp only [Xk,Y3,Zbc,Gu,List.set_cons_zero,List.set_cons_succ,List.cons_append,List.nil_append,List.length_cons,List.length_nil,Nat.zero_add,Nat.reduceAdd,Nat.reduceLT,Nat.add_assoc]
  refine Kh (k:=4) (k':=6) hU [5,1,2,4] [0,1,2,0,3,0] rfl rfl rfl rfl ⟨rfl,rfl⟩ ?_
  exact zSe
 refine Zg ?_
 refine zQd [2,5,34,35,36] [2,5,34,35,36] [false,true,true,false,true,false] ?_
 obtain ⟨z14,hz14,h⟩:=bC h
 refine Yz (E':=⟨49,[],[(2,.ref (n+1) 0),(5,.ref (n+2) 0)]⟩) (O':=(Zv O n [none,some ⟨false,25,3,1,[(vI 0),nV,nV]⟩,some ⟨false,25,3,1,[(vI a0.Kind),(sL (eI .u64) z1.1),.row (n+4) z14.length]⟩,none,some (oR 25 3 Za z14),none])) (n0:=(n+6)) ?_ ?_
 ·refine Xe hz14 (fun s0_=>⟨49,[],[(2,.ref (n+1) 0),(5,.ref (n+2) 0),(34,(sL Za z1.2)),(35,(vI (z1.2.length:Int))),(36,(vI s0_.1))]⟩) (fun s0_=>(Zv O n [none,some ⟨false,25,3,1,[(vI 0),nV,nV]⟩,some ⟨false,25,3,1,[(vI a0.Kind),(sL (eI .u64) z1.1),.row (n+4) s0_.2.length]⟩,none,some (oR 25 3 Za s0_.2),none])) (fun z14=>JX 0 n (⟨49,[],[(2,.ref (n+1) 0),(5,.ref (n+2) 0)]⟩:Env) (Zv O n [none,some ⟨false,25,3,1,[(vI 0),nV,nV]⟩,some ⟨false,25,3,1,[(vI a0.Kind),(sL (eI .u64) z1.1),.row (n+4) z14.length]⟩,none,some (oR 25 3 Za z14),none]) (n+6)) ?_
  intro s0_ x0_ hs0_
  unfold Zau at hs0_
  try dsimp only
  refine zQ [2,5,34,35,36,37] ?_
  refine Zg ?_
  refine Zq (t:=(decide (s0_.1 < (z1.2.length:Int)))) rfl (fun c13 => ?_) (fun c13 => ?_)
  ·replace hs0_:=Zp c13 hs0_
   refine Q7 [2,5,34,35,36] [false,true,true,false,true,false] ?_
   refine Zg ?_
   refine Yg ?_
   refine Zg ?_
   obtain ⟨x9,hx9,ax9,bx9,cx9,hs0_⟩:=bE (f:=Za) V5 (fun _=>rfl) (by decide) hs0_
   refine Zao [] ax9 bx9 cx9 ?_
   refine zD [2,5,6,7,34,35,36] [false,true,true,false,true,false,true] ?_
   obtain ⟨y10,hy10,hs0_⟩:=bC hs0_
   obtain ⟨x11,hx11,ax11,bx11,cx11,hs0_⟩:=bE (f:=Za) V5 (fun _=>rfl) (by decide) hs0_
   have gu12:Kt (fl Za s0_.2) [.val (.int .i64 y10.Kind),.sl y10.Words.length (fl (eI .u64) y10.Words),.sl y10.Kids.length (fl Za y10.Kids)] (Int.toNat s0_.1 * 3)=some (fl Za (Zgm s0_.2 s0_.1 y10)):=(congrArg (fun c=>Kt (fl Za s0_.2) c (Int.toNat s0_.1 * 3)) (show [.val (.int .i64 y10.Kind),.sl y10.Words.length (fl (eI .u64) y10.Words),.sl y10.Kids.length (fl Za y10.Kids)]=Za y10 from by simp only [Za,Yu,eI,eB,eS,eL])).trans (Zj9 (f:=Za) (ti:=⟨.bool,3,0,[],false⟩) (x:=y10) (fun _=>rfl) (Zfe hx11))
   refine Zhx Z4 (by kernel_rfl) [false,false,false,false,false,false,true] [] (by kernel_rfl) ?_
   refine zF4 ax11 bx11 cx11 gu12 ?_
   refine PCall.of (Zu7 hy10) ?_
   refine zF4 ax11 bx11 cx11 gu12 ?_
   refine zD [2,5,34,35,36] [false,true,true,false,true,false,false] ?_
   refine zR ?_
   exact zEn hs0_
  replace hs0_:=Zo c13 hs0_
  exact zEx hs0_
 try simp only [Y2,Z7,↓reduceIte,Nat.reduceEqDiff]
 refine zDs [2,5] [false,true,true,false,true,false] ?_
 refine zRd [2] [false,true,false,false,true,false] ?_
 exact Yn [.agg [(vI a0.Kind),(sL (eI .u64) z1.1),.row (n+4) z14.length]]
theorem Zsv:∀ k,(Zmd (Ur k)):=fun k=>by
 induction k with
 | zero=>exact @fun a0 r O n h=>(nomatch (show (none:Option _)=some _ from h))
 | succ k ih=>exact @fun a0 r O n h=>Zxp (ih)  h
theorem Zbl {a0:Zb} {r:Zb} {O:Objs} {n:Nat} (h:Za6 a0=some r):GTo Try.prog 46 [.agg (Zd a0)] O n (.agg (Zd r)) O n:=by
 obtain ⟨k,hk⟩:=Un h
 exact (Zsv k)  hk
attribute [local push_cast] Try.results117 Try.results118 Try.results119 Try.results120 Try.results122 Try.results123 Try.results133 Try.results148 Try.results153 Try.results168 Try.results48 Try.results78 Try.results79
theorem Zb5 {a0 r:List Zs} {O:Objs} {n:Nat} (h:Qs a0=some r):GTo Try.prog 78 [(sL Zm a0)] O n (.row n r.length) (Zv O n [some (oR 82 4 Zm r)]) (n+1):=by
 have h1:=Ztw h
 have h2:=Ztx h
 have h3:=Zpp h
 rw [List.nil_append] at h3
 subst h3
 simp only [List.length_nil,Nat.zero_add] at h1 h2
 clear h
 refine zFn Try.call78 Try.func78 fun hU hN0 hN => ?_
 show W _ _ _ _ ⟨8,[],[(0,(sL Zm r))]⟩ (Zv O n []) _
 refine zQ [0] ?_
 refine Z4k 0 r.length (fl Zm r) rfl (Nat.le_of_ble_eq_true rfl) (Yf Xb _) fun A c hA => ?_
 refine zQ [0,4] ?_
 cases A with
 | none =>
  obtain rfl:r=[]:=List.eq_nil_of_length_eq_zero (hA rfl)
  refine Zq (t:=true) rfl (fun _ => ?_) (fun hc=>by cases hc)
  refine zQ [2] ?_
  refine zW ?_
  refine Zl0 (k:=1) (L3:=[some ⟨true,82,4,0,[]⟩]) (E2:=⟨8,[],[(2,.row n 0),(2,nV)]⟩) (n3:=(n+1)) (.inr rfl) hU rfl [.row n 0] ?_ ?_
  ·have ha:=Zjz (ba:=n) (E:=⟨8,[],[(2,.val (.slice none 0 0))]⟩) (O:=(Zv O n [])) (n:=n) 2 82 4 rfl (by omega)
   simp only [Y3] at ha
   exact ha
  simp only [push_cast,seval,↓reduceIte,Zk,Try.results78,hN0,hN]
 | some A =>
  refine Zq (t:=false) rfl (fun hc=>by cases hc) (fun _ => ?_)
  refine zK ?_
  refine And.intro rfl (And.intro (Nat.le_of_ble_eq_true rfl) ?_)
  refine Zg ?_
  refine Yx Z4 [] ?_
  simp only [push_cast,seval,↓reduceIte,Zk,h1,h2,hN0,hN]
  refine zW ?_
  refine Zt8 (.inr rfl) hU rfl [.row n r.length] (by omega) ?_
  simp only [push_cast,seval,↓reduceIte,Zk,Try.results78,hN0,hN]
theorem V2 {a0:Zw} {r:Zw} {O:Objs} {n:Nat} {i0 j0_0 j0_1 j0_2:Nat} (hi0:i0 < n) (Ut:j0_0 < n) (Zg4:j0_1 < n) (Zjb:j0_2 < n) (Jr:i0≠j0_0) (U8:i0≠j0_1) (Zbh:i0≠j0_2) (U7:j0_0≠j0_1) (Zbf:j0_0≠j0_2) (Zbg:j0_1≠j0_2) (ho0:O i0=some ⟨false,142,4,1,[.row j0_2 a0.out.length,(vI a0.kept),.row j0_0 a0.gone.length,.row j0_1 a0.come.length]⟩) (U9:O j0_0=some (oR 25 3 Za a0.gone)) (Zia:O j0_1=some (oR 25 3 Za a0.come)) (Zks:O j0_2=some (oR 75 14 Ze a0.out)) (h:Xv a0=some r):GTo Try.prog 120 [.ref i0 0] O n (.tup []) (Zv ((((O.upd j0_0 none).upd j0_1 none).upd j0_2 none).upd i0 (some ⟨false,142,4,1,[.row (n+2) r.out.length,(vI r.kept),.row n r.gone.length,.row (n+1) r.come.length]⟩)) n [some (oR 25 3 Za r.gone),some (oR 25 3 Za r.come),some (oR 75 14 Ze r.out)]) (n+3):=by
 unfold Xv at h
 refine Zl1 Z4 Try.call120 Try.func120 rfl (Nat.le_of_ble_eq_true rfl) (by omega) fun hU => ?_
 have e0:=Kf (ba:=n) (E:=⟨73,[],Zfd 0 [.ref i0 0]⟩) (O:=(Zv O n [])) (n:=n) (i:=i0) (j:=j0_0) (k:=2) (len:=a0.gone.length) (q:=⟨false,142,4,1,[.row j0_2 a0.out.length,.val (.int .i64 a0.kept),.row j0_0 a0.gone.length,.row j0_1 a0.come.length]⟩) (qj:=⟨true,25,3,a0.gone.length,fl Za a0.gone⟩) (by rw [Yr _ hi0];first | exact ho0 | exact Yj _ _ _) rfl (by rw [Yr _ Ut];exact U9) Jr (by omega)
 simp only [Yy _ _ Ut,Yy _ _ hi0,Xk,Y3,Qn,Za4 Jr,List.set_cons_zero,List.set_cons_succ,List.cons_append,List.nil_append,List.length_cons,List.length_nil,Nat.zero_add,Nat.reduceAdd,Nat.add_assoc] at e0
 refine Kq e0 ?_
 have e1:=Kf (ba:=n) (E:=⟨73,[],Zfd 0 [.ref i0 0]⟩) (O:=(Zv ((O.upd j0_0 none).upd i0 (some ⟨false,142,4,1,[.row j0_2 a0.out.length,.val (.int .i64 a0.kept),.row n a0.gone.length,.row j0_1 a0.come.length]⟩)) n [some ⟨true,25,3,a0.gone.length,fl Za a0.gone⟩])) (n:=(n+1)) (i:=i0) (j:=j0_1) (k:=3) (len:=a0.come.length) (q:=⟨false,142,4,1,[.row j0_2 a0.out.length,.val (.int .i64 a0.kept),.row n a0.gone.length,.row j0_1 a0.come.length]⟩) (qj:=⟨true,25,3,a0.come.length,fl Za a0.come⟩) (by rw [Yr _ hi0];first | exact ho0 | exact Yj _ _ _) rfl (by rw [Yr _ Zg4,Xa _ _ (Ne.symm U8),Xa _ _ (Ne.symm U7)];exact Zia) U8 (by omega)
 simp only [Yy _ _ Zg4,Yy _ _ hi0,Xk,Y3,Qn,Za4 U8,List.set_cons_zero,List.set_cons_succ,List.cons_append,List.nil_append,List.length_cons,List.length_nil,Nat.zero_add,Nat.reduceAdd,Nat.add_assoc] at e1
 refine Kq e1 ?_
 have e2:=Kf (ba:=n) (E:=⟨73,[],Zfd 0 [.ref i0 0]⟩) (O:=(Zv (((O.upd j0_0 none).upd j0_1 none).upd i0 (some ⟨false,142,4,1,[.row j0_2 a0.out.length,.val (.int .i64 a0.kept),.row n a0.gone.length,.row (n+1) a0.come.length]⟩)) n [some ⟨true,25,3,a0.gone.length,fl Za a0.gone⟩,some ⟨true,25,3,a0.come.length,fl Za a0.come⟩])) (n:=(n+2)) (i:=i0) (j:=j0_2) (k:=0) (len:=a0.out.length) (q:=⟨false,142,4,1,[.row j0_2 a0.out.length,.val (.int .i64 a0.kept),.row n a0.gone.length,.row (n+1) a0.come.length]⟩) (qj:=⟨true,75,14,a0.out.length,fl Ze a0.out⟩) (by rw [Yr _ hi0];first | exact ho0 | exact Yj _ _ _) rfl (by rw [Yr _ Zjb,Xa _ _ (Ne.symm Zbh),Xa _ _ (Ne.symm Zbg),Xa _ _ (Ne.symm Zbf)];exact Zks) Zbh (by omega)
 simp only [Yy _ _ Zjb,Yy _ _ hi0,Xk,Y3,Qn,Za4 Zbh,List.set_cons_zero,List.set_cons_succ,List.cons_append,List.nil_append,List.length_cons,List.length_nil,Nat.zero_add,Nat.reduceAdd,Nat.add_assoc] at e2
 refine Kq e2 ?_
 have hU:=(Und.drop (Und.drop (Und.drop hU j0_0) j0_1) j0_2)
 have hk0:∀ k,i0 < n+k:=fun k=>by omega
 have hN0:∀ o,Objs.upd (((O.upd j0_0 none).upd j0_1 none).upd j0_2 none) i0 o n=none:=fun o=>Jq hU hi0 _ (Nat.le_refl _)
 have hN:∀ o k,Objs.upd (((O.upd j0_0 none).upd j0_1 none).upd j0_2 none) i0 o (n+k)=none:=fun o k=>Jq hU hi0 _ (Nat.le_add_right _ _)
 show W _ _ _ _ ⟨73,[],[(0,.ref i0 0)]⟩ (Zv ((((O.upd j0_0 none).upd j0_1 none).upd j0_2 none).upd i0 (some ⟨false,142,4,1,[.row (n+2) a0.out.length,(vI a0.kept),.row n a0.gone.length,.row (n+1) a0.come.length]⟩)) n [some (oR 25 3 Za a0.gone),some (oR 25 3 Za a0.come),some (oR 75 14 Ze a0.out)]) _
 obtain ⟨z1,hz1,h⟩:=bC h
 refine Y1 (E':=⟨73,[],[(0,.ref i0 0)]⟩) (O':=(Zv ((((O.upd j0_0 none).upd j0_1 none).upd j0_2 none).upd i0 (some ⟨false,142,4,1,[.row (n+2) z1.length,(vI a0.kept),.row n a0.gone.length,.row (n+1) a0.come.length]⟩)) n [some (oR 25 3 Za a0.gone),some (oR 25 3 Za a0.come),some (oR 75 14 Ze z1),none])) (n0:=(n+4)) ?_ ?_
 ·refine Zex [0,6] hi0 hk0 ?_
  refine Zq (t:=(decide (0 < a0.kept))) rfl (fun c5 => ?_) (fun c5 => ?_)
  ·replace hz1:=Zp c5 hz1
   obtain ⟨l2,pl2,ql2,el2,hz1⟩:=bA (k:=1) rfl hz1
   obtain ⟨x3,hx3,ax3,bx3,cx3,hz1⟩:=bE (f:=Ze) Zfv (fun _=>rfl) (by decide) hz1
   have gu4:Kt (fl Ze a0.out++[.val (.int .i64 0),.val (.int .i64 0),.val (.slice none 0 0),.val (.int .i64 0),.val (.int .i64 0),.val (.slice none 0 0),.val (.slice none 0 0),.val (.int .i64 0),.val (.slice none 0 0),.val (.slice none 0 0),.val (.slice none 0 0),.val (.slice none 0 0),.val (.int .i64 0),.val (.slice none 0 0)]) [.val (.int .i64 0),.val (.int .i64 a0.kept),.val (.slice none 0 0),.val (.int .i64 0),.val (.int .i64 0),.val (.slice none 0 0),.val (.slice none 0 0),.val (.int .i64 0),.val (.slice none 0 0),.val (.slice none 0 0),.val (.slice none 0 0),.val (.slice none 0 0),.val (.int .i64 0),.val (.slice none 0 0)] (List.length a0.out * 14)=some (fl Ze a0.out++[.val (.int .i64 0),.val (.int .i64 a0.kept),.val (.slice none 0 0),.val (.int .i64 0),.val (.int .i64 0),.val (.slice none 0 0),.val (.slice none 0 0),.val (.int .i64 0),.val (.slice none 0 0),.val (.slice none 0 0),.val (.slice none 0 0),.val (.slice none 0 0),.val (.int .i64 0),.val (.slice none 0 0)]):=Za5 (f:=Ze) (sz:=14) (fun _=>rfl) rfl rfl
   refine Vs Z4 (by kernel_rfl) [.plain,.low,.low,.low,.plain,.low,.low,.low,.plain,.low,.pass,.bar,.shp,.fill true,.shp,.shp,.fill false] (fun i=>i < (n+3)) [0,1,2,3,4,5,6,7,8,9,10,11,12,13,14,15,16] [.plain,.low,.low,.low,.plain,.low,.low,.low,.plain,.low,.pass,.bar,.shp,.fill true,.shp,.shp,.fill false] [] (by kernel_rfl) rfl ?_
   refine zF9 pl2 ql2 el2 ax3 bx3 cx3 gu4 hi0 hk0 ?_
   refine zO ?_
   have hz1:=Option.some.inj hz1;subst hz1
   refine And.intro rfl (Fit2.of (Yp hU rfl rfl ?_) (by omega))
   exact Z2l pl2 ql2 el2 ax3 bx3 cx3 gu4 hi0 hk0
  replace hz1:=Zo c5 hz1
  refine zK ?_
  have hz1:=Option.some.inj hz1;subst hz1
  refine And.intro rfl (Fit2.of (Yp hU rfl rfl ?_) (by omega))
  exact Q9 hi0 hk0
 obtain ⟨z6,hz6,h⟩:=bC h
 refine Y1 (E':=⟨73,[],[(0,.ref i0 0)]⟩) (O':=(Zv ((((O.upd j0_0 none).upd j0_1 none).upd j0_2 none).upd i0 (some ⟨false,142,4,1,[.row (n+2) z6.1.length,(vI a0.kept),(sL Za z6.2),.row (n+1) a0.come.length]⟩)) n [none,some (oR 25 3 Za a0.come),some (oR 75 14 Ze z6.1),none,none])) (n0:=(n+5)) ?_ ?_
 ·refine Zex [0,27] hi0 hk0 ?_
  refine Zq (t:=(decide (0 < (a0.gone.length:Int)))) rfl (fun c12 => ?_) (fun c12 => ?_)
  ·replace hz6:=Zp c12 hz6
   refine Zea ⟨73,[],[(0,.ref i0 0)]⟩ (Zv ((((O.upd j0_0 none).upd j0_1 none).upd j0_2 none).upd i0 (some ⟨false,142,4,1,[.row (n+2) z1.length,(vI a0.kept),(sL Za a0.gone),.row (n+1) a0.come.length]⟩)) n [none,some (oR 25 3 Za a0.come),some (oR 75 14 Ze z1),none]) (Yp hU rfl rfl ?_) ?_
   ·exact Q9 hi0 hk0
   obtain ⟨l9,pl9,ql9,el9,hz6⟩:=bA (k:=1) rfl hz6
   obtain ⟨x10,hx10,ax10,bx10,cx10,hz6⟩:=bE (f:=Ze) Zfv (fun _=>rfl) (by decide) hz6
   have gu11:Kt (fl Ze z1++[.val (.int .i64 0),.val (.int .i64 0),.val (.slice none 0 0),.val (.int .i64 0),.val (.int .i64 0),.val (.slice none 0 0),.val (.slice none 0 0),.val (.int .i64 0),.val (.slice none 0 0),.val (.slice none 0 0),.val (.slice none 0 0),.val (.slice none 0 0),.val (.int .i64 0),.val (.slice none 0 0)]) [.val (.int .i64 1),.val (.int .i64 0),.sl a0.gone.length (fl Za a0.gone),.val (.int .i64 0),.val (.int .i64 0),.val (.slice none 0 0),.val (.slice none 0 0),.val (.int .i64 0),.val (.slice none 0 0),.val (.slice none 0 0),.val (.slice none 0 0),.val (.slice none 0 0),.val (.int .i64 0),.val (.slice none 0 0)] (List.length z1 * 14)=some (fl Ze z1++[.val (.int .i64 1),.val (.int .i64 0),.sl a0.gone.length (fl Za a0.gone),.val (.int .i64 0),.val (.int .i64 0),.val (.slice none 0 0),.val (.slice none 0 0),.val (.int .i64 0),.val (.slice none 0 0),.val (.slice none 0 0),.val (.slice none 0 0),.val (.slice none 0 0),.val (.int .i64 0),.val (.slice none 0 0)]):=Za5 (f:=Ze) (sz:=14) (fun _=>rfl) rfl rfl
   refine Vs Z4 (by kernel_rfl) [.plain,.low,.low,.low,.plain,.low,.low,.low,.plain,.low,.pass,.bar,.shp,.fill true,.shp,.shp,.fill false] (fun i=>i < (n+4)) [0,1,2,3,4,5,6,7,8,9,10,11,12,13,14,15,16] [.plain,.low,.low,.low,.plain,.low,.low,.low,.plain,.low,.pass,.bar,.shp,.fill true,.shp,.shp,.fill false] [] (by kernel_rfl) rfl ?_
   refine zF9 pl9 ql9 el9 ax10 bx10 cx10 gu11 hi0 hk0 ?_
   refine zO ?_
   have hz6:=Option.some.inj hz6;subst hz6
   refine And.intro rfl (Fit2.of (Yp hU rfl rfl ?_) (by omega))
   exact Z2l pl9 ql9 el9 ax10 bx10 cx10 gu11 hi0 hk0
  replace hz6:=Zo c12 hz6
  refine zK ?_
  have hz6:=Option.some.inj hz6;subst hz6
  refine And.intro rfl (Fit2.of (Yp hU rfl rfl ?_) (by omega))
  exact Q9 hi0 hk0
 obtain ⟨z13,hz13,h⟩:=bC h
 refine Y1 (E':=⟨73,[],[(0,.ref i0 0)]⟩) (O':=(Zv ((((O.upd j0_0 none).upd j0_1 none).upd j0_2 none).upd i0 (some ⟨false,142,4,1,[.row (n+2) z13.1.length,(vI a0.kept),(sL Za z6.2),(sL Za z13.2)]⟩)) n [none,none,some (oR 75 14 Ze z13.1),none,none,none])) (n0:=(n+6)) ?_ ?_
 ·refine Zex [0,48] hi0 hk0 ?_
  refine Zq (t:=(decide (0 < (a0.come.length:Int)))) rfl (fun c19 => ?_) (fun c19 => ?_)
  ·replace hz13:=Zp c19 hz13
   refine Zea ⟨73,[],[(0,.ref i0 0)]⟩ (Zv ((((O.upd j0_0 none).upd j0_1 none).upd j0_2 none).upd i0 (some ⟨false,142,4,1,[.row (n+2) z6.1.length,(vI a0.kept),(sL Za z6.2),(sL Za a0.come)]⟩)) n [none,none,some (oR 75 14 Ze z6.1),none,none]) (Yp hU rfl rfl ?_) ?_
   ·exact Q9 hi0 hk0
   obtain ⟨l16,pl16,ql16,el16,hz13⟩:=bA (k:=1) rfl hz13
   obtain ⟨x17,hx17,ax17,bx17,cx17,hz13⟩:=bE (f:=Ze) Zfv (fun _=>rfl) (by decide) hz13
   have gu18:Kt (fl Ze z6.1++[.val (.int .i64 0),.val (.int .i64 0),.val (.slice none 0 0),.val (.int .i64 0),.val (.int .i64 0),.val (.slice none 0 0),.val (.slice none 0 0),.val (.int .i64 0),.val (.slice none 0 0),.val (.slice none 0 0),.val (.slice none 0 0),.val (.slice none 0 0),.val (.int .i64 0),.val (.slice none 0 0)]) [.val (.int .i64 2),.val (.int .i64 0),.sl a0.come.length (fl Za a0.come),.val (.int .i64 0),.val (.int .i64 0),.val (.slice none 0 0),.val (.slice none 0 0),.val (.int .i64 0),.val (.slice none 0 0),.val (.slice none 0 0),.val (.slice none 0 0),.val (.slice none 0 0),.val (.int .i64 0),.val (.slice none 0 0)] (List.length z6.1 * 14)=some (fl Ze z6.1++[.val (.int .i64 2),.val (.int .i64 0),.sl a0.come.length (fl Za a0.come),.val (.int .i64 0),.val (.int .i64 0),.val (.slice none 0 0),.val (.slice none 0 0),.val (.int .i64 0),.val (.slice none 0 0),.val (.slice none 0 0),.val (.slice none 0 0),.val (.slice none 0 0),.val (.int .i64 0),.val (.slice none 0 0)]):=Za5 (f:=Ze) (sz:=14) (fun _=>rfl) rfl rfl
   refine Vs Z4 (by kernel_rfl) [.plain,.low,.low,.low,.plain,.low,.low,.low,.plain,.low,.pass,.bar,.shp,.fill true,.shp,.shp,.fill false] (fun i=>i < (n+5)) [0,1,2,3,4,5,6,7,8,9,10,11,12,13,14,15,16] [.plain,.low,.low,.low,.plain,.low,.low,.low,.plain,.low,.pass,.bar,.shp,.fill true,.shp,.shp,.fill false] [] (by kernel_rfl) rfl ?_
   refine zF9 pl16 ql16 el16 ax17 bx17 cx17 gu18 hi0 hk0 ?_
   refine zO ?_
   have hz13:=Option.some.inj hz13;subst hz13
   refine And.intro rfl (Fit2.of (Yp hU rfl rfl ?_) (by omega))
   exact Z2l pl16 ql16 el16 ax17 bx17 cx17 gu18 hi0 hk0
  replace hz13:=Zo c19 hz13
  refine zK ?_
  have hz13:=Option.some.inj hz13;subst hz13
  refine And.intro rfl (Fit2.of (Yp hU rfl rfl ?_) (by omega))
  exact Q9 hi0 hk0
 refine Ju [] hi0 hk0 ?_
 have h:=Option.some.inj h;subst h
 refine Ks (k:=3) (i:=i0) (q1:=⟨false,142,4,1,[.row (n+2) z13.1.length,(vI 0),.row n ([]:List Zb).length,.row (n+1) ([]:List Zb).length]⟩) (L3:=[some (oR 25 3 Za ([]:List Zb)),some (oR 25 3 Za ([]:List Zb)),some (oR 75 14 Ze z13.1),none]) (E2:=(⟨73,[],[]⟩:Env)) (n3:=(n+4)) (.inl rfl) hU rfl [] ?_ ?_
 ·refine Fit2.trans (E':=(⟨73,[],[]⟩:Env)) (O':=(Zv ((((O.upd j0_0 none).upd j0_1 none).upd j0_2 none).upd i0 (some ⟨false,142,4,1,[.row (n+2) z13.1.length,(vI 0),nV,nV]⟩)) n [none,none,some (oR 75 14 Ze z13.1),none,none,none])) (n':=(n+6)) (Fit2.of (Yp hU rfl rfl ?_) (by omega)) ?_
  ·exact Q9 hi0 hk0
  refine Fit2.trans (Zbd (p:=i0) (k:=2) (q:=⟨false,142,4,1,[.row (n+2) z13.1.length,(vI 0),nV,nV]⟩) 25 3 (by simp only [Zah,Zeh,List.getElem?_cons_zero,List.getElem?_cons_succ,Option.join_some,List.length_nil,Yj,Yr,hi0,hk0,hN0,hN]) rfl (by omega)) ?_
  simp only [Xk,Y3,Zbc,Gu,List.set_cons_zero,List.set_cons_succ,List.cons_append,List.nil_append,List.length_cons,List.length_nil,Nat.zero_add,Nat.reduceAdd,Nat.reduceLT,Nat.add_assoc,Yy,Qn,hi0,hk0,hN0,hN]
  refine Fit2.trans (Zbd (p:=i0) (k:=3) (q:=⟨false,142,4,1,[.row (n+2) z13.1.length,(vI 0),.row (n+6) ([]:List Zb).length,nV]⟩) 25 3 (by simp only [Zah,Zeh,List.getElem?_cons_zero,List.getElem?_cons_succ,Option.join_some,List.length_nil,Yj,Yr,hi0,hk0,hN0,hN]) rfl (by omega)) ?_
  simp only [Xk,Y3,Zbc,Gu,List.set_cons_zero,List.set_cons_succ,List.cons_append,List.nil_append,List.length_cons,List.length_nil,Nat.zero_add,Nat.reduceAdd,Nat.reduceLT,Nat.add_assoc,Yy,Qn,hi0,hk0,hN0,hN]
  refine Qm (k:=8) (k':=4) hU [3,3,2,3,3,3,0,1] [6,7,2,0] rfl rfl rfl rfl ⟨rfl,rfl⟩ ?_
  exact Q9 hi0 hk0
 simp only [push_cast,seval,↓reduceIte,Zk,Try.results120,hi0,hk0,hN0,hN]
theorem Zf3 {a0:Zw} {a1:Int} {r:Zw} {O:Objs} {n:Nat} {i0 j0_0 j0_1 j0_2:Nat} (hi0:i0 < n) (Ut:j0_0 < n) (Zg4:j0_1 < n) (Zjb:j0_2 < n) (Jr:i0≠j0_0) (U8:i0≠j0_1) (Zbh:i0≠j0_2) (U7:j0_0≠j0_1) (Zbf:j0_0≠j0_2) (Zbg:j0_1≠j0_2) (ho0:O i0=some ⟨false,142,4,1,[.row j0_2 a0.out.length,(vI a0.kept),.row j0_0 a0.gone.length,.row j0_1 a0.come.length]⟩) (U9:O j0_0=some (oR 25 3 Za a0.gone)) (Zia:O j0_1=some (oR 25 3 Za a0.come)) (Zks:O j0_2=some (oR 75 14 Ze a0.out)) (h:J9 a0 a1=some r):GTo Try.prog 117 [.ref i0 0,(vI a1)] O n (.tup []) (Zv ((((O.upd j0_0 none).upd j0_1 none).upd j0_2 none).upd i0 (some ⟨false,142,4,1,[.row (n+2) r.out.length,(vI r.kept),.row n r.gone.length,.row (n+1) r.come.length]⟩)) n [some (oR 25 3 Za r.gone),some (oR 25 3 Za r.come),some (oR 75 14 Ze r.out)]) (n+3):=by
 unfold J9 at h
 refine Zl1 Z4 Try.call117 Try.func117 rfl (Nat.le_of_ble_eq_true rfl) (by omega) fun hU => ?_
 have e0:=Kf (ba:=n) (E:=⟨19,[],Zfd 0 [.ref i0 0,.val (.int .i64 a1)]⟩) (O:=(Zv O n [])) (n:=n) (i:=i0) (j:=j0_0) (k:=2) (len:=a0.gone.length) (q:=⟨false,142,4,1,[.row j0_2 a0.out.length,.val (.int .i64 a0.kept),.row j0_0 a0.gone.length,.row j0_1 a0.come.length]⟩) (qj:=⟨true,25,3,a0.gone.length,fl Za a0.gone⟩) (by rw [Yr _ hi0];first | exact ho0 | exact Yj _ _ _) rfl (by rw [Yr _ Ut];exact U9) Jr (by omega)
 simp only [Yy _ _ Ut,Yy _ _ hi0,Xk,Y3,Qn,Za4 Jr,List.set_cons_zero,List.set_cons_succ,List.cons_append,List.nil_append,List.length_cons,List.length_nil,Nat.zero_add,Nat.reduceAdd,Nat.add_assoc] at e0
 refine Kq e0 ?_
 have e1:=Kf (ba:=n) (E:=⟨19,[],Zfd 0 [.ref i0 0,.val (.int .i64 a1)]⟩) (O:=(Zv ((O.upd j0_0 none).upd i0 (some ⟨false,142,4,1,[.row j0_2 a0.out.length,.val (.int .i64 a0.kept),.row n a0.gone.length,.row j0_1 a0.come.length]⟩)) n [some ⟨true,25,3,a0.gone.length,fl Za a0.gone⟩])) (n:=(n+1)) (i:=i0) (j:=j0_1) (k:=3) (len:=a0.come.length) (q:=⟨false,142,4,1,[.row j0_2 a0.out.length,.val (.int .i64 a0.kept),.row n a0.gone.length,.row j0_1 a0.come.length]⟩) (qj:=⟨true,25,3,a0.come.length,fl Za a0.come⟩) (by rw [Yr _ hi0];first | exact ho0 | exact Yj _ _ _) rfl (by rw [Yr _ Zg4,Xa _ _ (Ne.symm U8),Xa _ _ (Ne.symm U7)];exact Zia) U8 (by omega)
 simp only [Yy _ _ Zg4,Yy _ _ hi0,Xk,Y3,Qn,Za4 U8,List.set_cons_zero,List.set_cons_succ,List.cons_append,List.nil_append,List.length_cons,List.length_nil,Nat.zero_add,Nat.reduceAdd,Nat.add_assoc] at e1
 refine Kq e1 ?_
 have e2:=Kf (ba:=n) (E:=⟨19,[],Zfd 0 [.ref i0 0,.val (.int .i64 a1)]⟩) (O:=(Zv (((O.upd j0_0 none).upd j0_1 none).upd i0 (some ⟨false,142,4,1,[.row j0_2 a0.out.length,.val (.int .i64 a0.kept),.row n a0.gone.length,.row (n+1) a0.come.length]⟩)) n [some ⟨true,25,3,a0.gone.length,fl Za a0.gone⟩,some ⟨true,25,3,a0.come.length,fl Za a0.come⟩])) (n:=(n+2)) (i:=i0) (j:=j0_2) (k:=0) (len:=a0.out.length) (q:=⟨false,142,4,1,[.row j0_2 a0.out.length,.val (.int .i64 a0.kept),.row n a0.gone.length,.row (n+1) a0.come.length]⟩) (qj:=⟨true,75,14,a0.out.length,fl Ze a0.out⟩) (by rw [Yr _ hi0];first | exact ho0 | exact Yj _ _ _) rfl (by rw [Yr _ Zjb,Xa _ _ (Ne.symm Zbh),Xa _ _ (Ne.symm Zbg),Xa _ _ (Ne.symm Zbf)];exact Zks) Zbh (by omega)
 simp only [Yy _ _ Zjb,Yy _ _ hi0,Xk,Y3,Qn,Za4 Zbh,List.set_cons_zero,List.set_cons_succ,List.cons_append,List.nil_append,List.length_cons,List.length_nil,Nat.zero_add,Nat.reduceAdd,Nat.add_assoc] at e2
 refine Kq e2 ?_
 have hU:=(Und.drop (Und.drop (Und.drop hU j0_0) j0_1) j0_2)
 have hk0:∀ k,i0 < n+k:=fun k=>by omega
 have hN0:∀ o,Objs.upd (((O.upd j0_0 none).upd j0_1 none).upd j0_2 none) i0 o n=none:=fun o=>Jq hU hi0 _ (Nat.le_refl _)
 have hN:∀ o k,Objs.upd (((O.upd j0_0 none).upd j0_1 none).upd j0_2 none) i0 o (n+k)=none:=fun o k=>Jq hU hi0 _ (Nat.le_add_right _ _)
 show W _ _ _ _ ⟨19,[],[(0,.ref i0 0),(1,(vI a1))]⟩ (Zv ((((O.upd j0_0 none).upd j0_1 none).upd j0_2 none).upd i0 (some ⟨false,142,4,1,[.row (n+2) a0.out.length,(vI a0.kept),.row n a0.gone.length,.row (n+1) a0.come.length]⟩)) n [some (oR 25 3 Za a0.gone),some (oR 25 3 Za a0.come),some (oR 75 14 Ze a0.out)]) _
 obtain ⟨z1,hz1,h⟩:=bC h
 refine Y1 (E':=⟨19,[],[(0,.ref i0 0),(1,(vI a1))]⟩) (O':=(Zv ((((O.upd j0_0 none).upd j0_1 none).upd j0_2 none).upd i0 (some ⟨false,142,4,1,[.row (n+6) z1.1.length,(vI z1.2.2.2),.row (n+7) z1.2.1.length,.row (n+8) z1.2.2.1.length]⟩)) n [none,none,none,none,none,none,some (oR 75 14 Ze z1.1),some (oR 25 3 Za z1.2.1),some (oR 25 3 Za z1.2.2.1)])) (n0:=(n+9)) ?_ ?_
 ·refine Zex [0,1,8] hi0 hk0 ?_
  refine Zq (t:=(a0.kept == 0)) rfl (fun c3 => ?_) (fun c3 => ?_)
  ·replace hz1:=Zp c3 hz1
   obtain ⟨y2,hy2,hz1⟩:=bC hz1
   refine Ju [] hi0 hk0 ?_
   refine (V2 (i0:=i0) (j0_0:=n) (j0_1:=(n+1)) (j0_2:=(n+2)) (by omega) (by omega) (by omega) (by omega) (by omega) (by omega) (by omega) (by omega) (by omega) (by omega) (by simp only [push_cast,seval,↓reduceIte,Zk,Xn,hi0,hk0,hN0,hN] <;> rfl) (by simp only [push_cast,seval,↓reduceIte,Zk,Xn,hi0,hk0,hN0,hN] <;> rfl) (by simp only [push_cast,seval,↓reduceIte,Zk,Xn,hi0,hk0,hN0,hN] <;> rfl) (by simp only [push_cast,seval,↓reduceIte,Zk,Xn,hi0,hk0,hN0,hN] <;> rfl) hy2).then ?_
   refine zX2 hi0 hk0 ?_
   have hz1:=Option.some.inj hz1;subst hz1
   refine And.intro rfl ?_
   refine Fit2.trans (E':=(⟨19,[],[(0,.ref i0 0),(1,(vI a1))]⟩:Env)) (O':=(Zv ((((O.upd j0_0 none).upd j0_1 none).upd j0_2 none).upd i0 (some ⟨false,142,4,1,[.row (n+5) y2.out.length,(vI y2.kept),.row (n+3) y2.gone.length,.row (n+4) y2.come.length]⟩)) n [none,none,none,some (oR 25 3 Za y2.gone),some (oR 25 3 Za y2.come),some (oR 75 14 Ze y2.out)])) (n':=(n+6)) (Fit2.of (Yp hU rfl rfl ?_) (by omega)) ?_
   ·exact Q9 hi0 hk0
   refine Qm (k:=6) (k':=9) hU [5,5,5,7,8,6] [0,0,0,0,0,0,5,3,4] rfl rfl rfl rfl ⟨rfl,rfl⟩ ?_
   exact Q9 hi0 hk0
  replace hz1:=Zo c3 hz1
  refine zK ?_
  have hz1:=Option.some.inj hz1;subst hz1
  refine And.intro rfl ?_
  refine Fit2.trans (E':=(⟨19,[],[(0,.ref i0 0),(1,(vI a1))]⟩:Env)) (O':=(Zv ((((O.upd j0_0 none).upd j0_1 none).upd j0_2 none).upd i0 (some ⟨false,142,4,1,[.row (n+2) a0.out.length,(vI a0.kept),.row n a0.gone.length,.row (n+1) a0.come.length]⟩)) n [some (oR 25 3 Za a0.gone),some (oR 25 3 Za a0.come),some (oR 75 14 Ze a0.out)])) (n':=(n+3)) (Fit2.of (Yp hU rfl rfl ?_) (by omega)) ?_
  ·exact Q9 hi0 hk0
  refine Qm (k:=3) (k':=9) hU [7,8,6] [0,0,0,0,0,0,2,0,1] rfl rfl rfl rfl ⟨rfl,rfl⟩ ?_
  exact Q9 hi0 hk0
 refine Ju [] hi0 hk0 ?_
 have h:=Option.some.inj h;subst h
 refine Ks (k:=3) (i:=i0) (q1:=⟨false,142,4,1,[.row (n+2) z1.1.length,(vI (IntKind.i64.wrap (z1.2.2.2+a1))),.row n z1.2.1.length,.row (n+1) z1.2.2.1.length]⟩) (L3:=[some (oR 25 3 Za z1.2.1),some (oR 25 3 Za z1.2.2.1),some (oR 75 14 Ze z1.1),none]) (E2:=(⟨19,[],[]⟩:Env)) (n3:=(n+4)) (.inl rfl) hU rfl [] ?_ ?_
 ·refine Fit2.trans (E':=(⟨19,[],[]⟩:Env)) (O':=(Zv ((((O.upd j0_0 none).upd j0_1 none).upd j0_2 none).upd i0 (some ⟨false,142,4,1,[.row (n+6) z1.1.length,(vI (IntKind.i64.wrap (z1.2.2.2+a1))),.row (n+7) z1.2.1.length,.row (n+8) z1.2.2.1.length]⟩)) n [none,none,none,none,none,none,some (oR 75 14 Ze z1.1),some (oR 25 3 Za z1.2.1),some (oR 25 3 Za z1.2.2.1)])) (n':=(n+9)) (Fit2.of (Yp hU rfl rfl ?_) (by omega)) ?_
  ·exact Q9 hi0 hk0
  refine Qm (k:=9) (k':=4) hU [3,3,3,3,3,3,2,0,1] [7,8,6,0] rfl rfl rfl rfl ⟨rfl,rfl⟩ ?_
  exact Q9 hi0 hk0
 simp only [push_cast,seval,↓reduceIte,Zk,Try.results117,hi0,hk0,hN0,hN]
theorem Zi7 {a0:Zw} {a2:(List Zb)} {r:Zw} {O:Objs} {n:Nat} {i0 j0_0 j0_1 j0_2:Nat} (hi0:i0 < n) (Ut:j0_0 < n) (Zg4:j0_1 < n) (Zjb:j0_2 < n) (Jr:i0≠j0_0) (U8:i0≠j0_1) (Zbh:i0≠j0_2) (U7:j0_0≠j0_1) (Zbf:j0_0≠j0_2) (Zbg:j0_1≠j0_2) (ho0:O i0=some ⟨false,142,4,1,[.row j0_2 a0.out.length,(vI a0.kept),.row j0_0 a0.gone.length,.row j0_1 a0.come.length]⟩) (U9:O j0_0=some (oR 25 3 Za a0.gone)) (Zia:O j0_1=some (oR 25 3 Za a0.come)) (Zks:O j0_2=some (oR 75 14 Ze a0.out)) (h:Js a0 a2=some r):GTo Try.prog 118 [.ref i0 0,.ref i0 2,(sL Za a2)] O n (.tup []) (Zv ((((O.upd j0_0 none).upd j0_1 none).upd j0_2 none).upd i0 (some ⟨false,142,4,1,[.row (n+2) r.out.length,(vI r.kept),.row n r.gone.length,.row (n+1) r.come.length]⟩)) n [some (oR 25 3 Za r.gone),some (oR 25 3 Za r.come),some (oR 75 14 Ze r.out)]) (n+3):=by
 unfold Js at h
 refine Zl1 Z4 Try.call118 Try.func118 rfl (Nat.le_of_ble_eq_true rfl) (by omega) fun hU => ?_
 have e0:=Kf (ba:=n) (E:=⟨32,[],Zfd 0 [.ref i0 0,.ref i0 2,.sl a2.length (fl Za a2)]⟩) (O:=(Zv O n [])) (n:=n) (i:=i0) (j:=j0_0) (k:=2) (len:=a0.gone.length) (q:=⟨false,142,4,1,[.row j0_2 a0.out.length,.val (.int .i64 a0.kept),.row j0_0 a0.gone.length,.row j0_1 a0.come.length]⟩) (qj:=⟨true,25,3,a0.gone.length,fl Za a0.gone⟩) (by rw [Yr _ hi0];first | exact ho0 | exact Yj _ _ _) rfl (by rw [Yr _ Ut];exact U9) Jr (by omega)
 simp only [Yy _ _ Ut,Yy _ _ hi0,Xk,Y3,Qn,Za4 Jr,List.set_cons_zero,List.set_cons_succ,List.cons_append,List.nil_append,List.length_cons,List.length_nil,Nat.zero_add,Nat.reduceAdd,Nat.add_assoc] at e0
 refine Kq e0 ?_
 have e1:=Kf (ba:=n) (E:=⟨32,[],Zfd 0 [.ref i0 0,.ref i0 2,.sl a2.length (fl Za a2)]⟩) (O:=(Zv ((O.upd j0_0 none).upd i0 (some ⟨false,142,4,1,[.row j0_2 a0.out.length,.val (.int .i64 a0.kept),.row n a0.gone.length,.row j0_1 a0.come.length]⟩)) n [some ⟨true,25,3,a0.gone.length,fl Za a0.gone⟩])) (n:=(n+1)) (i:=i0) (j:=j0_1) (k:=3) (len:=a0.come.length) (q:=⟨false,142,4,1,[.row j0_2 a0.out.length,.val (.int .i64 a0.kept),.row n a0.gone.length,.row j0_1 a0.come.length]⟩) (qj:=⟨true,25,3,a0.come.length,fl Za a0.come⟩) (by rw [Yr _ hi0];first | exact ho0 | exact Yj _ _ _) rfl (by rw [Yr _ Zg4,Xa _ _ (Ne.symm U8),Xa _ _ (Ne.symm U7)];exact Zia) U8 (by omega)
 simp only [Yy _ _ Zg4,Yy _ _ hi0,Xk,Y3,Qn,Za4 U8,List.set_cons_zero,List.set_cons_succ,List.cons_append,List.nil_append,List.length_cons,List.length_nil,Nat.zero_add,Nat.reduceAdd,Nat.add_assoc] at e1
 refine Kq e1 ?_
 have e2:=Kf (ba:=n) (E:=⟨32,[],Zfd 0 [.ref i0 0,.ref i0 2,.sl a2.length (fl Za a2)]⟩) (O:=(Zv (((O.upd j0_0 none).upd j0_1 none).upd i0 (some ⟨false,142,4,1,[.row j0_2 a0.out.length,.val (.int .i64 a0.kept),.row n a0.gone.length,.row (n+1) a0.come.length]⟩)) n [some ⟨true,25,3,a0.gone.length,fl Za a0.gone⟩,some ⟨true,25,3,a0.come.length,fl Za a0.come⟩])) (n:=(n+2)) (i:=i0) (j:=j0_2) (k:=0) (len:=a0.out.length) (q:=⟨false,142,4,1,[.row j0_2 a0.out.length,.val (.int .i64 a0.kept),.row n a0.gone.length,.row (n+1) a0.come.length]⟩) (qj:=⟨true,75,14,a0.out.length,fl Ze a0.out⟩) (by rw [Yr _ hi0];first | exact ho0 | exact Yj _ _ _) rfl (by rw [Yr _ Zjb,Xa _ _ (Ne.symm Zbh),Xa _ _ (Ne.symm Zbg),Xa _ _ (Ne.symm Zbf)];exact Zks) Zbh (by omega)
 simp only [Yy _ _ Zjb,Yy _ _ hi0,Xk,Y3,Qn,Za4 Zbh,List.set_cons_zero,List.set_cons_succ,List.cons_append,List.nil_append,List.length_cons,List.length_nil,Nat.zero_add,Nat.reduceAdd,Nat.add_assoc] at e2
 refine Kq e2 ?_
 have hU:=(Und.drop (Und.drop (Und.drop hU j0_0) j0_1) j0_2)
 have hk0:∀ k,i0 < n+k:=fun k=>by omega
 have hN0:∀ o,Objs.upd (((O.upd j0_0 none).upd j0_1 none).upd j0_2 none) i0 o n=none:=fun o=>Jq hU hi0 _ (Nat.le_refl _)
 have hN:∀ o k,Objs.upd (((O.upd j0_0 none).upd j0_1 none).upd j0_2 none) i0 o (n+k)=none:=fun o k=>Jq hU hi0 _ (Nat.le_add_right _ _)
 show W _ _ _ _ ⟨32,[],[(0,.ref i0 0),(1,.ref i0 2),(2,(sL Za a2))]⟩ (Zv ((((O.upd j0_0 none).upd j0_1 none).upd j0_2 none).upd i0 (some ⟨false,142,4,1,[.row (n+2) a0.out.length,(vI a0.kept),.row n a0.gone.length,.row (n+1) a0.come.length]⟩)) n [some (oR 25 3 Za a0.gone),some (oR 25 3 Za a0.come),some (oR 75 14 Ze a0.out)]) _
 obtain ⟨z1,hz1,h⟩:=bC h
 refine Y1 (E':=⟨32,[],[(1,.ref i0 2),(2,(sL Za a2))]⟩) (O':=(Zv ((((O.upd j0_0 none).upd j0_1 none).upd j0_2 none).upd i0 (some ⟨false,142,4,1,[.row (n+6) z1.1.length,(vI z1.2.2.2),.row (n+7) z1.2.1.length,.row (n+8) z1.2.2.1.length]⟩)) n [none,none,none,none,none,none,some (oR 75 14 Ze z1.1),some (oR 25 3 Za z1.2.1),some (oR 25 3 Za z1.2.2.1)])) (n0:=(n+9)) ?_ ?_
 ·refine Zex [0,1,2,12] hi0 hk0 ?_
  refine Zq (t:=(decide (0 < a0.kept))) rfl (fun c3 => ?_) (fun c3 => ?_)
  ·replace hz1:=Zp c3 hz1
   obtain ⟨y2,hy2,hz1⟩:=bC hz1
   refine Ju [] hi0 hk0 ?_
   refine (V2 (i0:=i0) (j0_0:=n) (j0_1:=(n+1)) (j0_2:=(n+2)) (by omega) (by omega) (by omega) (by omega) (by omega) (by omega) (by omega) (by omega) (by omega) (by omega) (by simp only [push_cast,seval,↓reduceIte,Zk,Xn,hi0,hk0,hN0,hN] <;> rfl) (by simp only [push_cast,seval,↓reduceIte,Zk,Xn,hi0,hk0,hN0,hN] <;> rfl) (by simp only [push_cast,seval,↓reduceIte,Zk,Xn,hi0,hk0,hN0,hN] <;> rfl) (by simp only [push_cast,seval,↓reduceIte,Zk,Xn,hi0,hk0,hN0,hN] <;> rfl) hy2).then ?_
   refine zX2 hi0 hk0 ?_
   have hz1:=Option.some.inj hz1;subst hz1
   refine And.intro rfl ?_
   refine Fit2.trans (E':=(⟨32,[],[(1,.ref i0 2),(2,(sL Za a2))]⟩:Env)) (O':=(Zv ((((O.upd j0_0 none).upd j0_1 none).upd j0_2 none).upd i0 (some ⟨false,142,4,1,[.row (n+5) y2.out.length,(vI y2.kept),.row (n+3) y2.gone.length,.row (n+4) y2.come.length]⟩)) n [none,none,none,some (oR 25 3 Za y2.gone),some (oR 25 3 Za y2.come),some (oR 75 14 Ze y2.out)])) (n':=(n+6)) (Fit2.of (Yp hU rfl rfl ?_) (by omega)) ?_
   ·exact Q9 hi0 hk0
   refine Qm (k:=6) (k':=9) hU [5,5,5,7,8,6] [0,0,0,0,0,0,5,3,4] rfl rfl rfl rfl ⟨rfl,rfl⟩ ?_
   exact Q9 hi0 hk0
  replace hz1:=Zo c3 hz1
  refine zK ?_
  have hz1:=Option.some.inj hz1;subst hz1
  refine And.intro rfl ?_
  refine Fit2.trans (E':=(⟨32,[],[(1,.ref i0 2),(2,(sL Za a2))]⟩:Env)) (O':=(Zv ((((O.upd j0_0 none).upd j0_1 none).upd j0_2 none).upd i0 (some ⟨false,142,4,1,[.row (n+2) a0.out.length,(vI a0.kept),.row n a0.gone.length,.row (n+1) a0.come.length]⟩)) n [some (oR 25 3 Za a0.gone),some (oR 25 3 Za a0.come),some (oR 75 14 Ze a0.out)])) (n':=(n+3)) (Fit2.of (Yp hU rfl rfl ?_) (by omega)) ?_
  ·exact Q9 hi0 hk0
  refine Qm (k:=3) (k':=9) hU [7,8,6] [0,0,0,0,0,0,2,0,1] rfl rfl rfl rfl ⟨rfl,rfl⟩ ?_
  exact Q9 hi0 hk0
 refine Zex [1,15,16,17] hi0 hk0 ?_
 refine zD [1,15,16,17] [false,false,false,false,false,false,true,true,true] ?_
 obtain ⟨z11,hz11,h⟩:=bC h
 refine Yz (E':=⟨32,[],[]⟩) (O':=(Zv ((((O.upd j0_0 none).upd j0_1 none).upd j0_2 none).upd i0 (some ⟨false,142,4,1,[.row (n+6) z1.1.length,(vI z1.2.2.2),.row (n+7) z11.length,.row (n+8) z1.2.2.1.length]⟩)) n [none,none,none,none,none,none,some (oR 75 14 Ze z1.1),some (oR 25 3 Za z11),some (oR 25 3 Za z1.2.2.1)])) (n0:=(n+9)) ?_ ?_
 ·refine Xe hz11 (fun s0_=>⟨32,[],[(1,.ref i0 2),(15,(sL Za a2)),(16,(vI (a2.length:Int))),(17,(vI s0_.1))]⟩) (fun s0_=>(Zv ((((O.upd j0_0 none).upd j0_1 none).upd j0_2 none).upd i0 (some ⟨false,142,4,1,[.row (n+6) z1.1.length,(vI z1.2.2.2),.row (n+7) s0_.2.length,.row (n+8) z1.2.2.1.length]⟩)) n [none,none,none,none,none,none,some (oR 75 14 Ze z1.1),some (oR 25 3 Za s0_.2),some (oR 25 3 Za z1.2.2.1)])) (fun z11=>JX 0 n (⟨32,[],[]⟩:Env) (Zv ((((O.upd j0_0 none).upd j0_1 none).upd j0_2 none).upd i0 (some ⟨false,142,4,1,[.row (n+6) z1.1.length,(vI z1.2.2.2),.row (n+7) z11.length,.row (n+8) z1.2.2.1.length]⟩)) n [none,none,none,none,none,none,some (oR 75 14 Ze z1.1),some (oR 25 3 Za z11),some (oR 25 3 Za z1.2.2.1)]) (n+9)) ?_
  intro s0_ x0_ hs0_
  unfold Qu at hs0_
  try dsimp only
  refine Zex [1,15,16,17,18] hi0 hk0 ?_
  refine Zg ?_
  refine Zq (t:=(decide (s0_.1 < (a2.length:Int)))) rfl (fun c10 => ?_) (fun c10 => ?_)
  ·replace hs0_:=Zp c10 hs0_
   refine Q7 [1,15,16,17] [false,false,false,false,false,false,true,true,true] ?_
   refine Zg ?_
   refine Yg ?_
   refine Zg ?_
   obtain ⟨x5,hx5,ax5,bx5,cx5,hs0_⟩:=bE (f:=Za) V5 (fun _=>rfl) (by decide) hs0_
   refine Z8f [] ax5 bx5 cx5 hi0 hk0 ?_
   refine zD [1,7,15,16,17] [false,false,false,false,false,false,true,true,true,true] ?_
   obtain ⟨y6,hy6,hs0_⟩:=bC hs0_
   obtain ⟨l7,pl7,ql7,el7,hs0_⟩:=bA (k:=1) rfl hs0_
   obtain ⟨x8,hx8,ax8,bx8,cx8,hs0_⟩:=bE (f:=Za) V5 (fun _=>rfl) (by decide) hs0_
   have gu9:Kt (fl Za s0_.2++[.val (.int .i64 0),.val (.slice none 0 0),.val (.slice none 0 0)]) [.val (.int .i64 y6.Kind),.sl y6.Words.length (fl (eI .u64) y6.Words),.sl y6.Kids.length (fl Za y6.Kids)] (List.length s0_.2 * 3)=some (fl Za s0_.2++[.val (.int .i64 y6.Kind),.sl y6.Words.length (fl (eI .u64) y6.Words),.sl y6.Kids.length (fl Za y6.Kids)]):=Za5 (f:=Za) (sz:=3) (fun _=>rfl) rfl rfl
   refine Vs Z4 (by kernel_rfl) [.plain,.low,.low,.low,.low,.low,.pass,.bar,.shp,.fill true,.shp,.fill false] (fun i=>i < (n+10)) [0,1,2,3,4,5,6,7,8,9,10,11] [.plain,.low,.low,.low,.low,.low,.pass,.bar,.shp,.fill true,.shp,.fill false] [] (by kernel_rfl) rfl ?_
   refine zF9 pl7 ql7 el7 ax8 bx8 cx8 gu9 hi0 hk0 ?_
   refine zO ?_
   first | refine PCallA.of (fun _ _=>Zbl hy6) ?_ | refine PCall.of (Zbl hy6) ?_
   refine zF9 pl7 ql7 el7 ax8 bx8 cx8 gu9 hi0 hk0 ?_
   refine zO ?_
   refine Zea ⟨32,[],[(1,.ref i0 2),(15,(sL Za a2)),(16,(vI (a2.length:Int))),(17,(vI s0_.1))]⟩ (Zv ((((O.upd j0_0 none).upd j0_1 none).upd j0_2 none).upd i0 (some ⟨false,142,4,1,[.row (n+6) z1.1.length,(vI z1.2.2.2),.row (n+7) (s0_.2++[y6]).length,.row (n+8) z1.2.2.1.length]⟩)) n [none,none,none,none,none,none,some (oR 75 14 Ze z1.1),some (oR 25 3 Za (s0_.2++[y6])),some (oR 25 3 Za z1.2.2.1),none,none]) (Yp hU rfl rfl ?_) ?_
   ·exact Z2l pl7 ql7 el7 ax8 bx8 cx8 gu9 hi0 hk0
   refine Ju [] hi0 hk0 ?_
   have hs0_:=Option.some.inj hs0_;subst hs0_
   refine And.intro rfl (Fit2.of (Yp hU rfl rfl ?_) (by omega))
   exact Q9 hi0 hk0
  replace hs0_:=Zo c10 hs0_
  refine zXt ?_
  have hs0_:=Option.some.inj hs0_;subst hs0_
  refine And.intro (fun h=>by cases h) (And.intro rfl (Fit2.of (Yp hU rfl rfl ?_) (by omega)))
  exact Q9 hi0 hk0
 try simp only [Y2,Z7,↓reduceIte,Nat.reduceEqDiff]
 have h:=Option.some.inj h;subst h
 refine Ks (k:=3) (i:=i0) (q1:=⟨false,142,4,1,[.row (n+2) z1.1.length,(vI z1.2.2.2),.row n z11.length,.row (n+1) z1.2.2.1.length]⟩) (L3:=[some (oR 25 3 Za z11),some (oR 25 3 Za z1.2.2.1),some (oR 75 14 Ze z1.1),none]) (E2:=(⟨32,[],[]⟩:Env)) (n3:=(n+4)) (.inl rfl) hU rfl [] ?_ ?_
 ·refine Fit2.trans (E':=(⟨32,[],[]⟩:Env)) (O':=(Zv ((((O.upd j0_0 none).upd j0_1 none).upd j0_2 none).upd i0 (some ⟨false,142,4,1,[.row (n+6) z1.1.length,(vI z1.2.2.2),.row (n+7) z11.length,.row (n+8) z1.2.2.1.length]⟩)) n [none,none,none,none,none,none,some (oR 75 14 Ze z1.1),some (oR 25 3 Za z11),some (oR 25 3 Za z1.2.2.1)])) (n':=(n+9)) (Fit2.of (Yp hU rfl rfl ?_) (by omega)) ?_
  ·exact Q9 hi0 hk0
  refine Qm (k:=9) (k':=4) hU [3,3,3,3,3,3,2,0,1] [7,8,6,0] rfl rfl rfl rfl ⟨rfl,rfl⟩ ?_
  exact Q9 hi0 hk0
 simp only [push_cast,seval,↓reduceIte,Zk,Try.results118,hi0,hk0,hN0,hN]
theorem Zi8 {a0:Zw} {a2:(List Zb)} {r:Zw} {O:Objs} {n:Nat} {i0 j0_0 j0_1 j0_2:Nat} (hi0:i0 < n) (Ut:j0_0 < n) (Zg4:j0_1 < n) (Zjb:j0_2 < n) (Jr:i0≠j0_0) (U8:i0≠j0_1) (Zbh:i0≠j0_2) (U7:j0_0≠j0_1) (Zbf:j0_0≠j0_2) (Zbg:j0_1≠j0_2) (ho0:O i0=some ⟨false,142,4,1,[.row j0_2 a0.out.length,(vI a0.kept),.row j0_0 a0.gone.length,.row j0_1 a0.come.length]⟩) (U9:O j0_0=some (oR 25 3 Za a0.gone)) (Zia:O j0_1=some (oR 25 3 Za a0.come)) (Zks:O j0_2=some (oR 75 14 Ze a0.out)) (h:Jt a0 a2=some r):GTo Try.prog 118 [.ref i0 0,.ref i0 3,(sL Za a2)] O n (.tup []) (Zv ((((O.upd j0_0 none).upd j0_1 none).upd j0_2 none).upd i0 (some ⟨false,142,4,1,[.row (n+2) r.out.length,(vI r.kept),.row n r.gone.length,.row (n+1) r.come.length]⟩)) n [some (oR 25 3 Za r.gone),some (oR 25 3 Za r.come),some (oR 75 14 Ze r.out)]) (n+3):=by
 unfold Jt at h
 refine Zl1 Z4 Try.call118 Try.func118 rfl (Nat.le_of_ble_eq_true rfl) (by omega) fun hU => ?_
 have e0:=Kf (ba:=n) (E:=⟨32,[],Zfd 0 [.ref i0 0,.ref i0 3,.sl a2.length (fl Za a2)]⟩) (O:=(Zv O n [])) (n:=n) (i:=i0) (j:=j0_0) (k:=2) (len:=a0.gone.length) (q:=⟨false,142,4,1,[.row j0_2 a0.out.length,.val (.int .i64 a0.kept),.row j0_0 a0.gone.length,.row j0_1 a0.come.length]⟩) (qj:=⟨true,25,3,a0.gone.length,fl Za a0.gone⟩) (by rw [Yr _ hi0];first | exact ho0 | exact Yj _ _ _) rfl (by rw [Yr _ Ut];exact U9) Jr (by omega)
 simp only [Yy _ _ Ut,Yy _ _ hi0,Xk,Y3,Qn,Za4 Jr,List.set_cons_zero,List.set_cons_succ,List.cons_append,List.nil_append,List.length_cons,List.length_nil,Nat.zero_add,Nat.reduceAdd,Nat.add_assoc] at e0
 refine Kq e0 ?_
 have e1:=Kf (ba:=n) (E:=⟨32,[],Zfd 0 [.ref i0 0,.ref i0 3,.sl a2.length (fl Za a2)]⟩) (O:=(Zv ((O.upd j0_0 none).upd i0 (some ⟨false,142,4,1,[.row j0_2 a0.out.length,.val (.int .i64 a0.kept),.row n a0.gone.length,.row j0_1 a0.come.length]⟩)) n [some ⟨true,25,3,a0.gone.length,fl Za a0.gone⟩])) (n:=(n+1)) (i:=i0) (j:=j0_1) (k:=3) (len:=a0.come.length) (q:=⟨false,142,4,1,[.row j0_2 a0.out.length,.val (.int .i64 a0.kept),.row n a0.gone.length,.row j0_1 a0.come.length]⟩) (qj:=⟨true,25,3,a0.come.length,fl Za a0.come⟩) (by rw [Yr _ hi0];first | exact ho0 | exact Yj _ _ _) rfl (by rw [Yr _ Zg4,Xa _ _ (Ne.symm U8),Xa _ _ (Ne.symm U7)];exact Zia) U8 (by omega)
 simp only [Yy _ _ Zg4,Yy _ _ hi0,Xk,Y3,Qn,Za4 U8,List.set_cons_zero,List.set_cons_succ,List.cons_append,List.nil_append,List.length_cons,List.length_nil,Nat.zero_add,Nat.reduceAdd,Nat.add_assoc] at e1
 refine Kq e1 ?_
 have e2:=Kf (ba:=n) (E:=⟨32,[],Zfd 0 [.ref i0 0,.ref i0 3,.sl a2.length (fl Za a2)]⟩) (O:=(Zv (((O.upd j0_0 none).upd j0_1 none).upd i0 (some ⟨false,142,4,1,[.row j0_2 a0.out.length,.val (.int .i64 a0.kept),.row n a0.gone.length,.row (n+1) a0.come.length]⟩)) n [some ⟨true,25,3,a0.gone.length,fl Za a0.gone⟩,some ⟨true,25,3,a0.come.length,fl Za a0.come⟩])) (n:=(n+2)) (i:=i0) (j:=j0_2) (k:=0) (len:=a0.out.length) (q:=⟨false,142,4,1,[.row j0_2 a0.out.length,.val (.int .i64 a0.kept),.row n a0.gone.length,.row (n+1) a0.come.length]⟩) (qj:=⟨true,75,14,a0.out.length,fl Ze a0.out⟩) (by rw [Yr _ hi0];first | exact ho0 | exact Yj _ _ _) rfl (by rw [Yr _ Zjb,Xa _ _ (Ne.symm Zbh),Xa _ _ (Ne.symm Zbg),Xa _ _ (Ne.symm Zbf)];exact Zks) Zbh (by omega)
 simp only [Yy _ _ Zjb,Yy _ _ hi0,Xk,Y3,Qn,Za4 Zbh,List.set_cons_zero,List.set_cons_succ,List.cons_append,List.nil_append,List.length_cons,List.length_nil,Nat.zero_add,Nat.reduceAdd,Nat.add_assoc] at e2
 refine Kq e2 ?_
 have hU:=(Und.drop (Und.drop (Und.drop hU j0_0) j0_1) j0_2)
 have hk0:∀ k,i0 < n+k:=fun k=>by omega
 have hN0:∀ o,Objs.upd (((O.upd j0_0 none).upd j0_1 none).upd j0_2 none) i0 o n=none:=fun o=>Jq hU hi0 _ (Nat.le_refl _)
 have hN:∀ o k,Objs.upd (((O.upd j0_0 none).upd j0_1 none).upd j0_2 none) i0 o (n+k)=none:=fun o k=>Jq hU hi0 _ (Nat.le_add_right _ _)
 show W _ _ _ _ ⟨32,[],[(0,.ref i0 0),(1,.ref i0 3),(2,(sL Za a2))]⟩ (Zv ((((O.upd j0_0 none).upd j0_1 none).upd j0_2 none).upd i0 (some ⟨false,142,4,1,[.row (n+2) a0.out.length,(vI a0.kept),.row n a0.gone.length,.row (n+1) a0.come.length]⟩)) n [some (oR 25 3 Za a0.gone),some (oR 25 3 Za a0.come),some (oR 75 14 Ze a0.out)]) _
 obtain ⟨z1,hz1,h⟩:=bC h
 refine Y1 (E':=⟨32,[],[(1,.ref i0 3),(2,(sL Za a2))]⟩) (O':=(Zv ((((O.upd j0_0 none).upd j0_1 none).upd j0_2 none).upd i0 (some ⟨false,142,4,1,[.row (n+6) z1.1.length,(vI z1.2.2.2),.row (n+7) z1.2.1.length,.row (n+8) z1.2.2.1.length]⟩)) n [none,none,none,none,none,none,some (oR 75 14 Ze z1.1),some (oR 25 3 Za z1.2.1),some (oR 25 3 Za z1.2.2.1)])) (n0:=(n+9)) ?_ ?_
 ·refine Zex [0,1,2,12] hi0 hk0 ?_
  refine Zq (t:=(decide (0 < a0.kept))) rfl (fun c3 => ?_) (fun c3 => ?_)
  ·replace hz1:=Zp c3 hz1
   obtain ⟨y2,hy2,hz1⟩:=bC hz1
   refine Ju [] hi0 hk0 ?_
   refine (V2 (i0:=i0) (j0_0:=n) (j0_1:=(n+1)) (j0_2:=(n+2)) (by omega) (by omega) (by omega) (by omega) (by omega) (by omega) (by omega) (by omega) (by omega) (by omega) (by simp only [push_cast,seval,↓reduceIte,Zk,Xn,hi0,hk0,hN0,hN] <;> rfl) (by simp only [push_cast,seval,↓reduceIte,Zk,Xn,hi0,hk0,hN0,hN] <;> rfl) (by simp only [push_cast,seval,↓reduceIte,Zk,Xn,hi0,hk0,hN0,hN] <;> rfl) (by simp only [push_cast,seval,↓reduceIte,Zk,Xn,hi0,hk0,hN0,hN] <;> rfl) hy2).then ?_
   refine zX2 hi0 hk0 ?_
   have hz1:=Option.some.inj hz1;subst hz1
   refine And.intro rfl ?_
   refine Fit2.trans (E':=(⟨32,[],[(1,.ref i0 3),(2,(sL Za a2))]⟩:Env)) (O':=(Zv ((((O.upd j0_0 none).upd j0_1 none).upd j0_2 none).upd i0 (some ⟨false,142,4,1,[.row (n+5) y2.out.length,(vI y2.kept),.row (n+3) y2.gone.length,.row (n+4) y2.come.length]⟩)) n [none,none,none,some (oR 25 3 Za y2.gone),some (oR 25 3 Za y2.come),some (oR 75 14 Ze y2.out)])) (n':=(n+6)) (Fit2.of (Yp hU rfl rfl ?_) (by omega)) ?_
   ·exact Q9 hi0 hk0
   refine Qm (k:=6) (k':=9) hU [5,5,5,7,8,6] [0,0,0,0,0,0,5,3,4] rfl rfl rfl rfl ⟨rfl,rfl⟩ ?_
   exact Q9 hi0 hk0
  replace hz1:=Zo c3 hz1
  refine zK ?_
  have hz1:=Option.some.inj hz1;subst hz1
  refine And.intro rfl ?_
  refine Fit2.trans (E':=(⟨32,[],[(1,.ref i0 3),(2,(sL Za a2))]⟩:Env)) (O':=(Zv ((((O.upd j0_0 none).upd j0_1 none).upd j0_2 none).upd i0 (some ⟨false,142,4,1,[.row (n+2) a0.out.length,(vI a0.kept),.row n a0.gone.length,.row (n+1) a0.come.length]⟩)) n [some (oR 25 3 Za a0.gone),some (oR 25 3 Za a0.come),some (oR 75 14 Ze a0.out)])) (n':=(n+3)) (Fit2.of (Yp hU rfl rfl ?_) (by omega)) ?_
  ·exact Q9 hi0 hk0
  refine Qm (k:=3) (k':=9) hU [7,8,6] [0,0,0,0,0,0,2,0,1] rfl rfl rfl rfl ⟨rfl,rfl⟩ ?_
  exact Q9 hi0 hk0
 refine Zex [1,15,16,17] hi0 hk0 ?_
 refine zD [1,15,16,17] [false,false,false,false,false,false,true,true,true] ?_
 obtain ⟨z11,hz11,h⟩:=bC h
 refine Yz (E':=⟨32,[],[]⟩) (O':=(Zv ((((O.upd j0_0 none).upd j0_1 none).upd j0_2 none).upd i0 (some ⟨false,142,4,1,[.row (n+6) z1.1.length,(vI z1.2.2.2),.row (n+7) z1.2.1.length,.row (n+8) z11.length]⟩)) n [none,none,none,none,none,none,some (oR 75 14 Ze z1.1),some (oR 25 3 Za z1.2.1),some (oR 25 3 Za z11)])) (n0:=(n+9)) ?_ ?_
 ·refine Xe hz11 (fun s0_=>⟨32,[],[(1,.ref i0 3),(15,(sL Za a2)),(16,(vI (a2.length:Int))),(17,(vI s0_.1))]⟩) (fun s0_=>(Zv ((((O.upd j0_0 none).upd j0_1 none).upd j0_2 none).upd i0 (some ⟨false,142,4,1,[.row (n+6) z1.1.length,(vI z1.2.2.2),.row (n+7) z1.2.1.length,.row (n+8) s0_.2.length]⟩)) n [none,none,none,none,none,none,some (oR 75 14 Ze z1.1),some (oR 25 3 Za z1.2.1),some (oR 25 3 Za s0_.2)])) (fun z11=>JX 0 n (⟨32,[],[]⟩:Env) (Zv ((((O.upd j0_0 none).upd j0_1 none).upd j0_2 none).upd i0 (some ⟨false,142,4,1,[.row (n+6) z1.1.length,(vI z1.2.2.2),.row (n+7) z1.2.1.length,.row (n+8) z11.length]⟩)) n [none,none,none,none,none,none,some (oR 75 14 Ze z1.1),some (oR 25 3 Za z1.2.1),some (oR 25 3 Za z11)]) (n+9)) ?_
  intro s0_ x0_ hs0_
  unfold Qv at hs0_
  try dsimp only
  refine Zex [1,15,16,17,18] hi0 hk0 ?_
  refine Zg ?_
  refine Zq (t:=(decide (s0_.1 < (a2.length:Int)))) rfl (fun c10 => ?_) (fun c10 => ?_)
  ·replace hs0_:=Zp c10 hs0_
   refine Q7 [1,15,16,17] [false,false,false,false,false,false,true,true,true] ?_
   refine Zg ?_
   refine Yg ?_
   refine Zg ?_
   obtain ⟨x5,hx5,ax5,bx5,cx5,hs0_⟩:=bE (f:=Za) V5 (fun _=>rfl) (by decide) hs0_
   refine Z8f [] ax5 bx5 cx5 hi0 hk0 ?_
   refine zD [1,7,15,16,17] [false,false,false,false,false,false,true,true,true,true] ?_
   obtain ⟨y6,hy6,hs0_⟩:=bC hs0_
   obtain ⟨l7,pl7,ql7,el7,hs0_⟩:=bA (k:=1) rfl hs0_
   obtain ⟨x8,hx8,ax8,bx8,cx8,hs0_⟩:=bE (f:=Za) V5 (fun _=>rfl) (by decide) hs0_
   have gu9:Kt (fl Za s0_.2++[.val (.int .i64 0),.val (.slice none 0 0),.val (.slice none 0 0)]) [.val (.int .i64 y6.Kind),.sl y6.Words.length (fl (eI .u64) y6.Words),.sl y6.Kids.length (fl Za y6.Kids)] (List.length s0_.2 * 3)=some (fl Za s0_.2++[.val (.int .i64 y6.Kind),.sl y6.Words.length (fl (eI .u64) y6.Words),.sl y6.Kids.length (fl Za y6.Kids)]):=Za5 (f:=Za) (sz:=3) (fun _=>rfl) rfl rfl
   refine Vs Z4 (by kernel_rfl) [.plain,.low,.low,.low,.low,.low,.pass,.bar,.shp,.fill true,.shp,.fill false] (fun i=>i < (n+10)) [0,1,2,3,4,5,6,7,8,9,10,11] [.plain,.low,.low,.low,.low,.low,.pass,.bar,.shp,.fill true,.shp,.fill false] [] (by kernel_rfl) rfl ?_
   refine zF9 pl7 ql7 el7 ax8 bx8 cx8 gu9 hi0 hk0 ?_
   refine zO ?_
   first | refine PCallA.of (fun _ _=>Zbl hy6) ?_ | refine PCall.of (Zbl hy6) ?_
   refine zF9 pl7 ql7 el7 ax8 bx8 cx8 gu9 hi0 hk0 ?_
   refine zO ?_
   refine Zea ⟨32,[],[(1,.ref i0 3),(15,(sL Za a2)),(16,(vI (a2.length:Int))),(17,(vI s0_.1))]⟩ (Zv ((((O.upd j0_0 none).upd j0_1 none).upd j0_2 none).upd i0 (some ⟨false,142,4,1,[.row (n+6) z1.1.length,(vI z1.2.2.2),.row (n+7) z1.2.1.length,.row (n+8) (s0_.2++[y6]).length]⟩)) n [none,none,none,none,none,none,some (oR 75 14 Ze z1.1),some (oR 25 3 Za z1.2.1),some (oR 25 3 Za (s0_.2++[y6])),none,none]) (Yp hU rfl rfl ?_) ?_
   ·exact Z2l pl7 ql7 el7 ax8 bx8 cx8 gu9 hi0 hk0
   refine Ju [] hi0 hk0 ?_
   have hs0_:=Option.some.inj hs0_;subst hs0_
   refine And.intro rfl (Fit2.of (Yp hU rfl rfl ?_) (by omega))
   exact Q9 hi0 hk0
  replace hs0_:=Zo c10 hs0_
  refine zXt ?_
  have hs0_:=Option.some.inj hs0_;subst hs0_
  refine And.intro (fun h=>by cases h) (And.intro rfl (Fit2.of (Yp hU rfl rfl ?_) (by omega)))
  exact Q9 hi0 hk0
 try simp only [Y2,Z7,↓reduceIte,Nat.reduceEqDiff]
 have h:=Option.some.inj h;subst h
 refine Ks (k:=3) (i:=i0) (q1:=⟨false,142,4,1,[.row (n+2) z1.1.length,(vI z1.2.2.2),.row n z1.2.1.length,.row (n+1) z11.length]⟩) (L3:=[some (oR 25 3 Za z1.2.1),some (oR 25 3 Za z11),some (oR 75 14 Ze z1.1),none]) (E2:=(⟨32,[],[]⟩:Env)) (n3:=(n+4)) (.inl rfl) hU rfl [] ?_ ?_
 ·refine Fit2.trans (E':=(⟨32,[],[]⟩:Env)) (O':=(Zv ((((O.upd j0_0 none).upd j0_1 none).upd j0_2 none).upd i0 (some ⟨false,142,4,1,[.row (n+6) z1.1.length,(vI z1.2.2.2),.row (n+7) z1.2.1.length,.row (n+8) z11.length]⟩)) n [none,none,none,none,none,none,some (oR 75 14 Ze z1.1),some (oR 25 3 Za z1.2.1),some (oR 25 3 Za z11)])) (n':=(n+9)) (Fit2.of (Yp hU rfl rfl ?_) (by omega)) ?_
  ·exact Q9 hi0 hk0
  refine Qm (k:=9) (k':=4) hU [3,3,3,3,3,3,2,0,1] [7,8,6,0] rfl rfl rfl rfl ⟨rfl,rfl⟩ ?_
  exact Q9 hi0 hk0
 simp only [push_cast,seval,↓reduceIte,Zk,Try.results118,hi0,hk0,hN0,hN]
theorem Zu6 {a0:Int} {a1:Zc} {r:Bool} {O:Objs} {n:Nat} (h:Zed a0 a1=some r):GTo Try.prog 148 [(vI a0),.agg (Zf a1)] O n ((vB r)) O n:=by
 unfold Zed at h
 refine zFn Try.call148 Try.func148 fun hU hN0 hN => ?_
 show W _ _ _ _ ⟨27,[],[(0,(vI a0)),(1,.agg (Zf a1))]⟩ (Zv O n []) _
 refine zQ [0,3] ?_
 refine zQD [4] [none,none,none,none,none,none,none,none,none,none,none,none,none,none,none,none,none] ?_
 exact Yn [(vB (cond (a1.Kind == 0) true (cond (cond (a0 == 9) (a1.Kind == 2) false) ((IntKind.i64.wrap ((a1.Words.length:Int)+(a1.Kids.length:Int))) == 0) false)))]
theorem Zjs {a0:Zw} {a1:Int} {a2:Zc} {r:Zw} {O:Objs} {n:Nat} {i0 j0_0 j0_1 j0_2:Nat} (hi0:i0 < n) (Ut:j0_0 < n) (Zg4:j0_1 < n) (Zjb:j0_2 < n) (Jr:i0≠j0_0) (U8:i0≠j0_1) (Zbh:i0≠j0_2) (U7:j0_0≠j0_1) (Zbf:j0_0≠j0_2) (Zbg:j0_1≠j0_2) (ho0:O i0=some ⟨false,142,4,1,[.row j0_2 a0.out.length,(vI a0.kept),.row j0_0 a0.gone.length,.row j0_1 a0.come.length]⟩) (U9:O j0_0=some (oR 25 3 Za a0.gone)) (Zia:O j0_1=some (oR 25 3 Za a0.come)) (Zks:O j0_2=some (oR 75 14 Ze a0.out)) (h:J8 a0 a1 a2=some r):GTo Try.prog 119 [.ref i0 0,(vI a1),.agg (Zf a2)] O n (.tup []) (Zv ((((O.upd j0_0 none).upd j0_1 none).upd j0_2 none).upd i0 (some ⟨false,142,4,1,[.row (n+2) r.out.length,(vI r.kept),.row n r.gone.length,.row (n+1) r.come.length]⟩)) n [some (oR 25 3 Za r.gone),some (oR 25 3 Za r.come),some (oR 75 14 Ze r.out)]) (n+3):=by
 unfold J8 at h
 refine Zl1 Z4 Try.call119 Try.func119 rfl (Nat.le_of_ble_eq_true rfl) (by omega) fun hU => ?_
 have e0:=Kf (ba:=n) (E:=⟨25,[],Zfd 0 [.ref i0 0,.val (.int .i64 a1),.agg [.val (.int .i64 a2.Kind),.val (.int .i64 a2.Old.Kind),.sl a2.Old.Words.length (fl (eI .u64) a2.Old.Words),.sl a2.Old.Kids.length (fl Za a2.Old.Kids),.val (.int .i64 a2.New.Kind),.sl a2.New.Words.length (fl (eI .u64) a2.New.Words),.sl a2.New.Kids.length (fl Za a2.New.Kids),.sl a2.Words.length (fl Zm a2.Words),.sl a2.Kids.length (fl Zi a2.Kids),.val (.int .i64 a2.List_),.sl a2.Ops.length (fl Ze a2.Ops)]]⟩) (O:=(Zv O n [])) (n:=n) (i:=i0) (j:=j0_0) (k:=2) (len:=a0.gone.length) (q:=⟨false,142,4,1,[.row j0_2 a0.out.length,.val (.int .i64 a0.kept),.row j0_0 a0.gone.length,.row j0_1 a0.come.length]⟩) (qj:=⟨true,25,3,a0.gone.length,fl Za a0.gone⟩) (by rw [Yr _ hi0];first | exact ho0 | exact Yj _ _ _) rfl (by rw [Yr _ Ut];exact U9) Jr (by omega)
 simp only [Yy _ _ Ut,Yy _ _ hi0,Xk,Y3,Qn,Za4 Jr,List.set_cons_zero,List.set_cons_succ,List.cons_append,List.nil_append,List.length_cons,List.length_nil,Nat.zero_add,Nat.reduceAdd,Nat.add_assoc] at e0
 refine Kq e0 ?_
 have e1:=Kf (ba:=n) (E:=⟨25,[],Zfd 0 [.ref i0 0,.val (.int .i64 a1),.agg [.val (.int .i64 a2.Kind),.val (.int .i64 a2.Old.Kind),.sl a2.Old.Words.length (fl (eI .u64) a2.Old.Words),.sl a2.Old.Kids.length (fl Za a2.Old.Kids),.val (.int .i64 a2.New.Kind),.sl a2.New.Words.length (fl (eI .u64) a2.New.Words),.sl a2.New.Kids.length (fl Za a2.New.Kids),.sl a2.Words.length (fl Zm a2.Words),.sl a2.Kids.length (fl Zi a2.Kids),.val (.int .i64 a2.List_),.sl a2.Ops.length (fl Ze a2.Ops)]]⟩) (O:=(Zv ((O.upd j0_0 none).upd i0 (some ⟨false,142,4,1,[.row j0_2 a0.out.length,.val (.int .i64 a0.kept),.row n a0.gone.length,.row j0_1 a0.come.length]⟩)) n [some ⟨true,25,3,a0.gone.length,fl Za a0.gone⟩])) (n:=(n+1)) (i:=i0) (j:=j0_1) (k:=3) (len:=a0.come.length) (q:=⟨false,142,4,1,[.row j0_2 a0.out.length,.val (.int .i64 a0.kept),.row n a0.gone.length,.row j0_1 a0.come.length]⟩) (qj:=⟨true,25,3,a0.come.length,fl Za a0.come⟩) (by rw [Yr _ hi0];first | exact ho0 | exact Yj _ _ _) rfl (by rw [Yr _ Zg4,Xa _ _ (Ne.symm U8),Xa _ _ (Ne.symm U7)];exact Zia) U8 (by omega)
 simp only [Yy _ _ Zg4,Yy _ _ hi0,Xk,Y3,Qn,Za4 U8,List.set_cons_zero,List.set_cons_succ,List.cons_append,List.nil_append,List.length_cons,List.length_nil,Nat.zero_add,Nat.reduceAdd,Nat.add_assoc] at e1
 refine Kq e1 ?_
 have e2:=Kf (ba:=n) (E:=⟨25,[],Zfd 0 [.ref i0 0,.val (.int .i64 a1),.agg [.val (.int .i64 a2.Kind),.val (.int .i64 a2.Old.Kind),.sl a2.Old.Words.length (fl (eI .u64) a2.Old.Words),.sl a2.Old.Kids.length (fl Za a2.Old.Kids),.val (.int .i64 a2.New.Kind),.sl a2.New.Words.length (fl (eI .u64) a2.New.Words),.sl a2.New.Kids.length (fl Za a2.New.Kids),.sl a2.Words.length (fl Zm a2.Words),.sl a2.Kids.length (fl Zi a2.Kids),.val (.int .i64 a2.List_),.sl a2.Ops.length (fl Ze a2.Ops)]]⟩) (O:=(Zv (((O.upd j0_0 none).upd j0_1 none).upd i0 (some ⟨false,142,4,1,[.row j0_2 a0.out.length,.val (.int .i64 a0.kept),.row n a0.gone.length,.row (n+1) a0.come.length]⟩)) n [some ⟨true,25,3,a0.gone.length,fl Za a0.gone⟩,some ⟨true,25,3,a0.come.length,fl Za a0.come⟩])) (n:=(n+2)) (i:=i0) (j:=j0_2) (k:=0) (len:=a0.out.length) (q:=⟨false,142,4,1,[.row j0_2 a0.out.length,.val (.int .i64 a0.kept),.row n a0.gone.length,.row (n+1) a0.come.length]⟩) (qj:=⟨true,75,14,a0.out.length,fl Ze a0.out⟩) (by rw [Yr _ hi0];first | exact ho0 | exact Yj _ _ _) rfl (by rw [Yr _ Zjb,Xa _ _ (Ne.symm Zbh),Xa _ _ (Ne.symm Zbg),Xa _ _ (Ne.symm Zbf)];exact Zks) Zbh (by omega)
 simp only [Yy _ _ Zjb,Yy _ _ hi0,Xk,Y3,Qn,Za4 Zbh,List.set_cons_zero,List.set_cons_succ,List.cons_append,List.nil_append,List.length_cons,List.length_nil,Nat.zero_add,Nat.reduceAdd,Nat.add_assoc] at e2
 refine Kq e2 ?_
 have hU:=(Und.drop (Und.drop (Und.drop hU j0_0) j0_1) j0_2)
 have hk0:∀ k,i0 < n+k:=fun k=>by omega
 have hN0:∀ o,Objs.upd (((O.upd j0_0 none).upd j0_1 none).upd j0_2 none) i0 o n=none:=fun o=>Jq hU hi0 _ (Nat.le_refl _)
 have hN:∀ o k,Objs.upd (((O.upd j0_0 none).upd j0_1 none).upd j0_2 none) i0 o (n+k)=none:=fun o k=>Jq hU hi0 _ (Nat.le_add_right _ _)
 show W _ _ _ _ ⟨25,[],[(0,.ref i0 0),(1,(vI a1)),(2,.agg (Zf a2))]⟩ (Zv ((((O.upd j0_0 none).upd j0_1 none).upd j0_2 none).upd i0 (some ⟨false,142,4,1,[.row (n+2) a0.out.length,(vI a0.kept),.row n a0.gone.length,.row (n+1) a0.come.length]⟩)) n [some (oR 25 3 Za a0.gone),some (oR 25 3 Za a0.come),some (oR 75 14 Ze a0.out)]) _
 refine Zex [0,1,5] hi0 hk0 ?_
 refine Zg ?_
 refine Zg ?_
 obtain ⟨y2,hy2,h⟩:=bC h
 refine Ju [] hi0 hk0 ?_
 refine (Zu6 hy2).then ?_
 refine zX2 hi0 hk0 ?_
 refine zD [0,5,8] [true,true,true,true] ?_
 refine Zq (t:=y2) rfl (fun c10 => ?_) (fun c10 => ?_)
 ·replace h:=Zp c10 h
  refine Zg ?_
  obtain ⟨y4,hy4,h⟩:=bC h
  refine Ju [] hi0 hk0 ?_
  refine (Zf3 (i0:=i0) (j0_0:=n) (j0_1:=(n+1)) (j0_2:=(n+2)) (by omega) (by omega) (by omega) (by omega) (by omega) (by omega) (by omega) (by omega) (by omega) (by omega) (by simp only [push_cast,seval,↓reduceIte,Zk,Xn,hi0,hk0,hN0,hN] <;> rfl) (by simp only [push_cast,seval,↓reduceIte,Zk,Xn,hi0,hk0,hN0,hN] <;> rfl) (by simp only [push_cast,seval,↓reduceIte,Zk,Xn,hi0,hk0,hN0,hN] <;> rfl) (by simp only [push_cast,seval,↓reduceIte,Zk,Xn,hi0,hk0,hN0,hN] <;> rfl) hy4).then ?_
  refine zX2 hi0 hk0 ?_
  refine zD [] [false,false,false,false,true,true,true] ?_
  refine zW ?_
  have h:=Option.some.inj h;subst h
  refine Ks (k:=3) (i:=i0) (q1:=⟨false,142,4,1,[.row (n+2) y4.out.length,(vI y4.kept),.row n y4.gone.length,.row (n+1) y4.come.length]⟩) (L3:=[some (oR 25 3 Za y4.gone),some (oR 25 3 Za y4.come),some (oR 75 14 Ze y4.out),none]) (E2:=(⟨25,[],[]⟩:Env)) (n3:=(n+4)) (.inr rfl) hU rfl [] ?_ ?_
  ·refine Fit2.trans (E':=(⟨25,[],[]⟩:Env)) (O':=(Zv ((((O.upd j0_0 none).upd j0_1 none).upd j0_2 none).upd i0 (some ⟨false,142,4,1,[.row (n+6) y4.out.length,(vI y4.kept),.row (n+4) y4.gone.length,.row (n+5) y4.come.length]⟩)) n [none,none,none,none,some (oR 25 3 Za y4.gone),some (oR 25 3 Za y4.come),some (oR 75 14 Ze y4.out)])) (n':=(n+7)) (Fit2.of (Yp hU rfl rfl ?_) (by omega)) ?_
   ·exact Q9 hi0 hk0
   refine Qm (k:=7) (k':=4) hU [3,3,3,3,0,1,2] [4,5,6,0] rfl rfl rfl rfl ⟨rfl,rfl⟩ ?_
   exact Q9 hi0 hk0
  simp only [push_cast,seval,↓reduceIte,Zk,Try.results119,hi0,hk0,hN0,hN]
 replace h:=Zo c10 h
 refine Q7 [0,5] [true,true,true,true] ?_
 refine Zg ?_
 obtain ⟨y6,hy6,h⟩:=bC h
 refine Ju [] hi0 hk0 ?_
 refine (V2 (i0:=i0) (j0_0:=n) (j0_1:=(n+1)) (j0_2:=(n+2)) (by omega) (by omega) (by omega) (by omega) (by omega) (by omega) (by omega) (by omega) (by omega) (by omega) (by simp only [push_cast,seval,↓reduceIte,Zk,Xn,hi0,hk0,hN0,hN] <;> rfl) (by simp only [push_cast,seval,↓reduceIte,Zk,Xn,hi0,hk0,hN0,hN] <;> rfl) (by simp only [push_cast,seval,↓reduceIte,Zk,Xn,hi0,hk0,hN0,hN] <;> rfl) (by simp only [push_cast,seval,↓reduceIte,Zk,Xn,hi0,hk0,hN0,hN] <;> rfl) hy6).then ?_
 refine zX2 hi0 hk0 ?_
 refine zD [0,5] [false,false,false,true,true,true,true] ?_
 obtain ⟨l7,pl7,ql7,el7,h⟩:=bA (k:=1) rfl h
 obtain ⟨x8,hx8,ax8,bx8,cx8,h⟩:=bE (f:=Ze) Zfv (fun _=>rfl) (by decide) h
 have gu9:Kt (fl Ze y6.out++[.val (.int .i64 0),.val (.int .i64 0),.val (.slice none 0 0),.val (.int .i64 0),.val (.int .i64 0),.val (.slice none 0 0),.val (.slice none 0 0),.val (.int .i64 0),.val (.slice none 0 0),.val (.slice none 0 0),.val (.slice none 0 0),.val (.slice none 0 0),.val (.int .i64 0),.val (.slice none 0 0)]) [.val (.int .i64 3),.val (.int .i64 0),.val (.slice none 0 0),.val (.int .i64 a2.Kind),.val (.int .i64 a2.Old.Kind),.sl a2.Old.Words.length (fl (eI .u64) a2.Old.Words),.sl a2.Old.Kids.length (fl Za a2.Old.Kids),.val (.int .i64 a2.New.Kind),.sl a2.New.Words.length (fl (eI .u64) a2.New.Words),.sl a2.New.Kids.length (fl Za a2.New.Kids),.sl a2.Words.length (fl Zm a2.Words),.sl a2.Kids.length (fl Zi a2.Kids),.val (.int .i64 a2.List_),.sl a2.Ops.length (fl Ze a2.Ops)] (List.length y6.out * 14)=some (fl Ze y6.out++[.val (.int .i64 3),.val (.int .i64 0),.val (.slice none 0 0),.val (.int .i64 a2.Kind),.val (.int .i64 a2.Old.Kind),.sl a2.Old.Words.length (fl (eI .u64) a2.Old.Words),.sl a2.Old.Kids.length (fl Za a2.Old.Kids),.val (.int .i64 a2.New.Kind),.sl a2.New.Words.length (fl (eI .u64) a2.New.Words),.sl a2.New.Kids.length (fl Za a2.New.Kids),.sl a2.Words.length (fl Zm a2.Words),.sl a2.Kids.length (fl Zi a2.Kids),.val (.int .i64 a2.List_),.sl a2.Ops.length (fl Ze a2.Ops)]):=Za5 (f:=Ze) (sz:=14) (fun _=>rfl) rfl rfl
 refine Vs Z4 (by kernel_rfl) [.plain,.low,.low,.low,.low,.plain,.low,.pass,.bar,.shp,.fill true,.shp,.shp,.fill false] (fun i=>i < (n+7)) [0,1,2,3,4,5,6,7,8,9,10,11,12,13] [.plain,.low,.low,.low,.low,.plain,.low,.pass,.bar,.shp,.fill true,.shp,.shp,.fill false] [] (by kernel_rfl) rfl ?_
 refine zF9 pl7 ql7 el7 ax8 bx8 cx8 gu9 hi0 hk0 ?_
 refine zO ?_
 have h:=Option.some.inj h;subst h
 refine Ks (k:=3) (i:=i0) (q1:=⟨false,142,4,1,[.row (n+2) (y6.out++[(⟨3,0,([]:(List Zb)),a2⟩:Zj)]).length,(vI y6.kept),.row n y6.gone.length,.row (n+1) y6.come.length]⟩) (L3:=[some (oR 25 3 Za y6.gone),some (oR 25 3 Za y6.come),some (oR 75 14 Ze (y6.out++[(⟨3,0,([]:(List Zb)),a2⟩:Zj)])),none]) (E2:=(⟨25,[],[]⟩:Env)) (n3:=(n+4)) (.inl rfl) hU rfl [] ?_ ?_
 ·refine Fit2.trans (E':=(⟨25,[],[]⟩:Env)) (O':=(Zv ((((O.upd j0_0 none).upd j0_1 none).upd j0_2 none).upd i0 (some ⟨false,142,4,1,[.row (n+6) (y6.out++[(⟨3,0,([]:(List Zb)),a2⟩:Zj)]).length,(vI y6.kept),.row (n+4) y6.gone.length,.row (n+5) y6.come.length]⟩)) n [none,none,none,none,some (oR 25 3 Za y6.gone),some (oR 25 3 Za y6.come),some (oR 75 14 Ze (y6.out++[(⟨3,0,([]:(List Zb)),a2⟩:Zj)])),none])) (n':=(n+8)) (Fit2.of (Yp hU rfl rfl ?_) (by omega)) ?_
  ·exact Z2l pl7 ql7 el7 ax8 bx8 cx8 gu9 hi0 hk0
  refine Qm (k:=8) (k':=4) hU [3,3,3,3,0,1,2,3] [4,5,6,0] rfl rfl rfl rfl ⟨rfl,rfl⟩ ?_
  exact Q9 hi0 hk0
 simp only [push_cast,seval,↓reduceIte,Zk,Try.results119,hi0,hk0,hN0,hN]
def Zge (X6:(Zc→Option Zc)):Prop:=∀ {a0:Zc} {r:Zc} {O:Objs} {n:Nat},X6 a0=some r→GTo Try.prog 48 [.agg (Zf a0)] O n (.agg (Zf r)) O n
def Zhk (Vt:(Int→(List Zj)→Option (List Zj))):Prop:=∀ {a0:Int} {a1:(List Zj)} {r:(List Zj)} {O:Objs} {n:Nat},Vt a0 a1=some r→GTo Try.prog 79 [(vI a0),(sL Ze a1)] O n ((sL Ze r)) O n
theorem Zsz {X6:(Zc→Option Zc)} {Vt:(Int→(List Zj)→Option (List Zj))} (Zd0:Zge X6) (Zlh:Zhk Vt) {a0:Zc} {r:Zc} {O:Objs} {n:Nat} (h:Zeb X6 Vt a0=some r):GTo Try.prog 48 [.agg (Zf a0)] O n (.agg (Zf r)) O n:=by
 unfold Zeb at h
 refine zFn Try.call48 Try.func48 fun hU hN0 hN => ?_
 show W _ _ _ _ ⟨54,[],[(0,.agg (Zf a0))]⟩ (Zv O n []) _
 refine zQ [1,2] ?_
 refine Zg ?_
 refine zQ [1,2,7] ?_
 refine Yg ?_
 refine zQ [1,2,7,8] ?_
 refine Zq (t:=(a0.Kind == 1)) rfl (fun c17 => ?_) (fun c17 => ?_)
 ·replace h:=Zp c17 h
  refine Zg ?_
  obtain ⟨y3,hy3,h⟩:=bC h
  obtain ⟨y4,hy4,h⟩:=bC h
  refine Zhx Z4 (by kernel_rfl) [false,false,false,false,false,false,false,true] [] (by kernel_rfl) ?_
  refine zS ?_
  refine PCall.of (Zbl hy3) ?_
  refine zS ?_
  refine PCall.of (Zbl hy4) ?_
  refine zS ?_
  refine zD [2] [false,true] ?_
  exact Yn [.agg [(vI 1),(vI y3.Kind),(sL (eI .u64) y3.Words),(sL Za y3.Kids),(vI y4.Kind),(sL (eI .u64) y4.Words),(sL Za y4.Kids),nV,nV,(vI 0),nV]]
 replace h:=Zo c17 h
 refine zQ [1,2,7,17] ?_
 refine Zq (t:=(a0.Kind == 2)) rfl (fun c16 => ?_) (fun c16 => ?_)
 ·replace h:=Zp c16 h
  refine Zg ?_
  obtain ⟨y6,hy6,h⟩:=bC h
  refine zR ?_
  refine (Zb5  hy6).then ?_
  refine zS ?_
  refine zDs [1,2,3] [true,true,true,true] ?_
  refine zQd [2,3,24,25,26] [2,3,24,25,26] [false,true,true,true] ?_
  refine Kq (E':=(⟨54,[],[(2,.ref (n+1) 0),(3,.ref (n+3) 0),(24,(sL Zi a0.Kids)),(25,(vI (a0.Kids.length:Int))),(26,(vI 0))]⟩:Env)) (O':=(Zv O n [none,some ⟨false,30,11,1,[(vI 0),(vI 0),nV,nV,(vI 0),nV,nV,nV,nV,(vI 0),nV]⟩,some (oR 82 4 Zm y6),some ⟨false,30,11,1,[(vI 2),(vI 0),nV,nV,(vI 0),nV,nV,.row (n+2) y6.length,.row (n+4) ([]:List Zl).length,(vI 0),nV]⟩,some (oR 84 12 Zi ([]:List Zl)),none])) (n':=(n+6)) ?_ ?_
  ·refine Fit2.trans (E':=(⟨54,[],[(2,.ref (n+1) 0),(3,.ref (n+3) 0),(24,(sL Zi a0.Kids)),(25,(vI (a0.Kids.length:Int))),(26,(vI 0))]⟩:Env)) (O':=(Zv O n [none,some ⟨false,30,11,1,[(vI 0),(vI 0),nV,nV,(vI 0),nV,nV,nV,nV,(vI 0),nV]⟩,some (oR 82 4 Zm y6),some ⟨false,30,11,1,[(vI 2),(vI 0),nV,nV,(vI 0),nV,nV,.row (n+2) y6.length,nV,(vI 0),nV]⟩])) (n':=(n+4)) (Fit2.of (Ys hU rfl rfl ?_) (by omega)) ?_
   ·exact zSe
   refine Fit2.trans (Zbd (p:=(n+3)) (k:=8) (q:=⟨false,30,11,1,[(vI 2),(vI 0),nV,nV,(vI 0),nV,nV,.row (n+2) y6.length,nV,(vI 0),nV]⟩) 84 12 (by simp only [Zah,Zeh,List.getElem?_cons_zero,List.getElem?_cons_succ,Option.join_some,List.length_nil,Yj]) rfl (by omega)) ?_
   simp only [Xk,Y3,Zbc,Gu,List.set_cons_zero,List.set_cons_succ,List.cons_append,List.nil_append,List.length_cons,List.length_nil,Nat.zero_add,Nat.reduceAdd,Nat.reduceLT,Nat.add_assoc]
   refine Kh (k:=5) (k':=6) hU [5,1,2,3,4] [0,1,2,3,4,0] rfl rfl rfl rfl ⟨rfl,rfl⟩ ?_
   exact zSe
  obtain ⟨z12,hz12,h⟩:=bC h
  refine Yz (E':=⟨54,[],[(2,.ref (n+1) 0),(3,.ref (n+3) 0)]⟩) (O':=(Zv O n [none,some ⟨false,30,11,1,[(vI 0),(vI 0),nV,nV,(vI 0),nV,nV,nV,nV,(vI 0),nV]⟩,some (oR 82 4 Zm y6),some ⟨false,30,11,1,[(vI 2),(vI 0),nV,nV,(vI 0),nV,nV,.row (n+2) y6.length,.row (n+4) z12.length,(vI 0),nV]⟩,some (oR 84 12 Zi z12),none])) (n0:=(n+6)) ?_ ?_
  ·refine Xe hz12 (fun s0_=>⟨54,[],[(2,.ref (n+1) 0),(3,.ref (n+3) 0),(24,(sL Zi a0.Kids)),(25,(vI (a0.Kids.length:Int))),(26,(vI s0_.1))]⟩) (fun s0_=>(Zv O n [none,some ⟨false,30,11,1,[(vI 0),(vI 0),nV,nV,(vI 0),nV,nV,nV,nV,(vI 0),nV]⟩,some (oR 82 4 Zm y6),some ⟨false,30,11,1,[(vI 2),(vI 0),nV,nV,(vI 0),nV,nV,.row (n+2) y6.length,.row (n+4) s0_.2.length,(vI 0),nV]⟩,some (oR 84 12 Zi s0_.2),none])) (fun z12=>JX 1 n (⟨54,[],[(2,.ref (n+1) 0),(3,.ref (n+3) 0)]⟩:Env) (Zv O n [none,some ⟨false,30,11,1,[(vI 0),(vI 0),nV,nV,(vI 0),nV,nV,nV,nV,(vI 0),nV]⟩,some (oR 82 4 Zm y6),some ⟨false,30,11,1,[(vI 2),(vI 0),nV,nV,(vI 0),nV,nV,.row (n+2) y6.length,.row (n+4) z12.length,(vI 0),nV]⟩,some (oR 84 12 Zi z12),none]) (n+6)) ?_
   intro s0_ x0_ hs0_
   unfold Zat at hs0_
   try dsimp only
   refine zQ [2,3,24,25,26,27] ?_
   refine Zg ?_
   refine Zq (t:=(decide (s0_.1 < (a0.Kids.length:Int)))) rfl (fun c11 => ?_) (fun c11 => ?_)
   ·replace hs0_:=Zp c11 hs0_
    refine Q7 [2,3,24,25,26] [false,true,true,true,true,false] ?_
    refine Zg ?_
    refine Yg ?_
    refine Zg ?_
    obtain ⟨x8,hx8,ax8,bx8,cx8,hs0_⟩:=bE (f:=Zi) Zmx (fun _=>rfl) (by decide) hs0_
    refine Zao [] ax8 bx8 cx8 ?_
    refine zD [2,3,5,24,25,26] [false,true,true,true,true,false,true] ?_
    obtain ⟨y9,hy9,hs0_⟩:=bC hs0_
    obtain ⟨l10,pl10,ql10,el10,hs0_⟩:=bA (k:=1) rfl hs0_
    refine Vs Z4 (by kernel_rfl) [.low,.low,.plain,.plain,.plain,.plain,.plain,.plain,.pass,.bar,.plain,.bar] (fun i=>i < (n+7)) [0,1,2,3,4,5,6,7,8,9,10,11] [.low,.low,.plain,.plain,.plain,.plain,.plain,.plain,.pass,.bar,.plain,.bar] [] (by kernel_rfl) rfl ?_
    refine zX3 pl10 ql10 el10 ?_
    refine zO ?_
    first | refine PCallA.of (fun _ _=>Zd0 hy9) ?_ | refine PCall.of (Zd0 hy9) ?_
    refine zX3 pl10 ql10 el10 ?_
    refine zO ?_
    refine Zea ⟨54,[],[(2,.ref (n+1) 0),(3,.ref (n+3) 0),(24,(sL Zi a0.Kids)),(25,(vI (a0.Kids.length:Int))),(26,(vI s0_.1))]⟩ (Zv O n [none,some ⟨false,30,11,1,[(vI 0),(vI 0),nV,nV,(vI 0),nV,nV,nV,nV,(vI 0),nV]⟩,some (oR 82 4 Zm y6),some ⟨false,30,11,1,[(vI 2),(vI 0),nV,nV,(vI 0),nV,nV,.row (n+2) y6.length,.row (n+4) l10.length,(vI 0),nV]⟩,some (oR 84 12 Zi l10),none,none,none]) (Ys hU rfl rfl ?_) ?_
    ·exact Z2m pl10 ql10 el10
    refine zR ?_
    exact zEn hs0_
   replace hs0_:=Zo c11 hs0_
   exact zEx hs0_
  try simp only [Y2,Z7,↓reduceIte,Nat.reduceEqDiff]
  refine zDs [2,3] [false,true,true,true,true,false] ?_
  refine zRd [2] [false,true,true,false,true,false] ?_
  exact Yn [.agg [(vI 2),(vI 0),nV,nV,(vI 0),nV,nV,.row (n+2) y6.length,.row (n+4) z12.length,(vI 0),nV]]
 replace h:=Zo c16 h
 refine zQ [1,2,43] ?_
 refine Zq (t:=(a0.Kind == 3)) rfl (fun c15 => ?_) (fun c15 => ?_)
 ·replace h:=Zp c15 h
  refine Zg ?_
  obtain ⟨y14,hy14,h⟩:=bC h
  refine Zhx Z4 (by kernel_rfl) [false,false,false,false,false,false,false,false,true] [] (by kernel_rfl) ?_
  refine zS ?_
  refine PCall.of (Zlh hy14) ?_
  refine zS ?_
  refine zD [2] [false,true] ?_
  exact Yn [.agg [(vI 3),(vI 0),nV,nV,(vI 0),nV,nV,nV,nV,(vI a0.List_),(sL Ze y14)]]
 replace h:=Zo c15 h
 refine Q7 [2] [false,true] ?_
 refine Zg ?_
 refine zRd [2] [false,true] ?_
 exact Yn [.agg [(vI 0),(vI 0),nV,nV,(vI 0),nV,nV,nV,nV,(vI 0),nV]]
theorem Zvc {X6:(Zc→Option Zc)} {Vt:(Int→(List Zj)→Option (List Zj))} (Zd0:Zge X6) (Zlh:Zhk Vt) {a0:Int} {a1:(List Zj)} {r:(List Zj)} {O:Objs} {n:Nat} (h:Zdv X6 Vt a0 a1=some r):GTo Try.prog 79 [(vI a0),(sL Ze a1)] O n ((sL Ze r)) O n:=by
 unfold Zdv at h
 refine zFn Try.call79 Try.func79 fun hU hN0 hN => ?_
 show W _ _ _ _ ⟨44,[],[(0,(vI a0)),(1,(sL Ze a1))]⟩ (Zv O n []) _
 refine zQ [0,1] ?_
 refine zQ [0,1,5] ?_
 refine Zg ?_
 refine zQd [0,5,8,9,10] [0,5,8,9,10] [true] ?_
 refine Kq (E':=(⟨44,[],[(0,(vI a0)),(5,.ref n 0),(8,(sL Ze a1)),(9,(vI (a1.length:Int))),(10,(vI 0))]⟩:Env)) (O':=(Zv O n [some ⟨false,142,4,1,[.row (n+1) ([]:List Zj).length,(vI 0),.row (n+2) ([]:List Zb).length,.row (n+3) ([]:List Zb).length]⟩,some (oR 75 14 Ze ([]:List Zj)),some (oR 25 3 Za ([]:List Zb)),some (oR 25 3 Za ([]:List Zb)),none])) (n':=(n+5)) ?_ ?_
 ·refine Fit2.trans (E':=(⟨44,[],[(0,(vI a0)),(5,.ref n 0),(8,(sL Ze a1)),(9,(vI (a1.length:Int))),(10,(vI 0))]⟩:Env)) (O':=(Zv O n [some ⟨false,142,4,1,[nV,(vI 0),nV,nV]⟩])) (n':=(n+1)) (Fit2.of (Ys hU rfl rfl ?_) (by omega)) ?_
  ·exact zSe
  refine Fit2.trans (Zbd (p:=n) (k:=0) (q:=⟨false,142,4,1,[nV,(vI 0),nV,nV]⟩) 75 14 (by simp only [Zah,Zeh,List.getElem?_cons_zero,List.getElem?_cons_succ,Option.join_some,List.length_nil,Yj]) rfl (by omega)) ?_
  simp only [Xk,Y3,Zbc,Gu,List.set_cons_zero,List.set_cons_succ,List.cons_append,List.nil_append,List.length_cons,List.length_nil,Nat.zero_add,Nat.reduceAdd,Nat.reduceLT,Nat.add_assoc]
  refine Fit2.trans (Zbd (p:=n) (k:=2) (q:=⟨false,142,4,1,[.row (n+1) ([]:List Zj).length,(vI 0),nV,nV]⟩) 25 3 (by simp only [Zah,Zeh,List.getElem?_cons_zero,List.getElem?_cons_succ,Option.join_some,List.length_nil,Yj]) rfl (by omega)) ?_
  simp only [Xk,Y3,Zbc,Gu,List.set_cons_zero,List.set_cons_succ,List.cons_append,List.nil_append,List.length_cons,List.length_nil,Nat.zero_add,Nat.reduceAdd,Nat.reduceLT,Nat.add_assoc]
  refine Fit2.trans (Zbd (p:=n) (k:=3) (q:=⟨false,142,4,1,[.row (n+1) ([]:List Zj).length,(vI 0),.row (n+2) ([]:List Zb).length,nV]⟩) 25 3 (by simp only [Zah,Zeh,List.getElem?_cons_zero,List.getElem?_cons_succ,Option.join_some,List.length_nil,Yj]) rfl (by omega)) ?_
  simp only [Xk,Y3,Zbc,Gu,List.set_cons_zero,List.set_cons_succ,List.cons_append,List.nil_append,List.length_cons,List.length_nil,Nat.zero_add,Nat.reduceAdd,Nat.reduceLT,Nat.add_assoc]
  refine Kh (k:=4) (k':=5) hU [0,1,2,3] [0,1,2,3,0] rfl rfl rfl rfl ⟨rfl,rfl⟩ ?_
  exact zSe
 obtain ⟨z14,hz14,h⟩:=bC h
 refine Yz (E':=⟨44,[],[(5,.ref n 0)]⟩) (O':=(Zv O n [some ⟨false,142,4,1,[.row (n+1) z14.2.1.length,(vI z14.1),.row (n+2) z14.2.2.1.length,.row (n+3) z14.2.2.2.length]⟩,some (oR 75 14 Ze z14.2.1),some (oR 25 3 Za z14.2.2.1),some (oR 25 3 Za z14.2.2.2),none])) (n0:=(n+5)) ?_ ?_
 ·refine Xe hz14 (fun s0_=>⟨44,[],[(0,(vI a0)),(5,.ref n 0),(8,(sL Ze a1)),(9,(vI (a1.length:Int))),(10,(vI s0_.1))]⟩) (fun s0_=>(Zv O n [some ⟨false,142,4,1,[.row (n+1) s0_.2.2.1.length,(vI s0_.2.1),.row (n+2) s0_.2.2.2.1.length,.row (n+3) s0_.2.2.2.2.length]⟩,some (oR 75 14 Ze s0_.2.2.1),some (oR 25 3 Za s0_.2.2.2.1),some (oR 25 3 Za s0_.2.2.2.2),none])) (fun z14=>JX 0 n (⟨44,[],[(5,.ref n 0)]⟩:Env) (Zv O n [some ⟨false,142,4,1,[.row (n+1) z14.2.1.length,(vI z14.1),.row (n+2) z14.2.2.1.length,.row (n+3) z14.2.2.2.length]⟩,some (oR 75 14 Ze z14.2.1),some (oR 25 3 Za z14.2.2.1),some (oR 25 3 Za z14.2.2.2),none]) (n+5)) ?_
  intro s0_ x0_ hs0_
  unfold Ue at hs0_
  try dsimp only
  refine zQ [0,5,8,9,10,11] ?_
  refine Zg ?_
  refine Zq (t:=(decide (s0_.1 < (a1.length:Int)))) rfl (fun c13 => ?_) (fun c13 => ?_)
  ·replace hs0_:=Zp c13 hs0_
   refine Q7 [0,5,8,9,10] [true,true,true,true,false] ?_
   obtain ⟨z1,hz1,hs0_⟩:=bC hs0_
   refine Y1 (E':=⟨44,[],[(0,(vI a0)),(5,.ref n 0),(8,(sL Ze a1)),(9,(vI (a1.length:Int))),(10,(vI s0_.1))]⟩) (O':=(Zv O n [some ⟨false,142,4,1,[.row (n+9) z1.2.1.length,(vI z1.1),.row (n+10) z1.2.2.1.length,.row (n+11) z1.2.2.2.length]⟩,none,none,none,none,none,none,none,none,some (oR 75 14 Ze z1.2.1),some (oR 25 3 Za z1.2.2.1),some (oR 25 3 Za z1.2.2.2),none])) (n0:=(n+13)) ?_ ?_
   ·refine Yg ?_
    refine Zg ?_
    obtain ⟨x3,hx3,ax3,bx3,cx3,hz1⟩:=bE (f:=Ze) Zfv (fun _=>rfl) (by decide) hz1
    refine Zao [] ax3 bx3 cx3 ?_
    refine zD [0,5,7,8,9,10] [true,true,true,true,false,true] ?_
    refine zQ [0,5,7,8,9,10,15] ?_
    refine Yg ?_
    refine zQ [0,5,7,8,9,10,15,16] ?_
    refine Zq (t:=(x3.Kind == 0)) rfl (fun c12 => ?_) (fun c12 => ?_)
    ·replace hz1:=Zp c12 hz1
     obtain ⟨y4,hy4,hz1⟩:=bC hz1
     refine zR ?_
     refine (Zf3 (i0:=n) (j0_0:=(n+2)) (j0_1:=(n+3)) (j0_2:=(n+1)) (by omega) (by omega) (by omega) (by omega) (by omega) (by omega) (by omega) (by omega) (by omega) (by omega) (by simp only [push_cast,seval,↓reduceIte,Zk,Xn,hN0,hN] <;> rfl) (by simp only [push_cast,seval,↓reduceIte,Zk,Xn,hN0,hN] <;> rfl) (by simp only [push_cast,seval,↓reduceIte,Zk,Xn,hN0,hN] <;> rfl) (by simp only [push_cast,seval,↓reduceIte,Zk,Xn,hN0,hN] <;> rfl) hy4).then ?_
     refine zS ?_
     have hz1:=Option.some.inj hz1;subst hz1
     refine And.intro rfl ?_
     refine Fit2.trans (E':=(⟨44,[],[(0,(vI a0)),(5,.ref n 0),(8,(sL Ze a1)),(9,(vI (a1.length:Int))),(10,(vI s0_.1))]⟩:Env)) (O':=(Zv O n [some ⟨false,142,4,1,[.row (n+8) y4.out.length,(vI y4.kept),.row (n+6) y4.gone.length,.row (n+7) y4.come.length]⟩,none,none,none,none,none,some (oR 25 3 Za y4.gone),some (oR 25 3 Za y4.come),some (oR 75 14 Ze y4.out)])) (n':=(n+9)) (Fit2.of (Ys hU rfl rfl ?_) (by omega)) ?_
     ·exact zSe
     refine Kh (k:=9) (k':=13) hU [0,12,12,12,12,12,10,11,9] [0,0,0,0,0,0,0,0,0,8,6,7,0] rfl rfl rfl rfl ⟨rfl,rfl⟩ ?_
     exact zSe
    replace hz1:=Zo c12 hz1
    refine zQ [0,5,7,8,9,10,15,21] ?_
    refine Zq (t:=(x3.Kind == 1)) rfl (fun c11 => ?_) (fun c11 => ?_)
    ·replace hz1:=Zp c11 hz1
     obtain ⟨y5,hy5,hz1⟩:=bC hz1
     refine zR ?_
     refine (Zi7 (i0:=n) (j0_0:=(n+2)) (j0_1:=(n+3)) (j0_2:=(n+1)) (by omega) (by omega) (by omega) (by omega) (by omega) (by omega) (by omega) (by omega) (by omega) (by omega) (by simp only [push_cast,seval,↓reduceIte,Zk,Xn,hN0,hN] <;> rfl) (by simp only [push_cast,seval,↓reduceIte,Zk,Xn,hN0,hN] <;> rfl) (by simp only [push_cast,seval,↓reduceIte,Zk,Xn,hN0,hN] <;> rfl) (by simp only [push_cast,seval,↓reduceIte,Zk,Xn,hN0,hN] <;> rfl) hy5).then ?_
     refine zS ?_
     have hz1:=Option.some.inj hz1;subst hz1
     refine And.intro rfl ?_
     refine Fit2.trans (E':=(⟨44,[],[(0,(vI a0)),(5,.ref n 0),(8,(sL Ze a1)),(9,(vI (a1.length:Int))),(10,(vI s0_.1))]⟩:Env)) (O':=(Zv O n [some ⟨false,142,4,1,[.row (n+8) y5.out.length,(vI y5.kept),.row (n+6) y5.gone.length,.row (n+7) y5.come.length]⟩,none,none,none,none,none,some (oR 25 3 Za y5.gone),some (oR 25 3 Za y5.come),some (oR 75 14 Ze y5.out)])) (n':=(n+9)) (Fit2.of (Ys hU rfl rfl ?_) (by omega)) ?_
     ·exact zSe
     refine Kh (k:=9) (k':=13) hU [0,12,12,12,12,12,10,11,9] [0,0,0,0,0,0,0,0,0,8,6,7,0] rfl rfl rfl rfl ⟨rfl,rfl⟩ ?_
     exact zSe
    replace hz1:=Zo c11 hz1
    refine zQ [0,5,7,8,9,10,15,27] ?_
    refine Zq (t:=(x3.Kind == 2)) rfl (fun c10 => ?_) (fun c10 => ?_)
    ·replace hz1:=Zp c10 hz1
     obtain ⟨y6,hy6,hz1⟩:=bC hz1
     refine zR ?_
     refine (Zi8 (i0:=n) (j0_0:=(n+2)) (j0_1:=(n+3)) (j0_2:=(n+1)) (by omega) (by omega) (by omega) (by omega) (by omega) (by omega) (by omega) (by omega) (by omega) (by omega) (by simp only [push_cast,seval,↓reduceIte,Zk,Xn,hN0,hN] <;> rfl) (by simp only [push_cast,seval,↓reduceIte,Zk,Xn,hN0,hN] <;> rfl) (by simp only [push_cast,seval,↓reduceIte,Zk,Xn,hN0,hN] <;> rfl) (by simp only [push_cast,seval,↓reduceIte,Zk,Xn,hN0,hN] <;> rfl) hy6).then ?_
     refine zS ?_
     have hz1:=Option.some.inj hz1;subst hz1
     refine And.intro rfl ?_
     refine Fit2.trans (E':=(⟨44,[],[(0,(vI a0)),(5,.ref n 0),(8,(sL Ze a1)),(9,(vI (a1.length:Int))),(10,(vI s0_.1))]⟩:Env)) (O':=(Zv O n [some ⟨false,142,4,1,[.row (n+8) y6.out.length,(vI y6.kept),.row (n+6) y6.gone.length,.row (n+7) y6.come.length]⟩,none,none,none,none,none,some (oR 25 3 Za y6.gone),some (oR 25 3 Za y6.come),some (oR 75 14 Ze y6.out)])) (n':=(n+9)) (Fit2.of (Ys hU rfl rfl ?_) (by omega)) ?_
     ·exact zSe
     refine Kh (k:=9) (k':=13) hU [0,12,12,12,12,12,10,11,9] [0,0,0,0,0,0,0,0,0,8,6,7,0] rfl rfl rfl rfl ⟨rfl,rfl⟩ ?_
     exact zSe
    replace hz1:=Zo c10 hz1
    refine zQ [0,5,7,8,9,10,33] ?_
    refine Zq (t:=(x3.Kind == 3)) rfl (fun c9 => ?_) (fun c9 => ?_)
    ·replace hz1:=Zp c9 hz1
     obtain ⟨y7,hy7,hz1⟩:=bC hz1
     obtain ⟨y8,hy8,hz1⟩:=bC hz1
     refine zC (Zd0 hy7) ?_
     refine (Zjs (i0:=n) (j0_0:=(n+2)) (j0_1:=(n+3)) (j0_2:=(n+1)) (by omega) (by omega) (by omega) (by omega) (by omega) (by omega) (by omega) (by omega) (by omega) (by omega) (by simp only [push_cast,seval,↓reduceIte,Zk,Xn,hN0,hN] <;> rfl) (by simp only [push_cast,seval,↓reduceIte,Zk,Xn,hN0,hN] <;> rfl) (by simp only [push_cast,seval,↓reduceIte,Zk,Xn,hN0,hN] <;> rfl) (by simp only [push_cast,seval,↓reduceIte,Zk,Xn,hN0,hN] <;> rfl) hy8).then ?_
     refine zS ?_
     have hz1:=Option.some.inj hz1;subst hz1
     refine And.intro rfl ?_
     refine Fit2.trans (E':=(⟨44,[],[(0,(vI a0)),(5,.ref n 0),(8,(sL Ze a1)),(9,(vI (a1.length:Int))),(10,(vI s0_.1))]⟩:Env)) (O':=(Zv O n [some ⟨false,142,4,1,[.row (n+8) y8.out.length,(vI y8.kept),.row (n+6) y8.gone.length,.row (n+7) y8.come.length]⟩,none,none,none,none,none,some (oR 25 3 Za y8.gone),some (oR 25 3 Za y8.come),some (oR 75 14 Ze y8.out)])) (n':=(n+9)) (Fit2.of (Ys hU rfl rfl ?_) (by omega)) ?_
     ·exact zSe
     refine Kh (k:=9) (k':=13) hU [0,12,12,12,12,12,10,11,9] [0,0,0,0,0,0,0,0,0,8,6,7,0] rfl rfl rfl rfl ⟨rfl,rfl⟩ ?_
     exact zSe
    replace hz1:=Zo c9 hz1
    refine zK ?_
    have hz1:=Option.some.inj hz1;subst hz1
    refine And.intro rfl ?_
    refine Fit2.trans (E':=(⟨44,[],[(0,(vI a0)),(5,.ref n 0),(8,(sL Ze a1)),(9,(vI (a1.length:Int))),(10,(vI s0_.1))]⟩:Env)) (O':=(Zv O n [some ⟨false,142,4,1,[.row (n+1) s0_.2.2.1.length,(vI s0_.2.1),.row (n+2) s0_.2.2.2.1.length,.row (n+3) s0_.2.2.2.2.length]⟩,some (oR 75 14 Ze s0_.2.2.1),some (oR 25 3 Za s0_.2.2.2.1),some (oR 25 3 Za s0_.2.2.2.2),none,none])) (n':=(n+6)) (Fit2.of (Ys hU rfl rfl ?_) (by omega)) ?_
    ·exact zSe
    refine Kh (k:=6) (k':=13) hU [0,9,10,11,12,12] [0,0,0,0,0,0,0,0,0,1,2,3,0] rfl rfl rfl rfl ⟨rfl,rfl⟩ ?_
    exact zSe
   refine zR ?_
   have hs0_:=Option.some.inj hs0_;subst hs0_
   refine And.intro rfl ?_
   refine Fit2.trans (E':=(⟨44,[],[(0,(vI a0)),(5,.ref n 0),(8,(sL Ze a1)),(9,(vI (a1.length:Int))),(10,(vI (IntKind.i64.wrap (s0_.1+1))))]⟩:Env)) (O':=(Zv O n [some ⟨false,142,4,1,[.row (n+9) z1.2.1.length,(vI z1.1),.row (n+10) z1.2.2.1.length,.row (n+11) z1.2.2.2.length]⟩,none,none,none,none,none,none,none,none,some (oR 75 14 Ze z1.2.1),some (oR 25 3 Za z1.2.2.1),some (oR 25 3 Za z1.2.2.2),none])) (n':=(n+13)) (Fit2.of (Ys hU rfl rfl ?_) (by omega)) ?_
   ·exact zSe
   refine Kh (k:=13) (k':=5) hU [0,4,4,4,4,4,4,4,4,1,2,3,4] [0,9,10,11,0] rfl rfl rfl rfl ⟨rfl,rfl⟩ ?_
   exact zSe
  replace hs0_:=Zo c13 hs0_
  exact zEx hs0_
 try simp only [Y2,Z7,↓reduceIte,Nat.reduceEqDiff]
 refine zDs [5] [true,true,true,true,false] ?_
 obtain ⟨y16,hy16,h⟩:=bC h
 refine zR ?_
 refine (V2 (i0:=n) (j0_0:=(n+2)) (j0_1:=(n+3)) (j0_2:=(n+1)) (by omega) (by omega) (by omega) (by omega) (by omega) (by omega) (by omega) (by omega) (by omega) (by omega) (by simp only [push_cast,seval,↓reduceIte,Zk,Xn,hN0,hN] <;> rfl) (by simp only [push_cast,seval,↓reduceIte,Zk,Xn,hN0,hN] <;> rfl) (by simp only [push_cast,seval,↓reduceIte,Zk,Xn,hN0,hN] <;> rfl) (by simp only [push_cast,seval,↓reduceIte,Zk,Xn,hN0,hN] <;> rfl) hy16).then ?_
 refine zS ?_
 refine zD [5] [true,false,false,false,false,true,true,true] ?_
 refine zQ [4] ?_
 exact Yn [.row (n+7) y16.out.length]
theorem Zp3:∀ k,(Zge ((X0 k).1))∧(Zhk ((X0 k).2)):=fun k=>by
 induction k with
 | zero=>exact ⟨@fun a0 r O n h=>(nomatch (show (none:Option _)=some _ from h)),@fun a0 a1 r O n h=>(nomatch (show (none:Option _)=some _ from h))⟩
 | succ k ih=>exact ⟨@fun a0 r O n h=>Zsz (ih.1) (ih.2)  h,@fun a0 a1 r O n h=>Zvc (ih.1) (ih.2)  h⟩
theorem Zme {a0:Zc} {r:Zc} {O:Objs} {n:Nat} (h:Zgx a0=some r):GTo Try.prog 48 [.agg (Zf a0)] O n (.agg (Zf r)) O n:=by
 obtain ⟨k,hk⟩:=Un h
 exact (Zp3 k).1  hk
theorem Zfm {a0:Zb} {r:Bool} {O:Objs} {n:Nat} (h:Uw a0=some r):GTo Try.prog 123 [.agg (Zd a0)] O n ((vB r)) O n:=by
 unfold Uw at h
 refine zFn Try.call123 Try.func123 fun hU hN0 hN => ?_
 show W _ _ _ _ ⟨16,[],[(0,.agg (Zd a0))]⟩ (Zv O n []) _
 refine zQ [1] ?_
 refine zQD [2] [none,none,none,none,none,none,none,none] ?_
 exact Yn [(vB (cond (a0.Kind != 0) true (decide (0 < (IntKind.i64.wrap ((a0.Words.length:Int)+(a0.Kids.length:Int)))))))]
theorem Jx {a0:Bool} {a1:Bool} {a2:Bool} {a3:Zc} {r:Bool} {O:Objs} {n:Nat} (h:V0 a0 a1 a2 a3=some r):GTo Try.prog 122 [(vB a0),(vB a1),(vB a2),.ip (Zf a3) 0] O n ((vB r)) O n:=by
 unfold V0 at h
 refine zFn Try.call122 Try.func122 fun hU hN0 hN => ?_
 show W _ _ _ _ ⟨49,[],[(0,(vB a0)),(1,(vB a1)),(2,(vB a2)),(3,.ip (Zf a3) 0)]⟩ (Zv O n []) _
 refine zQ [0,1,2,3] ?_
 obtain ⟨z3,hz3,h⟩:=bC h
 refine Y1 (E':=⟨49,[],[(7,(vB z3))]⟩) (O':=(Zv O n [])) (n0:=n) ?_ ?_
 ·rcases Bool.eq_false_or_eq_true a0 with c8 | c8
  ·replace hz3:=Zp c8 hz3
   obtain ⟨y6,hy6,hz3⟩:=bC hz3
   rcases Bool.eq_false_or_eq_true y6 with c9 | c9
   ·replace hz3:=Zp c9 hz3
    try rw [c9] at c8
    refine Ju [some true,some true,some true,some true,some false,some false,some false,some true,some false,some false,some false,some false,some false,some false,some false,some false,some false,some false,some false,some false,some false,some false,some false,some false,some false,some false,some false,some false,some false,some false,some false,some false,some false] c8 c9 ?_
    refine (Zfm hy6).then ?_
    refine zX2 c8 c9 ?_
    exact Gl hz3 c8 c9
   replace hz3:=Zo c9 hz3
   try rw [c9] at c8
   obtain ⟨y7,hy7,hz3⟩:=bC hz3
   refine Ju [some true,some true,some true,some true,some true,some true,some true,some true,none,none,none,none,none,none,none,none,none,none,none,none,none,none,none,none,none,none,none,none,none,none,none,none,none] c8 c9 ?_
   refine zG ?_
   refine (Zfm hy6).then ?_
   refine zX2 c8 c9 ?_
   refine zG ?_
   refine (Zfm hy7).then ?_
   refine zX2 c8 c9 ?_
   refine zG ?_
   exact Gl hz3 c8 c9
  replace hz3:=Zo c8 hz3
  refine Jl [some false,some false,some false,some false,some false,some false,some false,some false,some true,some true,none,none,none,none,none,none,none,none,some true,some true,none,none,none,none,none,none,none,none,none,none,none,none,none] c8 ?_
  refine zG ?_
  exact Qx hz3 c8
 exact Yn [(vB z3)]
theorem Zin {a0:(List Zb)} {r:Bool} {O:Objs} {n:Nat} (h:Zac a0=some r):GTo Try.prog 133 [(sL Za a0)] O n ((vB r)) O n:=by
 unfold Zac at h
 refine zFn Try.call133 Try.func133 fun hU hN0 hN => ?_
 show W _ _ _ _ ⟨15,[],[(0,(sL Za a0))]⟩ (Zv O n []) _
 refine zQ [0] ?_
 refine Zg ?_
 refine zQd [5,6,7] [5,6,7] [] ?_
 obtain ⟨z5,hz5,h⟩:=bC h
 refine Ux (J:=(Xl (fun z5=>JR n (⟨15,[],[(2,(vB false))]⟩:Env) (Zv O n []) n) (fun z5=>JX 0 n (⟨15,[],[]⟩:Env) (Zv O n []) n))) (z:=z5) ?_ fun hw => ?_
 ·refine Xe hz5 (fun s0_=>⟨15,[],[(5,(sL Za a0)),(6,(vI (a0.length:Int))),(7,(vI s0_))]⟩) (fun s0_=>(Zv O n [])) (Xl (fun z5=>JR n (⟨15,[],[(2,(vB false))]⟩:Env) (Zv O n []) n) (fun z5=>JX 0 n (⟨15,[],[]⟩:Env) (Zv O n []) n)) ?_
  intro s0_ x0_ hs0_
  unfold V1 at hs0_
  try dsimp only
  refine zQ [5,6,7,8] ?_
  refine Zg ?_
  refine Zq (t:=(decide (s0_ < (a0.length:Int)))) rfl (fun c4 => ?_) (fun c4 => ?_)
  ·replace hs0_:=Zp c4 hs0_
   refine Q7 [5,6,7] [] ?_
   refine Zg ?_
   refine Yg ?_
   refine Zg ?_
   obtain ⟨x2,hx2,ax2,bx2,cx2,hs0_⟩:=bE (f:=Za) V5 (fun _=>rfl) (by decide) hs0_
   refine Zao [] ax2 bx2 cx2 ?_
   refine zD [4,5,6,7] [true] ?_
   refine zQ [5,6,7,13] ?_
   refine Zq (t:=(x2.Kind != 1)) rfl (fun c3 => ?_) (fun c3 => ?_)
   ·replace hs0_:=Zp c3 hs0_
    refine zQ [2] ?_
    refine zW ?_
    exact zEy hs0_
   replace hs0_:=Zo c3 hs0_
   refine Q7 [5,6,7] [false] ?_
   refine zR ?_
   exact zEn hs0_
  replace hs0_:=Zo c4 hs0_
  exact zEx hs0_
 rcases z5 with z5 | z5
 ·dsimp only [Xl] at hw h
  refine Qy hw ?_
  try simp only [Y2,Z7,↓reduceIte,Nat.reduceEqDiff]
  exact Zhq [(vB false)]
 dsimp only [Xl] at hw h
 refine Yz hw ?_
 try simp only [Y2,Z7,↓reduceIte,Nat.reduceEqDiff]
 refine zD [] [] ?_
 refine zQ [2] ?_
 exact Yn [(vB true)]
theorem Zxo {a0:Int} {r:(Int×Bool)} {O:Objs} {n:Nat} (h:Zkz a0=some r):GTo Try.prog 168 [(vI a0)] O n (.tup [(vI r.1),(vB r.2)]) O n:=by
 unfold Zkz at h
 refine zFn Try.call168 Try.func168 fun hU hN0 hN => ?_
 show W _ _ _ _ ⟨15,[],[(0,(vI a0))]⟩ (Zv O n []) _
 refine zQ [0] ?_
 refine Zg ?_
 obtain ⟨y6,hy6,ey6,h⟩:=bY (f:=(eI .i64)) (cs:=[.val (.int .i64 0),.val (.int .i64 1),.val (.int .i64 8),.val (.int .i64 16),.val (.int .i64 32),.val (.int .i64 64)]) rfl h
 have g7:=congrArg G.agg ey6
 obtain ⟨y8,hy8,ey8,h⟩:=bY (f:=(eI .i64)) (cs:=[.val (.int .i64 0),.val (.int .i64 0),.val (.int .i64 0),.val (.int .i64 0),.val (.int .i64 0),.val (.int .i64 0)]) rfl h
 have g9:=congrArg (GObj.mk false 187 6 1) ey8
 have g10:=Zh9 (f:=(eI .i64)) y8 y6 (fun _=>rfl)
 refine Zdt [] g7 g9 g10 ?_
 refine zDs [0,4] [true] ?_
 refine zQD [0,4,11] [none,none] ?_
 refine Zq (t:=(cond (decide (a0 < 0)) true (decide (6≤a0)))) rfl (fun c13 => ?_) (fun c13 => ?_)
 ·replace h:=Zp c13 h
  refine zQ [2,3] ?_
  exact Yn [(vI 0),(vB false)]
 replace h:=Zo c13 h
 refine Q7 [0,4] [true] ?_
 obtain ⟨x12,hx12,ax12,bx12,cx12,h⟩:=bEA (f:=(eI .i64)) (b:=6) rfl Z4b (fun _=>rfl) (by decide) h
 refine Zni [2,3] (Yx Z4 [] ?_)
 refine zF3 ax12 bx12 cx12 ?_
 exact Yn [(vI x12),(vB true)]
theorem Z0l {a0:Int} {a1:Int} {r:Bool} {O:Objs} {n:Nat} (h:Zha a0 a1=some r):GTo Try.prog 153 [(vI a0),.val (.int .u64 a1)] O n ((vB r)) O n:=by
 unfold Zha at h
 refine zFn Try.call153 Try.func153 fun hU hN0 hN => ?_
 show W _ _ _ _ ⟨19,[],[(0,(vI a0)),(1,.val (.int .u64 a1))]⟩ (Zv O n []) _
 refine zQ [0,1] ?_
 refine Zg ?_
 obtain ⟨y2,hy2,h⟩:=bC h
 refine zCd (Zxo hy2) [1,5,6] [] ?_
 obtain ⟨z4,hz4,h⟩:=bC h
 refine Y1 (E':=⟨19,[],[(4,(vB z4))]⟩) (O':=(Zv O n [])) (n0:=n) ?_ ?_
 ·rcases Bool.eq_false_or_eq_true y2.2 with c7 | c7
  ·replace hz4:=Zp c7 hz4
   obtain ⟨pu6,hz4⟩:=bG hz4
   refine Yx Z4 [some true,some true,some true,some true] ?_
   simp only [push_cast,seval,↓reduceIte,Zk,c7,pu6,hN0,hN]
   have hz4:=Option.some.inj hz4;subst hz4
   refine And.intro rfl (Fit2.of (Ys hU rfl rfl ?_) (by omega))
   simp only [push_cast,seval,↓reduceIte,Zk,c7,pu6,hN0,hN]
  replace hz4:=Zo c7 hz4
  refine Jl [some false,some false,some false,some false] c7 ?_
  exact Qx hz4 c7
 exact Yn [(vB z4)]
end Go.Proofs.Ytfjkcekfifobpaa
