/- Part FM7 of this seat's mirrors: functions of the seat's program, and the plain functions that they are; each theorem bears its own conditions. -/
import Derived.Test.YtfjkcekfifobpaaFD
import Derived.Test.YtfjkcekfifobpaaFM4
namespace Go.Proofs.Ytfjkcekfifobpaa
open Go.RowKit
set_option linter.unusedVariables false
set_option linter.unusedSimpArgs false
set_option maxRecDepth 100000
set_option maxHeartbeats 4000000
attribute [local push_cast] Try.results109 Try.results139 Try.results14 Try.results31 Try.results45 Try.results59 Try.results71 Try.results72 vI vB nV sL oR Zf Uf Y6 Zd Zav Zzq Zzp Z0v Z0u Y2 Z7 Zug Zoi Zoh onW Ql Zfz Zel Zui Zuj Zr3 Zr7 Zr2 Zr6 Zwb Zv8 Zr5 Zwa Zv9 Zr4 Zv6 Zpc evS wok J0 Op.operands Call.operands gop onK onP atK List.all_cons List.all_nil Bool.and_true Bool.true_and Bool.and_self Value.oneCell' List.take_zero List.take_succ_cons List.take_nil List.drop_zero List.drop_succ_cons List.drop_nil List.append_nil Nat.add_zero Nat.zero_add Zam Yw ev Jw Zfd Zzg Zzf Zzl Zzj Zzk Zzh Zzi Zze Zuc Zxg Z27 Zl7 Zg1 Zle Zf7 Zrd Zjn Zlt Zly Zob Zn8 Zlw Zoa Zn9 Zlv Zn6 Zlu Zlx Zkq Zn7 Zok Zoj Zem Zm7 Zen Zog Zl3 Zzv bLo bHi bMx Zg2 Zof Z4w Zl2 Znw Zja Zcz Zx5 Z4z Zm5 Z44 Zg0 Z8q Zuu Zuy Zut Zux Z0e Z0b Zz9 Zrg Zuv Z0d Z0c Zuw Z0a Zl5 gone Zvq Zo6 Zo5 pop TK.isAgg Z0n Z0r Z0m Z0q Zvg Z5d Z5a Z0p Z5c Z5b Z0o Z49 G.under G.unders List.getD_cons_zero List.getD_cons_succ List.set_cons_zero List.set_cons_succ List.map_cons List.map_nil List.toList_toArray Array.toList_append Option.toArray_none Option.toArray_some Array.toList_map Option.map_some Option.map_none Option.bind_some Option.bind_none List.getElem?_cons_zero List.getElem?_cons_succ List.getElem?_nil List.nil_append List.cons_append List.replicate_succ List.replicate_zero List.length_cons List.length_nil and_true true_and and_false false_and Bool.true_eq_false Bool.false_eq_true forall_const false_implies implies_true IntKind.bits if_true if_false ite_true ite_false eq_self true_implies false_or or_false or_true true_or not_true_eq_false not_false_eq_true decide_true decide_false decide_eq_true_eq decide_eq_false_iff_not beq_iff_eq bne_iff_ne ne_eq Bool.not_eq_true Bool.not_eq_false beq_eq_false_iff_ne bne_eq_false_iff_eq beq_self_eq_true bne_self_eq_false Option.some.injEq exists_eq_left' exists_eq_left ge_iff_le gt_iff_lt decide_not Bool.not_true Bool.not_false imp_self Z41 cond_true cond_false Yez Yey Bool.not_not Bool.and_false Bool.false_and Bool.or_true Bool.true_or Bool.or_false Bool.false_or Zah Zeh Zbc Gu Xk Y3 Option.join_some Nat.add_assoc Int.toNat_natCast eI eB eS eL Xn Zm6 Zl4 Zzu Zzs Zzt Z81 Yaq Zna Zmn Z04 Z02 Z03 Z3t Zoc Z2z Zql Zy6 Zj6 Zy8 List.length_append G.agg.injEq G.row.injEq G.ref.injEq G.val.injEq G.sl.injEq G.tup.injEq Value.int.injEq Value.bool.injEq Value.string.injEq List.cons.injEq exists_and_left exists_const List.flatten_cons List.flatten_nil Int.le_refl Nat.le_refl Qn Yr Yy Bool.not_eq_true' Bool.not_eq_false' Z2k Zqs Z6s Z6w Z6r Z6v Ycu Ycp List.size_toArray Zs1 Zvs G.ren G.rens Zxq Zjx Z09 Zzb Zzc Zv7 Z6x Zgj G.fn.injEq Zxc Zxd Z2j Ycq Zxb Z6u Yct Ycs Z6t Z46 Yaf Option.join_none Yj Gz undef Zny Arr.len Arr.put_eq Zm9 Zrt Zo2 Zmm Z01 Z0z Z00 onB Z80 Zx4 Zv0 Zth Zti Ztj Ztk Ztl Ztm Zrk Zrw Zru Zo4 Zmo Zrv Zvp Zvo Zvn Zvm Yap Yds Z3s Z0w Zbm Z3i Zsu Zrx Zo3 Z5e Zv2 Zlz Znv Zh1 Zqh Ztn Zto Ztp Ztq Zqt Zqu Zqv Zqw Zqx Zqy Zqz Zh6 prT Zi6 Yfs Z6i Z4b Z6j Yft Z6k Z4c Z6l Yfu Z6m Yfv Z6n Yfw Z6o Yfx Z6p Ybj Z1g Ybk Z1h Ybl Z1i Ybm Z1j Ybn Z1k Ybo Z1l Ybp Z1m Ybq Z1n Ybr Z1o Ybs Z1p Ybt Z1q Ybu Zqr Z4a Zfw Ybv Z1r V5 Z1s Ybw Z1t Ybx Z1u Yby Z1v Ybz Z1w Zso Z1x Yb0 Z1y Yb1 Znh Yb2 Z1z Zmw Z10 Yb3 Z11 Yb4 Z12 Yb5 Z13 Yb6 Z14 Zf5 Z15 Yb7 Z16 Zfv Z17 Yb8 Z18 Yb9 Z19 Yca Z2a Zyo Z2b Ycb Z2c Zmx Z2d Ycc Z2e Ycd Z2f Z5q Zwf Z5r Zwg Z5s Zwh Z5t Zwi Z5u Zwj Z5v Zwk Z5w Zwl Z5x Zwm Z5y Zwn Z5z Zwo Z50 Zwp Z51 Zwq Z52 Zwr Zwd Zqq Z53 Zws Z54 Zwt Z55 Zwu Z56 Zwv Z57 Zww Z58 Zwx Z59 Zwy Z6a Zwz Z6b Zw0 Z6c Zw1 Z6d Zw2 Z6e Zw3 Z6f Zw4 Z6g Zw5 Z6h Zw6 Za Yu Zpk Zpi Zoo Zo0 Zpm Zm0 Zms Zmq Zpf Zgu Zgs Zga Zgi Zgw Zfy Zfr Zfp Zgp Zm Qt Ze Zi Xs Xz Y8 Zdn Zdl Zc1 Zc9 Zdr Zco Zcl Zcj Zdh Zd8 Zd7 Zd3 Zd5 Zd9 Zdk Zdf Zde Zd6 Zi4 Zi3 Zic Zio Zi5 Zhp Zhn Zhm Zi2 Zsh Zsg Zrf Zrq Zsi Zpg Zo8 Zo7 Zsa Zu Zgt Zgr Zf9 Zgh Zgv Zfx Zfq Zfo Zgo Yh Zcr Zcq Zce Zci Zcs Zbp Zbo Zbn Zcn Zpj Zph Zon Zoz Zpl Zmz Zmr Zmp Zpe Yo Zdo Zdm Zc2 Zda Zds Zcp Zcm Zck Zdi
def Gn (Y7:(Zc→Zb→Option (Zb×Bool))):Prop:=∀ {a0:Zc} {a1:Zb} {r:(Zb×Bool)} {O:Objs} {n:Nat},Y7 a0 a1=some r→GTo Try.prog 45 [.agg (Zf a0),.agg (Zd a1)] O n (.tup [.agg (Zd r.1),(vB r.2)]) O n
def Kb (Yd:(Zc→Zb→Option (Zb×Bool))):Prop:=∀ {a0:Zc} {a1:Zb} {r:(Zb×Bool)} {O:Objs} {n:Nat},Yd a0 a1=some r→GTo Try.prog 71 [.agg (Zf a0),.agg (Zd a1)] O n (.tup [.agg (Zd r.1),(vB r.2)]) O n
def Gp (Xg:(Zc→Zb→Option (Zb×Bool))):Prop:=∀ {a0:Zc} {a1:Zb} {r:(Zb×Bool)} {O:Objs} {n:Nat},Xg a0 a1=some r→GTo Try.prog 72 [.agg (Zf a0),.agg (Zd a1)] O n (.tup [.agg (Zd r.1),(vB r.2)]) O n
def Q6 (Z3:(Zh→Zj→Option (Bool×Zh))):Prop:=∀ {a0:Zh} {a1:Zj} {r:(Bool×Zh)} {O:Objs} {n:Nat} {i0 j0_0:Nat},i0 < n→j0_0 < n→i0≠j0_0→O i0=some ⟨false,125,2,1,[(sL Za a0.left),.row j0_0 a0.out.length]⟩→O j0_0=some (oR 25 3 Za a0.out)→Z3 a0 a1=some r→GTo Try.prog 109 [.ref i0 0,.agg (Y6 a1)] O n ((vB r.1)) (Zv ((O.upd j0_0 none).upd i0 (some ⟨false,125,2,1,[(sL Za r.2.left),.row n r.2.out.length]⟩)) n [some (oR 25 3 Za r.2.out)]) (n+1)
def Qj (Z0:(Zh→Zc→Option (Bool×Zh))):Prop:=∀ {a0:Zh} {a1:Zc} {r:(Bool×Zh)} {O:Objs} {n:Nat} {i0 j0_0:Nat},i0 < n→j0_0 < n→i0≠j0_0→O i0=some ⟨false,125,2,1,[(sL Za a0.left),.row j0_0 a0.out.length]⟩→O j0_0=some (oR 25 3 Za a0.out)→Z0 a0 a1=some r→GTo Try.prog 139 [.ref i0 0,.agg (Zf a1)] O n ((vB r.1)) (Zv ((O.upd j0_0 none).upd i0 (some ⟨false,125,2,1,[(sL Za r.2.left),.row n r.2.out.length]⟩)) n [some (oR 25 3 Za r.2.out)]) (n+1)
theorem Zu8 {Y7:(Zc→Zb→Option (Zb×Bool))} {Yd:(Zc→Zb→Option (Zb×Bool))} {Xg:(Zc→Zb→Option (Zb×Bool))} {Z3:(Zh→Zj→Option (Bool×Zh))} {Z0:(Zh→Zc→Option (Bool×Zh))} (K4:Gn Y7) (V3:Kb Yd) (Zb2:Gp Xg) (Kx:Q6 Z3) (Q8:Qj Z0) {a0:Zc} {a1:Zb} {r:(Zb×Bool)} {O:Objs} {n:Nat} (h:Gv Y7 Yd Xg Z3 Z0 a0 a1=some r):GTo Try.prog 45 [.agg (Zf a0),.agg (Zd a1)] O n (.tup [.agg (Zd r.1),(vB r.2)]) O n:=by
 unfold Gv at h
 refine zFn Try.call45 Try.func45 fun hU hN0 hN => ?_
 show W _ _ _ _ ⟨34,[],[(0,.agg (Zf a0)),(1,.agg (Zd a1))]⟩ (Zv O n []) _
 refine zQ [2,3,4] ?_
 refine Zg ?_
 refine zQ [2,3,4,7] ?_
 refine Yg ?_
 refine zQ [2,3,4,7,8] ?_
 refine Zq (t:=(a0.Kind == 0)) rfl (fun c10 => ?_) (fun c10 => ?_)
 ·replace h:=Zp c10 h
  refine Zg ?_
  refine zRd [4,5] [false,false,true] ?_
  exact Yn [.agg (Zd a1),(vB true)]
 replace h:=Zo c10 h
 refine zQ [2,3,4,7,11] ?_
 refine Zq (t:=(a0.Kind == 1)) rfl (fun c9 => ?_) (fun c9 => ?_)
 ·replace h:=Zp c9 h
  refine Zg ?_
  obtain ⟨y2,hy2,h⟩:=bC h
  refine Zhx Z4 (by kernel_rfl) [false,false,false,false,false,false,true,false] [] (by kernel_rfl) ?_
  refine zS ?_
  refine PCall.of (Zxn hy2) ?_
  refine zS ?_
  refine zD [4,5] [false,false,true] ?_
  exact Yn [.agg (Zd a0.New),(vB y2)]
 replace h:=Zo c9 h
 refine zQ [2,3,4,7,19] ?_
 refine Zq (t:=(a0.Kind == 2)) rfl (fun c8 => ?_) (fun c8 => ?_)
 ·replace h:=Zp c8 h
  refine Zg ?_
  obtain ⟨y4,hy4,h⟩:=bC h
  refine zCd (V3 hy4) [4,5] [false,false,true] ?_
  exact Yn [.agg (Zd y4.1),(vB y4.2)]
 replace h:=Zo c8 h
 refine zQ [2,3,4,26] ?_
 refine Zq (t:=(a0.Kind == 3)) rfl (fun c7 => ?_) (fun c7 => ?_)
 ·replace h:=Zp c7 h
  refine Zg ?_
  obtain ⟨y6,hy6,h⟩:=bC h
  refine zCd (Zb2 hy6) [4,5] [false,false,true] ?_
  exact Yn [.agg (Zd y6.1),(vB y6.2)]
 replace h:=Zo c7 h
 refine Q7 [4] [false,false,true] ?_
 refine Zg ?_
 refine zRd [4,5] [false,false,true] ?_
 exact Yn [.agg [(vI 0),nV,nV],(vB false)]
theorem Znr {Y7:(Zc→Zb→Option (Zb×Bool))} {Yd:(Zc→Zb→Option (Zb×Bool))} {Xg:(Zc→Zb→Option (Zb×Bool))} {Z3:(Zh→Zj→Option (Bool×Zh))} {Z0:(Zh→Zc→Option (Bool×Zh))} (K4:Gn Y7) (V3:Kb Yd) (Zb2:Gp Xg) (Kx:Q6 Z3) (Q8:Qj Z0) {a0:Zc} {a1:Zb} {r:(Zb×Bool)} {O:Objs} {n:Nat} (h:V6 Y7 Yd Xg Z3 Z0 a0 a1=some r):GTo Try.prog 71 [.agg (Zf a0),.agg (Zd a1)] O n (.tup [.agg (Zd r.1),(vB r.2)]) O n:=by
 unfold V6 at h
 refine zFn Try.call71 Try.func71 fun hU hN0 hN => ?_
 show W _ _ _ _ ⟨92,[],[(0,.agg (Zf a0)),(1,.agg (Zd a1))]⟩ (Zv O n []) _
 refine zQ [2,3,4] ?_
 refine Zg ?_
 refine zQ [2,3,4,16] ?_
 refine Zq (t:=(a1.Kind != 1)) rfl (fun c138 => ?_) (fun c138 => ?_)
 ·replace h:=Zp c138 h
  refine Zg ?_
  refine zRd [4,5] [false,false,true] ?_
  exact Yn [.agg [(vI 0),nV,nV],(vB false)]
 replace h:=Zo c138 h
 refine Q7 [2,3,4] [true,true,true] ?_
 obtain ⟨y25,hy25,h⟩:=bC h
 obtain ⟨y61,hy61,h⟩:=bC h
 refine Y1 (E':=⟨92,[],[(2,.ref n 0),(3,.ref (n+1) 0),(4,.ref (n+2) 0),(6,.ref (n+5) 0)]⟩) (O':=(Zv O n [some ⟨false,30,11,1,(Zf a0)⟩,some ⟨false,25,3,1,(Zd a1)⟩,some ⟨false,25,3,1,[(vI 0),nV,nV]⟩,some (oR 73 1 (eI .u64) y25),some (oR 25 3 Za y61),some ⟨false,25,3,1,[(vI 1),.row (n+3) y25.length,.row (n+4) y61.length]⟩])) (n0:=(n+6)) ?_ ?_
 ·refine Ycz Z4 (by kernel_rfl) [.low,.low,.pass,.low,.low,.pass,.plain,.pass,.pass] (fun i=>i < (n+3)) [0,1,3,4] [2,5,6,7] [8] (.two 2 (.two 5 (.seq [6,7]) 7 (.seq [5,6])) 7 (.seq [2,5,6])) [.low,.low,.low,.low] [] (by kernel_rfl) rfl ?_
  refine zS ?_
  repeat (with_reducible refine And.intro (by omega) ?_)
  try simp only [push_cast,seval,↓reduceIte,Zk,hN0,hN]
  refine And.intro ?_ ?_
  ·try simp only [push_cast,seval,↓reduceIte,Zk,hN0,hN]
   repeat (with_reducible refine And.intro (by first | exact Uv rfl | exact Vf) ?_)
   refine (Za7 hy25).then ?_
   try simp only [push_cast,seval,↓reduceIte,Zk,hN0,hN]
   repeat (with_reducible refine And.intro (by first | exact Uv rfl | exact Vf) ?_)
   try simp only [push_cast,seval,↓reduceIte,Zk,hN0,hN]
   refine And.intro ?_ ?_
   ·try simp only [push_cast,seval,↓reduceIte,Zk,hN0,hN]
    repeat (with_reducible refine And.intro (by first | exact Uv rfl | exact Vf) ?_)
    refine (Kj hy61).then ?_
    try simp only [push_cast,seval,↓reduceIte,Zk,hN0,hN]
    repeat (with_reducible refine And.intro (by first | exact Uv rfl | exact Vf) ?_)
    try simp only [push_cast,seval,↓reduceIte,Zk,hN0,hN]
    repeat (with_reducible refine And.intro (by first | exact Uv rfl | exact Vf) ?_)
    exact zEf
   try simp only [push_cast,seval,↓reduceIte,Zk,hN0,hN]
   repeat (with_reducible refine And.intro (by first | exact Uv rfl | exact Vf) ?_)
   try simp only [push_cast,seval,↓reduceIte,Zk,hN0,hN]
   repeat (with_reducible refine And.intro (by first | exact Uv rfl | exact Vf) ?_)
   refine (Kj hy61).then ?_
   try simp only [push_cast,seval,↓reduceIte,Zk,hN0,hN]
   repeat (with_reducible refine And.intro (by first | exact Uv rfl | exact Vf) ?_)
   refine And.intro rfl ?_
   refine Fit2.trans (E':=(⟨92,[],[(2,.ref n 0),(3,.ref (n+1) 0),(4,.ref (n+2) 0),(6,.ref (n+4) 0)]⟩:Env)) (O':=(Zv O n [some ⟨false,30,11,1,(Zf a0)⟩,some ⟨false,25,3,1,(Zd a1)⟩,some ⟨false,25,3,1,[(vI 0),nV,nV]⟩,some (oR 73 1 (eI .u64) y25),some ⟨false,25,3,1,[(vI 1),.row (n+3) y25.length,.row (n+5) y61.length]⟩,some (oR 25 3 Za y61)])) (n':=(n+6)) (Fit2.of (Ys hU rfl rfl ?_) (by omega)) ?_
   ·exact zSe
   refine Kh (k:=6) (k':=6) hU [0,1,2,3,5,4] [0,1,2,3,5,4] rfl rfl rfl rfl ⟨rfl,rfl⟩ ?_
   exact zSe
  try simp only [push_cast,seval,↓reduceIte,Zk,hN0,hN]
  repeat (with_reducible refine And.intro (by first | exact Uv rfl | exact Vf) ?_)
  try simp only [push_cast,seval,↓reduceIte,Zk,hN0,hN]
  repeat (with_reducible refine And.intro (by first | exact Uv rfl | exact Vf) ?_)
  refine (Za7 hy25).then ?_
  try simp only [push_cast,seval,↓reduceIte,Zk,hN0,hN]
  repeat (with_reducible refine And.intro (by first | exact Uv rfl | exact Vf) ?_)
  refine (Kj hy61).then ?_
  try simp only [push_cast,seval,↓reduceIte,Zk,hN0,hN]
  repeat (with_reducible refine And.intro (by first | exact Uv rfl | exact Vf) ?_)
  refine And.intro rfl ?_
  refine Fit2.trans (E':=(⟨92,[],[(2,.ref n 0),(3,.ref (n+1) 0),(4,.ref (n+2) 0),(6,.ref (n+3) 0)]⟩:Env)) (O':=(Zv O n [some ⟨false,30,11,1,(Zf a0)⟩,some ⟨false,25,3,1,(Zd a1)⟩,some ⟨false,25,3,1,[(vI 0),nV,nV]⟩,some ⟨false,25,3,1,[(vI 1),.row (n+4) y25.length,.row (n+5) y61.length]⟩,some (oR 73 1 (eI .u64) y25),some (oR 25 3 Za y61)])) (n':=(n+6)) (Fit2.of (Ys hU rfl rfl ?_) (by omega)) ?_
  ·exact zSe
  refine Kh (k:=6) (k':=6) hU [0,1,2,5,3,4] [0,1,2,4,5,3] rfl rfl rfl rfl ⟨rfl,rfl⟩ ?_
  exact zSe
 refine Zg ?_
 refine zQd [2,3,4,6,26,27,28] [2,3,4,6,26,27,28] [true,true,true,true,true,true] ?_
 refine Kq (E':=(⟨92,[],[(2,.ref n 0),(3,.ref (n+1) 0),(4,.ref (n+2) 0),(6,.ref (n+5) 0),(26,(sL Zm a0.Words)),(27,(vI (a0.Words.length:Int))),(28,(vI 0))]⟩:Env)) (O':=(Zv O n [some ⟨false,30,11,1,(Zf a0)⟩,some ⟨false,25,3,1,(Zd a1)⟩,some ⟨false,25,3,1,[(vI 0),nV,nV]⟩,none,none,some ⟨false,25,3,1,[(vI 1),.row (n+6) y25.length,.row (n+7) y61.length]⟩,some (oR 73 1 (eI .u64) y25),some (oR 25 3 Za y61),none])) (n':=(n+9)) ?_ ?_
 ·refine Fit2.trans (E':=(⟨92,[],[(2,.ref n 0),(3,.ref (n+1) 0),(4,.ref (n+2) 0),(6,.ref (n+5) 0),(26,(sL Zm a0.Words)),(27,(vI (a0.Words.length:Int))),(28,(vI 0))]⟩:Env)) (O':=(Zv O n [some ⟨false,30,11,1,(Zf a0)⟩,some ⟨false,25,3,1,(Zd a1)⟩,some ⟨false,25,3,1,[(vI 0),nV,nV]⟩,some (oR 73 1 (eI .u64) y25),some (oR 25 3 Za y61),some ⟨false,25,3,1,[(vI 1),.row (n+3) y25.length,.row (n+4) y61.length]⟩])) (n':=(n+6)) (Fit2.of (Ys hU rfl rfl ?_) (by omega)) ?_
  ·exact zSe
  refine Kh (k:=6) (k':=9) hU [0,1,2,6,7,5] [0,1,2,0,0,5,3,4,0] rfl rfl rfl rfl ⟨rfl,rfl⟩ ?_
  exact zSe
 obtain ⟨z125,hz125,h⟩:=bC h
 refine Ux (J:=(Xl (fun z125=>JR n (⟨92,[],[(4,.ref (n+2) 0),(5,(vB false))]⟩:Env) (Zv O n [none,none,some ⟨false,25,3,1,[(vI 0),nV,nV]⟩,none,none,none]) (n+6)) (fun z125=>JX 0 n (⟨92,[],[(2,.ref n 0),(3,.ref (n+1) 0),(4,.ref (n+2) 0),(6,.ref (n+5) 0)]⟩:Env) (Zv O n [some ⟨false,30,11,1,(Zf a0)⟩,some ⟨false,25,3,1,(Zd a1)⟩,some ⟨false,25,3,1,[(vI 0),nV,nV]⟩,none,none,some ⟨false,25,3,1,[(vI z125.1),.row (n+6) z125.2.1.length,.row (n+7) z125.2.2.length]⟩,some (oR 73 1 (eI .u64) z125.2.1),some (oR 25 3 Za z125.2.2),none]) (n+9)))) (z:=z125) ?_ fun hw => ?_
 ·refine Xe hz125 (fun s0_=>⟨92,[],[(2,.ref n 0),(3,.ref (n+1) 0),(4,.ref (n+2) 0),(6,.ref (n+5) 0),(26,(sL Zm a0.Words)),(27,(vI (a0.Words.length:Int))),(28,(vI s0_.1))]⟩) (fun s0_=>(Zv O n [some ⟨false,30,11,1,(Zf a0)⟩,some ⟨false,25,3,1,(Zd a1)⟩,some ⟨false,25,3,1,[(vI 0),nV,nV]⟩,none,none,some ⟨false,25,3,1,[(vI s0_.2.1),.row (n+6) s0_.2.2.1.length,.row (n+7) s0_.2.2.2.length]⟩,some (oR 73 1 (eI .u64) s0_.2.2.1),some (oR 25 3 Za s0_.2.2.2),none])) (Xl (fun z125=>JR n (⟨92,[],[(4,.ref (n+2) 0),(5,(vB false))]⟩:Env) (Zv O n [none,none,some ⟨false,25,3,1,[(vI 0),nV,nV]⟩,none,none,none]) (n+6)) (fun z125=>JX 0 n (⟨92,[],[(2,.ref n 0),(3,.ref (n+1) 0),(4,.ref (n+2) 0),(6,.ref (n+5) 0)]⟩:Env) (Zv O n [some ⟨false,30,11,1,(Zf a0)⟩,some ⟨false,25,3,1,(Zd a1)⟩,some ⟨false,25,3,1,[(vI 0),nV,nV]⟩,none,none,some ⟨false,25,3,1,[(vI z125.1),.row (n+6) z125.2.1.length,.row (n+7) z125.2.2.length]⟩,some (oR 73 1 (eI .u64) z125.2.1),some (oR 25 3 Za z125.2.2),none]) (n+9))) ?_
  intro s0_ x0_ hs0_
  unfold Qz at hs0_
  try dsimp only
  refine zQ [2,3,4,6,26,27,28,29] ?_
  refine Zg ?_
  refine Zq (t:=(decide (s0_.1 < (a0.Words.length:Int)))) rfl (fun c124 => ?_) (fun c124 => ?_)
  ·replace hs0_:=Zp c124 hs0_
   refine Q7 [2,3,4,6,26,27,28] [true,true,true,false,false,true,true,true,false] ?_
   refine Zg ?_
   refine Yg ?_
   refine Zg ?_
   obtain ⟨x110,hx110,ax110,bx110,cx110,hs0_⟩:=bE (f:=Zm) Zyo (fun _=>rfl) (by decide) hs0_
   refine Zao [] ax110 bx110 cx110 ?_
   refine zDs [2,3,4,6,8,26,27,28] [true,true,true,false,false,true,true,true,false,true] ?_
   obtain ⟨y112,hy112,hs0_⟩:=bC hs0_
   refine zCd (Z0k hy112) [2,3,4,6,8,9,26,27,28] [true,true,true,false,false,true,true,true,false,true] ?_
   refine Zg ?_
   obtain ⟨z115,hz115,hs0_⟩:=bC hs0_
   refine Y1 (E':=⟨92,[],[(2,.ref n 0),(3,.ref (n+1) 0),(4,.ref (n+2) 0),(6,.ref (n+5) 0),(8,.ref (n+9) 0),(9,.val (.int .u64 y112)),(26,(sL Zm a0.Words)),(27,(vI (a0.Words.length:Int))),(28,(vI s0_.1)),(49,(vB z115))]⟩) (O':=(Zv O n [some ⟨false,30,11,1,(Zf a0)⟩,some ⟨false,25,3,1,(Zd a1)⟩,some ⟨false,25,3,1,[(vI 0),nV,nV]⟩,none,none,some ⟨false,25,3,1,[(vI s0_.2.1),.row (n+6) s0_.2.2.1.length,.row (n+7) s0_.2.2.2.length]⟩,some (oR 73 1 (eI .u64) s0_.2.2.1),some (oR 25 3 Za s0_.2.2.2),none,some ⟨false,82,4,1,(Zav x110)⟩])) (n0:=(n+10)) ?_ ?_
   ·obtain ⟨y118,hy118,hz115⟩:=bC hz115
    rcases Bool.eq_false_or_eq_true y118 with c120 | c120
    ·replace hz115:=Zp c120 hz115
     refine K7 Z4 (by kernel_rfl) [some false,some false,some false,some false,some false,some false,some false,some false,some false] (by kernel_rfl) ?_
     refine zX1 c120 ?_
     refine PCall.of (Zgf hy118) ?_
     refine zX1 c120 ?_
     exact Qx hz115 c120
    replace hz115:=Zo c120 hz115
    obtain ⟨y119,hy119,hz115⟩:=bC hz115
    refine K7 Z4 (by kernel_rfl) [some true,some true,some true,some true,some true,some true,some true,some true,some true] (by kernel_rfl) ?_
    refine zX1 c120 ?_
    refine PCall.of (Zgf hy118) ?_
    refine zX1 c120 ?_
    refine PCall.of (Zk1 hy119) ?_
    refine zX1 c120 ?_
    exact Qx hz115 c120
   refine Zq (t:=z115) rfl (fun c123 => ?_) (fun c123 => ?_)
   ·replace hs0_:=Zp c123 hs0_
    refine Zg ?_
    refine zRd [4,5] [false,false,true,false,false,false,false,false,false,false] ?_
    refine zW ?_
    exact zEy hs0_
   replace hs0_:=Zo c123 hs0_
   refine Q7 [2,3,4,6,8,9,26,27,28] [true,true,true,false,false,true,true,true,false,true] ?_
   obtain ⟨y121,hy121,hs0_⟩:=bC hs0_
   obtain ⟨y122,hy122,hs0_⟩:=bC hs0_
   refine Zhx Z4 (by kernel_rfl) [false,false,false,false,false,false,false,false,true] [] (by kernel_rfl) ?_
   refine zS ?_
   refine PCall.of (Z3r hy121) ?_
   refine zS ?_
   refine (Zrm (i0:=(n+5)) (j0_0:=(n+7)) (j0_1:=(n+6)) (by omega) (by omega) (by omega) (by omega) (by omega) (by omega) (by simp only [push_cast,seval,↓reduceIte,Zk,Xn,hN0,hN] <;> rfl) (by simp only [push_cast,seval,↓reduceIte,Zk,Xn,hN0,hN] <;> rfl) (by simp only [push_cast,seval,↓reduceIte,Zk,Xn,hN0,hN] <;> rfl) hy122).then ?_
   refine zS ?_
   refine zD [2,3,4,6,26,27,28] [true,true,true,false,false,true,false,false,false,false,true,true] ?_
   refine zR ?_
   have hs0_:=Option.some.inj hs0_;subst hs0_
   refine And.intro rfl ?_
   refine Fit2.trans (E':=(⟨92,[],[(2,.ref n 0),(3,.ref (n+1) 0),(4,.ref (n+2) 0),(6,.ref (n+5) 0),(26,(sL Zm a0.Words)),(27,(vI (a0.Words.length:Int))),(28,(vI (IntKind.i64.wrap (s0_.1+1))))]⟩:Env)) (O':=(Zv O n [some ⟨false,30,11,1,(Zf a0)⟩,some ⟨false,25,3,1,(Zd a1)⟩,some ⟨false,25,3,1,[(vI 0),nV,nV]⟩,none,none,some ⟨false,25,3,1,[(vI y122.Kind),.row (n+11) y122.Words.length,.row (n+10) y122.Kids.length]⟩,none,none,none,none,some (oR 25 3 Za y122.Kids),some (oR 73 1 (eI .u64) y122.Words)])) (n':=(n+12)) (Fit2.of (Ys hU rfl rfl ?_) (by omega)) ?_
   ·exact zSe
   refine Kh (k:=12) (k':=9) hU [0,1,2,8,8,5,8,8,8,8,7,6] [0,1,2,0,0,5,11,10,0] rfl rfl rfl rfl ⟨rfl,rfl⟩ ?_
   exact zSe
  replace hs0_:=Zo c124 hs0_
  exact zEx hs0_
 rcases z125 with z125 | z125
 ·dsimp only [Xl] at hw h
  refine Qy hw ?_
  try simp only [Y2,Z7,↓reduceIte,Nat.reduceEqDiff]
  exact Zhq [.agg [(vI 0),nV,nV],(vB false)]
 dsimp only [Xl] at hw h
 refine Yz hw ?_
 try simp only [Y2,Z7,↓reduceIte,Nat.reduceEqDiff]
 refine zDs [2,3,4,6] [true,true,true,false,false,true,true,true,false] ?_
 refine zQd [3,4,6,62,63,64] [3,4,6,62,63,64] [false,true,true,false,false,true,true,true,false] ?_
 refine Kq (E':=(⟨92,[],[(3,.ref (n+1) 0),(4,.ref (n+2) 0),(6,.ref (n+5) 0),(62,(sL Zi a0.Kids)),(63,(vI (a0.Kids.length:Int))),(64,(vI 0))]⟩:Env)) (O':=(Zv O n [none,some ⟨false,25,3,1,(Zd a1)⟩,some ⟨false,25,3,1,[(vI 0),nV,nV]⟩,none,none,some ⟨false,25,3,1,[(vI z125.1),(sL (eI .u64) z125.2.1),.row (n+9) z125.2.2.length]⟩,none,none,none,some (oR 25 3 Za z125.2.2),none])) (n':=(n+11)) ?_ ?_
 ·refine Fit2.trans (E':=(⟨92,[],[(3,.ref (n+1) 0),(4,.ref (n+2) 0),(6,.ref (n+5) 0),(62,(sL Zi a0.Kids)),(63,(vI (a0.Kids.length:Int))),(64,(vI 0))]⟩:Env)) (O':=(Zv O n [none,some ⟨false,25,3,1,(Zd a1)⟩,some ⟨false,25,3,1,[(vI 0),nV,nV]⟩,none,none,some ⟨false,25,3,1,[(vI z125.1),(sL (eI .u64) z125.2.1),.row (n+7) z125.2.2.length]⟩,none,some (oR 25 3 Za z125.2.2),none])) (n':=(n+9)) (Fit2.of (Ys hU rfl rfl ?_) (by omega)) ?_
  ·exact zSe
  refine Kh (k:=9) (k':=11) hU [10,1,2,10,10,5,10,9,10] [0,1,2,0,0,5,0,0,0,7,0] rfl rfl rfl rfl ⟨rfl,rfl⟩ ?_
  exact zSe
 obtain ⟨z137,hz137,h⟩:=bC h
 refine Ux (J:=(Xl (fun z137=>JR n (⟨92,[],[(4,.ref (n+2) 0),(5,(vB false))]⟩:Env) (Zv O n [none,none,some ⟨false,25,3,1,[(vI 0),nV,nV]⟩,none,none,none,none,none,none]) (n+9)) (fun z137=>JX 2 n (⟨92,[],[(4,.ref (n+2) 0),(6,.ref (n+5) 0)]⟩:Env) (Zv O n [none,none,some ⟨false,25,3,1,[(vI 0),nV,nV]⟩,none,none,some ⟨false,25,3,1,[(vI z137.1),(sL (eI .u64) z137.2.1),.row (n+9) z137.2.2.length]⟩,none,none,none,some (oR 25 3 Za z137.2.2),none]) (n+11)))) (z:=z137) ?_ fun hw => ?_
 ·refine Xe hz137 (fun s1_=>⟨92,[],[(3,.ref (n+1) 0),(4,.ref (n+2) 0),(6,.ref (n+5) 0),(62,(sL Zi a0.Kids)),(63,(vI (a0.Kids.length:Int))),(64,(vI s1_.1))]⟩) (fun s1_=>(Zv O n [none,some ⟨false,25,3,1,(Zd a1)⟩,some ⟨false,25,3,1,[(vI 0),nV,nV]⟩,none,none,some ⟨false,25,3,1,[(vI s1_.2.1),(sL (eI .u64) s1_.2.2.1),.row (n+9) s1_.2.2.2.length]⟩,none,none,none,some (oR 25 3 Za s1_.2.2.2),none])) (Xl (fun z137=>JR n (⟨92,[],[(4,.ref (n+2) 0),(5,(vB false))]⟩:Env) (Zv O n [none,none,some ⟨false,25,3,1,[(vI 0),nV,nV]⟩,none,none,none,none,none,none]) (n+9)) (fun z137=>JX 2 n (⟨92,[],[(4,.ref (n+2) 0),(6,.ref (n+5) 0)]⟩:Env) (Zv O n [none,none,some ⟨false,25,3,1,[(vI 0),nV,nV]⟩,none,none,some ⟨false,25,3,1,[(vI z137.1),(sL (eI .u64) z137.2.1),.row (n+9) z137.2.2.length]⟩,none,none,none,some (oR 25 3 Za z137.2.2),none]) (n+11))) ?_
  intro s1_ x1_ hs1_
  unfold Qe at hs1_
  try dsimp only
  refine zQ [3,4,6,62,63,64,65] ?_
  refine Zg ?_
  refine Zq (t:=(decide (s1_.1 < (a0.Kids.length:Int)))) rfl (fun c136 => ?_) (fun c136 => ?_)
  ·replace hs1_:=Zp c136 hs1_
   refine Q7 [3,4,6,62,63,64] [false,true,true,false,false,true,false,false,false,true,false] ?_
   refine Zg ?_
   refine Yg ?_
   refine Zg ?_
   obtain ⟨x127,hx127,ax127,bx127,cx127,hs1_⟩:=bE (f:=Zi) Zmx (fun _=>rfl) (by decide) hs1_
   refine Zao [] ax127 bx127 cx127 ?_
   refine zDs [3,4,6,11,62,63,64] [false,true,true,false,false,true,false,false,false,true,false,true] ?_
   obtain ⟨y130,hy130,hs1_⟩:=bC hs1_
   obtain ⟨y131,hy131,hs1_⟩:=bC hs1_
   refine Vs Z4 (by kernel_rfl) [.low,.low,.low,.low,.low,.low,.low,.plain,.plain,.plain,.pass,.bar,.plain] (fun i=>i < (n+12)) [0,1,2,3,4,5,6,7,8,9,10,11,12] [.low,.low,.low,.low,.low,.low,.low,.plain,.plain,.plain,.pass,.bar,.plain] [] (by kernel_rfl) rfl ?_
   refine zS ?_
   refine zO ?_
   first | refine PCallA.of (fun _ _=>Zjh hy130) ?_ | refine PCall.of (Zjh hy130) ?_
   refine zS ?_
   refine zO ?_
   first | refine PCallA.of (fun _ _=>K4 hy131) ?_ | refine PCall.of (K4 hy131) ?_
   refine zS ?_
   refine zO ?_
   refine zDs [3,4,6,11,12,13,62,63,64] [false,true,true,false,false,true,false,false,false,true,false,true,true] ?_
   refine Zg ?_
   obtain ⟨y133,hy133,hs1_⟩:=bC hs1_
   refine zRo [none,none] ?_
   refine zG ?_
   refine zTs (Zgf hy133) ?_
   refine zG ?_
   refine zD [3,4,6,11,12,62,63,64,84] [false,true,true,false,false,true,false,false,false,true,false,true,true] ?_
   refine Zq (t:=(cond y133 true (!y131.2))) rfl (fun c135 => ?_) (fun c135 => ?_)
   ·replace hs1_:=Zp c135 hs1_
    refine Zg ?_
    refine zRd [4,5] [false,false,true,false,false,false,false,false,false,false,false,false,false] ?_
    refine zW ?_
    exact zEy hs1_
   replace hs1_:=Zo c135 hs1_
   refine Q7 [3,4,6,11,12,62,63,64] [false,true,true,false,false,true,false,false,false,true,false,true,true] ?_
   obtain ⟨y134,hy134,hs1_⟩:=bC hs1_
   refine zR ?_
   refine (Zsw (i0:=(n+5)) (j0_0:=(n+9)) (by omega) (by omega) (by omega) (by simp only [push_cast,seval,↓reduceIte,Zk,Xn,hN0,hN] <;> rfl) (by simp only [push_cast,seval,↓reduceIte,Zk,Xn,hN0,hN] <;> rfl) hy134).then ?_
   refine zS ?_
   refine zD [3,4,6,62,63,64] [false,true,true,false,false,true,false,false,false,false,false,false,false,true] ?_
   refine zR ?_
   have hs1_:=Option.some.inj hs1_;subst hs1_
   refine And.intro rfl ?_
   refine Fit2.trans (E':=(⟨92,[],[(3,.ref (n+1) 0),(4,.ref (n+2) 0),(6,.ref (n+5) 0),(62,(sL Zi a0.Kids)),(63,(vI (a0.Kids.length:Int))),(64,(vI (IntKind.i64.wrap (s1_.1+1))))]⟩:Env)) (O':=(Zv O n [none,some ⟨false,25,3,1,(Zd a1)⟩,some ⟨false,25,3,1,[(vI 0),nV,nV]⟩,none,none,some ⟨false,25,3,1,[(vI y134.Kind),(sL (eI .u64) y134.Words),.row (n+13) y134.Kids.length]⟩,none,none,none,none,none,none,none,some (oR 25 3 Za y134.Kids)])) (n':=(n+14)) (Fit2.of (Ys hU rfl rfl ?_) (by omega)) ?_
   ·exact zSe
   refine Kh (k:=14) (k':=11) hU [10,1,2,10,10,5,10,10,10,10,10,10,10,9] [0,1,2,0,0,5,0,0,0,13,0] rfl rfl rfl rfl ⟨rfl,rfl⟩ ?_
   exact zSe
  replace hs1_:=Zo c136 hs1_
  exact zEx hs1_
 rcases z137 with z137 | z137
 ·dsimp only [Xl] at hw h
  refine Qy hw ?_
  try simp only [Y2,Z7,↓reduceIte,Nat.reduceEqDiff]
  exact Zhq [.agg [(vI 0),nV,nV],(vB false)]
 dsimp only [Xl] at hw h
 refine Yz hw ?_
 try simp only [Y2,Z7,↓reduceIte,Nat.reduceEqDiff]
 refine zDs [4,6] [false,false,true,false,false,true,false,false,false,true,false] ?_
 refine zRd [4,5] [false,false,true,false,false,false,false,false,false,true,false] ?_
 exact Yn [.agg [(vI z137.1),(sL (eI .u64) z137.2.1),.row (n+9) z137.2.2.length],(vB true)]
theorem Zu9 {Y7:(Zc→Zb→Option (Zb×Bool))} {Yd:(Zc→Zb→Option (Zb×Bool))} {Xg:(Zc→Zb→Option (Zb×Bool))} {Z3:(Zh→Zj→Option (Bool×Zh))} {Z0:(Zh→Zc→Option (Bool×Zh))} (K4:Gn Y7) (V3:Kb Yd) (Zb2:Gp Xg) (Kx:Q6 Z3) (Q8:Qj Z0) {a0:Zc} {a1:Zb} {r:(Zb×Bool)} {O:Objs} {n:Nat} (h:Zdu Y7 Yd Xg Z3 Z0 a0 a1=some r):GTo Try.prog 72 [.agg (Zf a0),.agg (Zd a1)] O n (.tup [.agg (Zd r.1),(vB r.2)]) O n:=by
 unfold Zdu at h
 refine zFn Try.call72 Try.func72 fun hU hN0 hN => ?_
 show W _ _ _ _ ⟨45,[],[(0,.agg (Zf a0)),(1,.agg (Zd a1))]⟩ (Zv O n []) _
 refine zQ [2,3,4] ?_
 refine Zg ?_
 obtain ⟨z2,hz2,h⟩:=bC h
 refine Y1 (E':=⟨45,[],[(2,.ref n 0),(3,.ref (n+1) 0),(4,.ref (n+2) 0),(19,(vB z2))]⟩) (O':=(Zv O n [some ⟨false,30,11,1,(Zf a0)⟩,some ⟨false,25,3,1,(Zd a1)⟩,some ⟨false,25,3,1,[(vI 0),nV,nV]⟩])) (n0:=(n+3)) ?_ ?_
 ·rcases Bool.eq_false_or_eq_true (a1.Kind != a0.List_) with c5 | c5
  ·replace hz2:=Zp c5 hz2
   refine Jl [some false,some false,some false,some false] c5 ?_
   exact Qx hz2 c5
  replace hz2:=Zo c5 hz2
  obtain ⟨y4,hy4,hz2⟩:=bC hz2
  refine Jl [some true,some true,some true,some true] c5 ?_
  refine (Zfn hy4).then ?_
  refine zX1 c5 ?_
  exact Qx hz2 c5
 refine Zq (t:=z2) rfl (fun c13 => ?_) (fun c13 => ?_)
 ·replace h:=Zp c13 h
  refine Zg ?_
  refine zRd [4,5] [false,false,true] ?_
  exact Yn [.agg [(vI 0),nV,nV],(vB false)]
 replace h:=Zo c13 h
 refine Q7 [2,3,4] [true,true,true] ?_
 refine Zg ?_
 refine zRd [2,3,4,6] [true,true,true,true] ?_
 refine Zg ?_
 refine zQd [3,4,6,25,26,27] [3,4,6,25,26,27] [false,true,true,true] ?_
 refine Kq (E':=(⟨45,[],[(3,.ref (n+1) 0),(4,.ref (n+2) 0),(6,.ref (n+3) 0),(25,(sL Ze a0.Ops)),(26,(vI (a0.Ops.length:Int))),(27,(vI 0))]⟩:Env)) (O':=(Zv O n [none,some ⟨false,25,3,1,(Zd a1)⟩,some ⟨false,25,3,1,[(vI 0),nV,nV]⟩,some ⟨false,125,2,1,[(sL Za a1.Kids),.row (n+4) ([]:List Zb).length]⟩,some (oR 25 3 Za ([]:List Zb)),none])) (n':=(n+6)) ?_ ?_
 ·refine Fit2.trans (E':=(⟨45,[],[(3,.ref (n+1) 0),(4,.ref (n+2) 0),(6,.ref (n+3) 0),(25,(sL Ze a0.Ops)),(26,(vI (a0.Ops.length:Int))),(27,(vI 0))]⟩:Env)) (O':=(Zv O n [none,some ⟨false,25,3,1,(Zd a1)⟩,some ⟨false,25,3,1,[(vI 0),nV,nV]⟩,some ⟨false,125,2,1,[(sL Za a1.Kids),nV]⟩])) (n':=(n+4)) (Fit2.of (Ys hU rfl rfl ?_) (by omega)) ?_
  ·exact zSe
  refine Fit2.trans (Zbd (p:=(n+3)) (k:=1) (q:=⟨false,125,2,1,[(sL Za a1.Kids),nV]⟩) 25 3 (by simp only [Zah,Zeh,List.getElem?_cons_zero,List.getElem?_cons_succ,Option.join_some,List.length_nil,Yj]) rfl (by omega)) ?_
  simp only [Xk,Y3,Zbc,Gu,List.set_cons_zero,List.set_cons_succ,List.cons_append,List.nil_append,List.length_cons,List.length_nil,Nat.zero_add,Nat.reduceAdd,Nat.reduceLT,Nat.add_assoc]
  refine Kh (k:=5) (k':=6) hU [5,1,2,3,4] [0,1,2,3,4,0] rfl rfl rfl rfl ⟨rfl,rfl⟩ ?_
  exact zSe
 obtain ⟨z12,hz12,h⟩:=bC h
 refine Ux (J:=(Xl (fun z12=>JR n (⟨45,[],[(4,.ref (n+2) 0),(5,(vB false))]⟩:Env) (Zv O n [none,none,some ⟨false,25,3,1,[(vI 0),nV,nV]⟩,none]) (n+4)) (fun z12=>JX 0 n (⟨45,[],[(3,.ref (n+1) 0),(4,.ref (n+2) 0),(6,.ref (n+3) 0)]⟩:Env) (Zv O n [none,some ⟨false,25,3,1,(Zd a1)⟩,some ⟨false,25,3,1,[(vI 0),nV,nV]⟩,some ⟨false,125,2,1,[(sL Za z12.1),.row (n+4) z12.2.length]⟩,some (oR 25 3 Za z12.2),none]) (n+6)))) (z:=z12) ?_ fun hw => ?_
 ·refine Xe hz12 (fun s0_=>⟨45,[],[(3,.ref (n+1) 0),(4,.ref (n+2) 0),(6,.ref (n+3) 0),(25,(sL Ze a0.Ops)),(26,(vI (a0.Ops.length:Int))),(27,(vI s0_.1))]⟩) (fun s0_=>(Zv O n [none,some ⟨false,25,3,1,(Zd a1)⟩,some ⟨false,25,3,1,[(vI 0),nV,nV]⟩,some ⟨false,125,2,1,[(sL Za s0_.2.1),.row (n+4) s0_.2.2.length]⟩,some (oR 25 3 Za s0_.2.2),none])) (Xl (fun z12=>JR n (⟨45,[],[(4,.ref (n+2) 0),(5,(vB false))]⟩:Env) (Zv O n [none,none,some ⟨false,25,3,1,[(vI 0),nV,nV]⟩,none]) (n+4)) (fun z12=>JX 0 n (⟨45,[],[(3,.ref (n+1) 0),(4,.ref (n+2) 0),(6,.ref (n+3) 0)]⟩:Env) (Zv O n [none,some ⟨false,25,3,1,(Zd a1)⟩,some ⟨false,25,3,1,[(vI 0),nV,nV]⟩,some ⟨false,125,2,1,[(sL Za z12.1),.row (n+4) z12.2.length]⟩,some (oR 25 3 Za z12.2),none]) (n+6))) ?_
  intro s0_ x0_ hs0_
  unfold K3 at hs0_
  try dsimp only
  refine zQ [3,4,6,25,26,27,28] ?_
  refine Zg ?_
  refine Zq (t:=(decide (s0_.1 < (a0.Ops.length:Int)))) rfl (fun c11 => ?_) (fun c11 => ?_)
  ·replace hs0_:=Zp c11 hs0_
   refine Q7 [3,4,6,25,26,27] [false,true,true,true,true,false] ?_
   refine Zg ?_
   refine Yg ?_
   refine Zg ?_
   obtain ⟨x7,hx7,ax7,bx7,cx7,hs0_⟩:=bE (f:=Ze) Zfv (fun _=>rfl) (by decide) hs0_
   refine Zao [] ax7 bx7 cx7 ?_
   refine zDs [3,4,6,8,25,26,27] [false,true,true,true,true,false,true] ?_
   obtain ⟨y9,hy9,hs0_⟩:=bC hs0_
   refine zR ?_
   refine (Kx (i0:=(n+3)) (j0_0:=(n+4)) (by omega) (by omega) (by omega) (by simp only [push_cast,seval,↓reduceIte,Zk,Xn,hN0,hN] <;> rfl) (by simp only [push_cast,seval,↓reduceIte,Zk,Xn,hN0,hN] <;> rfl) hy9).then ?_
   refine zS ?_
   refine zD [3,4,6,25,26,27,33] [false,true,true,true,false,false,false,true] ?_
   refine Zq (t:=(!y9.1)) rfl (fun c10 => ?_) (fun c10 => ?_)
   ·replace hs0_:=Zp c10 hs0_
    refine Zg ?_
    refine zRd [4,5] [false,false,true,false,false,false,false,false] ?_
    refine zW ?_
    exact zEy hs0_
   replace hs0_:=Zo c10 hs0_
   refine Q7 [3,4,6,25,26,27] [false,true,true,true,false,false,false,true] ?_
   refine zR ?_
   have hs0_:=Option.some.inj hs0_;subst hs0_
   refine And.intro rfl ?_
   refine Fit2.trans (E':=(⟨45,[],[(3,.ref (n+1) 0),(4,.ref (n+2) 0),(6,.ref (n+3) 0),(25,(sL Ze a0.Ops)),(26,(vI (a0.Ops.length:Int))),(27,(vI (IntKind.i64.wrap (s0_.1+1))))]⟩:Env)) (O':=(Zv O n [none,some ⟨false,25,3,1,(Zd a1)⟩,some ⟨false,25,3,1,[(vI 0),nV,nV]⟩,some ⟨false,125,2,1,[(sL Za y9.2.left),.row (n+7) y9.2.out.length]⟩,none,none,none,some (oR 25 3 Za y9.2.out)])) (n':=(n+8)) (Fit2.of (Ys hU rfl rfl ?_) (by omega)) ?_
   ·exact zSe
   refine Kh (k:=8) (k':=6) hU [5,1,2,3,5,5,5,4] [0,1,2,3,7,0] rfl rfl rfl rfl ⟨rfl,rfl⟩ ?_
   exact zSe
  replace hs0_:=Zo c11 hs0_
  exact zEx hs0_
 rcases z12 with z12 | z12
 ·dsimp only [Xl] at hw h
  refine Qy hw ?_
  try simp only [Y2,Z7,↓reduceIte,Nat.reduceEqDiff]
  exact Zhq [.agg [(vI 0),nV,nV],(vB false)]
 dsimp only [Xl] at hw h
 refine Yz hw ?_
 try simp only [Y2,Z7,↓reduceIte,Nat.reduceEqDiff]
 refine zDs [3,4,6] [false,true,true,true,true,false] ?_
 refine Vs Z4 (by kernel_rfl) [.plain,.plain,.plain,.plain,.plain,.low,.low,.low,.low,.pass,.plain] (fun i=>i≠n+2) [0,1,2,3,4,5,6,7,8,9,10] [.plain,.plain,.plain,.plain,.plain,.low,.low,.low,.low,.pass,.plain] [] (by kernel_rfl) rfl ?_
 refine zS ?_
 refine zO ?_
 refine zD [4,5] [false,false,true,false,true,false] ?_
 exact Yn [.agg [(vI a1.Kind),nV,.row (n+4) z12.2.length],(vB ((z12.1.length:Int) == 0))]
theorem Zlr {Y7:(Zc→Zb→Option (Zb×Bool))} {Yd:(Zc→Zb→Option (Zb×Bool))} {Xg:(Zc→Zb→Option (Zb×Bool))} {Z3:(Zh→Zj→Option (Bool×Zh))} {Z0:(Zh→Zc→Option (Bool×Zh))} (K4:Gn Y7) (V3:Kb Yd) (Zb2:Gp Xg) (Kx:Q6 Z3) (Q8:Qj Z0) {a0:Zh} {a1:Zj} {r:(Bool×Zh)} {O:Objs} {n:Nat} {i0 j0_0:Nat} (hi0:i0 < n) (Ut:j0_0 < n) (Jr:i0≠j0_0) (ho0:O i0=some ⟨false,125,2,1,[(sL Za a0.left),.row j0_0 a0.out.length]⟩) (U9:O j0_0=some (oR 25 3 Za a0.out)) (h:Ul Y7 Yd Xg Z3 Z0 a0 a1=some r):GTo Try.prog 109 [.ref i0 0,.agg (Y6 a1)] O n ((vB r.1)) (Zv ((O.upd j0_0 none).upd i0 (some ⟨false,125,2,1,[(sL Za r.2.left),.row n r.2.out.length]⟩)) n [some (oR 25 3 Za r.2.out)]) (n+1):=by
 unfold Ul at h
 refine Zl1 Z4 Try.call109 Try.func109 rfl (Nat.le_of_ble_eq_true rfl) (by omega) fun hU => ?_
 have e0:=Kf (ba:=n) (E:=⟨99,[],Zfd 0 [.ref i0 0,.agg [.val (.int .i64 a1.Kind),.val (.int .i64 a1.N),.sl a1.L.length (fl Za a1.L),.val (.int .i64 a1.E.Kind),.val (.int .i64 a1.E.Old.Kind),.sl a1.E.Old.Words.length (fl (eI .u64) a1.E.Old.Words),.sl a1.E.Old.Kids.length (fl Za a1.E.Old.Kids),.val (.int .i64 a1.E.New.Kind),.sl a1.E.New.Words.length (fl (eI .u64) a1.E.New.Words),.sl a1.E.New.Kids.length (fl Za a1.E.New.Kids),.sl a1.E.Words.length (fl Zm a1.E.Words),.sl a1.E.Kids.length (fl Zi a1.E.Kids),.val (.int .i64 a1.E.List_),.sl a1.E.Ops.length (fl Ze a1.E.Ops)]]⟩) (O:=(Zv O n [])) (n:=n) (i:=i0) (j:=j0_0) (k:=1) (len:=a0.out.length) (q:=⟨false,125,2,1,[.sl a0.left.length (fl Za a0.left),.row j0_0 a0.out.length]⟩) (qj:=⟨true,25,3,a0.out.length,fl Za a0.out⟩) (by rw [Yr _ hi0];first | exact ho0 | exact Yj _ _ _) rfl (by rw [Yr _ Ut];exact U9) Jr (by omega)
 simp only [Yy _ _ Ut,Yy _ _ hi0,Xk,Y3,Qn,Za4 Jr,List.set_cons_zero,List.set_cons_succ,List.cons_append,List.nil_append,List.length_cons,List.length_nil,Nat.zero_add,Nat.reduceAdd,Nat.add_assoc] at e0
 refine Kq e0 ?_
 have hU:=(Und.drop hU j0_0)
 have hk0:∀ k,i0 < n+k:=fun k=>by omega
 have hN0:∀ o,Objs.upd (O.upd j0_0 none) i0 o n=none:=fun o=>Jq hU hi0 _ (Nat.le_refl _)
 have hN:∀ o k,Objs.upd (O.upd j0_0 none) i0 o (n+k)=none:=fun o k=>Jq hU hi0 _ (Nat.le_add_right _ _)
 show W _ _ _ _ ⟨99,[],[(0,.ref i0 0),(1,.agg (Y6 a1))]⟩ (Zv ((O.upd j0_0 none).upd i0 (some ⟨false,125,2,1,[(sL Za a0.left),.row n a0.out.length]⟩)) n [some (oR 25 3 Za a0.out)]) _
 refine Zex [0,3] hi0 hk0 ?_
 refine Zg ?_
 refine Zex [0,3,7] hi0 hk0 ?_
 refine Yg ?_
 refine Zex [0,3,7,8] hi0 hk0 ?_
 refine Zq (t:=(a1.Kind == 0)) rfl (fun c28 => ?_) (fun c28 => ?_)
 ·replace h:=Zp c28 h
  refine Zg ?_
  obtain ⟨z1,hz1,h⟩:=bC h
  refine Y1 (E':=⟨99,[],[(0,.ref i0 0),(3,.ref (n+1) 0),(22,(vB z1))]⟩) (O':=(Zv ((O.upd j0_0 none).upd i0 (some ⟨false,125,2,1,[(sL Za a0.left),.row n a0.out.length]⟩)) n [some (oR 25 3 Za a0.out),some ⟨false,75,14,1,(Y6 a1)⟩])) (n0:=(n+2)) ?_ ?_
  ·rcases Bool.eq_false_or_eq_true (decide (a1.N < 0)) with c2 | c2
   ·replace hz1:=Zp c2 hz1
    refine K7 Z4 (by kernel_rfl) [some false,some false,some false,some false,some false,some false,some false,some false] (by kernel_rfl) ?_
    refine zX3 c2 hi0 hk0 ?_
    have hz1:=Option.some.inj hz1;subst hz1
    refine And.intro rfl (Fit2.of (Yp hU rfl rfl ?_) (by omega))
    exact Z2m c2 hi0 hk0
   replace hz1:=Zo c2 hz1
   refine K7 Z4 (by kernel_rfl) [some true,some true,some true,some true,some true,some true,some true,some true] (by kernel_rfl) ?_
   refine zX3 c2 hi0 hk0 ?_
   have hz1:=Option.some.inj hz1;subst hz1
   refine And.intro rfl (Fit2.of (Yp hU rfl rfl ?_) (by omega))
   exact Z2m c2 hi0 hk0
  refine Zq (t:=z1) rfl (fun c9 => ?_) (fun c9 => ?_)
  ·replace h:=Zp c9 h
   refine Zex [4] hi0 hk0 ?_
   refine zW ?_
   have h:=Option.some.inj h;subst h
   refine Ks (k:=1) (i:=i0) (q1:=⟨false,125,2,1,[(sL Za a0.left),.row n a0.out.length]⟩) (L3:=[some (oR 25 3 Za a0.out),none]) (E2:=(⟨99,[],[(4,(vB false))]⟩:Env)) (n3:=(n+2)) (.inr rfl) hU rfl [(vB false)] ?_ ?_
   ·refine Fit2.trans (E':=(⟨99,[],[(4,(vB false))]⟩:Env)) (O':=(Zv ((O.upd j0_0 none).upd i0 (some ⟨false,125,2,1,[(sL Za a0.left),.row n a0.out.length]⟩)) n [some (oR 25 3 Za a0.out),none])) (n':=(n+2)) (Fit2.of (Yp hU rfl rfl ?_) (by omega)) ?_
    ·exact Q9 hi0 hk0
    refine Qm (k:=2) (k':=2) hU [0,1] [0,0] rfl rfl rfl rfl ⟨rfl,rfl⟩ ?_
    exact Q9 hi0 hk0
   simp only [push_cast,seval,↓reduceIte,Zk,Try.results109,hi0,hk0,hN0,hN]
  replace h:=Zo c9 h
  refine Q7 [0,3] [true,true] ?_
  refine Zg ?_
  obtain ⟨l5,al5,bl5,cl5,gl5,h⟩:=bS (lo:=none) (hi:=(some (.i64,a1.N))) (f:=Za) rfl rfl Zfw V5 (fun _=>rfl) h
  obtain ⟨l6,pl6,ql6,el6,h⟩:=bA (k:=l5.length) rfl h
  refine Vs Z4 (by kernel_rfl) [.plain,.plain,.plain,.plain,.plain,.plain,.plain,.plain,.plain,.plain,.plain,.plain,.pass,.plain,.plain,.bar] (fun i=>i≠n+0) [0,1,2,3,4,5,6,7,8,9,10,11,12,13,14,15] [.plain,.plain,.plain,.plain,.plain,.plain,.plain,.plain,.plain,.plain,.plain,.plain,.pass,.plain,.plain,.bar] [] (by kernel_rfl) rfl ?_
  simp only [push_cast,seval,↓reduceIte,Zk,al5,bl5,cl5,gl5,pl6,ql6,el6,hi0,hk0,hN0,hN]
  refine zO ?_
  refine Zea ⟨99,[],[(0,.ref i0 0),(3,.ref (n+1) 0)]⟩ (Zv ((O.upd j0_0 none).upd i0 (some ⟨false,125,2,1,[(sL Za a0.left),.row n l6.length]⟩)) n [some (oR 25 3 Za l6),some ⟨false,75,14,1,(Y6 a1)⟩]) (Yp hU rfl rfl ?_) ?_
  ·simp only [push_cast,seval,↓reduceIte,Zk,al5,bl5,cl5,gl5,pl6,ql6,el6,hi0,hk0,hN0,hN]
  refine Zg ?_
  obtain ⟨l8,al8,bl8,cl8,gl8,h⟩:=bS (lo:=(some (.i64,a1.N))) (hi:=none) (f:=Za) rfl rfl Zfw V5 (fun _=>rfl) h
  refine Zhx Z4 (by kernel_rfl) [false,false,false,false,false,false,false,false,false,false,true] [] (by kernel_rfl) ?_
  refine zX6 al8 bl8 cl8 gl8 hi0 hk0 ?_
  refine zD [] [true,false] ?_
  refine Zex [4] hi0 hk0 ?_
  refine zW ?_
  have h:=Option.some.inj h;subst h
  refine Ks (k:=1) (i:=i0) (q1:=⟨false,125,2,1,[(sL Za l8),.row n l6.length]⟩) (L3:=[some (oR 25 3 Za l6),none]) (E2:=(⟨99,[],[(4,(vB true))]⟩:Env)) (n3:=(n+2)) (.inr rfl) hU rfl [(vB true)] ?_ ?_
  ·refine Fit2.trans (E':=(⟨99,[],[(4,(vB true))]⟩:Env)) (O':=(Zv ((O.upd j0_0 none).upd i0 (some ⟨false,125,2,1,[(sL Za l8),.row n l6.length]⟩)) n [some (oR 25 3 Za l6),none])) (n':=(n+2)) (Fit2.of (Yp hU rfl rfl ?_) (by omega)) ?_
   ·exact Q9 hi0 hk0
   refine Qm (k:=2) (k':=2) hU [0,1] [0,0] rfl rfl rfl rfl ⟨rfl,rfl⟩ ?_
   exact Q9 hi0 hk0
  simp only [push_cast,seval,↓reduceIte,Zk,Try.results109,hi0,hk0,hN0,hN]
 replace h:=Zo c28 h
 refine Zex [0,3,7,48] hi0 hk0 ?_
 refine Zq (t:=(a1.Kind == 1)) rfl (fun c27 => ?_) (fun c27 => ?_)
 ·replace h:=Zp c27 h
  refine Zex [0,3,5] hi0 hk0 ?_
  refine Zg ?_
  obtain ⟨z12,hz12,h⟩:=bC h
  refine Y1 (E':=⟨99,[],[(0,.ref i0 0),(5,(vI (a1.L.length:Int))),(71,(vB z12))]⟩) (O':=(Zv ((O.upd j0_0 none).upd i0 (some ⟨false,125,2,1,[(sL Za a0.left),.row n a0.out.length]⟩)) n [some (oR 25 3 Za a0.out),none])) (n0:=(n+2)) ?_ ?_
  ·rcases Bool.eq_false_or_eq_true (decide ((a0.left.length:Int) < (a1.L.length:Int))) with c17 | c17
   ·replace hz12:=Zp c17 hz12
    refine K7 Z4 (by kernel_rfl) [some false,some false,some false,some false,some false,some false,some false,some false,some false,some false] (by kernel_rfl) ?_
    refine zX3 c17 hi0 hk0 ?_
    have hz12:=Option.some.inj hz12;subst hz12
    refine And.intro rfl (Fit2.of (Yp hU rfl rfl ?_) (by omega))
    exact Z2m c17 hi0 hk0
   replace hz12:=Zo c17 hz12
   obtain ⟨l15,al15,bl15,cl15,gl15,hz12⟩:=bS (lo:=none) (hi:=(some (.i64,(a1.L.length:Int)))) (f:=Za) rfl rfl Zfw V5 (fun _=>rfl) hz12
   obtain ⟨y16,hy16,hz12⟩:=bC hz12
   refine K7 Z4 (by kernel_rfl) [some true,some true,some true,some true,some true,some true,some true,some true,some true,some true] (by kernel_rfl) ?_
   simp only [push_cast,seval,↓reduceIte,Zk,c17,al15,bl15,cl15,gl15,hi0,hk0,hN0,hN]
   refine PCall.of (Vd hy16) ?_
   simp only [push_cast,seval,↓reduceIte,Zk,c17,al15,bl15,cl15,gl15,hi0,hk0,hN0,hN]
   have hz12:=Option.some.inj hz12;subst hz12
   refine And.intro rfl (Fit2.of (Yp hU rfl rfl ?_) (by omega))
   simp only [push_cast,seval,↓reduceIte,Zk,c17,al15,bl15,cl15,gl15,hi0,hk0,hN0,hN]
  refine Zq (t:=z12) rfl (fun c20 => ?_) (fun c20 => ?_)
  ·replace h:=Zp c20 h
   refine Zex [4] hi0 hk0 ?_
   refine zW ?_
   have h:=Option.some.inj h;subst h
   refine Ks (k:=1) (i:=i0) (q1:=⟨false,125,2,1,[(sL Za a0.left),.row n a0.out.length]⟩) (L3:=[some (oR 25 3 Za a0.out),none]) (E2:=(⟨99,[],[(4,(vB false))]⟩:Env)) (n3:=(n+2)) (.inr rfl) hU rfl [(vB false)] ?_ ?_
   ·refine Fit2.trans (E':=(⟨99,[],[(4,(vB false))]⟩:Env)) (O':=(Zv ((O.upd j0_0 none).upd i0 (some ⟨false,125,2,1,[(sL Za a0.left),.row n a0.out.length]⟩)) n [some (oR 25 3 Za a0.out),none])) (n':=(n+2)) (Fit2.of (Yp hU rfl rfl ?_) (by omega)) ?_
    ·exact Q9 hi0 hk0
    refine Qm (k:=2) (k':=2) hU [0,1] [0,0] rfl rfl rfl rfl ⟨rfl,rfl⟩ ?_
    exact Q9 hi0 hk0
   simp only [push_cast,seval,↓reduceIte,Zk,Try.results109,hi0,hk0,hN0,hN]
  replace h:=Zo c20 h
  refine Q7 [0,5] [true,false] ?_
  refine Zg ?_
  obtain ⟨l19,al19,bl19,cl19,gl19,h⟩:=bS (lo:=(some (.i64,(a1.L.length:Int)))) (hi:=none) (f:=Za) rfl rfl Zfw V5 (fun _=>rfl) h
  refine Z8g [] al19 bl19 cl19 gl19 hi0 hk0 ?_
  refine zD [] [true,false] ?_
  refine Zex [4] hi0 hk0 ?_
  refine zW ?_
  have h:=Option.some.inj h;subst h
  refine Ks (k:=1) (i:=i0) (q1:=⟨false,125,2,1,[(sL Za l19),.row n a0.out.length]⟩) (L3:=[some (oR 25 3 Za a0.out),none]) (E2:=(⟨99,[],[(4,(vB true))]⟩:Env)) (n3:=(n+2)) (.inr rfl) hU rfl [(vB true)] ?_ ?_
  ·refine Fit2.trans (E':=(⟨99,[],[(4,(vB true))]⟩:Env)) (O':=(Zv ((O.upd j0_0 none).upd i0 (some ⟨false,125,2,1,[(sL Za l19),.row n a0.out.length]⟩)) n [some (oR 25 3 Za a0.out),none])) (n':=(n+2)) (Fit2.of (Yp hU rfl rfl ?_) (by omega)) ?_
   ·exact Q9 hi0 hk0
   refine Qm (k:=2) (k':=2) hU [0,1] [0,0] rfl rfl rfl rfl ⟨rfl,rfl⟩ ?_
   exact Q9 hi0 hk0
  simp only [push_cast,seval,↓reduceIte,Zk,Try.results109,hi0,hk0,hN0,hN]
 replace h:=Zo c27 h
 refine Zex [0,3,7,81] hi0 hk0 ?_
 refine Zq (t:=(a1.Kind == 2)) rfl (fun c26 => ?_) (fun c26 => ?_)
 ·replace h:=Zp c26 h
  refine Zg ?_
  obtain ⟨l22,pl22,ql22,el22,h⟩:=bA (k:=a1.L.length) rfl h
  refine Vs Z4 (by kernel_rfl) [.plain,.plain,.plain,.plain,.plain,.plain,.plain,.pass,.plain,.plain,.bar] (fun i=>i≠n+0) [0,1,2,3,4,5,6,7,8,9,10] [.plain,.plain,.plain,.plain,.plain,.plain,.plain,.pass,.plain,.plain,.bar] [] (by kernel_rfl) rfl ?_
  refine zX5 pl22 ql22 el22 hi0 hk0 ?_
  refine zO ?_
  refine Zea ⟨99,[],[]⟩ (Zv ((O.upd j0_0 none).upd i0 (some ⟨false,125,2,1,[(sL Za a0.left),.row n l22.length]⟩)) n [some (oR 25 3 Za l22),none]) (Yp hU rfl rfl ?_) ?_
  ·exact Yhx pl22 ql22 el22 hi0 hk0
  refine Zex [4] hi0 hk0 ?_
  refine zW ?_
  have h:=Option.some.inj h;subst h
  refine Ks (k:=1) (i:=i0) (q1:=⟨false,125,2,1,[(sL Za a0.left),.row n l22.length]⟩) (L3:=[some (oR 25 3 Za l22),none]) (E2:=(⟨99,[],[(4,(vB true))]⟩:Env)) (n3:=(n+2)) (.inr rfl) hU rfl [(vB true)] ?_ ?_
  ·refine Fit2.trans (E':=(⟨99,[],[(4,(vB true))]⟩:Env)) (O':=(Zv ((O.upd j0_0 none).upd i0 (some ⟨false,125,2,1,[(sL Za a0.left),.row n l22.length]⟩)) n [some (oR 25 3 Za l22),none])) (n':=(n+2)) (Fit2.of (Yp hU rfl rfl ?_) (by omega)) ?_
   ·exact Q9 hi0 hk0
   refine Qm (k:=2) (k':=2) hU [0,1] [0,0] rfl rfl rfl rfl ⟨rfl,rfl⟩ ?_
   exact Q9 hi0 hk0
  simp only [push_cast,seval,↓reduceIte,Zk,Try.results109,hi0,hk0,hN0,hN]
 replace h:=Zo c26 h
 refine Zex [0,3,93] hi0 hk0 ?_
 refine Zq (t:=(a1.Kind == 3)) rfl (fun c25 => ?_) (fun c25 => ?_)
 ·replace h:=Zp c25 h
  refine Zg ?_
  obtain ⟨y24,hy24,h⟩:=bC h
  refine Ju [] hi0 hk0 ?_
  refine (Q8 (i0:=i0) (j0_0:=n) (by omega) (by omega) (by omega) (by simp only [push_cast,seval,↓reduceIte,Zk,Xn,hi0,hk0,hN0,hN] <;> rfl) (by simp only [push_cast,seval,↓reduceIte,Zk,Xn,hi0,hk0,hN0,hN] <;> rfl) hy24).then ?_
  refine zX2 hi0 hk0 ?_
  refine zD [4] [false,false,true] ?_
  refine zW ?_
  have h:=Option.some.inj h;subst h
  refine Ks (k:=1) (i:=i0) (q1:=⟨false,125,2,1,[(sL Za y24.2.left),.row n y24.2.out.length]⟩) (L3:=[some (oR 25 3 Za y24.2.out),none]) (E2:=(⟨99,[],[(4,(vB y24.1))]⟩:Env)) (n3:=(n+2)) (.inr rfl) hU rfl [(vB y24.1)] ?_ ?_
  ·refine Fit2.trans (E':=(⟨99,[],[(4,(vB y24.1))]⟩:Env)) (O':=(Zv ((O.upd j0_0 none).upd i0 (some ⟨false,125,2,1,[(sL Za y24.2.left),.row (n+2) y24.2.out.length]⟩)) n [none,none,some (oR 25 3 Za y24.2.out)])) (n':=(n+3)) (Fit2.of (Yp hU rfl rfl ?_) (by omega)) ?_
   ·exact Q9 hi0 hk0
   refine Qm (k:=3) (k':=2) hU [1,1,0] [2,0] rfl rfl rfl rfl ⟨rfl,rfl⟩ ?_
   exact Q9 hi0 hk0
  simp only [push_cast,seval,↓reduceIte,Zk,Try.results109,hi0,hk0,hN0,hN]
 replace h:=Zo c25 h
 refine Q7 [] [true,false] ?_
 refine Zex [4] hi0 hk0 ?_
 refine zW ?_
 have h:=Option.some.inj h;subst h
 refine Ks (k:=1) (i:=i0) (q1:=⟨false,125,2,1,[(sL Za a0.left),.row n a0.out.length]⟩) (L3:=[some (oR 25 3 Za a0.out),none]) (E2:=(⟨99,[],[(4,(vB false))]⟩:Env)) (n3:=(n+2)) (.inr rfl) hU rfl [(vB false)] ?_ ?_
 ·refine Fit2.trans (E':=(⟨99,[],[(4,(vB false))]⟩:Env)) (O':=(Zv ((O.upd j0_0 none).upd i0 (some ⟨false,125,2,1,[(sL Za a0.left),.row n a0.out.length]⟩)) n [some (oR 25 3 Za a0.out),none])) (n':=(n+2)) (Fit2.of (Yp hU rfl rfl ?_) (by omega)) ?_
  ·exact Q9 hi0 hk0
  refine Qm (k:=2) (k':=2) hU [0,1] [0,0] rfl rfl rfl rfl ⟨rfl,rfl⟩ ?_
  exact Q9 hi0 hk0
 simp only [push_cast,seval,↓reduceIte,Zk,Try.results109,hi0,hk0,hN0,hN]
theorem Zjt {Y7:(Zc→Zb→Option (Zb×Bool))} {Yd:(Zc→Zb→Option (Zb×Bool))} {Xg:(Zc→Zb→Option (Zb×Bool))} {Z3:(Zh→Zj→Option (Bool×Zh))} {Z0:(Zh→Zc→Option (Bool×Zh))} (K4:Gn Y7) (V3:Kb Yd) (Zb2:Gp Xg) (Kx:Q6 Z3) (Q8:Qj Z0) {a0:Zh} {a1:Zc} {r:(Bool×Zh)} {O:Objs} {n:Nat} {i0 j0_0:Nat} (hi0:i0 < n) (Ut:j0_0 < n) (Jr:i0≠j0_0) (ho0:O i0=some ⟨false,125,2,1,[(sL Za a0.left),.row j0_0 a0.out.length]⟩) (U9:O j0_0=some (oR 25 3 Za a0.out)) (h:Kr Y7 Yd Xg Z3 Z0 a0 a1=some r):GTo Try.prog 139 [.ref i0 0,.agg (Zf a1)] O n ((vB r.1)) (Zv ((O.upd j0_0 none).upd i0 (some ⟨false,125,2,1,[(sL Za r.2.left),.row n r.2.out.length]⟩)) n [some (oR 25 3 Za r.2.out)]) (n+1):=by
 unfold Kr at h
 refine Zl1 Z4 Try.call139 Try.func139 rfl (Nat.le_of_ble_eq_true rfl) (by omega) fun hU => ?_
 have e0:=Kf (ba:=n) (E:=⟨44,[],Zfd 0 [.ref i0 0,.agg [.val (.int .i64 a1.Kind),.val (.int .i64 a1.Old.Kind),.sl a1.Old.Words.length (fl (eI .u64) a1.Old.Words),.sl a1.Old.Kids.length (fl Za a1.Old.Kids),.val (.int .i64 a1.New.Kind),.sl a1.New.Words.length (fl (eI .u64) a1.New.Words),.sl a1.New.Kids.length (fl Za a1.New.Kids),.sl a1.Words.length (fl Zm a1.Words),.sl a1.Kids.length (fl Zi a1.Kids),.val (.int .i64 a1.List_),.sl a1.Ops.length (fl Ze a1.Ops)]]⟩) (O:=(Zv O n [])) (n:=n) (i:=i0) (j:=j0_0) (k:=1) (len:=a0.out.length) (q:=⟨false,125,2,1,[.sl a0.left.length (fl Za a0.left),.row j0_0 a0.out.length]⟩) (qj:=⟨true,25,3,a0.out.length,fl Za a0.out⟩) (by rw [Yr _ hi0];first | exact ho0 | exact Yj _ _ _) rfl (by rw [Yr _ Ut];exact U9) Jr (by omega)
 simp only [Yy _ _ Ut,Yy _ _ hi0,Xk,Y3,Qn,Za4 Jr,List.set_cons_zero,List.set_cons_succ,List.cons_append,List.nil_append,List.length_cons,List.length_nil,Nat.zero_add,Nat.reduceAdd,Nat.add_assoc] at e0
 refine Kq e0 ?_
 have hU:=(Und.drop hU j0_0)
 have hk0:∀ k,i0 < n+k:=fun k=>by omega
 have hN0:∀ o,Objs.upd (O.upd j0_0 none) i0 o n=none:=fun o=>Jq hU hi0 _ (Nat.le_refl _)
 have hN:∀ o k,Objs.upd (O.upd j0_0 none) i0 o (n+k)=none:=fun o k=>Jq hU hi0 _ (Nat.le_add_right _ _)
 show W _ _ _ _ ⟨44,[],[(0,.ref i0 0),(1,.agg (Zf a1))]⟩ (Zv ((O.upd j0_0 none).upd i0 (some ⟨false,125,2,1,[(sL Za a0.left),.row n a0.out.length]⟩)) n [some (oR 25 3 Za a0.out)]) _
 refine Zex [0,3] hi0 hk0 ?_
 refine Zg ?_
 refine Zex [0,3,12] hi0 hk0 ?_
 refine Zq (t:=((a0.left.length:Int) == 0)) rfl (fun c13 => ?_) (fun c13 => ?_)
 ·replace h:=Zp c13 h
  refine Zex [4] hi0 hk0 ?_
  refine zW ?_
  have h:=Option.some.inj h;subst h
  refine Ks (k:=1) (i:=i0) (q1:=⟨false,125,2,1,[(sL Za a0.left),.row n a0.out.length]⟩) (L3:=[some (oR 25 3 Za a0.out),none]) (E2:=(⟨44,[],[(4,(vB false))]⟩:Env)) (n3:=(n+2)) (.inr rfl) hU rfl [(vB false)] ?_ ?_
  ·refine Fit2.trans (E':=(⟨44,[],[(4,(vB false))]⟩:Env)) (O':=(Zv ((O.upd j0_0 none).upd i0 (some ⟨false,125,2,1,[(sL Za a0.left),.row n a0.out.length]⟩)) n [some (oR 25 3 Za a0.out),none])) (n':=(n+2)) (Fit2.of (Yp hU rfl rfl ?_) (by omega)) ?_
   ·exact Q9 hi0 hk0
   refine Qm (k:=2) (k':=2) hU [0,1] [0,0] rfl rfl rfl rfl ⟨rfl,rfl⟩ ?_
   exact Q9 hi0 hk0
  simp only [push_cast,seval,↓reduceIte,Zk,Try.results139,hi0,hk0,hN0,hN]
 replace h:=Zo c13 h
 refine Q7 [0,3] [true,true] ?_
 refine Zg ?_
 obtain ⟨x3,hx3,ax3,bx3,cx3,h⟩:=bE (f:=Za) V5 (fun _=>rfl) (by decide) h
 obtain ⟨y4,hy4,h⟩:=bC h
 refine Vs Z4 (by kernel_rfl) [.low,.plain,.low,.low,.low,.low,.low,.low,.plain,.plain,.plain,.pass,.bar,.plain] (fun i=>i < (n+2)) [0,1,2,3,4,5,6,7,8,9,10,11,12,13] [.low,.plain,.low,.low,.low,.low,.low,.low,.plain,.plain,.plain,.pass,.bar,.plain] [] (by kernel_rfl) rfl ?_
 refine zF5 ax3 bx3 cx3 hi0 hk0 ?_
 refine zO ?_
 first | refine PCallA.of (fun _ _=>K4 hy4) ?_ | refine PCall.of (K4 hy4) ?_
 refine zF5 ax3 bx3 cx3 hi0 hk0 ?_
 refine zO ?_
 refine zDs [0,5,6] [true,false,true] ?_
 obtain ⟨l8,pl8,ql8,el8,h⟩:=bA (k:=1) rfl h
 obtain ⟨x9,hx9,ax9,bx9,cx9,h⟩:=bE (f:=Za) V5 (fun _=>rfl) (by decide) h
 have gu10:Kt (fl Za a0.out++[.val (.int .i64 0),.val (.slice none 0 0),.val (.slice none 0 0)]) [.val (.int .i64 y4.1.Kind),.sl y4.1.Words.length (fl (eI .u64) y4.1.Words),.sl y4.1.Kids.length (fl Za y4.1.Kids)] (List.length a0.out * 3)=some (fl Za a0.out++[.val (.int .i64 y4.1.Kind),.sl y4.1.Words.length (fl (eI .u64) y4.1.Words),.sl y4.1.Kids.length (fl Za y4.1.Kids)]):=Za5 (f:=Za) (sz:=3) (fun _=>rfl) rfl rfl
 refine Vs Z4 (by kernel_rfl) [.plain,.low,.low,.low,.low,.low,.pass,.bar,.shp,.fill true,.shp,.shp,.fill false] (fun i=>i < (n+3)) [0,1,2,3,4,5,6,7,8,9,10,11,12] [.plain,.low,.low,.low,.low,.low,.pass,.bar,.shp,.fill true,.shp,.shp,.fill false] [] (by kernel_rfl) rfl ?_
 refine zF9 pl8 ql8 el8 ax9 bx9 cx9 gu10 hi0 hk0 ?_
 refine zO ?_
 refine Zea ⟨44,[],[(0,.ref i0 0),(6,(vB y4.2))]⟩ (Zv ((O.upd j0_0 none).upd i0 (some ⟨false,125,2,1,[(sL Za a0.left),.row n (a0.out++[y4.1]).length]⟩)) n [some (oR 25 3 Za (a0.out++[y4.1])),none,none,none]) (Yp hU rfl rfl ?_) ?_
 ·exact Z2l pl8 ql8 el8 ax9 bx9 cx9 gu10 hi0 hk0
 refine Zg ?_
 obtain ⟨l12,al12,bl12,cl12,gl12,h⟩:=bS (lo:=(some (.i64,1))) (hi:=none) (f:=Za) rfl rfl Zfw V5 (fun _=>rfl) h
 refine Z8g [] al12 bl12 cl12 gl12 hi0 hk0 ?_
 refine zD [6] [true,false,false,false] ?_
 refine Zex [4] hi0 hk0 ?_
 refine zW ?_
 have h:=Option.some.inj h;subst h
 refine Ks (k:=1) (i:=i0) (q1:=⟨false,125,2,1,[(sL Za l12),.row n (a0.out++[y4.1]).length]⟩) (L3:=[some (oR 25 3 Za (a0.out++[y4.1])),none]) (E2:=(⟨44,[],[(4,(vB y4.2))]⟩:Env)) (n3:=(n+2)) (.inr rfl) hU rfl [(vB y4.2)] ?_ ?_
 ·refine Fit2.trans (E':=(⟨44,[],[(4,(vB y4.2))]⟩:Env)) (O':=(Zv ((O.upd j0_0 none).upd i0 (some ⟨false,125,2,1,[(sL Za l12),.row n (a0.out++[y4.1]).length]⟩)) n [some (oR 25 3 Za (a0.out++[y4.1])),none,none,none])) (n':=(n+4)) (Fit2.of (Yp hU rfl rfl ?_) (by omega)) ?_
  ·exact Q9 hi0 hk0
  refine Qm (k:=4) (k':=2) hU [0,1,1,1] [0,0] rfl rfl rfl rfl ⟨rfl,rfl⟩ ?_
  exact Q9 hi0 hk0
 simp only [push_cast,seval,↓reduceIte,Zk,Try.results139,hi0,hk0,hN0,hN]
theorem Zrh:∀ k,(Gn ((Zr k).1))∧(Kb ((Zr k).2.1))∧(Gp ((Zr k).2.2.1))∧(Q6 ((Zr k).2.2.2.1))∧(Qj ((Zr k).2.2.2.2)):=fun k=>by
 induction k with
 | zero=>exact ⟨@fun a0 a1 r O n h=>(nomatch (show (none:Option _)=some _ from h)),@fun a0 a1 r O n h=>(nomatch (show (none:Option _)=some _ from h)),@fun a0 a1 r O n h=>(nomatch (show (none:Option _)=some _ from h)),@fun a0 a1 r O n i0 j0_0 hi0 Ut Jr ho0 U9 h=>(nomatch (show (none:Option _)=some _ from h)),@fun a0 a1 r O n i0 j0_0 hi0 Ut Jr ho0 U9 h=>(nomatch (show (none:Option _)=some _ from h))⟩
 | succ k ih=>exact ⟨@fun a0 a1 r O n h=>Zu8 (ih.1) (ih.2.1) (ih.2.2.1) (ih.2.2.2.1) (ih.2.2.2.2)  h,@fun a0 a1 r O n h=>Znr (ih.1) (ih.2.1) (ih.2.2.1) (ih.2.2.2.1) (ih.2.2.2.2)  h,@fun a0 a1 r O n h=>Zu9 (ih.1) (ih.2.1) (ih.2.2.1) (ih.2.2.2.1) (ih.2.2.2.2)  h,@fun a0 a1 r O n i0 j0_0 hi0 Ut Jr ho0 U9 h=>Zlr (ih.1) (ih.2.1) (ih.2.2.1) (ih.2.2.2.1) (ih.2.2.2.2) hi0 Ut Jr ho0 U9 h,@fun a0 a1 r O n i0 j0_0 hi0 Ut Jr ho0 U9 h=>Zjt (ih.1) (ih.2.1) (ih.2.2.1) (ih.2.2.2.1) (ih.2.2.2.2) hi0 Ut Jr ho0 U9 h⟩
theorem Zxk {a0:Zc} {a1:Zb} {r:(Zb×Bool)} {O:Objs} {n:Nat} (h:Zkw a0 a1=some r):GTo Try.prog 45 [.agg (Zf a0),.agg (Zd a1)] O n (.tup [.agg (Zd r.1),(vB r.2)]) O n:=by
 obtain ⟨k,hk⟩:=Un h
 exact (Zrh k).1  hk
theorem Znz {a0:Zc} {a1:Zb} {r:(Zb×Bool)} {O:Objs} {n:Nat} (h:G3 a0 a1=some r):GTo Try.prog 14 [.agg (Zf a0),.agg (Zd a1)] O n (.tup [.agg (Zd r.1),(vB r.2)]) O n:=by
 unfold G3 at h
 refine zFn Try.call14 Try.func14 fun hU hN0 hN => ?_
 show W _ _ _ _ ⟨19,[],[(0,.agg (Zf a0)),(1,.agg (Zd a1))]⟩ (Zv O n []) _
 refine zQ [2,3,4] ?_
 refine Zg ?_
 obtain ⟨y2,hy2,h⟩:=bC h
 refine zCd (Zxk hy2) [4,6,7] [false,false,true,true] ?_
 refine Zg ?_
 refine zQ [4,6,15] ?_
 refine Zq (t:=(!y2.2)) rfl (fun c5 => ?_) (fun c5 => ?_)
 ·replace h:=Zp c5 h
  refine Zg ?_
  refine zRd [4,5] [false,false,true,false] ?_
  exact Yn [.agg [(vI 0),nV,nV],(vB false)]
 replace h:=Zo c5 h
 refine Q7 [4,6] [false,false,true,true] ?_
 refine Zg ?_
 obtain ⟨y4,hy4,h⟩:=bC h
 refine zCd (Zbl hy4) [4,5] [false,false,true,false] ?_
 exact Yn [.agg (Zd y4),(vB true)]
theorem Zot {a0:(List Int)} {r:(List Int)} {O:Objs} {n:Nat} (h:G7 a0=some r):GTo Try.prog 59 [(sL (eI .u64) a0)] O n ((sL (eI .u64) r)) O n:=by
 unfold G7 at h
 refine zFn Try.call59 Try.func59 fun hU hN0 hN => ?_
 show W _ _ _ _ ⟨24,[],[(0,(sL (eI .u64) a0))]⟩ (Zv O n []) _
 refine zQ [0] ?_
 refine zQ [0,3] ?_
 refine Zg ?_
 refine zD [0,3] [] ?_
 obtain ⟨z7,hz7,h⟩:=bC h
 refine Yz (E':=⟨24,[],[(0,(sL (eI .u64) a0)),(3,(vI z7))]⟩) (O':=(Zv O n [])) (n0:=n) ?_ ?_
 ·refine Xe hz7 (fun s0_=>⟨24,[],[(0,(sL (eI .u64) a0)),(3,(vI s0_))]⟩) (fun s0_=>(Zv O n [])) (fun z7=>JX 0 n (⟨24,[],[(0,(sL (eI .u64) a0)),(3,(vI z7))]⟩:Env) (Zv O n []) n) ?_
  intro s0_ x0_ hs0_
  unfold Vy at hs0_
  try dsimp only
  refine Zg ?_
  obtain ⟨z2,hz2,hs0_⟩:=bC hs0_
  refine Y1 (E':=⟨24,[],[(0,(sL (eI .u64) a0)),(3,(vI s0_)),(16,(vB z2))]⟩) (O':=(Zv O n [])) (n0:=n) ?_ ?_
  ·rcases Bool.eq_false_or_eq_true (decide (0 < s0_)) with c5 | c5
   ·replace hz2:=Zp c5 hz2
    obtain ⟨x4,hx4,ax4,bx4,cx4,hz2⟩:=bE (f:=(eI .u64)) Zf5 (fun _=>rfl) (by decide) hz2
    refine Zss [some true,some true,some true,some true,some true,some true] c5 ax4 bx4 cx4 ?_
    exact Z8e hz2 c5 ax4 bx4 cx4
   replace hz2:=Zo c5 hz2
   refine Jl [some false,some false,some false,some false,some false,some false] c5 ?_
   exact Qx hz2 c5
  refine Zq (t:=z2) rfl (fun c6 => ?_) (fun c6 => ?_)
  ·replace hs0_:=Zp c6 hs0_
   refine Q7 [0,3] [] ?_
   refine Yg ?_
   refine zR ?_
   exact zEn hs0_
  replace hs0_:=Zo c6 hs0_
  exact zEx hs0_
 try simp only [Y2,Z7,↓reduceIte,Nat.reduceEqDiff]
 refine zD [0,3] [] ?_
 refine zQ [0,3,4] ?_
 refine Zg ?_
 obtain ⟨l10,al10,bl10,cl10,gl10,h⟩:=bS (lo:=none) (hi:=(some (.i64,z7))) (f:=(eI .u64)) rfl rfl Zqr Zf5 (fun _=>rfl) h
 obtain ⟨l11,pl11,ql11,el11,h⟩:=bA0 (k:=l10.length) rfl h
 refine Yhv [] al10 bl10 cl10 gl10 pl11 ql11 el11 ?_
 refine Zea ⟨24,[],[(2,.row n l11.length)]⟩ (Zv O n [some (oR 73 1 (eI .u64) l11)]) (Ys hU rfl rfl ?_) ?_
 ·simp only [push_cast,seval,↓reduceIte,Zk,al10,bl10,cl10,gl10,pl11,ql11,el11,hN0,hN]
 exact Yn [.row n l11.length]
def Zhb (Ji:(Zb→Option Zb)):Prop:=∀ {a0:Zb} {r:Zb} {O:Objs} {n:Nat},Ji a0=some r→GTo Try.prog 31 [.agg (Zd a0)] O n (.agg (Zd r)) O n
theorem Zns {Ji:(Zb→Option Zb)} (Zmf:Zhb Ji) {a0:Zb} {r:Zb} {O:Objs} {n:Nat} (h:Gw Ji a0=some r):GTo Try.prog 31 [.agg (Zd a0)] O n (.agg (Zd r)) O n:=by
 unfold Gw at h
 refine zFn Try.call31 Try.func31 fun hU hN0 hN => ?_
 show W _ _ _ _ ⟨53,[],[(0,.agg (Zd a0))]⟩ (Zv O n []) _
 refine zQ [1,2] ?_
 refine Zg ?_
 refine zQ [1,2,10] ?_
 refine Zq (t:=(a0.Kind == 0)) rfl (fun c19 => ?_) (fun c19 => ?_)
 ·replace h:=Zp c19 h
  refine Zg ?_
  refine zRd [2] [false,true] ?_
  exact Yn [.agg [(vI 0),nV,nV]]
 replace h:=Zo c19 h
 refine Q7 [1,2] [true,true] ?_
 refine zQ [1,2,3] ?_
 refine zQ [1,2,3,4] ?_
 refine Zg ?_
 refine zQd [1,2,3,4,5] [1,2,3,4,5] [true,true] ?_
 refine Kq (E':=(⟨53,[],[(1,.ref n 0),(2,.ref (n+1) 0),(3,.row (n+2) ([]:List Zb).length),(4,(vI 0)),(5,(vI 0))]⟩:Env)) (O':=(Zv O n [some ⟨false,25,3,1,(Zd a0)⟩,some ⟨false,25,3,1,[(vI 0),nV,nV]⟩,some (oR 25 3 Za ([]:List Zb)),none])) (n':=(n+4)) ?_ ?_
 ·refine Fit2.trans (E':=(⟨53,[],[(1,.ref n 0),(2,.ref (n+1) 0),(3,nV),(4,(vI 0)),(5,(vI 0))]⟩:Env)) (O':=(Zv O n [some ⟨false,25,3,1,(Zd a0)⟩,some ⟨false,25,3,1,[(vI 0),nV,nV]⟩])) (n':=(n+2)) (Fit2.of (Ys hU rfl rfl ?_) (by omega)) ?_
  ·exact zSe
  refine Fit2.trans (Zjz 3 25 3 rfl (by omega)) ?_
  simp only [Xk,Y3,Zbc,Gu,List.set_cons_zero,List.set_cons_succ,List.cons_append,List.nil_append,List.length_cons,List.length_nil,Nat.zero_add,Nat.reduceAdd,Nat.reduceLT,Nat.add_assoc]
  refine Fit2.trans (E':=(⟨53,[],[(1,.ref n 0),(2,.ref (n+1) 0),(3,.row (n+2) ([]:List Zb).length),(4,(vI 0)),(5,(vI 0))]⟩:Env)) (O':=(Zv O n [some ⟨false,25,3,1,(Zd a0)⟩,some ⟨false,25,3,1,[(vI 0),nV,nV]⟩,some (oR 25 3 Za ([]:List Zb))])) (n':=(n+3)) (Fit2.of (Ys hU rfl rfl ?_) (by omega)) ?_
  ·exact zSe
  refine Kh (k:=3) (k':=4) hU [0,1,2] [0,1,2,0] rfl rfl rfl rfl ⟨rfl,rfl⟩ ?_
  exact zSe
 obtain ⟨z10,hz10,h⟩:=bC h
 refine Yz (E':=⟨53,[],[(1,.ref n 0),(2,.ref (n+1) 0),(3,.row (n+2) z10.2.length),(4,(vI z10.1))]⟩) (O':=(Zv O n [some ⟨false,25,3,1,(Zd a0)⟩,some ⟨false,25,3,1,[(vI 0),nV,nV]⟩,some (oR 25 3 Za z10.2),none])) (n0:=(n+4)) ?_ ?_
 ·refine Xe hz10 (fun s0_=>⟨53,[],[(1,.ref n 0),(2,.ref (n+1) 0),(3,.row (n+2) s0_.2.2.length),(4,(vI s0_.1)),(5,(vI s0_.2.1))]⟩) (fun s0_=>(Zv O n [some ⟨false,25,3,1,(Zd a0)⟩,some ⟨false,25,3,1,[(vI 0),nV,nV]⟩,some (oR 25 3 Za s0_.2.2),none])) (fun z10=>JX 0 n (⟨53,[],[(1,.ref n 0),(2,.ref (n+1) 0),(3,.row (n+2) z10.2.length),(4,(vI z10.1))]⟩:Env) (Zv O n [some ⟨false,25,3,1,(Zd a0)⟩,some ⟨false,25,3,1,[(vI 0),nV,nV]⟩,some (oR 25 3 Za z10.2),none]) (n+4)) ?_
  intro s0_ x0_ hs0_
  unfold Q0 at hs0_
  try dsimp only
  refine Zg ?_
  refine zQ [1,2,3,4,5,16] ?_
  refine Zq (t:=(decide (s0_.2.1 < (a0.Kids.length:Int)))) rfl (fun c9 => ?_) (fun c9 => ?_)
  ·replace hs0_:=Zp c9 hs0_
   refine Q7 [1,2,3,4,5] [true,true,true,false] ?_
   obtain ⟨z1,hz1,hs0_⟩:=bC hs0_
   refine Y1 (E':=⟨53,[],[(1,.ref n 0),(2,.ref (n+1) 0),(3,.row (n+2) z1.2.length),(4,(vI z1.1)),(5,(vI s0_.2.1))]⟩) (O':=(Zv O n [some ⟨false,25,3,1,(Zd a0)⟩,some ⟨false,25,3,1,[(vI 0),nV,nV]⟩,some (oR 25 3 Za z1.2),none,none,none])) (n0:=(n+6)) ?_ ?_
   ·refine Yg ?_
    refine Zg ?_
    obtain ⟨x4,hx4,ax4,bx4,cx4,hz1⟩:=bE (f:=Za) V5 (fun _=>rfl) (by decide) hz1
    obtain ⟨y5,hy5,hz1⟩:=bC hz1
    refine Zao [] ax4 bx4 cx4 ?_
    refine (Zmf hy5).then ?_
    refine zF3 ax4 bx4 cx4 ?_
    refine zDs [1,2,3,4,5,6] [true,true,true,false,true] ?_
    obtain ⟨l7,pl7,ql7,el7,hz1⟩:=bA (k:=1) rfl hz1
    refine Zdt [] pl7 ql7 el7 ?_
    refine Zea ⟨53,[],[(1,.ref n 0),(2,.ref (n+1) 0),(3,.row (n+2) l7.length),(4,(vI s0_.1)),(5,(vI s0_.2.1)),(6,.ref (n+4) 0)]⟩ (Zv O n [some ⟨false,25,3,1,(Zd a0)⟩,some ⟨false,25,3,1,[(vI 0),nV,nV]⟩,some (oR 25 3 Za l7),none,some ⟨false,25,3,1,(Zd y5)⟩,none]) (Ys hU rfl rfl ?_) ?_
    ·exact Z2m pl7 ql7 el7
    refine zQ [1,2,3,4,5,31] ?_
    refine Zq (t:=(y5.Kind != 0)) rfl (fun c8 => ?_) (fun c8 => ?_)
    ·replace hz1:=Zp c8 hz1
     refine zR ?_
     exact zEn hz1
    replace hz1:=Zo c8 hz1
    refine zK ?_
    exact zEn hz1
   refine zR ?_
   exact zEn hs0_
  replace hs0_:=Zo c9 hs0_
  exact zEx hs0_
 try simp only [Y2,Z7,↓reduceIte,Nat.reduceEqDiff]
 refine zDs [1,2,3,4] [true,true,true,false] ?_
 refine zQ [1,2,3,4,36] ?_
 refine Zq (t:=(a0.Kind == 1)) rfl (fun c18 => ?_) (fun c18 => ?_)
 ·replace h:=Zp c18 h
  refine Zea ⟨53,[],[(1,.ref n 0),(2,.ref (n+1) 0),(3,(sL Za z10.2)),(4,(vI z10.1))]⟩ (Zv O n [some ⟨false,25,3,1,(Zd a0)⟩,some ⟨false,25,3,1,[(vI 0),nV,nV]⟩,none,none]) (Ys hU rfl rfl ?_) ?_
  ·exact zSe
  refine Zg ?_
  obtain ⟨y14,hy14,h⟩:=bC h
  obtain ⟨l15,al15,bl15,cl15,gl15,h⟩:=bS (lo:=none) (hi:=(some (.i64,z10.1))) (f:=Za) rfl rfl Zfw V5 (fun _=>rfl) h
  refine Zhx Z4 (by kernel_rfl) [false,false,false,false,false,false,false,true] [] (by kernel_rfl) ?_
  refine zX4 al15 bl15 cl15 gl15 ?_
  refine PCall.of (Zot hy14) ?_
  refine zX4 al15 bl15 cl15 gl15 ?_
  refine zD [2] [false,true,false,false] ?_
  exact Yn [.agg [(vI 1),(sL (eI .u64) y14),(sL Za l15)]]
 replace h:=Zo c18 h
 refine Q7 [1,2,3] [true,true,true,false] ?_
 refine zQ [1,2,3,7] ?_
 refine Zg ?_
 obtain ⟨l17,pl17,ql17,el17,h⟩:=bA0 (k:=a0.Words.length) rfl h
 refine Zdt [] pl17 ql17 el17 ?_
 refine Zea ⟨53,[],[(1,.ref n 0),(2,.ref (n+1) 0),(3,.row (n+2) z10.2.length),(7,.row (n+4) l17.length)]⟩ (Zv O n [some ⟨false,25,3,1,(Zd a0)⟩,some ⟨false,25,3,1,[(vI 0),nV,nV]⟩,some (oR 25 3 Za z10.2),none,some (oR 73 1 (eI .u64) l17)]) (Ys hU rfl rfl ?_) ?_
 ·exact Z2m pl17 ql17 el17
 refine Zg ?_
 refine zRd [2] [false,true,true,false,true] ?_
 exact Yn [.agg [(vI a0.Kind),.row (n+4) l17.length,.row (n+2) z10.2.length]]
theorem Zln:∀ k,(Zhb (X5 k)):=fun k=>by
 induction k with
 | zero=>exact @fun a0 r O n h=>(nomatch (show (none:Option _)=some _ from h))
 | succ k ih=>exact @fun a0 r O n h=>Zns (ih)  h
theorem Zos {a0:Zb} {r:Zb} {O:Objs} {n:Nat} (h:Zfh a0=some r):GTo Try.prog 31 [.agg (Zd a0)] O n (.agg (Zd r)) O n:=by
 obtain ⟨k,hk⟩:=Un h
 exact (Zln k)  hk
attribute [local push_cast] Try.results121 Try.results16 Try.results24 Try.results49 Try.results54 Try.results7 Try.results80 Try.results81 Try.results86
def Zhs (Vq:(Zb→(List Zy)→Option (Zb×Bool))):Prop:=∀ {a0:Zb} {a1:(List Zy)} {r:(Zb×Bool)} {O:Objs} {n:Nat},Vq a0 a1=some r→GTo Try.prog 24 [.agg (Zd a0),(sL Zu a1)] O n (.tup [.agg (Zd r.1),(vB r.2)]) O n
theorem Zow {Vq:(Zb→(List Zy)→Option (Zb×Bool))} (Zhw:Zhs Vq) {a0:Zb} {a1:(List Zy)} {r:(Zb×Bool)} {O:Objs} {n:Nat} (h:Vg Vq a0 a1=some r):GTo Try.prog 24 [.agg (Zd a0),(sL Zu a1)] O n (.tup [.agg (Zd r.1),(vB r.2)]) O n:=by
 unfold Vg at h
 refine zFn Try.call24 Try.func24 fun hU hN0 hN => ?_
 show W _ _ _ _ ⟨124,[],[(0,.agg (Zd a0)),(1,(sL Zu a1))]⟩ (Zv O n []) _
 refine zQ [1,2,4] ?_
 refine Zg ?_
 refine zQ [1,2,4,11] ?_
 refine Zq (t:=((a1.length:Int) == 0)) rfl (fun c32 => ?_) (fun c32 => ?_)
 ·replace h:=Zp c32 h
  refine Zg ?_
  obtain ⟨y2,hy2,h⟩:=bC h
  refine zCd (Zos hy2) [4,5] [false,true] ?_
  exact Yn [.agg (Zd y2),(vB true)]
 replace h:=Zo c32 h
 refine Q7 [1,2,4] [true,true] ?_
 refine Zg ?_
 obtain ⟨x4,hx4,ax4,bx4,cx4,h⟩:=bE (f:=Zu) Zmw (fun _=>rfl) (by decide) h
 refine Zao [] ax4 bx4 cx4 ?_
 refine zD [1,2,4,6] [true,true,true] ?_
 refine zQD [1,2,4,6,7] [none,none,none] ?_
 refine Zg ?_
 refine zQD [1,2,4,6,7,37] [none,none,none,none,none,none,none,none] ?_
 refine Zq (t:=(cond (decide (x4.At < 0)) true (cond (a0.Kind == 1) (decide (65535≤x4.At)) false))) rfl (fun c31 => ?_) (fun c31 => ?_)
 ·replace h:=Zp c31 h
  refine Zg ?_
  refine zRd [4,5] [false,true,false] ?_
  exact Yn [.agg [(vI 0),nV,nV],(vB false)]
 replace h:=Zo c31 h
 refine Q7 [1,2,4,6,7] [true,true,true] ?_
 obtain ⟨z5,hz5,h⟩:=bC h
 refine Z6y (J:=(Xl (fun z5=>JN n (⟨124,[],[(4,.ref (n+1) 0)]⟩:Env) (Zv O n [none,some ⟨false,25,3,1,[(vI 0),nV,nV]⟩,none]) (n+3)) (fun z5=>JR n (⟨124,[],[(4,.ref (n+1) 0),(5,(vB z5.1))]⟩:Env) (Zv O n [none,some ⟨false,25,3,1,[(vI z5.2.1),(sL (eI .u64) z5.2.2.1),(sL Za z5.2.2.2)]⟩,none]) (n+3)))) (z:=z5) ?_ fun hw => ?_
 ·refine zQ [1,2,4,6,7,40] ?_
  refine Yg ?_
  refine zQ [1,2,4,6,7,40,41] ?_
  refine Zq (t:=(x4.Kind == 0)) rfl (fun c30 => ?_) (fun c30 => ?_)
  ·replace hz5:=Zp c30 hz5
   refine Zg ?_
   refine zQ [1,2,4,6,48] ?_
   refine Zq (t:=(decide (x4.At < (a0.Kids.length:Int)))) rfl (fun c17 => ?_) (fun c17 => ?_)
   ·replace hz5:=Zp c17 hz5
    refine Zg ?_
    obtain ⟨x9,hx9,ax9,bx9,cx9,hz5⟩:=bE (f:=Za) V5 (fun _=>rfl) (by decide) hz5
    obtain ⟨l10,al10,bl10,cl10,gl10,hz5⟩:=bS (lo:=(some (.i64,1))) (hi:=none) (f:=Zu) rfl rfl Znh Zmw (fun _=>rfl) hz5
    obtain ⟨y11,hy11,hz5⟩:=bC hz5
    refine Zhx Z4 (by kernel_rfl) [false,false,false,false,false,false,false,false,false,false,false,true,false] [] (by kernel_rfl) ?_
    refine zF7 ax9 bx9 cx9 al10 bl10 cl10 gl10 ?_
    refine PCall.of (Zhw hy11) ?_
    refine zF7 ax9 bx9 cx9 al10 bl10 cl10 gl10 ?_
    refine zD [4,5] [false,true,false] ?_
    refine zW ?_
    exact zEn hz5
   replace hz5:=Zo c17 hz5
   refine Q7 [1,2,4] [true,true,false] ?_
   refine zQ [1,4,62] ?_
   refine Zq (t:=(a0.Kind == 1)) rfl (fun c16 => ?_) (fun c16 => ?_)
   ·replace hz5:=Zp c16 hz5
    refine Zg ?_
    obtain ⟨l14,al14,bl14,cl14,gl14,hz5⟩:=bS (lo:=(some (.i64,1))) (hi:=none) (f:=Zu) rfl rfl Znh Zmw (fun _=>rfl) hz5
    obtain ⟨y15,hy15,hz5⟩:=bC hz5
    refine Zm1 [] al14 bl14 cl14 gl14 ?_
    refine GCalls.argsW ?_ ((Zhw hy15).then ?_)
    ·exact Yhw al14 bl14 cl14 gl14
    refine zX4 al14 bl14 cl14 gl14 ?_
    refine zD [4,5] [false,true,false] ?_
    refine zW ?_
    exact zEn hz5
   replace hz5:=Zo c16 hz5
   refine zK ?_
   exact zEn hz5
  replace hz5:=Zo c30 hz5
  refine zQ [1,2,4,6,7,40,69] ?_
  refine Zq (t:=(x4.Kind == 1)) rfl (fun c29 => ?_) (fun c29 => ?_)
  ·replace hz5:=Zp c29 hz5
   refine zQD [2,4,6,78] [none,none,none] ?_
   refine Zq (t:=(cond ((a1.length:Int) == 1) (a0.Kind == 1) false)) rfl (fun c26 => ?_) (fun c26 => ?_)
   ·replace hz5:=Zp c26 hz5
    refine Zg ?_
    refine zRd [2,4,6,8] [true,true,true,true] ?_
    obtain ⟨z18,hz18,hz5⟩:=bC hz5
    refine Y1 (E':=⟨124,[],[(4,.ref (n+1) 0),(8,.ref (n+3) 0)]⟩) (O':=(Zv O n [none,some ⟨false,25,3,1,[(vI 0),nV,nV]⟩,none,some ⟨false,25,3,1,[(vI 1),.row (n+5) z18.length,nV]⟩,none,some (oR 73 1 (eI .u64) z18),none])) (n0:=(n+7)) ?_ ?_
    ·obtain ⟨z20,hz20,hz18⟩:=bC hz18
     refine Y1 (E':=⟨124,[],[(2,.ref n 0),(4,.ref (n+1) 0),(6,.ref (n+2) 0),(8,.ref (n+3) 0),(94,(vB z20))]⟩) (O':=(Zv O n [some ⟨false,25,3,1,(Zd a0)⟩,some ⟨false,25,3,1,[(vI 0),nV,nV]⟩,some ⟨false,54,2,1,[(vI x4.Kind),(vI x4.At)]⟩,some ⟨false,25,3,1,[(vI 1),nV,nV]⟩])) (n0:=(n+4)) ?_ ?_
     ·rcases Bool.eq_false_or_eq_true (decide (x4.At < (a0.Words.length:Int))) with c23 | c23
      ·replace hz20:=Zp c23 hz20
       obtain ⟨x22,hx22,ax22,bx22,cx22,hz20⟩:=bE (f:=(eI .u64)) Zf5 (fun _=>rfl) (by decide) hz20
       refine Zss [some true,some true,some true,some true,some true,some true,some true] c23 ax22 bx22 cx22 ?_
       exact Z8e hz20 c23 ax22 bx22 cx22
      replace hz20:=Zo c23 hz20
      refine Jl [some false,some false,some false,some false,some false,some false,some false] c23 ?_
      exact Qx hz20 c23
     refine Zq (t:=z20) rfl (fun c25 => ?_) (fun c25 => ?_)
     ·replace hz18:=Zp c25 hz18
      obtain ⟨x24,hx24,ax24,bx24,cx24,hz18⟩:=bE (f:=(eI .u64)) Zf5 (fun _=>rfl) (by decide) hz18
      refine Zao [] ax24 bx24 cx24 ?_
      have hz18:=Option.some.inj hz18;subst hz18
      refine And.intro rfl ?_
      refine Fit2.trans (E':=(⟨124,[],[(4,.ref (n+1) 0),(8,.ref (n+3) 0)]⟩:Env)) (O':=(Zv O n [none,some ⟨false,25,3,1,[(vI 0),nV,nV]⟩,none,some ⟨false,25,3,1,[(vI 1),.row (n+4) ([x24]:List Int).length,nV]⟩,some (oR 73 1 (eI .u64) ([x24]:List Int))])) (n':=(n+5)) (Fit2.of (Ys hU rfl rfl ?_) (by omega)) ?_
      ·exact Yhr ax24 bx24 cx24
      refine Kh (k:=5) (k':=7) hU [6,1,6,3,5] [0,1,0,3,0,4,0] rfl rfl rfl rfl ⟨rfl,rfl⟩ ?_
      exact zSe
     replace hz18:=Zo c25 hz18
     refine zK ?_
     have hz18:=Option.some.inj hz18;subst hz18
     refine And.intro rfl ?_
     refine Fit2.trans (E':=(⟨124,[],[(4,.ref (n+1) 0),(8,.ref (n+3) 0)]⟩:Env)) (O':=(Zv O n [none,some ⟨false,25,3,1,[(vI 0),nV,nV]⟩,none,some ⟨false,25,3,1,[(vI 1),nV,nV]⟩])) (n':=(n+4)) (Fit2.of (Ys hU rfl rfl ?_) (by omega)) ?_
     ·exact zSe
     refine Fit2.trans (Zbd (p:=(n+3)) (k:=1) (q:=⟨false,25,3,1,[(vI 1),nV,nV]⟩) 73 1 (by simp only [Zah,Zeh,List.getElem?_cons_zero,List.getElem?_cons_succ,Option.join_some,List.length_nil,Yj]) rfl (by omega)) ?_
     simp only [Xk,Y3,Zbc,Gu,List.set_cons_zero,List.set_cons_succ,List.cons_append,List.nil_append,List.length_cons,List.length_nil,Nat.zero_add,Nat.reduceAdd,Nat.reduceLT,Nat.add_assoc]
     refine Kh (k:=5) (k':=7) hU [6,1,6,3,5] [0,1,0,3,0,4,0] rfl rfl rfl rfl ⟨rfl,rfl⟩ ?_
     exact zSe
    refine Zg ?_
    refine zRd [4,5] [false,true,false,false,false,true,false] ?_
    refine zW ?_
    exact zEn hz5
   replace hz5:=Zo c26 hz5
   refine zK ?_
   exact zEn hz5
  replace hz5:=Zo c29 hz5
  refine zQ [1,2,4,6,7,104] ?_
  refine Zq (t:=(x4.Kind == 2)) rfl (fun c28 => ?_) (fun c28 => ?_)
  ·replace hz5:=Zp c28 hz5
   refine zQD [2,4,119] [none,none,none,none,none,none,none] ?_
   refine Zq (t:=(cond (cond ((a1.length:Int) == 1) (cond (decide (2≤a0.Kind)) (decide (a0.Kind≤9)) false) false) (decide (x4.At≤(a0.Kids.length:Int))) false)) rfl (fun c27 => ?_) (fun c27 => ?_)
   ·replace hz5:=Zp c27 hz5
    refine Zg ?_
    refine zRd [4,5] [false,true,false] ?_
    refine zW ?_
    exact zEn hz5
   replace hz5:=Zo c27 hz5
   refine zK ?_
   exact zEn hz5
  replace hz5:=Zo c28 hz5
  refine zK ?_
  exact zEn hz5
 rcases z5 with z5 | z5
 ·dsimp only [Xl] at hw h
  refine Y1 hw ?_
  refine Zg ?_
  refine zRd [4,5] [false,true,false] ?_
  exact Yn [.agg [(vI 0),nV,nV],(vB false)]
 dsimp only [Xl] at hw h
 refine Zyy hw ?_
 try simp only [Y2,Z7]
 exact Zhq [.agg [(vI z5.2.1),(sL (eI .u64) z5.2.2.1),(sL Za z5.2.2.2)],(vB z5.1)]
theorem Zl9:∀ k,(Zhs (Ku k)):=fun k=>by
 induction k with
 | zero=>exact @fun a0 a1 r O n h=>(nomatch (show (none:Option _)=some _ from h))
 | succ k ih=>exact @fun a0 a1 r O n h=>Zow (ih)  h
theorem Zjg {a0:Zb} {a1:(List Zy)} {r:(Zb×Bool)} {O:Objs} {n:Nat} (h:Zdy a0 a1=some r):GTo Try.prog 24 [.agg (Zd a0),(sL Zu a1)] O n (.tup [.agg (Zd r.1),(vB r.2)]) O n:=by
 obtain ⟨k,hk⟩:=Un h
 exact (Zl9 k)  hk
theorem Zor {a0:(List Int)} {a1:(List Int)} {r:Bool} {O:Objs} {n:Nat} (h:G5 a0 a1=some r):GTo Try.prog 49 [(sL (eI .u64) a0),(sL (eI .u64) a1)] O n ((vB r)) O n:=by
 unfold G5 at h
 refine zFn Try.call49 Try.func49 fun hU hN0 hN => ?_
 show W _ _ _ _ ⟨26,[],[(0,(sL (eI .u64) a0)),(1,(sL (eI .u64) a1))]⟩ (Zv O n []) _
 refine zQ [0,1] ?_
 refine Zg ?_
 refine zQ [0,1,10] ?_
 refine Zq (t:=((a0.length:Int) != (a1.length:Int))) rfl (fun c8 => ?_) (fun c8 => ?_)
 ·replace h:=Zp c8 h
  refine zQ [4] ?_
  exact Yn [(vB false)]
 replace h:=Zo c8 h
 refine Q7 [0,1] [] ?_
 refine Zg ?_
 refine zQd [0,1,5] [0,1,5] [] ?_
 obtain ⟨z7,hz7,h⟩:=bC h
 refine Ux (J:=(Xl (fun z7=>JR n (⟨26,[],[(4,(vB false))]⟩:Env) (Zv O n []) n) (fun z7=>JX 0 n (⟨26,[],[]⟩:Env) (Zv O n []) n))) (z:=z7) ?_ fun hw => ?_
 ·refine Xe hz7 (fun s0_=>⟨26,[],[(0,(sL (eI .u64) a0)),(1,(sL (eI .u64) a1)),(5,(vI s0_))]⟩) (fun s0_=>(Zv O n [])) (Xl (fun z7=>JR n (⟨26,[],[(4,(vB false))]⟩:Env) (Zv O n []) n) (fun z7=>JX 0 n (⟨26,[],[]⟩:Env) (Zv O n []) n)) ?_
  intro s0_ x0_ hs0_
  unfold Vx at hs0_
  try dsimp only
  refine Zg ?_
  refine zQ [0,1,5,14] ?_
  refine Zq (t:=(decide (s0_ < (a0.length:Int)))) rfl (fun c6 => ?_) (fun c6 => ?_)
  ·replace hs0_:=Zp c6 hs0_
   refine Q7 [0,1,5] [] ?_
   refine Zg ?_
   refine Yg ?_
   obtain ⟨x3,hx3,ax3,bx3,cx3,hs0_⟩:=bE (f:=(eI .u64)) Zf5 (fun _=>rfl) (by decide) hs0_
   obtain ⟨x4,hx4,ax4,bx4,cx4,hs0_⟩:=bE (f:=(eI .u64)) Zf5 (fun _=>rfl) (by decide) hs0_
   refine Zni [0,1,5,25] (K7 Z4 (by kernel_rfl) [] (by kernel_rfl) ?_)
   refine zF6 ax3 bx3 cx3 ax4 bx4 cx4 ?_
   refine Zq (t:=(x3 != x4)) rfl (fun c5 => ?_) (fun c5 => ?_)
   ·replace hs0_:=Zp c5 hs0_
    refine zQ [4] ?_
    refine zW ?_
    exact zEy hs0_
   replace hs0_:=Zo c5 hs0_
   refine Q7 [0,1,5] [] ?_
   refine zR ?_
   exact zEn hs0_
  replace hs0_:=Zo c6 hs0_
  exact zEx hs0_
 rcases z7 with z7 | z7
 ·dsimp only [Xl] at hw h
  refine Qy hw ?_
  try simp only [Y2,Z7,↓reduceIte,Nat.reduceEqDiff]
  exact Zhq [(vB false)]
 dsimp only [Xl] at hw h
 refine Yz hw ?_
 try simp only [Y2,Z7,↓reduceIte,Nat.reduceEqDiff]
 refine zD [] [] ?_
 refine zQ [4] ?_
 exact Yn [(vB true)]
def Zhc (Jj:(Zb→Zb→Option Bool)):Prop:=∀ {a0:Zb} {a1:Zb} {r:Bool} {O:Objs} {n:Nat},Jj a0 a1=some r→GTo Try.prog 16 [.agg (Zd a0),.agg (Zd a1)] O n ((vB r)) O n
theorem Znt {Jj:(Zb→Zb→Option Bool)} (Zmg:Zhc Jj) {a0:Zb} {a1:Zb} {r:Bool} {O:Objs} {n:Nat} (h:Gx Jj a0 a1=some r):GTo Try.prog 16 [.agg (Zd a0),.agg (Zd a1)] O n ((vB r)) O n:=by
 unfold Gx at h
 refine zFn Try.call16 Try.func16 fun hU hN0 hN => ?_
 show W _ _ _ _ ⟨47,[],[(0,.agg (Zd a0)),(1,.agg (Zd a1))]⟩ (Zv O n []) _
 refine zQ [2,3] ?_
 refine Zg ?_
 obtain ⟨z2,hz2,h⟩:=bC h
 refine Y1 (E':=⟨47,[],[(2,.ref n 0),(3,.ref (n+1) 0),(27,(vB z2))]⟩) (O':=(Zv O n [some ⟨false,25,3,1,(Zd a0)⟩,some ⟨false,25,3,1,(Zd a1)⟩])) (n0:=(n+2)) ?_ ?_
 ·rcases Bool.eq_false_or_eq_true (a0.Kind != a1.Kind) with c5 | c5
  ·replace hz2:=Zp c5 hz2
   refine Jl [some false,some false,some false,some false,some false,some false,some false,some false,some false,some false,some false,some false,some false] c5 ?_
   exact Qx hz2 c5
  replace hz2:=Zo c5 hz2
  obtain ⟨y4,hy4,hz2⟩:=bC hz2
  refine Jl [some true,some true,some true,some true,some true,some true,none,none,none,none,none,none,none] c5 ?_
  refine zG ?_
  refine (Zor hy4).then ?_
  refine zX1 c5 ?_
  refine zG ?_
  exact Qx hz2 c5
 refine Zq (t:=z2) rfl (fun c15 => ?_) (fun c15 => ?_)
 ·replace h:=Zp c15 h
  refine zQ [4] ?_
  exact Yn [(vB false)]
 replace h:=Zo c15 h
 refine Q7 [2,3] [true,true] ?_
 refine Zg ?_
 refine zQd [2,3,5] [2,3,5] [true,true] ?_
 obtain ⟨z14,hz14,h⟩:=bC h
 refine Ux (J:=(Xl (fun z14=>JR n (⟨47,[],[(4,(vB false))]⟩:Env) (Zv O n [none,none]) (n+2)) (fun z14=>JX 0 n (⟨47,[],[]⟩:Env) (Zv O n [none,none]) (n+2)))) (z:=z14) ?_ fun hw => ?_
 ·refine Xe hz14 (fun s0_=>⟨47,[],[(2,.ref n 0),(3,.ref (n+1) 0),(5,(vI s0_))]⟩) (fun s0_=>(Zv O n [some ⟨false,25,3,1,(Zd a0)⟩,some ⟨false,25,3,1,(Zd a1)⟩])) (Xl (fun z14=>JR n (⟨47,[],[(4,(vB false))]⟩:Env) (Zv O n [none,none]) (n+2)) (fun z14=>JX 0 n (⟨47,[],[]⟩:Env) (Zv O n [none,none]) (n+2))) ?_
  intro s0_ x0_ hs0_
  unfold Vv at hs0_
  try dsimp only
  refine Zg ?_
  refine zQ [2,3,5,32] ?_
  refine Zq (t:=(decide (s0_ < (a0.Kids.length:Int)))) rfl (fun c13 => ?_) (fun c13 => ?_)
  ·replace hs0_:=Zp c13 hs0_
   refine Q7 [2,3,5] [true,true] ?_
   refine Zg ?_
   refine Yg ?_
   refine Zg ?_
   obtain ⟨x9,hx9,ax9,bx9,cx9,hs0_⟩:=bE (f:=Za) V5 (fun _=>rfl) (by decide) hs0_
   obtain ⟨x10,hx10,ax10,bx10,cx10,hs0_⟩:=bE (f:=Za) V5 (fun _=>rfl) (by decide) hs0_
   obtain ⟨y11,hy11,hs0_⟩:=bC hs0_
   refine K7 Z4 (by kernel_rfl) [] (by kernel_rfl) ?_
   refine zF6 ax9 bx9 cx9 ax10 bx10 cx10 ?_
   refine PCall.of (Zmg hy11) ?_
   refine zF6 ax9 bx9 cx9 ax10 bx10 cx10 ?_
   refine zD [2,3,5,46] [true,true] ?_
   refine Zq (t:=(!y11)) rfl (fun c12 => ?_) (fun c12 => ?_)
   ·replace hs0_:=Zp c12 hs0_
    refine zQ [4] ?_
    refine zW ?_
    exact zEy hs0_
   replace hs0_:=Zo c12 hs0_
   refine Q7 [2,3,5] [true,true] ?_
   refine zR ?_
   exact zEn hs0_
  replace hs0_:=Zo c13 hs0_
  exact zEx hs0_
 rcases z14 with z14 | z14
 ·dsimp only [Xl] at hw h
  refine Qy hw ?_
  try simp only [Y2,Z7,↓reduceIte,Nat.reduceEqDiff]
  exact Zhq [(vB false)]
 dsimp only [Xl] at hw h
 refine Yz hw ?_
 try simp only [Y2,Z7,↓reduceIte,Nat.reduceEqDiff]
 refine zD [] [false,false] ?_
 refine zQ [4] ?_
 exact Yn [(vB true)]
theorem Zlo:∀ k,(Zhc (J3 k)):=fun k=>by
 induction k with
 | zero=>exact @fun a0 a1 r O n h=>(nomatch (show (none:Option _)=some _ from h))
 | succ k ih=>exact @fun a0 a1 r O n h=>Znt (ih)  h
theorem Zii {a0:Zb} {a1:Zb} {r:Bool} {O:Objs} {n:Nat} (h:Zfi a0 a1=some r):GTo Try.prog 16 [.agg (Zd a0),.agg (Zd a1)] O n ((vB r)) O n:=by
 obtain ⟨k,hk⟩:=Un h
 exact (Zlo k)  hk
theorem Zkg {a0:Zc} {a1:Zb} {a2:(List Zy)} {r:Bool} {O:Objs} {n:Nat} (h:Us a0 a1 a2=some r):GTo Try.prog 7 [.agg (Zf a0),.agg (Zd a1),(sL Zu a2)] O n ((vB r)) O n:=by
 unfold Us at h
 refine zFn Try.call7 Try.func7 fun hU hN0 hN => ?_
 show W _ _ _ _ ⟨96,[],[(0,.agg (Zf a0)),(1,.agg (Zd a1)),(2,(sL Zu a2))]⟩ (Zv O n []) _
 refine zQ [2,3,4] ?_
 refine Zg ?_
 obtain ⟨z3,hz3,h⟩:=bC h
 refine Y1 (E':=⟨96,[],[(2,(sL Zu a2)),(3,.ref n 0),(4,.ref (n+1) 0),(30,(vB z3))]⟩) (O':=(Zv O n [some ⟨false,30,11,1,(Zf a0)⟩,some ⟨false,25,3,1,(Zd a1)⟩])) (n0:=(n+2)) ?_ ?_
 ·obtain ⟨y6,hy6,hz3⟩:=bC hz3
  rcases Bool.eq_false_or_eq_true y6 with c8 | c8
  ·replace hz3:=Zp c8 hz3
   obtain ⟨y7,hy7,hz3⟩:=bC hz3
   refine Jl [some true,some true,some true,none,none,none] c8 ?_
   refine zG ?_
   refine (Zeu hy6).then ?_
   refine zX1 c8 ?_
   refine zG ?_
   refine (Zou hy7).then ?_
   refine zX1 c8 ?_
   refine zG ?_
   exact Qx hz3 c8
  replace hz3:=Zo c8 hz3
  refine Jl [some false,some false,some false,some false,some false,some false] c8 ?_
  refine (Zeu hy6).then ?_
  refine zX1 c8 ?_
  exact Qx hz3 c8
 refine Zq (t:=z3) rfl (fun c41 => ?_) (fun c41 => ?_)
 ·replace h:=Zp c41 h
  refine Zg ?_
  obtain ⟨y10,hy10,h⟩:=bC h
  refine zCd (Zd4 hy10) [6] [false,false] ?_
  exact Yn [(vB y10)]
 replace h:=Zo c41 h
 refine Q7 [2,3,4] [true,true] ?_
 refine Zg ?_
 obtain ⟨y12,hy12,h⟩:=bC h
 refine zCd (Znz hy12) [2,3,4,7,8] [true,true,true] ?_
 refine Zg ?_
 obtain ⟨y14,hy14,h⟩:=bC h
 refine zCd (Zlg hy14) [2,4,7,8,9,10,11] [false,true,true,true] ?_
 refine Zg ?_
 obtain ⟨y16,hy16,h⟩:=bC h
 refine zCd (Zjg hy16) [7,8,9,10,11,12,13] [false,false,true,true,true] ?_
 refine Zg ?_
 obtain ⟨z18,hz18,h⟩:=bC h
 refine Y1 (E':=⟨96,[],[(7,.ref (n+2) 0),(9,.ref (n+3) 0),(10,(sL Zu y14.2.1)),(12,.ref (n+4) 0),(70,(vB z18))]⟩) (O':=(Zv O n [none,none,some ⟨false,25,3,1,(Zd y12.1)⟩,some ⟨false,30,11,1,(Zf y14.1)⟩,some ⟨false,25,3,1,(Zd y16.1)⟩])) (n0:=(n+5)) ?_ ?_
 ·rcases Bool.eq_false_or_eq_true y12.2 with c21 | c21
  ·replace hz18:=Zp c21 hz18
   rcases Bool.eq_false_or_eq_true y14.2.2 with c22 | c22
   ·replace hz18:=Zp c22 hz18
    try rw [c22] at c21
    rcases Bool.eq_false_or_eq_true y16.2 with c23 | c23
    ·replace hz18:=Zp c23 hz18
     try rw [c23] at c21
     try rw [c23] at c22
     obtain ⟨y20,hy20,hz18⟩:=bC hz18
     refine Zdt [none,none,none,none,some true,some true,some true,none,none,none] c21 c22 c23 ?_
     refine zG ?_
     refine (Zeu hy20).then ?_
     refine zX3 c21 c22 c23 ?_
     refine zG ?_
     exact Zf6 hz18 c21 c22 c23
    replace hz18:=Zo c23 hz18
    try rw [c23] at c21
    try rw [c23] at c22
    refine Zdt [none,none,none,none,some false,some false,some false,some false,some false,some false] c21 c22 c23 ?_
    refine zG ?_
    exact Zf6 hz18 c21 c22 c23
   replace hz18:=Zo c22 hz18
   try rw [c22] at c21
   refine Ju [none,none,none,none,some false,some false,some false,some false,some false,some false] c21 c22 ?_
   refine zG ?_
   exact Gl hz18 c21 c22
  replace hz18:=Zo c21 hz18
  refine Jl [none,none,none,none,some false,some false,some false,some false,some false,some false] c21 ?_
  refine zG ?_
  exact Qx hz18 c21
 refine Zq (t:=z18) rfl (fun c40 => ?_) (fun c40 => ?_)
 ·replace h:=Zp c40 h
  refine Zg ?_
  obtain ⟨y25,hy25,h⟩:=bC h
  refine zCd (Zd4 hy25) [6] [false,false,false,false,false] ?_
  exact Yn [(vB y25)]
 replace h:=Zo c40 h
 refine Q7 [7,9,10,12] [false,false,true,true,true] ?_
 refine Zg ?_
 obtain ⟨y27,hy27,h⟩:=bC h
 refine zCd (Zjg hy27) [9,12,14,15] [false,false,false,true,true,true] ?_
 refine Zg ?_
 obtain ⟨y29,hy29,h⟩:=bC h
 refine zCd (Znz hy29) [14,15,16,17] [false,false,false,false,false,true,true] ?_
 obtain ⟨z32,hz32,h⟩:=bC h
 refine Y1 (E':=⟨96,[],[(6,(vB z32))]⟩) (O':=(Zv O n [none,none,none,none,none,none,none])) (n0:=(n+7)) ?_ ?_
 ·rcases Bool.eq_false_or_eq_true y27.2 with c37 | c37
  ·replace hz32:=Zp c37 hz32
   rcases Bool.eq_false_or_eq_true y29.2 with c38 | c38
   ·replace hz32:=Zp c38 hz32
    try rw [c38] at c37
    obtain ⟨y35,hy35,hz32⟩:=bC hz32
    rcases Bool.eq_false_or_eq_true y35 with c39 | c39
    ·replace hz32:=Zp c39 hz32
     try rw [c39] at c37
     try rw [c39] at c38
     obtain ⟨y36,hy36,hz32⟩:=bC hz32
     refine Zdt [none,some true,some true,some true,some true] c37 c38 c39 ?_
     refine zG ?_
     refine (Zii hy35).then ?_
     refine zX3 c37 c38 c39 ?_
     refine zG ?_
     refine (Zd4 hy36).then ?_
     refine zX3 c37 c38 c39 ?_
     refine zG ?_
     exact Zf6 hz32 c37 c38 c39
    replace hz32:=Zo c39 hz32
    try rw [c39] at c37
    try rw [c39] at c38
    refine Zdt [none,some true,some true,some true,some false] c37 c38 c39 ?_
    refine zG ?_
    refine (Zii hy35).then ?_
    refine zX3 c37 c38 c39 ?_
    refine zG ?_
    exact Zf6 hz32 c37 c38 c39
   replace hz32:=Zo c38 hz32
   try rw [c38] at c37
   refine Ju [none,some false,some false,some false,some false] c37 c38 ?_
   refine zG ?_
   exact Gl hz32 c37 c38
  replace hz32:=Zo c37 hz32
  refine Jl [none,some false,some false,some false,some false] c37 ?_
  refine zG ?_
  exact Qx hz32 c37
 exact Yn [(vB z32)]
attribute [local push_cast] Try.results17 Try.results18 Try.results22 Try.results25 Try.results26 Try.results50 Try.results51 Try.results6
end Go.Proofs.Ytfjkcekfifobpaa
