/- Part RM7 of this seat's mirrors: functions of the seat's program, and the plain functions that they are; each theorem bears its own conditions. -/
import Derived.Test.YtocpndlnbmjpmaaRM6
namespace Go.Proofs.Ytocpndlnbmjpmaa
open Go.RowKit
set_option linter.unusedVariables false
set_option linter.unusedSimpArgs false
set_option maxRecDepth 100000
set_option maxHeartbeats 4000000
attribute [local push_cast] Try.results17 Try.results32 Try.results33 Try.results34 Try.results54 Try.results6 Try.results7 vI vB nV sL oR Zk Zbi Yz Zz Xb Xh Ys Qw Zf4 Zef Zqm Zpi Zlf Zlk Zle Zlj Znu Znq Zli Znt Zns Znr Zlg Znp Zjk evS wok K0 Op.operands Call.operands gop atK List.all_cons List.all_nil Bool.and_self Value.oneCell' List.take_zero List.take_succ_cons List.take_nil List.drop_zero List.drop_succ_cons List.drop_nil List.append_nil Nat.add_zero Nat.zero_add Zbg Y3 ev K1 Zux Zqa Zp9 Zqf Zqd Zqe Zqb Zqc Zp8 Zs6 Zt0 Zxb Zki Zen Zjv Zew Zkw Zhm Zgp Zgu Zik Zig Zgs Zij Zii Zih Zgr Zif Zgq Zgt Zfm Zml Zio Zcw Zjw Zcx Zlu Zkg Zuz bLo bHi bMx Zeo Zlt Zyp Zkf Zme Zgl Zbq Ztp Zyt Zjt Zgw Zyw Zem Zz8 Zm2 Zm6 Zm1 Zm5 Zq0 Zqw Zqv Zky Zm3 Zqz Zqy Zqx Zm4 Zqr Zqu Zqq Zqt Zu6 Zu3 Zu2 Zqs Zu4 Zu5 Zkh gone pop TK.isAgg Zra Zre Zq9 Zrd Zng Zvr Zvn Zrc Zvq Zvp Zvo Zrb Zvm G.under G.unders List.getD_cons_zero List.getD_cons_succ List.set_cons_zero List.set_cons_succ List.map_cons List.map_nil List.toList_toArray Array.toList_append Option.toArray_none Option.toArray_some Option.map_some Option.map_none Option.bind_some Option.bind_none List.getElem?_cons_zero List.getElem?_cons_succ List.getElem?_nil List.nil_append List.cons_append List.replicate_succ List.replicate_zero List.length_cons List.length_nil and_true true_and false_and Bool.true_eq_false Bool.false_eq_true forall_const implies_true IntKind.bits ite_true ite_false eq_self or_false not_false_eq_true decide_true beq_iff_eq ne_eq beq_eq_false_iff_ne beq_self_eq_true Option.some.injEq exists_eq_left' gt_iff_lt Bool.not_true Bool.not_false imp_self cond_true cond_false Z6a Z59 Vu Gu Ve Zbl Jj Qd Option.join_some Nat.add_assoc Int.toNat_natCast eI eL Zt Zia Zgz Zql Zqj Zqk Z0n Z21 Zrn Zrl Zrm Zxk Zku Zur Zee Zs3 Zga List.length_append G.agg.injEq G.tup.injEq List.flatten_cons List.flatten_nil Nat.le_refl Bool.not_eq_true' Zsv Zlo Zw7 Zw2 Zw6 Z11 Zo7 Zka G.ren G.rens Zrq Zhr Zrs G.fn.injEq Zoe Zof Zw4 Zw3 Zu8 Z0f Option.join_none Z8 Zbc undef Zmf Arr.put_eq Zib Zk6 Zi9 Zhd Zrk Zri Zrj onB Z0m Ztn Zug Zk2 Zla Zjb Zhf Zk9 Znl Znk Znj Zni Z20 Z5o Zxj Zvv Vx Zxd Zpp Zzb Zru Zke Zmd Zuh Z51 Zgv prT Zex Z8a Zwr Zfa Zws Z8b Zwt Zxn Zwu Z8c Zwv Z8d Zww Z8e Zwx Z8f Zwy Z02 Zrw Z03 Zrx Z04 Zry Z05 Zrz Z06 Zr0 Z07 Zr1 Z08 Zr2 Z09 Zr3 Z1a Zr4 Z1b Zr5 Z1c Zr6 Z1d Zma Ztw Zh7 Z1e Zr7 Zb9 Zr8 Z1f Zou Z1g Zmb Z1h Zov Z1i Zr9 Zhj Zsa Z1j Zsb Zjl Zsc Z1k Zsd V2 Zse Z1l Zsf Z1m Zsg Z1n Zsh Zlm Zsi Z1o Zsj Zc9 Zsk Z1p Zsl Z1q Zsm Z1r Zsn Z1s Zso Zyc Zsp Z1t Zsq Z1u Zsr Z1v Zss Z1w Zst Z1x Zsu Zwq Zow Zv9 Znv Zwa Znw Zwb Znx Zwc Zny Zwd Znz Zwe Zn0 Zwf Zn1 Zwg Zn2 Zwh Zn3 Zwi Zn4 Zwj Zn5 Zwk Zn6 Zwl Zn7 Zwm Zn8 Zwn Zn9 Zwo Zoa Zwp Zob Za Q9 Zjm Z2u Z22 Zhg Zcq Zgk Zkx Zk4 Zb5 Zd Qf Zf Zc Js X3 Us Zbe Gt Zb4 Zd2 Zc8 Yf
theorem Zhq {a0:Zg} {a1:Zg} {r:(Zg×Zg×Int)} {O:Objs} {n:Nat} (h:Jv a0 a1=some r):GTo Try.prog 7 [.agg (Zk a0),.agg (Zk a1)] O n (.tup [.agg (Zk r.1),.agg (Zk r.2.1),(vI r.2.2)]) O n:=by
 unfold Jv at h
 refine zFn Try.call7 Try.func7 fun hU hN0 hN => ?_
 show W _ _ _ _ ⟨32,[],[(0,.agg (Zk a0)),(1,.agg (Zk a1))]⟩ (Zx O n []) _
 refine zQ [2,3,4,5] ?_
 refine zQ [2,3,4,5,7] ?_
 obtain ⟨y13,hy13,h⟩:=bC h
 obtain ⟨y37,hy37,h⟩:=bC h
 obtain ⟨y49,hy49,h⟩:=bC h
 refine Xa (E':=⟨32,[],[(4,.ref (n+2) 0),(5,.ref (n+3) 0),(7,.ref (n+4) 0),(8,.ref (n+5) 0),(9,.ref (n+6) 0)]⟩) (O':=(Zx O n [none,none,some ⟨false,30,11,1,[(vI 0),(vI 0),nV,nV,(vI 0),nV,nV,nV,nV,(vI 0),nV]⟩,some ⟨false,30,11,1,[(vI 0),(vI 0),nV,nV,(vI 0),nV,nV,nV,nV,(vI 0),nV]⟩,some ⟨false,43,2,1,[(vB y49.2.2.apart),(vB y49.2.2.clash)]⟩,some ⟨false,30,11,1,(Zk y49.1)⟩,some ⟨false,30,11,1,(Zk y49.2.1)⟩])) (n0:=(n+7)) ?_ ?_
 ·refine Zt7 Z0 (by kernel_rfl) [.low,.low,.low,.low,.pass,.plain,.plain,.plain,.pass,.pass,.pass,.pass] (fun i=>i < (n+5)∧¬ i=n+4) [0,1,2,3] [4,5,6,7,8,9] [10,11] (.alt 4 (.alt 5 (.alt 6 (.alt 7 (.alt 8 (.seq [9]) (.one 9 (.seq [8]))) (.alt 8 (.seq [7,9]) (.one 9 (.seq [7,8])))) (.alt 7 (.alt 6 (.alt 8 (.seq [9]) (.one 9 (.seq [8]))) (.alt 8 (.seq [6,9]) (.one 9 (.seq [6,8])))) (.alt 8 (.seq [6,7,9]) (.one 9 (.seq [6,7,8]))))) (.alt 8 (.seq [5,6,7,9]) (.one 9 (.seq [5,6,7,8])))) (.alt 8 (.alt 4 (.seq [5,6,7,9]) (.one 9 (.seq [4,5,6,7]))) (.one 9 (.alt 4 (.seq [5,6,7,8]) (.one 8 (.seq [4,5,6,7])))))) [.low,.low,.low,.low] [] (by kernel_rfl) rfl ?_
  simp (maxSteps:=4000000) only [push_cast,seval,Ze,hN0,hN]
  repeat (with_reducible refine And.intro (by omega) ?_)
  first | refine PCallA.of (fun _ _=>Zco hy13) ?_ | refine PCall.of (Zco hy13) ?_
  simp (maxSteps:=4000000) only [push_cast,seval,Ze,hN0,hN]
  repeat (with_reducible refine And.intro (by omega) ?_)
  first | refine PCallA.of (fun _ _=>Zco hy37) ?_ | refine PCall.of (Zco hy37) ?_
  try simp only [push_cast,seval,Ze,hN0,hN]
  repeat (with_reducible refine And.intro (by omega) ?_)
  try simp only [push_cast,seval,Ze,hN0,hN]
  refine And.intro ?_ ?_
  ·try simp only [push_cast,seval,Ze,hN0,hN]
   repeat (with_reducible refine And.intro (by first | exact Z6 rfl | exact Zw | exact Zy rfl | exact Zu rfl) ?_)
   refine (Ur (i900:=(n+4)) (by omega) (by simp only [push_cast,seval,Ze,Zt,hN0,hN] <;> rfl) hy49).then ?_
   try simp only [push_cast,seval,Ze,hN0,hN]
   repeat (with_reducible refine And.intro (by first | exact Z6 rfl | exact Zw | exact Zy rfl | exact Zu rfl) ?_)
   try simp only [push_cast,seval,Ze,hN0,hN]
   refine And.intro ?_ ?_
   ·try simp only [push_cast,seval,Ze,hN0,hN]
    repeat (with_reducible refine And.intro (by first | exact Z6 rfl | exact Zw | exact Zy rfl | exact Zu rfl) ?_)
    try simp only [push_cast,seval,Ze,hN0,hN]
    refine And.intro ?_ ?_
    ·try simp only [push_cast,seval,Ze,hN0,hN]
     repeat (with_reducible refine And.intro (by first | exact Z6 rfl | exact Zw | exact Zy rfl | exact Zu rfl) ?_)
     try simp only [push_cast,seval,Ze,hN0,hN]
     refine And.intro ?_ ?_
     ·try simp only [push_cast,seval,Ze,hN0,hN]
      repeat (with_reducible refine And.intro (by first | exact Z6 rfl | exact Zw | exact Zy rfl | exact Zu rfl) ?_)
      try simp only [push_cast,seval,Ze,hN0,hN]
      refine And.intro ?_ ?_
      ·try simp only [push_cast,seval,Ze,hN0,hN]
       repeat (with_reducible refine And.intro (by first | exact Z6 rfl | exact Zw | exact Zy rfl | exact Zu rfl) ?_)
       try simp only [push_cast,seval,Ze,hN0,hN]
       repeat (with_reducible refine And.intro (by first | exact Z6 rfl | exact Zw | exact Zy rfl | exact Zu rfl) ?_)
       exact zEf
      try simp only [push_cast,seval,Ze,hN0,hN]
      repeat (with_reducible refine And.intro (by first | exact Z6 rfl | exact Zw | exact Zy rfl | exact Zu rfl) ?_)
      try simp only [push_cast,seval,Ze,hN0,hN]
      repeat (with_reducible refine And.intro (by first | exact Z6 rfl | exact Zw | exact Zy rfl | exact Zu rfl) ?_)
      refine And.intro rfl ?_
      refine Fit2.trans (E':=(⟨32,[],[(4,.ref (n+2) 0),(5,.ref (n+3) 0),(7,.ref (n+4) 0),(8,.ref (n+6) 0),(9,.ref (n+5) 0)]⟩:Env)) (O':=(Zx O n [none,none,some ⟨false,30,11,1,[(vI 0),(vI 0),nV,nV,(vI 0),nV,nV,nV,nV,(vI 0),nV]⟩,some ⟨false,30,11,1,[(vI 0),(vI 0),nV,nV,(vI 0),nV,nV,nV,nV,(vI 0),nV]⟩,some ⟨false,43,2,1,[(vB y49.2.2.apart),(vB y49.2.2.clash)]⟩,some ⟨false,30,11,1,(Zk y49.2.1)⟩,some ⟨false,30,11,1,(Zk y49.1)⟩])) (n':=(n+7)) (Fit2.of (Yq hU rfl rfl ?_) (by omega)) ?_
      ·exact zSe
      refine Km (k:=7) (k':=7) hU [0,1,2,3,4,6,5] [0,1,2,3,4,6,5] rfl rfl rfl rfl ⟨rfl,rfl⟩ ?_
      exact zSe
     try simp only [push_cast,seval,Ze,hN0,hN]
     refine And.intro ?_ ?_
     ·try simp only [push_cast,seval,Ze,hN0,hN]
      repeat (with_reducible refine And.intro (by first | exact Z6 rfl | exact Zw | exact Zy rfl | exact Zu rfl) ?_)
      try simp only [push_cast,seval,Ze,hN0,hN]
      repeat (with_reducible refine And.intro (by first | exact Z6 rfl | exact Zw | exact Zy rfl | exact Zu rfl) ?_)
      exact zEf
     try simp only [push_cast,seval,Ze,hN0,hN]
     repeat (with_reducible refine And.intro (by first | exact Z6 rfl | exact Zw | exact Zy rfl | exact Zu rfl) ?_)
     try simp only [push_cast,seval,Ze,hN0,hN]
     repeat (with_reducible refine And.intro (by first | exact Z6 rfl | exact Zw | exact Zy rfl | exact Zu rfl) ?_)
     refine And.intro rfl ?_
     refine Fit2.trans (E':=(⟨32,[],[(4,.ref (n+2) 0),(5,.ref (n+3) 0),(7,.ref (n+4) 0),(8,.ref (n+6) 0),(9,.ref (n+5) 0)]⟩:Env)) (O':=(Zx O n [none,none,some ⟨false,30,11,1,[(vI 0),(vI 0),nV,nV,(vI 0),nV,nV,nV,nV,(vI 0),nV]⟩,some ⟨false,30,11,1,[(vI 0),(vI 0),nV,nV,(vI 0),nV,nV,nV,nV,(vI 0),nV]⟩,some ⟨false,43,2,1,[(vB y49.2.2.apart),(vB y49.2.2.clash)]⟩,some ⟨false,30,11,1,(Zk y49.2.1)⟩,some ⟨false,30,11,1,(Zk y49.1)⟩])) (n':=(n+7)) (Fit2.of (Yq hU rfl rfl ?_) (by omega)) ?_
     ·exact zSe
     refine Km (k:=7) (k':=7) hU [0,1,2,3,4,6,5] [0,1,2,3,4,6,5] rfl rfl rfl rfl ⟨rfl,rfl⟩ ?_
     exact zSe
    try simp only [push_cast,seval,Ze,hN0,hN]
    refine And.intro ?_ ?_
    ·try simp only [push_cast,seval,Ze,hN0,hN]
     repeat (with_reducible refine And.intro (by first | exact Z6 rfl | exact Zw | exact Zy rfl | exact Zu rfl) ?_)
     try simp only [push_cast,seval,Ze,hN0,hN]
     refine And.intro ?_ ?_
     ·try simp only [push_cast,seval,Ze,hN0,hN]
      repeat (with_reducible refine And.intro (by first | exact Z6 rfl | exact Zw | exact Zy rfl | exact Zu rfl) ?_)
      try simp only [push_cast,seval,Ze,hN0,hN]
      refine And.intro ?_ ?_
      ·try simp only [push_cast,seval,Ze,hN0,hN]
       repeat (with_reducible refine And.intro (by first | exact Z6 rfl | exact Zw | exact Zy rfl | exact Zu rfl) ?_)
       try simp only [push_cast,seval,Ze,hN0,hN]
       repeat (with_reducible refine And.intro (by first | exact Z6 rfl | exact Zw | exact Zy rfl | exact Zu rfl) ?_)
       exact zEf
      try simp only [push_cast,seval,Ze,hN0,hN]
      repeat (with_reducible refine And.intro (by first | exact Z6 rfl | exact Zw | exact Zy rfl | exact Zu rfl) ?_)
      try simp only [push_cast,seval,Ze,hN0,hN]
      repeat (with_reducible refine And.intro (by first | exact Z6 rfl | exact Zw | exact Zy rfl | exact Zu rfl) ?_)
      refine And.intro rfl ?_
      refine Fit2.trans (E':=(⟨32,[],[(4,.ref (n+2) 0),(5,.ref (n+3) 0),(7,.ref (n+4) 0),(8,.ref (n+6) 0),(9,.ref (n+5) 0)]⟩:Env)) (O':=(Zx O n [none,none,some ⟨false,30,11,1,[(vI 0),(vI 0),nV,nV,(vI 0),nV,nV,nV,nV,(vI 0),nV]⟩,some ⟨false,30,11,1,[(vI 0),(vI 0),nV,nV,(vI 0),nV,nV,nV,nV,(vI 0),nV]⟩,some ⟨false,43,2,1,[(vB y49.2.2.apart),(vB y49.2.2.clash)]⟩,some ⟨false,30,11,1,(Zk y49.2.1)⟩,some ⟨false,30,11,1,(Zk y49.1)⟩])) (n':=(n+7)) (Fit2.of (Yq hU rfl rfl ?_) (by omega)) ?_
      ·exact zSe
      refine Km (k:=7) (k':=7) hU [0,1,2,3,4,6,5] [0,1,2,3,4,6,5] rfl rfl rfl rfl ⟨rfl,rfl⟩ ?_
      exact zSe
     try simp only [push_cast,seval,Ze,hN0,hN]
     refine And.intro ?_ ?_
     ·try simp only [push_cast,seval,Ze,hN0,hN]
      repeat (with_reducible refine And.intro (by first | exact Z6 rfl | exact Zw | exact Zy rfl | exact Zu rfl) ?_)
      try simp only [push_cast,seval,Ze,hN0,hN]
      repeat (with_reducible refine And.intro (by first | exact Z6 rfl | exact Zw | exact Zy rfl | exact Zu rfl) ?_)
      exact zEf
     try simp only [push_cast,seval,Ze,hN0,hN]
     repeat (with_reducible refine And.intro (by first | exact Z6 rfl | exact Zw | exact Zy rfl | exact Zu rfl) ?_)
     try simp only [push_cast,seval,Ze,hN0,hN]
     repeat (with_reducible refine And.intro (by first | exact Z6 rfl | exact Zw | exact Zy rfl | exact Zu rfl) ?_)
     refine And.intro rfl ?_
     refine Fit2.trans (E':=(⟨32,[],[(4,.ref (n+2) 0),(5,.ref (n+3) 0),(7,.ref (n+4) 0),(8,.ref (n+6) 0),(9,.ref (n+5) 0)]⟩:Env)) (O':=(Zx O n [none,none,some ⟨false,30,11,1,[(vI 0),(vI 0),nV,nV,(vI 0),nV,nV,nV,nV,(vI 0),nV]⟩,some ⟨false,30,11,1,[(vI 0),(vI 0),nV,nV,(vI 0),nV,nV,nV,nV,(vI 0),nV]⟩,some ⟨false,43,2,1,[(vB y49.2.2.apart),(vB y49.2.2.clash)]⟩,some ⟨false,30,11,1,(Zk y49.2.1)⟩,some ⟨false,30,11,1,(Zk y49.1)⟩])) (n':=(n+7)) (Fit2.of (Yq hU rfl rfl ?_) (by omega)) ?_
     ·exact zSe
     refine Km (k:=7) (k':=7) hU [0,1,2,3,4,6,5] [0,1,2,3,4,6,5] rfl rfl rfl rfl ⟨rfl,rfl⟩ ?_
     exact zSe
    try simp only [push_cast,seval,Ze,hN0,hN]
    refine And.intro ?_ ?_
    ·try simp only [push_cast,seval,Ze,hN0,hN]
     repeat (with_reducible refine And.intro (by first | exact Z6 rfl | exact Zw | exact Zy rfl | exact Zu rfl) ?_)
     try simp only [push_cast,seval,Ze,hN0,hN]
     repeat (with_reducible refine And.intro (by first | exact Z6 rfl | exact Zw | exact Zy rfl | exact Zu rfl) ?_)
     exact zEf
    try simp only [push_cast,seval,Ze,hN0,hN]
    repeat (with_reducible refine And.intro (by first | exact Z6 rfl | exact Zw | exact Zy rfl | exact Zu rfl) ?_)
    try simp only [push_cast,seval,Ze,hN0,hN]
    repeat (with_reducible refine And.intro (by first | exact Z6 rfl | exact Zw | exact Zy rfl | exact Zu rfl) ?_)
    refine And.intro rfl ?_
    refine Fit2.trans (E':=(⟨32,[],[(4,.ref (n+2) 0),(5,.ref (n+3) 0),(7,.ref (n+4) 0),(8,.ref (n+6) 0),(9,.ref (n+5) 0)]⟩:Env)) (O':=(Zx O n [none,none,some ⟨false,30,11,1,[(vI 0),(vI 0),nV,nV,(vI 0),nV,nV,nV,nV,(vI 0),nV]⟩,some ⟨false,30,11,1,[(vI 0),(vI 0),nV,nV,(vI 0),nV,nV,nV,nV,(vI 0),nV]⟩,some ⟨false,43,2,1,[(vB y49.2.2.apart),(vB y49.2.2.clash)]⟩,some ⟨false,30,11,1,(Zk y49.2.1)⟩,some ⟨false,30,11,1,(Zk y49.1)⟩])) (n':=(n+7)) (Fit2.of (Yq hU rfl rfl ?_) (by omega)) ?_
    ·exact zSe
    refine Km (k:=7) (k':=7) hU [0,1,2,3,4,6,5] [0,1,2,3,4,6,5] rfl rfl rfl rfl ⟨rfl,rfl⟩ ?_
    exact zSe
   try simp only [push_cast,seval,Ze,hN0,hN]
   refine And.intro ?_ ?_
   ·try simp only [push_cast,seval,Ze,hN0,hN]
    repeat (with_reducible refine And.intro (by first | exact Z6 rfl | exact Zw | exact Zy rfl | exact Zu rfl) ?_)
    try simp only [push_cast,seval,Ze,hN0,hN]
    repeat (with_reducible refine And.intro (by first | exact Z6 rfl | exact Zw | exact Zy rfl | exact Zu rfl) ?_)
    exact zEf
   try simp only [push_cast,seval,Ze,hN0,hN]
   repeat (with_reducible refine And.intro (by first | exact Z6 rfl | exact Zw | exact Zy rfl | exact Zu rfl) ?_)
   try simp only [push_cast,seval,Ze,hN0,hN]
   repeat (with_reducible refine And.intro (by first | exact Z6 rfl | exact Zw | exact Zy rfl | exact Zu rfl) ?_)
   refine And.intro rfl ?_
   refine Fit2.trans (E':=(⟨32,[],[(4,.ref (n+2) 0),(5,.ref (n+3) 0),(7,.ref (n+4) 0),(8,.ref (n+6) 0),(9,.ref (n+5) 0)]⟩:Env)) (O':=(Zx O n [none,none,some ⟨false,30,11,1,[(vI 0),(vI 0),nV,nV,(vI 0),nV,nV,nV,nV,(vI 0),nV]⟩,some ⟨false,30,11,1,[(vI 0),(vI 0),nV,nV,(vI 0),nV,nV,nV,nV,(vI 0),nV]⟩,some ⟨false,43,2,1,[(vB y49.2.2.apart),(vB y49.2.2.clash)]⟩,some ⟨false,30,11,1,(Zk y49.2.1)⟩,some ⟨false,30,11,1,(Zk y49.1)⟩])) (n':=(n+7)) (Fit2.of (Yq hU rfl rfl ?_) (by omega)) ?_
   ·exact zSe
   refine Km (k:=7) (k':=7) hU [0,1,2,3,4,6,5] [0,1,2,3,4,6,5] rfl rfl rfl rfl ⟨rfl,rfl⟩ ?_
   exact zSe
  try simp only [push_cast,seval,Ze,hN0,hN]
  refine And.intro ?_ ?_
  ·try simp only [push_cast,seval,Ze,hN0,hN]
   repeat (with_reducible refine And.intro (by first | exact Z6 rfl | exact Zw | exact Zy rfl | exact Zu rfl) ?_)
   try simp only [push_cast,seval,Ze,hN0,hN]
   refine And.intro ?_ ?_
   ·try simp only [push_cast,seval,Ze,hN0,hN]
    repeat (with_reducible refine And.intro (by first | exact Z6 rfl | exact Zw | exact Zy rfl | exact Zu rfl) ?_)
    refine (Ur (i900:=(n+4)) (by omega) (by simp only [push_cast,seval,Ze,Zt,hN0,hN] <;> rfl) hy49).then ?_
    try simp only [push_cast,seval,Ze,hN0,hN]
    repeat (with_reducible refine And.intro (by first | exact Z6 rfl | exact Zw | exact Zy rfl | exact Zu rfl) ?_)
    try simp only [push_cast,seval,Ze,hN0,hN]
    repeat (with_reducible refine And.intro (by first | exact Z6 rfl | exact Zw | exact Zy rfl | exact Zu rfl) ?_)
    exact zEf
   try simp only [push_cast,seval,Ze,hN0,hN]
   repeat (with_reducible refine And.intro (by first | exact Z6 rfl | exact Zw | exact Zy rfl | exact Zu rfl) ?_)
   try simp only [push_cast,seval,Ze,hN0,hN]
   repeat (with_reducible refine And.intro (by first | exact Z6 rfl | exact Zw | exact Zy rfl | exact Zu rfl) ?_)
   refine (Ur (i900:=(n+4)) (by omega) (by simp only [push_cast,seval,Ze,Zt,hN0,hN] <;> rfl) hy49).then ?_
   try simp only [push_cast,seval,Ze,hN0,hN]
   repeat (with_reducible refine And.intro (by first | exact Z6 rfl | exact Zw | exact Zy rfl | exact Zu rfl) ?_)
   exact zEf
  try simp only [push_cast,seval,Ze,hN0,hN]
  repeat (with_reducible refine And.intro (by first | exact Z6 rfl | exact Zw | exact Zy rfl | exact Zu rfl) ?_)
  try simp only [push_cast,seval,Ze,hN0,hN]
  refine And.intro ?_ ?_
  ·try simp only [push_cast,seval,Ze,hN0,hN]
   repeat (with_reducible refine And.intro (by first | exact Z6 rfl | exact Zw | exact Zy rfl | exact Zu rfl) ?_)
   refine (Ur (i900:=(n+4)) (by omega) (by simp only [push_cast,seval,Ze,Zt,hN0,hN] <;> rfl) hy49).then ?_
   try simp only [push_cast,seval,Ze,hN0,hN]
   repeat (with_reducible refine And.intro (by first | exact Z6 rfl | exact Zw | exact Zy rfl | exact Zu rfl) ?_)
   try simp only [push_cast,seval,Ze,hN0,hN]
   repeat (with_reducible refine And.intro (by first | exact Z6 rfl | exact Zw | exact Zy rfl | exact Zu rfl) ?_)
   refine And.intro rfl ?_
   refine Fit2.trans (E':=(⟨32,[],[(4,.ref (n+2) 0),(5,.ref (n+3) 0),(7,.ref (n+4) 0),(8,.ref (n+6) 0),(9,.ref (n+5) 0)]⟩:Env)) (O':=(Zx O n [none,none,some ⟨false,30,11,1,[(vI 0),(vI 0),nV,nV,(vI 0),nV,nV,nV,nV,(vI 0),nV]⟩,some ⟨false,30,11,1,[(vI 0),(vI 0),nV,nV,(vI 0),nV,nV,nV,nV,(vI 0),nV]⟩,some ⟨false,43,2,1,[(vB y49.2.2.apart),(vB y49.2.2.clash)]⟩,some ⟨false,30,11,1,(Zk y49.2.1)⟩,some ⟨false,30,11,1,(Zk y49.1)⟩])) (n':=(n+7)) (Fit2.of (Yq hU rfl rfl ?_) (by omega)) ?_
   ·exact zSe
   refine Km (k:=7) (k':=7) hU [0,1,2,3,4,6,5] [0,1,2,3,4,6,5] rfl rfl rfl rfl ⟨rfl,rfl⟩ ?_
   exact zSe
  try simp only [push_cast,seval,Ze,hN0,hN]
  repeat (with_reducible refine And.intro (by first | exact Z6 rfl | exact Zw | exact Zy rfl | exact Zu rfl) ?_)
  try simp only [push_cast,seval,Ze,hN0,hN]
  repeat (with_reducible refine And.intro (by first | exact Z6 rfl | exact Zw | exact Zy rfl | exact Zu rfl) ?_)
  refine (Ur (i900:=(n+4)) (by omega) (by simp only [push_cast,seval,Ze,Zt,hN0,hN] <;> rfl) hy49).then ?_
  try simp only [push_cast,seval,Ze,hN0,hN]
  repeat (with_reducible refine And.intro (by first | exact Z6 rfl | exact Zw | exact Zy rfl | exact Zu rfl) ?_)
  refine And.intro rfl ?_
  refine Fit2.trans (E':=(⟨32,[],[(4,.ref (n+2) 0),(5,.ref (n+3) 0),(7,.ref (n+4) 0),(8,.ref (n+6) 0),(9,.ref (n+5) 0)]⟩:Env)) (O':=(Zx O n [none,none,some ⟨false,30,11,1,[(vI 0),(vI 0),nV,nV,(vI 0),nV,nV,nV,nV,(vI 0),nV]⟩,some ⟨false,30,11,1,[(vI 0),(vI 0),nV,nV,(vI 0),nV,nV,nV,nV,(vI 0),nV]⟩,some ⟨false,43,2,1,[(vB y49.2.2.apart),(vB y49.2.2.clash)]⟩,some ⟨false,30,11,1,(Zk y49.2.1)⟩,some ⟨false,30,11,1,(Zk y49.1)⟩])) (n':=(n+7)) (Fit2.of (Yq hU rfl rfl ?_) (by omega)) ?_
  ·exact zSe
  refine Km (k:=7) (k':=7) hU [0,1,2,3,4,6,5] [0,1,2,3,4,6,5] rfl rfl rfl rfl ⟨rfl,rfl⟩ ?_
  exact zSe
 refine Zq ?_
 refine Yy ?_
 refine zQ [4,5,7,8,9,18] ?_
 refine Z5 (t:=y49.2.2.apart) rfl (fun c150 => ?_) (fun c150 => ?_)
 ·replace h:=Z4 c150 h
  refine Zq ?_
  refine zRd [4,5,6] [false,false,true,true,false,false,false] ?_
  exact X6 [.agg [(vI 0),(vI 0),nV,nV,(vI 0),nV,nV,nV,nV,(vI 0),nV],.agg [(vI 0),(vI 0),nV,nV,(vI 0),nV,nV,nV,nV,(vI 0),nV],(vI 14)]
 replace h:=Z3 c150 h
 refine zQ [4,5,8,9,23] ?_
 refine Z5 (t:=y49.2.2.clash) rfl (fun c149 => ?_) (fun c149 => ?_)
 ·replace h:=Z4 c149 h
  refine Zq ?_
  refine zRd [4,5,6] [false,false,true,true,false,false,false] ?_
  exact X6 [.agg [(vI 0),(vI 0),nV,nV,(vI 0),nV,nV,nV,nV,(vI 0),nV],.agg [(vI 0),(vI 0),nV,nV,(vI 0),nV,nV,nV,nV,(vI 0),nV],(vI 13)]
 replace h:=Z3 c149 h
 refine Gk [4,5,8,9] [false,false,true,true,false,true,true] ?_
 refine Zq ?_
 obtain ⟨y147,hy147,h⟩:=bC h
 obtain ⟨y148,hy148,h⟩:=bC h
 refine Gv Z0 (by kernel_rfl) [false,false,false,false,true,true,false] [] (by kernel_rfl) ?_
 refine zS ?_
 refine PCall.of (Zco hy147) ?_
 refine zS ?_
 refine PCall.of (Zco hy148) ?_
 refine zS ?_
 refine zD [4,5,6] [false,false,true,true,false,false,false] ?_
 exact X6 [.agg (Zk y147),.agg (Zk y148),(vI 0)]
theorem Zhu  {r:Bool} {O:Objs} {n:Nat} (h:V5=some r):GTo Try.prog 6 [] O n ((vB r)) O n:=by
 unfold V5 at h
 refine zFn Try.call6 Try.func6 fun hU hN0 hN => ?_
 show W _ _ _ _ ⟨77,[],[]⟩ (Zx O n []) _
 refine zQ [] ?_
 refine Zq ?_
 refine zR ?_
 refine Zc3 ⟨77,[],[(1,.row (n+1) ([(⟨10,([1]:List Int),([]:(List Zb))⟩:Zb)]:List Zb).length)]⟩ (Zx O n [none,some (oR 25 3 Za ([(⟨10,([1]:List Int),([]:(List Zb))⟩:Zb)]:List Zb))]) (Yq hU rfl rfl ?_) ?_
 ·exact zSe
 refine Zq ?_
 refine zR ?_
 refine Zc3 ⟨77,[],[(1,.row (n+1) ([(⟨10,([1]:List Int),([]:(List Zb))⟩:Zb)]:List Zb).length),(2,.row (n+3) ([(⟨10,([2]:List Int),([]:(List Zb))⟩:Zb)]:List Zb).length)]⟩ (Zx O n [none,some (oR 25 3 Za ([(⟨10,([1]:List Int),([]:(List Zb))⟩:Zb)]:List Zb)),none,some (oR 25 3 Za ([(⟨10,([2]:List Int),([]:(List Zb))⟩:Zb)]:List Zb))]) (Yq hU rfl rfl ?_) ?_
 ·exact zSe
 refine Zc3 ⟨77,[],[(1,(sL Za ([(⟨10,([1]:List Int),([]:(List Zb))⟩:Zb)]:List Zb))),(2,.row (n+3) ([(⟨10,([2]:List Int),([]:(List Zb))⟩:Zb)]:List Zb).length)]⟩ (Zx O n [none,none,none,some (oR 25 3 Za ([(⟨10,([2]:List Int),([]:(List Zb))⟩:Zb)]:List Zb))]) (Yq hU rfl rfl ?_) ?_
 ·exact zSe
 refine Zq ?_
 refine zR ?_
 refine Zc3 ⟨77,[],[(2,.row (n+3) ([(⟨10,([2]:List Int),([]:(List Zb))⟩:Zb)]:List Zb).length),(3,.ref (n+5) 0)]⟩ (Zx O n [none,none,none,some (oR 25 3 Za ([(⟨10,([2]:List Int),([]:(List Zb))⟩:Zb)]:List Zb)),some (oR 41 14 Zf ([(⟨2,0,([(⟨10,([1]:List Int),([]:(List Zb))⟩:Zb)]:List Zb),(⟨0,(⟨0,([]:(List Int)),([]:(List Zb))⟩:Zb),(⟨0,([]:(List Int)),([]:(List Zb))⟩:Zb),([]:(List Zp)),([]:(List Zm)),0,([]:(List Zl))⟩:Zg)⟩:Zl),(⟨0,1,([]:(List Zb)),(⟨0,(⟨0,([]:(List Int)),([]:(List Zb))⟩:Zb),(⟨0,([]:(List Int)),([]:(List Zb))⟩:Zb),([]:(List Zp)),([]:(List Zm)),0,([]:(List Zl))⟩:Zg)⟩:Zl)]:List Zl)),some ⟨false,30,11,1,[(vI 3),(vI 0),nV,nV,(vI 0),nV,nV,nV,nV,(vI 4),.row (n+4) ([(⟨2,0,([(⟨10,([1]:List Int),([]:(List Zb))⟩:Zb)]:List Zb),(⟨0,(⟨0,([]:(List Int)),([]:(List Zb))⟩:Zb),(⟨0,([]:(List Int)),([]:(List Zb))⟩:Zb),([]:(List Zp)),([]:(List Zm)),0,([]:(List Zl))⟩:Zg)⟩:Zl),(⟨0,1,([]:(List Zb)),(⟨0,(⟨0,([]:(List Int)),([]:(List Zb))⟩:Zb),(⟨0,([]:(List Int)),([]:(List Zb))⟩:Zb),([]:(List Zp)),([]:(List Zm)),0,([]:(List Zl))⟩:Zg)⟩:Zl)]:List Zl).length]⟩]) (Yq hU rfl rfl ?_) ?_
 ·exact zSe
 refine Zc3 ⟨77,[],[(2,(sL Za ([(⟨10,([2]:List Int),([]:(List Zb))⟩:Zb)]:List Zb))),(3,.ref (n+5) 0)]⟩ (Zx O n [none,none,none,none,some (oR 41 14 Zf ([(⟨2,0,([(⟨10,([1]:List Int),([]:(List Zb))⟩:Zb)]:List Zb),(⟨0,(⟨0,([]:(List Int)),([]:(List Zb))⟩:Zb),(⟨0,([]:(List Int)),([]:(List Zb))⟩:Zb),([]:(List Zp)),([]:(List Zm)),0,([]:(List Zl))⟩:Zg)⟩:Zl),(⟨0,1,([]:(List Zb)),(⟨0,(⟨0,([]:(List Int)),([]:(List Zb))⟩:Zb),(⟨0,([]:(List Int)),([]:(List Zb))⟩:Zb),([]:(List Zp)),([]:(List Zm)),0,([]:(List Zl))⟩:Zg)⟩:Zl)]:List Zl)),some ⟨false,30,11,1,[(vI 3),(vI 0),nV,nV,(vI 0),nV,nV,nV,nV,(vI 4),.row (n+4) ([(⟨2,0,([(⟨10,([1]:List Int),([]:(List Zb))⟩:Zb)]:List Zb),(⟨0,(⟨0,([]:(List Int)),([]:(List Zb))⟩:Zb),(⟨0,([]:(List Int)),([]:(List Zb))⟩:Zb),([]:(List Zp)),([]:(List Zm)),0,([]:(List Zl))⟩:Zg)⟩:Zl),(⟨0,1,([]:(List Zb)),(⟨0,(⟨0,([]:(List Int)),([]:(List Zb))⟩:Zb),(⟨0,([]:(List Int)),([]:(List Zb))⟩:Zb),([]:(List Zp)),([]:(List Zm)),0,([]:(List Zl))⟩:Zg)⟩:Zl)]:List Zl).length]⟩]) (Yq hU rfl rfl ?_) ?_
 ·exact zSe
 refine Zq ?_
 refine zR ?_
 refine Zc3 ⟨77,[],[(3,.ref (n+5) 0),(4,.ref (n+7) 0)]⟩ (Zx O n [none,none,none,none,some (oR 41 14 Zf ([(⟨2,0,([(⟨10,([1]:List Int),([]:(List Zb))⟩:Zb)]:List Zb),(⟨0,(⟨0,([]:(List Int)),([]:(List Zb))⟩:Zb),(⟨0,([]:(List Int)),([]:(List Zb))⟩:Zb),([]:(List Zp)),([]:(List Zm)),0,([]:(List Zl))⟩:Zg)⟩:Zl),(⟨0,1,([]:(List Zb)),(⟨0,(⟨0,([]:(List Int)),([]:(List Zb))⟩:Zb),(⟨0,([]:(List Int)),([]:(List Zb))⟩:Zb),([]:(List Zp)),([]:(List Zm)),0,([]:(List Zl))⟩:Zg)⟩:Zl)]:List Zl)),some ⟨false,30,11,1,[(vI 3),(vI 0),nV,nV,(vI 0),nV,nV,nV,nV,(vI 4),.row (n+4) ([(⟨2,0,([(⟨10,([1]:List Int),([]:(List Zb))⟩:Zb)]:List Zb),(⟨0,(⟨0,([]:(List Int)),([]:(List Zb))⟩:Zb),(⟨0,([]:(List Int)),([]:(List Zb))⟩:Zb),([]:(List Zp)),([]:(List Zm)),0,([]:(List Zl))⟩:Zg)⟩:Zl),(⟨0,1,([]:(List Zb)),(⟨0,(⟨0,([]:(List Int)),([]:(List Zb))⟩:Zb),(⟨0,([]:(List Int)),([]:(List Zb))⟩:Zb),([]:(List Zp)),([]:(List Zm)),0,([]:(List Zl))⟩:Zg)⟩:Zl)]:List Zl).length]⟩,some (oR 41 14 Zf ([(⟨0,1,([]:(List Zb)),(⟨0,(⟨0,([]:(List Int)),([]:(List Zb))⟩:Zb),(⟨0,([]:(List Int)),([]:(List Zb))⟩:Zb),([]:(List Zp)),([]:(List Zm)),0,([]:(List Zl))⟩:Zg)⟩:Zl),(⟨2,0,([(⟨10,([2]:List Int),([]:(List Zb))⟩:Zb)]:List Zb),(⟨0,(⟨0,([]:(List Int)),([]:(List Zb))⟩:Zb),(⟨0,([]:(List Int)),([]:(List Zb))⟩:Zb),([]:(List Zp)),([]:(List Zm)),0,([]:(List Zl))⟩:Zg)⟩:Zl)]:List Zl)),some ⟨false,30,11,1,[(vI 3),(vI 0),nV,nV,(vI 0),nV,nV,nV,nV,(vI 4),.row (n+6) ([(⟨0,1,([]:(List Zb)),(⟨0,(⟨0,([]:(List Int)),([]:(List Zb))⟩:Zb),(⟨0,([]:(List Int)),([]:(List Zb))⟩:Zb),([]:(List Zp)),([]:(List Zm)),0,([]:(List Zl))⟩:Zg)⟩:Zl),(⟨2,0,([(⟨10,([2]:List Int),([]:(List Zb))⟩:Zb)]:List Zb),(⟨0,(⟨0,([]:(List Int)),([]:(List Zb))⟩:Zb),(⟨0,([]:(List Int)),([]:(List Zb))⟩:Zb),([]:(List Zp)),([]:(List Zm)),0,([]:(List Zl))⟩:Zg)⟩:Zl)]:List Zl).length]⟩]) (Yq hU rfl rfl ?_) ?_
 ·exact zSe
 refine Zc3 ⟨77,[],[(3,.ref (n+5) 0),(4,.ref (n+7) 0)]⟩ (Zx O n [none,none,none,none,none,some ⟨false,30,11,1,[(vI 3),(vI 0),nV,nV,(vI 0),nV,nV,nV,nV,(vI 4),(sL Zf ([(⟨2,0,([(⟨10,([1]:List Int),([]:(List Zb))⟩:Zb)]:List Zb),(⟨0,(⟨0,([]:(List Int)),([]:(List Zb))⟩:Zb),(⟨0,([]:(List Int)),([]:(List Zb))⟩:Zb),([]:(List Zp)),([]:(List Zm)),0,([]:(List Zl))⟩:Zg)⟩:Zl),(⟨0,1,([]:(List Zb)),(⟨0,(⟨0,([]:(List Int)),([]:(List Zb))⟩:Zb),(⟨0,([]:(List Int)),([]:(List Zb))⟩:Zb),([]:(List Zp)),([]:(List Zm)),0,([]:(List Zl))⟩:Zg)⟩:Zl)]:List Zl))]⟩,none,some ⟨false,30,11,1,[(vI 3),(vI 0),nV,nV,(vI 0),nV,nV,nV,nV,(vI 4),(sL Zf ([(⟨0,1,([]:(List Zb)),(⟨0,(⟨0,([]:(List Int)),([]:(List Zb))⟩:Zb),(⟨0,([]:(List Int)),([]:(List Zb))⟩:Zb),([]:(List Zp)),([]:(List Zm)),0,([]:(List Zl))⟩:Zg)⟩:Zl),(⟨2,0,([(⟨10,([2]:List Int),([]:(List Zb))⟩:Zb)]:List Zb),(⟨0,(⟨0,([]:(List Int)),([]:(List Zb))⟩:Zb),(⟨0,([]:(List Int)),([]:(List Zb))⟩:Zb),([]:(List Zp)),([]:(List Zm)),0,([]:(List Zl))⟩:Zg)⟩:Zl)]:List Zl))]⟩]) (Yq hU rfl rfl ?_) ?_
 ·exact zSe
 refine Zq ?_
 obtain ⟨y2,hy2,h⟩:=bC h
 refine zR ?_
 refine GCalls.argsW ?_ ((Zhq hy2).then ?_)
 ·exact zSe
 refine zS ?_
 refine zD [5,6,7] [false,false,false,false,false,false,false,false,true,true] ?_
 obtain ⟨z11,hz11,h⟩:=bC h
 refine Xa (E':=⟨77,[],[(0,(vB z11))]⟩) (O':=(Zx O n [none,none,none,none,none,none,none,none,none,none])) (n0:=(n+10)) ?_ ?_
 ·rcases Bool.eq_false_or_eq_true (y2.2.2 == 0) with c28 | c28
  ·replace hz11:=Z4 c28 hz11
   rcases Bool.eq_false_or_eq_true ((y2.1.Ops.length:Int) == 2) with c29 | c29
   ·replace hz11:=Z4 c29 hz11
    try rw [c29] at c28
    obtain ⟨x20,hx20,ax20,bx20,cx20,hz11⟩:=bE (f:=Zf) V2 (fun _=>rfl) (by decide) hz11
    have g21:=Qc (f:=Zf) (sz:=14) Zfa (fun _=>rfl) (by decide) (by decide) hx20
    rcases Bool.eq_false_or_eq_true (x20.Kind == 2) with c30 | c30
    ·replace hz11:=Z4 c30 hz11
     try rw [c30] at c28
     try rw [c30] at c29
     obtain ⟨x22,hx22,ax22,bx22,cx22,hz11⟩:=bE (f:=Zf) V2 (fun _=>rfl) (by decide) hz11
     have g23:=Jn (f:=Zf) (off:=1) (sz:=14) Zfa (fun _=>rfl) (by decide) (by decide) hx22
     rcases Bool.eq_false_or_eq_true (x22.N == 2) with c31 | c31
     ·replace hz11:=Z4 c31 hz11
      try rw [c31] at c28
      try rw [c31] at c29
      try rw [c31] at c30
      rcases Bool.eq_false_or_eq_true ((y2.2.1.Ops.length:Int) == 2) with c32 | c32
      ·replace hz11:=Z4 c32 hz11
       try rw [c32] at c28
       try rw [c32] at c29
       try rw [c32] at c30
       try rw [c32] at c31
       obtain ⟨x24,hx24,ax24,bx24,cx24,hz11⟩:=bE (f:=Zf) V2 (fun _=>rfl) (by decide) hz11
       have g25:=Jn (f:=Zf) (off:=1) (sz:=14) Zfa (fun _=>rfl) (by decide) (by decide) hx24
       rcases Bool.eq_false_or_eq_true (x24.N == 2) with c33 | c33
       ·replace hz11:=Z4 c33 hz11
        try rw [c33] at c28
        try rw [c33] at c29
        try rw [c33] at c30
        try rw [c33] at c31
        try rw [c33] at c32
        obtain ⟨x26,hx26,ax26,bx26,cx26,hz11⟩:=bE (f:=Zf) V2 (fun _=>rfl) (by decide) hz11
        have g27:=Qc (f:=Zf) (sz:=14) Zfa (fun _=>rfl) (by decide) (by decide) hx26
        refine Ya Z0 (Zvh (Zpd (Zvh (Zpd [])))) ?_
        simp only [push_cast,Nat.reduceAdd,Nat.reduceSub,Nat.reduceMul,Nat.reduceLeDiff,Nat.reduceLT,Nat.reduceEqDiff,↓reduceIte,reduceCtorEq,Int.reduceBEq,Int.reduceBNe,Nat.reduceBEq,Int.reduceLE,Int.reduceLT,Int.reduceEq,Int.reduceNe,Int.reduceNeg,Nat.reduceDiv,Nat.reduceMod,Nat.reducePow,Ze,c28,c29,ax20,bx20,cx20,g21,c30,ax22,bx22,cx22,g23,c31,c32,ax24,bx24,cx24,g25,c33,ax26,bx26,cx26,g27,hN0,hN]
        refine zG ?_
        obtain rfl:=sI hz11
        refine And.intro rfl (Fit2.of (Yq hU rfl rfl ?_) (by omega))
        simp only [push_cast,Nat.reduceAdd,Nat.reduceSub,Nat.reduceMul,Nat.reduceLeDiff,Nat.reduceLT,Nat.reduceEqDiff,↓reduceIte,reduceCtorEq,Int.reduceBEq,Int.reduceBNe,Nat.reduceBEq,Int.reduceLE,Int.reduceLT,Int.reduceEq,Int.reduceNe,Int.reduceNeg,Nat.reduceDiv,Nat.reduceMod,Nat.reducePow,Ze,c28,c29,ax20,bx20,cx20,g21,c30,ax22,bx22,cx22,g23,c31,c32,ax24,bx24,cx24,g25,c33,ax26,bx26,cx26,g27,hN0,hN]
       replace hz11:=Z3 c33 hz11
       try rw [c33] at c28
       try rw [c33] at c29
       try rw [c33] at c30
       try rw [c33] at c31
       try rw [c33] at c32
       refine Ya Z0 (Zvh (Zpd (Zvh (Zt2 (Zxe []))))) ?_
       simp only [push_cast,Nat.reduceAdd,Nat.reduceSub,Nat.reduceMul,Nat.reduceLeDiff,Nat.reduceLT,Nat.reduceEqDiff,↓reduceIte,reduceCtorEq,Int.reduceBEq,Int.reduceBNe,Nat.reduceBEq,Int.reduceLE,Int.reduceLT,Int.reduceEq,Int.reduceNe,Int.reduceNeg,Nat.reduceDiv,Nat.reduceMod,Nat.reducePow,Ze,c28,c29,ax20,bx20,cx20,g21,c30,ax22,bx22,cx22,g23,c31,c32,ax24,bx24,cx24,g25,c33,hN0,hN]
       refine zG ?_
       obtain rfl:=sI hz11
       refine And.intro rfl (Fit2.of (Yq hU rfl rfl ?_) (by omega))
       simp only [push_cast,Nat.reduceAdd,Nat.reduceSub,Nat.reduceMul,Nat.reduceLeDiff,Nat.reduceLT,Nat.reduceEqDiff,↓reduceIte,reduceCtorEq,Int.reduceBEq,Int.reduceBNe,Nat.reduceBEq,Int.reduceLE,Int.reduceLT,Int.reduceEq,Int.reduceNe,Int.reduceNeg,Nat.reduceDiv,Nat.reduceMod,Nat.reducePow,Ze,c28,c29,ax20,bx20,cx20,g21,c30,ax22,bx22,cx22,g23,c31,c32,ax24,bx24,cx24,g25,c33,hN0,hN]
      replace hz11:=Z3 c32 hz11
      try rw [c32] at c28
      try rw [c32] at c29
      try rw [c32] at c30
      try rw [c32] at c31
      refine Ya Z0 (Zvh (Zpd (Zvh (Zq5 [])))) ?_
      simp only [push_cast,Nat.reduceAdd,Nat.reduceSub,Nat.reduceMul,Nat.reduceLeDiff,Nat.reduceLT,Nat.reduceEqDiff,↓reduceIte,reduceCtorEq,Int.reduceBEq,Int.reduceBNe,Nat.reduceBEq,Int.reduceLE,Int.reduceLT,Int.reduceEq,Int.reduceNe,Int.reduceNeg,Nat.reduceDiv,Nat.reduceMod,Nat.reducePow,Ze,c28,c29,ax20,bx20,cx20,g21,c30,ax22,bx22,cx22,g23,c31,c32,hN0,hN]
      refine zG ?_
      obtain rfl:=sI hz11
      refine And.intro rfl (Fit2.of (Yq hU rfl rfl ?_) (by omega))
      simp only [push_cast,Nat.reduceAdd,Nat.reduceSub,Nat.reduceMul,Nat.reduceLeDiff,Nat.reduceLT,Nat.reduceEqDiff,↓reduceIte,reduceCtorEq,Int.reduceBEq,Int.reduceBNe,Nat.reduceBEq,Int.reduceLE,Int.reduceLT,Int.reduceEq,Int.reduceNe,Int.reduceNeg,Nat.reduceDiv,Nat.reduceMod,Nat.reducePow,Ze,c28,c29,ax20,bx20,cx20,g21,c30,ax22,bx22,cx22,g23,c31,c32,hN0,hN]
     replace hz11:=Z3 c31 hz11
     try rw [c31] at c28
     try rw [c31] at c29
     try rw [c31] at c30
     refine Ya Z0 (Zvh (Zpd (Zvh (Zq5 [])))) ?_
     refine Ybk c28 c29 ax20 bx20 cx20 g21 c30 ax22 bx22 cx22 g23 c31 ?_
     refine zG ?_
     obtain rfl:=sI hz11
     refine And.intro rfl (Fit2.of (Yq hU rfl rfl ?_) (by omega))
     exact Z8r c28 c29 ax20 bx20 cx20 g21 c30 ax22 bx22 cx22 g23 c31
    replace hz11:=Z3 c30 hz11
    try rw [c30] at c28
    try rw [c30] at c29
    refine Z16 (Zvh (Zt2 (Yca []))) c28 c29 ax20 bx20 cx20 g21 c30 ?_
    refine zG ?_
    exact Z13 hz11 c28 c29 ax20 bx20 cx20 g21 c30
   replace hz11:=Z3 c29 hz11
   try rw [c29] at c28
   refine Jg (Zvh (Yah [])) c28 c29 ?_
   refine zG ?_
   exact Zjo hz11 c28 c29
  replace hz11:=Z3 c28 hz11
  refine Zd4 (Zvh (Yah [])) c28 ?_
  refine zG ?_
  exact Zcr hz11 c28
 exact X6 [(vB z11)]
theorem Zpr {a0:(List Int)} {r:(List Int)} {O:Objs} {n:Nat} (h:Zbx a0=some r):GTo Try.prog 32 [(sL (eI .u64) a0)] O n ((sL (eI .u64) r)) O n:=by
 unfold Zbx at h
 refine zFn Try.call32 Try.func32 fun hU hN0 hN => ?_
 show W _ _ _ _ ⟨24,[],[(0,(sL (eI .u64) a0))]⟩ (Zx O n []) _
 refine zQ [0] ?_
 refine zQ [0,3] ?_
 refine Zq ?_
 refine zD [0,3] [] ?_
 obtain ⟨z7,hz7,h⟩:=bC h
 refine Y6 (E':=⟨24,[],[(0,(sL (eI .u64) a0)),(3,(vI z7))]⟩) (O':=(Zx O n [])) (n0:=n) ?_ ?_
 ·refine Xo hz7 (fun s0_=>⟨24,[],[(0,(sL (eI .u64) a0)),(3,(vI s0_))]⟩) (fun s0_=>(Zx O n [])) (fun z7=>JX 0 n (⟨24,[],[(0,(sL (eI .u64) a0)),(3,(vI z7))]⟩:Env) (Zx O n []) n) ?_
  intro s0_ x0_ hs0_
  unfold Up at hs0_
  try dsimp only
  refine Zq ?_
  obtain ⟨z2,hz2,hs0_⟩:=bC hs0_
  refine Xa (E':=⟨24,[],[(0,(sL (eI .u64) a0)),(3,(vI s0_)),(16,(vB z2))]⟩) (O':=(Zx O n [])) (n0:=n) ?_ ?_
  ·rcases Bool.eq_false_or_eq_true (decide (0 < s0_)) with c5 | c5
   ·replace hz2:=Z4 c5 hz2
    obtain ⟨x4,hx4,ax4,bx4,cx4,hz2⟩:=bE (f:=(eI .u64)) Zjl (fun _=>rfl) (by decide) hz2
    refine Zsw (Zt2 []) c5 ax4 bx4 cx4 ?_
    exact Z8q hz2 c5 ax4 bx4 cx4
   replace hz2:=Z3 c5 hz2
   refine Zd4 (Zxe []) c5 ?_
   exact Zcr hz2 c5
  refine Z5 (t:=z2) rfl (fun c6 => ?_) (fun c6 => ?_)
  ·replace hs0_:=Z4 c6 hs0_
   refine Gk [0,3] [] ?_
   refine Yy ?_
   refine zR ?_
   exact zEn hs0_
  replace hs0_:=Z3 c6 hs0_
  exact zEx hs0_
 try simp only [Xh,Ys,↓reduceIte,Nat.reduceEqDiff]
 refine zD [0,3] [] ?_
 refine zQ [0,3,4] ?_
 refine Zq ?_
 obtain ⟨l10,al10,bl10,cl10,gl10,h⟩:=bS (lo:=none) (hi:=(some (.i64,z7))) (f:=(eI .u64)) rfl rfl Zma Zjl (fun _=>rfl) h
 obtain ⟨l11,pl11,ql11,el11,h⟩:=bA0 (k:=l10.length) rfl h
 refine Yd4 [] al10 bl10 cl10 gl10 pl11 ql11 el11 ?_
 refine Zc3 ⟨24,[],[(2,.row n l11.length)]⟩ (Zx O n [some (oR 39 1 (eI .u64) l11)]) (Yq hU rfl rfl ?_) ?_
 ·simp only [push_cast,seval,Ze,al10,bl10,cl10,gl10,pl11,ql11,el11,hN0,hN]
 exact X6 [.row n l11.length]
def Zg4 (Kk:(Zb→Option Zb)):Prop:=∀ {a0:Zb} {r:Zb} {O:Objs} {n:Nat},Kk a0=some r→GTo Try.prog 17 [.agg (Zz a0)] O n (.agg (Zz r)) O n
theorem Zo2 {Kk:(Zb→Option Zb)} (Znb:Zg4 Kk) {a0:Zb} {r:Zb} {O:Objs} {n:Nat} (h:Zbm Kk a0=some r):GTo Try.prog 17 [.agg (Zz a0)] O n (.agg (Zz r)) O n:=by
 unfold Zbm at h
 refine zFn Try.call17 Try.func17 fun hU hN0 hN => ?_
 show W _ _ _ _ ⟨53,[],[(0,.agg (Zz a0))]⟩ (Zx O n []) _
 refine zQ [1,2] ?_
 refine Zq ?_
 refine zQ [1,2,10] ?_
 refine Z5 (t:=(a0.Kind == 0)) rfl (fun c19 => ?_) (fun c19 => ?_)
 ·replace h:=Z4 c19 h
  refine Zq ?_
  refine zRd [2] [false,true] ?_
  exact X6 [.agg [(vI 0),nV,nV]]
 replace h:=Z3 c19 h
 refine Gk [1,2] [true,true] ?_
 refine zQ [1,2,3] ?_
 refine zQ [1,2,3,4] ?_
 refine Zq ?_
 refine zQd [1,2,3,4,5] [1,2,3,4,5] [true,true] ?_
 refine Yx (E':=(⟨53,[],[(1,.ref n 0),(2,.ref (n+1) 0),(3,.row (n+2) ([]:List Zb).length),(4,(vI 0)),(5,(vI 0))]⟩:Env)) (O':=(Zx O n [some ⟨false,25,3,1,(Zz a0)⟩,some ⟨false,25,3,1,[(vI 0),nV,nV]⟩,some (oR 25 3 Za ([]:List Zb)),none])) (n':=(n+4)) ?_ ?_
 ·refine Fit2.trans (E':=(⟨53,[],[(1,.ref n 0),(2,.ref (n+1) 0),(3,nV),(4,(vI 0)),(5,(vI 0))]⟩:Env)) (O':=(Zx O n [some ⟨false,25,3,1,(Zz a0)⟩,some ⟨false,25,3,1,[(vI 0),nV,nV]⟩])) (n':=(n+2)) (Fit2.of (Yq hU rfl rfl ?_) (by omega)) ?_
  ·exact zSe
  refine Fit2.trans (Zh8 3 25 3 rfl (by omega)) ?_
  simp only [Jj,Qd,Ve,List.set_cons_zero,List.set_cons_succ,List.cons_append,List.nil_append,List.length_cons,List.length_nil,Nat.zero_add,Nat.reduceAdd,Nat.reduceLT,Nat.add_assoc]
  refine Fit2.trans (E':=(⟨53,[],[(1,.ref n 0),(2,.ref (n+1) 0),(3,.row (n+2) ([]:List Zb).length),(4,(vI 0)),(5,(vI 0))]⟩:Env)) (O':=(Zx O n [some ⟨false,25,3,1,(Zz a0)⟩,some ⟨false,25,3,1,[(vI 0),nV,nV]⟩,some (oR 25 3 Za ([]:List Zb))])) (n':=(n+3)) (Fit2.of (Yq hU rfl rfl ?_) (by omega)) ?_
  ·exact zSe
  refine Km (k:=3) (k':=4) hU [0,1,2] [0,1,2,0] rfl rfl rfl rfl ⟨rfl,rfl⟩ ?_
  exact zSe
 obtain ⟨z10,hz10,h⟩:=bC h
 refine Y6 (E':=⟨53,[],[(1,.ref n 0),(2,.ref (n+1) 0),(3,.row (n+2) z10.2.length),(4,(vI z10.1))]⟩) (O':=(Zx O n [some ⟨false,25,3,1,(Zz a0)⟩,some ⟨false,25,3,1,[(vI 0),nV,nV]⟩,some (oR 25 3 Za z10.2),none])) (n0:=(n+4)) ?_ ?_
 ·refine Xo hz10 (fun s0_=>⟨53,[],[(1,.ref n 0),(2,.ref (n+1) 0),(3,.row (n+2) s0_.2.2.length),(4,(vI s0_.1)),(5,(vI s0_.2.1))]⟩) (fun s0_=>(Zx O n [some ⟨false,25,3,1,(Zz a0)⟩,some ⟨false,25,3,1,[(vI 0),nV,nV]⟩,some (oR 25 3 Za s0_.2.2),none])) (fun z10=>JX 0 n (⟨53,[],[(1,.ref n 0),(2,.ref (n+1) 0),(3,.row (n+2) z10.2.length),(4,(vI z10.1))]⟩:Env) (Zx O n [some ⟨false,25,3,1,(Zz a0)⟩,some ⟨false,25,3,1,[(vI 0),nV,nV]⟩,some (oR 25 3 Za z10.2),none]) (n+4)) ?_
  intro s0_ x0_ hs0_
  unfold Jp at hs0_
  try dsimp only
  refine Zq ?_
  refine zQ [1,2,3,4,5,16] ?_
  refine Z5 (t:=(decide (s0_.2.1 < (a0.Kids.length:Int)))) rfl (fun c9 => ?_) (fun c9 => ?_)
  ·replace hs0_:=Z4 c9 hs0_
   refine Gk [1,2,3,4,5] [true,true,true,false] ?_
   obtain ⟨z1,hz1,hs0_⟩:=bC hs0_
   refine Xa (E':=⟨53,[],[(1,.ref n 0),(2,.ref (n+1) 0),(3,.row (n+2) z1.2.length),(4,(vI z1.1)),(5,(vI s0_.2.1))]⟩) (O':=(Zx O n [some ⟨false,25,3,1,(Zz a0)⟩,some ⟨false,25,3,1,[(vI 0),nV,nV]⟩,some (oR 25 3 Za z1.2),none,none,none])) (n0:=(n+6)) ?_ ?_
   ·refine Yy ?_
    refine Zq ?_
    obtain ⟨x4,hx4,ax4,bx4,cx4,hz1⟩:=bE (f:=Za) Zb9 (fun _=>rfl) (by decide) hz1
    obtain ⟨y5,hy5,hz1⟩:=bC hz1
    refine Zlq [] ax4 bx4 cx4 ?_
    refine (Znb hy5).then ?_
    refine zF3 ax4 bx4 cx4 ?_
    refine zDs [1,2,3,4,5,6] [true,true,true,false,true] ?_
    obtain ⟨l7,pl7,ql7,el7,hz1⟩:=bA (k:=1) rfl hz1
    refine Zeu [] pl7 ql7 el7 ?_
    refine Zc3 ⟨53,[],[(1,.ref n 0),(2,.ref (n+1) 0),(3,.row (n+2) l7.length),(4,(vI s0_.1)),(5,(vI s0_.2.1)),(6,.ref (n+4) 0)]⟩ (Zx O n [some ⟨false,25,3,1,(Zz a0)⟩,some ⟨false,25,3,1,[(vI 0),nV,nV]⟩,some (oR 25 3 Za l7),none,some ⟨false,25,3,1,(Zz y5)⟩,none]) (Yq hU rfl rfl ?_) ?_
    ·exact Z97 pl7 ql7 el7
    refine zQ [1,2,3,4,5,31] ?_
    refine Z5 (t:=(y5.Kind != 0)) rfl (fun c8 => ?_) (fun c8 => ?_)
    ·replace hz1:=Z4 c8 hz1
     refine zR ?_
     exact zEn hz1
    replace hz1:=Z3 c8 hz1
    refine zK ?_
    exact zEn hz1
   refine zR ?_
   exact zEn hs0_
  replace hs0_:=Z3 c9 hs0_
  exact zEx hs0_
 try simp only [Xh,Ys,↓reduceIte,Nat.reduceEqDiff]
 refine zDs [1,2,3,4] [true,true,true,false] ?_
 refine zQ [1,2,3,4,36] ?_
 refine Z5 (t:=(a0.Kind == 1)) rfl (fun c18 => ?_) (fun c18 => ?_)
 ·replace h:=Z4 c18 h
  refine Zc3 ⟨53,[],[(1,.ref n 0),(2,.ref (n+1) 0),(3,(sL Za z10.2)),(4,(vI z10.1))]⟩ (Zx O n [some ⟨false,25,3,1,(Zz a0)⟩,some ⟨false,25,3,1,[(vI 0),nV,nV]⟩,none,none]) (Yq hU rfl rfl ?_) ?_
  ·exact zSe
  refine Zq ?_
  obtain ⟨y14,hy14,h⟩:=bC h
  obtain ⟨l15,al15,bl15,cl15,gl15,h⟩:=bS (lo:=none) (hi:=(some (.i64,z10.1))) (f:=Za) rfl rfl Zh7 Zb9 (fun _=>rfl) h
  refine Gv Z0 (by kernel_rfl) [false,false,false,false,false,false,false,true] [] (by kernel_rfl) ?_
  refine zX4 al15 bl15 cl15 gl15 ?_
  refine PCall.of (Zpr hy14) ?_
  refine zX4 al15 bl15 cl15 gl15 ?_
  refine zD [2] [false,true,false,false] ?_
  exact X6 [.agg [(vI 1),(sL (eI .u64) y14),(sL Za l15)]]
 replace h:=Z3 c18 h
 refine Gk [1,2,3] [true,true,true,false] ?_
 refine zQ [1,2,3,7] ?_
 refine Zq ?_
 obtain ⟨l17,pl17,ql17,el17,h⟩:=bA0 (k:=a0.Words.length) rfl h
 refine Zeu [] pl17 ql17 el17 ?_
 refine Zc3 ⟨53,[],[(1,.ref n 0),(2,.ref (n+1) 0),(3,.row (n+2) z10.2.length),(7,.row (n+4) l17.length)]⟩ (Zx O n [some ⟨false,25,3,1,(Zz a0)⟩,some ⟨false,25,3,1,[(vI 0),nV,nV]⟩,some (oR 25 3 Za z10.2),none,some (oR 39 1 (eI .u64) l17)]) (Yq hU rfl rfl ?_) ?_
 ·exact Z97 pl17 ql17 el17
 refine Zq ?_
 refine zRd [2] [false,true,true,false,true] ?_
 exact X6 [.agg [(vI a0.Kind),.row (n+4) l17.length,.row (n+2) z10.2.length]]
theorem Zmm:∀ k,(Zg4 (Qk k)):=fun k=>by
 induction k with
 | zero=>exact @fun a0 r O n h=>(nomatch (show (none:Option _)=some _ from h))
 | succ k ih=>exact @fun a0 r O n h=>Zo2 (ih)  h
theorem Ze4 {a0:Zb} {r:Zb} {O:Objs} {n:Nat} (h:Zbv a0=some r):GTo Try.prog 17 [.agg (Zz a0)] O n (.agg (Zz r)) O n:=by
 obtain ⟨k,hk⟩:=Zbt h
 exact (Zmm k)  hk
theorem Zo0 {a0:(List Zb)} {r:(List Zb)} {O:Objs} {n:Nat} (h:Za8 a0=some r):GTo Try.prog 54 [(sL Za a0)] O n ((sL Za r)) O n:=by
 unfold Za8 at h
 refine zFn Try.call54 Try.func54 fun hU hN0 hN => ?_
 show W _ _ _ _ ⟨20,[],[(0,(sL Za a0))]⟩ (Zx O n []) _
 refine zQ [0] ?_
 refine zQ [0,3] ?_
 refine Zq ?_
 refine zQd [0,3,4] [0,3,4] [] ?_
 refine Yx (E':=(⟨20,[],[(0,(sL Za a0)),(3,.row n ([]:List Zb).length),(4,(vI 0))]⟩:Env)) (O':=(Zx O n [some (oR 25 3 Za ([]:List Zb)),none])) (n':=(n+2)) ?_ ?_
 ·refine Fit2.trans (E':=(⟨20,[],[(0,(sL Za a0)),(3,nV),(4,(vI 0))]⟩:Env)) (O':=(Zx O n [])) (n':=n) (Fit2.of (Yq hU rfl rfl ?_) (by omega)) ?_
  ·exact zSe
  refine Fit2.trans (Zh8 3 25 3 rfl (by omega)) ?_
  simp only [Jj,Qd,Zbl,List.set_cons_zero,List.set_cons_succ,List.cons_append,List.nil_append,List.length_cons,List.length_nil,Nat.zero_add,Nat.reduceAdd,Nat.reduceLT,Nat.add_assoc]
  refine Fit2.trans (E':=(⟨20,[],[(0,(sL Za a0)),(3,.row n ([]:List Zb).length),(4,(vI 0))]⟩:Env)) (O':=(Zx O n [some (oR 25 3 Za ([]:List Zb))])) (n':=(n+1)) (Fit2.of (Yq hU rfl rfl ?_) (by omega)) ?_
  ·exact zSe
  refine Km (k:=1) (k':=2) hU [0] [0,0] rfl rfl rfl rfl ⟨rfl,rfl⟩ ?_
  exact zSe
 obtain ⟨z5,hz5,h⟩:=bC h
 refine Y6 (E':=⟨20,[],[(3,.row n z5.length)]⟩) (O':=(Zx O n [some (oR 25 3 Za z5),none])) (n0:=(n+2)) ?_ ?_
 ·refine Xo hz5 (fun s0_=>⟨20,[],[(0,(sL Za a0)),(3,.row n s0_.2.length),(4,(vI s0_.1))]⟩) (fun s0_=>(Zx O n [some (oR 25 3 Za s0_.2),none])) (fun z5=>JX 0 n (⟨20,[],[(3,.row n z5.length)]⟩:Env) (Zx O n [some (oR 25 3 Za z5),none]) (n+2)) ?_
  intro s0_ x0_ hs0_
  unfold Zbd at hs0_
  try dsimp only
  refine Zq ?_
  refine zQ [0,3,4,8] ?_
  refine Z5 (t:=(decide (s0_.1 < (a0.length:Int)))) rfl (fun c4 => ?_) (fun c4 => ?_)
  ·replace hs0_:=Z4 c4 hs0_
   refine Gk [0,3,4] [true,false] ?_
   refine Zq ?_
   refine Yy ?_
   obtain ⟨x1,hx1,ax1,bx1,cx1,hs0_⟩:=bE (f:=Za) Zb9 (fun _=>rfl) (by decide) hs0_
   obtain ⟨y2,hy2,hs0_⟩:=bC hs0_
   obtain ⟨l3,pl3,ql3,el3,hs0_⟩:=bA (k:=1) rfl hs0_
   refine Z8s [] ax1 bx1 cx1 pl3 ql3 el3 ?_
   refine (Ze4 hy2).then ?_
   refine zF6 ax1 bx1 cx1 pl3 ql3 el3 ?_
   refine Zc3 ⟨20,[],[(0,(sL Za a0)),(3,.row n l3.length),(4,(vI s0_.1))]⟩ (Zx O n [some (oR 25 3 Za l3),none,none]) (Yq hU rfl rfl ?_) ?_
   ·exact Yd0 ax1 bx1 cx1 pl3 ql3 el3
   refine zR ?_
   exact zEn hs0_
  replace hs0_:=Z3 c4 hs0_
  exact zEx hs0_
 try simp only [Xh,Ys,↓reduceIte,Nat.reduceEqDiff]
 refine zD [3] [true,false] ?_
 refine zQ [2] ?_
 exact X6 [.row n z5.length]
theorem Zj8 {a0:(List Zl)} {a1:Int} {a2:Int} {r:((List Zb)×Int)} {O:Objs} {n:Nat} (h:G3 a0 a1 a2=some r):GTo Try.prog 33 [(sL Zf a0),(vI a1),(vI a2)] O n (.tup [(sL Za r.1),(vI r.2)]) O n:=by
 unfold G3 at h
 refine zFn Try.call33 Try.func33 fun hU hN0 hN => ?_
 show W _ _ _ _ ⟨50,[],[(0,(sL Zf a0)),(1,(vI a1)),(2,(vI a2))]⟩ (Zx O n []) _
 refine zQ [0,1,2] ?_
 refine zQ [0,1,2,8] ?_
 refine zQ [0,2,8,9] ?_
 refine Zq ?_
 refine zD [0,2,8,9] [] ?_
 refine Yx (E':=(⟨50,[],[(0,(sL Zf a0)),(2,(vI a2)),(8,.row n ([]:List Zb).length),(9,(vI a1))]⟩:Env)) (O':=(Zx O n [some (oR 25 3 Za ([]:List Zb)),none])) (n':=(n+2)) ?_ ?_
 ·refine Fit2.trans (E':=(⟨50,[],[(0,(sL Zf a0)),(2,(vI a2)),(8,nV),(9,(vI a1))]⟩:Env)) (O':=(Zx O n [])) (n':=n) (Fit2.of (Yq hU rfl rfl ?_) (by omega)) ?_
  ·exact zSe
  refine Fit2.trans (Zh8 8 25 3 rfl (by omega)) ?_
  simp only [Qd,Zbl,List.set_cons_zero,List.set_cons_succ,List.cons_append,List.nil_append,List.length_cons,List.length_nil,Nat.reduceAdd,Nat.reduceLT]
  refine Fit2.trans (E':=(⟨50,[],[(0,(sL Zf a0)),(2,(vI a2)),(8,.row n ([]:List Zb).length),(9,(vI a1))]⟩:Env)) (O':=(Zx O n [some (oR 25 3 Za ([]:List Zb))])) (n':=(n+1)) (Fit2.of (Yq hU rfl rfl ?_) (by omega)) ?_
  ·exact zSe
  refine Km (k:=1) (k':=2) hU [0] [0,0] rfl rfl rfl rfl ⟨rfl,rfl⟩ ?_
  exact zSe
 obtain ⟨z27,hz27,h⟩:=bC h
 refine Y6 (E':=⟨50,[],[(8,.row n z27.2.length),(9,(vI z27.1))]⟩) (O':=(Zx O n [some (oR 25 3 Za z27.2),none])) (n0:=(n+2)) ?_ ?_
 ·refine Xo hz27 (fun s0_=>⟨50,[],[(0,(sL Zf a0)),(2,(vI a2)),(8,.row n s0_.2.length),(9,(vI s0_.1))]⟩) (fun s0_=>(Zx O n [some (oR 25 3 Za s0_.2),none])) (fun z27=>JX 0 n (⟨50,[],[(8,.row n z27.2.length),(9,(vI z27.1))]⟩:Env) (Zx O n [some (oR 25 3 Za z27.2),none]) (n+2)) ?_
  intro s0_ x0_ hs0_
  unfold Jf at hs0_
  try dsimp only
  refine Zq ?_
  obtain ⟨z5,hz5,hs0_⟩:=bC hs0_
  refine Xa (E':=⟨50,[],[(0,(sL Zf a0)),(2,(vI a2)),(8,.row n s0_.2.length),(9,(vI s0_.1)),(30,(vB z5))]⟩) (O':=(Zx O n [some (oR 25 3 Za s0_.2),none])) (n0:=(n+2)) ?_ ?_
  ·rcases Bool.eq_false_or_eq_true (decide (s0_.1 < (a0.length:Int))) with c14 | c14
   ·replace hz5:=Z4 c14 hz5
    obtain ⟨x10,hx10,ax10,bx10,cx10,hz5⟩:=bE (f:=Zf) V2 (fun _=>rfl) (by decide) hz5
    have g11:=Qc (f:=Zf) (sz:=14) Zfa (fun _=>rfl) (by decide) (by decide) hx10
    rcases Bool.eq_false_or_eq_true (x10.Kind == 1) with c15 | c15
    ·replace hz5:=Z4 c15 hz5
     try rw [c15] at c14
     refine Z8s (Z5n (Zxe [U8])) c14 ax10 bx10 cx10 g11 c15 ?_
     exact Yat hz5 c14 ax10 bx10 cx10 g11 c15
    replace hz5:=Z3 c15 hz5
    try rw [c15] at c14
    have g13:=Qc (f:=Zf) (sz:=14) Zfa (fun _=>rfl) (by decide) (by decide) hx10
    refine Z16 (Z7d []) c14 ax10 bx10 cx10 g11 c15 g13 ?_
    exact Z13 hz5 c14 ax10 bx10 cx10 g11 c15 g13
   replace hz5:=Z3 c14 hz5
   refine Zd4 (Z7a []) c14 ?_
   exact Zcr hz5 c14
  refine Z5 (t:=z5) rfl (fun c26 => ?_) (fun c26 => ?_)
  ·replace hs0_:=Z4 c26 hs0_
   refine Gk [0,2,8,9] [true,false] ?_
   refine Yy ?_
   obtain ⟨z16,hz16,hs0_⟩:=bC hs0_
   refine Xa (E':=⟨50,[],[(0,(sL Zf a0)),(2,(vI a2)),(8,.row n z16.length),(9,(vI s0_.1))]⟩) (O':=(Zx O n [some (oR 25 3 Za z16),none])) (n0:=(n+2)) ?_ ?_
   ·obtain ⟨x19,hx19,ax19,bx19,cx19,hz16⟩:=bE (f:=Zf) V2 (fun _=>rfl) (by decide) hz16
    have g20:=Qc (f:=Zf) (sz:=14) Zfa (fun _=>rfl) (by decide) (by decide) hx19
    refine Zce [0,2,8,9,37] (Ya Z0 [] ?_)
    refine zF4 ax19 bx19 cx19 g20 ?_
    refine Z5 (t:=(x19.Kind == a2)) rfl (fun c25 => ?_) (fun c25 => ?_)
    ·replace hz16:=Z4 c25 hz16
     obtain ⟨x21,hx21,ax21,bx21,cx21,hz16⟩:=bE (f:=Zf) V2 (fun _=>rfl) (by decide) hz16
     have g22:=Jn (f:=Zf) (off:=2) (sz:=14) Ztw (fun _=>rfl) (by decide) (by decide) hx21
     obtain ⟨y23,hy23,hz16⟩:=bC hz16
     obtain ⟨l24,pl24,ql24,el24,hz16⟩:=bA (k:=y23.length) rfl hz16
     refine Z16 [] ax21 bx21 cx21 g22 pl24 ql24 el24 ?_
     refine (Zo0 hy23).then ?_
     refine zF7 ax21 bx21 cx21 g22 pl24 ql24 el24 ?_
     exact Z13 hz16 ax21 bx21 cx21 g22 pl24 ql24 el24
    replace hz16:=Z3 c25 hz16
    refine zK ?_
    exact zEn hz16
   refine zR ?_
   exact zEn hs0_
  replace hs0_:=Z3 c26 hs0_
  exact zEx hs0_
 try simp only [Xh,Ys,↓reduceIte,Nat.reduceEqDiff]
 refine zD [8,9] [true,false] ?_
 refine zQ [6,7] ?_
 exact X6 [.row n z27.2.length,(vI z27.1)]
theorem Zpu {a0:Int} {a1:Zg} {r:Bool} {O:Objs} {n:Nat} (h:U4 a0 a1=some r):GTo Try.prog 34 [(vI a0),.agg (Zk a1)] O n ((vB r)) O n:=by
 unfold U4 at h
 refine zFn Try.call34 Try.func34 fun hU hN0 hN => ?_
 show W _ _ _ _ ⟨29,[],[(0,(vI a0)),(1,.agg (Zk a1))]⟩ (Zx O n []) _
 refine zQ [0,3] ?_
 refine zQD [4] [none,none,none,none,none,none,none,none,none,none,none,none,none,none,none,none,none,none,none] ?_
 exact X6 [(vB (cond (a1.Kind == 0) true (cond (cond (cond (a1.Kind == 2) (a0 == 9) false) ((a1.Words.length:Int) == 0) false) ((a1.Kids.length:Int) == 0) false)))]
attribute [local push_cast] Try.results15 Try.results16 Try.results18 Try.results31 Try.results4 Try.results8 Try.results9 Bool.and_true and_false ge_iff_le Bool.not_not Zic Zhe Bool.not_eq_false' Z0y Zk8 Zg1 Zhc Zh1 Zf2
def Zdv (Xk:(Zg→Option Zg)):Prop:=∀ {a0:Zg} {r:Zg} {O:Objs} {n:Nat},Xk a0=some r→GTo Try.prog 9 [.agg (Zk a0)] O n (.agg (Zk r)) O n
def Zeh (Ja:(Int→(List Zl)→Option (List Zl))):Prop:=∀ {a0:Int} {a1:(List Zl)} {r:(List Zl)} {O:Objs} {n:Nat},Ja a0 a1=some r→GTo Try.prog 18 [(vI a0),(sL Zf a1)] O n ((sL Zf r)) O n
theorem Zo5 {Xk:(Zg→Option Zg)} {Ja:(Int→(List Zl)→Option (List Zl))} (Zb2:Zdv Xk) (Zhx:Zeh Ja) {a0:Zg} {r:Zg} {O:Objs} {n:Nat} (h:Zbo Xk Ja a0=some r):GTo Try.prog 9 [.agg (Zk a0)] O n (.agg (Zk r)) O n:=by
 unfold Zbo at h
 refine zFn Try.call9 Try.func9 fun hU hN0 hN => ?_
 show W _ _ _ _ ⟨63,[],[(0,.agg (Zk a0))]⟩ (Zx O n []) _
 refine zQ [1,2] ?_
 refine Zq ?_
 refine zQ [1,2,6] ?_
 refine Yy ?_
 refine zQ [1,2,6,7] ?_
 refine Z5 (t:=(a0.Kind == 1)) rfl (fun c19 => ?_) (fun c19 => ?_)
 ·replace h:=Z4 c19 h
  refine Zq ?_
  obtain ⟨y3,hy3,h⟩:=bC h
  obtain ⟨y4,hy4,h⟩:=bC h
  refine Gv Z0 (by kernel_rfl) [false,false,false,false,false,false,false,true] [] (by kernel_rfl) ?_
  refine zS ?_
  refine PCall.of (Ze4 hy3) ?_
  refine zS ?_
  refine PCall.of (Ze4 hy4) ?_
  refine zS ?_
  refine zD [2] [false,true] ?_
  exact X6 [.agg [(vI 1),(vI y3.Kind),(sL (eI .u64) y3.Words),(sL Za y3.Kids),(vI y4.Kind),(sL (eI .u64) y4.Words),(sL Za y4.Kids),nV,nV,(vI 0),nV]]
 replace h:=Z3 c19 h
 refine zQ [1,2,6,16] ?_
 refine Z5 (t:=(a0.Kind == 2)) rfl (fun c18 => ?_) (fun c18 => ?_)
 ·replace h:=Z4 c18 h
  refine Zq ?_
  refine zRd [1,2,3] [true,true,true] ?_
  refine Zq ?_
  obtain ⟨l6,pl6,ql6,el6,h⟩:=bA0 (k:=a0.Words.length) rfl h
  refine Zeu [] pl6 ql6 el6 ?_
  refine Zc3 ⟨63,[],[(1,.ref n 0),(2,.ref (n+1) 0),(3,.ref (n+2) 0)]⟩ (Zx O n [some ⟨false,30,11,1,(Zk a0)⟩,some ⟨false,30,11,1,[(vI 0),(vI 0),nV,nV,(vI 0),nV,nV,nV,nV,(vI 0),nV]⟩,some ⟨false,30,11,1,[(vI 2),(vI 0),nV,nV,(vI 0),nV,nV,.row (n+3) l6.length,nV,(vI 0),nV]⟩,some (oR 48 4 Zd l6)]) (Yq hU rfl rfl ?_) ?_
  ·exact Z97 pl6 ql6 el6
  refine Zq ?_
  refine zQd [1,2,3,4] [1,2,3,4] [true,true,true,true] ?_
  refine Yx (E':=(⟨63,[],[(1,.ref n 0),(2,.ref (n+1) 0),(3,.ref (n+2) 0),(4,(vI 0))]⟩:Env)) (O':=(Zx O n [some ⟨false,30,11,1,(Zk a0)⟩,some ⟨false,30,11,1,[(vI 0),(vI 0),nV,nV,(vI 0),nV,nV,nV,nV,(vI 0),nV]⟩,some ⟨false,30,11,1,[(vI 2),(vI 0),nV,nV,(vI 0),nV,nV,.row (n+3) l6.length,.row (n+4) ([]:List Zm).length,(vI 0),nV]⟩,some (oR 48 4 Zd l6),some (oR 50 12 Zc ([]:List Zm)),none])) (n':=(n+6)) ?_ ?_
  ·refine Fit2.trans (E':=(⟨63,[],[(1,.ref n 0),(2,.ref (n+1) 0),(3,.ref (n+2) 0),(4,(vI 0))]⟩:Env)) (O':=(Zx O n [some ⟨false,30,11,1,(Zk a0)⟩,some ⟨false,30,11,1,[(vI 0),(vI 0),nV,nV,(vI 0),nV,nV,nV,nV,(vI 0),nV]⟩,some ⟨false,30,11,1,[(vI 2),(vI 0),nV,nV,(vI 0),nV,nV,.row (n+3) l6.length,nV,(vI 0),nV]⟩,some (oR 48 4 Zd l6)])) (n':=(n+4)) (Fit2.of (Yq hU rfl rfl ?_) (by omega)) ?_
   ·exact zSe
   refine Fit2.trans (Vg (p:=(n+2)) (k:=8) (q:=⟨false,30,11,1,[(vI 2),(vI 0),nV,nV,(vI 0),nV,nV,.row (n+3) l6.length,nV,(vI 0),nV]⟩) 50 12 (by simp only [Vu,Gu,List.getElem?_cons_zero,List.getElem?_cons_succ,Option.join_some,List.length_nil]) rfl (by omega)) ?_
   simp only [Jj,Qd,Ve,List.set_cons_zero,List.set_cons_succ,List.cons_append,List.nil_append,List.length_cons,List.length_nil,Nat.zero_add,Nat.reduceAdd,Nat.reduceLT,Nat.add_assoc]
   refine Km (k:=5) (k':=6) hU [0,1,2,3,4] [0,1,2,3,4,0] rfl rfl rfl rfl ⟨rfl,rfl⟩ ?_
   exact zSe
  obtain ⟨z14,hz14,h⟩:=bC h
  refine Y6 (E':=⟨63,[],[(2,.ref (n+1) 0),(3,.ref (n+2) 0)]⟩) (O':=(Zx O n [none,some ⟨false,30,11,1,[(vI 0),(vI 0),nV,nV,(vI 0),nV,nV,nV,nV,(vI 0),nV]⟩,some ⟨false,30,11,1,[(vI 2),(vI 0),nV,nV,(vI 0),nV,nV,.row (n+3) l6.length,.row (n+4) z14.length,(vI 0),nV]⟩,some (oR 48 4 Zd l6),some (oR 50 12 Zc z14),none])) (n0:=(n+6)) ?_ ?_
  ·refine Xo hz14 (fun s0_=>⟨63,[],[(1,.ref n 0),(2,.ref (n+1) 0),(3,.ref (n+2) 0),(4,(vI s0_.1))]⟩) (fun s0_=>(Zx O n [some ⟨false,30,11,1,(Zk a0)⟩,some ⟨false,30,11,1,[(vI 0),(vI 0),nV,nV,(vI 0),nV,nV,nV,nV,(vI 0),nV]⟩,some ⟨false,30,11,1,[(vI 2),(vI 0),nV,nV,(vI 0),nV,nV,.row (n+3) l6.length,.row (n+4) s0_.2.length,(vI 0),nV]⟩,some (oR 48 4 Zd l6),some (oR 50 12 Zc s0_.2),none])) (fun z14=>JX 1 n (⟨63,[],[(2,.ref (n+1) 0),(3,.ref (n+2) 0)]⟩:Env) (Zx O n [none,some ⟨false,30,11,1,[(vI 0),(vI 0),nV,nV,(vI 0),nV,nV,nV,nV,(vI 0),nV]⟩,some ⟨false,30,11,1,[(vI 2),(vI 0),nV,nV,(vI 0),nV,nV,.row (n+3) l6.length,.row (n+4) z14.length,(vI 0),nV]⟩,some (oR 48 4 Zd l6),some (oR 50 12 Zc z14),none]) (n+6)) ?_
   intro s0_ x0_ hs0_
   unfold Ui at hs0_
   try dsimp only
   refine Zq ?_
   refine zQ [1,2,3,4,29] ?_
   refine Z5 (t:=(decide (s0_.1 < (a0.Kids.length:Int)))) rfl (fun c13 => ?_) (fun c13 => ?_)
   ·replace hs0_:=Z4 c13 hs0_
    refine Gk [1,2,3,4] [true,true,true,true,true,false] ?_
    refine Zq ?_
    refine Yy ?_
    obtain ⟨x7,hx7,ax7,bx7,cx7,hs0_⟩:=bE (f:=Zc) Zc9 (fun _=>rfl) (by decide) hs0_
    have g8:=Qc (f:=Zc) (sz:=12) Zfa (fun _=>rfl) (by decide) (by decide) hx7
    have g10:=Jn (f:=Zc) (off:=1) (sz:=12) Zhj (fun _=>rfl) (by decide) (by decide) hx7
    obtain ⟨y11,hy11,hs0_⟩:=bC hs0_
    obtain ⟨l12,pl12,ql12,el12,hs0_⟩:=bA (k:=1) rfl hs0_
    refine Zcv Z0 (by kernel_rfl) [.low,.low,.plain,.plain,.plain,.plain,.plain,.plain,.plain,.plain,.plain,.plain,.plain,.plain,.plain,.plain,.pass,.bar,.plain,.bar] (fun i=>i < (n+6)) [0,1,2,3,4,5,6,7,8,9,10,11,12,13,14,15,16,17,18,19] [.low,.low,.plain,.plain,.plain,.plain,.plain,.plain,.plain,.plain,.plain,.plain,.plain,.plain,.plain,.plain,.pass,.bar,.plain,.bar] [] (by kernel_rfl) rfl ?_
    refine zF8 ax7 bx7 cx7 g8 g10 pl12 ql12 el12 ?_
    refine zO ?_
    first | refine PCallA.of (fun _ _=>Zb2 hy11) ?_ | refine PCall.of (Zb2 hy11) ?_
    refine zF8 ax7 bx7 cx7 g8 g10 pl12 ql12 el12 ?_
    refine zO ?_
    refine Zc3 ⟨63,[],[(1,.ref n 0),(2,.ref (n+1) 0),(3,.ref (n+2) 0),(4,(vI s0_.1))]⟩ (Zx O n [some ⟨false,30,11,1,(Zk a0)⟩,some ⟨false,30,11,1,[(vI 0),(vI 0),nV,nV,(vI 0),nV,nV,nV,nV,(vI 0),nV]⟩,some ⟨false,30,11,1,[(vI 2),(vI 0),nV,nV,(vI 0),nV,nV,.row (n+3) l6.length,.row (n+4) l12.length,(vI 0),nV]⟩,some (oR 48 4 Zd l6),some (oR 50 12 Zc l12),none,none]) (Yq hU rfl rfl ?_) ?_
    ·exact Yfk ax7 bx7 cx7 g8 g10 pl12 ql12 el12
    refine zR ?_
    exact zEn hs0_
   replace hs0_:=Z3 c13 hs0_
   exact zEx hs0_
  try simp only [Xh,Ys,↓reduceIte,Nat.reduceEqDiff]
  refine zDs [2,3] [false,true,true,true,true,false] ?_
  refine zRd [2] [false,true,false,true,true,false] ?_
  exact X6 [.agg [(vI 2),(vI 0),nV,nV,(vI 0),nV,nV,.row (n+3) l6.length,.row (n+4) z14.length,(vI 0),nV]]
 replace h:=Z3 c18 h
 refine zQ [1,2,52] ?_
 refine Z5 (t:=(a0.Kind == 3)) rfl (fun c17 => ?_) (fun c17 => ?_)
 ·replace h:=Z4 c17 h
  refine Zq ?_
  obtain ⟨y16,hy16,h⟩:=bC h
  refine Gv Z0 (by kernel_rfl) [false,false,false,false,false,false,false,false,true] [] (by kernel_rfl) ?_
  refine zS ?_
  refine PCall.of (Zhx hy16) ?_
  refine zS ?_
  refine zD [2] [false,true] ?_
  exact X6 [.agg [(vI 3),(vI 0),nV,nV,(vI 0),nV,nV,nV,nV,(vI a0.List_),(sL Zf y16)]]
 replace h:=Z3 c17 h
 refine Gk [2] [false,true] ?_
 refine Zq ?_
 refine zRd [2] [false,true] ?_
 exact X6 [.agg [(vI 0),(vI 0),nV,nV,(vI 0),nV,nV,nV,nV,(vI 0),nV]]
theorem Zpv {Xk:(Zg→Option Zg)} {Ja:(Int→(List Zl)→Option (List Zl))} (Zb2:Zdv Xk) (Zhx:Zeh Ja) {a0:Int} {a1:(List Zl)} {r:(List Zl)} {O:Objs} {n:Nat} (h:Gy Xk Ja a0 a1=some r):GTo Try.prog 18 [(vI a0),(sL Zf a1)] O n ((sL Zf r)) O n:=by
 unfold Gy at h
 refine zFn Try.call18 Try.func18 fun hU hN0 hN => ?_
 show W _ _ _ _ ⟨114,[],[(0,(vI a0)),(1,(sL Zf a1))]⟩ (Zx O n []) _
 refine zQ [0,1] ?_
 refine zQ [0,1,5] ?_
 refine Zq ?_
 refine zQd [0,1,5,6] [0,1,5,6] [] ?_
 refine Yx (E':=(⟨114,[],[(0,(vI a0)),(1,(sL Zf a1)),(5,.row n ([]:List Zl).length),(6,(vI 0))]⟩:Env)) (O':=(Zx O n [some (oR 41 14 Zf ([]:List Zl)),none])) (n':=(n+2)) ?_ ?_
 ·refine Fit2.trans (E':=(⟨114,[],[(0,(vI a0)),(1,(sL Zf a1)),(5,nV),(6,(vI 0))]⟩:Env)) (O':=(Zx O n [])) (n':=n) (Fit2.of (Yq hU rfl rfl ?_) (by omega)) ?_
  ·exact zSe
  refine Fit2.trans (Zh8 5 41 14 rfl (by omega)) ?_
  simp only [Jj,Qd,Ve,Zbl,List.set_cons_zero,List.set_cons_succ,List.cons_append,List.nil_append,List.length_cons,List.length_nil,Nat.zero_add,Nat.reduceAdd,Nat.reduceLT,Nat.add_assoc]
  refine Fit2.trans (E':=(⟨114,[],[(0,(vI a0)),(1,(sL Zf a1)),(5,.row n ([]:List Zl).length),(6,(vI 0))]⟩:Env)) (O':=(Zx O n [some (oR 41 14 Zf ([]:List Zl))])) (n':=(n+1)) (Fit2.of (Yq hU rfl rfl ?_) (by omega)) ?_
  ·exact zSe
  refine Km (k:=1) (k':=2) hU [0] [0,0] rfl rfl rfl rfl ⟨rfl,rfl⟩ ?_
  exact zSe
 obtain ⟨z48,hz48,h⟩:=bC h
 refine Zdb (J:=(Q7 (fun z48=>JR n (⟨114,[],[(4,(sL Zf z48))]⟩:Env) (Zx O n []) n) (fun z48=>JX 0 n (⟨114,[],[(5,.row n z48.length)]⟩:Env) (Zx O n [some (oR 41 14 Zf z48),none]) (n+2)))) (z:=z48) ?_ fun hw => ?_
 ·refine Xo hz48 (fun s0_=>⟨114,[],[(0,(vI a0)),(1,(sL Zf a1)),(5,.row n s0_.2.length),(6,(vI s0_.1))]⟩) (fun s0_=>(Zx O n [some (oR 41 14 Zf s0_.2),none])) (Q7 (fun z48=>JR n (⟨114,[],[(4,(sL Zf z48))]⟩:Env) (Zx O n []) n) (fun z48=>JX 0 n (⟨114,[],[(5,.row n z48.length)]⟩:Env) (Zx O n [some (oR 41 14 Zf z48),none]) (n+2))) ?_
  intro s0_ x0_ hs0_
  unfold X9 at hs0_
  try dsimp only
  refine Zq ?_
  refine zQ [0,1,5,6,16] ?_
  refine Z5 (t:=(decide (s0_.1 < (a1.length:Int)))) rfl (fun c47 => ?_) (fun c47 => ?_)
  ·replace hs0_:=Z4 c47 hs0_
   refine Gk [0,1,5,6] [true,false] ?_
   obtain ⟨z1,hz1,hs0_⟩:=bC hs0_
   refine Z99 (J:=(Q7 (fun z1=>JN n (⟨114,[],[(0,(vI a0)),(1,(sL Zf a1)),(5,.row n z1.2.length),(6,(vI z1.1))]⟩:Env) (Zx O n [some (oR 41 14 Zf z1.2),none,none,none,none,none]) (n+6)) (fun z1=>JR n (⟨114,[],[(4,.row n z1.length)]⟩:Env) (Zx O n [some (oR 41 14 Zf z1),none]) (n+2)))) (z:=z1) ?_ fun hw => ?_
   ·refine Yy ?_
    refine Zq ?_
    obtain ⟨y3,hy3,hz1⟩:=bC hz1
    refine zCd (Zj8 hy3) [0,1,5,6,7,8] [true,false] ?_
    refine Zq ?_
    obtain ⟨y5,hy5,hz1⟩:=bC hz1
    refine zCd (Zj8 hy5) [0,1,5,7,8,9] [true,false] ?_
    obtain ⟨z6,hz6,hz1⟩:=bC hz1
    refine Xa (E':=⟨114,[],[(0,(vI a0)),(1,(sL Zf a1)),(5,.row n z6.length),(8,(vI y3.2)),(9,(sL Za y5.1))]⟩) (O':=(Zx O n [some (oR 41 14 Zf z6),none,none])) (n0:=(n+3)) ?_ ?_
    ·refine zQ [0,1,5,7,8,9,33] ?_
     refine Z5 (t:=(decide (0 < (y3.1.length:Int)))) rfl (fun c8 => ?_) (fun c8 => ?_)
     ·replace hz6:=Z4 c8 hz6
      obtain ⟨l7,pl7,ql7,el7,hz6⟩:=bA (k:=1) rfl hz6
      refine Zeu [] pl7 ql7 el7 ?_
      exact Zfi hz6 pl7 ql7 el7
     replace hz6:=Z3 c8 hz6
     refine zK ?_
     exact zEn hz6
    obtain ⟨z9,hz9,hz1⟩:=bC hz1
    refine Xa (E':=⟨114,[],[(0,(vI a0)),(1,(sL Zf a1)),(5,.row n z9.length),(8,(vI y3.2))]⟩) (O':=(Zx O n [some (oR 41 14 Zf z9),none,none,none])) (n0:=(n+4)) ?_ ?_
    ·refine zQ [0,1,5,8,9,41] ?_
     refine Z5 (t:=(decide (0 < (y5.1.length:Int)))) rfl (fun c11 => ?_) (fun c11 => ?_)
     ·replace hz9:=Z4 c11 hz9
      obtain ⟨l10,pl10,ql10,el10,hz9⟩:=bA (k:=1) rfl hz9
      refine Zeu [] pl10 ql10 el10 ?_
      exact Zfi hz9 pl10 ql10 el10
     replace hz9:=Z3 c11 hz9
     refine zK ?_
     exact zEn hz9
    refine zQ [0,1,5,6] ?_
    refine Zq ?_
    refine zQ [0,1,5,6,51] ?_
    refine Z5 (t:=(decide ((a1.length:Int)≤y3.2))) rfl (fun c46 => ?_) (fun c46 => ?_)
    ·replace hz1:=Z4 c46 hz1
     refine zQ [4] ?_
     refine zW ?_
     exact zEn hz1
    replace hz1:=Z3 c46 hz1
    refine Gk [0,1,5,6] [true,false,false,false] ?_
    refine Zq ?_
    obtain ⟨x14,hx14,ax14,bx14,cx14,hz1⟩:=bE (f:=Zf) V2 (fun _=>rfl) (by decide) hz1
    have g15:=Jn (f:=Zf) (off:=1) (sz:=14) Zfa (fun _=>rfl) (by decide) (by decide) hx14
    refine Zsw [] ax14 bx14 cx14 g15 ?_
    refine zD [0,1,5,6,11] [true,false,false,false,true] ?_
    obtain ⟨z16,hz16,hz1⟩:=bC hz1
    refine Xa (E':=⟨114,[],[(0,(vI a0)),(1,(sL Zf a1)),(5,.row n z9.length),(6,(vI y3.2)),(11,.ref (n+4) 0)]⟩) (O':=(Zx O n [some (oR 41 14 Zf z9),none,none,none,some ⟨false,41,14,1,[(vI z16.1),(vI z16.2.1),nV,(vI z16.2.2.1),(vI z16.2.2.2.1),(sL (eI .u64) z16.2.2.2.2.1),(sL Za z16.2.2.2.2.2.1),(vI z16.2.2.2.2.2.2.1),(sL (eI .u64) z16.2.2.2.2.2.2.2.1),(sL Za z16.2.2.2.2.2.2.2.2.1),(sL Zd z16.2.2.2.2.2.2.2.2.2.1),(sL Zc z16.2.2.2.2.2.2.2.2.2.2.1),(vI z16.2.2.2.2.2.2.2.2.2.2.2.1),(sL Zf z16.2.2.2.2.2.2.2.2.2.2.2.2)]⟩])) (n0:=(n+5)) ?_ ?_
    ·obtain ⟨x19,hx19,ax19,bx19,cx19,hz16⟩:=bE (f:=Zf) V2 (fun _=>rfl) (by decide) hz16
     have g20:=Qc (f:=Zf) (sz:=14) Zfa (fun _=>rfl) (by decide) (by decide) hx19
     refine Zce [0,1,5,6,11,64] (Ya Z0 [] ?_)
     refine zF4 ax19 bx19 cx19 g20 ?_
     refine Z5 (t:=(x19.Kind == 3)) rfl (fun c30 => ?_) (fun c30 => ?_)
     ·replace hz16:=Z4 c30 hz16
      refine Zq ?_
      obtain ⟨x24,hx24,ax24,bx24,cx24,hz16⟩:=bE (f:=Zf) V2 (fun _=>rfl) (by decide) hz16
      have g25:=Jn (f:=Zf) (off:=3) (sz:=14) Zhj (fun _=>rfl) (by decide) (by decide) hx24
      obtain ⟨y26,hy26,hz16⟩:=bC hz16
      refine Zsw [] ax24 bx24 cx24 g25 ?_
      refine (Zb2 hy26).then ?_
      refine zF4 ax24 bx24 cx24 g25 ?_
      refine zDs [0,1,5,6,11] [true,false,false,false,true] ?_
      obtain ⟨y28,hy28,hz16⟩:=bC hz16
      refine zCd (Zpu hy28) [0,1,5,6,11,75] [true,false,false,false,true] ?_
      refine Z5 (t:=y28) rfl (fun c29 => ?_) (fun c29 => ?_)
      ·replace hz16:=Z4 c29 hz16
       refine zR ?_
       exact zEn hz16
      replace hz16:=Z3 c29 hz16
      refine zK ?_
      exact zEn hz16
     replace hz16:=Z3 c30 hz16
     refine zK ?_
     exact zEn hz16
    refine zQ [0,1,5,6,11,12] ?_
    obtain ⟨z33,hz33,hz1⟩:=bC hz1
    refine Xa (E':=⟨114,[],[(0,(vI a0)),(1,(sL Zf a1)),(5,.row n z9.length),(6,(vI y3.2)),(11,.ref (n+4) 0),(12,(vI (z9.length:Int))),(94,(vB z33))]⟩) (O':=(Zx O n [some (oR 41 14 Zf z9),none,none,none,some ⟨false,41,14,1,[(vI z16.1),(vI z16.2.1),nV,(vI z16.2.2.1),(vI z16.2.2.2.1),(sL (eI .u64) z16.2.2.2.2.1),(sL Za z16.2.2.2.2.2.1),(vI z16.2.2.2.2.2.2.1),(sL (eI .u64) z16.2.2.2.2.2.2.2.1),(sL Za z16.2.2.2.2.2.2.2.2.1),(sL Zd z16.2.2.2.2.2.2.2.2.2.1),(sL Zc z16.2.2.2.2.2.2.2.2.2.2.1),(vI z16.2.2.2.2.2.2.2.2.2.2.2.1),(sL Zf z16.2.2.2.2.2.2.2.2.2.2.2.2)]⟩])) (n0:=(n+5)) ?_ ?_
    ·rcases Bool.eq_false_or_eq_true (z16.1 == 0) with c38 | c38
     ·replace hz33:=Z4 c38 hz33
      rcases Bool.eq_false_or_eq_true (decide (0 < (z9.length:Int))) with c39 | c39
      ·replace hz33:=Z4 c39 hz33
       try rw [c39] at c38
       obtain ⟨x36,hx36,ax36,bx36,cx36,hz33⟩:=bE (f:=Zf) V2 (fun _=>rfl) (by decide) hz33
       have g37:=Qc (f:=Zf) (sz:=14) Zfa (fun _=>rfl) (by decide) (by decide) hx36
       refine Z8s (Vt::Vt::Z5n []) c38 c39 ax36 bx36 cx36 g37 ?_
       refine zG ?_
       exact Yat hz33 c38 c39 ax36 bx36 cx36 g37
      replace hz33:=Z3 c39 hz33
      try rw [c39] at c38
      refine Jg (Vt::Vt::Z5m []) c38 c39 ?_
      refine zG ?_
      exact Zjo hz33 c38 c39
     replace hz33:=Z3 c38 hz33
     refine Zd4 (Vt::Vt::Z5m []) c38 ?_
     refine zG ?_
     exact Zcr hz33 c38
    refine Z5 (t:=z33) rfl (fun c45 => ?_) (fun c45 => ?_)
    ·replace hz1:=Z4 c45 hz1
     obtain ⟨x40,hx40,ax40,bx40,cx40,hz1⟩:=bE (f:=Zf) V2 (fun _=>rfl) (by decide) hz1
     have g41:=Jn (f:=Zf) (off:=1) (sz:=14) Zfa (fun _=>rfl) (by decide) (by decide) hx40
     have gu43:J5 (fl Zf z9) [.val (.int .i64 (IntKind.i64.wrap (x40.N+z16.2.1)))] (Int.toNat (IntKind.i64.wrap ((z9.length:Int) - 1)) * 14+1)=some (fl Zf (Zld z9 (IntKind.i64.wrap ((z9.length:Int) - 1)) (⟨x40.Kind,(IntKind.i64.wrap (x40.N+z16.2.1)),x40.L,x40.E⟩:Zl))):=Z2r (f:=Zf) (sz:=14) (fun _=>rfl) (Nat.le_of_ble_eq_true rfl) hx40 (by simp only [Zf,Js,Za,Qf,Zd,Zc,X3,eI,eB,eS,eL,List.take_zero,List.take_succ_cons,List.drop_zero,List.drop_succ_cons,List.cons_append,List.nil_append,List.length_cons,List.length_nil,Nat.zero_add,Nat.reduceAdd])
     refine Gv Z0 (by kernel_rfl) [false,false,false,false,false,false,false,false,false,false,false,false,false,false,true] [] (by kernel_rfl) ?_
     refine zF5 ax40 bx40 cx40 g41 gu43 ?_
     exact Yas hz1 ax40 bx40 cx40 g41 gu43
    replace hz1:=Z3 c45 hz1
    obtain ⟨l44,pl44,ql44,el44,hz1⟩:=bA (k:=1) rfl hz1
    refine Zeu [] pl44 ql44 el44 ?_
    exact Zfi hz1 pl44 ql44 el44
   rcases z1 with z1 | z1
   ·dsimp only [Q7] at hw hs0_
    refine Xa hw ?_
    refine zR ?_
    exact zEn hs0_
   dsimp only [Q7] at hw hs0_
   refine Z54 hw ?_
   try simp only [Xh,Ys]
   exact zEy hs0_
  replace hs0_:=Z3 c47 hs0_
  exact zEx hs0_
 rcases z48 with z48 | z48
 ·dsimp only [Q7] at hw h
  refine Vf hw ?_
  try simp only [Xh,Ys,↓reduceIte,Nat.reduceEqDiff]
  exact Zmw [(sL Zf z48)]
 dsimp only [Q7] at hw h
 refine Y6 hw ?_
 try simp only [Xh,Ys,↓reduceIte,Nat.reduceEqDiff]
 refine zD [5] [true,false] ?_
 refine zQ [4] ?_
 exact X6 [.row n z48.length]
theorem Zmp:∀ k,(Zdv ((Xj k).1))∧(Zeh ((Xj k).2)):=fun k=>by
 induction k with
 | zero=>exact ⟨@fun a0 r O n h=>(nomatch (show (none:Option _)=some _ from h)),@fun a0 a1 r O n h=>(nomatch (show (none:Option _)=some _ from h))⟩
 | succ k ih=>exact ⟨@fun a0 r O n h=>Zo5 (ih.1) (ih.2)  h,@fun a0 a1 r O n h=>Zpv (ih.1) (ih.2)  h⟩
theorem Ze5 {a0:Zg} {r:Zg} {O:Objs} {n:Nat} (h:Zfv a0=some r):GTo Try.prog 9 [.agg (Zk a0)] O n (.agg (Zk r)) O n:=by
 obtain ⟨k,hk⟩:=Zbt h
 exact (Zmp k).1  hk
theorem Zpq {a0:(List Int)} {a1:(List Int)} {r:Bool} {O:Objs} {n:Nat} (h:Zbu a0 a1=some r):GTo Try.prog 31 [(sL (eI .u64) a0),(sL (eI .u64) a1)] O n ((vB r)) O n:=by
 unfold Zbu at h
 refine zFn Try.call31 Try.func31 fun hU hN0 hN => ?_
 show W _ _ _ _ ⟨26,[],[(0,(sL (eI .u64) a0)),(1,(sL (eI .u64) a1))]⟩ (Zx O n []) _
 refine zQ [0,1] ?_
 refine Zq ?_
 refine zQ [0,1,10] ?_
 refine Z5 (t:=((a0.length:Int) != (a1.length:Int))) rfl (fun c8 => ?_) (fun c8 => ?_)
 ·replace h:=Z4 c8 h
  refine zQ [4] ?_
  exact X6 [(vB false)]
 replace h:=Z3 c8 h
 refine Gk [0,1] [] ?_
 refine Zq ?_
 refine zQd [0,1,5] [0,1,5] [] ?_
 obtain ⟨z7,hz7,h⟩:=bC h
 refine Zdb (J:=(Q7 (fun z7=>JR n (⟨26,[],[(4,(vB false))]⟩:Env) (Zx O n []) n) (fun z7=>JX 0 n (⟨26,[],[]⟩:Env) (Zx O n []) n))) (z:=z7) ?_ fun hw => ?_
 ·refine Xo hz7 (fun s0_=>⟨26,[],[(0,(sL (eI .u64) a0)),(1,(sL (eI .u64) a1)),(5,(vI s0_))]⟩) (fun s0_=>(Zx O n [])) (Q7 (fun z7=>JR n (⟨26,[],[(4,(vB false))]⟩:Env) (Zx O n []) n) (fun z7=>JX 0 n (⟨26,[],[]⟩:Env) (Zx O n []) n)) ?_
  intro s0_ x0_ hs0_
  unfold Uo at hs0_
  try dsimp only
  refine Zq ?_
  refine zQ [0,1,5,14] ?_
  refine Z5 (t:=(decide (s0_ < (a0.length:Int)))) rfl (fun c6 => ?_) (fun c6 => ?_)
  ·replace hs0_:=Z4 c6 hs0_
   refine Gk [0,1,5] [] ?_
   refine Zq ?_
   refine Yy ?_
   obtain ⟨x3,hx3,ax3,bx3,cx3,hs0_⟩:=bE (f:=(eI .u64)) Zjl (fun _=>rfl) (by decide) hs0_
   obtain ⟨x4,hx4,ax4,bx4,cx4,hs0_⟩:=bE (f:=(eI .u64)) Zjl (fun _=>rfl) (by decide) hs0_
   refine Zce [0,1,5,25] (Xw Z0 (by kernel_rfl) [] (by kernel_rfl) ?_)
   refine zF6 ax3 bx3 cx3 ax4 bx4 cx4 ?_
   refine Z5 (t:=(x3 != x4)) rfl (fun c5 => ?_) (fun c5 => ?_)
   ·replace hs0_:=Z4 c5 hs0_
    refine zQ [4] ?_
    refine zW ?_
    exact zEy hs0_
   replace hs0_:=Z3 c5 hs0_
   refine Gk [0,1,5] [] ?_
   refine zR ?_
   exact zEn hs0_
  replace hs0_:=Z3 c6 hs0_
  exact zEx hs0_
 rcases z7 with z7 | z7
 ·dsimp only [Q7] at hw h
  refine Vf hw ?_
  try simp only [Xh,Ys,↓reduceIte,Nat.reduceEqDiff]
  exact Zmw [(vB false)]
 dsimp only [Q7] at hw h
 refine Y6 hw ?_
 try simp only [Xh,Ys,↓reduceIte,Nat.reduceEqDiff]
 refine zD [] [] ?_
 refine zQ [4] ?_
 exact X6 [(vB true)]
def Zg5 (Kl:(Zb→Zb→Option Bool)):Prop:=∀ {a0:Zb} {a1:Zb} {r:Bool} {O:Objs} {n:Nat},Kl a0 a1=some r→GTo Try.prog 15 [.agg (Zz a0),.agg (Zz a1)] O n ((vB r)) O n
theorem Zo3 {Kl:(Zb→Zb→Option Bool)} (Znc:Zg5 Kl) {a0:Zb} {a1:Zb} {r:Bool} {O:Objs} {n:Nat} (h:Zbn Kl a0 a1=some r):GTo Try.prog 15 [.agg (Zz a0),.agg (Zz a1)] O n ((vB r)) O n:=by
 unfold Zbn at h
 refine zFn Try.call15 Try.func15 fun hU hN0 hN => ?_
 show W _ _ _ _ ⟨47,[],[(0,.agg (Zz a0)),(1,.agg (Zz a1))]⟩ (Zx O n []) _
 refine zQ [2,3] ?_
 refine Zq ?_
 obtain ⟨z2,hz2,h⟩:=bC h
 refine Xa (E':=⟨47,[],[(2,.ref n 0),(3,.ref (n+1) 0),(27,(vB z2))]⟩) (O':=(Zx O n [some ⟨false,25,3,1,(Zz a0)⟩,some ⟨false,25,3,1,(Zz a1)⟩])) (n0:=(n+2)) ?_ ?_
 ·rcases Bool.eq_false_or_eq_true (a0.Kind != a1.Kind) with c5 | c5
  ·replace hz2:=Z4 c5 hz2
   refine Zd4 (Yb6 []) c5 ?_
   exact Zcr hz2 c5
  replace hz2:=Z3 c5 hz2
  obtain ⟨y4,hy4,hz2⟩:=bC hz2
  refine Zd4 (Zt2 (Zy7 [])) c5 ?_
  refine zG ?_
  refine (Zpq hy4).then ?_
  refine zX1 c5 ?_
  refine zG ?_
  exact Zcr hz2 c5
 refine Z5 (t:=z2) rfl (fun c15 => ?_) (fun c15 => ?_)
 ·replace h:=Z4 c15 h
  refine zQ [4] ?_
  exact X6 [(vB false)]
 replace h:=Z3 c15 h
 refine Gk [2,3] [true,true] ?_
 refine Zq ?_
 refine zQd [2,3,5] [2,3,5] [true,true] ?_
 obtain ⟨z14,hz14,h⟩:=bC h
 refine Zdb (J:=(Q7 (fun z14=>JR n (⟨47,[],[(4,(vB false))]⟩:Env) (Zx O n [none,none]) (n+2)) (fun z14=>JX 0 n (⟨47,[],[]⟩:Env) (Zx O n [none,none]) (n+2)))) (z:=z14) ?_ fun hw => ?_
 ·refine Xo hz14 (fun s0_=>⟨47,[],[(2,.ref n 0),(3,.ref (n+1) 0),(5,(vI s0_))]⟩) (fun s0_=>(Zx O n [some ⟨false,25,3,1,(Zz a0)⟩,some ⟨false,25,3,1,(Zz a1)⟩])) (Q7 (fun z14=>JR n (⟨47,[],[(4,(vB false))]⟩:Env) (Zx O n [none,none]) (n+2)) (fun z14=>JX 0 n (⟨47,[],[]⟩:Env) (Zx O n [none,none]) (n+2))) ?_
  intro s0_ x0_ hs0_
  unfold Ug at hs0_
  try dsimp only
  refine Zq ?_
  refine zQ [2,3,5,32] ?_
  refine Z5 (t:=(decide (s0_ < (a0.Kids.length:Int)))) rfl (fun c13 => ?_) (fun c13 => ?_)
  ·replace hs0_:=Z4 c13 hs0_
   refine Gk [2,3,5] [true,true] ?_
   refine Zq ?_
   refine Yy ?_
   refine Zq ?_
   obtain ⟨x9,hx9,ax9,bx9,cx9,hs0_⟩:=bE (f:=Za) Zb9 (fun _=>rfl) (by decide) hs0_
   obtain ⟨x10,hx10,ax10,bx10,cx10,hs0_⟩:=bE (f:=Za) Zb9 (fun _=>rfl) (by decide) hs0_
   obtain ⟨y11,hy11,hs0_⟩:=bC hs0_
   refine Xw Z0 (by kernel_rfl) [] (by kernel_rfl) ?_
   refine zF6 ax9 bx9 cx9 ax10 bx10 cx10 ?_
   refine PCall.of (Znc hy11) ?_
   refine zF6 ax9 bx9 cx9 ax10 bx10 cx10 ?_
   refine zD [2,3,5,46] [true,true] ?_
   refine Z5 (t:=(!y11)) rfl (fun c12 => ?_) (fun c12 => ?_)
   ·replace hs0_:=Z4 c12 hs0_
    refine zQ [4] ?_
    refine zW ?_
    exact zEy hs0_
   replace hs0_:=Z3 c12 hs0_
   refine Gk [2,3,5] [true,true] ?_
   refine zR ?_
   exact zEn hs0_
  replace hs0_:=Z3 c13 hs0_
  exact zEx hs0_
 rcases z14 with z14 | z14
 ·dsimp only [Q7] at hw h
  refine Vf hw ?_
  try simp only [Xh,Ys,↓reduceIte,Nat.reduceEqDiff]
  exact Zmw [(vB false)]
 dsimp only [Q7] at hw h
 refine Y6 hw ?_
 try simp only [Xh,Ys,↓reduceIte,Nat.reduceEqDiff]
 refine zD [] [false,false] ?_
 refine zQ [4] ?_
 exact X6 [(vB true)]
theorem Zmn:∀ k,(Zg5 (K2 k)):=fun k=>by
 induction k with
 | zero=>exact @fun a0 a1 r O n h=>(nomatch (show (none:Option _)=some _ from h))
 | succ k ih=>exact @fun a0 a1 r O n h=>Zo3 (ih)  h
theorem Zcz {a0:Zb} {a1:Zb} {r:Bool} {O:Objs} {n:Nat} (h:Zbw a0 a1=some r):GTo Try.prog 15 [.agg (Zz a0),.agg (Zz a1)] O n ((vB r)) O n:=by
 obtain ⟨k,hk⟩:=Zbt h
 exact (Zmn k)  hk
theorem Zff {a0:(List Zb)} {a1:(List Zb)} {r:Bool} {O:Objs} {n:Nat} (h:Vk a0 a1=some r):GTo Try.prog 16 [(sL Za a0),(sL Za a1)] O n ((vB r)) O n:=by
 unfold Vk at h
 refine zFn Try.call16 Try.func16 fun hU hN0 hN => ?_
 show W _ _ _ _ ⟨27,[],[(0,(sL Za a0)),(1,(sL Za a1))]⟩ (Zx O n []) _
 refine zQ [0,1] ?_
 refine Zq ?_
 refine zQ [0,1,10] ?_
 refine Z5 (t:=((a0.length:Int) != (a1.length:Int))) rfl (fun c10 => ?_) (fun c10 => ?_)
 ·replace h:=Z4 c10 h
  refine zQ [4] ?_
  exact X6 [(vB false)]
 replace h:=Z3 c10 h
 refine Gk [0,1] [] ?_
 refine Zq ?_
 refine zQd [0,1,5] [0,1,5] [] ?_
 obtain ⟨z9,hz9,h⟩:=bC h
 refine Zdb (J:=(Q7 (fun z9=>JR n (⟨27,[],[(4,(vB false))]⟩:Env) (Zx O n []) n) (fun z9=>JX 0 n (⟨27,[],[]⟩:Env) (Zx O n []) n))) (z:=z9) ?_ fun hw => ?_
 ·refine Xo hz9 (fun s0_=>⟨27,[],[(0,(sL Za a0)),(1,(sL Za a1)),(5,(vI s0_))]⟩) (fun s0_=>(Zx O n [])) (Q7 (fun z9=>JR n (⟨27,[],[(4,(vB false))]⟩:Env) (Zx O n []) n) (fun z9=>JX 0 n (⟨27,[],[]⟩:Env) (Zx O n []) n)) ?_
  intro s0_ x0_ hs0_
  unfold Vw at hs0_
  try dsimp only
  refine Zq ?_
  refine zQ [0,1,5,14] ?_
  refine Z5 (t:=(decide (s0_ < (a0.length:Int)))) rfl (fun c8 => ?_) (fun c8 => ?_)
  ·replace hs0_:=Z4 c8 hs0_
   refine Gk [0,1,5] [] ?_
   refine Zq ?_
   refine Yy ?_
   refine Zq ?_
   obtain ⟨x4,hx4,ax4,bx4,cx4,hs0_⟩:=bE (f:=Za) Zb9 (fun _=>rfl) (by decide) hs0_
   obtain ⟨x5,hx5,ax5,bx5,cx5,hs0_⟩:=bE (f:=Za) Zb9 (fun _=>rfl) (by decide) hs0_
   obtain ⟨y6,hy6,hs0_⟩:=bC hs0_
   refine Xw Z0 (by kernel_rfl) [] (by kernel_rfl) ?_
   refine zF6 ax4 bx4 cx4 ax5 bx5 cx5 ?_
   refine PCall.of (Zcz hy6) ?_
   refine zF6 ax4 bx4 cx4 ax5 bx5 cx5 ?_
   refine zD [0,1,5,26] [] ?_
   refine Z5 (t:=(!y6)) rfl (fun c7 => ?_) (fun c7 => ?_)
   ·replace hs0_:=Z4 c7 hs0_
    refine zQ [4] ?_
    refine zW ?_
    exact zEy hs0_
   replace hs0_:=Z3 c7 hs0_
   refine Gk [0,1,5] [] ?_
   refine zR ?_
   exact zEn hs0_
  replace hs0_:=Z3 c8 hs0_
  exact zEx hs0_
 rcases z9 with z9 | z9
 ·dsimp only [Q7] at hw h
  refine Vf hw ?_
  try simp only [Xh,Ys,↓reduceIte,Nat.reduceEqDiff]
  exact Zmw [(vB false)]
 dsimp only [Q7] at hw h
 refine Y6 hw ?_
 try simp only [Xh,Ys,↓reduceIte,Nat.reduceEqDiff]
 refine zD [] [] ?_
 refine zQ [4] ?_
 exact X6 [(vB true)]
def Zg7 (Qj:(Zg→Zg→Option Bool)):Prop:=∀ {a0:Zg} {a1:Zg} {r:Bool} {O:Objs} {n:Nat},Qj a0 a1=some r→GTo Try.prog 8 [.agg (Zk a0),.agg (Zk a1)] O n ((vB r)) O n
theorem Zo6 {Qj:(Zg→Zg→Option Bool)} (Zha:Zg7 Qj) {a0:Zg} {a1:Zg} {r:Bool} {O:Objs} {n:Nat} (h:Zbp Qj a0 a1=some r):GTo Try.prog 8 [.agg (Zk a0),.agg (Zk a1)] O n ((vB r)) O n:=by
 unfold Zbp at h
 refine zFn Try.call8 Try.func8 fun hU hN0 hN => ?_
 show W _ _ _ _ ⟨164,[],[(0,.agg (Zk a0)),(1,.agg (Zk a1))]⟩ (Zx O n []) _
 refine zQ [2,3] ?_
 refine Zq ?_
 obtain ⟨z3,hz3,h⟩:=bC h
 refine Xa (E':=⟨164,[],[(2,.ref n 0),(3,.ref (n+1) 0),(64,(vB z3))]⟩) (O':=(Zx O n [some ⟨false,30,11,1,(Zk a0)⟩,some ⟨false,30,11,1,(Zk a1)⟩])) (n0:=(n+2)) ?_ ?_
 ·rcases Bool.eq_false_or_eq_true (a0.Kind != a1.Kind) with c8 | c8
  ·replace hz3:=Z4 c8 hz3
   refine Zd4 (Z0l (Yai [])) c8 ?_
   refine zG ?_
   exact Zcr hz3 c8
  replace hz3:=Z3 c8 hz3
  rcases Bool.eq_false_or_eq_true (a0.List_ != a1.List_) with c9 | c9
  ·replace hz3:=Z4 c9 hz3
   try rw [c9] at c8
   refine Jg (Z0l (Yai [])) c8 c9 ?_
   refine zG ?_
   exact Zjo hz3 c8 c9
  replace hz3:=Z3 c9 hz3
  try rw [c9] at c8
  obtain ⟨y6,hy6,hz3⟩:=bC hz3
  rcases Bool.eq_false_or_eq_true y6 with c10 | c10
  ·replace hz3:=Z4 c10 hz3
   try rw [c10] at c8
   try rw [c10] at c9
   obtain ⟨y7,hy7,hz3⟩:=bC hz3
   refine Zeu (Z0l (Zpd (Ycd []))) c8 c9 c10 ?_
   refine zG ?_
   refine (Zcz hy6).then ?_
   refine zX3 c8 c9 c10 ?_
   refine zG ?_
   refine (Zcz hy7).then ?_
   refine zX3 c8 c9 c10 ?_
   refine zG ?_
   exact Zfi hz3 c8 c9 c10
  replace hz3:=Z3 c10 hz3
  try rw [c10] at c8
  try rw [c10] at c9
  refine Zeu (Z0l (Zt2 (Yag []))) c8 c9 c10 ?_
  refine zG ?_
  refine (Zcz hy6).then ?_
  refine zX3 c8 c9 c10 ?_
  refine zG ?_
  exact Zfi hz3 c8 c9 c10
 refine Z5 (t:=z3) rfl (fun c65 => ?_) (fun c65 => ?_)
 ·replace h:=Z4 c65 h
  refine zQ [4] ?_
  exact X6 [(vB false)]
 replace h:=Z3 c65 h
 refine Gk [2,3] [true,true] ?_
 refine Zq ?_
 refine zQd [2,3,5] [2,3,5] [true,true] ?_
 obtain ⟨z17,hz17,h⟩:=bC h
 refine Zdb (J:=(Q7 (fun z17=>JR n (⟨164,[],[(4,(vB false))]⟩:Env) (Zx O n [none,none]) (n+2)) (fun z17=>JX 0 n (⟨164,[],[(2,.ref n 0),(3,.ref (n+1) 0)]⟩:Env) (Zx O n [some ⟨false,30,11,1,(Zk a0)⟩,some ⟨false,30,11,1,(Zk a1)⟩]) (n+2)))) (z:=z17) ?_ fun hw => ?_
 ·refine Xo hz17 (fun s0_=>⟨164,[],[(2,.ref n 0),(3,.ref (n+1) 0),(5,(vI s0_))]⟩) (fun s0_=>(Zx O n [some ⟨false,30,11,1,(Zk a0)⟩,some ⟨false,30,11,1,(Zk a1)⟩])) (Q7 (fun z17=>JR n (⟨164,[],[(4,(vB false))]⟩:Env) (Zx O n [none,none]) (n+2)) (fun z17=>JX 0 n (⟨164,[],[(2,.ref n 0),(3,.ref (n+1) 0)]⟩:Env) (Zx O n [some ⟨false,30,11,1,(Zk a0)⟩,some ⟨false,30,11,1,(Zk a1)⟩]) (n+2))) ?_
  intro s0_ x0_ hs0_
  unfold Uj at hs0_
  try dsimp only
  refine Zq ?_
  refine zQ [2,3,5,69] ?_
  refine Z5 (t:=(decide (s0_ < (a0.Words.length:Int)))) rfl (fun c16 => ?_) (fun c16 => ?_)
  ·replace hs0_:=Z4 c16 hs0_
   refine Gk [2,3,5] [true,true] ?_
   refine Zq ?_
   refine Yy ?_
   obtain ⟨x13,hx13,ax13,bx13,cx13,hs0_⟩:=bE (f:=Zd) Zlm (fun _=>rfl) (by decide) hs0_
   obtain ⟨x14,hx14,ax14,bx14,cx14,hs0_⟩:=bE (f:=Zd) Zlm (fun _=>rfl) (by decide) hs0_
   refine Zce [2,3,5,82] (Xw Z0 (by kernel_rfl) [] (by kernel_rfl) ?_)
   refine zF6 ax13 bx13 cx13 ax14 bx14 cx14 ?_
   refine Z5 (t:=(!((x13.At == x14.At) && ((x13.Mask == x14.Mask) && ((x13.Old == x14.Old) && (x13.New == x14.New)))))) rfl (fun c15 => ?_) (fun c15 => ?_)
   ·replace hs0_:=Z4 c15 hs0_
    refine zQ [4] ?_
    refine zW ?_
    exact zEy hs0_
   replace hs0_:=Z3 c15 hs0_
   refine Gk [2,3,5] [true,true] ?_
   refine zR ?_
   exact zEn hs0_
  replace hs0_:=Z3 c16 hs0_
  exact zEx hs0_
 rcases z17 with z17 | z17
 ·dsimp only [Q7] at hw h
  refine Vf hw ?_
  try simp only [Xh,Ys,↓reduceIte,Nat.reduceEqDiff]
  exact Zmw [(vB false)]
 dsimp only [Q7] at hw h
 refine Y6 hw ?_
 try simp only [Xh,Ys,↓reduceIte,Nat.reduceEqDiff]
 refine zDs [2,3] [true,true] ?_
 refine zQd [2,3,6] [2,3,6] [true,true] ?_
 obtain ⟨z49,hz49,h⟩:=bC h
 refine Zdb (J:=(Q7 (fun z49=>JR n (⟨164,[],[(4,(vB false))]⟩:Env) (Zx O n [none,none]) (n+2)) (fun z49=>JX 2 n (⟨164,[],[(2,.ref n 0),(3,.ref (n+1) 0)]⟩:Env) (Zx O n [some ⟨false,30,11,1,(Zk a0)⟩,some ⟨false,30,11,1,(Zk a1)⟩]) (n+2)))) (z:=z49) ?_ fun hw => ?_
 ·refine Xo hz49 (fun s1_=>⟨164,[],[(2,.ref n 0),(3,.ref (n+1) 0),(6,(vI s1_))]⟩) (fun s1_=>(Zx O n [some ⟨false,30,11,1,(Zk a0)⟩,some ⟨false,30,11,1,(Zk a1)⟩])) (Q7 (fun z49=>JR n (⟨164,[],[(4,(vB false))]⟩:Env) (Zx O n [none,none]) (n+2)) (fun z49=>JX 2 n (⟨164,[],[(2,.ref n 0),(3,.ref (n+1) 0)]⟩:Env) (Zx O n [some ⟨false,30,11,1,(Zk a0)⟩,some ⟨false,30,11,1,(Zk a1)⟩]) (n+2))) ?_
  intro s1_ x1_ hs1_
  unfold Uk at hs1_
  try dsimp only
  refine Zq ?_
  refine zQ [2,3,6,87] ?_
  refine Z5 (t:=(decide (s1_ < (a0.Kids.length:Int)))) rfl (fun c48 => ?_) (fun c48 => ?_)
  ·replace hs1_:=Z4 c48 hs1_
   refine Gk [2,3,6] [true,true] ?_
   refine Zq ?_
   refine Yy ?_
   obtain ⟨z27,hz27,hs1_⟩:=bC hs1_
   refine Xa (E':=⟨164,[],[(2,.ref n 0),(3,.ref (n+1) 0),(6,(vI s1_)),(118,(vB z27))]⟩) (O':=(Zx O n [some ⟨false,30,11,1,(Zk a0)⟩,some ⟨false,30,11,1,(Zk a1)⟩])) (n0:=(n+2)) ?_ ?_
   ·obtain ⟨x37,hx37,ax37,bx37,cx37,hz27⟩:=bE (f:=Zc) Zc9 (fun _=>rfl) (by decide) hz27
    have g38:=Qc (f:=Zc) (sz:=12) Zfa (fun _=>rfl) (by decide) (by decide) hx37
    obtain ⟨x39,hx39,ax39,bx39,cx39,hz27⟩:=bE (f:=Zc) Zc9 (fun _=>rfl) (by decide) hz27
    have g40:=Qc (f:=Zc) (sz:=12) Zfa (fun _=>rfl) (by decide) (by decide) hx39
    rcases Bool.eq_false_or_eq_true (x37.At != x39.At) with c46 | c46
    ·replace hz27:=Z4 c46 hz27
     refine Xw Z0 (by kernel_rfl) (Z7a []) (by kernel_rfl) ?_
     refine zF9 ax37 bx37 cx37 g38 ax39 bx39 cx39 g40 c46 ?_
     obtain rfl:=sI hz27
     refine And.intro rfl (Fit2.of (Yq hU rfl rfl ?_) (by omega))
     exact Z3f ax37 bx37 cx37 g38 ax39 bx39 cx39 g40 c46
    replace hz27:=Z3 c46 hz27
    have g42:=Jn (f:=Zc) (off:=1) (sz:=12) Zhj (fun _=>rfl) (by decide) (by decide) hx37
    have g44:=Jn (f:=Zc) (off:=1) (sz:=12) Zhj (fun _=>rfl) (by decide) (by decide) hx39
    obtain ⟨y45,hy45,hz27⟩:=bC hz27
    refine Xw Z0 (by kernel_rfl) (Z7d []) (by kernel_rfl) ?_
    refine Ydx ax37 bx37 cx37 g38 ax39 bx39 cx39 g40 c46 g42 g44 ?_
    refine PCall.of (Zha hy45) ?_
    refine Ydx ax37 bx37 cx37 g38 ax39 bx39 cx39 g40 c46 g42 g44 ?_
    obtain rfl:=sI hz27
    refine And.intro rfl (Fit2.of (Yq hU rfl rfl ?_) (by omega))
    exact Ydz ax37 bx37 cx37 g38 ax39 bx39 cx39 g40 c46 g42 g44
   refine Z5 (t:=z27) rfl (fun c47 => ?_) (fun c47 => ?_)
   ·replace hs1_:=Z4 c47 hs1_
    refine zQ [4] ?_
    refine zW ?_
    exact zEy hs1_
   replace hs1_:=Z3 c47 hs1_
   refine Gk [2,3,6] [true,true] ?_
   refine zR ?_
   exact zEn hs1_
  replace hs1_:=Z3 c48 hs1_
  exact zEx hs1_
 rcases z49 with z49 | z49
 ·dsimp only [Q7] at hw h
  refine Vf hw ?_
  try simp only [Xh,Ys,↓reduceIte,Nat.reduceEqDiff]
  exact Zmw [(vB false)]
 dsimp only [Q7] at hw h
 refine Y6 hw ?_
 try simp only [Xh,Ys,↓reduceIte,Nat.reduceEqDiff]
 refine zDs [2,3] [true,true] ?_
 refine zQd [2,3,7] [2,3,7] [true,true] ?_
 obtain ⟨z64,hz64,h⟩:=bC h
 refine Zdb (J:=(Q7 (fun z64=>JR n (⟨164,[],[(4,(vB false))]⟩:Env) (Zx O n [none,none]) (n+2)) (fun z64=>JX 4 n (⟨164,[],[]⟩:Env) (Zx O n [none,none]) (n+2)))) (z:=z64) ?_ fun hw => ?_
 ·refine Xo hz64 (fun s2_=>⟨164,[],[(2,.ref n 0),(3,.ref (n+1) 0),(7,(vI s2_))]⟩) (fun s2_=>(Zx O n [some ⟨false,30,11,1,(Zk a0)⟩,some ⟨false,30,11,1,(Zk a1)⟩])) (Q7 (fun z64=>JR n (⟨164,[],[(4,(vB false))]⟩:Env) (Zx O n [none,none]) (n+2)) (fun z64=>JX 4 n (⟨164,[],[]⟩:Env) (Zx O n [none,none]) (n+2))) ?_
  intro s2_ x2_ hs2_
  unfold Ul at hs2_
  try dsimp only
  refine Zq ?_
  refine zQ [2,3,7,123] ?_
  refine Z5 (t:=(decide (s2_ < (a0.Ops.length:Int)))) rfl (fun c63 => ?_) (fun c63 => ?_)
  ·replace hs2_:=Z4 c63 hs2_
   refine Gk [2,3,7] [true,true] ?_
   refine Zq ?_
   refine Yy ?_
   obtain ⟨x50,hx50,ax50,bx50,cx50,hs2_⟩:=bE (f:=Zf) V2 (fun _=>rfl) (by decide) hs2_
   obtain ⟨x51,hx51,ax51,bx51,cx51,hs2_⟩:=bE (f:=Zf) V2 (fun _=>rfl) (by decide) hs2_
   refine Xa (E':=⟨164,[],[(2,.ref n 0),(3,.ref (n+1) 0),(7,(vI s2_)),(8,.ref (n+2) 0),(9,.ref (n+3) 0)]⟩) (O':=(Zx O n [some ⟨false,30,11,1,(Zk a0)⟩,some ⟨false,30,11,1,(Zk a1)⟩,some ⟨false,41,14,1,(Yz x50)⟩,some ⟨false,41,14,1,(Yz x51)⟩])) (n0:=(n+4)) ?_ ?_
   ·refine Z8v Z0 (by kernel_rfl) [.low,.low,.low,.low,.low,.low,.low,.low,.low,.low,.pass,.pass,.pass,.pass] (fun i=>i < (n+2)) 10 11 [0,1,2,3,4,5,6,7,8,9] [12,13] [.low,.low,.low,.low,.low,.low,.low,.low,.low,.low] [.pass,.pass,.pass,.pass] [.pass,.pass,.pass,.pass] [] (by kernel_rfl) rfl rfl rfl ?_
    refine zF6 ax50 bx50 cx50 ax51 bx51 cx51 ?_
    repeat (with_reducible refine And.intro (by omega) ?_)
    refine And.intro ?_ ?_
    ·refine zF6 ax50 bx50 cx50 ax51 bx51 cx51 ?_
     repeat (with_reducible refine And.intro (by first | exact Z6 rfl | exact Zw) ?_)
     exact Ydu ax50 bx50 cx50 ax51 bx51 cx51
    refine zF6 ax50 bx50 cx50 ax51 bx51 cx51 ?_
    repeat (with_reducible refine And.intro (by first | exact Z6 rfl | exact Zw) ?_)
    refine And.intro rfl ?_
    refine Fit2.trans (E':=(⟨164,[],[(2,.ref n 0),(3,.ref (n+1) 0),(7,(vI s2_)),(8,.ref (n+3) 0),(9,.ref (n+2) 0)]⟩:Env)) (O':=(Zx O n [some ⟨false,30,11,1,(Zk a0)⟩,some ⟨false,30,11,1,(Zk a1)⟩,some ⟨false,41,14,1,(Yz x51)⟩,some ⟨false,41,14,1,(Yz x50)⟩])) (n':=(n+4)) (Fit2.of (Yq hU rfl rfl ?_) (by omega)) ?_
    ·exact Yd0 ax50 bx50 cx50 ax51 bx51 cx51
    refine Km (k:=4) (k':=4) hU [0,1,3,2] [0,1,3,2] rfl rfl rfl rfl ⟨rfl,rfl⟩ ?_
    exact zSe
   obtain ⟨z54,hz54,hs2_⟩:=bC hs2_
   refine Xa (E':=⟨164,[],[(2,.ref n 0),(3,.ref (n+1) 0),(7,(vI s2_)),(163,(vB z54))]⟩) (O':=(Zx O n [some ⟨false,30,11,1,(Zk a0)⟩,some ⟨false,30,11,1,(Zk a1)⟩,none,none])) (n0:=(n+4)) ?_ ?_
   ·rcases Bool.eq_false_or_eq_true (x50.Kind != x51.Kind) with c59 | c59
    ·replace hz54:=Z4 c59 hz54
     refine Zd4 (Z0l (Zq5 [])) c59 ?_
     refine zG ?_
     exact Zcr hz54 c59
    replace hz54:=Z3 c59 hz54
    rcases Bool.eq_false_or_eq_true (x50.N != x51.N) with c60 | c60
    ·replace hz54:=Z4 c60 hz54
     try rw [c60] at c59
     refine Jg (Z0l (Zq5 [])) c59 c60 ?_
     refine zG ?_
     exact Zjo hz54 c59 c60
    replace hz54:=Z3 c60 hz54
    try rw [c60] at c59
    obtain ⟨y57,hy57,hz54⟩:=bC hz54
    rcases Bool.eq_false_or_eq_true y57 with c61 | c61
    ·replace hz54:=Z4 c61 hz54
     try rw [c61] at c59
     try rw [c61] at c60
     obtain ⟨y58,hy58,hz54⟩:=bC hz54
     refine Zeu (Z0l (Zpd [])) c59 c60 c61 ?_
     refine zG ?_
     refine (Zff hy57).then ?_
     refine zX3 c59 c60 c61 ?_
     refine zG ?_
     refine (Zha hy58).then ?_
     refine zX3 c59 c60 c61 ?_
     refine zG ?_
     exact Zfi hz54 c59 c60 c61
    replace hz54:=Z3 c61 hz54
    try rw [c61] at c59
    try rw [c61] at c60
    refine Zeu (Z0l (Zt2 (Zxe []))) c59 c60 c61 ?_
    refine zG ?_
    refine (Zff hy57).then ?_
    refine zX3 c59 c60 c61 ?_
    refine zG ?_
    exact Zfi hz54 c59 c60 c61
   refine Z5 (t:=z54) rfl (fun c62 => ?_) (fun c62 => ?_)
   ·replace hs2_:=Z4 c62 hs2_
    refine zQ [4] ?_
    refine zW ?_
    exact zEy hs2_
   replace hs2_:=Z3 c62 hs2_
   refine Gk [2,3,7] [true,true,false,false] ?_
   refine zR ?_
   exact zEn hs2_
  replace hs2_:=Z3 c63 hs2_
  exact zEx hs2_
 rcases z64 with z64 | z64
 ·dsimp only [Q7] at hw h
  refine Vf hw ?_
  try simp only [Xh,Ys,↓reduceIte,Nat.reduceEqDiff]
  exact Zmw [(vB false)]
 dsimp only [Q7] at hw h
 refine Y6 hw ?_
 try simp only [Xh,Ys,↓reduceIte,Nat.reduceEqDiff]
 refine zD [] [false,false] ?_
 refine zQ [4] ?_
 exact X6 [(vB true)]
theorem Zmq:∀ k,(Zg7 (K3 k)):=fun k=>by
 induction k with
 | zero=>exact @fun a0 a1 r O n h=>(nomatch (show (none:Option _)=some _ from h))
 | succ k ih=>exact @fun a0 a1 r O n h=>Zo6 (ih)  h
theorem Ze6 {a0:Zg} {a1:Zg} {r:Bool} {O:Objs} {n:Nat} (h:Zfw a0 a1=some r):GTo Try.prog 8 [.agg (Zk a0),.agg (Zk a1)] O n ((vB r)) O n:=by
 obtain ⟨k,hk⟩:=Zbt h
 exact (Zmq k)  hk
theorem Zkk {a0:Zg} {r:Bool} {O:Objs} {n:Nat} (h:U1 a0=some r):GTo Try.prog 4 [.agg (Zk a0)] O n ((vB r)) O n:=by
 unfold U1 at h
 refine zFn Try.call4 Try.func4 fun hU hN0 hN => ?_
 show W _ _ _ _ ⟨57,[],[(0,.agg (Zk a0))]⟩ (Zx O n []) _
 refine zQ [1] ?_
 refine Zq ?_
 refine Zq ?_
 obtain ⟨y2,hy2,h⟩:=bC h
 refine zCd (Zps hy2) [1,11] [true] ?_
 refine Z5 (t:=(!y2)) rfl (fun c25 => ?_) (fun c25 => ?_)
 ·replace h:=Z4 c25 h
  refine Zq ?_
  obtain ⟨y4,hy4,h⟩:=bC h
  refine zCd (Zhu hy4) [2] [false] ?_
  exact X6 [(vB y4)]
 replace h:=Z3 c25 h
 refine Gk [1] [true] ?_
 refine Zq ?_
 obtain ⟨y6,hy6,h⟩:=bC h
 refine zCd (Zhq hy6) [1,3,4,5] [true,true,true] ?_
 refine Zq ?_
 obtain ⟨y8,hy8,h⟩:=bC h
 refine zR ?_
 refine GCalls.argsW ?_ ((Zhq hy8).then ?_)
 ·exact zSe
 refine zS ?_
 refine zD [1,3,4,5,6,7,8] [true,true,true,true,true] ?_
 obtain ⟨z12,hz12,h⟩:=bC h
 refine Xa (E':=⟨57,[],[(2,(vB z12))]⟩) (O':=(Zx O n [none,none,none,none,none])) (n0:=(n+5)) ?_ ?_
 ·rcases Bool.eq_false_or_eq_true (y6.2.2 == 0) with c19 | c19
  ·replace hz12:=Z4 c19 hz12
   rcases Bool.eq_false_or_eq_true (y6.1.Kind == 0) with c20 | c20
   ·replace hz12:=Z4 c20 hz12
    try rw [c20] at c19
    rcases Bool.eq_false_or_eq_true (y6.2.1.Kind == 0) with c21 | c21
    ·replace hz12:=Z4 c21 hz12
     try rw [c21] at c19
     try rw [c21] at c20
     rcases Bool.eq_false_or_eq_true (y8.2.2 == 0) with c22 | c22
     ·replace hz12:=Z4 c22 hz12
      try rw [c22] at c19
      try rw [c22] at c20
      try rw [c22] at c21
      obtain ⟨y16,hy16,hz12⟩:=bC hz12
      obtain ⟨y17,hy17,hz12⟩:=bC hz12
      rcases Bool.eq_false_or_eq_true y17 with c23 | c23
      ·replace hz12:=Z4 c23 hz12
       try rw [c23] at c19
       try rw [c23] at c20
       try rw [c23] at c21
       try rw [c23] at c22
       rcases Bool.eq_false_or_eq_true (y8.2.1.Kind == 0) with c24 | c24
       ·replace hz12:=Z4 c24 hz12
        try rw [c24] at c19
        try rw [c24] at c20
        try rw [c24] at c21
        try rw [c24] at c22
        try rw [c24] at c23
        obtain ⟨y18,hy18,hz12⟩:=bC hz12
        refine Xw Z0 (by kernel_rfl) (Zm9 (Z2z (Ybc [U8]))) (by kernel_rfl) ?_
        refine zX6 c19 c20 c21 c22 c23 c24 ?_
        refine zG ?_
        refine PCall.of (Ze5 hy16) ?_
        refine zX6 c19 c20 c21 c22 c23 c24 ?_
        refine zG ?_
        refine PCall.of (Ze6 hy17) ?_
        refine zX6 c19 c20 c21 c22 c23 c24 ?_
        refine zG ?_
        refine PCall.of (Zhu hy18) ?_
        refine zX6 c19 c20 c21 c22 c23 c24 ?_
        refine zG ?_
        exact Yav hz12 c19 c20 c21 c22 c23 c24
       replace hz12:=Z3 c24 hz12
       try rw [c24] at c19
       try rw [c24] at c20
       try rw [c24] at c21
       try rw [c24] at c22
       try rw [c24] at c23
       refine Xw Z0 (by kernel_rfl) (Zm9 (Z2z (Ybc [Y7]))) (by kernel_rfl) ?_
       refine zX6 c19 c20 c21 c22 c23 c24 ?_
       refine zG ?_
       refine PCall.of (Ze5 hy16) ?_
       refine zX6 c19 c20 c21 c22 c23 c24 ?_
       refine zG ?_
       refine PCall.of (Ze6 hy17) ?_
       refine zX6 c19 c20 c21 c22 c23 c24 ?_
       refine zG ?_
       exact Yav hz12 c19 c20 c21 c22 c23 c24
      replace hz12:=Z3 c23 hz12
      try rw [c23] at c19
      try rw [c23] at c20
      try rw [c23] at c21
      try rw [c23] at c22
      refine Xw Z0 (by kernel_rfl) (Zm9 (Z2z (Ybc [Y7]))) (by kernel_rfl) ?_
      refine zX5 c19 c20 c21 c22 c23 ?_
      refine zG ?_
      refine PCall.of (Ze5 hy16) ?_
      refine zX5 c19 c20 c21 c22 c23 ?_
      refine zG ?_
      refine PCall.of (Ze6 hy17) ?_
      refine zX5 c19 c20 c21 c22 c23 ?_
      refine zG ?_
      exact Yau hz12 c19 c20 c21 c22 c23
     replace hz12:=Z3 c22 hz12
     try rw [c22] at c19
     try rw [c22] at c20
     try rw [c22] at c21
     refine Xw Z0 (by kernel_rfl) (Zm9 (Z7c [])) (by kernel_rfl) ?_
     refine zX4 c19 c20 c21 c22 ?_
     refine zG ?_
     exact Z14 hz12 c19 c20 c21 c22
    replace hz12:=Z3 c21 hz12
    try rw [c21] at c19
    try rw [c21] at c20
    refine Xw Z0 (by kernel_rfl) (Zm9 (Z7c [])) (by kernel_rfl) ?_
    refine zX3 c19 c20 c21 ?_
    refine zG ?_
    exact Zfi hz12 c19 c20 c21
   replace hz12:=Z3 c20 hz12
   try rw [c20] at c19
   refine Xw Z0 (by kernel_rfl) (Zm9 (Z7c [])) (by kernel_rfl) ?_
   refine zX2 c19 c20 ?_
   refine zG ?_
   exact Zjo hz12 c19 c20
  replace hz12:=Z3 c19 hz12
  refine Xw Z0 (by kernel_rfl) (Zm9 (Z7c [])) (by kernel_rfl) ?_
  refine zX1 c19 ?_
  refine zG ?_
  exact Zcr hz12 c19
 exact X6 [(vB z12)]
end Go.Proofs.Ytocpndlnbmjpmaa
