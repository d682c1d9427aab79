/- Part KM6 of this seat's mirrors: functions of the seat's program, and the plain functions that they are; each theorem bears its own conditions. -/
import Derived.Test.YtpfbdlcnfekdkaaKE
import Derived.Test.YtpfbdlcnfekdkaaKM5
namespace Go.Proofs.Ytpfbdlcnfekdkaa
open Go.RowKit
set_option linter.unusedVariables false
set_option linter.unusedSimpArgs false
set_option maxRecDepth 100000
set_option maxHeartbeats 4000000
attribute [local push_cast] Try.results5 vI vB nV sL oR Yy Zd Q9 Xh Zk Zqe Zqd Zre Zrd Xc Ym Zmd Zha Zg9 onW Xx Zds Zcu Zqk Zpc Zkf Zkk Zke Zkj Znm Zni Zki Znl Znk Znj Zkg Zng Zh1 evS wok Q5 Op.operands Call.operands gop onK onP atK List.all_cons List.all_nil Bool.and_true Bool.true_and Bool.and_self Value.oneCell' List.take_zero List.take_succ_cons List.take_nil List.drop_zero List.drop_succ_cons List.drop_nil List.append_nil Nat.add_zero Nat.zero_add U1 Yd ev Jn Zpb Zp4 Zp3 Zp9 Zp7 Zp8 Zp5 Zp6 Zp2 Zti Zub Zx0 Zi0 Zc6 Zil Zdl Zjn Zgb Ze9 Zfe Zg4 Zg0 Zfc Zg3 Zg2 Zg1 Zfb Zgy Zfa Zfd Zd7 Zgz Zls Zhb Zay Zin Zaz Zks Ziz Zve bLo bHi bMx Zc7 Zkr Zzd Ziy Zli Ze6 Gf Zt3 Zzh Zij Zfj Zzk Zc5 Z05 Zmm Zmq Zml Zmp Zqs Zqo Zqm Zjq Zmn Zqr Zqq Zqp Zmo Zqn Zku Zqg Znb Zhu Zht pop TK.isAgg Zq6 Zra Zq5 Zq9 Zm4 Zv2 Zvy Zq8 Zv1 Zv0 Zvz Zq7 Zvx G.under G.unders List.getD_cons_zero List.getD_cons_succ List.set_cons_zero List.set_cons_succ List.map_cons List.map_nil List.toList_toArray Array.toList_append Option.toArray_none Option.toArray_some Array.toList_map Option.map_some Option.map_none Option.bind_some Option.bind_none List.getElem?_cons_zero List.getElem?_cons_succ List.getElem?_nil List.nil_append List.cons_append List.replicate_succ List.replicate_zero List.length_cons List.length_nil and_true true_and and_false false_and Bool.true_eq_false Bool.false_eq_true forall_const false_implies implies_true IntKind.bits if_true if_false ite_true ite_false eq_self true_implies false_or or_false or_true true_or not_true_eq_false not_false_eq_true decide_true decide_false decide_eq_true_eq decide_eq_false_iff_not beq_iff_eq bne_iff_ne ne_eq Bool.not_eq_true Bool.not_eq_false beq_eq_false_iff_ne bne_eq_false_iff_eq beq_self_eq_true bne_self_eq_false Option.some.injEq exists_eq_left' exists_eq_left ge_iff_le gt_iff_lt decide_not Bool.not_true Bool.not_false imp_self Zvg cond_true cond_false Z7u Z7t Bool.not_not Bool.and_false Bool.false_and Bool.or_true Bool.true_or Bool.or_false Bool.false_or Zbq Zgn Zdi Zby Vy Kj Option.join_some Nat.add_assoc Int.toNat_natCast eI eB eS eL K3 Zgq Zfl Zqj Zqh Zqi Z1t Z4j Zgs Zfx Zrn Zrl Zrm Zya Zmb Zu6 Znf Zu5 Zcm Zth List.length_append G.agg.injEq G.row.injEq G.ref.injEq G.val.injEq G.sl.injEq G.tup.injEq Value.int.injEq Value.bool.injEq Value.string.injEq List.cons.injEq exists_and_left exists_const List.flatten_cons List.flatten_nil Int.le_refl Nat.le_refl Zck Qz Ui Bool.not_eq_true' Bool.not_eq_false' Zs6 Zh6 Zxn Zxs Zxm Zxr Z3j Z3e List.size_toArray Zrq Zrr G.ren G.rens Zui Zgi Zrt Zpz Zp0 Znh Zxu Zgg G.fn.injEq Zkl Zod Zs4 Z3f Zoc Zxq Z3i Z3h Z3g Zxp Zvl Z1h Option.join_none Yz Gc undef Zlj Arr.len Arr.put_eq Zgr Zj5 Zhp Zfw Zrk Zri Zrj onB Z1s Zt1 Yv Zjj Zl1 Zl2 Zl3 Zl4 Zl5 Zl6 Zjw Zj9 Zj7 Zhs Zfy Zj8 Zna Zm9 Zm8 Zm7 Z4i Z65 Zx9 Zv5 Kr Zx2 Zqu Zka Zhr Zzy Zry Zix Zlh Zen Zkb Zl7 Zl8 Zl9 Zma Zja Zjb Zjc Zjd Zje Zjf Zjg Zff prT Zdn Z9k Zw9 Z2r Zxa Z9l Zxb Z9m Zxc Z9n Zxd Z9o Zxe Z9p Zxf Z9q Zxg Z2c Zr4 Z2d Zr5 Z2e Zr6 Z2f Zr7 Z2g Zr8 Z2h Zr9 Z2i Zsa Z2j Zsb Z2k Zsc Z2l Zsd Z2m Zse Z2n Zsf Z2o Zsg Z2p Zsh Zlp Zep Zr2 Zlf Z2q Zsi Vo Zsj Z2s Zsk Z2t Zov Z2u Zsl Z2v Zsm Z2w Zsn Z2x Zso Z2y Zsp U2 Zsq Z2z Zsr Z20 Zss Z21 Zst Z22 Zsu Z23 Zsv Z24 Zsw Z25 Zsx Z26 Zsy Z27 Zsz Z28 Zs0 Z29 Zs1 Zwl Znn Zwm Zno Zwn Znp Zwo Znq Zwp Znr Zwq Zns Zwr Znt Zws Znu Zwt Znv Zwu Znw Zwv Znx Zww Zny Zwx Znz Zwy Zn0 Zwz Zn1 Zw0 Zn2 Zw1 Zn3 Zw2 Zn4 Zw3 Zn5 Zw4 Zn6 Zw5 Zn7 Zw6 Zn8 Zw7 Zn9 Zw8 Zoa Zc Yu Zh8 Zh5 Zhe Zhn Zib Zf7 Zf2 Zf0 Zh3 Zat Zas Zai Zao Zau Gm Gl Gk Zar Zh7 Zh4 Zhd Zhm Zia Zf6 Zf1 Zfz Zh2 Zfh Zba Zdg Zdf Zc8 Zdd Zdh Zcj Zcf Zce Zde Zl V7 V6 V1 V4 V8 Vp Vn Vm V5 Zb0 Zfg Zb1 Z3 Kz Ky Ku Kw K0 Ki Kh Kg Kx Zw J4 J3 Jv Jz J5 Jk Ji Jh J0
theorem Zjx {a0 : Za} {r : Bool} {O : Objs} {n : Nat} (h : Ub a0 = some r) : GTo Try.prog 5 [.agg (Zd a0)] O n ((vB r)) O n := by
 unfold Ub at h
 refine zFn Try.call5 Try.func5 fun hU hN0 hN => ?_
 show W _ _ _ _ ⟨93, [], [(0, .agg (Zd a0))]⟩ (Zr O n []) _
 refine zQ [1] ?_
 refine Zg ?_
 obtain ⟨z3, hz3, h⟩ := bC h
 refine Xo (E' := ⟨93, [], [(1, .ref n 0), (23, (vB z3))]⟩) (O' := (Zr O n [some ⟨false, 29, 3, 1, (Zd a0)⟩])) (n0 := (n + 1)) ?_ ?_
 ·obtain ⟨y6, hy6, hz3⟩ := bC hz3
  rcases Bool.eq_false_or_eq_true y6 with c8 | c8
  ·replace hz3 := Zo c8 hz3
   obtain ⟨y7, hy7, hz3⟩ := bC hz3
   refine K9 [some true, some true, some true, none, none, none] c8 ?_
   refine zG ?_
   refine (Zir hy6).then ?_
   refine zX1 c8 ?_
   refine zG ?_
   refine (Zoz hy7).then ?_
   refine zX1 c8 ?_
   refine zG ?_
   exact Kp hz3 c8
  replace hz3 := Zn c8 hz3
  refine K9 [some false, some false, some false, some false, some false, some false] c8 ?_
  refine (Zir hy6).then ?_
  refine zX1 c8 ?_
  exact Kp hz3 c8
 refine Zm (t := z3) rfl (fun c186 => ?_) (fun c186 => ?_)
 ·replace h := Zo c186 h
  refine Zg ?_
  obtain ⟨y10, hy10, h⟩ := bC h
  refine zCd (Zac hy10) [2] [false] ?_
  exact Z4 [(vB y10)]
 replace h := Zn c186 h
 refine J6 [1] [true] ?_
 refine Zg ?_
 obtain ⟨y12, hy12, h⟩ := bC h
 refine zCd (Zpl hy12) [1, 3] [true, true] ?_
 refine Zg ?_
 obtain ⟨y14, hy14, h⟩ := bC h
 refine zCd (Zgf hy14) [3, 4, 5] [false, true] ?_
 refine Zg ?_
 refine Zg ?_
 obtain ⟨y16, hy16, h⟩ := bC h
 refine zCd (Jq hy16) [3, 4, 5, 34] [false, true] ?_
 refine Zm (t := (decide (131072 ≤ y16))) rfl (fun c185 => ?_) (fun c185 => ?_)
 ·replace h := Zo c185 h
  obtain ⟨z18, hz18, h⟩ := bC h
  refine Xo (E' := ⟨93, [], [(2, (vB z18))]⟩) (O' := (Zr O n [none, none])) (n0 := (n + 2)) ?_ ?_
  ·rcases Bool.eq_false_or_eq_true y14.2 with c21 | c21
   ·replace hz18 := Zo c21 hz18
    refine K9 [some false] c21 ?_
    exact Kp hz18 c21
   replace hz18 := Zn c21 hz18
   obtain ⟨y20, hy20, hz18⟩ := bC hz18
   refine K9 [some true] c21 ?_
   refine (Zac hy20).then ?_
   refine zX1 c21 ?_
   exact Kp hz18 c21
  exact Z4 [(vB z18)]
 replace h := Zn c185 h
 refine J6 [3, 4, 5] [false, true] ?_
 refine Zg ?_
 refine zRd [3, 4, 5, 6] [false, true, true] ?_
 refine Zg ?_
 refine Zg ?_
 obtain ⟨y24, hy24, h⟩ := bC h
 obtain ⟨y25, hy25, h⟩ := bC h
 refine zC (Zmw hy24) ?_
 refine zTs (Zmx hy25) ?_
 refine zD [3, 4, 5, 6, 44] [false, true, true] ?_
 refine Zm (t := (decide (65536 < y25))) rfl (fun c184 => ?_) (fun c184 => ?_)
 ·replace h := Zo c184 h
  obtain ⟨z27, hz27, h⟩ := bC h
  refine Xo (E' := ⟨93, [], [(2, (vB z27))]⟩) (O' := (Zr O n [none, none, none])) (n0 := (n + 3)) ?_ ?_
  ·rcases Bool.eq_false_or_eq_true y14.2 with c30 | c30
   ·replace hz27 := Zo c30 hz27
    obtain ⟨y29, hy29, hz27⟩ := bC hz27
    refine K9 [some true] c30 ?_
    refine (Zac hy29).then ?_
    refine zX1 c30 ?_
    exact Kp hz27 c30
   replace hz27 := Zn c30 hz27
   refine K9 [some false] c30 ?_
   exact Kp hz27 c30
  exact Z4 [(vB z27)]
 replace h := Zn c184 h
 refine J6 [3, 4, 5, 6] [false, true, true] ?_
 obtain ⟨y55, hy55, h⟩ := bC h
 obtain ⟨y79, hy79, h⟩ := bC h
 refine Xo (E' := ⟨93, [], [(3, .ref (n + 1) 0), (4, (sL (eI .u64) y14.1)), (5, (vB y14.2)), (6, .ref (n + 2) 0), (7, .ref (n + 4) 0), (8, (vI y79.2))]⟩) (O' := (Zr O n [none, some ⟨false, 29, 3, 1, (Zd y12)⟩, some ⟨false, 24, 4, 1, [(vI 64), (vI 65536), (vI 0), (vI 0)]⟩, none, some ⟨false, 29, 3, 1, (Zd y79.1)⟩])) (n0 := (n + 5)) ?_ ?_
 ·refine Z45 Zv (by kernel_rfl) [.plain, .pass, .pass, .low, .low, .plain, .plain, .plain, .pass, .pass, .plain] (fun i => i < (n + 3)) [0, 3] [1, 2, 4, 5, 6, 7, 8] [9, 10] (.alt 1 (.alt 2 (.seq [4, 5, 6, 7, 8]) (.one 8 (.seq [2, 4, 5, 6, 7]))) (.one 8 (.seq [1, 2, 4, 5, 6, 7]))) [.plain, .low] [] (by kernel_rfl) rfl ?_
  simp (maxSteps := 4000000) only [push_cast, seval, ↓reduceIte, Zh, hN0, hN]
  repeat (with_reducible refine And.intro (by omega) ?_)
  try simp only [push_cast, seval, ↓reduceIte, Zh, hN0, hN]
  refine And.intro ?_ ?_
  ·try simp only [push_cast, seval, ↓reduceIte, Zh, hN0, hN]
   repeat (with_reducible refine And.intro (by first | exact Y1 rfl | exact Yp) ?_)
   try simp only [push_cast, seval, ↓reduceIte, Zh, hN0, hN]
   refine And.intro ?_ ?_
   ·try simp only [push_cast, seval, ↓reduceIte, Zh, hN0, hN]
    repeat (with_reducible refine And.intro (by first | exact Y1 rfl | exact Yp) ?_)
    refine GCalls.dropL (l' := [none, some ⟨false, 29, 3, 1, (Zd y12)⟩, some ⟨false, 24, 4, 1, [(vI 64), (vI 65536), (vI 0), (vI 0)]⟩, none]) hU rfl ?_ ((Zdy hy55).then ?_)
    ·exact zSe
    try simp only [push_cast, seval, ↓reduceIte, Zh, hN0, hN]
    repeat (with_reducible refine And.intro (by first | exact Y1 rfl | exact Yp) ?_)
    try simp only [push_cast, seval, ↓reduceIte, Zh, hN0, hN]
    repeat (with_reducible refine And.intro (by first | exact Y1 rfl | exact Yp) ?_)
    first | refine PCallA.of (fun _ _ => Y8 hy79) ?_ | refine PCall.of (Y8 hy79) ?_
    try simp only [push_cast, seval, ↓reduceIte, Zh, hN0, hN]
    repeat (with_reducible refine And.intro (by first | exact Y1 rfl | exact Yp) ?_)
    exact zEf
   try simp only [push_cast, seval, ↓reduceIte, Zh, hN0, hN]
   repeat (with_reducible refine And.intro (by first | exact Y1 rfl | exact Yp) ?_)
   try simp only [push_cast, seval, ↓reduceIte, Zh, hN0, hN]
   repeat (with_reducible refine And.intro (by first | exact Y1 rfl | exact Yp) ?_)
   refine GCalls.dropL (l' := [none, some ⟨false, 29, 3, 1, (Zd y12)⟩, some ⟨false, 24, 4, 1, [(vI 64), (vI 65536), (vI 0), (vI 0)]⟩, none, some ⟨false, 29, 3, 1, [(vI 0), nV, nV]⟩]) hU rfl ?_ ((Zdy hy55).then ?_)
   ·exact zSe
   try simp only [push_cast, seval, ↓reduceIte, Zh, hN0, hN]
   repeat (with_reducible refine And.intro (by first | exact Y1 rfl | exact Yp) ?_)
   first | refine PCallA.of (fun _ _ => Y8 hy79) ?_ | refine PCall.of (Y8 hy79) ?_
   try simp only [push_cast, seval, ↓reduceIte, Zh, hN0, hN]
   repeat (with_reducible refine And.intro (by first | exact Y1 rfl | exact Yp) ?_)
   exact zEf
  try simp only [push_cast, seval, ↓reduceIte, Zh, hN0, hN]
  repeat (with_reducible refine And.intro (by first | exact Y1 rfl | exact Yp) ?_)
  try simp only [push_cast, seval, ↓reduceIte, Zh, hN0, hN]
  repeat (with_reducible refine And.intro (by first | exact Y1 rfl | exact Yp) ?_)
  refine GCalls.dropL (l' := [none, some ⟨false, 29, 3, 1, (Zd y12)⟩, some ⟨false, 24, 4, 1, [(vI 64), (vI 65536), (vI 0), (vI 0)]⟩, some ⟨false, 29, 3, 1, [(vI 0), nV, nV]⟩, none]) hU rfl ?_ ((Zdy hy55).then ?_)
  ·exact zSe
  try simp only [push_cast, seval, ↓reduceIte, Zh, hN0, hN]
  repeat (with_reducible refine And.intro (by first | exact Y1 rfl | exact Yp) ?_)
  first | refine PCallA.of (fun _ _ => Y8 hy79) ?_ | refine PCall.of (Y8 hy79) ?_
  try simp only [push_cast, seval, ↓reduceIte, Zh, hN0, hN]
  repeat (with_reducible refine And.intro (by first | exact Y1 rfl | exact Yp) ?_)
  refine And.intro rfl ?_
  refine Fit2.trans (E' := (⟨93, [], [(3, .ref (n + 1) 0), (4, (sL (eI .u64) y14.1)), (5, (vB y14.2)), (6, .ref (n + 2) 0), (7, .ref (n + 3) 0), (8, (vI y79.2))]⟩ : Env)) (O' := (Zr O n [none, some ⟨false, 29, 3, 1, (Zd y12)⟩, some ⟨false, 24, 4, 1, [(vI 64), (vI 65536), (vI 0), (vI 0)]⟩, some ⟨false, 29, 3, 1, (Zd y79.1)⟩, none])) (n' := (n + 5)) (Fit2.of (Yq hU rfl rfl ?_) (by omega)) ?_
  ·exact zSe
  refine Zit (k := 5) (k' := 5) hU [0, 1, 2, 4, 3] [0, 1, 2, 4, 3] rfl rfl rfl rfl ⟨rfl, rfl⟩ ?_
  exact zSe
 refine Zg ?_
 obtain ⟨y164, hy164, h⟩ := bC h
 refine zCd (Zue hy164) [3, 4, 5, 7, 8, 9, 10] [false, true, false, false, true, true] ?_
 obtain ⟨z169, hz169, h⟩ := bC h
 refine Xo (E' := ⟨93, [], [(2, (vB z169))]⟩) (O' := (Zr O n [none, none, none, none, none, none])) (n0 := (n + 6)) ?_ ?_
 ·rcases Bool.eq_false_or_eq_true y14.2 with c178 | c178
  ·replace hz169 := Zo c178 hz169
   obtain ⟨y174, hy174, hz169⟩ := bC hz169
   rcases Bool.eq_false_or_eq_true ((y14.1.length : Int) == (IntKind.i64.wrap (y174 + 1))) with c179 | c179
   ·replace hz169 := Zo c179 hz169
    try rw [c179] at c178
    rcases Bool.eq_false_or_eq_true (y79.2 == 0) with c180 | c180
    ·replace hz169 := Zo c180 hz169
     try rw [c180] at c178
     try rw [c180] at c179
     obtain ⟨y175, hy175, hz169⟩ := bC hz169
     rcases Bool.eq_false_or_eq_true y175 with c181 | c181
     ·replace hz169 := Zo c181 hz169
      try rw [c181] at c178
      try rw [c181] at c179
      try rw [c181] at c180
      rcases Bool.eq_false_or_eq_true (y164.2 == 0) with c182 | c182
      ·replace hz169 := Zo c182 hz169
       try rw [c182] at c178
       try rw [c182] at c179
       try rw [c182] at c180
       try rw [c182] at c181
       obtain ⟨y176, hy176, hz169⟩ := bC hz169
       rcases Bool.eq_false_or_eq_true y176 with c183 | c183
       ·replace hz169 := Zo c183 hz169
        try rw [c183] at c178
        try rw [c183] at c179
        try rw [c183] at c180
        try rw [c183] at c181
        try rw [c183] at c182
        obtain ⟨y177, hy177, hz169⟩ := bC hz169
        refine Ybs [some true, some true, some true, some true, some true, some true, none, none, some true, some true, some true, none, none, some true, some true, some true, some true] c178 c179 c180 c181 c182 c183 ?_
        refine zG ?_
        refine (Jq hy174).then ?_
        refine zX6 c178 c179 c180 c181 c182 c183 ?_
        refine zG ?_
        refine (K7 hy175).then ?_
        refine zX6 c178 c179 c180 c181 c182 c183 ?_
        refine zG ?_
        refine (K7 hy176).then ?_
        refine zX6 c178 c179 c180 c181 c182 c183 ?_
        refine zG ?_
        refine (Zac hy177).then ?_
        refine zX6 c178 c179 c180 c181 c182 c183 ?_
        refine zG ?_
        exact Ybq hz169 c178 c179 c180 c181 c182 c183
       replace hz169 := Zn c183 hz169
       try rw [c183] at c178
       try rw [c183] at c179
       try rw [c183] at c180
       try rw [c183] at c181
       try rw [c183] at c182
       refine Ybs [some true, some true, some true, some true, some true, some true, none, none, some true, some true, some true, none, none, some true, some true, some true, some false] c178 c179 c180 c181 c182 c183 ?_
       refine zG ?_
       refine (Jq hy174).then ?_
       refine zX6 c178 c179 c180 c181 c182 c183 ?_
       refine zG ?_
       refine (K7 hy175).then ?_
       refine zX6 c178 c179 c180 c181 c182 c183 ?_
       refine zG ?_
       refine (K7 hy176).then ?_
       refine zX6 c178 c179 c180 c181 c182 c183 ?_
       refine zG ?_
       exact Ybq hz169 c178 c179 c180 c181 c182 c183
      replace hz169 := Zn c182 hz169
      try rw [c182] at c178
      try rw [c182] at c179
      try rw [c182] at c180
      try rw [c182] at c181
      refine Ybr [some true, some true, some true, some true, some true, some true, none, none, some true, some true, some true, none, none, some false, some false, some false, some false] c178 c179 c180 c181 c182 ?_
      refine zG ?_
      refine (Jq hy174).then ?_
      refine zX5 c178 c179 c180 c181 c182 ?_
      refine zG ?_
      refine (K7 hy175).then ?_
      refine zX5 c178 c179 c180 c181 c182 ?_
      refine zG ?_
      exact Ybp hz169 c178 c179 c180 c181 c182
     replace hz169 := Zn c181 hz169
     try rw [c181] at c178
     try rw [c181] at c179
     try rw [c181] at c180
     refine Z3r [some true, some true, some true, some true, some true, some true, none, none, some true, some true, some true, none, none, some false, some false, some false, some false] c178 c179 c180 c181 ?_
     refine zG ?_
     refine (Jq hy174).then ?_
     refine zX4 c178 c179 c180 c181 ?_
     refine zG ?_
     refine (K7 hy175).then ?_
     refine zX4 c178 c179 c180 c181 ?_
     refine zG ?_
     exact Z3n hz169 c178 c179 c180 c181
    replace hz169 := Zn c180 hz169
    try rw [c180] at c178
    try rw [c180] at c179
    refine Zs7 [some true, some true, some true, some true, some true, some true, none, none, some false, some false, some false, some false, some false, some false, some false, some false, some false] c178 c179 c180 ?_
    refine zG ?_
    refine (Jq hy174).then ?_
    refine zX3 c178 c179 c180 ?_
    refine zG ?_
    exact Z59 hz169 c178 c179 c180
   replace hz169 := Zn c179 hz169
   try rw [c179] at c178
   refine Jm [some true, some true, some true, some true, some true, some true, none, none, some false, some false, some false, some false, some false, some false, some false, some false, some false] c178 c179 ?_
   refine zG ?_
   refine (Jq hy174).then ?_
   refine zX2 c178 c179 ?_
   refine zG ?_
   exact Z3m hz169 c178 c179
  replace hz169 := Zn c178 hz169
  refine K9 [some false, some false, some false, some false, some false, some false, some false, some false, some false, some false, some false, some false, some false, some false, some false, some false, some false] c178 ?_
  exact Kp hz169 c178
 exact Z4 [(vB z169)]
end Go.Proofs.Ytpfbdlcnfekdkaa
