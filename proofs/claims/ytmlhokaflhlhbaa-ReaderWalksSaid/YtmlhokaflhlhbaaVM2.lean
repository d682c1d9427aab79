/- Part VM2 of this seat's mirrors: functions of the seat's program, and the plain functions that they are; each theorem bears its own conditions. -/
import Derived.Test.YtmlhokaflhlhbaaVE
import Derived.Test.YtmlhokaflhlhbaaVM1
namespace Go.Proofs.Ytmlhokaflhlhbaa
open Go.RowKit
set_option linter.unusedVariables false
set_option linter.unusedSimpArgs false
set_option maxRecDepth 100000
set_option maxHeartbeats 4000000
attribute [local push_cast] J6 Vi Zy Z4 Zl Zf6 Zf5 Zgw Zgv Zi Zd Zc7 Gs Gr onW Ye K9 Km Zga Zfb Zb3 Zb8 Zb2 Zb7 Zd1 Zdy Zb6 Zd0 Zdz Zb4 Zdw Zak evS wok Yu Op.operands Call.operands gop onK onP atK List.all_cons List.all_nil Bool.and_true Bool.true_and Bool.and_self Value.oneCell' List.take_zero List.take_succ_cons List.take_nil List.drop_zero List.drop_succ_cons List.drop_nil List.append_nil Nat.add_zero Nat.zero_add Qu Zz ev Yy Zll Zfw Zfv Zf1 Zfz Zf0 Zfx Zfy Zfu Zih Zi4 Zlm Za8 Kr Zaz K4 Zbn U1 Ub Ug Gn Gk Ue Gm Gl Ud Gi Uc Uf Vj Gj Zc9 Gt Jt Za0 Ju Zcd Za7 Zju bLo bHi bMx Ks Zcc Zmm Za6 Zcm V9 Q0 Zix Zmq Zax Zmt Kq Znp Zdc Zdg Zdb Zdf Zgi Zgf Zgd Zbp Zdd Zgh Zgg Zde Zge Zcs Zik Zdr Zaf Zae pop TK.isAgg Zgp Zgt Zgo Zgs Zdk Zka Zj7 Zgr Zj9 Zj8 Zgq Zj6 G.under G.unders List.getD_cons_zero List.getD_cons_succ List.set_cons_zero List.set_cons_succ List.map_cons List.map_nil List.toList_toArray Array.toList_append Option.toArray_none Option.toArray_some Array.toList_map Option.map_some Option.map_none Option.bind_some Option.bind_none List.getElem?_cons_zero List.getElem?_cons_succ List.getElem?_nil List.nil_append List.cons_append List.replicate_succ List.replicate_zero List.length_cons List.length_nil and_true true_and and_false false_and Bool.true_eq_false Bool.false_eq_true forall_const false_implies implies_true IntKind.bits if_true if_false ite_true ite_false eq_self true_implies false_or or_false or_true true_or not_true_eq_false not_false_eq_true decide_true decide_false decide_eq_true_eq decide_eq_false_iff_not beq_iff_eq bne_iff_ne ne_eq Bool.not_eq_true Bool.not_eq_false beq_eq_false_iff_ne bne_eq_false_iff_eq beq_self_eq_true bne_self_eq_false Option.some.injEq exists_eq_left' exists_eq_left ge_iff_le gt_iff_lt decide_not Bool.not_true Bool.not_false imp_self Zjx cond_true cond_false Zrr Zrq Bool.not_not Bool.and_false Bool.false_and Bool.or_true Bool.true_or Bool.or_false Bool.false_or Za4 Zfk Zeo Zc4 Zbi U8 Option.join_some Nat.add_assoc Int.toNat_natCast eI eB eS eL Zif Ga Ul Zf9 Zf7 Zf8 Zn1 Zpu Ge Ur Zg3 Zg1 Zg2 Zlu Ze9 Zjo Zg8 Zlj Vy Zig List.length_append G.agg.injEq G.row.injEq G.ref.injEq G.val.injEq G.sl.injEq G.tup.injEq Value.int.injEq Value.bool.injEq Value.string.injEq List.cons.injEq exists_and_left exists_const List.flatten_cons List.flatten_nil Int.le_refl Nat.le_refl Zek Vg Zc5 Bool.not_eq_true' Bool.not_eq_false' Zic Zaq Zlc Zlg Zlb Zlf Zpe Zpa List.size_toArray Zi5 Zi2 G.ren G.rens Zlw Zcg Zg7 Zfr Zfs Zdx Zlh G0 G.fn.injEq Zb9 Zen Zia Zpb Zem Zle Zpd Zpc Zld Zj1 Znw Option.join_none Xs Js undef Zcn Arr.len Arr.put_eq Gd Zbs Zaa Uq Zg0 Zgy Zgz onB Zn0 Ziv Zdv Zcu Zcv Zcw Zcx Zcy Zcz Zbq Zbw Zbu Zad Us Zbv Zdq Zdp Zdo Zdn Zpt Zq7 Zlt Zkc X0 Zlo Zgj Zby Zac Zm1 Zha Za5 Zcl Za1 Zbz Zc0 Zc1 Zc2 Zc3 Zbb Zbc Zbd Zbe Zbf Zbg Zbh Uh prT Vm Zsi Zk0 Zoq Zk1 Zsj Zk2 Zsk Zk3 Zsl Zk4 Zsm Zk5 Zsn Zk6 Zso Zk7 Zn9 Zhb Zoa Zhc Zob Zhd Zoc Zhe Zod Zhf Zoe Zhg Zof Zhh Zog Zhi Zoh Zhj Zoi Zhk Zoj Zhl Zok Zhm Zol Zhn Zom Zew Zon Zho Zoo Zhp Zop Zhq Vw Zhr Zor Zhs Zos Zht Vx Za3 Zot Zhu Zou Zhv Zov Zhw Zow Zhx Zox Zhy Zoy Zhz Zoz Zh0 Zo0 Zh1 Zo1 Zh2 Zo2 Zh3 Zo3 Zh4 Zo4 Zh5 Zo5 Zh6 Zo6 Zh7 Zo7 Zh8 Zo8 Zh9 Zkj Zd3 Zkk Zd4 Zkl Zd5 Zkm Zd6 Zkn Zd7 Zko Zd8 Zkp Zd9 Zkq Zea Zkr Zeb Zks Zec Zkt Zed Zku Zee Zkv Zef Zkw Zeg Zkx Zeh Zky Zei Zkz Zej Zas Zap Gw Gz Zav U0 Ux Uv Zam K1 K0 Kt Kx K2 Kb Ka J9 Kz Ze Qd Qc X8 Qa Qe X5 X4 X3 Qb Uj Zar Zao Gv Gy Zau Uz Uw Uu Zal Ui J8 Qj Qk J7 Zu Xu Xt Xp Xq Xv Xh Xf Xe Xr Z3 Qg Jj Ji Ja Je Jk Q5 Q4 Q3 Jh
theorem Zez  {r : Bool} {O : Objs} {n : Nat} (h : Qn = some r) : GTo Try.prog 22 [] O n (.val (.bool r)) O n := by
 unfold Qn at h
 refine Ym Zc Try.call22 Try.func22 rfl (Nat.le_of_ble_eq_true rfl) (Nat.le_refl _) fun hU => ?_
 have hN0 : O n = none := hU.fresh _ (Nat.le_refl _)
 have hN : ∀ k, O (n + k) = none := fun k => hU.fresh _ (Nat.le_add_right _ _)
 show W _ _ _ _ ⟨32, [], []⟩ (Z5 O n []) _
 refine Zn [] (Zb Zc [] ?_)
 simp only [push_cast, seval, ↓reduceIte, Za, hN0, hN]
 refine Zg ?_
 obtain ⟨y3, hy3, h⟩ := bC h
 obtain ⟨y4, hy4, h⟩ := bC h
 refine Zb Zc [] ?_
 simp only [push_cast, seval, ↓reduceIte, Za, hN0, hN]
 refine GCalls.dropL (l' := [none, none]) hU rfl ?_ ((Zi1 hy3).then ?_)
 ·simp only [push_cast, seval, ↓reduceIte, Za, hN0, hN]
 simp only [push_cast, seval, ↓reduceIte, Za, hN0, hN]
 refine (Zj5 hy4).then ?_
 simp only [push_cast, seval, ↓reduceIte, Za, hN0, hN]
 refine Zf [1, 2] [false, false, true] ?_
 simp only [push_cast, seval, ↓reduceIte]
 obtain ⟨z9, hz9, h⟩ := bC h
 refine Q6 (E' := ⟨32, [], [(0, .val (.bool z9))]⟩) (O' := (Z5 O n [none, none, none])) (n0 := (n + 3)) ?_ ?_
 ·rcases Bool.eq_false_or_eq_true (y4.2 == 0) with c18 | c18
  ·replace hz9 := Zs c18 hz9
   obtain ⟨y14, hy14, hz9⟩ := bC hz9
   rcases Bool.eq_false_or_eq_true (y14 == 1) with c19 | c19
   ·replace hz9 := Zs c19 hz9
    try rw [c19] at c18
    obtain ⟨y15, hy15, hz9⟩ := bC hz9
    rcases Bool.eq_false_or_eq_true (y15 == 1) with c20 | c20
    ·replace hz9 := Zs c20 hz9
     try rw [c20] at c18
     try rw [c20] at c19
     obtain ⟨y16, hy16, hz9⟩ := bC hz9
     rcases Bool.eq_false_or_eq_true (y16 == 7) with c21 | c21
     ·replace hz9 := Zs c21 hz9
      try rw [c21] at c18
      try rw [c21] at c19
      try rw [c21] at c20
      obtain ⟨y17, hy17, hz9⟩ := bC hz9
      refine Zb Zc [some true, some true, some true, some true, some true, some true, some true, some true, some true, some true, some true, some true] ?_
      simp only [push_cast, seval, ↓reduceIte, Za, c18, c19, c20, c21, hN0, hN]
      refine (Y3 hy14).then ?_
      simp only [push_cast, seval, ↓reduceIte, Za, c18, c19, c20, c21, hN0, hN]
      refine (Xm hy15).then ?_
      simp only [push_cast, seval, ↓reduceIte, Za, c18, c19, c20, c21, hN0, hN]
      refine (Xx hy16).then ?_
      simp only [push_cast, seval, ↓reduceIte, Za, c18, c19, c20, c21, hN0, hN]
      refine (K7 hy17).then ?_
      simp only [push_cast, seval, ↓reduceIte, Za, c18, c19, c20, c21, hN0, hN]
      have hz9 := Option.some.inj hz9; subst hz9
      refine And.intro rfl (Fit2.of (Zp hU rfl rfl ?_) (by omega))
      simp only [push_cast, seval, ↓reduceIte, Za, c18, c19, c20, c21, hN0, hN]
     replace hz9 := Zr c21 hz9
     try rw [c21] at c18
     try rw [c21] at c19
     try rw [c21] at c20
     refine Zb Zc [some true, some true, some true, some true, some true, some true, some true, some true, some true, some false, some false, some false] ?_
     simp only [push_cast, seval, ↓reduceIte, Za, c18, c19, c20, c21, hN0, hN]
     refine (Y3 hy14).then ?_
     simp only [push_cast, seval, ↓reduceIte, Za, c18, c19, c20, c21, hN0, hN]
     refine (Xm hy15).then ?_
     simp only [push_cast, seval, ↓reduceIte, Za, c18, c19, c20, c21, hN0, hN]
     refine (Xx hy16).then ?_
     simp only [push_cast, seval, ↓reduceIte, Za, c18, c19, c20, c21, hN0, hN]
     have hz9 := Option.some.inj hz9; subst hz9
     refine And.intro rfl (Fit2.of (Zp hU rfl rfl ?_) (by omega))
     simp only [push_cast, seval, ↓reduceIte, Za, c18, c19, c20, c21, hN0, hN]
    replace hz9 := Zr c20 hz9
    try rw [c20] at c18
    try rw [c20] at c19
    refine Zb Zc [some true, some true, some true, some true, some true, some true, some false, some false, some false, some false, some false, some false] ?_
    simp only [push_cast, seval, ↓reduceIte, Za, c18, c19, c20, hN0, hN]
    refine (Y3 hy14).then ?_
    simp only [push_cast, seval, ↓reduceIte, Za, c18, c19, c20, hN0, hN]
    refine (Xm hy15).then ?_
    simp only [push_cast, seval, ↓reduceIte, Za, c18, c19, c20, hN0, hN]
    have hz9 := Option.some.inj hz9; subst hz9
    refine And.intro rfl (Fit2.of (Zp hU rfl rfl ?_) (by omega))
    simp only [push_cast, seval, ↓reduceIte, Za, c18, c19, c20, hN0, hN]
   replace hz9 := Zr c19 hz9
   try rw [c19] at c18
   refine Zb Zc [some true, some true, some true, some false, some false, some false, some false, some false, some false, some false, some false, some false] ?_
   simp only [push_cast, seval, ↓reduceIte, Za, c18, c19, hN0, hN]
   refine (Y3 hy14).then ?_
   simp only [push_cast, seval, ↓reduceIte, Za, c18, c19, hN0, hN]
   have hz9 := Option.some.inj hz9; subst hz9
   refine And.intro rfl (Fit2.of (Zp hU rfl rfl ?_) (by omega))
   simp only [push_cast, seval, ↓reduceIte, Za, c18, c19, hN0, hN]
  replace hz9 := Zr c18 hz9
  refine Zb Zc [some false, some false, some false, some false, some false, some false, some false, some false, some false, some false, some false, some false] ?_
  simp only [push_cast, seval, ↓reduceIte, Za, c18, hN0, hN]
  have hz9 := Option.some.inj hz9; subst hz9
  refine And.intro rfl (Fit2.of (Zp hU rfl rfl ?_) (by omega))
  simp only [push_cast, seval, ↓reduceIte, Za, c18, hN0, hN]
 refine Zq ?_
 try simp only [Zi, Zd]
 have h := Option.some.inj h; subst h
 refine Zk (.inr rfl) hU [.val (.bool z9)] (by omega) ?_
 simp only [push_cast, seval, ↓reduceIte, Za, Try.results22, hN0, hN]
theorem Ze0 {a0 : Int} {r : Int} {O : Objs} {n : Nat} (h : Qo a0 = some r) : GTo Try.prog 56 [.val (.int .i64 a0)] O n (.val (.int .i64 r)) O n := by
 unfold Qo at h
 refine Ym Zc Try.call56 Try.func56 rfl (Nat.le_of_ble_eq_true rfl) (Nat.le_refl _) fun hU => ?_
 have hN0 : O n = none := hU.fresh _ (Nat.le_refl _)
 have hN : ∀ k, O (n + k) = none := fun k => hU.fresh _ (Nat.le_add_right _ _)
 show W _ _ _ _ ⟨16, [], [(0, .val (.int .i64 a0))]⟩ (Z5 O n []) _
 refine Zn [0] (Zb Zc [] ?_)
 simp only [push_cast, seval, ↓reduceIte, Za, hN0, hN]
 refine Zg ?_
 refine Zn [3] (Zb Zc [] ?_)
 simp only [push_cast, seval, ↓reduceIte, Za, hN0, hN]
 refine Qz ?_
 refine Zn [3, 4] (Zb Zc [] ?_)
 simp only [push_cast, seval, ↓reduceIte, Za, hN0, hN]
 refine Zo (t := (a0 == 0)) rfl (fun c6 => ?_) (fun c6 => ?_)
 ·replace h := Zs c6 h
  refine Zn [2] (Zb Zc [] ?_)
  simp only [push_cast, seval, ↓reduceIte, Za, hN0, hN]
  refine Zq ?_
  try simp only [Zi, Zd]
  have h := Option.some.inj h; subst h
  refine Zk (.inr rfl) hU [.val (.int .i64 0)] (by omega) ?_
  simp only [push_cast, seval, ↓reduceIte, Za, Try.results56, hN0, hN]
 replace h := Zr c6 h
 refine Zn [3, 6] (Zb Zc [] ?_)
 simp only [push_cast, seval, ↓reduceIte, Za, hN0, hN]
 refine Zo (t := (a0 == 1)) rfl (fun c5 => ?_) (fun c5 => ?_)
 ·replace h := Zs c5 h
  refine Zn [2] (Zb Zc [] ?_)
  simp only [push_cast, seval, ↓reduceIte, Za, hN0, hN]
  refine Zq ?_
  try simp only [Zi, Zd]
  have h := Option.some.inj h; subst h
  refine Zk (.inr rfl) hU [.val (.int .i64 1)] (by omega) ?_
  simp only [push_cast, seval, ↓reduceIte, Za, Try.results56, hN0, hN]
 replace h := Zr c5 h
 refine Zn [3, 8] (Zb Zc [] ?_)
 simp only [push_cast, seval, ↓reduceIte, Za, hN0, hN]
 refine Zo (t := (a0 == 2)) rfl (fun c4 => ?_) (fun c4 => ?_)
 ·replace h := Zs c4 h
  refine Zn [2] (Zb Zc [] ?_)
  simp only [push_cast, seval, ↓reduceIte, Za, hN0, hN]
  refine Zq ?_
  try simp only [Zi, Zd]
  have h := Option.some.inj h; subst h
  refine Zk (.inr rfl) hU [.val (.int .i64 8)] (by omega) ?_
  simp only [push_cast, seval, ↓reduceIte, Za, Try.results56, hN0, hN]
 replace h := Zr c4 h
 refine Zn [3, 10] (Zb Zc [] ?_)
 simp only [push_cast, seval, ↓reduceIte, Za, hN0, hN]
 refine Zo (t := (a0 == 3)) rfl (fun c3 => ?_) (fun c3 => ?_)
 ·replace h := Zs c3 h
  refine Zn [2] (Zb Zc [] ?_)
  simp only [push_cast, seval, ↓reduceIte, Za, hN0, hN]
  refine Zq ?_
  try simp only [Zi, Zd]
  have h := Option.some.inj h; subst h
  refine Zk (.inr rfl) hU [.val (.int .i64 16)] (by omega) ?_
  simp only [push_cast, seval, ↓reduceIte, Za, Try.results56, hN0, hN]
 replace h := Zr c3 h
 refine Zn [3, 12] (Zb Zc [] ?_)
 simp only [push_cast, seval, ↓reduceIte, Za, hN0, hN]
 refine Zo (t := (a0 == 4)) rfl (fun c2 => ?_) (fun c2 => ?_)
 ·replace h := Zs c2 h
  refine Zn [2] (Zb Zc [] ?_)
  simp only [push_cast, seval, ↓reduceIte, Za, hN0, hN]
  refine Zq ?_
  try simp only [Zi, Zd]
  have h := Option.some.inj h; subst h
  refine Zk (.inr rfl) hU [.val (.int .i64 32)] (by omega) ?_
  simp only [push_cast, seval, ↓reduceIte, Za, Try.results56, hN0, hN]
 replace h := Zr c2 h
 refine Zn [14] (Zb Zc [] ?_)
 simp only [push_cast, seval, ↓reduceIte, Za, hN0, hN]
 refine Zo (t := (a0 == 5)) rfl (fun c1 => ?_) (fun c1 => ?_)
 ·replace h := Zs c1 h
  refine Zn [2] (Zb Zc [] ?_)
  simp only [push_cast, seval, ↓reduceIte, Za, hN0, hN]
  refine Zq ?_
  try simp only [Zi, Zd]
  have h := Option.some.inj h; subst h
  refine Zk (.inr rfl) hU [.val (.int .i64 64)] (by omega) ?_
  simp only [push_cast, seval, ↓reduceIte, Za, Try.results56, hN0, hN]
 replace h := Zr c1 h
 refine Zw ?_
 try simp only [Zi, Zd]
 refine Zf [] [] ?_
 simp only [push_cast, seval, ↓reduceIte]
 refine Zn [2] (Zb Zc [] ?_)
 simp only [push_cast, seval, ↓reduceIte, Za, hN0, hN]
 refine Zq ?_
 try simp only [Zi, Zd]
 have h := Option.some.inj h; subst h
 refine Zk (.inr rfl) hU [.val (.int .i64 (-1))] (by omega) ?_
 simp only [push_cast, seval, ↓reduceIte, Za, Try.results56, hN0, hN]
theorem Q2 {a0 : (List (List Int))} {a1 : Int} {a2 : Int} {r : Bool} {O : Objs} {n : Nat} (h : Y4 a0 a1 a2 = some r) : GTo Try.prog 75 [.sl a0.length (fl (eL (eI .u64)) a0), .val (.int .i64 a1), .val (.int .i64 a2)] O n (.val (.bool r)) O n := by
 unfold Y4 at h
 refine Ym Zc Try.call75 Try.func75 rfl (Nat.le_of_ble_eq_true rfl) (Nat.le_refl _) fun hU => ?_
 have hN0 : O n = none := hU.fresh _ (Nat.le_refl _)
 have hN : ∀ k, O (n + k) = none := fun k => hU.fresh _ (Nat.le_add_right _ _)
 show W _ _ _ _ ⟨28, [], [(0, .sl a0.length (fl (eL (eI .u64)) a0)), (1, .val (.int .i64 a1)), (2, .val (.int .i64 a2))]⟩ (Z5 O n []) _
 refine Zn [0, 1, 2] (Zb Zc [] ?_)
 simp only [push_cast, seval, ↓reduceIte, Za, hN0, hN]
 obtain ⟨z2, hz2, h⟩ := bC h
 refine Q6 (E' := ⟨28, [], [(6, .val (.bool z2))]⟩) (O' := (Z5 O n [])) (n0 := n) ?_ ?_
 ·rcases Bool.eq_false_or_eq_true (decide (0 ≤ a1)) with c5 | c5
  ·replace hz2 := Zs c5 hz2
   rcases Bool.eq_false_or_eq_true (decide (a1 < (a0.length : Int))) with c6 | c6
   ·replace hz2 := Zs c6 hz2
    try rw [c6] at c5
    rcases Bool.eq_false_or_eq_true (decide (0 ≤ a2)) with c7 | c7
    ·replace hz2 := Zs c7 hz2
     try rw [c7] at c5
     try rw [c7] at c6
     obtain ⟨x4, hx4, ax4, bx4, cx4, hz2⟩ := bE (f := (eL (eI .u64))) Vx (fun _ => rfl) (by decide) hz2
     refine Zb Zc [none, none, none, none, none, none, some true, some true, some true, some true, some true, some true, some true] ?_
     simp only [push_cast, Nat.reduceAdd, Nat.reduceSub, Nat.reduceMul, Nat.reduceLeDiff, Nat.reduceLT, Nat.reduceEqDiff, ↓reduceIte, reduceCtorEq, Int.reduceBEq, Int.reduceBNe, Nat.reduceBEq, Int.reduceLE, Int.reduceLT, Int.reduceEq, Int.reduceNe, Int.reduceNeg, Nat.reduceDiv, Nat.reduceMod, Nat.reducePow, Za, c5, c6, c7, ax4, bx4, cx4, hN0, hN]
     repeat (with_reducible refine And.intro (by first | (intro h0; simp only [h0, and_self]; done) | (intro h0; simp only [h0, Bool.not_false, Bool.not_true, Bool.true_and, Bool.and_true, true_and, and_true, and_self, imp_self, implies_true, bne_iff_ne, ne_eq, beq_iff_eq]; done) | (intros; simp_all; done) | exact True.intro) ?_)
     have hz2 := Option.some.inj hz2; subst hz2
     refine And.intro rfl (Fit2.of (Zp hU rfl rfl ?_) (by omega))
     simp only [push_cast, Nat.reduceAdd, Nat.reduceSub, Nat.reduceMul, Nat.reduceLeDiff, Nat.reduceLT, Nat.reduceEqDiff, ↓reduceIte, reduceCtorEq, Int.reduceBEq, Int.reduceBNe, Nat.reduceBEq, Int.reduceLE, Int.reduceLT, Int.reduceEq, Int.reduceNe, Int.reduceNeg, Nat.reduceDiv, Nat.reduceMod, Nat.reducePow, Za, c5, c6, c7, ax4, bx4, cx4, hN0, hN]
    replace hz2 := Zr c7 hz2
    try rw [c7] at c5
    try rw [c7] at c6
    refine Zb Zc [none, none, none, none, none, none, some false, some false, some false, some false, some false, some false, some false] ?_
    simp only [push_cast, seval, ↓reduceIte, Za, c5, c6, c7, hN0, hN]
    repeat (with_reducible refine And.intro (by first | (intro h0; simp only [h0, and_self]; done) | (intro h0; simp only [h0, Bool.not_false, Bool.not_true, Bool.true_and, Bool.and_true, true_and, and_true, and_self, imp_self, implies_true, bne_iff_ne, ne_eq, beq_iff_eq]; done) | (intros; simp_all; done) | exact True.intro) ?_)
    have hz2 := Option.some.inj hz2; subst hz2
    refine And.intro rfl (Fit2.of (Zp hU rfl rfl ?_) (by omega))
    simp only [push_cast, seval, ↓reduceIte, Za, c5, c6, c7, hN0, hN]
   replace hz2 := Zr c6 hz2
   try rw [c6] at c5
   refine Zb Zc [none, none, none, none, none, none, some false, some false, some false, some false, some false, some false, some false] ?_
   simp only [push_cast, seval, ↓reduceIte, Za, c5, c6, hN0, hN]
   repeat (with_reducible refine And.intro (by first | (intro h0; simp only [h0, and_self]; done) | (intro h0; simp only [h0, Bool.not_false, Bool.not_true, Bool.true_and, Bool.and_true, true_and, and_true, and_self, imp_self, implies_true, bne_iff_ne, ne_eq, beq_iff_eq]; done) | (intros; simp_all; done) | exact True.intro) ?_)
   have hz2 := Option.some.inj hz2; subst hz2
   refine And.intro rfl (Fit2.of (Zp hU rfl rfl ?_) (by omega))
   simp only [push_cast, seval, ↓reduceIte, Za, c5, c6, hN0, hN]
  replace hz2 := Zr c5 hz2
  refine Zb Zc [none, none, none, none, none, none, some false, some false, some false, some false, some false, some false, some false] ?_
  simp only [push_cast, seval, ↓reduceIte, Za, c5, hN0, hN]
  repeat (with_reducible refine And.intro (by first | (intro h0; simp only [h0, and_self]; done) | (intro h0; simp only [h0, Bool.not_false, Bool.not_true, Bool.true_and, Bool.and_true, true_and, and_true, and_self, imp_self, implies_true, bne_iff_ne, ne_eq, beq_iff_eq]; done) | (intros; simp_all; done) | exact True.intro) ?_)
  have hz2 := Option.some.inj hz2; subst hz2
  refine And.intro rfl (Fit2.of (Zp hU rfl rfl ?_) (by omega))
  simp only [push_cast, seval, ↓reduceIte, Za, c5, hN0, hN]
 refine Zq ?_
 try simp only [Zi, Zd]
 have h := Option.some.inj h; subst h
 refine Zk (.inr rfl) hU [.val (.bool z2)] (by omega) ?_
 simp only [push_cast, seval, ↓reduceIte, Za, Try.results75, hN0, hN]
theorem Yc {a0 : Int} {a1 : Int} {a2 : Int} {r : Int} {O : Objs} {n : Nat} (h : Zt a0 a1 a2 = some r) : GTo Try.prog 78 [.val (.int .u64 a0), .val (.int .i64 a1), .val (.int .i64 a2)] O n (.val (.int .i64 r)) O n := by
 unfold Zt at h
 refine Ym Zc Try.call78 Try.func78 rfl (Nat.le_of_ble_eq_true rfl) (Nat.le_refl _) fun hU => ?_
 have hN0 : O n = none := hU.fresh _ (Nat.le_refl _)
 have hN : ∀ k, O (n + k) = none := fun k => hU.fresh _ (Nat.le_add_right _ _)
 show W _ _ _ _ ⟨34, [], [(0, .val (.int .u64 a0)), (1, .val (.int .i64 a1)), (2, .val (.int .i64 a2))]⟩ (Z5 O n []) _
 refine Zn [0, 1, 2] (Zb Zc [] ?_)
 simp only [push_cast, seval, ↓reduceIte, Za, hN0, hN]
 refine Zg ?_
 refine Zn [0, 1, 2, 7] (Zb Zc [] ?_)
 simp only [push_cast, seval, ↓reduceIte, Za, hN0, hN]
 refine Zf [0, 1, 2, 7] [] ?_
 simp only [push_cast, seval, ↓reduceIte]
 obtain ⟨z2, hz2, h⟩ := bC h
 refine Gg (E' := ⟨34, [], [(0, .val (.int .u64 z2)), (2, .val (.int .i64 a2))]⟩) (O' := (Z5 O n [])) (n0 := n) ?_ ?_
 ·refine Zcb hz2 (fun s0_ => ⟨34, [], [(0, .val (.int .u64 s0_.1)), (1, .val (.int .i64 a1)), (2, .val (.int .i64 a2)), (7, .val (.int .i64 s0_.2))]⟩) (fun s0_ => (Z5 O n [])) (fun z2 => JX 0 n (⟨34, [], [(0, .val (.int .u64 z2)), (2, .val (.int .i64 a2))]⟩ : Env) (Z5 O n []) n) ?_
  intro s0_ x0_ hs0_
  unfold Qs at hs0_
  try dsimp only
  refine Zg ?_
  refine Zn [0, 1, 2, 7, 13] (Zb Zc [] ?_)
  simp only [push_cast, seval, ↓reduceIte, Za, hN0, hN]
  refine Zo (t := (decide (s0_.2 < a1))) rfl (fun c1 => ?_) (fun c1 => ?_)
  ·replace hs0_ := Zs c1 hs0_
   refine Zw ?_
   try simp only [Zi, Zd]
   refine Zf [0, 1, 2, 7] [] ?_
   simp only [push_cast, seval, ↓reduceIte]
   refine Zg ?_
   refine Qz ?_
   refine Zb Zc [] ?_
   simp only [push_cast, seval, ↓reduceIte, Za, hN0, hN]
   refine Zf [0, 1, 2, 7] [] ?_
   simp only [push_cast, seval, ↓reduceIte]
   refine Zb Zc [] ?_
   simp only [push_cast, seval, ↓reduceIte, Za, hN0, hN]
   have hs0_ := Option.some.inj hs0_; subst hs0_
   refine And.intro rfl (Fit2.of (Zp hU rfl rfl ?_) (by omega))
   simp only [push_cast, seval, ↓reduceIte, Za, hN0, hN]
  replace hs0_ := Zr c1 hs0_
  refine Ze7 ?_
  try simp only [Zi, Zd, ↓reduceIte, Nat.reduceEqDiff]
  have hs0_ := Option.some.inj hs0_; subst hs0_
  refine And.intro (fun h => by cases h) (And.intro rfl (Fit2.of (Zp hU rfl rfl ?_) (by omega)))
  simp only [push_cast, seval, ↓reduceIte, Za, hN0, hN]
 try simp only [Zi, Zd, ↓reduceIte, Nat.reduceEqDiff]
 refine Zf [0, 2] [] ?_
 simp only [push_cast, seval, ↓reduceIte]
 refine Zn [0, 2, 8, 9] (Zb Zc [] ?_)
 simp only [push_cast, seval, ↓reduceIte, Za, hN0, hN]
 refine Zg ?_
 refine Zn [0, 2, 8, 9, 10] (Zb Zc [] ?_)
 simp only [push_cast, seval, ↓reduceIte, Za, hN0, hN]
 refine Zf [0, 2, 8, 9, 10] [] ?_
 simp only [push_cast, seval, ↓reduceIte]
 obtain ⟨z6, hz6, h⟩ := bC h
 refine Gg (E' := ⟨34, [], [(8, .val (.int .i64 z6))]⟩) (O' := (Z5 O n [])) (n0 := n) ?_ ?_
 ·refine Zcb hz6 (fun s1_ => ⟨34, [], [(0, .val (.int .u64 s1_.1)), (2, .val (.int .i64 a2)), (8, .val (.int .i64 s1_.2.1)), (9, .val (.int .i64 s1_.2.2.1)), (10, .val (.int .i64 s1_.2.2.2))]⟩) (fun s1_ => (Z5 O n [])) (fun z6 => JX 2 n (⟨34, [], [(8, .val (.int .i64 z6))]⟩ : Env) (Z5 O n []) n) ?_
  intro s1_ x1_ hs1_
  unfold Qt at hs1_
  try dsimp only
  refine Zg ?_
  refine Zn [0, 2, 8, 9, 10, 20] (Zb Zc [] ?_)
  simp only [push_cast, seval, ↓reduceIte, Za, hN0, hN]
  refine Zo (t := (decide (s1_.2.2.2 < a2))) rfl (fun c5 => ?_) (fun c5 => ?_)
  ·replace hs1_ := Zs c5 hs1_
   refine Zw ?_
   try simp only [Zi, Zd]
   refine Zf [0, 2, 8, 9, 10] [] ?_
   simp only [push_cast, seval, ↓reduceIte]
   refine Zg ?_
   refine Qz ?_
   obtain ⟨z3, hz3, hs1_⟩ := bC hs1_
   refine Q6 (E' := ⟨34, [], [(0, .val (.int .u64 s1_.1)), (2, .val (.int .i64 a2)), (8, .val (.int .i64 z3)), (9, .val (.int .i64 s1_.2.2.1)), (10, .val (.int .i64 s1_.2.2.2))]⟩) (O' := (Z5 O n [])) (n0 := n) ?_ ?_
   ·refine Zn [0, 2, 8, 9, 10, 25] (Zb Zc [] ?_)
    simp only [push_cast, seval, ↓reduceIte, Za, hN0, hN]
    refine Zo (t := ((Int.tmod s1_.1 2) == 1)) rfl (fun c4 => ?_) (fun c4 => ?_)
    ·replace hz3 := Zs c4 hz3
     refine Zb Zc [] ?_
     simp only [push_cast, seval, ↓reduceIte, Za, hN0, hN]
     have hz3 := Option.some.inj hz3; subst hz3
     refine And.intro rfl (Fit2.of (Zp hU rfl rfl ?_) (by omega))
     simp only [push_cast, seval, ↓reduceIte, Za, hN0, hN]
    replace hz3 := Zr c4 hz3
    refine Zw ?_
    try simp only [Zi, Zd]
    have hz3 := Option.some.inj hz3; subst hz3
    refine And.intro rfl (Fit2.of (Zp hU rfl rfl ?_) (by omega))
    simp only [push_cast, seval, ↓reduceIte, Za, hN0, hN]
   refine Zn [0, 2, 8, 9, 10] (Zb Zc [] ?_)
   simp only [push_cast, seval, ↓reduceIte, Za, hN0, hN]
   refine Zb Zc [] ?_
   simp only [push_cast, seval, ↓reduceIte, Za, hN0, hN]
   refine Zf [0, 2, 8, 9, 10] [] ?_
   simp only [push_cast, seval, ↓reduceIte]
   refine Zb Zc [] ?_
   simp only [push_cast, seval, ↓reduceIte, Za, hN0, hN]
   have hs1_ := Option.some.inj hs1_; subst hs1_
   refine And.intro rfl (Fit2.of (Zp hU rfl rfl ?_) (by omega))
   simp only [push_cast, seval, ↓reduceIte, Za, hN0, hN]
  replace hs1_ := Zr c5 hs1_
  refine Ze7 ?_
  try simp only [Zi, Zd, ↓reduceIte, Nat.reduceEqDiff]
  have hs1_ := Option.some.inj hs1_; subst hs1_
  refine And.intro (fun h => by cases h) (And.intro rfl (Fit2.of (Zp hU rfl rfl ?_) (by omega)))
  simp only [push_cast, seval, ↓reduceIte, Za, hN0, hN]
 try simp only [Zi, Zd, ↓reduceIte, Nat.reduceEqDiff]
 refine Zf [8] [] ?_
 simp only [push_cast, seval, ↓reduceIte]
 refine Zn [6] (Zb Zc [] ?_)
 simp only [push_cast, seval, ↓reduceIte, Za, hN0, hN]
 refine Zq ?_
 try simp only [Zi, Zd]
 have h := Option.some.inj h; subst h
 refine Zk (.inr rfl) hU [.val (.int .i64 z6)] (by omega) ?_
 simp only [push_cast, seval, ↓reduceIte, Za, Try.results78, hN0, hN]
theorem Yp {a0 : Int} {r : Zx} {O : Objs} {n : Nat} (h : Z8 a0 = some r) : GTo Try.prog 51 [.val (.int .u64 a0)] O n (.agg (Z4 r)) O n := by
 unfold Z8 at h
 refine Ym Zc Try.call51 Try.func51 rfl (Nat.le_of_ble_eq_true rfl) (Nat.le_refl _) fun hU => ?_
 have hN0 : O n = none := hU.fresh _ (Nat.le_refl _)
 have hN : ∀ k, O (n + k) = none := fun k => hU.fresh _ (Nat.le_add_right _ _)
 show W _ _ _ _ ⟨42, [], [(0, .val (.int .u64 a0))]⟩ (Z5 O n []) _
 refine Zn [0, 2] (Zb Zc [] ?_)
 simp only [push_cast, seval, ↓reduceIte, Za, hN0, hN]
 refine Zg ?_
 refine Zn [0, 2, 5] (Zb Zc [] ?_)
 simp only [push_cast, seval, ↓reduceIte, Za, hN0, hN]
 refine Zo (t := (a0 == 0)) rfl (fun c24 => ?_) (fun c24 => ?_)
 ·replace h := Zs c24 h
  refine Zg ?_
  refine Zb Zc [] ?_
  simp only [push_cast, seval, ↓reduceIte, Za, hN0, hN]
  refine Zf [2] [true] ?_
  simp only [push_cast, seval, ↓reduceIte]
  refine Zq ?_
  try simp only [Zi, Zd]
  have h := Option.some.inj h; subst h
  refine Zk (.inr rfl) hU [.agg [.val (.int .i64 0), .val (.int .i64 0), .val (.int .i64 0), .val (.int .i64 0), .val (.int .i64 0), .val (.int .i64 0), .val (.int .i64 0), .val (.bool false)]] (by omega) ?_
  simp only [push_cast, seval, ↓reduceIte, Za, Try.results51, hN0, hN]
 replace h := Zr c24 h
 refine Zw ?_
 try simp only [Zi, Zd]
 refine Zf [0, 2] [true] ?_
 simp only [push_cast, seval, ↓reduceIte]
 refine Zg ?_
 obtain ⟨y2, hy2, h⟩ := bC h
 refine Zb Zc [] ?_
 simp only [push_cast, seval, ↓reduceIte, Za, hN0, hN]
 refine (Yc hy2).then ?_
 simp only [push_cast, seval, ↓reduceIte, Za, hN0, hN]
 refine Zf [0, 2, 3] [true] ?_
 simp only [push_cast, seval, ↓reduceIte]
 obtain ⟨z3, hz3, h⟩ := bC h
 refine Q6 (E' := ⟨42, [], [(0, .val (.int .u64 a0)), (2, .ref n 0), (3, .val (.int .i64 z3))]⟩) (O' := (Z5 O n [some ⟨false, 89, 8, 1, [.val (.int .i64 0), .val (.int .i64 0), .val (.int .i64 0), .val (.int .i64 0), .val (.int .i64 0), .val (.int .i64 0), .val (.int .i64 0), .val (.bool false)]⟩])) (n0 := (n + 1)) ?_ ?_
 ·refine Zn [0, 2, 3, 10] (Zb Zc [] ?_)
  simp only [push_cast, seval, ↓reduceIte, Za, hN0, hN]
  refine Zo (t := (decide (536870912 ≤ y2))) rfl (fun c4 => ?_) (fun c4 => ?_)
  ·replace hz3 := Zs c4 hz3
   refine Zb Zc [] ?_
   simp only [push_cast, seval, ↓reduceIte, Za, hN0, hN]
   have hz3 := Option.some.inj hz3; subst hz3
   refine And.intro rfl (Fit2.of (Zp hU rfl rfl ?_) (by omega))
   simp only [push_cast, seval, ↓reduceIte, Za, hN0, hN]
  replace hz3 := Zr c4 hz3
  refine Zw ?_
  try simp only [Zi, Zd]
  have hz3 := Option.some.inj hz3; subst hz3
  refine And.intro rfl (Fit2.of (Zp hU rfl rfl ?_) (by omega))
  simp only [push_cast, seval, ↓reduceIte, Za, hN0, hN]
 refine Zg ?_
 refine Zg ?_
 obtain ⟨y6, hy6, h⟩ := bC h
 refine Zb Zc [] ?_
 simp only [push_cast, seval, ↓reduceIte, Za, hN0, hN]
 refine (Yc hy6).then ?_
 simp only [push_cast, seval, ↓reduceIte, Za, hN0, hN]
 refine Zf [0, 2, 3, 14] [true] ?_
 simp only [push_cast, seval, ↓reduceIte]
 refine Qz ?_
 refine Zn [0, 2, 3, 14, 15] (Zb Zc [] ?_)
 simp only [push_cast, seval, ↓reduceIte, Za, hN0, hN]
 refine Zo (t := (y6 == 0)) rfl (fun c23 => ?_) (fun c23 => ?_)
 ·replace h := Zs c23 h
  refine Zg ?_
  obtain ⟨y9, hy9, h⟩ := bC h
  obtain ⟨y10, hy10, h⟩ := bC h
  refine Zb Zc [] ?_
  simp only [push_cast, seval, ↓reduceIte, Za, hN0, hN]
  refine (Yc hy9).then ?_
  simp only [push_cast, seval, ↓reduceIte, Za, hN0, hN]
  refine (Yc hy10).then ?_
  simp only [push_cast, seval, ↓reduceIte, Za, hN0, hN]
  refine Zf [2] [true] ?_
  simp only [push_cast, seval, ↓reduceIte]
  refine Zq ?_
  try simp only [Zi, Zd]
  have h := Option.some.inj h; subst h
  refine Zk (.inr rfl) hU [.agg [.val (.int .i64 1), .val (.int .i64 z3), .val (.int .i64 y9), .val (.int .i64 y10), .val (.int .i64 0), .val (.int .i64 0), .val (.int .i64 0), .val (.bool false)]] (by omega) ?_
  simp only [push_cast, seval, ↓reduceIte, Za, Try.results51, hN0, hN]
 replace h := Zr c23 h
 refine Zn [0, 2, 3, 14, 23] (Zb Zc [] ?_)
 simp only [push_cast, seval, ↓reduceIte, Za, hN0, hN]
 refine Zo (t := (y6 == 1)) rfl (fun c22 => ?_) (fun c22 => ?_)
 ·replace h := Zs c22 h
  refine Zg ?_
  obtain ⟨y13, hy13, h⟩ := bC h
  obtain ⟨y14, hy14, h⟩ := bC h
  refine Zb Zc [] ?_
  simp only [push_cast, seval, ↓reduceIte, Za, hN0, hN]
  refine (Yc hy13).then ?_
  simp only [push_cast, seval, ↓reduceIte, Za, hN0, hN]
  refine (Yc hy14).then ?_
  simp only [push_cast, seval, ↓reduceIte, Za, hN0, hN]
  refine Zf [2] [true] ?_
  simp only [push_cast, seval, ↓reduceIte]
  refine Zq ?_
  try simp only [Zi, Zd]
  have h := Option.some.inj h; subst h
  refine Zk (.inr rfl) hU [.agg [.val (.int .i64 2), .val (.int .i64 z3), .val (.int .i64 0), .val (.int .i64 0), .val (.int .i64 y13), .val (.int .i64 y14), .val (.int .i64 0), .val (.bool false)]] (by omega) ?_
  simp only [push_cast, seval, ↓reduceIte, Za, Try.results51, hN0, hN]
 replace h := Zr c22 h
 refine Zn [0, 2, 31] (Zb Zc [] ?_)
 simp only [push_cast, seval, ↓reduceIte, Za, hN0, hN]
 refine Zo (t := (y6 == 2)) rfl (fun c21 => ?_) (fun c21 => ?_)
 ·replace h := Zs c21 h
  refine Zg ?_
  obtain ⟨y18, hy18, h⟩ := bC h
  obtain ⟨y19, hy19, h⟩ := bC h
  obtain ⟨y20, hy20, h⟩ := bC h
  refine Zb Zc [] ?_
  simp only [push_cast, seval, ↓reduceIte, Za, hN0, hN]
  refine (Yc hy18).then ?_
  simp only [push_cast, seval, ↓reduceIte, Za, hN0, hN]
  refine (Yc hy19).then ?_
  simp only [push_cast, seval, ↓reduceIte, Za, hN0, hN]
  refine (Yc hy20).then ?_
  simp only [push_cast, seval, ↓reduceIte, Za, hN0, hN]
  refine Zf [2] [true] ?_
  simp only [push_cast, seval, ↓reduceIte]
  refine Zq ?_
  try simp only [Zi, Zd]
  have h := Option.some.inj h; subst h
  refine Zk (.inr rfl) hU [.agg [.val (.int .i64 3), .val (.int .i64 y18), .val (.int .i64 0), .val (.int .i64 0), .val (.int .i64 0), .val (.int .i64 0), .val (.int .i64 y19), .val (.bool (y20 == 1))]] (by omega) ?_
  simp only [push_cast, seval, ↓reduceIte, Za, Try.results51, hN0, hN]
 replace h := Zr c21 h
 refine Zw ?_
 try simp only [Zi, Zd]
 refine Zf [2] [true] ?_
 simp only [push_cast, seval, ↓reduceIte]
 refine Zg ?_
 refine Zb Zc [] ?_
 simp only [push_cast, seval, ↓reduceIte, Za, hN0, hN]
 refine Zf [2] [true] ?_
 simp only [push_cast, seval, ↓reduceIte]
 refine Zq ?_
 try simp only [Zi, Zd]
 have h := Option.some.inj h; subst h
 refine Zk (.inr rfl) hU [.agg [.val (.int .i64 4), .val (.int .i64 0), .val (.int .i64 0), .val (.int .i64 0), .val (.int .i64 0), .val (.int .i64 0), .val (.int .i64 0), .val (.bool false)]] (by omega) ?_
 simp only [push_cast, seval, ↓reduceIte, Za, Try.results51, hN0, hN]
theorem U5 {a0 : Zx} {r : Int} {O : Objs} {n : Nat} (h : Y0 a0 = some r) : GTo Try.prog 76 [.agg (Z4 a0)] O n (.val (.int .i64 r)) O n := by
 unfold Y0 at h
 refine Ym Zc Try.call76 Try.func76 rfl (Nat.le_of_ble_eq_true rfl) (Nat.le_refl _) fun hU => ?_
 have hN0 : O n = none := hU.fresh _ (Nat.le_refl _)
 have hN : ∀ k, O (n + k) = none := fun k => hU.fresh _ (Nat.le_add_right _ _)
 show W _ _ _ _ ⟨14, [], [(0, .agg (Z4 a0))]⟩ (Z5 O n []) _
 refine Zn [1] (Zb Zc [] ?_)
 simp only [push_cast, seval, ↓reduceIte, Za, hN0, hN]
 refine Zg ?_
 refine Zn [1, 5] (Zb Zc [] ?_)
 simp only [push_cast, seval, ↓reduceIte, Za, hN0, hN]
 refine Zo (t := (a0.Kind == 4)) rfl (fun c2 => ?_) (fun c2 => ?_)
 ·replace h := Zs c2 h
  refine Zn [2] (Zb Zc [] ?_)
  simp only [push_cast, seval, ↓reduceIte, Za, hN0, hN]
  refine Zq ?_
  try simp only [Zi, Zd]
  have h := Option.some.inj h; subst h
  refine Zk (.inr rfl) hU [.val (.int .i64 9)] (by omega) ?_
  simp only [push_cast, seval, ↓reduceIte, Za, Try.results76, hN0, hN]
 replace h := Zr c2 h
 refine Zw ?_
 try simp only [Zi, Zd]
 refine Zf [1] [true] ?_
 simp only [push_cast, seval, ↓reduceIte]
 refine Zg ?_
 refine Zn [13] (Zb Zc [none, none, none] ?_)
 simp only [push_cast, seval, ↓reduceIte, Za, hN0, hN]
 repeat (with_reducible refine And.intro (by first | (intro h0; simp only [h0, and_self]; done) | (intro h0; simp only [h0, Bool.not_false, Bool.not_true, Bool.true_and, Bool.and_true, true_and, and_true, and_self, imp_self, implies_true, bne_iff_ne, ne_eq, beq_iff_eq]; done) | (intros; simp_all; done) | exact True.intro) ?_)
 refine Zo (t := (cond (a0.Kind != 1) (a0.Kind != 2) false)) rfl (fun c1 => ?_) (fun c1 => ?_)
 ·replace h := Zs c1 h
  refine Zn [2] (Zb Zc [] ?_)
  simp only [push_cast, seval, ↓reduceIte, Za, hN0, hN]
  refine Zq ?_
  try simp only [Zi, Zd]
  have h := Option.some.inj h; subst h
  refine Zk (.inr rfl) hU [.val (.int .i64 8)] (by omega) ?_
  simp only [push_cast, seval, ↓reduceIte, Za, Try.results76, hN0, hN]
 replace h := Zr c1 h
 refine Zw ?_
 try simp only [Zi, Zd]
 refine Zf [] [false] ?_
 simp only [push_cast, seval, ↓reduceIte]
 refine Zn [2] (Zb Zc [] ?_)
 simp only [push_cast, seval, ↓reduceIte, Za, hN0, hN]
 refine Zq ?_
 try simp only [Zi, Zd]
 have h := Option.some.inj h; subst h
 refine Zk (.inr rfl) hU [.val (.int .i64 0)] (by omega) ?_
 simp only [push_cast, seval, ↓reduceIte, Za, Try.results76, hN0, hN]
theorem Ze1 {a0 : Zx} {r : Int} {O : Objs} {n : Nat} (h : Qp a0 = some r) : GTo Try.prog 99 [.agg (Z4 a0)] O n (.val (.int .i64 r)) O n := by
 unfold Qp at h
 refine Ym Zc Try.call99 Try.func99 rfl (Nat.le_of_ble_eq_true rfl) (Nat.le_refl _) fun hU => ?_
 have hN0 : O n = none := hU.fresh _ (Nat.le_refl _)
 have hN : ∀ k, O (n + k) = none := fun k => hU.fresh _ (Nat.le_add_right _ _)
 show W _ _ _ _ ⟨65, [], [(0, .agg (Z4 a0))]⟩ (Z5 O n []) _
 refine Zn [1] (Zb Zc [] ?_)
 simp only [push_cast, seval, ↓reduceIte, Za, hN0, hN]
 refine Zg ?_
 refine Zn [1, 6] (Zb Zc [] ?_)
 simp only [push_cast, seval, ↓reduceIte, Za, hN0, hN]
 refine Zo (t := (a0.Kind == 1)) rfl (fun c17 => ?_) (fun c17 => ?_)
 ·replace h := Zs c17 h
  refine Zn [2] (Zb Zc [] ?_)
  simp only [push_cast, seval, ↓reduceIte, Za, hN0, hN]
  refine Zq ?_
  try simp only [Zi, Zd]
  have h := Option.some.inj h; subst h
  refine Zk (.inr rfl) hU [.val (.int .i64 (IntKind.i64.wrap (a0.Data + a0.Ptrs)))] (by omega) ?_
  simp only [push_cast, seval, ↓reduceIte, Za, Try.results99, hN0, hN]
 replace h := Zr c17 h
 refine Zw ?_
 try simp only [Zi, Zd]
 refine Zf [1] [true] ?_
 simp only [push_cast, seval, ↓reduceIte]
 refine Zg ?_
 refine Zn [1, 14] (Zb Zc [] ?_)
 simp only [push_cast, seval, ↓reduceIte, Za, hN0, hN]
 refine Zo (t := (a0.Kind != 2)) rfl (fun c16 => ?_) (fun c16 => ?_)
 ·replace h := Zs c16 h
  refine Zn [2] (Zb Zc [] ?_)
  simp only [push_cast, seval, ↓reduceIte, Za, hN0, hN]
  refine Zq ?_
  try simp only [Zi, Zd]
  have h := Option.some.inj h; subst h
  refine Zk (.inr rfl) hU [.val (.int .i64 (-1))] (by omega) ?_
  simp only [push_cast, seval, ↓reduceIte, Za, Try.results99, hN0, hN]
 replace h := Zr c16 h
 refine Zw ?_
 try simp only [Zi, Zd]
 refine Zf [1] [true] ?_
 simp only [push_cast, seval, ↓reduceIte]
 refine Zg ?_
 refine Zn [1, 17] (Zb Zc [] ?_)
 simp only [push_cast, seval, ↓reduceIte, Za, hN0, hN]
 refine Zo (t := (a0.Code == 7)) rfl (fun c15 => ?_) (fun c15 => ?_)
 ·replace h := Zs c15 h
  refine Zn [2] (Zb Zc [] ?_)
  simp only [push_cast, seval, ↓reduceIte, Za, hN0, hN]
  refine Zq ?_
  try simp only [Zi, Zd]
  have h := Option.some.inj h; subst h
  refine Zk (.inr rfl) hU [.val (.int .i64 (IntKind.i64.wrap (a0.Count + 1)))] (by omega) ?_
  simp only [push_cast, seval, ↓reduceIte, Za, Try.results99, hN0, hN]
 replace h := Zr c15 h
 refine Zw ?_
 try simp only [Zi, Zd]
 refine Zf [1] [true] ?_
 simp only [push_cast, seval, ↓reduceIte]
 refine Zg ?_
 refine Zn [1, 38] (Zb Zc [none, none, none, none, none, none, none, none, none] ?_)
 simp only [push_cast, seval, ↓reduceIte, Za, hN0, hN]
 repeat (with_reducible refine And.intro (by first | (intro h0; simp only [h0, and_self]; done) | (intro h0; simp only [h0, Bool.not_false, Bool.not_true, Bool.true_and, Bool.and_true, true_and, and_true, and_self, imp_self, implies_true, bne_iff_ne, ne_eq, beq_iff_eq]; done) | (intros; simp_all; done) | exact True.intro) ?_)
 refine Zo (t := (cond (cond (cond (decide (a0.Code < 0)) true (decide (6 < a0.Code))) true (decide (a0.Count < 0))) true (decide (536870912 ≤ a0.Count)))) rfl (fun c14 => ?_) (fun c14 => ?_)
 ·replace h := Zs c14 h
  refine Zn [2] (Zb Zc [] ?_)
  simp only [push_cast, seval, ↓reduceIte, Za, hN0, hN]
  refine Zq ?_
  try simp only [Zi, Zd]
  have h := Option.some.inj h; subst h
  refine Zk (.inr rfl) hU [.val (.int .i64 (-1))] (by omega) ?_
  simp only [push_cast, seval, ↓reduceIte, Za, Try.results99, hN0, hN]
 replace h := Zr c14 h
 refine Zw ?_
 try simp only [Zi, Zd]
 refine Zf [1] [true] ?_
 simp only [push_cast, seval, ↓reduceIte]
 refine Zn [1, 3] (Zb Zc [] ?_)
 simp only [push_cast, seval, ↓reduceIte, Za, hN0, hN]
 obtain ⟨z1, hz1, h⟩ := bC h
 refine Ztc (J := (Zfm (fun z1 => JN n (⟨65, [], [(1, .ref n 0), (3, .val (.int .i64 z1))]⟩ : Env) (Z5 O n [some ⟨false, 89, 8, 1, (Z4 a0)⟩]) (n + 1)) (fun z1 => JR n (⟨65, [], [(2, .val (.int .i64 0))]⟩ : Env) (Z5 O n [none]) (n + 1)))) (z := z1) ?_ fun hw => ?_
 ·refine Zn [1, 3, 40] (Zb Zc [] ?_)
  simp only [push_cast, seval, ↓reduceIte, Za, hN0, hN]
  refine Qz ?_
  refine Zn [1, 3, 40, 41] (Zb Zc [] ?_)
  simp only [push_cast, seval, ↓reduceIte, Za, hN0, hN]
  refine Zo (t := (a0.Code == 0)) rfl (fun c6 => ?_) (fun c6 => ?_)
  ·replace hz1 := Zs c6 hz1
   refine Zn [2] (Zb Zc [] ?_)
   simp only [push_cast, seval, ↓reduceIte, Za, hN0, hN]
   refine Zq ?_
   try simp only [Zi, Zd]
   have hz1 := Option.some.inj hz1; subst hz1
   refine And.intro rfl (Fit2.of (Zp hU rfl rfl ?_) (by omega))
   simp only [push_cast, seval, ↓reduceIte, Za, hN0, hN]
  replace hz1 := Zr c6 hz1
  refine Zn [1, 3, 40, 43] (Zb Zc [] ?_)
  simp only [push_cast, seval, ↓reduceIte, Za, hN0, hN]
  refine Zo (t := (a0.Code == 1)) rfl (fun c5 => ?_) (fun c5 => ?_)
  ·replace hz1 := Zs c5 hz1
   refine Zb Zc [] ?_
   simp only [push_cast, seval, ↓reduceIte, Za, hN0, hN]
   have hz1 := Option.some.inj hz1; subst hz1
   refine And.intro rfl (Fit2.of (Zp hU rfl rfl ?_) (by omega))
   simp only [push_cast, seval, ↓reduceIte, Za, hN0, hN]
  replace hz1 := Zr c5 hz1
  refine Zn [1, 3, 40, 45] (Zb Zc [] ?_)
  simp only [push_cast, seval, ↓reduceIte, Za, hN0, hN]
  refine Zo (t := (a0.Code == 2)) rfl (fun c4 => ?_) (fun c4 => ?_)
  ·replace hz1 := Zs c4 hz1
   refine Zb Zc [] ?_
   simp only [push_cast, seval, ↓reduceIte, Za, hN0, hN]
   have hz1 := Option.some.inj hz1; subst hz1
   refine And.intro rfl (Fit2.of (Zp hU rfl rfl ?_) (by omega))
   simp only [push_cast, seval, ↓reduceIte, Za, hN0, hN]
  replace hz1 := Zr c4 hz1
  refine Zn [1, 3, 40, 47] (Zb Zc [] ?_)
  simp only [push_cast, seval, ↓reduceIte, Za, hN0, hN]
  refine Zo (t := (a0.Code == 3)) rfl (fun c3 => ?_) (fun c3 => ?_)
  ·replace hz1 := Zs c3 hz1
   refine Zb Zc [] ?_
   simp only [push_cast, seval, ↓reduceIte, Za, hN0, hN]
   have hz1 := Option.some.inj hz1; subst hz1
   refine And.intro rfl (Fit2.of (Zp hU rfl rfl ?_) (by omega))
   simp only [push_cast, seval, ↓reduceIte, Za, hN0, hN]
  replace hz1 := Zr c3 hz1
  refine Zn [1, 3, 49] (Zb Zc [] ?_)
  simp only [push_cast, seval, ↓reduceIte, Za, hN0, hN]
  refine Zo (t := (a0.Code == 4)) rfl (fun c2 => ?_) (fun c2 => ?_)
  ·replace hz1 := Zs c2 hz1
   refine Zb Zc [] ?_
   simp only [push_cast, seval, ↓reduceIte, Za, hN0, hN]
   have hz1 := Option.some.inj hz1; subst hz1
   refine And.intro rfl (Fit2.of (Zp hU rfl rfl ?_) (by omega))
   simp only [push_cast, seval, ↓reduceIte, Za, hN0, hN]
  replace hz1 := Zr c2 hz1
  refine Zw ?_
  try simp only [Zi, Zd]
  have hz1 := Option.some.inj hz1; subst hz1
  refine And.intro rfl (Fit2.of (Zp hU rfl rfl ?_) (by omega))
  simp only [push_cast, seval, ↓reduceIte, Za, hN0, hN]
 rcases z1 with z1 | z1
 ·dsimp only [Zfm] at hw h
  refine Q6 hw ?_
  refine Zg ?_
  obtain ⟨pu8, h⟩ := bG h
  refine Zn [1, 3, 55] (Zb Zc [] ?_)
  simp only [push_cast, seval, ↓reduceIte, Za, pu8, hN0, hN]
  refine Zo (t := (decide (0 < (Int.tmod a0.Count z1)))) rfl (fun c13 => ?_) (fun c13 => ?_)
  ·replace h := Zs c13 h
   obtain ⟨pu10, h⟩ := bG h
   refine Zn [2] (Zb Zc [] ?_)
   simp only [push_cast, seval, ↓reduceIte, Za, pu10, hN0, hN]
   refine Zq ?_
   try simp only [Zi, Zd]
   have h := Option.some.inj h; subst h
   refine Zk (.inr rfl) hU [.val (.int .i64 (IntKind.i64.wrap ((IntKind.i64.wrap (Int.tdiv a0.Count z1)) + 1)))] (by omega) ?_
   simp only [push_cast, seval, ↓reduceIte, Za, Try.results99, hN0, hN]
  replace h := Zr c13 h
  refine Zw ?_
  try simp only [Zi, Zd]
  refine Zf [1, 3] [true] ?_
  simp only [push_cast, seval, ↓reduceIte]
  obtain ⟨pu12, h⟩ := bG h
  refine Zn [2] (Zb Zc [] ?_)
  simp only [push_cast, seval, ↓reduceIte, Za, pu12, hN0, hN]
  refine Zq ?_
  try simp only [Zi, Zd]
  have h := Option.some.inj h; subst h
  refine Zk (.inr rfl) hU [.val (.int .i64 (IntKind.i64.wrap (Int.tdiv a0.Count z1)))] (by omega) ?_
  simp only [push_cast, seval, ↓reduceIte, Za, Try.results99, hN0, hN]
 dsimp only [Zfm] at hw h
 refine Zrh hw ?_
 try simp only [Zi, Zd]
 have h := Option.some.inj h; subst h
 refine Zk (.inr rfl) hU [.val (.int .i64 0)] (by omega) ?_
 simp only [push_cast, seval, ↓reduceIte, Za, Try.results99, hN0, hN]
theorem U6 {a0 : (List (List Int))} {a1 : Zv} {r : (Zv × Int)} {O : Objs} {n : Nat} (h : Y1 a0 a1 = some r) : GTo Try.prog 77 [.sl a0.length (fl (eL (eI .u64)) a0), .agg [.val (.int .i64 a1.P.Kind), .val (.int .i64 a1.P.Off), .val (.int .i64 a1.P.Data), .val (.int .i64 a1.P.Ptrs), .val (.int .i64 a1.P.Code), .val (.int .i64 a1.P.Count), .val (.int .i64 a1.P.Segment), .val (.bool a1.P.Double), .val (.int .i64 a1.Segment), .val (.int .i64 a1.At)]] O n (.tup [.agg [.val (.int .i64 r.1.P.Kind), .val (.int .i64 r.1.P.Off), .val (.int .i64 r.1.P.Data), .val (.int .i64 r.1.P.Ptrs), .val (.int .i64 r.1.P.Code), .val (.int .i64 r.1.P.Count), .val (.int .i64 r.1.P.Segment), .val (.bool r.1.P.Double), .val (.int .i64 r.1.Segment), .val (.int .i64 r.1.At)], .val (.int .i64 r.2)]) O n := by
 unfold Y1 at h
 refine Ym Zc Try.call77 Try.func77 rfl (Nat.le_of_ble_eq_true rfl) (Nat.le_refl _) fun hU => ?_
 have hN0 : O n = none := hU.fresh _ (Nat.le_refl _)
 have hN : ∀ k, O (n + k) = none := fun k => hU.fresh _ (Nat.le_add_right _ _)
 show W _ _ _ _ ⟨53, [], [(0, .sl a0.length (fl (eL (eI .u64)) a0)), (1, .agg [.val (.int .i64 a1.P.Kind), .val (.int .i64 a1.P.Off), .val (.int .i64 a1.P.Data), .val (.int .i64 a1.P.Ptrs), .val (.int .i64 a1.P.Code), .val (.int .i64 a1.P.Count), .val (.int .i64 a1.P.Segment), .val (.bool a1.P.Double), .val (.int .i64 a1.Segment), .val (.int .i64 a1.At)])]⟩ (Z5 O n []) _
 refine Zn [0, 3, 4] (Zb Zc [] ?_)
 simp only [push_cast, seval, ↓reduceIte, Za, hN0, hN]
 refine Zg ?_
 obtain ⟨y2, hy2, h⟩ := bC h
 refine Zb Zc [] ?_
 simp only [push_cast, seval, ↓reduceIte, Za, hN0, hN]
 refine (Ze1 hy2).then ?_
 simp only [push_cast, seval, ↓reduceIte, Za, hN0, hN]
 refine Zf [0, 3, 4, 6] [true, true] ?_
 simp only [push_cast, seval, ↓reduceIte]
 refine Zg ?_
 obtain ⟨z5, hz5, h⟩ := bC h
 refine Q6 (E' := ⟨53, [], [(3, .ref n 0), (4, .ref (n + 1) 0), (48, .val (.bool z5))]⟩) (O' := (Z5 O n [some ⟨false, 91, 10, 1, [.val (.int .i64 a1.P.Kind), .val (.int .i64 a1.P.Off), .val (.int .i64 a1.P.Data), .val (.int .i64 a1.P.Ptrs), .val (.int .i64 a1.P.Code), .val (.int .i64 a1.P.Count), .val (.int .i64 a1.P.Segment), .val (.bool a1.P.Double), .val (.int .i64 a1.Segment), .val (.int .i64 a1.At)]⟩, some ⟨false, 91, 10, 1, [.val (.int .i64 0), .val (.int .i64 0), .val (.int .i64 0), .val (.int .i64 0), .val (.int .i64 0), .val (.int .i64 0), .val (.int .i64 0), .val (.bool false), .val (.int .i64 0), .val (.int .i64 0)]⟩])) (n0 := (n + 2)) ?_ ?_
 ·rcases Bool.eq_false_or_eq_true (decide (a1.Segment < 0)) with c10 | c10
  ·replace hz5 := Zs c10 hz5
   refine Jq Zc (by kernel_rfl) [none, none, none, none, none, none, none, none, some false, some false, some false, some false, some false, some false, some false, some false, some false, some false, some false, some false, some false, some false, some false, some false, some false, some false, some false, some false] (by kernel_rfl) ?_
   simp only [push_cast, seval, ↓reduceIte, Za, c10, hN0, hN]
   repeat (with_reducible refine And.intro (by first | (intro h0; simp only [h0, and_self]; done) | (intro h0; simp only [h0, Bool.not_false, Bool.not_true, Bool.true_and, Bool.and_true, true_and, and_true, and_self, imp_self, implies_true, bne_iff_ne, ne_eq, beq_iff_eq]; done) | (intros; simp_all; done) | exact True.intro) ?_)
   have hz5 := Option.some.inj hz5; subst hz5
   refine And.intro rfl (Fit2.of (Zp hU rfl rfl ?_) (by omega))
   simp only [push_cast, seval, ↓reduceIte, Za, c10, hN0, hN]
  replace hz5 := Zr c10 hz5
  rcases Bool.eq_false_or_eq_true (decide ((a0.length : Int) ≤ a1.Segment)) with c11 | c11
  ·replace hz5 := Zs c11 hz5
   try rw [c11] at c10
   refine Jq Zc (by kernel_rfl) [none, none, none, none, none, none, none, none, some false, some false, some false, some false, some false, some false, some false, some false, some false, some false, some false, some false, some false, some false, some false, some false, some false, some false, some false, some false] (by kernel_rfl) ?_
   simp only [push_cast, seval, ↓reduceIte, Za, c10, c11, hN0, hN]
   repeat (with_reducible refine And.intro (by first | (intro h0; simp only [h0, and_self]; done) | (intro h0; simp only [h0, Bool.not_false, Bool.not_true, Bool.true_and, Bool.and_true, true_and, and_true, and_self, imp_self, implies_true, bne_iff_ne, ne_eq, beq_iff_eq]; done) | (intros; simp_all; done) | exact True.intro) ?_)
   have hz5 := Option.some.inj hz5; subst hz5
   refine And.intro rfl (Fit2.of (Zp hU rfl rfl ?_) (by omega))
   simp only [push_cast, seval, ↓reduceIte, Za, c10, c11, hN0, hN]
  replace hz5 := Zr c11 hz5
  try rw [c11] at c10
  rcases Bool.eq_false_or_eq_true (decide (a1.At < 0)) with c12 | c12
  ·replace hz5 := Zs c12 hz5
   try rw [c12] at c10
   try rw [c12] at c11
   refine Jq Zc (by kernel_rfl) [none, none, none, none, none, none, none, none, some false, some false, some false, some false, some false, some false, some false, some false, some false, some false, some false, some false, some false, some false, some false, some false, some false, some false, some false, some false] (by kernel_rfl) ?_
   simp only [push_cast, seval, ↓reduceIte, Za, c10, c11, c12, hN0, hN]
   repeat (with_reducible refine And.intro (by first | (intro h0; simp only [h0, and_self]; done) | (intro h0; simp only [h0, Bool.not_false, Bool.not_true, Bool.true_and, Bool.and_true, true_and, and_true, and_self, imp_self, implies_true, bne_iff_ne, ne_eq, beq_iff_eq]; done) | (intros; simp_all; done) | exact True.intro) ?_)
   have hz5 := Option.some.inj hz5; subst hz5
   refine And.intro rfl (Fit2.of (Zp hU rfl rfl ?_) (by omega))
   simp only [push_cast, seval, ↓reduceIte, Za, c10, c11, c12, hN0, hN]
  replace hz5 := Zr c12 hz5
  try rw [c12] at c10
  try rw [c12] at c11
  obtain ⟨x8, hx8, ax8, bx8, cx8, hz5⟩ := bE (f := (eL (eI .u64))) Vx (fun _ => rfl) (by decide) hz5
  rcases Bool.eq_false_or_eq_true (decide ((x8.length : Int) < a1.At)) with c13 | c13
  ·replace hz5 := Zs c13 hz5
   try rw [c13] at c10
   try rw [c13] at c11
   try rw [c13] at c12
   refine Jq Zc (by kernel_rfl) [none, none, none, none, none, none, none, none, some true, some true, some true, some true, some true, some true, some true, some true, some true, some false, some false, some false, some false, some false, some false, some false, some false, some false, some false, some false] (by kernel_rfl) ?_
   simp only [push_cast, Nat.reduceAdd, Nat.reduceSub, Nat.reduceMul, Nat.reduceLeDiff, Nat.reduceLT, Nat.reduceEqDiff, ↓reduceIte, reduceCtorEq, Int.reduceBEq, Int.reduceBNe, Nat.reduceBEq, Int.reduceLE, Int.reduceLT, Int.reduceEq, Int.reduceNe, Int.reduceNeg, Nat.reduceDiv, Nat.reduceMod, Nat.reducePow, Za, c10, c11, c12, ax8, bx8, cx8, c13, hN0, hN]
   repeat (with_reducible refine And.intro (by first | (intro h0; simp only [h0, and_self]; done) | (intro h0; simp only [h0, Bool.not_false, Bool.not_true, Bool.true_and, Bool.and_true, true_and, and_true, and_self, imp_self, implies_true, bne_iff_ne, ne_eq, beq_iff_eq]; done) | (intros; simp_all; done) | exact True.intro) ?_)
   have hz5 := Option.some.inj hz5; subst hz5
   refine And.intro rfl (Fit2.of (Zp hU rfl rfl ?_) (by omega))
   simp only [push_cast, Nat.reduceAdd, Nat.reduceSub, Nat.reduceMul, Nat.reduceLeDiff, Nat.reduceLT, Nat.reduceEqDiff, ↓reduceIte, reduceCtorEq, Int.reduceBEq, Int.reduceBNe, Nat.reduceBEq, Int.reduceLE, Int.reduceLT, Int.reduceEq, Int.reduceNe, Int.reduceNeg, Nat.reduceDiv, Nat.reduceMod, Nat.reducePow, Za, c10, c11, c12, ax8, bx8, cx8, c13, hN0, hN]
  replace hz5 := Zr c13 hz5
  try rw [c13] at c10
  try rw [c13] at c11
  try rw [c13] at c12
  refine Jq Zc (by kernel_rfl) [none, none, none, none, none, none, none, none, some true, some true, some true, some true, some true, some true, some true, some true, some true, some true, some true, some true, some true, some true, some true, some true, some true, some true, some true, some true] (by kernel_rfl) ?_
  simp only [push_cast, Nat.reduceAdd, Nat.reduceSub, Nat.reduceMul, Nat.reduceLeDiff, Nat.reduceLT, Nat.reduceEqDiff, ↓reduceIte, reduceCtorEq, Int.reduceBEq, Int.reduceBNe, Nat.reduceBEq, Int.reduceLE, Int.reduceLT, Int.reduceEq, Int.reduceNe, Int.reduceNeg, Nat.reduceDiv, Nat.reduceMod, Nat.reducePow, Za, c10, c11, c12, ax8, bx8, cx8, c13, hN0, hN]
  repeat (with_reducible refine And.intro (by first | (intro h0; simp only [h0, and_self]; done) | (intro h0; simp only [h0, Bool.not_false, Bool.not_true, Bool.true_and, Bool.and_true, true_and, and_true, and_self, imp_self, implies_true, bne_iff_ne, ne_eq, beq_iff_eq]; done) | (intros; simp_all; done) | exact True.intro) ?_)
  have hz5 := Option.some.inj hz5; subst hz5
  refine And.intro rfl (Fit2.of (Zp hU rfl rfl ?_) (by omega))
  simp only [push_cast, Nat.reduceAdd, Nat.reduceSub, Nat.reduceMul, Nat.reduceLeDiff, Nat.reduceLT, Nat.reduceEqDiff, ↓reduceIte, reduceCtorEq, Int.reduceBEq, Int.reduceBNe, Nat.reduceBEq, Int.reduceLE, Int.reduceLT, Int.reduceEq, Int.reduceNe, Int.reduceNeg, Nat.reduceDiv, Nat.reduceMod, Nat.reducePow, Za, c10, c11, c12, ax8, bx8, cx8, c13, hN0, hN]
 refine Zo (t := z5) rfl (fun c14 => ?_) (fun c14 => ?_)
 ·replace h := Zs c14 h
  refine Zg ?_
  refine Zb Zc [] ?_
  simp only [push_cast, seval, ↓reduceIte, Za, hN0, hN]
  refine Zf [4, 5] [false, true] ?_
  simp only [push_cast, seval, ↓reduceIte]
  refine Zq ?_
  try simp only [Zi, Zd]
  have h := Option.some.inj h; subst h
  refine Zk (.inr rfl) hU [.agg [.val (.int .i64 0), .val (.int .i64 0), .val (.int .i64 0), .val (.int .i64 0), .val (.int .i64 0), .val (.int .i64 0), .val (.int .i64 0), .val (.bool false), .val (.int .i64 0), .val (.int .i64 0)], .val (.int .i64 7)] (by omega) ?_
  simp only [push_cast, seval, ↓reduceIte, Za, Try.results77, hN0, hN]
 replace h := Zr c14 h
 refine Zw ?_
 try simp only [Zi, Zd]
 refine Zf [3, 4] [true, true] ?_
 simp only [push_cast, seval, ↓reduceIte]
 refine Zg ?_
 refine Zb Zc [] ?_
 simp only [push_cast, seval, ↓reduceIte, Za, hN0, hN]
 refine Zf [3, 4] [true, true] ?_
 simp only [push_cast, seval, ↓reduceIte]
 refine Zg ?_
 refine Zb Zc [] ?_
 simp only [push_cast, seval, ↓reduceIte, Za, hN0, hN]
 refine Zf [4, 5] [false, true] ?_
 simp only [push_cast, seval, ↓reduceIte]
 refine Zq ?_
 try simp only [Zi, Zd]
 have h := Option.some.inj h; subst h
 refine Zk (.inr rfl) hU [.agg [.val (.int .i64 a1.P.Kind), .val (.int .i64 0), .val (.int .i64 a1.P.Data), .val (.int .i64 a1.P.Ptrs), .val (.int .i64 a1.P.Code), .val (.int .i64 a1.P.Count), .val (.int .i64 a1.P.Segment), .val (.bool a1.P.Double), .val (.int .i64 a1.Segment), .val (.int .i64 a1.At)], .val (.int .i64 0)] (by omega) ?_
 simp only [push_cast, seval, ↓reduceIte, Za, Try.results77, hN0, hN]
end Go.Proofs.Ytmlhokaflhlhbaa
