/- Part VM5 of this seat's mirrors: functions of the seat's program, and the plain functions that they are; each theorem bears its own conditions. -/
import Derived.Test.YtmlhokaflhlhbaaVE
import Derived.Test.YtmlhokaflhlhbaaVM4
namespace Go.Proofs.Ytmlhokaflhlhbaa
open Go.RowKit
set_option linter.unusedVariables false
set_option linter.unusedSimpArgs false
set_option maxRecDepth 100000
set_option maxHeartbeats 4000000
attribute [local push_cast] Yg Zz Zn Yh Zp Zi3 Zi2 Zjs Zjr Zi Zf Zfx Zb2 Zb1 onW Yw U1 Ua Zi8 Zh6 Zed Zei Zec Zeh Zgx Zgu Zeg Zgw Zgv Zee Zgs Zcm evS wok Xi Op.operands Call.operands gop onK onP atK List.all_cons List.all_nil Bool.and_true Bool.true_and Bool.and_self Value.oneCell' List.take_zero List.take_succ_cons List.take_nil List.drop_zero List.drop_succ_cons List.drop_nil List.append_nil Nat.add_zero Nat.zero_add J8 Z8 ev Xn Zoq Ziu Zit Ziz Zix Ziy Ziv Ziw Zis Zlf Zl4 Zor Zdb Uf Zc3 Ut Zds Zba Zah Zam Zbx Zbu Zak Zbw Zbv Zaj Zbs Zai Zal U8 Zbt Zfz Zb3 Vh Zc4 Vi Zep Zda Zmy bLo bHi bMx Ug Zeo Zpy Zc9 Ze6 Zad Ki Zlu Zp2 Zc1 Zp6 Ue Zq6 Zf4 Zf8 Zf3 Zf7 Zje Zjb Zi9 Zdw Zf5 Zjd Zjc Zf6 Zja Zeq Zi4 Zgl Zch Zcg pop TK.isAgg Zjl Zjp Zjk Zjo Zgf Znf Znc Zjn Zne Znd Zjm Znb G.under G.unders List.getD_cons_zero List.getD_cons_succ List.set_cons_zero List.set_cons_succ List.map_cons List.map_nil List.toList_toArray Array.toList_append Option.toArray_none Option.toArray_some Array.toList_map Option.map_some Option.map_none Option.bind_some Option.bind_none List.getElem?_cons_zero List.getElem?_cons_succ List.getElem?_nil List.nil_append List.cons_append List.replicate_succ List.replicate_zero List.length_cons List.length_nil and_true true_and and_false false_and Bool.true_eq_false Bool.false_eq_true forall_const false_implies implies_true IntKind.bits if_true if_false ite_true ite_false eq_self true_implies false_or or_false or_true true_or not_true_eq_false not_false_eq_true decide_true decide_false decide_eq_true_eq decide_eq_false_iff_not beq_iff_eq bne_iff_ne ne_eq Bool.not_eq_true Bool.not_eq_false beq_eq_false_iff_ne bne_eq_false_iff_eq beq_self_eq_true bne_self_eq_false Option.some.injEq exists_eq_left' exists_eq_left ge_iff_le gt_iff_lt decide_not Bool.not_true Bool.not_false imp_self Zm0 cond_true cond_false Zvz Zvy Bool.not_not Bool.and_false Bool.false_and Bool.or_true Bool.true_or Bool.or_false Bool.false_or V9 Zem Zc0 Zbq Zae Uz Option.join_some Nat.add_assoc Int.toNat_natCast eI eB eS eL Zby Zbk Zas Zi7 Zi5 Zi6 Zrk Ztn Zbm Zaz Zjz Zjx Zjy Zoz Zfw Zmr Zgq Zmq Gu Zle List.length_append G.agg.injEq G.row.injEq G.ref.injEq G.val.injEq G.sl.injEq G.tup.injEq Value.int.injEq Value.bool.injEq Value.string.injEq List.cons.injEq exists_and_left exists_const List.flatten_cons List.flatten_nil Int.le_refl Nat.le_refl Zhg Kh Zfr Bool.not_eq_true' Bool.not_eq_false' Zla Zcs Zoj Zon Zoi Zom Zsy Zsu List.size_toArray Zj1 Zj2 G.ren G.rens Zl6 Zbc Zj5 Zip Ziq Zgt Zoo Zcb G.fn.injEq Zej Zhj Zk8 Zsv Zhi Zol Zsx Zsw Zok Zm6 Zrf Option.join_none Xh Vg undef Ze7 Arr.len Arr.put_eq Zbl Zd1 Zcc Zay Zjw Zju Zjv onB Zrj Zls Zgr Zfh Zfi Zfj Zfk Zfl Zfm Zdz Zd5 Zd3 Zcf Za0 Zd4 Zgk Zgj Zgi Zgh Ztm Zvc Zoy Znh Qw Zot Zjf Zd7 Zce Zqd Zj7 Zc8 Ze5 Gj Zd8 Zfn Zfo Zfp Zfq Zdg Zdh Zdi Zdj Zdk Zdl Zdm Zan prT Gc Zw4 Zn6 Zvn Zn7 Zw5 Zn8 Zw6 Zn9 Zw7 Zoa Zw8 Zob Zw9 Zoc Zxa Zod Zrv Zj8 Zrw Zj9 Zrx Zka Zry Zkb Zrz Zkc Zr0 Zkd Zr1 Zke Zr2 Zkf Zr3 Zkg Zr4 Zkh Zr5 Zki Zr6 Zkj Zr7 Zkk Zr8 Zhu Zr9 Zkl Zsa Zkm Zsb Zkn Gp Zko Zsc Zkp Zsd Zkq Gs Zc7 Zse Zkr Zsf Zks Zsg Zkt Zsh Zku Zl3 Zkv Zsi Zkw Zsj Zkx Zsk Zky Zsl Zkz Zsm Zk0 Zsn Zk1 Zso Zk2 Zsp Zk3 Zsq Zk4 Zsr Zk5 Zss Zk6 Znp Zgz Znq Zg0 Znr Zg1 Zns Zg2 Znt Zg3 Znu Zg4 Znv Zg5 Znw Zg6 Znx Zg7 Zny Zg8 Znz Zg9 Zn0 Zha Zn1 Zhb Zn2 Zhc Zn3 Zhd Zn4 Zhe Zn5 Zhf Zcu Zcr Zb6 Zca Zcx Za9 Za6 Za4 Zco Up Uo Uh Ul Uq V2 V1 V0 Un Zk Jk Jj Jd Jh Jl Q2 Q1 Q0 Ji Zap Zct Zcq Zb5 Zb9 Zcw Za8 Za5 Za3 Zcn Zao Vu Jv Jw X3 Z3 Ql Qk Qh Qi Qm Qa X8 X7 Qj Zw Jo Vc Vb K0 K6 Vd Ks Kq Kp K9
theorem Zgd {Qt : (S_api_Tree → Int → Option Bool)} (Zff : ∀ {a0 : S_api_Tree} {a1 : Int} {r : Bool} {O : Objs} {n : Nat}, Qt a0 a1 = some r → GTo Try.prog 34 [.agg (Zz a0), .val (.int .i64 a1)] O n (.val (.bool r)) O n) {a0 : S_api_Tree} {a1 : Int} {r : Bool} {O : Objs} {n : Nat} (h : Ju Qt a0 a1 = some r) : GTo Try.prog 34 [.agg (Zz a0), .val (.int .i64 a1)] O n (.val (.bool r)) O n := by
 unfold Ju at h
 refine Yn Zc Try.call34 Try.func34 rfl (Nat.le_of_ble_eq_true rfl) (Nat.le_refl _) fun hU => ?_
 have hN0 : O n = none := hU.fresh _ (Nat.le_refl _)
 have hN : ∀ k, O (n + k) = none := fun k => hU.fresh _ (Nat.le_add_right _ _)
 show W _ _ _ _ ⟨132, [], [(0, .agg (Zz a0)), (1, .val (.int .i64 a1))]⟩ (Z4 O n []) _
 refine Zq [1, 2] (Zb Zc [] ?_)
 simp only [push_cast, seval, ↓reduceIte, Za, hN0, hN]
 refine Zh ?_
 refine Zq [1, 2, 10] (Zb Zc [] ?_)
 simp only [push_cast, seval, ↓reduceIte, Za, hN0, hN]
 refine Zr (t := (a0.Kind == 0)) rfl (fun c32 => ?_) (fun c32 => ?_)
 ·replace h := Zv c32 h
  refine Zq [4] (Zb Zc [none, none, none, none] ?_)
  simp only [push_cast, seval, ↓reduceIte, Za, hN0, hN]
  repeat (with_reducible refine And.intro (by first | (intro h0; simp only [h0, and_self]; done) | (intro h0; simp only [h0, Bool.not_false, Bool.not_true, Bool.true_and, Bool.and_true, true_and, and_true, and_self, imp_self, implies_true, bne_iff_ne, ne_eq, beq_iff_eq]; done) | (intros; simp_all; done) | exact True.intro) ?_)
  refine Zt ?_
  try simp only [Zi, Zf]
  have h := Option.some.inj h; subst h
  refine Zl (.inr rfl) hU [.val (.bool (cond ((a0.Words.length : Int) == 0) ((a0.Kids.length : Int) == 0) false))] (by omega) ?_
  simp only [push_cast, seval, ↓reduceIte, Za, Try.results34, hN0, hN]
 replace h := Zu c32 h
 refine Zx ?_
 try simp only [Zi, Zf]
 refine Zg [1, 2] [true] ?_
 simp only [push_cast, seval, ↓reduceIte]
 refine Zh ?_
 refine Zq [1, 2, 23] (Zb Zc [] ?_)
 simp only [push_cast, seval, ↓reduceIte, Za, hN0, hN]
 refine Zr (t := (a0.Kind == 10)) rfl (fun c31 => ?_) (fun c31 => ?_)
 ·replace h := Zv c31 h
  refine Zq [4] (Zb Zc [none, none, none, none] ?_)
  simp only [push_cast, seval, ↓reduceIte, Za, hN0, hN]
  repeat (with_reducible refine And.intro (by first | (intro h0; simp only [h0, and_self]; done) | (intro h0; simp only [h0, Bool.not_false, Bool.not_true, Bool.true_and, Bool.and_true, true_and, and_true, and_self, imp_self, implies_true, bne_iff_ne, ne_eq, beq_iff_eq]; done) | (intros; simp_all; done) | exact True.intro) ?_)
  refine Zt ?_
  try simp only [Zi, Zf]
  have h := Option.some.inj h; subst h
  refine Zl (.inr rfl) hU [.val (.bool (cond ((a0.Words.length : Int) == 1) ((a0.Kids.length : Int) == 0) false))] (by omega) ?_
  simp only [push_cast, seval, ↓reduceIte, Za, Try.results34, hN0, hN]
 replace h := Zu c31 h
 refine Zx ?_
 try simp only [Zi, Zf]
 refine Zg [1, 2] [true] ?_
 simp only [push_cast, seval, ↓reduceIte]
 refine Zh ?_
 refine Zq [1, 2, 68] (Zb Zc [none, none, none, none, none, none, none, none, none, none, none, none, none, none, none, none, none, none, none, none, none, none] ?_)
 simp only [push_cast, seval, ↓reduceIte, Za, hN0, hN]
 repeat (with_reducible refine And.intro (by first | (intro h0; simp only [h0, and_self]; done) | (intro h0; simp only [h0, Bool.not_false, Bool.not_true, Bool.true_and, Bool.and_true, true_and, and_true, and_self, imp_self, implies_true, bne_iff_ne, ne_eq, beq_iff_eq]; done) | (intros; simp_all; done) | exact True.intro) ?_)
 refine Zr (t := (cond (cond (cond (cond (cond (decide (a0.Kind < 0)) true (decide (10 < a0.Kind))) true (a1 == 0)) true (decide (65536 ≤ (a0.Words.length : Int)))) true (cond (a0.Kind == 1) (decide (65536 ≤ (a0.Kids.length : Int))) false)) true (decide (1048576 ≤ (a0.Kids.length : Int))))) rfl (fun c30 => ?_) (fun c30 => ?_)
 ·replace h := Zv c30 h
  refine Zq [4] (Zb Zc [] ?_)
  simp only [push_cast, seval, ↓reduceIte, Za, hN0, hN]
  refine Zt ?_
  try simp only [Zi, Zf]
  have h := Option.some.inj h; subst h
  refine Zl (.inr rfl) hU [.val (.bool false)] (by omega) ?_
  simp only [push_cast, seval, ↓reduceIte, Za, Try.results34, hN0, hN]
 replace h := Zu c30 h
 refine Zx ?_
 try simp only [Zi, Zf]
 refine Zg [1, 2] [true] ?_
 simp only [push_cast, seval, ↓reduceIte]
 refine Zh ?_
 refine Zq [1, 2, 77] (Zb Zc [none, none, none, none] ?_)
 simp only [push_cast, seval, ↓reduceIte, Za, hN0, hN]
 repeat (with_reducible refine And.intro (by first | (intro h0; simp only [h0, and_self]; done) | (intro h0; simp only [h0, Bool.not_false, Bool.not_true, Bool.true_and, Bool.and_true, true_and, and_true, and_self, imp_self, implies_true, bne_iff_ne, ne_eq, beq_iff_eq]; done) | (intros; simp_all; done) | exact True.intro) ?_)
 refine Zr (t := (cond (decide (1 < a0.Kind)) (decide (0 < (a0.Words.length : Int))) false)) rfl (fun c29 => ?_) (fun c29 => ?_)
 ·replace h := Zv c29 h
  refine Zq [4] (Zb Zc [] ?_)
  simp only [push_cast, seval, ↓reduceIte, Za, hN0, hN]
  refine Zt ?_
  try simp only [Zi, Zf]
  have h := Option.some.inj h; subst h
  refine Zl (.inr rfl) hU [.val (.bool false)] (by omega) ?_
  simp only [push_cast, seval, ↓reduceIte, Za, Try.results34, hN0, hN]
 replace h := Zu c29 h
 refine Zx ?_
 try simp only [Zi, Zf]
 refine Zg [1, 2] [true] ?_
 simp only [push_cast, seval, ↓reduceIte]
 refine Zh ?_
 refine Zq [1, 2, 5] (Zb Zc [] ?_)
 simp only [push_cast, seval, ↓reduceIte, Za, hN0, hN]
 refine Zg [1, 2, 5] [true] ?_
 simp only [push_cast, seval, ↓reduceIte]
 obtain ⟨z28, hz28, h⟩ := bC h
 refine Zmi (J := (Zaf (fun z28 => JR n (⟨132, [], [(4, .val (.bool false))]⟩ : Env) (Z4 O n [none]) (n + 1)) (fun z28 => JX 0 n (⟨132, [], []⟩ : Env) (Z4 O n [none]) (n + 1)))) (z := z28) ?_ fun hw => ?_
 ·refine V4 hz28 (fun s0_ => ⟨132, [], [(1, .val (.int .i64 a1)), (2, .ref n 0), (5, .val (.int .i64 s0_))]⟩) (fun s0_ => (Z4 O n [some ⟨false, 58, 3, 1, (Zz a0)⟩])) (Zaf (fun z28 => JR n (⟨132, [], [(4, .val (.bool false))]⟩ : Env) (Z4 O n [none]) (n + 1)) (fun z28 => JX 0 n (⟨132, [], []⟩ : Env) (Z4 O n [none]) (n + 1))) ?_
  intro s0_ x0_ hs0_
  unfold Qg at hs0_
  try dsimp only
  refine Zh ?_
  refine Zq [1, 2, 5, 82] (Zb Zc [] ?_)
  simp only [push_cast, seval, ↓reduceIte, Za, hN0, hN]
  refine Zr (t := (decide (s0_ < (a0.Kids.length : Int)))) rfl (fun c27 => ?_) (fun c27 => ?_)
  ·replace hs0_ := Zv c27 hs0_
   refine Zx ?_
   try simp only [Zi, Zf]
   refine Zg [1, 2, 5] [true] ?_
   simp only [push_cast, seval, ↓reduceIte]
   refine Zh ?_
   refine Xc ?_
   refine Zh ?_
   obtain ⟨x2, hx2, ax2, bx2, cx2, hs0_⟩ := bE (f := Zw) Zl3 (fun _ => rfl) (by decide) hs0_
   refine Zb Zc [] ?_
   simp only [push_cast, Nat.reduceAdd, Nat.reduceSub, Nat.reduceMul, Nat.reduceLeDiff, Nat.reduceLT, Nat.reduceEqDiff, ↓reduceIte, reduceCtorEq, Int.reduceBEq, Int.reduceBNe, Nat.reduceBEq, Int.reduceLE, Int.reduceLT, Int.reduceEq, Int.reduceNe, Int.reduceNeg, Nat.reduceDiv, Nat.reduceMod, Nat.reducePow, Za, ax2, bx2, cx2, hN0, hN]
   refine Zg [1, 2, 5, 6] [true, true] ?_
   simp only [push_cast, seval, ↓reduceIte]
   refine Zh ?_
   refine Zh ?_
   obtain ⟨y4, hy4, hs0_⟩ := bC hs0_
   refine Zb Zc [] ?_
   simp only [push_cast, seval, ↓reduceIte, Za, hN0, hN]
   refine (Zff hy4).then ?_
   simp only [push_cast, seval, ↓reduceIte, Za, hN0, hN]
   refine Zg [1, 2, 5, 6, 94] [true, true] ?_
   simp only [push_cast, seval, ↓reduceIte]
   refine Zr (t := (!y4)) rfl (fun c26 => ?_) (fun c26 => ?_)
   ·replace hs0_ := Zv c26 hs0_
    refine Zq [4] (Zb Zc [] ?_)
    simp only [push_cast, seval, ↓reduceIte, Za, hN0, hN]
    refine Zt ?_
    try simp only [Zi, Zf]
    have hs0_ := Option.some.inj hs0_; subst hs0_
    refine And.intro (fun h => by cases h) (And.intro rfl (Fit2.of (Zs hU rfl rfl ?_) (by omega)))
    simp only [push_cast, seval, ↓reduceIte, Za, hN0, hN]
   replace hs0_ := Zu c26 hs0_
   refine Zx ?_
   try simp only [Zi, Zf]
   refine Zg [1, 2, 5, 6] [true, true] ?_
   simp only [push_cast, seval, ↓reduceIte]
   refine Zq [1, 2, 5, 6, 7] (Zb Zc [none, none, none] ?_)
   simp only [push_cast, seval, ↓reduceIte, Za, hN0, hN]
   repeat (with_reducible refine And.intro (by first | (intro h0; simp only [h0, and_self]; done) | (intro h0; simp only [h0, Bool.not_false, Bool.not_true, Bool.true_and, Bool.and_true, true_and, and_true, and_self, imp_self, implies_true, bne_iff_ne, ne_eq, beq_iff_eq]; done) | (intros; simp_all; done) | exact True.intro) ?_)
   obtain ⟨z9, hz9, hs0_⟩ := bC hs0_
   refine Qn (E' := ⟨132, [], [(1, .val (.int .i64 a1)), (2, .ref n 0), (5, .val (.int .i64 s0_)), (131, .val (.bool z9))]⟩) (O' := (Z4 O n [some ⟨false, 58, 3, 1, (Zz a0)⟩, none])) (n0 := (n + 2)) ?_ ?_
   ·rcases Bool.eq_false_or_eq_true ((cond (decide (2 ≤ a0.Kind)) (decide (a0.Kind ≤ 7)) false) != (x2.Kind == 10)) with c18 | c18
    ·replace hz9 := Zv c18 hz9
     refine Xd Zc (by kernel_rfl) [none, none, none, none, none, none, none, none, some false, some false, some false, some false, some false, some false, some false, some false, some false, some false, some false, some false] (by kernel_rfl) ?_
     simp only [push_cast, seval, ↓reduceIte, Za, c18, hN0, hN]
     repeat (with_reducible refine And.intro (by first | (intro h0; simp only [h0, and_self]; done) | (intro h0; simp only [h0, Bool.not_false, Bool.not_true, Bool.true_and, Bool.and_true, true_and, and_true, and_self, imp_self, implies_true, bne_iff_ne, ne_eq, beq_iff_eq]; done) | (intros; simp_all; done) | exact True.intro) ?_)
     have hz9 := Option.some.inj hz9; subst hz9
     refine And.intro rfl (Fit2.of (Zs hU rfl rfl ?_) (by omega))
     simp only [push_cast, seval, ↓reduceIte, Za, c18, hN0, hN]
    replace hz9 := Zu c18 hz9
    rcases Bool.eq_false_or_eq_true (a0.Kind == 9) with c19 | c19
    ·replace hz9 := Zv c19 hz9
     try rw [c19] at c18
     rcases Bool.eq_false_or_eq_true (x2.Kind != 1) with c20 | c20
     ·replace hz9 := Zv c20 hz9
      try rw [c20] at c18
      try rw [c20] at c19
      refine Xd Zc (by kernel_rfl) [none, none, none, none, none, none, none, none, some false, some false, some false, some false, some false, some false, some false, some false, some false, some false, some false, some false] (by kernel_rfl) ?_
      simp only [push_cast, seval, ↓reduceIte, Za, c18, c19, c20, hN0, hN]
      repeat (with_reducible refine And.intro (by first | (intro h0; simp only [h0, and_self]; done) | (intro h0; simp only [h0, Bool.not_false, Bool.not_true, Bool.true_and, Bool.and_true, true_and, and_true, and_self, imp_self, implies_true, bne_iff_ne, ne_eq, beq_iff_eq]; done) | (intros; simp_all; done) | exact True.intro) ?_)
      have hz9 := Option.some.inj hz9; subst hz9
      refine And.intro rfl (Fit2.of (Zs hU rfl rfl ?_) (by omega))
      simp only [push_cast, seval, ↓reduceIte, Za, c18, c19, c20, hN0, hN]
     replace hz9 := Zu c20 hz9
     try rw [c20] at c18
     try rw [c20] at c19
     rcases Bool.eq_false_or_eq_true (decide (2 ≤ a0.Kind)) with c21 | c21
     ·replace hz9 := Zv c21 hz9
      try rw [c21] at c18
      try rw [c21] at c19
      try rw [c21] at c20
      rcases Bool.eq_false_or_eq_true (decide (a0.Kind ≤ 7)) with c22 | c22
      ·replace hz9 := Zv c22 hz9
       try rw [c22] at c18
       try rw [c22] at c19
       try rw [c22] at c20
       try rw [c22] at c21
       obtain ⟨x14, hx14, ax14, bx14, cx14, hz9⟩ := bE (f := (eI .u64)) Gp (fun _ => rfl) (by decide) hz9
       obtain ⟨y15, hy15, hz9⟩ := bC hz9
       refine Xd Zc (by kernel_rfl) [none, none, none, none, none, none, none, none, some true, some true, some true, some true, some true, some true, some true, some true, some true, some true, some true, some true] (by kernel_rfl) ?_
       simp only [push_cast, Nat.reduceAdd, Nat.reduceSub, Nat.reduceMul, Nat.reduceLeDiff, Nat.reduceLT, Nat.reduceEqDiff, ↓reduceIte, reduceCtorEq, Int.reduceBEq, Int.reduceBNe, Nat.reduceBEq, Int.reduceLE, Int.reduceLT, Int.reduceEq, Int.reduceNe, Int.reduceNeg, Nat.reduceDiv, Nat.reduceMod, Nat.reducePow, Za, c18, c19, c20, c21, c22, ax14, bx14, cx14, hN0, hN]
       repeat (with_reducible refine And.intro (by first | (intro h0; simp only [h0, and_self]; done) | (intro h0; simp only [h0, Bool.not_false, Bool.not_true, Bool.true_and, Bool.and_true, true_and, and_true, and_self, imp_self, implies_true, bne_iff_ne, ne_eq, beq_iff_eq]; done) | (intros; simp_all; done) | exact True.intro) ?_)
       refine PCall.of (Zb7 hy15) ?_
       simp only [push_cast, Nat.reduceAdd, Nat.reduceSub, Nat.reduceMul, Nat.reduceLeDiff, Nat.reduceLT, Nat.reduceEqDiff, ↓reduceIte, reduceCtorEq, Int.reduceBEq, Int.reduceBNe, Nat.reduceBEq, Int.reduceLE, Int.reduceLT, Int.reduceEq, Int.reduceNe, Int.reduceNeg, Nat.reduceDiv, Nat.reduceMod, Nat.reducePow, Za, c18, c19, c20, c21, c22, ax14, bx14, cx14, hN0, hN]
       repeat (with_reducible refine And.intro (by first | (intro h0; simp only [h0, and_self]; done) | (intro h0; simp only [h0, Bool.not_false, Bool.not_true, Bool.true_and, Bool.and_true, true_and, and_true, and_self, imp_self, implies_true, bne_iff_ne, ne_eq, beq_iff_eq]; done) | (intros; simp_all; done) | exact True.intro) ?_)
       have hz9 := Option.some.inj hz9; subst hz9
       refine And.intro rfl (Fit2.of (Zs hU rfl rfl ?_) (by omega))
       simp only [push_cast, Nat.reduceAdd, Nat.reduceSub, Nat.reduceMul, Nat.reduceLeDiff, Nat.reduceLT, Nat.reduceEqDiff, ↓reduceIte, reduceCtorEq, Int.reduceBEq, Int.reduceBNe, Nat.reduceBEq, Int.reduceLE, Int.reduceLT, Int.reduceEq, Int.reduceNe, Int.reduceNeg, Nat.reduceDiv, Nat.reduceMod, Nat.reducePow, Za, c18, c19, c20, c21, c22, ax14, bx14, cx14, hN0, hN]
      replace hz9 := Zu c22 hz9
      try rw [c22] at c18
      try rw [c22] at c19
      try rw [c22] at c20
      try rw [c22] at c21
      refine Xd Zc (by kernel_rfl) [none, none, none, none, none, none, none, none, some true, some true, some false, some false, some false, some false, some false, some false, some false, some false, some false, some true] (by kernel_rfl) ?_
      simp only [push_cast, seval, ↓reduceIte, Za, c18, c19, c20, c21, c22, hN0, hN]
      repeat (with_reducible refine And.intro (by first | (intro h0; simp only [h0, and_self]; done) | (intro h0; simp only [h0, Bool.not_false, Bool.not_true, Bool.true_and, Bool.and_true, true_and, and_true, and_self, imp_self, implies_true, bne_iff_ne, ne_eq, beq_iff_eq]; done) | (intros; simp_all; done) | exact True.intro) ?_)
      have hz9 := Option.some.inj hz9; subst hz9
      refine And.intro rfl (Fit2.of (Zs hU rfl rfl ?_) (by omega))
      simp only [push_cast, seval, ↓reduceIte, Za, c18, c19, c20, c21, c22, hN0, hN]
     replace hz9 := Zu c21 hz9
     try rw [c21] at c18
     try rw [c21] at c19
     try rw [c21] at c20
     refine Xd Zc (by kernel_rfl) [none, none, none, none, none, none, none, none, some true, some true, some false, some false, some false, some false, some false, some false, some false, some false, some false, some true] (by kernel_rfl) ?_
     simp only [push_cast, seval, ↓reduceIte, Za, c18, c19, c20, c21, hN0, hN]
     repeat (with_reducible refine And.intro (by first | (intro h0; simp only [h0, and_self]; done) | (intro h0; simp only [h0, Bool.not_false, Bool.not_true, Bool.true_and, Bool.and_true, true_and, and_true, and_self, imp_self, implies_true, bne_iff_ne, ne_eq, beq_iff_eq]; done) | (intros; simp_all; done) | exact True.intro) ?_)
     have hz9 := Option.some.inj hz9; subst hz9
     refine And.intro rfl (Fit2.of (Zs hU rfl rfl ?_) (by omega))
     simp only [push_cast, seval, ↓reduceIte, Za, c18, c19, c20, c21, hN0, hN]
    replace hz9 := Zu c19 hz9
    try rw [c19] at c18
    rcases Bool.eq_false_or_eq_true (decide (2 ≤ a0.Kind)) with c23 | c23
    ·replace hz9 := Zv c23 hz9
     try rw [c23] at c18
     try rw [c23] at c19
     rcases Bool.eq_false_or_eq_true (decide (a0.Kind ≤ 7)) with c24 | c24
     ·replace hz9 := Zv c24 hz9
      try rw [c24] at c18
      try rw [c24] at c19
      try rw [c24] at c23
      obtain ⟨x16, hx16, ax16, bx16, cx16, hz9⟩ := bE (f := (eI .u64)) Gp (fun _ => rfl) (by decide) hz9
      obtain ⟨y17, hy17, hz9⟩ := bC hz9
      refine Xd Zc (by kernel_rfl) [none, none, none, none, none, none, none, none, some true, some true, some true, some true, some true, some true, some true, some true, some true, some true, some true, some true] (by kernel_rfl) ?_
      simp only [push_cast, Nat.reduceAdd, Nat.reduceSub, Nat.reduceMul, Nat.reduceLeDiff, Nat.reduceLT, Nat.reduceEqDiff, ↓reduceIte, reduceCtorEq, Int.reduceBEq, Int.reduceBNe, Nat.reduceBEq, Int.reduceLE, Int.reduceLT, Int.reduceEq, Int.reduceNe, Int.reduceNeg, Nat.reduceDiv, Nat.reduceMod, Nat.reducePow, Za, c18, c19, c23, c24, ax16, bx16, cx16, hN0, hN]
      repeat (with_reducible refine And.intro (by first | (intro h0; simp only [h0, and_self]; done) | (intro h0; simp only [h0, Bool.not_false, Bool.not_true, Bool.true_and, Bool.and_true, true_and, and_true, and_self, imp_self, implies_true, bne_iff_ne, ne_eq, beq_iff_eq]; done) | (intros; simp_all; done) | exact True.intro) ?_)
      refine PCall.of (Zb7 hy17) ?_
      simp only [push_cast, Nat.reduceAdd, Nat.reduceSub, Nat.reduceMul, Nat.reduceLeDiff, Nat.reduceLT, Nat.reduceEqDiff, ↓reduceIte, reduceCtorEq, Int.reduceBEq, Int.reduceBNe, Nat.reduceBEq, Int.reduceLE, Int.reduceLT, Int.reduceEq, Int.reduceNe, Int.reduceNeg, Nat.reduceDiv, Nat.reduceMod, Nat.reducePow, Za, c18, c19, c23, c24, ax16, bx16, cx16, hN0, hN]
      repeat (with_reducible refine And.intro (by first | (intro h0; simp only [h0, and_self]; done) | (intro h0; simp only [h0, Bool.not_false, Bool.not_true, Bool.true_and, Bool.and_true, true_and, and_true, and_self, imp_self, implies_true, bne_iff_ne, ne_eq, beq_iff_eq]; done) | (intros; simp_all; done) | exact True.intro) ?_)
      have hz9 := Option.some.inj hz9; subst hz9
      refine And.intro rfl (Fit2.of (Zs hU rfl rfl ?_) (by omega))
      simp only [push_cast, Nat.reduceAdd, Nat.reduceSub, Nat.reduceMul, Nat.reduceLeDiff, Nat.reduceLT, Nat.reduceEqDiff, ↓reduceIte, reduceCtorEq, Int.reduceBEq, Int.reduceBNe, Nat.reduceBEq, Int.reduceLE, Int.reduceLT, Int.reduceEq, Int.reduceNe, Int.reduceNeg, Nat.reduceDiv, Nat.reduceMod, Nat.reducePow, Za, c18, c19, c23, c24, ax16, bx16, cx16, hN0, hN]
     replace hz9 := Zu c24 hz9
     try rw [c24] at c18
     try rw [c24] at c19
     try rw [c24] at c23
     refine Xd Zc (by kernel_rfl) [none, none, none, none, none, none, none, none, some true, some true, some false, some false, some false, some false, some false, some false, some false, some false, some false, some true] (by kernel_rfl) ?_
     simp only [push_cast, seval, ↓reduceIte, Za, c18, c19, c23, c24, hN0, hN]
     repeat (with_reducible refine And.intro (by first | (intro h0; simp only [h0, and_self]; done) | (intro h0; simp only [h0, Bool.not_false, Bool.not_true, Bool.true_and, Bool.and_true, true_and, and_true, and_self, imp_self, implies_true, bne_iff_ne, ne_eq, beq_iff_eq]; done) | (intros; simp_all; done) | exact True.intro) ?_)
     have hz9 := Option.some.inj hz9; subst hz9
     refine And.intro rfl (Fit2.of (Zs hU rfl rfl ?_) (by omega))
     simp only [push_cast, seval, ↓reduceIte, Za, c18, c19, c23, c24, hN0, hN]
    replace hz9 := Zu c23 hz9
    try rw [c23] at c18
    try rw [c23] at c19
    refine Xd Zc (by kernel_rfl) [none, none, none, none, none, none, none, none, some true, some true, some false, some false, some false, some false, some false, some false, some false, some false, some false, some true] (by kernel_rfl) ?_
    simp only [push_cast, seval, ↓reduceIte, Za, c18, c19, c23, hN0, hN]
    repeat (with_reducible refine And.intro (by first | (intro h0; simp only [h0, and_self]; done) | (intro h0; simp only [h0, Bool.not_false, Bool.not_true, Bool.true_and, Bool.and_true, true_and, and_true, and_self, imp_self, implies_true, bne_iff_ne, ne_eq, beq_iff_eq]; done) | (intros; simp_all; done) | exact True.intro) ?_)
    have hz9 := Option.some.inj hz9; subst hz9
    refine And.intro rfl (Fit2.of (Zs hU rfl rfl ?_) (by omega))
    simp only [push_cast, seval, ↓reduceIte, Za, c18, c19, c23, hN0, hN]
   refine Zr (t := z9) rfl (fun c25 => ?_) (fun c25 => ?_)
   ·replace hs0_ := Zv c25 hs0_
    refine Zq [4] (Zb Zc [] ?_)
    simp only [push_cast, seval, ↓reduceIte, Za, hN0, hN]
    refine Zt ?_
    try simp only [Zi, Zf]
    have hs0_ := Option.some.inj hs0_; subst hs0_
    refine And.intro (fun h => by cases h) (And.intro rfl (Fit2.of (Zs hU rfl rfl ?_) (by omega)))
    simp only [push_cast, seval, ↓reduceIte, Za, hN0, hN]
   replace hs0_ := Zu c25 hs0_
   refine Zx ?_
   try simp only [Zi, Zf]
   refine Zg [1, 2, 5] [true, false] ?_
   simp only [push_cast, seval, ↓reduceIte]
   refine Zb Zc [] ?_
   simp only [push_cast, seval, ↓reduceIte, Za, hN0, hN]
   have hs0_ := Option.some.inj hs0_; subst hs0_
   refine And.intro rfl (Fit2.of (Zs hU rfl rfl ?_) (by omega))
   simp only [push_cast, seval, ↓reduceIte, Za, hN0, hN]
  replace hs0_ := Zu c27 hs0_
  refine Gt ?_
  try simp only [Zi, Zf, ↓reduceIte, Nat.reduceEqDiff]
  have hs0_ := Option.some.inj hs0_; subst hs0_
  refine And.intro (fun h => by cases h) (And.intro rfl (Fit2.of (Zs hU rfl rfl ?_) (by omega)))
  simp only [push_cast, seval, ↓reduceIte, Za, hN0, hN]
 rcases z28 with z28 | z28
 ·dsimp only [Zaf] at hw h
  refine Zfs hw ?_
  try simp only [Zi, Zf, ↓reduceIte, Nat.reduceEqDiff]
  have h := Option.some.inj h; subst h
  refine Zl (.inr rfl) hU [.val (.bool false)] (by omega) ?_
  simp only [push_cast, seval, ↓reduceIte, Za, Try.results34, hN0, hN]
 dsimp only [Zaf] at hw h
 refine Kz hw ?_
 try simp only [Zi, Zf, ↓reduceIte, Nat.reduceEqDiff]
 refine Zg [] [false] ?_
 simp only [push_cast, seval, ↓reduceIte]
 refine Zq [4] (Zb Zc [] ?_)
 simp only [push_cast, seval, ↓reduceIte, Za, hN0, hN]
 refine Zt ?_
 try simp only [Zi, Zf]
 have h := Option.some.inj h; subst h
 refine Zl (.inr rfl) hU [.val (.bool true)] (by omega) ?_
 simp only [push_cast, seval, ↓reduceIte, Za, Try.results34, hN0, hN]
theorem Zes : ∀ k, (∀ {a0 : S_api_Tree} {a1 : Int} {r : Bool} {O : Objs} {n : Nat}, (Xk k) a0 a1 = some r → GTo Try.prog 34 [.agg (Zz a0), .val (.int .i64 a1)] O n (.val (.bool r)) O n) := fun k => by
 induction k with
 | zero => exact @fun a0 a1 r O n h => (nomatch (show (none : Option _) = some _ from h))
 | succ k ih => exact @fun a0 a1 r O n h => Zgd (ih)  h
theorem Jg {a0 : S_api_Tree} {a1 : Int} {r : Bool} {O : Objs} {n : Nat} (h : Vj a0 a1 = some r) : GTo Try.prog 34 [.agg (Zz a0), .val (.int .i64 a1)] O n (.val (.bool r)) O n := by
 obtain ⟨k, hk⟩ := Zf2 h
 exact (Zes k)  hk
theorem Zgc {Qs : (S_api_Tree → Option Int)} (Zfe : ∀ {a0 : S_api_Tree} {r : Int} {O : Objs} {n : Nat}, Qs a0 = some r → GTo Try.prog 35 [.agg (Zz a0)] O n (.val (.int .i64 r)) O n) {a0 : S_api_Tree} {r : Int} {O : Objs} {n : Nat} (h : Jt Qs a0 = some r) : GTo Try.prog 35 [.agg (Zz a0)] O n (.val (.int .i64 r)) O n := by
 unfold Jt at h
 refine Yn Zc Try.call35 Try.func35 rfl (Nat.le_of_ble_eq_true rfl) (Nat.le_refl _) fun hU => ?_
 have hN0 : O n = none := hU.fresh _ (Nat.le_refl _)
 have hN : ∀ k, O (n + k) = none := fun k => hU.fresh _ (Nat.le_add_right _ _)
 show W _ _ _ _ ⟨34, [], [(0, .agg (Zz a0))]⟩ (Z4 O n []) _
 refine Zq [1] (Zb Zc [] ?_)
 simp only [push_cast, seval, ↓reduceIte, Za, hN0, hN]
 refine Zh ?_
 refine Zq [1, 13] (Zb Zc [none, none, none] ?_)
 simp only [push_cast, seval, ↓reduceIte, Za, hN0, hN]
 repeat (with_reducible refine And.intro (by first | (intro h0; simp only [h0, and_self]; done) | (intro h0; simp only [h0, Bool.not_false, Bool.not_true, Bool.true_and, Bool.and_true, true_and, and_true, and_self, imp_self, implies_true, bne_iff_ne, ne_eq, beq_iff_eq]; done) | (intros; simp_all; done) | exact True.intro) ?_)
 refine Zr (t := (cond (a0.Kind == 0) true (a0.Kind == 10))) rfl (fun c9 => ?_) (fun c9 => ?_)
 ·replace h := Zv c9 h
  refine Zq [2] (Zb Zc [] ?_)
  simp only [push_cast, seval, ↓reduceIte, Za, hN0, hN]
  refine Zt ?_
  try simp only [Zi, Zf]
  have h := Option.some.inj h; subst h
  refine Zl (.inr rfl) hU [.val (.int .i64 0)] (by omega) ?_
  simp only [push_cast, seval, ↓reduceIte, Za, Try.results35, hN0, hN]
 replace h := Zu c9 h
 refine Zx ?_
 try simp only [Zi, Zf]
 refine Zg [1] [true] ?_
 simp only [push_cast, seval, ↓reduceIte]
 refine Zq [1, 3] (Zb Zc [] ?_)
 simp only [push_cast, seval, ↓reduceIte, Za, hN0, hN]
 refine Zh ?_
 refine Zq [1, 3, 4] (Zb Zc [] ?_)
 simp only [push_cast, seval, ↓reduceIte, Za, hN0, hN]
 refine Zg [1, 3, 4] [true] ?_
 simp only [push_cast, seval, ↓reduceIte]
 obtain ⟨z8, hz8, h⟩ := bC h
 refine Kz (E' := ⟨34, [], [(3, .val (.int .i64 z8))]⟩) (O' := (Z4 O n [none])) (n0 := (n + 1)) ?_ ?_
 ·refine V4 hz8 (fun s0_ => ⟨34, [], [(1, .ref n 0), (3, .val (.int .i64 s0_.1)), (4, .val (.int .i64 s0_.2))]⟩) (fun s0_ => (Z4 O n [some ⟨false, 58, 3, 1, (Zz a0)⟩])) (fun z8 => JX 0 n (⟨34, [], [(3, .val (.int .i64 z8))]⟩ : Env) (Z4 O n [none]) (n + 1)) ?_
  intro s0_ x0_ hs0_
  unfold Xl at hs0_
  try dsimp only
  refine Zh ?_
  refine Zq [1, 3, 4, 18] (Zb Zc [] ?_)
  simp only [push_cast, seval, ↓reduceIte, Za, hN0, hN]
  refine Zr (t := (decide (s0_.2 < (a0.Kids.length : Int)))) rfl (fun c7 => ?_) (fun c7 => ?_)
  ·replace hs0_ := Zv c7 hs0_
   refine Zx ?_
   try simp only [Zi, Zf]
   refine Zg [1, 3, 4] [true] ?_
   simp only [push_cast, seval, ↓reduceIte]
   obtain ⟨z1, hz1, hs0_⟩ := bC hs0_
   refine Qn (E' := ⟨34, [], [(1, .ref n 0), (3, .val (.int .i64 z1)), (4, .val (.int .i64 s0_.2))]⟩) (O' := (Z4 O n [some ⟨false, 58, 3, 1, (Zz a0)⟩])) (n0 := (n + 1)) ?_ ?_
   ·refine Xc ?_
    refine Zh ?_
    obtain ⟨x4, hx4, ax4, bx4, cx4, hz1⟩ := bE (f := Zw) Zl3 (fun _ => rfl) (by decide) hz1
    obtain ⟨y5, hy5, hz1⟩ := bC hz1
    refine Zb Zc [] ?_
    simp only [push_cast, Nat.reduceAdd, Nat.reduceSub, Nat.reduceMul, Nat.reduceLeDiff, Nat.reduceLT, Nat.reduceEqDiff, ↓reduceIte, reduceCtorEq, Int.reduceBEq, Int.reduceBNe, Nat.reduceBEq, Int.reduceLE, Int.reduceLT, Int.reduceEq, Int.reduceNe, Int.reduceNeg, Nat.reduceDiv, Nat.reduceMod, Nat.reducePow, Za, ax4, bx4, cx4, hN0, hN]
    refine (Zfe hy5).then ?_
    simp only [push_cast, Nat.reduceAdd, Nat.reduceSub, Nat.reduceMul, Nat.reduceLeDiff, Nat.reduceLT, Nat.reduceEqDiff, ↓reduceIte, reduceCtorEq, Int.reduceBEq, Int.reduceBNe, Nat.reduceBEq, Int.reduceLE, Int.reduceLT, Int.reduceEq, Int.reduceNe, Int.reduceNeg, Nat.reduceDiv, Nat.reduceMod, Nat.reducePow, Za, ax4, bx4, cx4, hN0, hN]
    refine Zg [1, 3, 4, 5] [true] ?_
    simp only [push_cast, seval, ↓reduceIte]
    refine Zq [1, 3, 4, 5, 30] (Zb Zc [] ?_)
    simp only [push_cast, seval, ↓reduceIte, Za, hN0, hN]
    refine Zr (t := (decide (s0_.1 < (IntKind.i64.wrap (y5 + 1))))) rfl (fun c6 => ?_) (fun c6 => ?_)
    ·replace hz1 := Zv c6 hz1
     refine Zb Zc [] ?_
     simp only [push_cast, seval, ↓reduceIte, Za, hN0, hN]
     have hz1 := Option.some.inj hz1; subst hz1
     refine And.intro rfl (Fit2.of (Zs hU rfl rfl ?_) (by omega))
     simp only [push_cast, seval, ↓reduceIte, Za, hN0, hN]
    replace hz1 := Zu c6 hz1
    refine Zx ?_
    try simp only [Zi, Zf]
    have hz1 := Option.some.inj hz1; subst hz1
    refine And.intro rfl (Fit2.of (Zs hU rfl rfl ?_) (by omega))
    simp only [push_cast, seval, ↓reduceIte, Za, hN0, hN]
   refine Zb Zc [] ?_
   simp only [push_cast, seval, ↓reduceIte, Za, hN0, hN]
   have hs0_ := Option.some.inj hs0_; subst hs0_
   refine And.intro rfl (Fit2.of (Zs hU rfl rfl ?_) (by omega))
   simp only [push_cast, seval, ↓reduceIte, Za, hN0, hN]
  replace hs0_ := Zu c7 hs0_
  refine Gt ?_
  try simp only [Zi, Zf, ↓reduceIte, Nat.reduceEqDiff]
  have hs0_ := Option.some.inj hs0_; subst hs0_
  refine And.intro (fun h => by cases h) (And.intro rfl (Fit2.of (Zs hU rfl rfl ?_) (by omega)))
  simp only [push_cast, seval, ↓reduceIte, Za, hN0, hN]
 try simp only [Zi, Zf, ↓reduceIte, Nat.reduceEqDiff]
 refine Zg [3] [false] ?_
 simp only [push_cast, seval, ↓reduceIte]
 refine Zq [2] (Zb Zc [] ?_)
 simp only [push_cast, seval, ↓reduceIte, Za, hN0, hN]
 refine Zt ?_
 try simp only [Zi, Zf]
 have h := Option.some.inj h; subst h
 refine Zl (.inr rfl) hU [.val (.int .i64 z8)] (by omega) ?_
 simp only [push_cast, seval, ↓reduceIte, Za, Try.results35, hN0, hN]
theorem Zer : ∀ k, (∀ {a0 : S_api_Tree} {r : Int} {O : Objs} {n : Nat}, (Xj k) a0 = some r → GTo Try.prog 35 [.agg (Zz a0)] O n (.val (.int .i64 r)) O n) := fun k => by
 induction k with
 | zero => exact @fun a0 r O n h => (nomatch (show (none : Option _) = some _ from h))
 | succ k ih => exact @fun a0 r O n h => Zgc (ih)  h
theorem Ky {a0 : S_api_Tree} {r : Int} {O : Objs} {n : Nat} (h : Uv a0 = some r) : GTo Try.prog 35 [.agg (Zz a0)] O n (.val (.int .i64 r)) O n := by
 obtain ⟨k, hk⟩ := Zf2 h
 exact (Zer k)  hk
theorem Zfg {Qf : (S_api_Tree → Option Int)} (Zet : ∀ {a0 : S_api_Tree} {r : Int} {O : Objs} {n : Nat}, Qf a0 = some r → GTo Try.prog 37 [.agg (Zz a0)] O n (.val (.int .i64 r)) O n) {a0 : S_api_Tree} {r : Int} {O : Objs} {n : Nat} (h : Jc Qf a0 = some r) : GTo Try.prog 37 [.agg (Zz a0)] O n (.val (.int .i64 r)) O n := by
 unfold Jc at h
 refine Yn Zc Try.call37 Try.func37 rfl (Nat.le_of_ble_eq_true rfl) (Nat.le_refl _) fun hU => ?_
 have hN0 : O n = none := hU.fresh _ (Nat.le_refl _)
 have hN : ∀ k, O (n + k) = none := fun k => hU.fresh _ (Nat.le_add_right _ _)
 show W _ _ _ _ ⟨42, [], [(0, .agg (Zz a0))]⟩ (Z4 O n []) _
 refine Zq [1] (Zb Zc [] ?_)
 simp only [push_cast, seval, ↓reduceIte, Za, hN0, hN]
 refine Zh ?_
 refine Zq [1, 7] (Zb Zc [] ?_)
 simp only [push_cast, seval, ↓reduceIte, Za, hN0, hN]
 refine Zr (t := (a0.Kind == 0)) rfl (fun c11 => ?_) (fun c11 => ?_)
 ·replace h := Zv c11 h
  refine Zq [2] (Zb Zc [] ?_)
  simp only [push_cast, seval, ↓reduceIte, Za, hN0, hN]
  refine Zt ?_
  try simp only [Zi, Zf]
  have h := Option.some.inj h; subst h
  refine Zl (.inr rfl) hU [.val (.int .i64 0)] (by omega) ?_
  simp only [push_cast, seval, ↓reduceIte, Za, Try.results37, hN0, hN]
 replace h := Zu c11 h
 refine Zx ?_
 try simp only [Zi, Zf]
 refine Zg [1] [true] ?_
 simp only [push_cast, seval, ↓reduceIte]
 refine Zq [1, 3] (Zb Zc [] ?_)
 simp only [push_cast, seval, ↓reduceIte, Za, hN0, hN]
 obtain ⟨z1, hz1, h⟩ := bC h
 refine Qn (E' := ⟨42, [], [(1, .ref n 0), (3, .val (.int .i64 z1))]⟩) (O' := (Z4 O n [some ⟨false, 58, 3, 1, (Zz a0)⟩])) (n0 := (n + 1)) ?_ ?_
 ·refine Zq [1, 3, 10] (Zb Zc [] ?_)
  simp only [push_cast, seval, ↓reduceIte, Za, hN0, hN]
  refine Zr (t := (a0.Kind == 1)) rfl (fun c2 => ?_) (fun c2 => ?_)
  ·replace hz1 := Zv c2 hz1
   refine Zb Zc [] ?_
   simp only [push_cast, seval, ↓reduceIte, Za, hN0, hN]
   have hz1 := Option.some.inj hz1; subst hz1
   refine And.intro rfl (Fit2.of (Zs hU rfl rfl ?_) (by omega))
   simp only [push_cast, seval, ↓reduceIte, Za, hN0, hN]
  replace hz1 := Zu c2 hz1
  refine Zx ?_
  try simp only [Zi, Zf]
  have hz1 := Option.some.inj hz1; subst hz1
  refine And.intro rfl (Fit2.of (Zs hU rfl rfl ?_) (by omega))
  simp only [push_cast, seval, ↓reduceIte, Za, hN0, hN]
 refine Zh ?_
 refine Zq [1, 3, 4] (Zb Zc [] ?_)
 simp only [push_cast, seval, ↓reduceIte, Za, hN0, hN]
 refine Zg [1, 3, 4] [true] ?_
 simp only [push_cast, seval, ↓reduceIte]
 obtain ⟨z10, hz10, h⟩ := bC h
 refine Kz (E' := ⟨42, [], [(3, .val (.int .i64 z10))]⟩) (O' := (Z4 O n [none])) (n0 := (n + 1)) ?_ ?_
 ·refine V4 hz10 (fun s0_ => ⟨42, [], [(1, .ref n 0), (3, .val (.int .i64 s0_.1)), (4, .val (.int .i64 s0_.2))]⟩) (fun s0_ => (Z4 O n [some ⟨false, 58, 3, 1, (Zz a0)⟩])) (fun z10 => JX 0 n (⟨42, [], [(3, .val (.int .i64 z10))]⟩ : Env) (Z4 O n [none]) (n + 1)) ?_
  intro s0_ x0_ hs0_
  unfold Xe at hs0_
  try dsimp only
  refine Zh ?_
  refine Zq [1, 3, 4, 20] (Zb Zc [] ?_)
  simp only [push_cast, seval, ↓reduceIte, Za, hN0, hN]
  refine Zr (t := (decide (s0_.2 < (a0.Kids.length : Int)))) rfl (fun c9 => ?_) (fun c9 => ?_)
  ·replace hs0_ := Zv c9 hs0_
   refine Zx ?_
   try simp only [Zi, Zf]
   refine Zg [1, 3, 4] [true] ?_
   simp only [push_cast, seval, ↓reduceIte]
   obtain ⟨z3, hz3, hs0_⟩ := bC hs0_
   refine Qn (E' := ⟨42, [], [(1, .ref n 0), (3, .val (.int .i64 z3)), (4, .val (.int .i64 s0_.2))]⟩) (O' := (Z4 O n [some ⟨false, 58, 3, 1, (Zz a0)⟩])) (n0 := (n + 1)) ?_ ?_
   ·refine Xc ?_
    refine Zh ?_
    obtain ⟨x6, hx6, ax6, bx6, cx6, hz3⟩ := bE (f := Zw) Zl3 (fun _ => rfl) (by decide) hz3
    obtain ⟨y7, hy7, hz3⟩ := bC hz3
    refine Zb Zc [] ?_
    simp only [push_cast, Nat.reduceAdd, Nat.reduceSub, Nat.reduceMul, Nat.reduceLeDiff, Nat.reduceLT, Nat.reduceEqDiff, ↓reduceIte, reduceCtorEq, Int.reduceBEq, Int.reduceBNe, Nat.reduceBEq, Int.reduceLE, Int.reduceLT, Int.reduceEq, Int.reduceNe, Int.reduceNeg, Nat.reduceDiv, Nat.reduceMod, Nat.reducePow, Za, ax6, bx6, cx6, hN0, hN]
    refine (Zet hy7).then ?_
    simp only [push_cast, Nat.reduceAdd, Nat.reduceSub, Nat.reduceMul, Nat.reduceLeDiff, Nat.reduceLT, Nat.reduceEqDiff, ↓reduceIte, reduceCtorEq, Int.reduceBEq, Int.reduceBNe, Nat.reduceBEq, Int.reduceLE, Int.reduceLT, Int.reduceEq, Int.reduceNe, Int.reduceNeg, Nat.reduceDiv, Nat.reduceMod, Nat.reducePow, Za, ax6, bx6, cx6, hN0, hN]
    refine Zg [1, 3, 4] [true] ?_
    simp only [push_cast, seval, ↓reduceIte]
    refine Zq [1, 3, 4, 38] (Zb Zc [none, none, none] ?_)
    simp only [push_cast, seval, ↓reduceIte, Za, hN0, hN]
    repeat (with_reducible refine And.intro (by first | (intro h0; simp only [h0, and_self]; done) | (intro h0; simp only [h0, Bool.not_false, Bool.not_true, Bool.true_and, Bool.and_true, true_and, and_true, and_self, imp_self, implies_true, bne_iff_ne, ne_eq, beq_iff_eq]; done) | (intros; simp_all; done) | exact True.intro) ?_)
    refine Zr (t := (cond (a0.Kind == 1) true (a0.Kind == 8))) rfl (fun c8 => ?_) (fun c8 => ?_)
    ·replace hz3 := Zv c8 hz3
     refine Zb Zc [] ?_
     simp only [push_cast, seval, ↓reduceIte, Za, hN0, hN]
     have hz3 := Option.some.inj hz3; subst hz3
     refine And.intro rfl (Fit2.of (Zs hU rfl rfl ?_) (by omega))
     simp only [push_cast, seval, ↓reduceIte, Za, hN0, hN]
    replace hz3 := Zu c8 hz3
    refine Zx ?_
    try simp only [Zi, Zf]
    have hz3 := Option.some.inj hz3; subst hz3
    refine And.intro rfl (Fit2.of (Zs hU rfl rfl ?_) (by omega))
    simp only [push_cast, seval, ↓reduceIte, Za, hN0, hN]
   refine Zb Zc [] ?_
   simp only [push_cast, seval, ↓reduceIte, Za, hN0, hN]
   have hs0_ := Option.some.inj hs0_; subst hs0_
   refine And.intro rfl (Fit2.of (Zs hU rfl rfl ?_) (by omega))
   simp only [push_cast, seval, ↓reduceIte, Za, hN0, hN]
  replace hs0_ := Zu c9 hs0_
  refine Gt ?_
  try simp only [Zi, Zf, ↓reduceIte, Nat.reduceEqDiff]
  have hs0_ := Option.some.inj hs0_; subst hs0_
  refine And.intro (fun h => by cases h) (And.intro rfl (Fit2.of (Zs hU rfl rfl ?_) (by omega)))
  simp only [push_cast, seval, ↓reduceIte, Za, hN0, hN]
 try simp only [Zi, Zf, ↓reduceIte, Nat.reduceEqDiff]
 refine Zg [3] [false] ?_
 simp only [push_cast, seval, ↓reduceIte]
 refine Zq [2] (Zb Zc [] ?_)
 simp only [push_cast, seval, ↓reduceIte, Za, hN0, hN]
 refine Zt ?_
 try simp only [Zi, Zf]
 have h := Option.some.inj h; subst h
 refine Zl (.inr rfl) hU [.val (.int .i64 z10)] (by omega) ?_
 simp only [push_cast, seval, ↓reduceIte, Za, Try.results37, hN0, hN]
theorem Zdx : ∀ k, (∀ {a0 : S_api_Tree} {r : Int} {O : Objs} {n : Nat}, (Xw k) a0 = some r → GTo Try.prog 37 [.agg (Zz a0)] O n (.val (.int .i64 r)) O n) := fun k => by
 induction k with
 | zero => exact @fun a0 r O n h => (nomatch (show (none : Option _) = some _ from h))
 | succ k ih => exact @fun a0 r O n h => Zfg (ih)  h
theorem Vz {a0 : S_api_Tree} {r : Int} {O : Objs} {n : Nat} (h : Ub a0 = some r) : GTo Try.prog 37 [.agg (Zz a0)] O n (.val (.int .i64 r)) O n := by
 obtain ⟨k, hk⟩ := Zf2 h
 exact (Zdx k)  hk
theorem Zdd {a0 : (List (List Int))} {a1 : Zy} {r : Bool} {O : Objs} {n : Nat} (h : Q5 a0 a1 = some r) : GTo Try.prog 7 [.sl a0.length (fl (eL (eI .u64)) a0), .agg (Yg a1)] O n (.val (.bool r)) O n := by
 unfold Q5 at h
 refine Yn Zc Try.call7 Try.func7 rfl (Nat.le_of_ble_eq_true rfl) (Nat.le_refl _) fun hU => ?_
 have hN0 : O n = none := hU.fresh _ (Nat.le_refl _)
 have hN : ∀ k, O (n + k) = none := fun k => hU.fresh _ (Nat.le_add_right _ _)
 show W _ _ _ _ ⟨63, [], [(0, .sl a0.length (fl (eL (eI .u64)) a0)), (1, .agg (Yg a1))]⟩ (Z4 O n []) _
 refine Zq [0, 3] (Zb Zc [] ?_)
 simp only [push_cast, seval, ↓reduceIte, Za, hN0, hN]
 refine Zh ?_
 obtain ⟨y2, hy2, h⟩ := bC h
 refine Zb Zc [] ?_
 simp only [push_cast, seval, ↓reduceIte, Za, hN0, hN]
 refine (Zhw hy2).then ?_
 simp only [push_cast, seval, ↓reduceIte, Za, hN0, hN]
 refine Zg [0, 3] [true] ?_
 simp only [push_cast, seval, ↓reduceIte]
 refine Zh ?_
 obtain ⟨y5, hy5, h⟩ := bC h
 obtain ⟨y6, hy6, h⟩ := bC h
 refine Xd Zc (by kernel_rfl) [] (by kernel_rfl) ?_
 simp only [push_cast, seval, ↓reduceIte, Za, hN0, hN]
 refine PCall.of (Zlz hy5) ?_
 simp only [push_cast, seval, ↓reduceIte, Za, hN0, hN]
 refine PCall.of (Zb8 hy6) ?_
 simp only [push_cast, seval, ↓reduceIte, Za, hN0, hN]
 refine Zg [0, 3, 5, 6] [true] ?_
 simp only [push_cast, seval, ↓reduceIte]
 refine Zh ?_
 obtain ⟨y8, hy8, h⟩ := bC h
 refine Zb Zc [] ?_
 simp only [push_cast, seval, ↓reduceIte, Za, hN0, hN]
 refine (Zgb hy8).then ?_
 simp only [push_cast, seval, ↓reduceIte, Za, hN0, hN]
 refine Zg [3, 5, 6, 7, 9] [true, true] ?_
 simp only [push_cast, seval, ↓reduceIte]
 refine Zh ?_
 refine Zq [3, 5, 7, 9, 27] (Zb Zc [] ?_)
 simp only [push_cast, seval, ↓reduceIte, Za, hN0, hN]
 refine Zr (t := (y6.2 != 0)) rfl (fun c38 => ?_) (fun c38 => ?_)
 ·replace h := Zv c38 h
  obtain ⟨z10, hz10, h⟩ := bC h
  refine Qn (E' := ⟨63, [], [(4, .val (.bool z10))]⟩) (O' := (Z4 O n [none, none])) (n0 := (n + 2)) ?_ ?_
  ·rcases Bool.eq_false_or_eq_true (y8.2.2 != 0) with c13 | c13
   ·replace hz10 := Zv c13 hz10
    obtain ⟨y12, hy12, hz10⟩ := bC hz10
    refine Zb Zc [some true] ?_
    simp only [push_cast, seval, ↓reduceIte, Za, c13, hN0, hN]
    refine (Zbe hy12).then ?_
    simp only [push_cast, seval, ↓reduceIte, Za, c13, hN0, hN]
    have hz10 := Option.some.inj hz10; subst hz10
    refine And.intro rfl (Fit2.of (Zs hU rfl rfl ?_) (by omega))
    simp only [push_cast, seval, ↓reduceIte, Za, c13, hN0, hN]
   replace hz10 := Zu c13 hz10
   refine Zb Zc [some false] ?_
   simp only [push_cast, seval, ↓reduceIte, Za, c13, hN0, hN]
   have hz10 := Option.some.inj hz10; subst hz10
   refine And.intro rfl (Fit2.of (Zs hU rfl rfl ?_) (by omega))
   simp only [push_cast, seval, ↓reduceIte, Za, c13, hN0, hN]
  refine Zt ?_
  try simp only [Zi, Zf]
  have h := Option.some.inj h; subst h
  refine Zl (.inr rfl) hU [.val (.bool z10)] (by omega) ?_
  simp only [push_cast, seval, ↓reduceIte, Za, Try.results7, hN0, hN]
 replace h := Zu c38 h
 refine Zx ?_
 try simp only [Zi, Zf]
 refine Zg [3, 5, 7, 9] [true, true] ?_
 simp only [push_cast, seval, ↓reduceIte]
 obtain ⟨z20, hz20, h⟩ := bC h
 refine Qn (E' := ⟨63, [], [(4, .val (.bool z20))]⟩) (O' := (Z4 O n [none, none])) (n0 := (n + 2)) ?_ ?_
 ·rcases Bool.eq_false_or_eq_true (y8.2.2 == 0) with c33 | c33
  ·replace hz20 := Zv c33 hz20
   obtain ⟨y27, hy27, hz20⟩ := bC hz20
   rcases Bool.eq_false_or_eq_true y27 with c34 | c34
   ·replace hz20 := Zv c34 hz20
    try rw [c34] at c33
    obtain ⟨y28, hy28, hz20⟩ := bC hz20
    obtain ⟨y29, hy29, hz20⟩ := bC hz20
    rcases Bool.eq_false_or_eq_true (decide (y28 ≤ y29.Depth)) with c35 | c35
    ·replace hz20 := Zv c35 hz20
     try rw [c35] at c33
     try rw [c35] at c34
     obtain ⟨y30, hy30, hz20⟩ := bC hz20
     rcases Bool.eq_false_or_eq_true (y30 == y6.1) with c36 | c36
     ·replace hz20 := Zv c36 hz20
      try rw [c36] at c33
      try rw [c36] at c34
      try rw [c36] at c35
      obtain ⟨y31, hy31, hz20⟩ := bC hz20
      rcases Bool.eq_false_or_eq_true (decide (y6.1 ≤ y31.Weight)) with c37 | c37
      ·replace hz20 := Zv c37 hz20
       try rw [c37] at c33
       try rw [c37] at c34
       try rw [c37] at c35
       try rw [c37] at c36
       obtain ⟨y32, hy32, hz20⟩ := bC hz20
       refine Xd Zc (by kernel_rfl) [some true, some true, some true, some true, some true, some true, some true, some true, some true, some true, some true, some true, some true, some true, some true, some true, some true, some true] (by kernel_rfl) ?_
       simp only [push_cast, seval, ↓reduceIte, Za, c33, c34, c35, c36, c37, hN0, hN]
       refine PCall.of (Jg hy27) ?_
       simp only [push_cast, seval, ↓reduceIte, Za, c33, c34, c35, c36, c37, hN0, hN]
       refine PCall.of (Ky hy28) ?_
       simp only [push_cast, seval, ↓reduceIte, Za, c33, c34, c35, c36, c37, hN0, hN]
       refine PCall.of (Ja hy29) ?_
       simp only [push_cast, seval, ↓reduceIte, Za, c33, c34, c35, c36, c37, hN0, hN]
       refine PCall.of (Vz hy30) ?_
       simp only [push_cast, seval, ↓reduceIte, Za, c33, c34, c35, c36, c37, hN0, hN]
       refine PCall.of (Ja hy31) ?_
       simp only [push_cast, seval, ↓reduceIte, Za, c33, c34, c35, c36, c37, hN0, hN]
       refine PCall.of (Zbe hy32) ?_
       simp only [push_cast, seval, ↓reduceIte, Za, c33, c34, c35, c36, c37, hN0, hN]
       have hz20 := Option.some.inj hz20; subst hz20
       refine And.intro rfl (Fit2.of (Zs hU rfl rfl ?_) (by omega))
       simp only [push_cast, seval, ↓reduceIte, Za, c33, c34, c35, c36, c37, hN0, hN]
      replace hz20 := Zu c37 hz20
      try rw [c37] at c33
      try rw [c37] at c34
      try rw [c37] at c35
      try rw [c37] at c36
      refine Xd Zc (by kernel_rfl) [some true, some true, some true, some true, some true, some true, some true, some true, some true, some true, some true, some true, some true, some true, some true, some true, some true, some false] (by kernel_rfl) ?_
      simp only [push_cast, seval, ↓reduceIte, Za, c33, c34, c35, c36, c37, hN0, hN]
      refine PCall.of (Jg hy27) ?_
      simp only [push_cast, seval, ↓reduceIte, Za, c33, c34, c35, c36, c37, hN0, hN]
      refine PCall.of (Ky hy28) ?_
      simp only [push_cast, seval, ↓reduceIte, Za, c33, c34, c35, c36, c37, hN0, hN]
      refine PCall.of (Ja hy29) ?_
      simp only [push_cast, seval, ↓reduceIte, Za, c33, c34, c35, c36, c37, hN0, hN]
      refine PCall.of (Vz hy30) ?_
      simp only [push_cast, seval, ↓reduceIte, Za, c33, c34, c35, c36, c37, hN0, hN]
      refine PCall.of (Ja hy31) ?_
      simp only [push_cast, seval, ↓reduceIte, Za, c33, c34, c35, c36, c37, hN0, hN]
      have hz20 := Option.some.inj hz20; subst hz20
      refine And.intro rfl (Fit2.of (Zs hU rfl rfl ?_) (by omega))
      simp only [push_cast, seval, ↓reduceIte, Za, c33, c34, c35, c36, c37, hN0, hN]
     replace hz20 := Zu c36 hz20
     try rw [c36] at c33
     try rw [c36] at c34
     try rw [c36] at c35
     refine Xd Zc (by kernel_rfl) [some true, some true, some true, some true, some true, some true, some true, some true, some true, some true, some true, some true, some false, some false, some false, some false, some false, some false] (by kernel_rfl) ?_
     simp only [push_cast, seval, ↓reduceIte, Za, c33, c34, c35, c36, hN0, hN]
     refine PCall.of (Jg hy27) ?_
     simp only [push_cast, seval, ↓reduceIte, Za, c33, c34, c35, c36, hN0, hN]
     refine PCall.of (Ky hy28) ?_
     simp only [push_cast, seval, ↓reduceIte, Za, c33, c34, c35, c36, hN0, hN]
     refine PCall.of (Ja hy29) ?_
     simp only [push_cast, seval, ↓reduceIte, Za, c33, c34, c35, c36, hN0, hN]
     refine PCall.of (Vz hy30) ?_
     simp only [push_cast, seval, ↓reduceIte, Za, c33, c34, c35, c36, hN0, hN]
     have hz20 := Option.some.inj hz20; subst hz20
     refine And.intro rfl (Fit2.of (Zs hU rfl rfl ?_) (by omega))
     simp only [push_cast, seval, ↓reduceIte, Za, c33, c34, c35, c36, hN0, hN]
    replace hz20 := Zu c35 hz20
    try rw [c35] at c33
    try rw [c35] at c34
    refine Xd Zc (by kernel_rfl) [some true, some true, some true, some true, some true, some true, some true, some true, some false, some false, some false, some false, some false, some false, some false, some false, some false, some false] (by kernel_rfl) ?_
    simp only [push_cast, seval, ↓reduceIte, Za, c33, c34, c35, hN0, hN]
    refine PCall.of (Jg hy27) ?_
    simp only [push_cast, seval, ↓reduceIte, Za, c33, c34, c35, hN0, hN]
    refine PCall.of (Ky hy28) ?_
    simp only [push_cast, seval, ↓reduceIte, Za, c33, c34, c35, hN0, hN]
    refine PCall.of (Ja hy29) ?_
    simp only [push_cast, seval, ↓reduceIte, Za, c33, c34, c35, hN0, hN]
    have hz20 := Option.some.inj hz20; subst hz20
    refine And.intro rfl (Fit2.of (Zs hU rfl rfl ?_) (by omega))
    simp only [push_cast, seval, ↓reduceIte, Za, c33, c34, c35, hN0, hN]
   replace hz20 := Zu c34 hz20
   try rw [c34] at c33
   refine Xd Zc (by kernel_rfl) [some true, some true, some false, some false, some false, some false, some false, some false, some false, some false, some false, some false, some false, some false, some false, some false, some false, some false] (by kernel_rfl) ?_
   simp only [push_cast, seval, ↓reduceIte, Za, c33, c34, hN0, hN]
   refine PCall.of (Jg hy27) ?_
   simp only [push_cast, seval, ↓reduceIte, Za, c33, c34, hN0, hN]
   have hz20 := Option.some.inj hz20; subst hz20
   refine And.intro rfl (Fit2.of (Zs hU rfl rfl ?_) (by omega))
   simp only [push_cast, seval, ↓reduceIte, Za, c33, c34, hN0, hN]
  replace hz20 := Zu c33 hz20
  refine Xd Zc (by kernel_rfl) [some false, some false, some false, some false, some false, some false, some false, some false, some false, some false, some false, some false, some false, some false, some false, some false, some false, some false] (by kernel_rfl) ?_
  simp only [push_cast, seval, ↓reduceIte, Za, c33, hN0, hN]
  have hz20 := Option.some.inj hz20; subst hz20
  refine And.intro rfl (Fit2.of (Zs hU rfl rfl ?_) (by omega))
  simp only [push_cast, seval, ↓reduceIte, Za, c33, hN0, hN]
 refine Zt ?_
 try simp only [Zi, Zf]
 have h := Option.some.inj h; subst h
 refine Zl (.inr rfl) hU [.val (.bool z20)] (by omega) ?_
 simp only [push_cast, seval, ↓reduceIte, Za, Try.results7, hN0, hN]
end Go.Proofs.Ytmlhokaflhlhbaa
