/- Part VM2 of this seat's mirrors: functions of the seat's program, and the plain functions that they are; each theorem bears its own conditions. -/
import Derived.Test.YtmlhokaflhlhbaaVE
import Derived.Test.YtmlhokaflhlhbaaVM1
namespace Go.Proofs.Ytmlhokaflhlhbaa
open Go.RowKit
set_option linter.unusedVariables false
set_option linter.unusedSimpArgs false
set_option maxRecDepth 100000
set_option maxHeartbeats 4000000
attribute [local push_cast] Yg Zz Zn Yh Zp Zi3 Zi2 Zjs Zjr Zi Zf Zfx Zb2 Zb1 onW Yw U1 Ua Zi8 Zh6 Zed Zei Zec Zeh Zgx Zgu Zeg Zgw Zgv Zee Zgs Zcm evS wok Xi Op.operands Call.operands gop onK onP atK List.all_cons List.all_nil Bool.and_true Bool.true_and Bool.and_self Value.oneCell' List.take_zero List.take_succ_cons List.take_nil List.drop_zero List.drop_succ_cons List.drop_nil List.append_nil Nat.add_zero Nat.zero_add J8 Z8 ev Xn Zoq Ziu Zit Ziz Zix Ziy Ziv Ziw Zis Zlf Zl4 Zor Zdb Uf Zc3 Ut Zds Zba Zah Zam Zbx Zbu Zak Zbw Zbv Zaj Zbs Zai Zal U8 Zbt Zfz Zb3 Vh Zc4 Vi Zep Zda Zmy bLo bHi bMx Ug Zeo Zpy Zc9 Ze6 Zad Ki Zlu Zp2 Zc1 Zp6 Ue Zq6 Zf4 Zf8 Zf3 Zf7 Zje Zjb Zi9 Zdw Zf5 Zjd Zjc Zf6 Zja Zeq Zi4 Zgl Zch Zcg pop TK.isAgg Zjl Zjp Zjk Zjo Zgf Znf Znc Zjn Zne Znd Zjm Znb G.under G.unders List.getD_cons_zero List.getD_cons_succ List.set_cons_zero List.set_cons_succ List.map_cons List.map_nil List.toList_toArray Array.toList_append Option.toArray_none Option.toArray_some Array.toList_map Option.map_some Option.map_none Option.bind_some Option.bind_none List.getElem?_cons_zero List.getElem?_cons_succ List.getElem?_nil List.nil_append List.cons_append List.replicate_succ List.replicate_zero List.length_cons List.length_nil and_true true_and and_false false_and Bool.true_eq_false Bool.false_eq_true forall_const false_implies implies_true IntKind.bits if_true if_false ite_true ite_false eq_self true_implies false_or or_false or_true true_or not_true_eq_false not_false_eq_true decide_true decide_false decide_eq_true_eq decide_eq_false_iff_not beq_iff_eq bne_iff_ne ne_eq Bool.not_eq_true Bool.not_eq_false beq_eq_false_iff_ne bne_eq_false_iff_eq beq_self_eq_true bne_self_eq_false Option.some.injEq exists_eq_left' exists_eq_left ge_iff_le gt_iff_lt decide_not Bool.not_true Bool.not_false imp_self Zm0 cond_true cond_false Zvz Zvy Bool.not_not Bool.and_false Bool.false_and Bool.or_true Bool.true_or Bool.or_false Bool.false_or V9 Zem Zc0 Zbq Zae Uz Option.join_some Nat.add_assoc Int.toNat_natCast eI eB eS eL Zby Zbk Zas Zi7 Zi5 Zi6 Zrk Ztn Zbm Zaz Zjz Zjx Zjy Zoz Zfw Zmr Zgq Zmq Gu Zle List.length_append G.agg.injEq G.row.injEq G.ref.injEq G.val.injEq G.sl.injEq G.tup.injEq Value.int.injEq Value.bool.injEq Value.string.injEq List.cons.injEq exists_and_left exists_const List.flatten_cons List.flatten_nil Int.le_refl Nat.le_refl Zhg Kh Zfr Bool.not_eq_true' Bool.not_eq_false' Zla Zcs Zoj Zon Zoi Zom Zsy Zsu List.size_toArray Zj1 Zj2 G.ren G.rens Zl6 Zbc Zj5 Zip Ziq Zgt Zoo Zcb G.fn.injEq Zej Zhj Zk8 Zsv Zhi Zol Zsx Zsw Zok Zm6 Zrf Option.join_none Xh Vg undef Ze7 Arr.len Arr.put_eq Zbl Zd1 Zcc Zay Zjw Zju Zjv onB Zrj Zls Zgr Zfh Zfi Zfj Zfk Zfl Zfm Zdz Zd5 Zd3 Zcf Za0 Zd4 Zgk Zgj Zgi Zgh Ztm Zvc Zoy Znh Qw Zot Zjf Zd7 Zce Zqd Zj7 Zc8 Ze5 Gj Zd8 Zfn Zfo Zfp Zfq Zdg Zdh Zdi Zdj Zdk Zdl Zdm Zan prT Gc Zw4 Zn6 Zvn Zn7 Zw5 Zn8 Zw6 Zn9 Zw7 Zoa Zw8 Zob Zw9 Zoc Zxa Zod Zrv Zj8 Zrw Zj9 Zrx Zka Zry Zkb Zrz Zkc Zr0 Zkd Zr1 Zke Zr2 Zkf Zr3 Zkg Zr4 Zkh Zr5 Zki Zr6 Zkj Zr7 Zkk Zr8 Zhu Zr9 Zkl Zsa Zkm Zsb Zkn Gp Zko Zsc Zkp Zsd Zkq Gs Zc7 Zse Zkr Zsf Zks Zsg Zkt Zsh Zku Zl3 Zkv Zsi Zkw Zsj Zkx Zsk Zky Zsl Zkz Zsm Zk0 Zsn Zk1 Zso Zk2 Zsp Zk3 Zsq Zk4 Zsr Zk5 Zss Zk6 Znp Zgz Znq Zg0 Znr Zg1 Zns Zg2 Znt Zg3 Znu Zg4 Znv Zg5 Znw Zg6 Znx Zg7 Zny Zg8 Znz Zg9 Zn0 Zha Zn1 Zhb Zn2 Zhc Zn3 Zhd Zn4 Zhe Zn5 Zhf Zcu Zcr Zb6 Zca Zcx Za9 Za6 Za4 Zco Up Uo Uh Ul Uq V2 V1 V0 Un Zk Jk Jj Jd Jh Jl Q2 Q1 Q0 Ji Zap Zct Zcq Zb5 Zb9 Zcw Za8 Za5 Za3 Zcn Zao Vu Jv Jw X3 Z3 Ql Qk Qh Qi Qm Qa X8 X7 Qj Zw Jo Vc Vb K0 K6 Vd Ks Kq Kp K9
theorem Zbf {a0 : Int} {r : Int} {O : Objs} {n : Nat} (h : Qq a0 = some r) : GTo Try.prog 56 [.val (.int .i64 a0)] O n (.val (.int .i64 r)) O n := by
 unfold Qq at h
 refine Yn Zc Try.call56 Try.func56 rfl (Nat.le_of_ble_eq_true rfl) (Nat.le_refl _) fun hU => ?_
 have hN0 : O n = none := hU.fresh _ (Nat.le_refl _)
 have hN : ∀ k, O (n + k) = none := fun k => hU.fresh _ (Nat.le_add_right _ _)
 show W _ _ _ _ ⟨16, [], [(0, .val (.int .i64 a0))]⟩ (Z4 O n []) _
 refine Zq [0] (Zb Zc [] ?_)
 simp only [push_cast, seval, ↓reduceIte, Za, hN0, hN]
 refine Zh ?_
 refine Zq [3] (Zb Zc [] ?_)
 simp only [push_cast, seval, ↓reduceIte, Za, hN0, hN]
 refine Xc ?_
 refine Zq [3, 4] (Zb Zc [] ?_)
 simp only [push_cast, seval, ↓reduceIte, Za, hN0, hN]
 refine Zr (t := (a0 == 0)) rfl (fun c6 => ?_) (fun c6 => ?_)
 ·replace h := Zv c6 h
  refine Zq [2] (Zb Zc [] ?_)
  simp only [push_cast, seval, ↓reduceIte, Za, hN0, hN]
  refine Zt ?_
  try simp only [Zi, Zf]
  have h := Option.some.inj h; subst h
  refine Zl (.inr rfl) hU [.val (.int .i64 0)] (by omega) ?_
  simp only [push_cast, seval, ↓reduceIte, Za, Try.results56, hN0, hN]
 replace h := Zu c6 h
 refine Zq [3, 6] (Zb Zc [] ?_)
 simp only [push_cast, seval, ↓reduceIte, Za, hN0, hN]
 refine Zr (t := (a0 == 1)) rfl (fun c5 => ?_) (fun c5 => ?_)
 ·replace h := Zv c5 h
  refine Zq [2] (Zb Zc [] ?_)
  simp only [push_cast, seval, ↓reduceIte, Za, hN0, hN]
  refine Zt ?_
  try simp only [Zi, Zf]
  have h := Option.some.inj h; subst h
  refine Zl (.inr rfl) hU [.val (.int .i64 1)] (by omega) ?_
  simp only [push_cast, seval, ↓reduceIte, Za, Try.results56, hN0, hN]
 replace h := Zu c5 h
 refine Zq [3, 8] (Zb Zc [] ?_)
 simp only [push_cast, seval, ↓reduceIte, Za, hN0, hN]
 refine Zr (t := (a0 == 2)) rfl (fun c4 => ?_) (fun c4 => ?_)
 ·replace h := Zv c4 h
  refine Zq [2] (Zb Zc [] ?_)
  simp only [push_cast, seval, ↓reduceIte, Za, hN0, hN]
  refine Zt ?_
  try simp only [Zi, Zf]
  have h := Option.some.inj h; subst h
  refine Zl (.inr rfl) hU [.val (.int .i64 8)] (by omega) ?_
  simp only [push_cast, seval, ↓reduceIte, Za, Try.results56, hN0, hN]
 replace h := Zu c4 h
 refine Zq [3, 10] (Zb Zc [] ?_)
 simp only [push_cast, seval, ↓reduceIte, Za, hN0, hN]
 refine Zr (t := (a0 == 3)) rfl (fun c3 => ?_) (fun c3 => ?_)
 ·replace h := Zv c3 h
  refine Zq [2] (Zb Zc [] ?_)
  simp only [push_cast, seval, ↓reduceIte, Za, hN0, hN]
  refine Zt ?_
  try simp only [Zi, Zf]
  have h := Option.some.inj h; subst h
  refine Zl (.inr rfl) hU [.val (.int .i64 16)] (by omega) ?_
  simp only [push_cast, seval, ↓reduceIte, Za, Try.results56, hN0, hN]
 replace h := Zu c3 h
 refine Zq [3, 12] (Zb Zc [] ?_)
 simp only [push_cast, seval, ↓reduceIte, Za, hN0, hN]
 refine Zr (t := (a0 == 4)) rfl (fun c2 => ?_) (fun c2 => ?_)
 ·replace h := Zv c2 h
  refine Zq [2] (Zb Zc [] ?_)
  simp only [push_cast, seval, ↓reduceIte, Za, hN0, hN]
  refine Zt ?_
  try simp only [Zi, Zf]
  have h := Option.some.inj h; subst h
  refine Zl (.inr rfl) hU [.val (.int .i64 32)] (by omega) ?_
  simp only [push_cast, seval, ↓reduceIte, Za, Try.results56, hN0, hN]
 replace h := Zu c2 h
 refine Zq [14] (Zb Zc [] ?_)
 simp only [push_cast, seval, ↓reduceIte, Za, hN0, hN]
 refine Zr (t := (a0 == 5)) rfl (fun c1 => ?_) (fun c1 => ?_)
 ·replace h := Zv c1 h
  refine Zq [2] (Zb Zc [] ?_)
  simp only [push_cast, seval, ↓reduceIte, Za, hN0, hN]
  refine Zt ?_
  try simp only [Zi, Zf]
  have h := Option.some.inj h; subst h
  refine Zl (.inr rfl) hU [.val (.int .i64 64)] (by omega) ?_
  simp only [push_cast, seval, ↓reduceIte, Za, Try.results56, hN0, hN]
 replace h := Zu c1 h
 refine Zx ?_
 try simp only [Zi, Zf]
 refine Zg [] [] ?_
 simp only [push_cast, seval, ↓reduceIte]
 refine Zq [2] (Zb Zc [] ?_)
 simp only [push_cast, seval, ↓reduceIte, Za, hN0, hN]
 refine Zt ?_
 try simp only [Zi, Zf]
 have h := Option.some.inj h; subst h
 refine Zl (.inr rfl) hU [.val (.int .i64 (-1))] (by omega) ?_
 simp only [push_cast, seval, ↓reduceIte, Za, Try.results56, hN0, hN]
theorem Zb7 {a0 : Int} {a1 : Int} {r : Bool} {O : Objs} {n : Nat} (h : Q6 a0 a1 = some r) : GTo Try.prog 58 [.val (.int .i64 a0), .val (.int .u64 a1)] O n (.val (.bool r)) O n := by
 unfold Q6 at h
 refine Yn Zc Try.call58 Try.func58 rfl (Nat.le_of_ble_eq_true rfl) (Nat.le_refl _) fun hU => ?_
 have hN0 : O n = none := hU.fresh _ (Nat.le_refl _)
 have hN : ∀ k, O (n + k) = none := fun k => hU.fresh _ (Nat.le_add_right _ _)
 show W _ _ _ _ ⟨20, [], [(0, .val (.int .i64 a0)), (1, .val (.int .u64 a1))]⟩ (Z4 O n []) _
 refine Zq [0, 1] (Zb Zc [] ?_)
 simp only [push_cast, seval, ↓reduceIte, Za, hN0, hN]
 refine Zh ?_
 obtain ⟨y2, hy2, h⟩ := bC h
 refine Zb Zc [] ?_
 simp only [push_cast, seval, ↓reduceIte, Za, hN0, hN]
 refine (Zbf hy2).then ?_
 simp only [push_cast, seval, ↓reduceIte, Za, hN0, hN]
 refine Zg [1, 5] [] ?_
 simp only [push_cast, seval, ↓reduceIte]
 refine Zh ?_
 refine Zq [1, 5, 10] (Zb Zc [] ?_)
 simp only [push_cast, seval, ↓reduceIte, Za, hN0, hN]
 refine Zr (t := (decide (y2 < 0))) rfl (fun c5 => ?_) (fun c5 => ?_)
 ·replace h := Zv c5 h
  refine Zq [4] (Zb Zc [] ?_)
  simp only [push_cast, seval, ↓reduceIte, Za, hN0, hN]
  refine Zt ?_
  try simp only [Zi, Zf]
  have h := Option.some.inj h; subst h
  refine Zl (.inr rfl) hU [.val (.bool false)] (by omega) ?_
  simp only [push_cast, seval, ↓reduceIte, Za, Try.results58, hN0, hN]
 replace h := Zu c5 h
 refine Zx ?_
 try simp only [Zi, Zf]
 refine Zg [1, 5] [] ?_
 simp only [push_cast, seval, ↓reduceIte]
 refine Zh ?_
 refine Zq [1, 5, 6] (Zb Zc [] ?_)
 simp only [push_cast, seval, ↓reduceIte, Za, hN0, hN]
 refine Zg [1, 5, 6] [] ?_
 simp only [push_cast, seval, ↓reduceIte]
 obtain ⟨z4, hz4, h⟩ := bC h
 refine Kz (E' := ⟨20, [], [(1, .val (.int .u64 z4))]⟩) (O' := (Z4 O n [])) (n0 := n) ?_ ?_
 ·refine V4 hz4 (fun s0_ => ⟨20, [], [(1, .val (.int .u64 s0_.1)), (5, .val (.int .i64 y2)), (6, .val (.int .i64 s0_.2))]⟩) (fun s0_ => (Z4 O n [])) (fun z4 => JX 0 n (⟨20, [], [(1, .val (.int .u64 z4))]⟩ : Env) (Z4 O n []) n) ?_
  intro s0_ x0_ hs0_
  unfold Yy at hs0_
  try dsimp only
  refine Zh ?_
  refine Zq [1, 5, 6, 13] (Zb Zc [] ?_)
  simp only [push_cast, seval, ↓reduceIte, Za, hN0, hN]
  refine Zr (t := (decide (s0_.2 < y2))) rfl (fun c3 => ?_) (fun c3 => ?_)
  ·replace hs0_ := Zv c3 hs0_
   refine Zx ?_
   try simp only [Zi, Zf]
   refine Zg [1, 5, 6] [] ?_
   simp only [push_cast, seval, ↓reduceIte]
   refine Zh ?_
   refine Xc ?_
   refine Zb Zc [] ?_
   simp only [push_cast, seval, ↓reduceIte, Za, hN0, hN]
   refine Zg [1, 5, 6] [] ?_
   simp only [push_cast, seval, ↓reduceIte]
   refine Zb Zc [] ?_
   simp only [push_cast, seval, ↓reduceIte, Za, hN0, hN]
   have hs0_ := Option.some.inj hs0_; subst hs0_
   refine And.intro rfl (Fit2.of (Zs hU rfl rfl ?_) (by omega))
   simp only [push_cast, seval, ↓reduceIte, Za, hN0, hN]
  replace hs0_ := Zu c3 hs0_
  refine Gt ?_
  try simp only [Zi, Zf, ↓reduceIte, Nat.reduceEqDiff]
  have hs0_ := Option.some.inj hs0_; subst hs0_
  refine And.intro (fun h => by cases h) (And.intro rfl (Fit2.of (Zs hU rfl rfl ?_) (by omega)))
  simp only [push_cast, seval, ↓reduceIte, Za, hN0, hN]
 try simp only [Zi, Zf, ↓reduceIte, Nat.reduceEqDiff]
 refine Zg [1] [] ?_
 simp only [push_cast, seval, ↓reduceIte]
 refine Zq [4] (Zb Zc [] ?_)
 simp only [push_cast, seval, ↓reduceIte, Za, hN0, hN]
 refine Zt ?_
 try simp only [Zi, Zf]
 have h := Option.some.inj h; subst h
 refine Zl (.inr rfl) hU [.val (.bool (z4 == 0))] (by omega) ?_
 simp only [push_cast, seval, ↓reduceIte, Za, Try.results58, hN0, hN]
theorem Kl {a0 : (List (List Int))} {a1 : Int} {a2 : Int} {r : Bool} {O : Objs} {n : Nat} (h : Xx a0 a1 a2 = some r) : GTo Try.prog 75 [.sl a0.length (fl (eL (eI .u64)) a0), .val (.int .i64 a1), .val (.int .i64 a2)] O n (.val (.bool r)) O n := by
 unfold Xx at h
 refine Yn Zc Try.call75 Try.func75 rfl (Nat.le_of_ble_eq_true rfl) (Nat.le_refl _) fun hU => ?_
 have hN0 : O n = none := hU.fresh _ (Nat.le_refl _)
 have hN : ∀ k, O (n + k) = none := fun k => hU.fresh _ (Nat.le_add_right _ _)
 show W _ _ _ _ ⟨28, [], [(0, .sl a0.length (fl (eL (eI .u64)) a0)), (1, .val (.int .i64 a1)), (2, .val (.int .i64 a2))]⟩ (Z4 O n []) _
 refine Zq [0, 1, 2] (Zb Zc [] ?_)
 simp only [push_cast, seval, ↓reduceIte, Za, hN0, hN]
 obtain ⟨z2, hz2, h⟩ := bC h
 refine Qn (E' := ⟨28, [], [(6, .val (.bool z2))]⟩) (O' := (Z4 O n [])) (n0 := n) ?_ ?_
 ·rcases Bool.eq_false_or_eq_true (decide (0 ≤ a1)) with c5 | c5
  ·replace hz2 := Zv c5 hz2
   rcases Bool.eq_false_or_eq_true (decide (a1 < (a0.length : Int))) with c6 | c6
   ·replace hz2 := Zv c6 hz2
    try rw [c6] at c5
    rcases Bool.eq_false_or_eq_true (decide (0 ≤ a2)) with c7 | c7
    ·replace hz2 := Zv c7 hz2
     try rw [c7] at c5
     try rw [c7] at c6
     obtain ⟨x4, hx4, ax4, bx4, cx4, hz2⟩ := bE (f := (eL (eI .u64))) Gs (fun _ => rfl) (by decide) hz2
     refine Zb Zc [none, none, none, none, none, none, some true, some true, some true, some true, some true, some true, some true] ?_
     simp only [push_cast, Nat.reduceAdd, Nat.reduceSub, Nat.reduceMul, Nat.reduceLeDiff, Nat.reduceLT, Nat.reduceEqDiff, ↓reduceIte, reduceCtorEq, Int.reduceBEq, Int.reduceBNe, Nat.reduceBEq, Int.reduceLE, Int.reduceLT, Int.reduceEq, Int.reduceNe, Int.reduceNeg, Nat.reduceDiv, Nat.reduceMod, Nat.reducePow, Za, c5, c6, c7, ax4, bx4, cx4, hN0, hN]
     repeat (with_reducible refine And.intro (by first | (intro h0; simp only [h0, and_self]; done) | (intro h0; simp only [h0, Bool.not_false, Bool.not_true, Bool.true_and, Bool.and_true, true_and, and_true, and_self, imp_self, implies_true, bne_iff_ne, ne_eq, beq_iff_eq]; done) | (intros; simp_all; done) | exact True.intro) ?_)
     have hz2 := Option.some.inj hz2; subst hz2
     refine And.intro rfl (Fit2.of (Zs hU rfl rfl ?_) (by omega))
     simp only [push_cast, Nat.reduceAdd, Nat.reduceSub, Nat.reduceMul, Nat.reduceLeDiff, Nat.reduceLT, Nat.reduceEqDiff, ↓reduceIte, reduceCtorEq, Int.reduceBEq, Int.reduceBNe, Nat.reduceBEq, Int.reduceLE, Int.reduceLT, Int.reduceEq, Int.reduceNe, Int.reduceNeg, Nat.reduceDiv, Nat.reduceMod, Nat.reducePow, Za, c5, c6, c7, ax4, bx4, cx4, hN0, hN]
    replace hz2 := Zu c7 hz2
    try rw [c7] at c5
    try rw [c7] at c6
    refine Zb Zc [none, none, none, none, none, none, some false, some false, some false, some false, some false, some false, some false] ?_
    simp only [push_cast, seval, ↓reduceIte, Za, c5, c6, c7, hN0, hN]
    repeat (with_reducible refine And.intro (by first | (intro h0; simp only [h0, and_self]; done) | (intro h0; simp only [h0, Bool.not_false, Bool.not_true, Bool.true_and, Bool.and_true, true_and, and_true, and_self, imp_self, implies_true, bne_iff_ne, ne_eq, beq_iff_eq]; done) | (intros; simp_all; done) | exact True.intro) ?_)
    have hz2 := Option.some.inj hz2; subst hz2
    refine And.intro rfl (Fit2.of (Zs hU rfl rfl ?_) (by omega))
    simp only [push_cast, seval, ↓reduceIte, Za, c5, c6, c7, hN0, hN]
   replace hz2 := Zu c6 hz2
   try rw [c6] at c5
   refine Zb Zc [none, none, none, none, none, none, some false, some false, some false, some false, some false, some false, some false] ?_
   simp only [push_cast, seval, ↓reduceIte, Za, c5, c6, hN0, hN]
   repeat (with_reducible refine And.intro (by first | (intro h0; simp only [h0, and_self]; done) | (intro h0; simp only [h0, Bool.not_false, Bool.not_true, Bool.true_and, Bool.and_true, true_and, and_true, and_self, imp_self, implies_true, bne_iff_ne, ne_eq, beq_iff_eq]; done) | (intros; simp_all; done) | exact True.intro) ?_)
   have hz2 := Option.some.inj hz2; subst hz2
   refine And.intro rfl (Fit2.of (Zs hU rfl rfl ?_) (by omega))
   simp only [push_cast, seval, ↓reduceIte, Za, c5, c6, hN0, hN]
  replace hz2 := Zu c5 hz2
  refine Zb Zc [none, none, none, none, none, none, some false, some false, some false, some false, some false, some false, some false] ?_
  simp only [push_cast, seval, ↓reduceIte, Za, c5, hN0, hN]
  repeat (with_reducible refine And.intro (by first | (intro h0; simp only [h0, and_self]; done) | (intro h0; simp only [h0, Bool.not_false, Bool.not_true, Bool.true_and, Bool.and_true, true_and, and_true, and_self, imp_self, implies_true, bne_iff_ne, ne_eq, beq_iff_eq]; done) | (intros; simp_all; done) | exact True.intro) ?_)
  have hz2 := Option.some.inj hz2; subst hz2
  refine And.intro rfl (Fit2.of (Zs hU rfl rfl ?_) (by omega))
  simp only [push_cast, seval, ↓reduceIte, Za, c5, hN0, hN]
 refine Zt ?_
 try simp only [Zi, Zf]
 have h := Option.some.inj h; subst h
 refine Zl (.inr rfl) hU [.val (.bool z2)] (by omega) ?_
 simp only [push_cast, seval, ↓reduceIte, Za, Try.results75, hN0, hN]
theorem Yt {a0 : Int} {a1 : Int} {a2 : Int} {r : Int} {O : Objs} {n : Nat} (h : Z0 a0 a1 a2 = some r) : GTo Try.prog 78 [.val (.int .u64 a0), .val (.int .i64 a1), .val (.int .i64 a2)] O n (.val (.int .i64 r)) O n := by
 unfold Z0 at h
 refine Yn Zc Try.call78 Try.func78 rfl (Nat.le_of_ble_eq_true rfl) (Nat.le_refl _) fun hU => ?_
 have hN0 : O n = none := hU.fresh _ (Nat.le_refl _)
 have hN : ∀ k, O (n + k) = none := fun k => hU.fresh _ (Nat.le_add_right _ _)
 show W _ _ _ _ ⟨34, [], [(0, .val (.int .u64 a0)), (1, .val (.int .i64 a1)), (2, .val (.int .i64 a2))]⟩ (Z4 O n []) _
 refine Zq [0, 1, 2] (Zb Zc [] ?_)
 simp only [push_cast, seval, ↓reduceIte, Za, hN0, hN]
 refine Zh ?_
 refine Zq [0, 1, 2, 7] (Zb Zc [] ?_)
 simp only [push_cast, seval, ↓reduceIte, Za, hN0, hN]
 refine Zg [0, 1, 2, 7] [] ?_
 simp only [push_cast, seval, ↓reduceIte]
 obtain ⟨z2, hz2, h⟩ := bC h
 refine Kz (E' := ⟨34, [], [(0, .val (.int .u64 z2)), (2, .val (.int .i64 a2))]⟩) (O' := (Z4 O n [])) (n0 := n) ?_ ?_
 ·refine V4 hz2 (fun s0_ => ⟨34, [], [(0, .val (.int .u64 s0_.1)), (1, .val (.int .i64 a1)), (2, .val (.int .i64 a2)), (7, .val (.int .i64 s0_.2))]⟩) (fun s0_ => (Z4 O n [])) (fun z2 => JX 0 n (⟨34, [], [(0, .val (.int .u64 z2)), (2, .val (.int .i64 a2))]⟩ : Env) (Z4 O n []) n) ?_
  intro s0_ x0_ hs0_
  unfold J6 at hs0_
  try dsimp only
  refine Zh ?_
  refine Zq [0, 1, 2, 7, 13] (Zb Zc [] ?_)
  simp only [push_cast, seval, ↓reduceIte, Za, hN0, hN]
  refine Zr (t := (decide (s0_.2 < a1))) rfl (fun c1 => ?_) (fun c1 => ?_)
  ·replace hs0_ := Zv c1 hs0_
   refine Zx ?_
   try simp only [Zi, Zf]
   refine Zg [0, 1, 2, 7] [] ?_
   simp only [push_cast, seval, ↓reduceIte]
   refine Zh ?_
   refine Xc ?_
   refine Zb Zc [] ?_
   simp only [push_cast, seval, ↓reduceIte, Za, hN0, hN]
   refine Zg [0, 1, 2, 7] [] ?_
   simp only [push_cast, seval, ↓reduceIte]
   refine Zb Zc [] ?_
   simp only [push_cast, seval, ↓reduceIte, Za, hN0, hN]
   have hs0_ := Option.some.inj hs0_; subst hs0_
   refine And.intro rfl (Fit2.of (Zs hU rfl rfl ?_) (by omega))
   simp only [push_cast, seval, ↓reduceIte, Za, hN0, hN]
  replace hs0_ := Zu c1 hs0_
  refine Gt ?_
  try simp only [Zi, Zf, ↓reduceIte, Nat.reduceEqDiff]
  have hs0_ := Option.some.inj hs0_; subst hs0_
  refine And.intro (fun h => by cases h) (And.intro rfl (Fit2.of (Zs hU rfl rfl ?_) (by omega)))
  simp only [push_cast, seval, ↓reduceIte, Za, hN0, hN]
 try simp only [Zi, Zf, ↓reduceIte, Nat.reduceEqDiff]
 refine Zg [0, 2] [] ?_
 simp only [push_cast, seval, ↓reduceIte]
 refine Zq [0, 2, 8, 9] (Zb Zc [] ?_)
 simp only [push_cast, seval, ↓reduceIte, Za, hN0, hN]
 refine Zh ?_
 refine Zq [0, 2, 8, 9, 10] (Zb Zc [] ?_)
 simp only [push_cast, seval, ↓reduceIte, Za, hN0, hN]
 refine Zg [0, 2, 8, 9, 10] [] ?_
 simp only [push_cast, seval, ↓reduceIte]
 obtain ⟨z6, hz6, h⟩ := bC h
 refine Kz (E' := ⟨34, [], [(8, .val (.int .i64 z6))]⟩) (O' := (Z4 O n [])) (n0 := n) ?_ ?_
 ·refine V4 hz6 (fun s1_ => ⟨34, [], [(0, .val (.int .u64 s1_.1)), (2, .val (.int .i64 a2)), (8, .val (.int .i64 s1_.2.1)), (9, .val (.int .i64 s1_.2.2.1)), (10, .val (.int .i64 s1_.2.2.2))]⟩) (fun s1_ => (Z4 O n [])) (fun z6 => JX 2 n (⟨34, [], [(8, .val (.int .i64 z6))]⟩ : Env) (Z4 O n []) n) ?_
  intro s1_ x1_ hs1_
  unfold J7 at hs1_
  try dsimp only
  refine Zh ?_
  refine Zq [0, 2, 8, 9, 10, 20] (Zb Zc [] ?_)
  simp only [push_cast, seval, ↓reduceIte, Za, hN0, hN]
  refine Zr (t := (decide (s1_.2.2.2 < a2))) rfl (fun c5 => ?_) (fun c5 => ?_)
  ·replace hs1_ := Zv c5 hs1_
   refine Zx ?_
   try simp only [Zi, Zf]
   refine Zg [0, 2, 8, 9, 10] [] ?_
   simp only [push_cast, seval, ↓reduceIte]
   refine Zh ?_
   refine Xc ?_
   obtain ⟨z3, hz3, hs1_⟩ := bC hs1_
   refine Qn (E' := ⟨34, [], [(0, .val (.int .u64 s1_.1)), (2, .val (.int .i64 a2)), (8, .val (.int .i64 z3)), (9, .val (.int .i64 s1_.2.2.1)), (10, .val (.int .i64 s1_.2.2.2))]⟩) (O' := (Z4 O n [])) (n0 := n) ?_ ?_
   ·refine Zq [0, 2, 8, 9, 10, 25] (Zb Zc [] ?_)
    simp only [push_cast, seval, ↓reduceIte, Za, hN0, hN]
    refine Zr (t := ((Int.tmod s1_.1 2) == 1)) rfl (fun c4 => ?_) (fun c4 => ?_)
    ·replace hz3 := Zv c4 hz3
     refine Zb Zc [] ?_
     simp only [push_cast, seval, ↓reduceIte, Za, hN0, hN]
     have hz3 := Option.some.inj hz3; subst hz3
     refine And.intro rfl (Fit2.of (Zs hU rfl rfl ?_) (by omega))
     simp only [push_cast, seval, ↓reduceIte, Za, hN0, hN]
    replace hz3 := Zu c4 hz3
    refine Zx ?_
    try simp only [Zi, Zf]
    have hz3 := Option.some.inj hz3; subst hz3
    refine And.intro rfl (Fit2.of (Zs hU rfl rfl ?_) (by omega))
    simp only [push_cast, seval, ↓reduceIte, Za, hN0, hN]
   refine Zq [0, 2, 8, 9, 10] (Zb Zc [] ?_)
   simp only [push_cast, seval, ↓reduceIte, Za, hN0, hN]
   refine Zb Zc [] ?_
   simp only [push_cast, seval, ↓reduceIte, Za, hN0, hN]
   refine Zg [0, 2, 8, 9, 10] [] ?_
   simp only [push_cast, seval, ↓reduceIte]
   refine Zb Zc [] ?_
   simp only [push_cast, seval, ↓reduceIte, Za, hN0, hN]
   have hs1_ := Option.some.inj hs1_; subst hs1_
   refine And.intro rfl (Fit2.of (Zs hU rfl rfl ?_) (by omega))
   simp only [push_cast, seval, ↓reduceIte, Za, hN0, hN]
  replace hs1_ := Zu c5 hs1_
  refine Gt ?_
  try simp only [Zi, Zf, ↓reduceIte, Nat.reduceEqDiff]
  have hs1_ := Option.some.inj hs1_; subst hs1_
  refine And.intro (fun h => by cases h) (And.intro rfl (Fit2.of (Zs hU rfl rfl ?_) (by omega)))
  simp only [push_cast, seval, ↓reduceIte, Za, hN0, hN]
 try simp only [Zi, Zf, ↓reduceIte, Nat.reduceEqDiff]
 refine Zg [8] [] ?_
 simp only [push_cast, seval, ↓reduceIte]
 refine Zq [6] (Zb Zc [] ?_)
 simp only [push_cast, seval, ↓reduceIte, Za, hN0, hN]
 refine Zt ?_
 try simp only [Zi, Zf]
 have h := Option.some.inj h; subst h
 refine Zl (.inr rfl) hU [.val (.int .i64 z6)] (by omega) ?_
 simp only [push_cast, seval, ↓reduceIte, Za, Try.results78, hN0, hN]
theorem Xb {a0 : Int} {r : Z7} {O : Objs} {n : Nat} (h : Ym a0 = some r) : GTo Try.prog 51 [.val (.int .u64 a0)] O n (.agg (Yh r)) O n := by
 unfold Ym at h
 refine Yn Zc Try.call51 Try.func51 rfl (Nat.le_of_ble_eq_true rfl) (Nat.le_refl _) fun hU => ?_
 have hN0 : O n = none := hU.fresh _ (Nat.le_refl _)
 have hN : ∀ k, O (n + k) = none := fun k => hU.fresh _ (Nat.le_add_right _ _)
 show W _ _ _ _ ⟨42, [], [(0, .val (.int .u64 a0))]⟩ (Z4 O n []) _
 refine Zq [0, 2] (Zb Zc [] ?_)
 simp only [push_cast, seval, ↓reduceIte, Za, hN0, hN]
 refine Zh ?_
 refine Zq [0, 2, 5] (Zb Zc [] ?_)
 simp only [push_cast, seval, ↓reduceIte, Za, hN0, hN]
 refine Zr (t := (a0 == 0)) rfl (fun c24 => ?_) (fun c24 => ?_)
 ·replace h := Zv c24 h
  refine Zh ?_
  refine Zb Zc [] ?_
  simp only [push_cast, seval, ↓reduceIte, Za, hN0, hN]
  refine Zg [2] [true] ?_
  simp only [push_cast, seval, ↓reduceIte]
  refine Zt ?_
  try simp only [Zi, Zf]
  have h := Option.some.inj h; subst h
  refine Zl (.inr rfl) hU [.agg [.val (.int .i64 0), .val (.int .i64 0), .val (.int .i64 0), .val (.int .i64 0), .val (.int .i64 0), .val (.int .i64 0), .val (.int .i64 0), .val (.bool false)]] (by omega) ?_
  simp only [push_cast, seval, ↓reduceIte, Za, Try.results51, hN0, hN]
 replace h := Zu c24 h
 refine Zx ?_
 try simp only [Zi, Zf]
 refine Zg [0, 2] [true] ?_
 simp only [push_cast, seval, ↓reduceIte]
 refine Zh ?_
 obtain ⟨y2, hy2, h⟩ := bC h
 refine Zb Zc [] ?_
 simp only [push_cast, seval, ↓reduceIte, Za, hN0, hN]
 refine (Yt hy2).then ?_
 simp only [push_cast, seval, ↓reduceIte, Za, hN0, hN]
 refine Zg [0, 2, 3] [true] ?_
 simp only [push_cast, seval, ↓reduceIte]
 obtain ⟨z3, hz3, h⟩ := bC h
 refine Qn (E' := ⟨42, [], [(0, .val (.int .u64 a0)), (2, .ref n 0), (3, .val (.int .i64 z3))]⟩) (O' := (Z4 O n [some ⟨false, 89, 8, 1, [.val (.int .i64 0), .val (.int .i64 0), .val (.int .i64 0), .val (.int .i64 0), .val (.int .i64 0), .val (.int .i64 0), .val (.int .i64 0), .val (.bool false)]⟩])) (n0 := (n + 1)) ?_ ?_
 ·refine Zq [0, 2, 3, 10] (Zb Zc [] ?_)
  simp only [push_cast, seval, ↓reduceIte, Za, hN0, hN]
  refine Zr (t := (decide (536870912 ≤ y2))) rfl (fun c4 => ?_) (fun c4 => ?_)
  ·replace hz3 := Zv c4 hz3
   refine Zb Zc [] ?_
   simp only [push_cast, seval, ↓reduceIte, Za, hN0, hN]
   have hz3 := Option.some.inj hz3; subst hz3
   refine And.intro rfl (Fit2.of (Zs hU rfl rfl ?_) (by omega))
   simp only [push_cast, seval, ↓reduceIte, Za, hN0, hN]
  replace hz3 := Zu c4 hz3
  refine Zx ?_
  try simp only [Zi, Zf]
  have hz3 := Option.some.inj hz3; subst hz3
  refine And.intro rfl (Fit2.of (Zs hU rfl rfl ?_) (by omega))
  simp only [push_cast, seval, ↓reduceIte, Za, hN0, hN]
 refine Zh ?_
 refine Zh ?_
 obtain ⟨y6, hy6, h⟩ := bC h
 refine Zb Zc [] ?_
 simp only [push_cast, seval, ↓reduceIte, Za, hN0, hN]
 refine (Yt hy6).then ?_
 simp only [push_cast, seval, ↓reduceIte, Za, hN0, hN]
 refine Zg [0, 2, 3, 14] [true] ?_
 simp only [push_cast, seval, ↓reduceIte]
 refine Xc ?_
 refine Zq [0, 2, 3, 14, 15] (Zb Zc [] ?_)
 simp only [push_cast, seval, ↓reduceIte, Za, hN0, hN]
 refine Zr (t := (y6 == 0)) rfl (fun c23 => ?_) (fun c23 => ?_)
 ·replace h := Zv c23 h
  refine Zh ?_
  obtain ⟨y9, hy9, h⟩ := bC h
  obtain ⟨y10, hy10, h⟩ := bC h
  refine Zb Zc [] ?_
  simp only [push_cast, seval, ↓reduceIte, Za, hN0, hN]
  refine (Yt hy9).then ?_
  simp only [push_cast, seval, ↓reduceIte, Za, hN0, hN]
  refine (Yt hy10).then ?_
  simp only [push_cast, seval, ↓reduceIte, Za, hN0, hN]
  refine Zg [2] [true] ?_
  simp only [push_cast, seval, ↓reduceIte]
  refine Zt ?_
  try simp only [Zi, Zf]
  have h := Option.some.inj h; subst h
  refine Zl (.inr rfl) hU [.agg [.val (.int .i64 1), .val (.int .i64 z3), .val (.int .i64 y9), .val (.int .i64 y10), .val (.int .i64 0), .val (.int .i64 0), .val (.int .i64 0), .val (.bool false)]] (by omega) ?_
  simp only [push_cast, seval, ↓reduceIte, Za, Try.results51, hN0, hN]
 replace h := Zu c23 h
 refine Zq [0, 2, 3, 14, 23] (Zb Zc [] ?_)
 simp only [push_cast, seval, ↓reduceIte, Za, hN0, hN]
 refine Zr (t := (y6 == 1)) rfl (fun c22 => ?_) (fun c22 => ?_)
 ·replace h := Zv c22 h
  refine Zh ?_
  obtain ⟨y13, hy13, h⟩ := bC h
  obtain ⟨y14, hy14, h⟩ := bC h
  refine Zb Zc [] ?_
  simp only [push_cast, seval, ↓reduceIte, Za, hN0, hN]
  refine (Yt hy13).then ?_
  simp only [push_cast, seval, ↓reduceIte, Za, hN0, hN]
  refine (Yt hy14).then ?_
  simp only [push_cast, seval, ↓reduceIte, Za, hN0, hN]
  refine Zg [2] [true] ?_
  simp only [push_cast, seval, ↓reduceIte]
  refine Zt ?_
  try simp only [Zi, Zf]
  have h := Option.some.inj h; subst h
  refine Zl (.inr rfl) hU [.agg [.val (.int .i64 2), .val (.int .i64 z3), .val (.int .i64 0), .val (.int .i64 0), .val (.int .i64 y13), .val (.int .i64 y14), .val (.int .i64 0), .val (.bool false)]] (by omega) ?_
  simp only [push_cast, seval, ↓reduceIte, Za, Try.results51, hN0, hN]
 replace h := Zu c22 h
 refine Zq [0, 2, 31] (Zb Zc [] ?_)
 simp only [push_cast, seval, ↓reduceIte, Za, hN0, hN]
 refine Zr (t := (y6 == 2)) rfl (fun c21 => ?_) (fun c21 => ?_)
 ·replace h := Zv c21 h
  refine Zh ?_
  obtain ⟨y18, hy18, h⟩ := bC h
  obtain ⟨y19, hy19, h⟩ := bC h
  obtain ⟨y20, hy20, h⟩ := bC h
  refine Zb Zc [] ?_
  simp only [push_cast, seval, ↓reduceIte, Za, hN0, hN]
  refine (Yt hy18).then ?_
  simp only [push_cast, seval, ↓reduceIte, Za, hN0, hN]
  refine (Yt hy19).then ?_
  simp only [push_cast, seval, ↓reduceIte, Za, hN0, hN]
  refine (Yt hy20).then ?_
  simp only [push_cast, seval, ↓reduceIte, Za, hN0, hN]
  refine Zg [2] [true] ?_
  simp only [push_cast, seval, ↓reduceIte]
  refine Zt ?_
  try simp only [Zi, Zf]
  have h := Option.some.inj h; subst h
  refine Zl (.inr rfl) hU [.agg [.val (.int .i64 3), .val (.int .i64 y18), .val (.int .i64 0), .val (.int .i64 0), .val (.int .i64 0), .val (.int .i64 0), .val (.int .i64 y19), .val (.bool (y20 == 1))]] (by omega) ?_
  simp only [push_cast, seval, ↓reduceIte, Za, Try.results51, hN0, hN]
 replace h := Zu c21 h
 refine Zx ?_
 try simp only [Zi, Zf]
 refine Zg [2] [true] ?_
 simp only [push_cast, seval, ↓reduceIte]
 refine Zh ?_
 refine Zb Zc [] ?_
 simp only [push_cast, seval, ↓reduceIte, Za, hN0, hN]
 refine Zg [2] [true] ?_
 simp only [push_cast, seval, ↓reduceIte]
 refine Zt ?_
 try simp only [Zi, Zf]
 have h := Option.some.inj h; subst h
 refine Zl (.inr rfl) hU [.agg [.val (.int .i64 4), .val (.int .i64 0), .val (.int .i64 0), .val (.int .i64 0), .val (.int .i64 0), .val (.int .i64 0), .val (.int .i64 0), .val (.bool false)]] (by omega) ?_
 simp only [push_cast, seval, ↓reduceIte, Za, Try.results51, hN0, hN]
theorem Zbg {a0 : Z7} {r : Int} {O : Objs} {n : Nat} (h : Xo a0 = some r) : GTo Try.prog 76 [.agg (Yh a0)] O n (.val (.int .i64 r)) O n := by
 unfold Xo at h
 refine Yn Zc Try.call76 Try.func76 rfl (Nat.le_of_ble_eq_true rfl) (Nat.le_refl _) fun hU => ?_
 have hN0 : O n = none := hU.fresh _ (Nat.le_refl _)
 have hN : ∀ k, O (n + k) = none := fun k => hU.fresh _ (Nat.le_add_right _ _)
 show W _ _ _ _ ⟨14, [], [(0, .agg (Yh a0))]⟩ (Z4 O n []) _
 refine Zq [1] (Zb Zc [] ?_)
 simp only [push_cast, seval, ↓reduceIte, Za, hN0, hN]
 refine Zh ?_
 refine Zq [1, 5] (Zb Zc [] ?_)
 simp only [push_cast, seval, ↓reduceIte, Za, hN0, hN]
 refine Zr (t := (a0.Kind == 4)) rfl (fun c2 => ?_) (fun c2 => ?_)
 ·replace h := Zv c2 h
  refine Zq [2] (Zb Zc [] ?_)
  simp only [push_cast, seval, ↓reduceIte, Za, hN0, hN]
  refine Zt ?_
  try simp only [Zi, Zf]
  have h := Option.some.inj h; subst h
  refine Zl (.inr rfl) hU [.val (.int .i64 9)] (by omega) ?_
  simp only [push_cast, seval, ↓reduceIte, Za, Try.results76, hN0, hN]
 replace h := Zu c2 h
 refine Zx ?_
 try simp only [Zi, Zf]
 refine Zg [1] [true] ?_
 simp only [push_cast, seval, ↓reduceIte]
 refine Zh ?_
 refine Zq [13] (Zb Zc [none, none, none] ?_)
 simp only [push_cast, seval, ↓reduceIte, Za, hN0, hN]
 repeat (with_reducible refine And.intro (by first | (intro h0; simp only [h0, and_self]; done) | (intro h0; simp only [h0, Bool.not_false, Bool.not_true, Bool.true_and, Bool.and_true, true_and, and_true, and_self, imp_self, implies_true, bne_iff_ne, ne_eq, beq_iff_eq]; done) | (intros; simp_all; done) | exact True.intro) ?_)
 refine Zr (t := (cond (a0.Kind != 1) (a0.Kind != 2) false)) rfl (fun c1 => ?_) (fun c1 => ?_)
 ·replace h := Zv c1 h
  refine Zq [2] (Zb Zc [] ?_)
  simp only [push_cast, seval, ↓reduceIte, Za, hN0, hN]
  refine Zt ?_
  try simp only [Zi, Zf]
  have h := Option.some.inj h; subst h
  refine Zl (.inr rfl) hU [.val (.int .i64 8)] (by omega) ?_
  simp only [push_cast, seval, ↓reduceIte, Za, Try.results76, hN0, hN]
 replace h := Zu c1 h
 refine Zx ?_
 try simp only [Zi, Zf]
 refine Zg [] [false] ?_
 simp only [push_cast, seval, ↓reduceIte]
 refine Zq [2] (Zb Zc [] ?_)
 simp only [push_cast, seval, ↓reduceIte, Za, hN0, hN]
 refine Zt ?_
 try simp only [Zi, Zf]
 have h := Option.some.inj h; subst h
 refine Zl (.inr rfl) hU [.val (.int .i64 0)] (by omega) ?_
 simp only [push_cast, seval, ↓reduceIte, Za, Try.results76, hN0, hN]
theorem Zhx {a0 : Z7} {r : Int} {O : Objs} {n : Nat} (h : J0 a0 = some r) : GTo Try.prog 99 [.agg (Yh a0)] O n (.val (.int .i64 r)) O n := by
 unfold J0 at h
 refine Yn Zc Try.call99 Try.func99 rfl (Nat.le_of_ble_eq_true rfl) (Nat.le_refl _) fun hU => ?_
 have hN0 : O n = none := hU.fresh _ (Nat.le_refl _)
 have hN : ∀ k, O (n + k) = none := fun k => hU.fresh _ (Nat.le_add_right _ _)
 show W _ _ _ _ ⟨65, [], [(0, .agg (Yh a0))]⟩ (Z4 O n []) _
 refine Zq [1] (Zb Zc [] ?_)
 simp only [push_cast, seval, ↓reduceIte, Za, hN0, hN]
 refine Zh ?_
 refine Zq [1, 6] (Zb Zc [] ?_)
 simp only [push_cast, seval, ↓reduceIte, Za, hN0, hN]
 refine Zr (t := (a0.Kind == 1)) rfl (fun c17 => ?_) (fun c17 => ?_)
 ·replace h := Zv c17 h
  refine Zq [2] (Zb Zc [] ?_)
  simp only [push_cast, seval, ↓reduceIte, Za, hN0, hN]
  refine Zt ?_
  try simp only [Zi, Zf]
  have h := Option.some.inj h; subst h
  refine Zl (.inr rfl) hU [.val (.int .i64 (IntKind.i64.wrap (a0.Data + a0.Ptrs)))] (by omega) ?_
  simp only [push_cast, seval, ↓reduceIte, Za, Try.results99, hN0, hN]
 replace h := Zu c17 h
 refine Zx ?_
 try simp only [Zi, Zf]
 refine Zg [1] [true] ?_
 simp only [push_cast, seval, ↓reduceIte]
 refine Zh ?_
 refine Zq [1, 14] (Zb Zc [] ?_)
 simp only [push_cast, seval, ↓reduceIte, Za, hN0, hN]
 refine Zr (t := (a0.Kind != 2)) rfl (fun c16 => ?_) (fun c16 => ?_)
 ·replace h := Zv c16 h
  refine Zq [2] (Zb Zc [] ?_)
  simp only [push_cast, seval, ↓reduceIte, Za, hN0, hN]
  refine Zt ?_
  try simp only [Zi, Zf]
  have h := Option.some.inj h; subst h
  refine Zl (.inr rfl) hU [.val (.int .i64 (-1))] (by omega) ?_
  simp only [push_cast, seval, ↓reduceIte, Za, Try.results99, hN0, hN]
 replace h := Zu c16 h
 refine Zx ?_
 try simp only [Zi, Zf]
 refine Zg [1] [true] ?_
 simp only [push_cast, seval, ↓reduceIte]
 refine Zh ?_
 refine Zq [1, 17] (Zb Zc [] ?_)
 simp only [push_cast, seval, ↓reduceIte, Za, hN0, hN]
 refine Zr (t := (a0.Code == 7)) rfl (fun c15 => ?_) (fun c15 => ?_)
 ·replace h := Zv c15 h
  refine Zq [2] (Zb Zc [] ?_)
  simp only [push_cast, seval, ↓reduceIte, Za, hN0, hN]
  refine Zt ?_
  try simp only [Zi, Zf]
  have h := Option.some.inj h; subst h
  refine Zl (.inr rfl) hU [.val (.int .i64 (IntKind.i64.wrap (a0.Count + 1)))] (by omega) ?_
  simp only [push_cast, seval, ↓reduceIte, Za, Try.results99, hN0, hN]
 replace h := Zu c15 h
 refine Zx ?_
 try simp only [Zi, Zf]
 refine Zg [1] [true] ?_
 simp only [push_cast, seval, ↓reduceIte]
 refine Zh ?_
 refine Zq [1, 38] (Zb Zc [none, none, none, none, none, none, none, none, none] ?_)
 simp only [push_cast, seval, ↓reduceIte, Za, hN0, hN]
 repeat (with_reducible refine And.intro (by first | (intro h0; simp only [h0, and_self]; done) | (intro h0; simp only [h0, Bool.not_false, Bool.not_true, Bool.true_and, Bool.and_true, true_and, and_true, and_self, imp_self, implies_true, bne_iff_ne, ne_eq, beq_iff_eq]; done) | (intros; simp_all; done) | exact True.intro) ?_)
 refine Zr (t := (cond (cond (cond (decide (a0.Code < 0)) true (decide (6 < a0.Code))) true (decide (a0.Count < 0))) true (decide (536870912 ≤ a0.Count)))) rfl (fun c14 => ?_) (fun c14 => ?_)
 ·replace h := Zv c14 h
  refine Zq [2] (Zb Zc [] ?_)
  simp only [push_cast, seval, ↓reduceIte, Za, hN0, hN]
  refine Zt ?_
  try simp only [Zi, Zf]
  have h := Option.some.inj h; subst h
  refine Zl (.inr rfl) hU [.val (.int .i64 (-1))] (by omega) ?_
  simp only [push_cast, seval, ↓reduceIte, Za, Try.results99, hN0, hN]
 replace h := Zu c14 h
 refine Zx ?_
 try simp only [Zi, Zf]
 refine Zg [1] [true] ?_
 simp only [push_cast, seval, ↓reduceIte]
 refine Zq [1, 3] (Zb Zc [] ?_)
 simp only [push_cast, seval, ↓reduceIte, Za, hN0, hN]
 obtain ⟨z1, hz1, h⟩ := bC h
 refine Zx5 (J := (Zaf (fun z1 => JN n (⟨65, [], [(1, .ref n 0), (3, .val (.int .i64 z1))]⟩ : Env) (Z4 O n [some ⟨false, 89, 8, 1, (Yh a0)⟩]) (n + 1)) (fun z1 => JR n (⟨65, [], [(2, .val (.int .i64 0))]⟩ : Env) (Z4 O n [none]) (n + 1)))) (z := z1) ?_ fun hw => ?_
 ·refine Zq [1, 3, 40] (Zb Zc [] ?_)
  simp only [push_cast, seval, ↓reduceIte, Za, hN0, hN]
  refine Xc ?_
  refine Zq [1, 3, 40, 41] (Zb Zc [] ?_)
  simp only [push_cast, seval, ↓reduceIte, Za, hN0, hN]
  refine Zr (t := (a0.Code == 0)) rfl (fun c6 => ?_) (fun c6 => ?_)
  ·replace hz1 := Zv c6 hz1
   refine Zq [2] (Zb Zc [] ?_)
   simp only [push_cast, seval, ↓reduceIte, Za, hN0, hN]
   refine Zt ?_
   try simp only [Zi, Zf]
   have hz1 := Option.some.inj hz1; subst hz1
   refine And.intro rfl (Fit2.of (Zs hU rfl rfl ?_) (by omega))
   simp only [push_cast, seval, ↓reduceIte, Za, hN0, hN]
  replace hz1 := Zu c6 hz1
  refine Zq [1, 3, 40, 43] (Zb Zc [] ?_)
  simp only [push_cast, seval, ↓reduceIte, Za, hN0, hN]
  refine Zr (t := (a0.Code == 1)) rfl (fun c5 => ?_) (fun c5 => ?_)
  ·replace hz1 := Zv c5 hz1
   refine Zb Zc [] ?_
   simp only [push_cast, seval, ↓reduceIte, Za, hN0, hN]
   have hz1 := Option.some.inj hz1; subst hz1
   refine And.intro rfl (Fit2.of (Zs hU rfl rfl ?_) (by omega))
   simp only [push_cast, seval, ↓reduceIte, Za, hN0, hN]
  replace hz1 := Zu c5 hz1
  refine Zq [1, 3, 40, 45] (Zb Zc [] ?_)
  simp only [push_cast, seval, ↓reduceIte, Za, hN0, hN]
  refine Zr (t := (a0.Code == 2)) rfl (fun c4 => ?_) (fun c4 => ?_)
  ·replace hz1 := Zv c4 hz1
   refine Zb Zc [] ?_
   simp only [push_cast, seval, ↓reduceIte, Za, hN0, hN]
   have hz1 := Option.some.inj hz1; subst hz1
   refine And.intro rfl (Fit2.of (Zs hU rfl rfl ?_) (by omega))
   simp only [push_cast, seval, ↓reduceIte, Za, hN0, hN]
  replace hz1 := Zu c4 hz1
  refine Zq [1, 3, 40, 47] (Zb Zc [] ?_)
  simp only [push_cast, seval, ↓reduceIte, Za, hN0, hN]
  refine Zr (t := (a0.Code == 3)) rfl (fun c3 => ?_) (fun c3 => ?_)
  ·replace hz1 := Zv c3 hz1
   refine Zb Zc [] ?_
   simp only [push_cast, seval, ↓reduceIte, Za, hN0, hN]
   have hz1 := Option.some.inj hz1; subst hz1
   refine And.intro rfl (Fit2.of (Zs hU rfl rfl ?_) (by omega))
   simp only [push_cast, seval, ↓reduceIte, Za, hN0, hN]
  replace hz1 := Zu c3 hz1
  refine Zq [1, 3, 49] (Zb Zc [] ?_)
  simp only [push_cast, seval, ↓reduceIte, Za, hN0, hN]
  refine Zr (t := (a0.Code == 4)) rfl (fun c2 => ?_) (fun c2 => ?_)
  ·replace hz1 := Zv c2 hz1
   refine Zb Zc [] ?_
   simp only [push_cast, seval, ↓reduceIte, Za, hN0, hN]
   have hz1 := Option.some.inj hz1; subst hz1
   refine And.intro rfl (Fit2.of (Zs hU rfl rfl ?_) (by omega))
   simp only [push_cast, seval, ↓reduceIte, Za, hN0, hN]
  replace hz1 := Zu c2 hz1
  refine Zx ?_
  try simp only [Zi, Zf]
  have hz1 := Option.some.inj hz1; subst hz1
  refine And.intro rfl (Fit2.of (Zs hU rfl rfl ?_) (by omega))
  simp only [push_cast, seval, ↓reduceIte, Za, hN0, hN]
 rcases z1 with z1 | z1
 ·dsimp only [Zaf] at hw h
  refine Qn hw ?_
  refine Zh ?_
  obtain ⟨pu8, h⟩ := bG h
  refine Zq [1, 3, 55] (Zb Zc [] ?_)
  simp only [push_cast, seval, ↓reduceIte, Za, pu8, hN0, hN]
  refine Zr (t := (decide (0 < (Int.tmod a0.Count z1)))) rfl (fun c13 => ?_) (fun c13 => ?_)
  ·replace h := Zv c13 h
   obtain ⟨pu10, h⟩ := bG h
   refine Zq [2] (Zb Zc [] ?_)
   simp only [push_cast, seval, ↓reduceIte, Za, pu10, hN0, hN]
   refine Zt ?_
   try simp only [Zi, Zf]
   have h := Option.some.inj h; subst h
   refine Zl (.inr rfl) hU [.val (.int .i64 (IntKind.i64.wrap ((IntKind.i64.wrap (Int.tdiv a0.Count z1)) + 1)))] (by omega) ?_
   simp only [push_cast, seval, ↓reduceIte, Za, Try.results99, hN0, hN]
  replace h := Zu c13 h
  refine Zx ?_
  try simp only [Zi, Zf]
  refine Zg [1, 3] [true] ?_
  simp only [push_cast, seval, ↓reduceIte]
  obtain ⟨pu12, h⟩ := bG h
  refine Zq [2] (Zb Zc [] ?_)
  simp only [push_cast, seval, ↓reduceIte, Za, pu12, hN0, hN]
  refine Zt ?_
  try simp only [Zi, Zf]
  have h := Option.some.inj h; subst h
  refine Zl (.inr rfl) hU [.val (.int .i64 (IntKind.i64.wrap (Int.tdiv a0.Count z1)))] (by omega) ?_
  simp only [push_cast, seval, ↓reduceIte, Za, Try.results99, hN0, hN]
 dsimp only [Zaf] at hw h
 refine Zvs hw ?_
 try simp only [Zi, Zf]
 have h := Option.some.inj h; subst h
 refine Zl (.inr rfl) hU [.val (.int .i64 0)] (by omega) ?_
 simp only [push_cast, seval, ↓reduceIte, Za, Try.results99, hN0, hN]
theorem Zbh {a0 : (List (List Int))} {a1 : Z5} {r : (Z5 × Int)} {O : Objs} {n : Nat} (h : Xp a0 a1 = some r) : GTo Try.prog 77 [.sl a0.length (fl (eL (eI .u64)) a0), .agg [.val (.int .i64 a1.P.Kind), .val (.int .i64 a1.P.Off), .val (.int .i64 a1.P.Data), .val (.int .i64 a1.P.Ptrs), .val (.int .i64 a1.P.Code), .val (.int .i64 a1.P.Count), .val (.int .i64 a1.P.Segment), .val (.bool a1.P.Double), .val (.int .i64 a1.Segment), .val (.int .i64 a1.At)]] O n (.tup [.agg [.val (.int .i64 r.1.P.Kind), .val (.int .i64 r.1.P.Off), .val (.int .i64 r.1.P.Data), .val (.int .i64 r.1.P.Ptrs), .val (.int .i64 r.1.P.Code), .val (.int .i64 r.1.P.Count), .val (.int .i64 r.1.P.Segment), .val (.bool r.1.P.Double), .val (.int .i64 r.1.Segment), .val (.int .i64 r.1.At)], .val (.int .i64 r.2)]) O n := by
 unfold Xp at h
 refine Yn Zc Try.call77 Try.func77 rfl (Nat.le_of_ble_eq_true rfl) (Nat.le_refl _) fun hU => ?_
 have hN0 : O n = none := hU.fresh _ (Nat.le_refl _)
 have hN : ∀ k, O (n + k) = none := fun k => hU.fresh _ (Nat.le_add_right _ _)
 show W _ _ _ _ ⟨53, [], [(0, .sl a0.length (fl (eL (eI .u64)) a0)), (1, .agg [.val (.int .i64 a1.P.Kind), .val (.int .i64 a1.P.Off), .val (.int .i64 a1.P.Data), .val (.int .i64 a1.P.Ptrs), .val (.int .i64 a1.P.Code), .val (.int .i64 a1.P.Count), .val (.int .i64 a1.P.Segment), .val (.bool a1.P.Double), .val (.int .i64 a1.Segment), .val (.int .i64 a1.At)])]⟩ (Z4 O n []) _
 refine Zq [0, 3, 4] (Zb Zc [] ?_)
 simp only [push_cast, seval, ↓reduceIte, Za, hN0, hN]
 refine Zh ?_
 obtain ⟨y2, hy2, h⟩ := bC h
 refine Zb Zc [] ?_
 simp only [push_cast, seval, ↓reduceIte, Za, hN0, hN]
 refine (Zhx hy2).then ?_
 simp only [push_cast, seval, ↓reduceIte, Za, hN0, hN]
 refine Zg [0, 3, 4, 6] [true, true] ?_
 simp only [push_cast, seval, ↓reduceIte]
 refine Zh ?_
 obtain ⟨z5, hz5, h⟩ := bC h
 refine Qn (E' := ⟨53, [], [(3, .ref n 0), (4, .ref (n + 1) 0), (48, .val (.bool z5))]⟩) (O' := (Z4 O n [some ⟨false, 91, 10, 1, [.val (.int .i64 a1.P.Kind), .val (.int .i64 a1.P.Off), .val (.int .i64 a1.P.Data), .val (.int .i64 a1.P.Ptrs), .val (.int .i64 a1.P.Code), .val (.int .i64 a1.P.Count), .val (.int .i64 a1.P.Segment), .val (.bool a1.P.Double), .val (.int .i64 a1.Segment), .val (.int .i64 a1.At)]⟩, some ⟨false, 91, 10, 1, [.val (.int .i64 0), .val (.int .i64 0), .val (.int .i64 0), .val (.int .i64 0), .val (.int .i64 0), .val (.int .i64 0), .val (.int .i64 0), .val (.bool false), .val (.int .i64 0), .val (.int .i64 0)]⟩])) (n0 := (n + 2)) ?_ ?_
 ·rcases Bool.eq_false_or_eq_true (decide (a1.Segment < 0)) with c10 | c10
  ·replace hz5 := Zv c10 hz5
   refine Xd Zc (by kernel_rfl) [none, none, none, none, none, none, none, none, some false, some false, some false, some false, some false, some false, some false, some false, some false, some false, some false, some false, some false, some false, some false, some false, some false, some false, some false, some false] (by kernel_rfl) ?_
   simp only [push_cast, seval, ↓reduceIte, Za, c10, hN0, hN]
   repeat (with_reducible refine And.intro (by first | (intro h0; simp only [h0, and_self]; done) | (intro h0; simp only [h0, Bool.not_false, Bool.not_true, Bool.true_and, Bool.and_true, true_and, and_true, and_self, imp_self, implies_true, bne_iff_ne, ne_eq, beq_iff_eq]; done) | (intros; simp_all; done) | exact True.intro) ?_)
   have hz5 := Option.some.inj hz5; subst hz5
   refine And.intro rfl (Fit2.of (Zs hU rfl rfl ?_) (by omega))
   simp only [push_cast, seval, ↓reduceIte, Za, c10, hN0, hN]
  replace hz5 := Zu c10 hz5
  rcases Bool.eq_false_or_eq_true (decide ((a0.length : Int) ≤ a1.Segment)) with c11 | c11
  ·replace hz5 := Zv c11 hz5
   try rw [c11] at c10
   refine Xd Zc (by kernel_rfl) [none, none, none, none, none, none, none, none, some false, some false, some false, some false, some false, some false, some false, some false, some false, some false, some false, some false, some false, some false, some false, some false, some false, some false, some false, some false] (by kernel_rfl) ?_
   simp only [push_cast, seval, ↓reduceIte, Za, c10, c11, hN0, hN]
   repeat (with_reducible refine And.intro (by first | (intro h0; simp only [h0, and_self]; done) | (intro h0; simp only [h0, Bool.not_false, Bool.not_true, Bool.true_and, Bool.and_true, true_and, and_true, and_self, imp_self, implies_true, bne_iff_ne, ne_eq, beq_iff_eq]; done) | (intros; simp_all; done) | exact True.intro) ?_)
   have hz5 := Option.some.inj hz5; subst hz5
   refine And.intro rfl (Fit2.of (Zs hU rfl rfl ?_) (by omega))
   simp only [push_cast, seval, ↓reduceIte, Za, c10, c11, hN0, hN]
  replace hz5 := Zu c11 hz5
  try rw [c11] at c10
  rcases Bool.eq_false_or_eq_true (decide (a1.At < 0)) with c12 | c12
  ·replace hz5 := Zv c12 hz5
   try rw [c12] at c10
   try rw [c12] at c11
   refine Xd Zc (by kernel_rfl) [none, none, none, none, none, none, none, none, some false, some false, some false, some false, some false, some false, some false, some false, some false, some false, some false, some false, some false, some false, some false, some false, some false, some false, some false, some false] (by kernel_rfl) ?_
   simp only [push_cast, seval, ↓reduceIte, Za, c10, c11, c12, hN0, hN]
   repeat (with_reducible refine And.intro (by first | (intro h0; simp only [h0, and_self]; done) | (intro h0; simp only [h0, Bool.not_false, Bool.not_true, Bool.true_and, Bool.and_true, true_and, and_true, and_self, imp_self, implies_true, bne_iff_ne, ne_eq, beq_iff_eq]; done) | (intros; simp_all; done) | exact True.intro) ?_)
   have hz5 := Option.some.inj hz5; subst hz5
   refine And.intro rfl (Fit2.of (Zs hU rfl rfl ?_) (by omega))
   simp only [push_cast, seval, ↓reduceIte, Za, c10, c11, c12, hN0, hN]
  replace hz5 := Zu c12 hz5
  try rw [c12] at c10
  try rw [c12] at c11
  obtain ⟨x8, hx8, ax8, bx8, cx8, hz5⟩ := bE (f := (eL (eI .u64))) Gs (fun _ => rfl) (by decide) hz5
  rcases Bool.eq_false_or_eq_true (decide ((x8.length : Int) < a1.At)) with c13 | c13
  ·replace hz5 := Zv c13 hz5
   try rw [c13] at c10
   try rw [c13] at c11
   try rw [c13] at c12
   refine Xd Zc (by kernel_rfl) [none, none, none, none, none, none, none, none, some true, some true, some true, some true, some true, some true, some true, some true, some true, some false, some false, some false, some false, some false, some false, some false, some false, some false, some false, some false] (by kernel_rfl) ?_
   simp only [push_cast, Nat.reduceAdd, Nat.reduceSub, Nat.reduceMul, Nat.reduceLeDiff, Nat.reduceLT, Nat.reduceEqDiff, ↓reduceIte, reduceCtorEq, Int.reduceBEq, Int.reduceBNe, Nat.reduceBEq, Int.reduceLE, Int.reduceLT, Int.reduceEq, Int.reduceNe, Int.reduceNeg, Nat.reduceDiv, Nat.reduceMod, Nat.reducePow, Za, c10, c11, c12, ax8, bx8, cx8, c13, hN0, hN]
   repeat (with_reducible refine And.intro (by first | (intro h0; simp only [h0, and_self]; done) | (intro h0; simp only [h0, Bool.not_false, Bool.not_true, Bool.true_and, Bool.and_true, true_and, and_true, and_self, imp_self, implies_true, bne_iff_ne, ne_eq, beq_iff_eq]; done) | (intros; simp_all; done) | exact True.intro) ?_)
   have hz5 := Option.some.inj hz5; subst hz5
   refine And.intro rfl (Fit2.of (Zs hU rfl rfl ?_) (by omega))
   simp only [push_cast, Nat.reduceAdd, Nat.reduceSub, Nat.reduceMul, Nat.reduceLeDiff, Nat.reduceLT, Nat.reduceEqDiff, ↓reduceIte, reduceCtorEq, Int.reduceBEq, Int.reduceBNe, Nat.reduceBEq, Int.reduceLE, Int.reduceLT, Int.reduceEq, Int.reduceNe, Int.reduceNeg, Nat.reduceDiv, Nat.reduceMod, Nat.reducePow, Za, c10, c11, c12, ax8, bx8, cx8, c13, hN0, hN]
  replace hz5 := Zu c13 hz5
  try rw [c13] at c10
  try rw [c13] at c11
  try rw [c13] at c12
  refine Xd Zc (by kernel_rfl) [none, none, none, none, none, none, none, none, some true, some true, some true, some true, some true, some true, some true, some true, some true, some true, some true, some true, some true, some true, some true, some true, some true, some true, some true, some true] (by kernel_rfl) ?_
  simp only [push_cast, Nat.reduceAdd, Nat.reduceSub, Nat.reduceMul, Nat.reduceLeDiff, Nat.reduceLT, Nat.reduceEqDiff, ↓reduceIte, reduceCtorEq, Int.reduceBEq, Int.reduceBNe, Nat.reduceBEq, Int.reduceLE, Int.reduceLT, Int.reduceEq, Int.reduceNe, Int.reduceNeg, Nat.reduceDiv, Nat.reduceMod, Nat.reducePow, Za, c10, c11, c12, ax8, bx8, cx8, c13, hN0, hN]
  repeat (with_reducible refine And.intro (by first | (intro h0; simp only [h0, and_self]; done) | (intro h0; simp only [h0, Bool.not_false, Bool.not_true, Bool.true_and, Bool.and_true, true_and, and_true, and_self, imp_self, implies_true, bne_iff_ne, ne_eq, beq_iff_eq]; done) | (intros; simp_all; done) | exact True.intro) ?_)
  have hz5 := Option.some.inj hz5; subst hz5
  refine And.intro rfl (Fit2.of (Zs hU rfl rfl ?_) (by omega))
  simp only [push_cast, Nat.reduceAdd, Nat.reduceSub, Nat.reduceMul, Nat.reduceLeDiff, Nat.reduceLT, Nat.reduceEqDiff, ↓reduceIte, reduceCtorEq, Int.reduceBEq, Int.reduceBNe, Nat.reduceBEq, Int.reduceLE, Int.reduceLT, Int.reduceEq, Int.reduceNe, Int.reduceNeg, Nat.reduceDiv, Nat.reduceMod, Nat.reducePow, Za, c10, c11, c12, ax8, bx8, cx8, c13, hN0, hN]
 refine Zr (t := z5) rfl (fun c14 => ?_) (fun c14 => ?_)
 ·replace h := Zv c14 h
  refine Zh ?_
  refine Zb Zc [] ?_
  simp only [push_cast, seval, ↓reduceIte, Za, hN0, hN]
  refine Zg [4, 5] [false, true] ?_
  simp only [push_cast, seval, ↓reduceIte]
  refine Zt ?_
  try simp only [Zi, Zf]
  have h := Option.some.inj h; subst h
  refine Zl (.inr rfl) hU [.agg [.val (.int .i64 0), .val (.int .i64 0), .val (.int .i64 0), .val (.int .i64 0), .val (.int .i64 0), .val (.int .i64 0), .val (.int .i64 0), .val (.bool false), .val (.int .i64 0), .val (.int .i64 0)], .val (.int .i64 7)] (by omega) ?_
  simp only [push_cast, seval, ↓reduceIte, Za, Try.results77, hN0, hN]
 replace h := Zu c14 h
 refine Zx ?_
 try simp only [Zi, Zf]
 refine Zg [3, 4] [true, true] ?_
 simp only [push_cast, seval, ↓reduceIte]
 refine Zh ?_
 refine Zb Zc [] ?_
 simp only [push_cast, seval, ↓reduceIte, Za, hN0, hN]
 refine Zg [3, 4] [true, true] ?_
 simp only [push_cast, seval, ↓reduceIte]
 refine Zh ?_
 refine Zb Zc [] ?_
 simp only [push_cast, seval, ↓reduceIte, Za, hN0, hN]
 refine Zg [4, 5] [false, true] ?_
 simp only [push_cast, seval, ↓reduceIte]
 refine Zt ?_
 try simp only [Zi, Zf]
 have h := Option.some.inj h; subst h
 refine Zl (.inr rfl) hU [.agg [.val (.int .i64 a1.P.Kind), .val (.int .i64 0), .val (.int .i64 a1.P.Data), .val (.int .i64 a1.P.Ptrs), .val (.int .i64 a1.P.Code), .val (.int .i64 a1.P.Count), .val (.int .i64 a1.P.Segment), .val (.bool a1.P.Double), .val (.int .i64 a1.Segment), .val (.int .i64 a1.At)], .val (.int .i64 0)] (by omega) ?_
 simp only [push_cast, seval, ↓reduceIte, Za, Try.results77, hN0, hN]
end Go.Proofs.Ytmlhokaflhlhbaa
