/- Part RM2 of this seat's mirrors: functions of the seat's program, and the plain functions that they are; each theorem bears its own conditions. -/
import Derived.Test.YtgijkjifiekkmaaRE
import Derived.Test.YtgijkjifiekkmaaRM1
namespace Go.Proofs.Ytgijkjifiekkmaa
open Go.RowKit
set_option linter.unusedVariables false
set_option linter.unusedSimpArgs false
set_option maxRecDepth 100000
set_option maxHeartbeats 4000000
attribute [local push_cast] Zil Zik Zi7 Zi6 Zg Zd Zfy Zbm Zbl onW Zx Q9 Ji Zdk Zeq Zd4 Zd8 Zd3 Zd7 Zg2 Zgz Zd6 Zg1 Zg0 Zd5 Zgx Zcc Ur wok Xp Op.operands Call.operands gop onK onP atK List.all_cons List.all_nil Bool.and_true Bool.true_and Bool.and_self Value.oneCell' List.take_zero List.take_succ_cons List.take_nil List.drop_zero List.drop_succ_cons List.drop_nil List.append_nil Nat.add_zero Nat.zero_add Qs Zm ev Y9 Zft Zid Zic Zii Zig Zih Zie Zif Zib Zcu Zem Zho Uh Jr Zak Kv Zdj Ky Zad Zai Zbg Zbd Zag Zbf Zbe Zaf Zbb Zae Zah Uu Zbc U2 Zbn Q1 U3 Q2 Gn Uc Zfz Jz Gf Vt Js Gl Zks Ub U1 Kw Qq Zfv Zku Uy Zkx Kf Zlc Zf7 Zgb Zf6 Zga Ziv Zis Ziq Zdn Zf8 Ziu Zit Zf9 Zir Ud Zcv Zgn Zb5 Zb4 Vw TK.isAgg Zi0 Zi5 Ziz Zi4 Zgg Zlv Zls Zi3 Zlu Zlt Zi1 Zlr G.under G.unders List.getD_cons_zero List.getD_cons_succ List.set_cons_zero List.set_cons_succ List.map_cons List.map_nil List.toList_toArray Array.toList_append Option.toArray_none Option.toArray_some Array.toList_map Option.map_some Option.map_none Option.bind_some Option.bind_none List.getElem?_cons_zero List.getElem?_cons_succ List.getElem?_nil List.nil_append List.cons_append List.replicate_succ List.replicate_zero List.length_cons List.length_nil and_true true_and and_false false_and Bool.true_eq_false Bool.false_eq_true forall_const false_implies implies_true IntKind.bits if_true if_false ite_true ite_false eq_self true_implies false_or or_false or_true true_or not_true_eq_false not_false_eq_true decide_true decide_false decide_eq_true_eq decide_eq_false_iff_not beq_iff_eq bne_iff_ne ne_eq Bool.not_eq_true Bool.not_eq_false beq_eq_false_iff_ne bne_eq_false_iff_eq beq_self_eq_true bne_self_eq_false Option.some.injEq exists_eq_left' exists_eq_left ge_iff_le gt_iff_lt decide_not Bool.not_true Bool.not_false imp_self Zle cond_true cond_false Zo5 Zo4 Bool.not_not Bool.and_false Bool.false_and Bool.or_true Bool.true_or Bool.or_false Bool.false_or V8 Zh4 Kt Kc Jl Jk Option.join_some Nat.add_assoc Int.toNat_natCast eI eB eS eL Zei Gq Zam Zio Zim Zin Zlq Zm3 Gw Zas Zje Zjc Zjd Zhv Za1 Zh7 Zay Zfn Ke Zhl List.length_append G.agg.injEq G.row.injEq G.ref.injEq G.val.injEq G.sl.injEq G.tup.injEq Value.int.injEq Value.bool.injEq Value.string.injEq List.cons.injEq exists_and_left exists_const List.flatten_cons List.flatten_nil Int.le_refl Nat.le_refl Zg7 J3 Zfi Bool.not_eq_true' Bool.not_eq_false' Zkl Zcn Zme Zmj Zmd Zmi Zoi Zoe List.size_toArray Ze1 Zgq G.ren G.rens Zhy G0 Zjg Zh9 Zia Zgy Zmk Gu G.fn.injEq Zg9 Zha Zkk Zof Zg8 Zmh Zoh Zog Zmg Zlk Zng Option.join_none Xn Q5 undef U4 Arr.len Arr.put_eq Gv Zdr Zb1 Zar Zjb Zi9 Zja onB Zlp Zfr Zgs Ze8 Ze9 Zfa Zfb Zfc Zfd Zdo Zdv Zdt Zb3 Zat Zdu Zgm Zgl Zgk Zgj Zm2 Zot Zhu Zk2 Ka Zmz Zos Zdw Zb2 Zm4 Zlz Zeg Uv Ga Zb8 Zfe Zff Zfg Zfh Zc3 Zc4 Zc5 Zc6 Zc7 Zc8 Zc9 J4 prT Zf4 Zpa Zl4 Zm8 Zl5 Zpb Zl6 Ks Zl7 Zpc Zl8 Zpd Zl9 Zpe Zma Zpf Zmb Zni Zjm Znj Zjn Znk Zjo Znl Zjp Znm Zjq Znn Zjr Zno Zjs Znp Zjt Znq Zju Znr Zjv Zns Zjw Znt Zjx Znu K3 Znv Zjy Zcd Zjz Znw Zj0 Znx Zj1 Zny Zj2 Znz Zj3 Zn0 Zj4 Zn1 Zj5 Zn2 Zj6 Zn3 Zj7 Zn4 Zj8 Zn5 Zj9 V3 Zka Zn6 Zkb Zn7 Zkc Zn8 Zkd Zn9 Zke Zoa Zkf Zob Zkg Zoc Zkh Zod Zki Zl2 Zg5 Zl3 Zg6 Uq Vg Zec Zeb Zdm Zdp Zed Zcj Zb9 Zb7 Zd9 Zco Zcl Zbt Zby Zcq Zaz Zaw Zau Zcf Zcp Zcm Zbu Zbz Zcr Za0 Zax Zav Zcg V6 V5 V0 V2 V7 Vi Ve Vd V4
theorem Jh  {r : Bool} {O : Objs} {n : Nat} (h : Ym = some r) : GTo Try.prog 18 [] O n (.val (.bool r)) O n := by
 unfold Ym at h
 refine Qp Zc Try.call18 Try.func18 rfl (Nat.le_of_ble_eq_true rfl) (Nat.le_refl _) fun hU => ?_
 have hN0 : O n = none := hU.fresh _ (Nat.le_refl _)
 have hN : ∀ k, O (n + k) = none := fun k => hU.fresh _ (Nat.le_add_right _ _)
 show W _ _ _ _ ⟨32, [], []⟩ (Zk O n []) _
 refine Zl [] (Zb Zc [] ?_)
 simp only [push_cast, seval, ↓reduceIte, Za, hN0, hN]
 refine Zf ?_
 obtain ⟨y2, hy2, h⟩ := bC h
 refine Zb Zc [] ?_
 simp only [push_cast, seval, ↓reduceIte, Za, hN0, hN]
 refine GCalls.dropL (l' := [none, none]) hU rfl ?_ ((Vb hy2).then ?_)
 ·simp only [push_cast, seval, ↓reduceIte, Za, hN0, hN]
 simp only [push_cast, seval, ↓reduceIte, Za, hN0, hN]
 refine Ze [1, 2] [false, false] ?_
 simp only [push_cast, seval, ↓reduceIte]
 refine Zf ?_
 obtain ⟨y4, hy4, h⟩ := bC h
 refine Zb Zc [] ?_
 simp only [push_cast, seval, ↓reduceIte, Za, hN0, hN]
 refine (Km hy4).then ?_
 simp only [push_cast, seval, ↓reduceIte, Za, hN0, hN]
 refine Ze [1, 2, 3, 4] [false, false] ?_
 simp only [push_cast, seval, ↓reduceIte]
 obtain ⟨z7, hz7, h⟩ := bC h
 refine Zk5 (E' := ⟨32, [], [(0, .val (.bool z7))]⟩) (O' := (Zk O n [none, none, none, none, none])) (n0 := (n + 5)) ?_ ?_
 ·rcases Bool.eq_false_or_eq_true y2.2 with c12 | c12
  ·replace hz7 := Z0 c12 hz7
   obtain ⟨y10, hy10, hz7⟩ := bC hz7
   rcases Bool.eq_false_or_eq_true y10 with c13 | c13
   ·replace hz7 := Z0 c13 hz7
    try rw [c13] at c12
    rcases Bool.eq_false_or_eq_true (y4.2 == 0) with c14 | c14
    ·replace hz7 := Z0 c14 hz7
     try rw [c14] at c12
     try rw [c14] at c13
     obtain ⟨y11, hy11, hz7⟩ := bC hz7
     refine Zb Zc [some true, some true, some true, none, none, some true, some true, some true, some true] ?_
     simp only [push_cast, seval, ↓reduceIte, Za, c12, c13, c14, hN0, hN]
     repeat (with_reducible refine And.intro (by first | (intro h0; simp only [h0, and_self]; done) | (intro h0; simp only [h0, Bool.not_false, Bool.not_true, Bool.true_and, Bool.and_true, true_and, and_true, and_self, imp_self, implies_true, bne_iff_ne, ne_eq, beq_iff_eq]; done) | (intros; simp_all; done) | exact True.intro) ?_)
     refine GCalls.lend (Y0 hy10) rfl ?_ ?_
     ·simp only [push_cast, seval, ↓reduceIte, Za, c12, c13, c14, hN0, hN]
     simp only [push_cast, seval, ↓reduceIte, Za, c12, c13, c14, hN0, hN]
     repeat (with_reducible refine And.intro (by first | (intro h0; simp only [h0, and_self]; done) | (intro h0; simp only [h0, Bool.not_false, Bool.not_true, Bool.true_and, Bool.and_true, true_and, and_true, and_self, imp_self, implies_true, bne_iff_ne, ne_eq, beq_iff_eq]; done) | (intros; simp_all; done) | exact True.intro) ?_)
     refine GCalls.lend (Qo hy11) rfl ?_ ?_
     ·simp only [push_cast, seval, ↓reduceIte, Za, c12, c13, c14, hN0, hN]
     simp only [push_cast, seval, ↓reduceIte, Za, c12, c13, c14, hN0, hN]
     repeat (with_reducible refine And.intro (by first | (intro h0; simp only [h0, and_self]; done) | (intro h0; simp only [h0, Bool.not_false, Bool.not_true, Bool.true_and, Bool.and_true, true_and, and_true, and_self, imp_self, implies_true, bne_iff_ne, ne_eq, beq_iff_eq]; done) | (intros; simp_all; done) | exact True.intro) ?_)
     have hz7 := Option.some.inj hz7; subst hz7
     refine And.intro rfl (Fit2.of (Zh hU rfl rfl ?_) (by omega))
     simp only [push_cast, seval, ↓reduceIte, Za, c12, c13, c14, hN0, hN]
    replace hz7 := Zz c14 hz7
    try rw [c14] at c12
    try rw [c14] at c13
    refine Zb Zc [some true, some true, some true, none, none, some false, some false, some false, some false] ?_
    simp only [push_cast, seval, ↓reduceIte, Za, c12, c13, c14, hN0, hN]
    repeat (with_reducible refine And.intro (by first | (intro h0; simp only [h0, and_self]; done) | (intro h0; simp only [h0, Bool.not_false, Bool.not_true, Bool.true_and, Bool.and_true, true_and, and_true, and_self, imp_self, implies_true, bne_iff_ne, ne_eq, beq_iff_eq]; done) | (intros; simp_all; done) | exact True.intro) ?_)
    refine GCalls.lend (Y0 hy10) rfl ?_ ?_
    ·simp only [push_cast, seval, ↓reduceIte, Za, c12, c13, c14, hN0, hN]
    simp only [push_cast, seval, ↓reduceIte, Za, c12, c13, c14, hN0, hN]
    repeat (with_reducible refine And.intro (by first | (intro h0; simp only [h0, and_self]; done) | (intro h0; simp only [h0, Bool.not_false, Bool.not_true, Bool.true_and, Bool.and_true, true_and, and_true, and_self, imp_self, implies_true, bne_iff_ne, ne_eq, beq_iff_eq]; done) | (intros; simp_all; done) | exact True.intro) ?_)
    have hz7 := Option.some.inj hz7; subst hz7
    refine And.intro rfl (Fit2.of (Zh hU rfl rfl ?_) (by omega))
    simp only [push_cast, seval, ↓reduceIte, Za, c12, c13, c14, hN0, hN]
   replace hz7 := Zz c13 hz7
   try rw [c13] at c12
   refine Zb Zc [some true, some true, some true, none, none, some false, some false, some false, some false] ?_
   simp only [push_cast, seval, ↓reduceIte, Za, c12, c13, hN0, hN]
   repeat (with_reducible refine And.intro (by first | (intro h0; simp only [h0, and_self]; done) | (intro h0; simp only [h0, Bool.not_false, Bool.not_true, Bool.true_and, Bool.and_true, true_and, and_true, and_self, imp_self, implies_true, bne_iff_ne, ne_eq, beq_iff_eq]; done) | (intros; simp_all; done) | exact True.intro) ?_)
   refine GCalls.lend (Y0 hy10) rfl ?_ ?_
   ·simp only [push_cast, seval, ↓reduceIte, Za, c12, c13, hN0, hN]
   simp only [push_cast, seval, ↓reduceIte, Za, c12, c13, hN0, hN]
   repeat (with_reducible refine And.intro (by first | (intro h0; simp only [h0, and_self]; done) | (intro h0; simp only [h0, Bool.not_false, Bool.not_true, Bool.true_and, Bool.and_true, true_and, and_true, and_self, imp_self, implies_true, bne_iff_ne, ne_eq, beq_iff_eq]; done) | (intros; simp_all; done) | exact True.intro) ?_)
   have hz7 := Option.some.inj hz7; subst hz7
   refine And.intro rfl (Fit2.of (Zh hU rfl rfl ?_) (by omega))
   simp only [push_cast, seval, ↓reduceIte, Za, c12, c13, hN0, hN]
  replace hz7 := Zz c12 hz7
  refine Zb Zc [some false, some false, some false, some false, some false, some false, some false, some false, some false] ?_
  simp only [push_cast, seval, ↓reduceIte, Za, c12, hN0, hN]
  have hz7 := Option.some.inj hz7; subst hz7
  refine And.intro rfl (Fit2.of (Zh hU rfl rfl ?_) (by omega))
  simp only [push_cast, seval, ↓reduceIte, Za, c12, hN0, hN]
 refine Z9 ?_
 try simp only [Zg, Zd]
 have h := Option.some.inj h; subst h
 refine Zp (.inr rfl) hU [.val (.bool z7)] (by omega) ?_
 simp only [push_cast, seval, ↓reduceIte, Za, Try.results18, hN0, hN]
theorem Jb {a0 : Int} {r : (List Int)} {O : Objs} {n : Nat}  (h : Zq a0 = some r) : GTo Try.prog 54 [.val (.int .i64 a0)] O n (.row n r.length) (Zk O n [some ⟨true, 5, 1, r.length, fl (eI .u8) r⟩]) (n + 1) := by
 unfold Zq at h
 refine Qp Zc Try.call54 Try.func54 rfl (Nat.le_of_ble_eq_true rfl) (by omega) fun hU => ?_
 have hN0 : O n = none := hU.fresh _ (Nat.le_refl _)
 have hN : ∀ k, O (n + k) = none := fun k => hU.fresh _ (Nat.le_add_right _ _)
 show W _ _ _ _ ⟨18, [], [(0, .val (.int .i64 a0))]⟩ (Zk O n []) _
 refine Zl [0] (Zb Zc [] ?_)
 simp only [push_cast, seval, ↓reduceIte, Za, hN0, hN]
 refine Zl [0, 3] (Zb Zc [] ?_)
 simp only [push_cast, seval, ↓reduceIte, Za, hN0, hN]
 refine Zf ?_
 refine Zl [0, 3, 4] (Zb Zc [] ?_)
 simp only [push_cast, seval, ↓reduceIte, Za, hN0, hN]
 refine Ze [0, 3, 4] [] ?_
 simp only [push_cast, seval, ↓reduceIte]
 refine Za8 (E' := (⟨18, [], [(0, .val (.int .i64 a0)), (3, .row n ([] : List Int).length), (4, .val (.int .i64 0))]⟩ : Env)) (O' := (Zk O n [some ⟨true, 5, 1, ([] : List Int).length, fl (eI .u8) ([] : List Int)⟩, none])) (n' := (n + 2)) ?_ ?_
 ·refine Fit2.trans (E' := (⟨18, [], [(0, .val (.int .i64 a0)), (3, .val (.slice none 0 0)), (4, .val (.int .i64 0))]⟩ : Env)) (O' := (Zk O n [])) (n' := n) (Fit2.of (Zh hU rfl rfl ?_) (by omega)) ?_
  ·simp only [push_cast, seval, ↓reduceIte, Za, hN0, hN]
  refine Fit2.trans (E' := (⟨18, [], [(3, .row n 0), (0, .val (.int .i64 a0)), (3, .val (.slice none 0 0)), (4, .val (.int .i64 0))]⟩ : Env)) (O' := (Zk O n [some ⟨true, 5, 1, 0, []⟩])) (n' := (n + 1)) ?_ ?_
  ·have ha := Vk (ba := n) (E := (⟨18, [], [(0, .val (.int .i64 a0)), (3, .val (.slice none 0 0)), (4, .val (.int .i64 0))]⟩ : Env)) (O := (Zk O n [])) (n := n) 3 5 1 rfl (by omega)
   simp only [Jl, Jk, Kt, Kc, List.set_cons_zero, List.set_cons_succ, List.cons_append, List.nil_append, List.length_cons, List.length_nil, Nat.zero_add, Nat.reduceAdd, Nat.reduceLT, Nat.add_assoc] at ha
   exact ha
  refine Fit2.trans (E' := (⟨18, [], [(0, .val (.int .i64 a0)), (3, .row n ([] : List Int).length), (4, .val (.int .i64 0))]⟩ : Env)) (O' := (Zk O n [some ⟨true, 5, 1, ([] : List Int).length, fl (eI .u8) ([] : List Int)⟩])) (n' := (n + 1)) (Fit2.of (Zh hU rfl rfl ?_) (by omega)) ?_
  ·simp only [push_cast, seval, ↓reduceIte, Za, hN0, hN]
  refine U8 (k := 1) (k' := 2) hU [0] [0, 0] rfl rfl rfl rfl ⟨rfl, rfl⟩ ?_
  simp only [push_cast, seval, ↓reduceIte, Za, hN0, hN]
 obtain ⟨z4, hz4, h⟩ := bC h
 refine Z7 (E' := ⟨18, [], [(3, .row n z4.length)]⟩) (O' := (Zk O n [some ⟨true, 5, 1, z4.length, fl (eI .u8) z4⟩, none])) (n0 := (n + 2)) ?_ ?_
 ·refine Yp hz4 (fun s0_ => ⟨18, [], [(0, .val (.int .i64 s0_.1)), (3, .row n s0_.2.2.length), (4, .val (.int .i64 s0_.2.1))]⟩) (fun s0_ => (Zk O n [some ⟨true, 5, 1, s0_.2.2.length, fl (eI .u8) s0_.2.2⟩, none])) (fun z4 => JX 0 n (⟨18, [], [(3, .row n z4.length)]⟩ : Env) (Zk O n [some ⟨true, 5, 1, z4.length, fl (eI .u8) z4⟩, none]) (n + 2)) ?_
  intro s0_ x0_ hs0_
  unfold Z4 at hs0_
  try dsimp only
  refine Zf ?_
  refine Zl [0, 3, 4, 6] (Zb Zc [] ?_)
  simp only [push_cast, seval, ↓reduceIte, Za, hN0, hN]
  refine Zs (t := (decide (s0_.2.1 < 4))) rfl (fun c3 => ?_) (fun c3 => ?_)
  ·replace hs0_ := Z0 c3 hs0_
   refine Zt ?_
   try simp only [Zg, Zd]
   refine Ze [0, 3, 4] [true, false] ?_
   simp only [push_cast, seval, ↓reduceIte]
   refine Zf ?_
   refine Ye ?_
   refine Zf ?_
   obtain ⟨l2, pl2, ql2, el2, hs0_⟩ := bA (k := 1) rfl hs0_
   refine Zb Zc [] ?_
   simp only [push_cast, seval, ↓reduceIte, Za, pl2, ql2, el2, hN0, hN]
   refine Vx ⟨18, [], [(0, .val (.int .i64 s0_.1)), (3, .row n l2.length), (4, .val (.int .i64 s0_.2.1))]⟩ (Zk O n [some ⟨true, 5, 1, l2.length, fl (eI .u8) l2⟩, none, none]) (Zh hU rfl rfl ?_) ?_
   ·simp only [push_cast, seval, ↓reduceIte, Za, pl2, ql2, el2, hN0, hN]
   refine Zb Zc [] ?_
   simp only [push_cast, seval, ↓reduceIte, Za, hN0, hN]
   refine Ze [0, 3, 4] [true, false, false] ?_
   simp only [push_cast, seval, ↓reduceIte]
   refine Zb Zc [] ?_
   simp only [push_cast, seval, ↓reduceIte, Za, hN0, hN]
   have hs0_ := Option.some.inj hs0_; subst hs0_
   refine And.intro rfl (Fit2.of (Zh hU rfl rfl ?_) (by omega))
   simp only [push_cast, seval, ↓reduceIte, Za, hN0, hN]
  replace hs0_ := Zz c3 hs0_
  refine Xo ?_
  try simp only [Zg, Zd, ↓reduceIte, Nat.reduceEqDiff]
  have hs0_ := Option.some.inj hs0_; subst hs0_
  refine And.intro (fun h => by cases h) (And.intro rfl (Fit2.of (Zh hU rfl rfl ?_) (by omega)))
  simp only [push_cast, seval, ↓reduceIte, Za, hN0, hN]
 try simp only [Zg, Zd, ↓reduceIte, Nat.reduceEqDiff]
 refine Ze [3] [true, false] ?_
 simp only [push_cast, seval, ↓reduceIte]
 refine Zl [2] (Zb Zc [] ?_)
 simp only [push_cast, seval, ↓reduceIte, Za, hN0, hN]
 refine Z9 ?_
 try simp only [Zg, Zd]
 have h := Option.some.inj h; subst h
 refine Zk9 (k := 1) (L3 := [some ⟨true, 5, 1, z4.length, fl (eI .u8) z4⟩, none]) (E2 := (⟨18, [], [(2, .row n z4.length)]⟩ : Env)) (n3 := (n + 2)) (.inr rfl) hU rfl [.row n z4.length] ?_ ?_
 ·refine Fit2.trans (E' := (⟨18, [], [(2, .row n z4.length)]⟩ : Env)) (O' := (Zk O n [some ⟨true, 5, 1, z4.length, fl (eI .u8) z4⟩, none])) (n' := (n + 2)) (Fit2.of (Zh hU rfl rfl ?_) (by omega)) ?_
  ·simp only [push_cast, seval, ↓reduceIte, Za, hN0, hN]
  refine U8 (k := 2) (k' := 2) hU [0, 1] [0, 0] rfl rfl rfl rfl ⟨rfl, rfl⟩ ?_
  simp only [push_cast, seval, ↓reduceIte, Za, hN0, hN]
 simp only [push_cast, seval, ↓reduceIte, Za, Try.results54, hN0, hN]
theorem Vu {a0 : Int} {r : (Arr Int 8)} {O : Objs} {n : Nat} (h : Ya a0 = some r) : GTo Try.prog 81 [.val (.int .u64 a0)] O n (.agg (fl (eI .u8) r.1)) O n := by
 unfold Ya at h
 refine Qp Zc Try.call81 Try.func81 rfl (Nat.le_of_ble_eq_true rfl) (Nat.le_refl _) fun hU => ?_
 have hN0 : O n = none := hU.fresh _ (Nat.le_refl _)
 have hN : ∀ k, O (n + k) = none := fun k => hU.fresh _ (Nat.le_add_right _ _)
 show W _ _ _ _ ⟨18, [], [(0, .val (.int .u64 a0))]⟩ (Zk O n []) _
 obtain ⟨y3, hy3, ey3, h⟩ := bY (f := (eI .u8)) (cs := [.val (.int .u8 0), .val (.int .u8 0), .val (.int .u8 0), .val (.int .u8 0), .val (.int .u8 0), .val (.int .u8 0), .val (.int .u8 0), .val (.int .u8 0)]) rfl h
 have g4 := congrArg (GObj.mk false 114 8 1) ey3
 refine Zl [0, 2] (Zb Zc [] ?_)
 simp only [push_cast, seval, ↓reduceIte, Za, g4, hN0, hN]
 refine Zf ?_
 obtain ⟨y9, hy9, ey9, h⟩ := bY (f := (eI .u8)) (cs := [.val (.int .u8 0), .val (.int .u8 0), .val (.int .u8 0), .val (.int .u8 0), .val (.int .u8 0), .val (.int .u8 0), .val (.int .u8 0), .val (.int .u8 0)]) rfl h
 have g10 := congrArg G.agg ey9
 have g11 := congrArg (GObj.mk false 114 8 1) ey9
 have g12 := Jt (f := (eI .u8)) y9 y9 (fun _ => rfl)
 refine Zb Zc [] ?_
 simp only [push_cast, seval, ↓reduceIte, Za, g10, g11, g12, hN0, hN]
 refine Ze [0, 2, 3] [true, true] ?_
 simp only [push_cast, seval, ↓reduceIte]
 refine Zf ?_
 refine Zl [0, 2, 3, 4] (Zb Zc [] ?_)
 simp only [push_cast, seval, ↓reduceIte, Za, hN0, hN]
 refine Ze [0, 2, 3, 4] [true, true] ?_
 simp only [push_cast, seval, ↓reduceIte]
 obtain ⟨z18, hz18, h⟩ := bC h
 refine Z7 (E' := ⟨18, [], [(2, .ref n 0), (3, .ref (n + 1) 0)]⟩) (O' := (Zk O n [some ⟨false, 114, 8, 1, fl (eI .u8) y3.1⟩, some ⟨false, 114, 8, 1, fl (eI .u8) z18.1⟩])) (n0 := (n + 2)) ?_ ?_
 ·refine Yp hz18 (fun s0_ => ⟨18, [], [(0, .val (.int .u64 s0_.1)), (2, .ref n 0), (3, .ref (n + 1) 0), (4, .val (.int .i64 s0_.2.1))]⟩) (fun s0_ => (Zk O n [some ⟨false, 114, 8, 1, fl (eI .u8) y3.1⟩, some ⟨false, 114, 8, 1, fl (eI .u8) s0_.2.2.1⟩])) (fun z18 => JX 0 n (⟨18, [], [(2, .ref n 0), (3, .ref (n + 1) 0)]⟩ : Env) (Zk O n [some ⟨false, 114, 8, 1, fl (eI .u8) y3.1⟩, some ⟨false, 114, 8, 1, fl (eI .u8) z18.1⟩]) (n + 2)) ?_
  intro s0_ x0_ hs0_
  unfold Z5 at hs0_
  try dsimp only
  refine Zf ?_
  refine Zl [0, 2, 3, 4, 7] (Zb Zc [] ?_)
  simp only [push_cast, seval, ↓reduceIte, Za, hN0, hN]
  refine Zs (t := (decide (s0_.2.1 < 8))) rfl (fun c17 => ?_) (fun c17 => ?_)
  ·replace hs0_ := Z0 c17 hs0_
   refine Zt ?_
   try simp only [Zg, Zd]
   refine Ze [0, 2, 3, 4] [true, true] ?_
   simp only [push_cast, seval, ↓reduceIte]
   refine Zf ?_
   refine Ye ?_
   refine Zf ?_
   obtain ⟨x15, hx15, ax15, bx15, cx15, hs0_⟩ := bEA (f := (eI .u8)) (b := 8) rfl Ks (fun _ => rfl) (by decide) hs0_
   have gu16 : X8 (fl (eI .u8) s0_.2.2.1) [.val (.int .u8 (IntKind.u8.wrap (Int.tmod s0_.1 256)))] (Int.toNat s0_.2.1 * 1) = some (fl (eI .u8) (Zcb s0_.2.2.1 s0_.2.1 (IntKind.u8.wrap (Int.tmod s0_.1 256)))) := Gr (f := (eI .u8)) (ti := ⟨.bool, 1, 0, [], false⟩) (x := (IntKind.u8.wrap (Int.tmod s0_.1 256))) (fun _ => rfl) (K7 hx15)
   refine Zb Zc [] ?_
   simp only [push_cast, Nat.reduceAdd, Nat.reduceSub, Nat.reduceMul, Nat.reduceLeDiff, Nat.reduceLT, Nat.reduceEqDiff, ↓reduceIte, reduceCtorEq, Int.reduceBEq, Int.reduceBNe, Nat.reduceBEq, Int.reduceLE, Int.reduceLT, Int.reduceEq, Int.reduceNe, Int.reduceNeg, Nat.reduceDiv, Nat.reduceMod, Nat.reducePow, Za, ax15, bx15, cx15, gu16, hN0, hN]
   refine Ze [0, 2, 3, 4] [true, true] ?_
   simp only [push_cast, seval, ↓reduceIte]
   refine Zb Zc [] ?_
   simp only [push_cast, seval, ↓reduceIte, Za, hN0, hN]
   refine Ze [0, 2, 3, 4] [true, true] ?_
   simp only [push_cast, seval, ↓reduceIte]
   refine Zb Zc [] ?_
   simp only [push_cast, seval, ↓reduceIte, Za, hN0, hN]
   have hs0_ := Option.some.inj hs0_; subst hs0_
   refine And.intro rfl (Fit2.of (Zh hU rfl rfl ?_) (by omega))
   simp only [push_cast, seval, ↓reduceIte, Za, hN0, hN]
  replace hs0_ := Zz c17 hs0_
  refine Xo ?_
  try simp only [Zg, Zd, ↓reduceIte, Nat.reduceEqDiff]
  have hs0_ := Option.some.inj hs0_; subst hs0_
  refine And.intro (fun h => by cases h) (And.intro rfl (Fit2.of (Zh hU rfl rfl ?_) (by omega)))
  simp only [push_cast, seval, ↓reduceIte, Za, hN0, hN]
 try simp only [Zg, Zd, ↓reduceIte, Nat.reduceEqDiff]
 refine Ze [2, 3] [true, true] ?_
 simp only [push_cast, seval, ↓reduceIte]
 refine Zf ?_
 have g21 := Kh (f := (eI .u8)) z18 Uq rfl (fun _ => rfl) rfl
 have g22 := Jt (f := (eI .u8)) y3 z18 (fun _ => rfl)
 refine Zb Zc [] ?_
 simp only [push_cast, seval, ↓reduceIte, Za, g21, g22, hN0, hN]
 refine Ze [2] [true, false] ?_
 simp only [push_cast, seval, ↓reduceIte]
 refine Z9 ?_
 try simp only [Zg, Zd]
 have h := Option.some.inj h; subst h
 have gR0 := Kh (f := (eI .u8)) z18 Uq rfl (fun _ => rfl) rfl
 refine Zp (.inr rfl) hU [.agg (fl (eI .u8) z18.1)] (by omega) ?_
 simp only [push_cast, seval, ↓reduceIte, Za, Try.results81, hN0, hN, gR0]
theorem Uk {a0 : (List Int)} {r : (List Int)} {O : Objs} {n : Nat} (h : Yf a0 = some r) : GTo Try.prog 55 [.sl a0.length (fl (eI .u64) a0)] O n (.sl r.length (fl (eI .u8) r)) O n := by
 unfold Yf at h
 refine Qp Zc Try.call55 Try.func55 rfl (Nat.le_of_ble_eq_true rfl) (Nat.le_refl _) fun hU => ?_
 have hN0 : O n = none := hU.fresh _ (Nat.le_refl _)
 have hN : ∀ k, O (n + k) = none := fun k => hU.fresh _ (Nat.le_add_right _ _)
 show W _ _ _ _ ⟨21, [], [(0, .sl a0.length (fl (eI .u64) a0))]⟩ (Zk O n []) _
 refine Zl [0] (Zb Zc [] ?_)
 simp only [push_cast, seval, ↓reduceIte, Za, hN0, hN]
 refine Zl [0, 3] (Zb Zc [] ?_)
 simp only [push_cast, seval, ↓reduceIte, Za, hN0, hN]
 refine Zf ?_
 refine Zl [0, 3, 4] (Zb Zc [] ?_)
 simp only [push_cast, seval, ↓reduceIte, Za, hN0, hN]
 refine Ze [0, 3, 4] [] ?_
 simp only [push_cast, seval, ↓reduceIte]
 refine Za8 (E' := (⟨21, [], [(0, .sl a0.length (fl (eI .u64) a0)), (3, .row n ([] : List Int).length), (4, .val (.int .i64 0))]⟩ : Env)) (O' := (Zk O n [some ⟨true, 5, 1, ([] : List Int).length, fl (eI .u8) ([] : List Int)⟩, none])) (n' := (n + 2)) ?_ ?_
 ·refine Fit2.trans (E' := (⟨21, [], [(0, .sl a0.length (fl (eI .u64) a0)), (3, .val (.slice none 0 0)), (4, .val (.int .i64 0))]⟩ : Env)) (O' := (Zk O n [])) (n' := n) (Fit2.of (Zh hU rfl rfl ?_) (by omega)) ?_
  ·simp only [push_cast, seval, ↓reduceIte, Za, hN0, hN]
  refine Fit2.trans (E' := (⟨21, [], [(3, .row n 0), (0, .sl a0.length (fl (eI .u64) a0)), (3, .val (.slice none 0 0)), (4, .val (.int .i64 0))]⟩ : Env)) (O' := (Zk O n [some ⟨true, 5, 1, 0, []⟩])) (n' := (n + 1)) ?_ ?_
  ·have ha := Vk (ba := n) (E := (⟨21, [], [(0, .sl a0.length (fl (eI .u64) a0)), (3, .val (.slice none 0 0)), (4, .val (.int .i64 0))]⟩ : Env)) (O := (Zk O n [])) (n := n) 3 5 1 rfl (by omega)
   simp only [Jl, Jk, Kt, Kc, List.set_cons_zero, List.set_cons_succ, List.cons_append, List.nil_append, List.length_cons, List.length_nil, Nat.zero_add, Nat.reduceAdd, Nat.reduceLT, Nat.add_assoc] at ha
   exact ha
  refine Fit2.trans (E' := (⟨21, [], [(0, .sl a0.length (fl (eI .u64) a0)), (3, .row n ([] : List Int).length), (4, .val (.int .i64 0))]⟩ : Env)) (O' := (Zk O n [some ⟨true, 5, 1, ([] : List Int).length, fl (eI .u8) ([] : List Int)⟩])) (n' := (n + 1)) (Fit2.of (Zh hU rfl rfl ?_) (by omega)) ?_
  ·simp only [push_cast, seval, ↓reduceIte, Za, hN0, hN]
  refine U8 (k := 1) (k' := 2) hU [0] [0, 0] rfl rfl rfl rfl ⟨rfl, rfl⟩ ?_
  simp only [push_cast, seval, ↓reduceIte, Za, hN0, hN]
 obtain ⟨z15, hz15, h⟩ := bC h
 refine Z7 (E' := ⟨21, [], [(3, .row n z15.length)]⟩) (O' := (Zk O n [some ⟨true, 5, 1, z15.length, fl (eI .u8) z15⟩, none])) (n0 := (n + 2)) ?_ ?_
 ·refine Yp hz15 (fun s0_ => ⟨21, [], [(0, .sl a0.length (fl (eI .u64) a0)), (3, .row n s0_.2.length), (4, .val (.int .i64 s0_.1))]⟩) (fun s0_ => (Zk O n [some ⟨true, 5, 1, s0_.2.length, fl (eI .u8) s0_.2⟩, none])) (fun z15 => JX 0 n (⟨21, [], [(3, .row n z15.length)]⟩ : Env) (Zk O n [some ⟨true, 5, 1, z15.length, fl (eI .u8) z15⟩, none]) (n + 2)) ?_
  intro s0_ x0_ hs0_
  unfold Yt at hs0_
  try dsimp only
  refine Zf ?_
  refine Zl [0, 3, 4, 9] (Zb Zc [] ?_)
  simp only [push_cast, seval, ↓reduceIte, Za, hN0, hN]
  refine Zs (t := (decide (s0_.1 < (a0.length : Int)))) rfl (fun c14 => ?_) (fun c14 => ?_)
  ·replace hs0_ := Z0 c14 hs0_
   refine Zt ?_
   try simp only [Zg, Zd]
   refine Ze [0, 3, 4] [true, false] ?_
   simp only [push_cast, seval, ↓reduceIte]
   refine Zf ?_
   refine Ye ?_
   refine Zf ?_
   obtain ⟨x6, hx6, ax6, bx6, cx6, hs0_⟩ := bE (f := (eI .u64)) Zcd (fun _ => rfl) (by decide) hs0_
   obtain ⟨y7, hy7, hs0_⟩ := bC hs0_
   obtain ⟨y8, hy8, ey8, hs0_⟩ := bY (f := (eI .u8)) (cs := [.val (.int .u8 0), .val (.int .u8 0), .val (.int .u8 0), .val (.int .u8 0), .val (.int .u8 0), .val (.int .u8 0), .val (.int .u8 0), .val (.int .u8 0)]) rfl hs0_
   have g9 := congrArg (GObj.mk false 114 8 1) ey8
   have g10 := Jt (f := (eI .u8)) y8 y7 (fun _ => rfl)
   refine Zb Zc [] ?_
   simp only [push_cast, Nat.reduceAdd, Nat.reduceSub, Nat.reduceMul, Nat.reduceLeDiff, Nat.reduceLT, Nat.reduceEqDiff, ↓reduceIte, reduceCtorEq, Int.reduceBEq, Int.reduceBNe, Nat.reduceBEq, Int.reduceLE, Int.reduceLT, Int.reduceEq, Int.reduceNe, Int.reduceNeg, Nat.reduceDiv, Nat.reduceMod, Nat.reducePow, Za, ax6, bx6, cx6, g9, g10, hN0, hN]
   refine (Vu hy7).then ?_
   simp only [push_cast, Nat.reduceAdd, Nat.reduceSub, Nat.reduceMul, Nat.reduceLeDiff, Nat.reduceLT, Nat.reduceEqDiff, ↓reduceIte, reduceCtorEq, Int.reduceBEq, Int.reduceBNe, Nat.reduceBEq, Int.reduceLE, Int.reduceLT, Int.reduceEq, Int.reduceNe, Int.reduceNeg, Nat.reduceDiv, Nat.reduceMod, Nat.reducePow, Za, ax6, bx6, cx6, g9, g10, hN0, hN]
   refine Ze [0, 3, 4, 5] [true, false, true] ?_
   simp only [push_cast, seval, ↓reduceIte]
   have g11 := Uf (j := (n + 2)) Vg Ks (by decide)
   have g12 := Zce (f := (eI .u8)) y7 (fun _ => rfl) 8 rfl
   obtain ⟨l13, pl13, ql13, el13, hs0_⟩ := bA (k := 8) y7.2 hs0_
   refine Zb Zc [] ?_
   simp only [push_cast, seval, ↓reduceIte, Za, g11, g12, pl13, ql13, el13, hN0, hN]
   refine Vx ⟨21, [], [(0, .sl a0.length (fl (eI .u64) a0)), (3, .row n l13.length), (4, .val (.int .i64 s0_.1))]⟩ (Zk O n [some ⟨true, 5, 1, l13.length, fl (eI .u8) l13⟩, none, none]) (Zh hU rfl rfl ?_) ?_
   ·simp only [push_cast, seval, ↓reduceIte, Za, g11, g12, pl13, ql13, el13, hN0, hN]
   refine Zb Zc [] ?_
   simp only [push_cast, seval, ↓reduceIte, Za, hN0, hN]
   have hs0_ := Option.some.inj hs0_; subst hs0_
   refine And.intro rfl (Fit2.of (Zh hU rfl rfl ?_) (by omega))
   simp only [push_cast, seval, ↓reduceIte, Za, hN0, hN]
  replace hs0_ := Zz c14 hs0_
  refine Xo ?_
  try simp only [Zg, Zd, ↓reduceIte, Nat.reduceEqDiff]
  have hs0_ := Option.some.inj hs0_; subst hs0_
  refine And.intro (fun h => by cases h) (And.intro rfl (Fit2.of (Zh hU rfl rfl ?_) (by omega)))
  simp only [push_cast, seval, ↓reduceIte, Za, hN0, hN]
 try simp only [Zg, Zd, ↓reduceIte, Nat.reduceEqDiff]
 refine Ze [3] [true, false] ?_
 simp only [push_cast, seval, ↓reduceIte]
 refine Zl [2] (Zb Zc [] ?_)
 simp only [push_cast, seval, ↓reduceIte, Za, hN0, hN]
 refine Z9 ?_
 try simp only [Zg, Zd]
 have h := Option.some.inj h; subst h
 refine Zp (.inr rfl) hU [.row n z15.length] (by omega) ?_
 simp only [push_cast, seval, ↓reduceIte, Za, Try.results55, hN0, hN]
theorem Vv {a0 : (List (List Int))} {r : ((List Int) × Bool)} {O : Objs} {n : Nat} (h : Yb a0 = some r) : GTo Try.prog 16 [.sl a0.length (fl (eL (eI .u64)) a0)] O n (.tup [.sl r.1.length (fl (eI .u8) r.1), .val (.bool r.2)]) O n := by
 unfold Yb at h
 refine Qp Zc Try.call16 Try.func16 rfl (Nat.le_of_ble_eq_true rfl) (Nat.le_refl _) fun hU => ?_
 have hN0 : O n = none := hU.fresh _ (Nat.le_refl _)
 have hN : ∀ k, O (n + k) = none := fun k => hU.fresh _ (Nat.le_add_right _ _)
 show W _ _ _ _ ⟨60, [], [(0, .sl a0.length (fl (eL (eI .u64)) a0))]⟩ (Zk O n []) _
 refine Zl [0] (Zb Zc [] ?_)
 simp only [push_cast, seval, ↓reduceIte, Za, hN0, hN]
 refine Zf ?_
 refine Zl [0, 14] (Zb Zc [none, none, none] ?_)
 simp only [push_cast, seval, ↓reduceIte, Za, hN0, hN]
 repeat (with_reducible refine And.intro (by first | (intro h0; simp only [h0, and_self]; done) | (intro h0; simp only [h0, Bool.not_false, Bool.not_true, Bool.true_and, Bool.and_true, true_and, and_true, and_self, imp_self, implies_true, bne_iff_ne, ne_eq, beq_iff_eq]; done) | (intros; simp_all; done) | exact True.intro) ?_)
 refine Zs (t := (cond ((a0.length : Int) == 0) true (decide (16 < (a0.length : Int))))) rfl (fun c19 => ?_) (fun c19 => ?_)
 ·replace h := Z0 c19 h
  refine Zl [2, 3] (Zb Zc [] ?_)
  simp only [push_cast, seval, ↓reduceIte, Za, hN0, hN]
  refine Z9 ?_
  try simp only [Zg, Zd]
  have h := Option.some.inj h; subst h
  refine Zp (.inr rfl) hU [.val (.slice none 0 0), .val (.bool false)] (by omega) ?_
  simp only [push_cast, seval, ↓reduceIte, Za, Try.results16, hN0, hN]
 replace h := Zz c19 h
 refine Zt ?_
 try simp only [Zg, Zd]
 refine Ze [0] [] ?_
 simp only [push_cast, seval, ↓reduceIte]
 refine Zf ?_
 obtain ⟨y2, hy2, h⟩ := bC h
 refine Zb Zc [] ?_
 simp only [push_cast, seval, ↓reduceIte, Za, hN0, hN]
 refine (Jb  hy2).then ?_
 simp only [push_cast, seval, ↓reduceIte, Za, hN0, hN]
 refine Ze [0, 4] [true] ?_
 simp only [push_cast, seval, ↓reduceIte]
 refine Zf ?_
 refine Zl [0, 4, 5] (Zb Zc [] ?_)
 simp only [push_cast, seval, ↓reduceIte, Za, hN0, hN]
 refine Ze [0, 4, 5] [true] ?_
 simp only [push_cast, seval, ↓reduceIte]
 obtain ⟨z10, hz10, h⟩ := bC h
 refine V9 (J := (Qz (fun z10 => JR n (⟨60, [], [(2, .val (.slice none 0 0)), (3, .val (.bool false))]⟩ : Env) (Zk O n [none]) (n + 1)) (fun z10 => JX 0 n (⟨60, [], [(0, .sl a0.length (fl (eL (eI .u64)) a0)), (4, .row n z10.length)]⟩ : Env) (Zk O n [some ⟨true, 5, 1, z10.length, fl (eI .u8) z10⟩]) (n + 1)))) (z := z10) ?_ fun hw => ?_
 ·refine Yp hz10 (fun s0_ => ⟨60, [], [(0, .sl a0.length (fl (eL (eI .u64)) a0)), (4, .row n s0_.2.length), (5, .val (.int .i64 s0_.1))]⟩) (fun s0_ => (Zk O n [some ⟨true, 5, 1, s0_.2.length, fl (eI .u8) s0_.2⟩])) (Qz (fun z10 => JR n (⟨60, [], [(2, .val (.slice none 0 0)), (3, .val (.bool false))]⟩ : Env) (Zk O n [none]) (n + 1)) (fun z10 => JX 0 n (⟨60, [], [(0, .sl a0.length (fl (eL (eI .u64)) a0)), (4, .row n z10.length)]⟩ : Env) (Zk O n [some ⟨true, 5, 1, z10.length, fl (eI .u8) z10⟩]) (n + 1))) ?_
  intro s0_ x0_ hs0_
  unfold Zo at hs0_
  try dsimp only
  refine Zf ?_
  refine Zl [0, 4, 5, 22] (Zb Zc [] ?_)
  simp only [push_cast, seval, ↓reduceIte, Za, hN0, hN]
  refine Zs (t := (decide (s0_.1 < (a0.length : Int)))) rfl (fun c9 => ?_) (fun c9 => ?_)
  ·replace hs0_ := Z0 c9 hs0_
   refine Zt ?_
   try simp only [Zg, Zd]
   refine Ze [0, 4, 5] [true] ?_
   simp only [push_cast, seval, ↓reduceIte]
   refine Zf ?_
   refine Ye ?_
   refine Zf ?_
   obtain ⟨x4, hx4, ax4, bx4, cx4, hs0_⟩ := bE (f := (eL (eI .u64))) V3 (fun _ => rfl) (by decide) hs0_
   refine Zl [0, 4, 5, 30] (Zb Zc [] ?_)
   simp only [push_cast, Nat.reduceAdd, Nat.reduceSub, Nat.reduceMul, Nat.reduceLeDiff, Nat.reduceLT, Nat.reduceEqDiff, ↓reduceIte, reduceCtorEq, Int.reduceBEq, Int.reduceBNe, Nat.reduceBEq, Int.reduceLE, Int.reduceLT, Int.reduceEq, Int.reduceNe, Int.reduceNeg, Nat.reduceDiv, Nat.reduceMod, Nat.reducePow, Za, ax4, bx4, cx4, hN0, hN]
   refine Zs (t := (decide (65536 < (x4.length : Int)))) rfl (fun c8 => ?_) (fun c8 => ?_)
   ·replace hs0_ := Z0 c8 hs0_
    refine Zl [2, 3] (Zb Zc [] ?_)
    simp only [push_cast, seval, ↓reduceIte, Za, hN0, hN]
    refine Z9 ?_
    try simp only [Zg, Zd]
    have hs0_ := Option.some.inj hs0_; subst hs0_
    refine And.intro (fun h => by cases h) (And.intro rfl (Fit2.of (Zh hU rfl rfl ?_) (by omega)))
    simp only [push_cast, seval, ↓reduceIte, Za, hN0, hN]
   replace hs0_ := Zz c8 hs0_
   refine Zt ?_
   try simp only [Zg, Zd]
   refine Ze [0, 4, 5] [true] ?_
   simp only [push_cast, seval, ↓reduceIte]
   obtain ⟨x5, hx5, ax5, bx5, cx5, hs0_⟩ := bE (f := (eL (eI .u64))) V3 (fun _ => rfl) (by decide) hs0_
   obtain ⟨y6, hy6, hs0_⟩ := bC hs0_
   obtain ⟨l7, pl7, ql7, el7, hs0_⟩ := bA (k := y6.length) rfl hs0_
   refine Zb Zc [] ?_
   simp only [push_cast, Nat.reduceAdd, Nat.reduceSub, Nat.reduceMul, Nat.reduceLeDiff, Nat.reduceLT, Nat.reduceEqDiff, ↓reduceIte, reduceCtorEq, Int.reduceBEq, Int.reduceBNe, Nat.reduceBEq, Int.reduceLE, Int.reduceLT, Int.reduceEq, Int.reduceNe, Int.reduceNeg, Nat.reduceDiv, Nat.reduceMod, Nat.reducePow, Za, ax5, bx5, cx5, pl7, ql7, el7, hN0, hN]
   refine (Jb  hy6).then ?_
   simp only [push_cast, Nat.reduceAdd, Nat.reduceSub, Nat.reduceMul, Nat.reduceLeDiff, Nat.reduceLT, Nat.reduceEqDiff, ↓reduceIte, reduceCtorEq, Int.reduceBEq, Int.reduceBNe, Nat.reduceBEq, Int.reduceLE, Int.reduceLT, Int.reduceEq, Int.reduceNe, Int.reduceNeg, Nat.reduceDiv, Nat.reduceMod, Nat.reducePow, Za, ax5, bx5, cx5, pl7, ql7, el7, hN0, hN]
   refine Vx ⟨60, [], [(0, .sl a0.length (fl (eL (eI .u64)) a0)), (4, .row n l7.length), (5, .val (.int .i64 s0_.1))]⟩ (Zk O n [some ⟨true, 5, 1, l7.length, fl (eI .u8) l7⟩, none]) (Zh hU rfl rfl ?_) ?_
   ·simp only [push_cast, Nat.reduceAdd, Nat.reduceSub, Nat.reduceMul, Nat.reduceLeDiff, Nat.reduceLT, Nat.reduceEqDiff, ↓reduceIte, reduceCtorEq, Int.reduceBEq, Int.reduceBNe, Nat.reduceBEq, Int.reduceLE, Int.reduceLT, Int.reduceEq, Int.reduceNe, Int.reduceNeg, Nat.reduceDiv, Nat.reduceMod, Nat.reducePow, Za, ax5, bx5, cx5, pl7, ql7, el7, hN0, hN]
   refine Zb Zc [] ?_
   simp only [push_cast, seval, ↓reduceIte, Za, hN0, hN]
   have hs0_ := Option.some.inj hs0_; subst hs0_
   refine And.intro rfl (Fit2.of (Zh hU rfl rfl ?_) (by omega))
   simp only [push_cast, seval, ↓reduceIte, Za, hN0, hN]
  replace hs0_ := Zz c9 hs0_
  refine Xo ?_
  try simp only [Zg, Zd, ↓reduceIte, Nat.reduceEqDiff]
  have hs0_ := Option.some.inj hs0_; subst hs0_
  refine And.intro (fun h => by cases h) (And.intro rfl (Fit2.of (Zh hU rfl rfl ?_) (by omega)))
  simp only [push_cast, seval, ↓reduceIte, Za, hN0, hN]
 rcases z10 with z10 | z10
 ·dsimp only [Qz] at hw h
  refine Jm hw ?_
  try simp only [Zg, Zd, ↓reduceIte, Nat.reduceEqDiff]
  have h := Option.some.inj h; subst h
  refine Zp (.inr rfl) hU [.val (.slice none 0 0), .val (.bool false)] (by omega) ?_
  simp only [push_cast, seval, ↓reduceIte, Za, Try.results16, hN0, hN]
 dsimp only [Qz] at hw h
 refine Z7 hw ?_
 try simp only [Zg, Zd, ↓reduceIte, Nat.reduceEqDiff]
 refine Ze [0, 4] [true] ?_
 simp only [push_cast, seval, ↓reduceIte]
 refine Zf ?_
 refine Ze [0, 4] [true] ?_
 simp only [push_cast, seval, ↓reduceIte]
 obtain ⟨z13, hz13, h⟩ := bC h
 refine Z7 (E' := ⟨60, [], [(0, .sl a0.length (fl (eL (eI .u64)) a0)), (4, .row n z13.length)]⟩) (O' := (Zk O n [some ⟨true, 5, 1, z13.length, fl (eI .u8) z13⟩])) (n0 := (n + 1)) ?_ ?_
 ·refine Yp hz13 (fun s1_ => ⟨60, [], [(0, .sl a0.length (fl (eL (eI .u64)) a0)), (4, .row n s1_.length)]⟩) (fun s1_ => (Zk O n [some ⟨true, 5, 1, s1_.length, fl (eI .u8) s1_⟩])) (fun z13 => JX 2 n (⟨60, [], [(0, .sl a0.length (fl (eL (eI .u64)) a0)), (4, .row n z13.length)]⟩ : Env) (Zk O n [some ⟨true, 5, 1, z13.length, fl (eI .u8) z13⟩]) (n + 1)) ?_
  intro s1_ x1_ hs1_
  unfold Zy at hs1_
  try dsimp only
  refine Zf ?_
  refine Zl [0, 4, 42] (Zb Zc [] ?_)
  simp only [push_cast, seval, ↓reduceIte, Za, hN0, hN]
  refine Zs (t := (decide (0 < (Int.tmod (s1_.length : Int) 8)))) rfl (fun c12 => ?_) (fun c12 => ?_)
  ·replace hs1_ := Z0 c12 hs1_
   refine Zt ?_
   try simp only [Zg, Zd]
   refine Ze [0, 4] [true] ?_
   simp only [push_cast, seval, ↓reduceIte]
   refine Ye ?_
   obtain ⟨l11, pl11, ql11, el11, hs1_⟩ := bA (k := 1) rfl hs1_
   refine Zb Zc [] ?_
   simp only [push_cast, seval, ↓reduceIte, Za, pl11, ql11, el11, hN0, hN]
   have hs1_ := Option.some.inj hs1_; subst hs1_
   refine And.intro rfl (Fit2.of (Zh hU rfl rfl ?_) (by omega))
   simp only [push_cast, seval, ↓reduceIte, Za, pl11, ql11, el11, hN0, hN]
  replace hs1_ := Zz c12 hs1_
  refine Xo ?_
  try simp only [Zg, Zd, ↓reduceIte, Nat.reduceEqDiff]
  have hs1_ := Option.some.inj hs1_; subst hs1_
  refine And.intro (fun h => by cases h) (And.intro rfl (Fit2.of (Zh hU rfl rfl ?_) (by omega)))
  simp only [push_cast, seval, ↓reduceIte, Za, hN0, hN]
 try simp only [Zg, Zd, ↓reduceIte, Nat.reduceEqDiff]
 refine Ze [0, 4] [true] ?_
 simp only [push_cast, seval, ↓reduceIte]
 refine Zf ?_
 refine Zl [0, 4, 6] (Zb Zc [] ?_)
 simp only [push_cast, seval, ↓reduceIte, Za, hN0, hN]
 refine Ze [0, 4, 6] [true] ?_
 simp only [push_cast, seval, ↓reduceIte]
 obtain ⟨z18, hz18, h⟩ := bC h
 refine Z7 (E' := ⟨60, [], [(4, .row n z18.length)]⟩) (O' := (Zk O n [some ⟨true, 5, 1, z18.length, fl (eI .u8) z18⟩])) (n0 := (n + 1)) ?_ ?_
 ·refine Yp hz18 (fun s2_ => ⟨60, [], [(0, .sl a0.length (fl (eL (eI .u64)) a0)), (4, .row n s2_.2.length), (6, .val (.int .i64 s2_.1))]⟩) (fun s2_ => (Zk O n [some ⟨true, 5, 1, s2_.2.length, fl (eI .u8) s2_.2⟩])) (fun z18 => JX 4 n (⟨60, [], [(4, .row n z18.length)]⟩ : Env) (Zk O n [some ⟨true, 5, 1, z18.length, fl (eI .u8) z18⟩]) (n + 1)) ?_
  intro s2_ x2_ hs2_
  unfold Z6 at hs2_
  try dsimp only
  refine Zf ?_
  refine Zl [0, 4, 6, 49] (Zb Zc [] ?_)
  simp only [push_cast, seval, ↓reduceIte, Za, hN0, hN]
  refine Zs (t := (decide (s2_.1 < (a0.length : Int)))) rfl (fun c17 => ?_) (fun c17 => ?_)
  ·replace hs2_ := Z0 c17 hs2_
   refine Zt ?_
   try simp only [Zg, Zd]
   refine Ze [0, 4, 6] [true] ?_
   simp only [push_cast, seval, ↓reduceIte]
   refine Zf ?_
   refine Ye ?_
   obtain ⟨x14, hx14, ax14, bx14, cx14, hs2_⟩ := bE (f := (eL (eI .u64))) V3 (fun _ => rfl) (by decide) hs2_
   obtain ⟨y15, hy15, hs2_⟩ := bC hs2_
   obtain ⟨l16, pl16, ql16, el16, hs2_⟩ := bA (k := y15.length) rfl hs2_
   refine Zb Zc [] ?_
   simp only [push_cast, Nat.reduceAdd, Nat.reduceSub, Nat.reduceMul, Nat.reduceLeDiff, Nat.reduceLT, Nat.reduceEqDiff, ↓reduceIte, reduceCtorEq, Int.reduceBEq, Int.reduceBNe, Nat.reduceBEq, Int.reduceLE, Int.reduceLT, Int.reduceEq, Int.reduceNe, Int.reduceNeg, Nat.reduceDiv, Nat.reduceMod, Nat.reducePow, Za, ax14, bx14, cx14, pl16, ql16, el16, hN0, hN]
   refine (Uk hy15).then ?_
   simp only [push_cast, Nat.reduceAdd, Nat.reduceSub, Nat.reduceMul, Nat.reduceLeDiff, Nat.reduceLT, Nat.reduceEqDiff, ↓reduceIte, reduceCtorEq, Int.reduceBEq, Int.reduceBNe, Nat.reduceBEq, Int.reduceLE, Int.reduceLT, Int.reduceEq, Int.reduceNe, Int.reduceNeg, Nat.reduceDiv, Nat.reduceMod, Nat.reducePow, Za, ax14, bx14, cx14, pl16, ql16, el16, hN0, hN]
   refine Vx ⟨60, [], [(0, .sl a0.length (fl (eL (eI .u64)) a0)), (4, .row n l16.length), (6, .val (.int .i64 s2_.1))]⟩ (Zk O n [some ⟨true, 5, 1, l16.length, fl (eI .u8) l16⟩]) (Zh hU rfl rfl ?_) ?_
   ·simp only [push_cast, Nat.reduceAdd, Nat.reduceSub, Nat.reduceMul, Nat.reduceLeDiff, Nat.reduceLT, Nat.reduceEqDiff, ↓reduceIte, reduceCtorEq, Int.reduceBEq, Int.reduceBNe, Nat.reduceBEq, Int.reduceLE, Int.reduceLT, Int.reduceEq, Int.reduceNe, Int.reduceNeg, Nat.reduceDiv, Nat.reduceMod, Nat.reducePow, Za, ax14, bx14, cx14, pl16, ql16, el16, hN0, hN]
   refine Zb Zc [] ?_
   simp only [push_cast, seval, ↓reduceIte, Za, hN0, hN]
   have hs2_ := Option.some.inj hs2_; subst hs2_
   refine And.intro rfl (Fit2.of (Zh hU rfl rfl ?_) (by omega))
   simp only [push_cast, seval, ↓reduceIte, Za, hN0, hN]
  replace hs2_ := Zz c17 hs2_
  refine Xo ?_
  try simp only [Zg, Zd, ↓reduceIte, Nat.reduceEqDiff]
  have hs2_ := Option.some.inj hs2_; subst hs2_
  refine And.intro (fun h => by cases h) (And.intro rfl (Fit2.of (Zh hU rfl rfl ?_) (by omega)))
  simp only [push_cast, seval, ↓reduceIte, Za, hN0, hN]
 try simp only [Zg, Zd, ↓reduceIte, Nat.reduceEqDiff]
 refine Ze [4] [true] ?_
 simp only [push_cast, seval, ↓reduceIte]
 refine Zl [2, 3] (Zb Zc [] ?_)
 simp only [push_cast, seval, ↓reduceIte, Za, hN0, hN]
 refine Z9 ?_
 try simp only [Zg, Zd]
 have h := Option.some.inj h; subst h
 refine Zp (.inr rfl) hU [.row n z18.length, .val (.bool true)] (by omega) ?_
 simp only [push_cast, seval, ↓reduceIte, Za, Try.results16, hN0, hN]
theorem J0 {a0 : (List (List Int))} {r : Bool} {O : Objs} {n : Nat} (h : Yq a0 = some r) : GTo Try.prog 3 [.sl a0.length (fl (eL (eI .u64)) a0)] O n (.val (.bool r)) O n := by
 unfold Yq at h
 refine Qp Zc Try.call3 Try.func3 rfl (Nat.le_of_ble_eq_true rfl) (Nat.le_refl _) fun hU => ?_
 have hN0 : O n = none := hU.fresh _ (Nat.le_refl _)
 have hN : ∀ k, O (n + k) = none := fun k => hU.fresh _ (Nat.le_add_right _ _)
 show W _ _ _ _ ⟨46, [], [(0, .sl a0.length (fl (eL (eI .u64)) a0))]⟩ (Zk O n []) _
 refine Zl [0] (Zb Zc [] ?_)
 simp only [push_cast, seval, ↓reduceIte, Za, hN0, hN]
 refine Zf ?_
 obtain ⟨y2, hy2, h⟩ := bC h
 refine Zb Zc [] ?_
 simp only [push_cast, seval, ↓reduceIte, Za, hN0, hN]
 refine (Vb hy2).then ?_
 simp only [push_cast, seval, ↓reduceIte, Za, hN0, hN]
 refine Ze [0, 3, 4] [] ?_
 simp only [push_cast, seval, ↓reduceIte]
 refine Zf ?_
 obtain ⟨y4, hy4, h⟩ := bC h
 refine Zb Zc [] ?_
 simp only [push_cast, seval, ↓reduceIte, Za, hN0, hN]
 refine (Vv hy4).then ?_
 simp only [push_cast, seval, ↓reduceIte, Za, hN0, hN]
 refine Ze [0, 3, 4, 5, 6] [] ?_
 simp only [push_cast, seval, ↓reduceIte]
 refine Zf ?_
 refine Zf ?_
 obtain ⟨y6, hy6, h⟩ := bC h
 refine Zb Zc [none, none, none] ?_
 simp only [push_cast, seval, ↓reduceIte, Za, hN0, hN]
 repeat (with_reducible refine And.intro (by first | (intro h0; simp only [h0, and_self]; done) | (intro h0; simp only [h0, Bool.not_false, Bool.not_true, Bool.true_and, Bool.and_true, true_and, and_true, and_self, imp_self, implies_true, bne_iff_ne, ne_eq, beq_iff_eq]; done) | (intros; simp_all; done) | exact True.intro) ?_)
 refine (Y0 hy6).then ?_
 simp only [push_cast, seval, ↓reduceIte, Za, hN0, hN]
 repeat (with_reducible refine And.intro (by first | (intro h0; simp only [h0, and_self]; done) | (intro h0; simp only [h0, Bool.not_false, Bool.not_true, Bool.true_and, Bool.and_true, true_and, and_true, and_self, imp_self, implies_true, bne_iff_ne, ne_eq, beq_iff_eq]; done) | (intros; simp_all; done) | exact True.intro) ?_)
 refine Ze [0, 3, 4, 27] [] ?_
 simp only [push_cast, seval, ↓reduceIte]
 refine Zs (t := (cond (!y6) true (y2.2 != y4.2))) rfl (fun c21 => ?_) (fun c21 => ?_)
 ·replace h := Z0 c21 h
  refine Zl [2] (Zb Zc [] ?_)
  simp only [push_cast, seval, ↓reduceIte, Za, hN0, hN]
  refine Z9 ?_
  try simp only [Zg, Zd]
  have h := Option.some.inj h; subst h
  refine Zp (.inr rfl) hU [.val (.bool false)] (by omega) ?_
  simp only [push_cast, seval, ↓reduceIte, Za, Try.results3, hN0, hN]
 replace h := Zz c21 h
 refine Zt ?_
 try simp only [Zg, Zd]
 refine Ze [0, 3, 4] [] ?_
 simp only [push_cast, seval, ↓reduceIte]
 refine Zf ?_
 refine Zl [0, 3, 29] (Zb Zc [] ?_)
 simp only [push_cast, seval, ↓reduceIte, Za, hN0, hN]
 refine Zs (t := (!y2.2)) rfl (fun c20 => ?_) (fun c20 => ?_)
 ·replace h := Z0 c20 h
  refine Zf ?_
  obtain ⟨y8, hy8, h⟩ := bC h
  refine Zb Zc [] ?_
  simp only [push_cast, seval, ↓reduceIte, Za, hN0, hN]
  refine (Jh hy8).then ?_
  simp only [push_cast, seval, ↓reduceIte, Za, hN0, hN]
  refine Ze [2] [] ?_
  simp only [push_cast, seval, ↓reduceIte]
  refine Z9 ?_
  try simp only [Zg, Zd]
  have h := Option.some.inj h; subst h
  refine Zp (.inr rfl) hU [.val (.bool y8)] (by omega) ?_
  simp only [push_cast, seval, ↓reduceIte, Za, Try.results3, hN0, hN]
 replace h := Zz c20 h
 refine Zt ?_
 try simp only [Zg, Zd]
 refine Ze [0, 3] [] ?_
 simp only [push_cast, seval, ↓reduceIte]
 refine Zf ?_
 obtain ⟨y10, hy10, h⟩ := bC h
 refine Zb Zc [] ?_
 simp only [push_cast, seval, ↓reduceIte, Za, hN0, hN]
 refine (Km hy10).then ?_
 simp only [push_cast, seval, ↓reduceIte, Za, hN0, hN]
 refine Ze [0, 7, 8] [] ?_
 simp only [push_cast, seval, ↓reduceIte]
 obtain ⟨z13, hz13, h⟩ := bC h
 refine Zk5 (E' := ⟨46, [], [(2, .val (.bool z13))]⟩) (O' := (Zk O n [])) (n0 := n) ?_ ?_
 ·rcases Bool.eq_false_or_eq_true (y10.2 == 0) with c18 | c18
  ·replace hz13 := Z0 c18 hz13
   obtain ⟨y16, hy16, hz13⟩ := bC hz13
   rcases Bool.eq_false_or_eq_true y16 with c19 | c19
   ·replace hz13 := Z0 c19 hz13
    try rw [c19] at c18
    obtain ⟨y17, hy17, hz13⟩ := bC hz13
    refine Zb Zc [some true, some true, some true, some true] ?_
    simp only [push_cast, seval, ↓reduceIte, Za, c18, c19, hN0, hN]
    refine (Qo hy16).then ?_
    simp only [push_cast, seval, ↓reduceIte, Za, c18, c19, hN0, hN]
    refine (Jh hy17).then ?_
    simp only [push_cast, seval, ↓reduceIte, Za, c18, c19, hN0, hN]
    have hz13 := Option.some.inj hz13; subst hz13
    refine And.intro rfl (Fit2.of (Zh hU rfl rfl ?_) (by omega))
    simp only [push_cast, seval, ↓reduceIte, Za, c18, c19, hN0, hN]
   replace hz13 := Zz c19 hz13
   try rw [c19] at c18
   refine Zb Zc [some true, some true, some true, some false] ?_
   simp only [push_cast, seval, ↓reduceIte, Za, c18, c19, hN0, hN]
   refine (Qo hy16).then ?_
   simp only [push_cast, seval, ↓reduceIte, Za, c18, c19, hN0, hN]
   have hz13 := Option.some.inj hz13; subst hz13
   refine And.intro rfl (Fit2.of (Zh hU rfl rfl ?_) (by omega))
   simp only [push_cast, seval, ↓reduceIte, Za, c18, c19, hN0, hN]
  replace hz13 := Zz c18 hz13
  refine Zb Zc [some false, some false, some false, some false] ?_
  simp only [push_cast, seval, ↓reduceIte, Za, c18, hN0, hN]
  have hz13 := Option.some.inj hz13; subst hz13
  refine And.intro rfl (Fit2.of (Zh hU rfl rfl ?_) (by omega))
  simp only [push_cast, seval, ↓reduceIte, Za, c18, hN0, hN]
 refine Z9 ?_
 try simp only [Zg, Zd]
 have h := Option.some.inj h; subst h
 refine Zp (.inr rfl) hU [.val (.bool z13)] (by omega) ?_
 simp only [push_cast, seval, ↓reduceIte, Za, Try.results3, hN0, hN]
end Go.Proofs.Ytgijkjifiekkmaa
