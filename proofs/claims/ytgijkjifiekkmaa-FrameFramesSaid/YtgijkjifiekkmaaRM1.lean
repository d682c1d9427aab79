/- Part RM1 of this seat's mirrors: functions of the seat's program, and the plain functions that they are; each theorem bears its own conditions. -/
import Derived.Test.YtgijkjifiekkmaaRE
namespace Go.Proofs.Ytgijkjifiekkmaa
open Go.RowKit
set_option linter.unusedVariables false
set_option linter.unusedSimpArgs false
set_option maxRecDepth 100000
set_option maxHeartbeats 4000000
attribute [local push_cast] Zil Zik Zi7 Zi6 Zg Zd Zfy Zbm Zbl onW Zx Q9 Ji Zdk Zeq Zd4 Zd8 Zd3 Zd7 Zg2 Zgz Zd6 Zg1 Zg0 Zd5 Zgx Zcc Ur wok Xp Op.operands Call.operands gop onK onP atK List.all_cons List.all_nil Bool.and_true Bool.true_and Bool.and_self Value.oneCell' List.take_zero List.take_succ_cons List.take_nil List.drop_zero List.drop_succ_cons List.drop_nil List.append_nil Nat.add_zero Nat.zero_add Qs Zm ev Y9 Zft Zid Zic Zii Zig Zih Zie Zif Zib Zcu Zem Zho Uh Jr Zak Kv Zdj Ky Zad Zai Zbg Zbd Zag Zbf Zbe Zaf Zbb Zae Zah Uu Zbc U2 Zbn Q1 U3 Q2 Gn Uc Zfz Jz Gf Vt Js Gl Zks Ub U1 Kw Qq Zfv Zku Uy Zkx Kf Zlc Zf7 Zgb Zf6 Zga Ziv Zis Ziq Zdn Zf8 Ziu Zit Zf9 Zir Ud Zcv Zgn Zb5 Zb4 Vw TK.isAgg Zi0 Zi5 Ziz Zi4 Zgg Zlv Zls Zi3 Zlu Zlt Zi1 Zlr G.under G.unders List.getD_cons_zero List.getD_cons_succ List.set_cons_zero List.set_cons_succ List.map_cons List.map_nil List.toList_toArray Array.toList_append Option.toArray_none Option.toArray_some Array.toList_map Option.map_some Option.map_none Option.bind_some Option.bind_none List.getElem?_cons_zero List.getElem?_cons_succ List.getElem?_nil List.nil_append List.cons_append List.replicate_succ List.replicate_zero List.length_cons List.length_nil and_true true_and and_false false_and Bool.true_eq_false Bool.false_eq_true forall_const false_implies implies_true IntKind.bits if_true if_false ite_true ite_false eq_self true_implies false_or or_false or_true true_or not_true_eq_false not_false_eq_true decide_true decide_false decide_eq_true_eq decide_eq_false_iff_not beq_iff_eq bne_iff_ne ne_eq Bool.not_eq_true Bool.not_eq_false beq_eq_false_iff_ne bne_eq_false_iff_eq beq_self_eq_true bne_self_eq_false Option.some.injEq exists_eq_left' exists_eq_left ge_iff_le gt_iff_lt decide_not Bool.not_true Bool.not_false imp_self Zle cond_true cond_false Zo5 Zo4 Bool.not_not Bool.and_false Bool.false_and Bool.or_true Bool.true_or Bool.or_false Bool.false_or V8 Zh4 Kt Kc Jl Jk Option.join_some Nat.add_assoc Int.toNat_natCast eI eB eS eL Zei Gq Zam Zio Zim Zin Zlq Zm3 Gw Zas Zje Zjc Zjd Zhv Za1 Zh7 Zay Zfn Ke Zhl List.length_append G.agg.injEq G.row.injEq G.ref.injEq G.val.injEq G.sl.injEq G.tup.injEq Value.int.injEq Value.bool.injEq Value.string.injEq List.cons.injEq exists_and_left exists_const List.flatten_cons List.flatten_nil Int.le_refl Nat.le_refl Zg7 J3 Zfi Bool.not_eq_true' Bool.not_eq_false' Zkl Zcn Zme Zmj Zmd Zmi Zoi Zoe List.size_toArray Ze1 Zgq G.ren G.rens Zhy G0 Zjg Zh9 Zia Zgy Zmk Gu G.fn.injEq Zg9 Zha Zkk Zof Zg8 Zmh Zoh Zog Zmg Zlk Zng Option.join_none Xn Q5 undef U4 Arr.len Arr.put_eq Gv Zdr Zb1 Zar Zjb Zi9 Zja onB Zlp Zfr Zgs Ze8 Ze9 Zfa Zfb Zfc Zfd Zdo Zdv Zdt Zb3 Zat Zdu Zgm Zgl Zgk Zgj Zm2 Zot Zhu Zk2 Ka Zmz Zos Zdw Zb2 Zm4 Zlz Zeg Uv Ga Zb8 Zfe Zff Zfg Zfh Zc3 Zc4 Zc5 Zc6 Zc7 Zc8 Zc9 J4 prT Zf4 Zpa Zl4 Zm8 Zl5 Zpb Zl6 Ks Zl7 Zpc Zl8 Zpd Zl9 Zpe Zma Zpf Zmb Zni Zjm Znj Zjn Znk Zjo Znl Zjp Znm Zjq Znn Zjr Zno Zjs Znp Zjt Znq Zju Znr Zjv Zns Zjw Znt Zjx Znu K3 Znv Zjy Zcd Zjz Znw Zj0 Znx Zj1 Zny Zj2 Znz Zj3 Zn0 Zj4 Zn1 Zj5 Zn2 Zj6 Zn3 Zj7 Zn4 Zj8 Zn5 Zj9 V3 Zka Zn6 Zkb Zn7 Zkc Zn8 Zkd Zn9 Zke Zoa Zkf Zob Zkg Zoc Zkh Zod Zki Zl2 Zg5 Zl3 Zg6 Uq Vg Zec Zeb Zdm Zdp Zed Zcj Zb9 Zb7 Zd9 Zco Zcl Zbt Zby Zcq Zaz Zaw Zau Zcf Zcp Zcm Zbu Zbz Zcr Za0 Zax Zav Zcg V6 V5 V0 V2 V7 Vi Ve Vd V4
theorem J9 {a0 : (List Int)} {a1 : Int} {r : Int} {O : Objs} {n : Nat} (h : Zw a0 a1 = some r) : GTo Try.prog 82 [.sl a0.length (fl (eI .u8) a0), .val (.int .i64 a1)] O n (.val (.int .i64 r)) O n := by
 unfold Zw at h
 refine Qp Zc Try.call82 Try.func82 rfl (Nat.le_of_ble_eq_true rfl) (Nat.le_refl _) fun hU => ?_
 have hN0 : O n = none := hU.fresh _ (Nat.le_refl _)
 have hN : ∀ k, O (n + k) = none := fun k => hU.fresh _ (Nat.le_add_right _ _)
 show W _ _ _ _ ⟨34, [], [(0, .sl a0.length (fl (eI .u8) a0)), (1, .val (.int .i64 a1))]⟩ (Zk O n []) _
 refine Zl [0, 1] (Zb Zc [] ?_)
 simp only [push_cast, seval, ↓reduceIte, Za, hN0, hN]
 obtain ⟨x5, hx5, ax5, bx5, cx5, h⟩ := bE (f := (eI .u8)) Ks (fun _ => rfl) (by decide) h
 obtain ⟨x6, hx6, ax6, bx6, cx6, h⟩ := bE (f := (eI .u8)) Ks (fun _ => rfl) (by decide) h
 obtain ⟨x7, hx7, ax7, bx7, cx7, h⟩ := bE (f := (eI .u8)) Ks (fun _ => rfl) (by decide) h
 obtain ⟨x8, hx8, ax8, bx8, cx8, h⟩ := bE (f := (eI .u8)) Ks (fun _ => rfl) (by decide) h
 refine Zl [4] (Za3 Zc (by kernel_rfl) [] (by kernel_rfl) ?_)
 simp only [push_cast, Nat.reduceAdd, Nat.reduceSub, Nat.reduceMul, Nat.reduceLeDiff, Nat.reduceLT, Nat.reduceEqDiff, ↓reduceIte, reduceCtorEq, Int.reduceBEq, Int.reduceBNe, Nat.reduceBEq, Int.reduceLE, Int.reduceLT, Int.reduceEq, Int.reduceNe, Int.reduceNeg, Nat.reduceDiv, Nat.reduceMod, Nat.reducePow, Za, ax5, bx5, cx5, ax6, bx6, cx6, ax7, bx7, cx7, ax8, bx8, cx8, hN0, hN]
 refine Z9 ?_
 try simp only [Zg, Zd]
 have h := Option.some.inj h; subst h
 refine Zp (.inr rfl) hU [.val (.int .i64 (IntKind.i64.wrap (U6 .i64 (IntKind.i64.wrap (U6 .i64 (IntKind.i64.wrap (U6 .i64 (IntKind.i64.wrap x5) (IntKind.i64.wrap ((IntKind.i64.wrap x6) * 2 ^ min (Int.toNat 8) 64)))) (IntKind.i64.wrap ((IntKind.i64.wrap x7) * 2 ^ min (Int.toNat 16) 64)))) (IntKind.i64.wrap ((IntKind.i64.wrap x8) * 2 ^ min (Int.toNat 24) 64)))))] (by omega) ?_
 simp only [push_cast, seval, ↓reduceIte, Za, Try.results82, hN0, hN]
theorem Qe {a0 : Int} {r : Int} {O : Objs} {n : Nat} (h : Yl a0 = some r) : GTo Try.prog 52 [.val (.int .i64 a0)] O n (.val (.int .i64 r)) O n := by
 unfold Yl at h
 refine Qp Zc Try.call52 Try.func52 rfl (Nat.le_of_ble_eq_true rfl) (Nat.le_refl _) fun hU => ?_
 have hN0 : O n = none := hU.fresh _ (Nat.le_refl _)
 have hN : ∀ k, O (n + k) = none := fun k => hU.fresh _ (Nat.le_add_right _ _)
 show W _ _ _ _ ⟨9, [], [(0, .val (.int .i64 a0))]⟩ (Zk O n []) _
 refine Zl [0] (Zb Zc [] ?_)
 simp only [push_cast, seval, ↓reduceIte, Za, hN0, hN]
 refine Zl [2] (Zb Zc [] ?_)
 simp only [push_cast, seval, ↓reduceIte, Za, hN0, hN]
 refine Z9 ?_
 try simp only [Zg, Zd]
 have h := Option.some.inj h; subst h
 refine Zp (.inr rfl) hU [.val (.int .i64 (IntKind.i64.wrap ((IntKind.i64.wrap (Int.tdiv (IntKind.i64.wrap ((IntKind.i64.wrap (4 * (IntKind.i64.wrap (a0 + 1)))) + 7)) 8)) * 8)))] (by omega) ?_
 simp only [push_cast, seval, ↓reduceIte, Za, Try.results52, hN0, hN]
theorem Zcx {a0 : (List Int)} {r : ((List Int) × Int)} {O : Objs} {n : Nat} (h : Qx a0 = some r) : GTo Try.prog 56 [.sl a0.length (fl (eI .u8) a0)] O n (.tup [.sl r.1.length (fl (eI .i64) r.1), .val (.int .i64 r.2)]) O n := by
 unfold Qx at h
 refine Qp Zc Try.call56 Try.func56 rfl (Nat.le_of_ble_eq_true rfl) (Nat.le_refl _) fun hU => ?_
 have hN0 : O n = none := hU.fresh _ (Nat.le_refl _)
 have hN : ∀ k, O (n + k) = none := fun k => hU.fresh _ (Nat.le_add_right _ _)
 show W _ _ _ _ ⟨55, [], [(0, .sl a0.length (fl (eI .u8) a0))]⟩ (Zk O n []) _
 refine Zl [0] (Zb Zc [] ?_)
 simp only [push_cast, seval, ↓reduceIte, Za, hN0, hN]
 refine Zf ?_
 refine Zl [0, 12] (Zb Zc [] ?_)
 simp only [push_cast, seval, ↓reduceIte, Za, hN0, hN]
 refine Zs (t := (decide ((a0.length : Int) < 4))) rfl (fun c22 => ?_) (fun c22 => ?_)
 ·replace h := Z0 c22 h
  refine Zl [2, 3] (Zb Zc [] ?_)
  simp only [push_cast, seval, ↓reduceIte, Za, hN0, hN]
  refine Z9 ?_
  try simp only [Zg, Zd]
  have h := Option.some.inj h; subst h
  refine Zp (.inr rfl) hU [.val (.slice none 0 0), .val (.int .i64 4)] (by omega) ?_
  simp only [push_cast, seval, ↓reduceIte, Za, Try.results56, hN0, hN]
 replace h := Zz c22 h
 refine Zt ?_
 try simp only [Zg, Zd]
 refine Ze [0] [] ?_
 simp only [push_cast, seval, ↓reduceIte]
 refine Zf ?_
 obtain ⟨y2, hy2, h⟩ := bC h
 refine Zb Zc [] ?_
 simp only [push_cast, seval, ↓reduceIte, Za, hN0, hN]
 refine (J9 hy2).then ?_
 simp only [push_cast, seval, ↓reduceIte, Za, hN0, hN]
 refine Ze [0, 4] [] ?_
 simp only [push_cast, seval, ↓reduceIte]
 refine Zf ?_
 refine Zl [0, 4, 17] (Zb Zc [] ?_)
 simp only [push_cast, seval, ↓reduceIte, Za, hN0, hN]
 refine Zs (t := (decide (16 < (IntKind.i64.wrap (y2 + 1))))) rfl (fun c21 => ?_) (fun c21 => ?_)
 ·replace h := Z0 c21 h
  refine Zl [2, 3] (Zb Zc [] ?_)
  simp only [push_cast, seval, ↓reduceIte, Za, hN0, hN]
  refine Z9 ?_
  try simp only [Zg, Zd]
  have h := Option.some.inj h; subst h
  refine Zp (.inr rfl) hU [.val (.slice none 0 0), .val (.int .i64 3)] (by omega) ?_
  simp only [push_cast, seval, ↓reduceIte, Za, Try.results56, hN0, hN]
 replace h := Zz c21 h
 refine Zt ?_
 try simp only [Zg, Zd]
 refine Ze [0, 4] [] ?_
 simp only [push_cast, seval, ↓reduceIte]
 refine Zf ?_
 refine Zf ?_
 obtain ⟨y4, hy4, h⟩ := bC h
 refine Zb Zc [] ?_
 simp only [push_cast, seval, ↓reduceIte, Za, hN0, hN]
 refine (Qe hy4).then ?_
 simp only [push_cast, seval, ↓reduceIte, Za, hN0, hN]
 refine Ze [0, 4, 22] [] ?_
 simp only [push_cast, seval, ↓reduceIte]
 refine Zs (t := (decide ((a0.length : Int) < y4))) rfl (fun c20 => ?_) (fun c20 => ?_)
 ·replace h := Z0 c20 h
  refine Zl [2, 3] (Zb Zc [] ?_)
  simp only [push_cast, seval, ↓reduceIte, Za, hN0, hN]
  refine Z9 ?_
  try simp only [Zg, Zd]
  have h := Option.some.inj h; subst h
  refine Zp (.inr rfl) hU [.val (.slice none 0 0), .val (.int .i64 4)] (by omega) ?_
  simp only [push_cast, seval, ↓reduceIte, Za, Try.results56, hN0, hN]
 replace h := Zz c20 h
 refine Zt ?_
 try simp only [Zg, Zd]
 refine Ze [0, 4] [] ?_
 simp only [push_cast, seval, ↓reduceIte]
 refine Zl [0, 4, 5] (Zb Zc [] ?_)
 simp only [push_cast, seval, ↓reduceIte, Za, hN0, hN]
 refine Zf ?_
 refine Zl [0, 4, 5, 23, 24] (Zb Zc [] ?_)
 simp only [push_cast, seval, ↓reduceIte, Za, hN0, hN]
 refine Ze [0, 4, 5, 23, 24] [] ?_
 simp only [push_cast, seval, ↓reduceIte]
 refine Za8 (E' := (⟨55, [], [(0, .sl a0.length (fl (eI .u8) a0)), (4, .val (.int .i64 (IntKind.i64.wrap (y2 + 1)))), (5, .row n ([] : List Int).length), (23, .val (.int .i64 (IntKind.i64.wrap (y2 + 1)))), (24, .val (.int .i64 0))]⟩ : Env)) (O' := (Zk O n [some ⟨true, 3, 1, ([] : List Int).length, fl (eI .i64) ([] : List Int)⟩, none])) (n' := (n + 2)) ?_ ?_
 ·refine Fit2.trans (E' := (⟨55, [], [(0, .sl a0.length (fl (eI .u8) a0)), (4, .val (.int .i64 (IntKind.i64.wrap (y2 + 1)))), (5, .val (.slice none 0 0)), (23, .val (.int .i64 (IntKind.i64.wrap (y2 + 1)))), (24, .val (.int .i64 0))]⟩ : Env)) (O' := (Zk O n [])) (n' := n) (Fit2.of (Zh hU rfl rfl ?_) (by omega)) ?_
  ·simp only [push_cast, seval, ↓reduceIte, Za, hN0, hN]
  refine Fit2.trans (E' := (⟨55, [], [(5, .row n 0), (0, .sl a0.length (fl (eI .u8) a0)), (4, .val (.int .i64 (IntKind.i64.wrap (y2 + 1)))), (5, .val (.slice none 0 0)), (23, .val (.int .i64 (IntKind.i64.wrap (y2 + 1)))), (24, .val (.int .i64 0))]⟩ : Env)) (O' := (Zk O n [some ⟨true, 3, 1, 0, []⟩])) (n' := (n + 1)) ?_ ?_
  ·have ha := Vk (ba := n) (E := (⟨55, [], [(0, .sl a0.length (fl (eI .u8) a0)), (4, .val (.int .i64 (IntKind.i64.wrap (y2 + 1)))), (5, .val (.slice none 0 0)), (23, .val (.int .i64 (IntKind.i64.wrap (y2 + 1)))), (24, .val (.int .i64 0))]⟩ : Env)) (O := (Zk O n [])) (n := n) 5 3 1 rfl (by omega)
   simp only [Jl, Jk, Kt, Kc, List.set_cons_zero, List.set_cons_succ, List.cons_append, List.nil_append, List.length_cons, List.length_nil, Nat.zero_add, Nat.reduceAdd, Nat.reduceLT, Nat.add_assoc] at ha
   exact ha
  refine Fit2.trans (E' := (⟨55, [], [(0, .sl a0.length (fl (eI .u8) a0)), (4, .val (.int .i64 (IntKind.i64.wrap (y2 + 1)))), (5, .row n ([] : List Int).length), (23, .val (.int .i64 (IntKind.i64.wrap (y2 + 1)))), (24, .val (.int .i64 0))]⟩ : Env)) (O' := (Zk O n [some ⟨true, 3, 1, ([] : List Int).length, fl (eI .i64) ([] : List Int)⟩])) (n' := (n + 1)) (Fit2.of (Zh hU rfl rfl ?_) (by omega)) ?_
  ·simp only [push_cast, seval, ↓reduceIte, Za, hN0, hN]
  refine U8 (k := 1) (k' := 2) hU [0] [0, 0] rfl rfl rfl rfl ⟨rfl, rfl⟩ ?_
  simp only [push_cast, seval, ↓reduceIte, Za, hN0, hN]
 obtain ⟨z10, hz10, h⟩ := bC h
 refine V9 (J := (Qz (fun z10 => JR n (⟨55, [], [(2, .val (.slice none 0 0)), (3, .val (.int .i64 3))]⟩ : Env) (Zk O n []) n) (fun z10 => JX 0 n (⟨55, [], [(0, .sl a0.length (fl (eI .u8) a0)), (4, .val (.int .i64 (IntKind.i64.wrap (y2 + 1)))), (5, .row n z10.length)]⟩ : Env) (Zk O n [some ⟨true, 3, 1, z10.length, fl (eI .i64) z10⟩, none]) (n + 2)))) (z := z10) ?_ fun hw => ?_
 ·refine Yp hz10 (fun s0_ => ⟨55, [], [(0, .sl a0.length (fl (eI .u8) a0)), (4, .val (.int .i64 (IntKind.i64.wrap (y2 + 1)))), (5, .row n s0_.2.length), (23, .val (.int .i64 (IntKind.i64.wrap (y2 + 1)))), (24, .val (.int .i64 s0_.1))]⟩) (fun s0_ => (Zk O n [some ⟨true, 3, 1, s0_.2.length, fl (eI .i64) s0_.2⟩, none])) (Qz (fun z10 => JR n (⟨55, [], [(2, .val (.slice none 0 0)), (3, .val (.int .i64 3))]⟩ : Env) (Zk O n []) n) (fun z10 => JX 0 n (⟨55, [], [(0, .sl a0.length (fl (eI .u8) a0)), (4, .val (.int .i64 (IntKind.i64.wrap (y2 + 1)))), (5, .row n z10.length)]⟩ : Env) (Zk O n [some ⟨true, 3, 1, z10.length, fl (eI .i64) z10⟩, none]) (n + 2))) ?_
  intro s0_ x0_ hs0_
  unfold Y4 at hs0_
  try dsimp only
  refine Zl [0, 4, 5, 23, 24, 25] (Zb Zc [] ?_)
  simp only [push_cast, seval, ↓reduceIte, Za, hN0, hN]
  refine Zf ?_
  refine Zs (t := (decide (s0_.1 < (IntKind.i64.wrap (y2 + 1))))) rfl (fun c9 => ?_) (fun c9 => ?_)
  ·replace hs0_ := Z0 c9 hs0_
   refine Zt ?_
   try simp only [Zg, Zd]
   refine Ze [0, 4, 5, 23, 24] [true, false] ?_
   simp only [push_cast, seval, ↓reduceIte]
   refine Zf ?_
   refine Ye ?_
   refine Zl [0, 4, 5, 6, 23, 24] (Zb Zc [] ?_)
   simp only [push_cast, seval, ↓reduceIte, Za, hN0, hN]
   refine Zf ?_
   obtain ⟨y6, hy6, hs0_⟩ := bC hs0_
   refine Zb Zc [] ?_
   simp only [push_cast, seval, ↓reduceIte, Za, hN0, hN]
   refine (J9 hy6).then ?_
   simp only [push_cast, seval, ↓reduceIte, Za, hN0, hN]
   refine Ze [0, 4, 5, 7, 23, 24] [true, false] ?_
   simp only [push_cast, seval, ↓reduceIte]
   refine Zf ?_
   refine Zl [0, 4, 5, 7, 23, 24, 33] (Zb Zc [] ?_)
   simp only [push_cast, seval, ↓reduceIte, Za, hN0, hN]
   refine Zs (t := (decide (65536 < y6))) rfl (fun c8 => ?_) (fun c8 => ?_)
   ·replace hs0_ := Z0 c8 hs0_
    refine Zl [2, 3] (Zb Zc [] ?_)
    simp only [push_cast, seval, ↓reduceIte, Za, hN0, hN]
    refine Z9 ?_
    try simp only [Zg, Zd]
    have hs0_ := Option.some.inj hs0_; subst hs0_
    refine And.intro (fun h => by cases h) (And.intro rfl (Fit2.of (Zh hU rfl rfl ?_) (by omega)))
    simp only [push_cast, seval, ↓reduceIte, Za, hN0, hN]
   replace hs0_ := Zz c8 hs0_
   refine Zt ?_
   try simp only [Zg, Zd]
   refine Ze [0, 4, 5, 7, 23, 24] [true, false] ?_
   simp only [push_cast, seval, ↓reduceIte]
   obtain ⟨l7, pl7, ql7, el7, hs0_⟩ := bA (k := 1) rfl hs0_
   refine Zb Zc [] ?_
   simp only [push_cast, seval, ↓reduceIte, Za, pl7, ql7, el7, hN0, hN]
   refine Vx ⟨55, [], [(0, .sl a0.length (fl (eI .u8) a0)), (4, .val (.int .i64 (IntKind.i64.wrap (y2 + 1)))), (5, .row n l7.length), (23, .val (.int .i64 (IntKind.i64.wrap (y2 + 1)))), (24, .val (.int .i64 s0_.1))]⟩ (Zk O n [some ⟨true, 3, 1, l7.length, fl (eI .i64) l7⟩, none, none]) (Zh hU rfl rfl ?_) ?_
   ·simp only [push_cast, seval, ↓reduceIte, Za, pl7, ql7, el7, hN0, hN]
   refine Zb Zc [] ?_
   simp only [push_cast, seval, ↓reduceIte, Za, hN0, hN]
   have hs0_ := Option.some.inj hs0_; subst hs0_
   refine And.intro rfl (Fit2.of (Zh hU rfl rfl ?_) (by omega))
   simp only [push_cast, seval, ↓reduceIte, Za, hN0, hN]
  replace hs0_ := Zz c9 hs0_
  refine Xo ?_
  try simp only [Zg, Zd, ↓reduceIte, Nat.reduceEqDiff]
  have hs0_ := Option.some.inj hs0_; subst hs0_
  refine And.intro (fun h => by cases h) (And.intro rfl (Fit2.of (Zh hU rfl rfl ?_) (by omega)))
  simp only [push_cast, seval, ↓reduceIte, Za, hN0, hN]
 rcases z10 with z10 | z10
 ·dsimp only [Qz] at hw h
  refine Jm hw ?_
  try simp only [Zg, Zd, ↓reduceIte, Nat.reduceEqDiff]
  have h := Option.some.inj h; subst h
  refine Zp (.inr rfl) hU [.val (.slice none 0 0), .val (.int .i64 3)] (by omega) ?_
  simp only [push_cast, seval, ↓reduceIte, Za, Try.results56, hN0, hN]
 dsimp only [Qz] at hw h
 refine Z7 hw ?_
 try simp only [Zg, Zd, ↓reduceIte, Nat.reduceEqDiff]
 refine Ze [0, 4, 5] [true, false] ?_
 simp only [push_cast, seval, ↓reduceIte]
 refine Zf ?_
 refine Zf ?_
 obtain ⟨y13, hy13, h⟩ := bC h
 obtain ⟨l14, al14, bl14, cl14, gl14, h⟩ := bS (lo := (some (.i64, (IntKind.i64.wrap (4 * (IntKind.i64.wrap ((IntKind.i64.wrap (y2 + 1)) + 1))))))) (hi := (some (.i64, y13))) (f := (eI .u8)) rfl rfl K3 Ks (fun _ => rfl) h
 refine Zb Zc [] ?_
 simp only [push_cast, seval, ↓reduceIte, Za, al14, bl14, cl14, gl14, hN0, hN]
 refine (Qe hy13).then ?_
 simp only [push_cast, seval, ↓reduceIte, Za, al14, bl14, cl14, gl14, hN0, hN]
 refine Ze [5, 45, 46, 47] [true, false] ?_
 simp only [push_cast, seval, ↓reduceIte]
 refine Ze [5, 45, 46, 47] [true, false] ?_
 simp only [push_cast, seval, ↓reduceIte]
 obtain ⟨z19, hz19, h⟩ := bC h
 refine V9 (J := (Qz (fun z19 => JR n (⟨55, [], [(2, .val (.slice none 0 0)), (3, .val (.int .i64 5))]⟩ : Env) (Zk O n [none, none]) (n + 2)) (fun z19 => JX 2 n (⟨55, [], [(5, .row n z10.length)]⟩ : Env) (Zk O n [some ⟨true, 3, 1, z10.length, fl (eI .i64) z10⟩, none]) (n + 2)))) (z := z19) ?_ fun hw => ?_
 ·refine Yp hz19 (fun s1_ => ⟨55, [], [(5, .row n z10.length), (45, .sl l14.length (fl (eI .u8) l14)), (46, .val (.int .i64 (l14.length : Int))), (47, .val (.int .i64 s1_))]⟩) (fun s1_ => (Zk O n [some ⟨true, 3, 1, z10.length, fl (eI .i64) z10⟩, none])) (Qz (fun z19 => JR n (⟨55, [], [(2, .val (.slice none 0 0)), (3, .val (.int .i64 5))]⟩ : Env) (Zk O n [none, none]) (n + 2)) (fun z19 => JX 2 n (⟨55, [], [(5, .row n z10.length)]⟩ : Env) (Zk O n [some ⟨true, 3, 1, z10.length, fl (eI .i64) z10⟩, none]) (n + 2))) ?_
  intro s1_ x1_ hs1_
  unfold Y5 at hs1_
  try dsimp only
  refine Zl [5, 45, 46, 47, 48] (Zb Zc [] ?_)
  simp only [push_cast, seval, ↓reduceIte, Za, hN0, hN]
  refine Zf ?_
  refine Zs (t := (decide (s1_ < (l14.length : Int)))) rfl (fun c18 => ?_) (fun c18 => ?_)
  ·replace hs1_ := Z0 c18 hs1_
   refine Zt ?_
   try simp only [Zg, Zd]
   refine Ze [5, 45, 46, 47] [true, false] ?_
   simp only [push_cast, seval, ↓reduceIte]
   refine Zf ?_
   refine Ye ?_
   obtain ⟨x16, hx16, ax16, bx16, cx16, hs1_⟩ := bE (f := (eI .u8)) Ks (fun _ => rfl) (by decide) hs1_
   refine Zl [5, 9, 45, 46, 47] (Zb Zc [] ?_)
   simp only [push_cast, Nat.reduceAdd, Nat.reduceSub, Nat.reduceMul, Nat.reduceLeDiff, Nat.reduceLT, Nat.reduceEqDiff, ↓reduceIte, reduceCtorEq, Int.reduceBEq, Int.reduceBNe, Nat.reduceBEq, Int.reduceLE, Int.reduceLT, Int.reduceEq, Int.reduceNe, Int.reduceNeg, Nat.reduceDiv, Nat.reduceMod, Nat.reducePow, Za, ax16, bx16, cx16, hN0, hN]
   refine Zl [5, 45, 46, 47, 52] (Zb Zc [] ?_)
   simp only [push_cast, seval, ↓reduceIte, Za, hN0, hN]
   refine Zs (t := (x16 != 0)) rfl (fun c17 => ?_) (fun c17 => ?_)
   ·replace hs1_ := Z0 c17 hs1_
    refine Zl [2, 3] (Zb Zc [] ?_)
    simp only [push_cast, seval, ↓reduceIte, Za, hN0, hN]
    refine Z9 ?_
    try simp only [Zg, Zd]
    have hs1_ := Option.some.inj hs1_; subst hs1_
    refine And.intro (fun h => by cases h) (And.intro rfl (Fit2.of (Zh hU rfl rfl ?_) (by omega)))
    simp only [push_cast, seval, ↓reduceIte, Za, hN0, hN]
   replace hs1_ := Zz c17 hs1_
   refine Zt ?_
   try simp only [Zg, Zd]
   refine Ze [5, 45, 46, 47] [true, false] ?_
   simp only [push_cast, seval, ↓reduceIte]
   refine Zb Zc [] ?_
   simp only [push_cast, seval, ↓reduceIte, Za, hN0, hN]
   have hs1_ := Option.some.inj hs1_; subst hs1_
   refine And.intro rfl (Fit2.of (Zh hU rfl rfl ?_) (by omega))
   simp only [push_cast, seval, ↓reduceIte, Za, hN0, hN]
  replace hs1_ := Zz c18 hs1_
  refine Xo ?_
  try simp only [Zg, Zd, ↓reduceIte, Nat.reduceEqDiff]
  have hs1_ := Option.some.inj hs1_; subst hs1_
  refine And.intro (fun h => by cases h) (And.intro rfl (Fit2.of (Zh hU rfl rfl ?_) (by omega)))
  simp only [push_cast, seval, ↓reduceIte, Za, hN0, hN]
 rcases z19 with z19 | z19
 ·dsimp only [Qz] at hw h
  refine Jm hw ?_
  try simp only [Zg, Zd, ↓reduceIte, Nat.reduceEqDiff]
  have h := Option.some.inj h; subst h
  refine Zp (.inr rfl) hU [.val (.slice none 0 0), .val (.int .i64 5)] (by omega) ?_
  simp only [push_cast, seval, ↓reduceIte, Za, Try.results56, hN0, hN]
 dsimp only [Qz] at hw h
 refine Z7 hw ?_
 try simp only [Zg, Zd, ↓reduceIte, Nat.reduceEqDiff]
 refine Ze [5] [true, false] ?_
 simp only [push_cast, seval, ↓reduceIte]
 refine Zl [2, 3] (Zb Zc [] ?_)
 simp only [push_cast, seval, ↓reduceIte, Za, hN0, hN]
 refine Z9 ?_
 try simp only [Zg, Zd]
 have h := Option.some.inj h; subst h
 refine Zp (.inr rfl) hU [.row n z10.length, .val (.int .i64 0)] (by omega) ?_
 simp only [push_cast, seval, ↓reduceIte, Za, Try.results56, hN0, hN]
theorem Zht {a0 : (Arr Int 8)} {r : Int} {O : Objs} {n : Nat} (h : Kk a0 = some r) : GTo Try.prog 83 [.agg (fl (eI .u8) a0.1)] O n (.val (.int .u64 r)) O n := by
 unfold Kk at h
 refine Qp Zc Try.call83 Try.func83 rfl (Nat.le_of_ble_eq_true rfl) (Nat.le_refl _) fun hU => ?_
 have hN0 : O n = none := hU.fresh _ (Nat.le_refl _)
 have hN : ∀ k, O (n + k) = none := fun k => hU.fresh _ (Nat.le_add_right _ _)
 show W _ _ _ _ ⟨19, [], [(0, .agg (fl (eI .u8) a0.1))]⟩ (Zk O n []) _
 refine Zl [1] (Zb Zc [] ?_)
 simp only [push_cast, seval, ↓reduceIte, Za, hN0, hN]
 refine Zl [1, 3] (Zb Zc [] ?_)
 simp only [push_cast, seval, ↓reduceIte, Za, hN0, hN]
 refine Zf ?_
 refine Zl [1, 3, 5] (Zb Zc [] ?_)
 simp only [push_cast, seval, ↓reduceIte, Za, hN0, hN]
 refine Ze [1, 3, 5] [true] ?_
 simp only [push_cast, seval, ↓reduceIte]
 obtain ⟨z4, hz4, h⟩ := bC h
 refine Z7 (E' := ⟨19, [], [(3, .val (.int .u64 z4))]⟩) (O' := (Zk O n [none])) (n0 := (n + 1)) ?_ ?_
 ·refine Yp hz4 (fun s0_ => ⟨19, [], [(1, .ref n 0), (3, .val (.int .u64 s0_.1)), (5, .val (.int .i64 s0_.2))]⟩) (fun s0_ => (Zk O n [some ⟨false, 114, 8, 1, fl (eI .u8) a0.1⟩])) (fun z4 => JX 0 n (⟨19, [], [(3, .val (.int .u64 z4))]⟩ : Env) (Zk O n [none]) (n + 1)) ?_
  intro s0_ x0_ hs0_
  unfold Qd at hs0_
  try dsimp only
  refine Zl [1, 3, 5, 6] (Zb Zc [] ?_)
  simp only [push_cast, seval, ↓reduceIte, Za, hN0, hN]
  refine Zf ?_
  refine Zs (t := (decide (s0_.2 < 8))) rfl (fun c3 => ?_) (fun c3 => ?_)
  ·replace hs0_ := Z0 c3 hs0_
   refine Zt ?_
   try simp only [Zg, Zd]
   refine Ze [1, 3, 5] [true] ?_
   simp only [push_cast, seval, ↓reduceIte]
   refine Zf ?_
   refine Ye ?_
   refine Zl [1, 3, 4, 5] (Zb Zc [] ?_)
   simp only [push_cast, seval, ↓reduceIte, Za, hN0, hN]
   obtain ⟨x1, hx1, ax1, bx1, cx1, hs0_⟩ := bEA (f := (eI .u8)) (b := 8) rfl Ks (fun _ => rfl) (by decide) hs0_
   obtain ⟨pu2, hs0_⟩ := bG hs0_
   refine Zb Zc [] ?_
   simp only [push_cast, Nat.reduceAdd, Nat.reduceSub, Nat.reduceMul, Nat.reduceLeDiff, Nat.reduceLT, Nat.reduceEqDiff, ↓reduceIte, reduceCtorEq, Int.reduceBEq, Int.reduceBNe, Nat.reduceBEq, Int.reduceLE, Int.reduceLT, Int.reduceEq, Int.reduceNe, Int.reduceNeg, Nat.reduceDiv, Nat.reduceMod, Nat.reducePow, Za, ax1, bx1, cx1, pu2, hN0, hN]
   refine Ze [1, 3, 5] [true] ?_
   simp only [push_cast, seval, ↓reduceIte]
   refine Zb Zc [] ?_
   simp only [push_cast, seval, ↓reduceIte, Za, hN0, hN]
   have hs0_ := Option.some.inj hs0_; subst hs0_
   refine And.intro rfl (Fit2.of (Zh hU rfl rfl ?_) (by omega))
   simp only [push_cast, seval, ↓reduceIte, Za, hN0, hN]
  replace hs0_ := Zz c3 hs0_
  refine Xo ?_
  try simp only [Zg, Zd, ↓reduceIte, Nat.reduceEqDiff]
  have hs0_ := Option.some.inj hs0_; subst hs0_
  refine And.intro (fun h => by cases h) (And.intro rfl (Fit2.of (Zh hU rfl rfl ?_) (by omega)))
  simp only [push_cast, seval, ↓reduceIte, Za, hN0, hN]
 try simp only [Zg, Zd, ↓reduceIte, Nat.reduceEqDiff]
 refine Ze [3] [false] ?_
 simp only [push_cast, seval, ↓reduceIte]
 refine Zl [2] (Zb Zc [] ?_)
 simp only [push_cast, seval, ↓reduceIte, Za, hN0, hN]
 refine Z9 ?_
 try simp only [Zg, Zd]
 have h := Option.some.inj h; subst h
 refine Zp (.inr rfl) hU [.val (.int .u64 z4)] (by omega) ?_
 simp only [push_cast, seval, ↓reduceIte, Za, Try.results83, hN0, hN]
theorem Zcz {a0 : (List Int)} {r : ((List Int) × Bool)} {O : Objs} {n : Nat} (h : Xm a0 = some r) : GTo Try.prog 57 [.sl a0.length (fl (eI .u8) a0)] O n (.tup [.sl r.1.length (fl (eI .u64) r.1), .val (.bool r.2)]) O n := by
 unfold Xm at h
 refine Qp Zc Try.call57 Try.func57 rfl (Nat.le_of_ble_eq_true rfl) (Nat.le_refl _) fun hU => ?_
 have hN0 : O n = none := hU.fresh _ (Nat.le_refl _)
 have hN : ∀ k, O (n + k) = none := fun k => hU.fresh _ (Nat.le_add_right _ _)
 show W _ _ _ _ ⟨33, [], [(0, .sl a0.length (fl (eI .u8) a0))]⟩ (Zk O n []) _
 refine Zl [0] (Zb Zc [] ?_)
 simp only [push_cast, seval, ↓reduceIte, Za, hN0, hN]
 refine Zf ?_
 refine Zl [0, 10] (Zb Zc [] ?_)
 simp only [push_cast, seval, ↓reduceIte, Za, hN0, hN]
 refine Zs (t := ((Int.tmod (a0.length : Int) 8) != 0)) rfl (fun c19 => ?_) (fun c19 => ?_)
 ·replace h := Z0 c19 h
  refine Zl [2, 3] (Zb Zc [] ?_)
  simp only [push_cast, seval, ↓reduceIte, Za, hN0, hN]
  refine Z9 ?_
  try simp only [Zg, Zd]
  have h := Option.some.inj h; subst h
  refine Zp (.inr rfl) hU [.val (.slice none 0 0), .val (.bool false)] (by omega) ?_
  simp only [push_cast, seval, ↓reduceIte, Za, Try.results57, hN0, hN]
 replace h := Zz c19 h
 refine Zt ?_
 try simp only [Zg, Zd]
 refine Ze [0] [] ?_
 simp only [push_cast, seval, ↓reduceIte]
 refine Zf ?_
 obtain ⟨l2, al2, bl2, cl2, el2, h⟩ := bM2 (c := 8) rfl h
 have nl2 : Int.toNat (IntKind.i64.wrap (Int.tdiv (a0.length : Int) 8)) = List.length l2 := by rw [el2, List.length_replicate]
 have fl2 : (List.replicate (List.length l2) [.val (.int .u64 0)]).flatten = fl (eI .u64) l2 := by rw [← nl2, el2]; exact (Zej (f := (eI .u64)) _ _).symm
 clear el2
 refine Zb Zc [] ?_
 simp only [push_cast, seval, ↓reduceIte, Za, al2, bl2, cl2, fl2, nl2, hN0, hN]
 refine Vx ⟨33, [], [(0, .sl a0.length (fl (eI .u8) a0)), (4, .row n l2.length)]⟩ (Zk O n [some ⟨true, 37, 1, l2.length, fl (eI .u64) l2⟩]) (Zh hU rfl rfl ?_) ?_
 ·simp only [push_cast, seval, ↓reduceIte, Za, al2, bl2, cl2, fl2, nl2, hN0, hN]
 refine Zf ?_
 refine Zl [0, 4, 16, 17] (Zb Zc [] ?_)
 simp only [push_cast, seval, ↓reduceIte, Za, hN0, hN]
 refine Ze [0, 4, 16, 17] [true] ?_
 simp only [push_cast, seval, ↓reduceIte]
 obtain ⟨z18, hz18, h⟩ := bC h
 refine Z7 (E' := ⟨33, [], [(4, .row n z18.length)]⟩) (O' := (Zk O n [some ⟨true, 37, 1, z18.length, fl (eI .u64) z18⟩])) (n0 := (n + 1)) ?_ ?_
 ·refine Yp hz18 (fun s0_ => ⟨33, [], [(0, .sl a0.length (fl (eI .u8) a0)), (4, .row n s0_.2.length), (16, .val (.int .i64 (l2.length : Int))), (17, .val (.int .i64 s0_.1))]⟩) (fun s0_ => (Zk O n [some ⟨true, 37, 1, s0_.2.length, fl (eI .u64) s0_.2⟩])) (fun z18 => JX 0 n (⟨33, [], [(4, .row n z18.length)]⟩ : Env) (Zk O n [some ⟨true, 37, 1, z18.length, fl (eI .u64) z18⟩]) (n + 1)) ?_
  intro s0_ x0_ hs0_
  unfold Xi at hs0_
  try dsimp only
  refine Zl [0, 4, 16, 17, 18] (Zb Zc [] ?_)
  simp only [push_cast, seval, ↓reduceIte, Za, hN0, hN]
  refine Zf ?_
  refine Zs (t := (decide (s0_.1 < (l2.length : Int)))) rfl (fun c17 => ?_) (fun c17 => ?_)
  ·replace hs0_ := Z0 c17 hs0_
   refine Zt ?_
   try simp only [Zg, Zd]
   refine Ze [0, 4, 16, 17] [true] ?_
   simp only [push_cast, seval, ↓reduceIte]
   refine Zf ?_
   refine Ye ?_
   refine Zl [0, 4, 5, 16, 17] (Zb Zc [] ?_)
   simp only [push_cast, seval, ↓reduceIte, Za, hN0, hN]
   obtain ⟨y5, hy5, ey5, hs0_⟩ := bY (f := (eI .u8)) (cs := [.val (.int .u8 0), .val (.int .u8 0), .val (.int .u8 0), .val (.int .u8 0), .val (.int .u8 0), .val (.int .u8 0), .val (.int .u8 0), .val (.int .u8 0)]) rfl hs0_
   have g6 := congrArg (GObj.mk false 114 8 1) ey5
   refine Zl [0, 4, 5, 6, 16, 17] (Zb Zc [] ?_)
   simp only [push_cast, seval, ↓reduceIte, Za, g6, hN0, hN]
   refine Zf ?_
   have g10 := Uf (j := (n + 1)) Vg Ks (by decide)
   obtain ⟨l11, al11, bl11, cl11, gl11, hs0_⟩ := bS (lo := (some (.i64, (IntKind.i64.wrap (8 * s0_.1))))) (hi := none) (f := (eI .u8)) rfl rfl K3 Ks (fun _ => rfl) hs0_
   have g12 := Zhr (f := (eI .u8)) y5 l11 (fun _ => rfl)
   have mg12 := Nat.mul_one (List.length l11)
   refine Zmn Zc (by kernel_rfl) [false, false, false, false, false, true] [] (by kernel_rfl) ?_
   simp only [push_cast, seval, ↓reduceIte, Za, g10, al11, bl11, cl11, gl11, g12, mg12, hN0, hN]
   refine Ze [0, 4, 5, 6, 16, 17] [true, true] ?_
   simp only [push_cast, seval, ↓reduceIte]
   have g13 := Kh (f := (eI .u8)) (Arr.cpy y5 l11) Uq rfl (fun _ => rfl) rfl
   obtain ⟨y14, hy14, hs0_⟩ := bC hs0_
   obtain ⟨x15, hx15, ax15, bx15, cx15, hs0_⟩ := bE (f := (eI .u64)) Zcd (fun _ => rfl) (by decide) hs0_
   have gu16 : X8 (fl (eI .u64) s0_.2) [.val (.int .u64 y14)] (Int.toNat s0_.1 * 1) = some (fl (eI .u64) (Zcb s0_.2 s0_.1 y14)) := Gr (f := (eI .u64)) (ti := ⟨.bool, 1, 0, [], false⟩) (x := y14) (fun _ => rfl) (K7 hx15)
   refine Zb Zc [] ?_
   simp only [push_cast, Nat.reduceAdd, Nat.reduceSub, Nat.reduceMul, Nat.reduceLeDiff, Nat.reduceLT, Nat.reduceEqDiff, ↓reduceIte, reduceCtorEq, Int.reduceBEq, Int.reduceBNe, Nat.reduceBEq, Int.reduceLE, Int.reduceLT, Int.reduceEq, Int.reduceNe, Int.reduceNeg, Nat.reduceDiv, Nat.reduceMod, Nat.reducePow, Za, g13, ax15, bx15, cx15, gu16, hN0, hN]
   refine (Zht hy14).then ?_
   simp only [push_cast, Nat.reduceAdd, Nat.reduceSub, Nat.reduceMul, Nat.reduceLeDiff, Nat.reduceLT, Nat.reduceEqDiff, ↓reduceIte, reduceCtorEq, Int.reduceBEq, Int.reduceBNe, Nat.reduceBEq, Int.reduceLE, Int.reduceLT, Int.reduceEq, Int.reduceNe, Int.reduceNeg, Nat.reduceDiv, Nat.reduceMod, Nat.reducePow, Za, g13, ax15, bx15, cx15, gu16, hN0, hN]
   refine Ze [0, 4, 16, 17] [true, false] ?_
   simp only [push_cast, seval, ↓reduceIte]
   refine Zb Zc [] ?_
   simp only [push_cast, seval, ↓reduceIte, Za, hN0, hN]
   have hs0_ := Option.some.inj hs0_; subst hs0_
   refine And.intro rfl (Fit2.of (Zh hU rfl rfl ?_) (by omega))
   simp only [push_cast, seval, ↓reduceIte, Za, hN0, hN]
  replace hs0_ := Zz c17 hs0_
  refine Xo ?_
  try simp only [Zg, Zd, ↓reduceIte, Nat.reduceEqDiff]
  have hs0_ := Option.some.inj hs0_; subst hs0_
  refine And.intro (fun h => by cases h) (And.intro rfl (Fit2.of (Zh hU rfl rfl ?_) (by omega)))
  simp only [push_cast, seval, ↓reduceIte, Za, hN0, hN]
 try simp only [Zg, Zd, ↓reduceIte, Nat.reduceEqDiff]
 refine Ze [4] [true] ?_
 simp only [push_cast, seval, ↓reduceIte]
 refine Zl [2, 3] (Zb Zc [] ?_)
 simp only [push_cast, seval, ↓reduceIte, Za, hN0, hN]
 refine Z9 ?_
 try simp only [Zg, Zd]
 have h := Option.some.inj h; subst h
 refine Zp (.inr rfl) hU [.row n z18.length, .val (.bool true)] (by omega) ?_
 simp only [push_cast, seval, ↓reduceIte, Za, Try.results57, hN0, hN]
theorem Km {a0 : (List Int)} {r : ((List (List Int)) × Int)} {O : Objs} {n : Nat} (h : Y3 a0 = some r) : GTo Try.prog 19 [.sl a0.length (fl (eI .u8) a0)] O n (.tup [.sl r.1.length (fl (eL (eI .u64)) r.1), .val (.int .i64 r.2)]) O n := by
 unfold Y3 at h
 refine Qp Zc Try.call19 Try.func19 rfl (Nat.le_of_ble_eq_true rfl) (Nat.le_refl _) fun hU => ?_
 have hN0 : O n = none := hU.fresh _ (Nat.le_refl _)
 have hN : ∀ k, O (n + k) = none := fun k => hU.fresh _ (Nat.le_add_right _ _)
 show W _ _ _ _ ⟨72, [], [(0, .sl a0.length (fl (eI .u8) a0))]⟩ (Zk O n []) _
 refine Zl [0] (Zb Zc [] ?_)
 simp only [push_cast, seval, ↓reduceIte, Za, hN0, hN]
 refine Zf ?_
 obtain ⟨y2, hy2, h⟩ := bC h
 refine Zb Zc [] ?_
 simp only [push_cast, seval, ↓reduceIte, Za, hN0, hN]
 refine (Zcx hy2).then ?_
 simp only [push_cast, seval, ↓reduceIte, Za, hN0, hN]
 refine Ze [0, 4, 5] [] ?_
 simp only [push_cast, seval, ↓reduceIte]
 refine Zf ?_
 refine Zl [0, 4, 5, 21] (Zb Zc [] ?_)
 simp only [push_cast, seval, ↓reduceIte, Za, hN0, hN]
 refine Zs (t := (y2.2 != 0)) rfl (fun c24 => ?_) (fun c24 => ?_)
 ·replace h := Z0 c24 h
  refine Zl [2, 3] (Zb Zc [] ?_)
  simp only [push_cast, seval, ↓reduceIte, Za, hN0, hN]
  refine Z9 ?_
  try simp only [Zg, Zd]
  have h := Option.some.inj h; subst h
  refine Zp (.inr rfl) hU [.val (.slice none 0 0), .val (.int .i64 y2.2)] (by omega) ?_
  simp only [push_cast, seval, ↓reduceIte, Za, Try.results19, hN0, hN]
 replace h := Zz c24 h
 refine Zt ?_
 try simp only [Zg, Zd]
 refine Ze [0, 4] [] ?_
 simp only [push_cast, seval, ↓reduceIte]
 refine Zf ?_
 obtain ⟨y5, hy5, h⟩ := bC h
 obtain ⟨l6, al6, bl6, cl6, gl6, h⟩ := bS (lo := (some (.i64, y5))) (hi := none) (f := (eI .u8)) rfl rfl K3 Ks (fun _ => rfl) h
 refine Zb Zc [] ?_
 simp only [push_cast, seval, ↓reduceIte, Za, al6, bl6, cl6, gl6, hN0, hN]
 refine (Qe hy5).then ?_
 simp only [push_cast, seval, ↓reduceIte, Za, al6, bl6, cl6, gl6, hN0, hN]
 refine Ze [4, 6] [] ?_
 simp only [push_cast, seval, ↓reduceIte]
 refine Zl [4, 6, 7] (Zb Zc [] ?_)
 simp only [push_cast, seval, ↓reduceIte, Za, hN0, hN]
 refine Zf ?_
 refine Zl [4, 6, 7, 28, 29, 30] (Zb Zc [] ?_)
 simp only [push_cast, seval, ↓reduceIte, Za, hN0, hN]
 refine Ze [4, 6, 7, 28, 29, 30] [] ?_
 simp only [push_cast, seval, ↓reduceIte]
 obtain ⟨z10, hz10, h⟩ := bC h
 refine Z7 (E' := ⟨72, [], [(4, .sl y2.1.length (fl (eI .i64) y2.1)), (6, .sl l6.length (fl (eI .u8) l6)), (7, .val (.int .i64 z10))]⟩) (O' := (Zk O n [])) (n0 := n) ?_ ?_
 ·refine Yp hz10 (fun s0_ => ⟨72, [], [(4, .sl y2.1.length (fl (eI .i64) y2.1)), (6, .sl l6.length (fl (eI .u8) l6)), (7, .val (.int .i64 s0_.1)), (28, .sl y2.1.length (fl (eI .i64) y2.1)), (29, .val (.int .i64 (y2.1.length : Int))), (30, .val (.int .i64 s0_.2))]⟩) (fun s0_ => (Zk O n [])) (fun z10 => JX 0 n (⟨72, [], [(4, .sl y2.1.length (fl (eI .i64) y2.1)), (6, .sl l6.length (fl (eI .u8) l6)), (7, .val (.int .i64 z10))]⟩ : Env) (Zk O n []) n) ?_
  intro s0_ x0_ hs0_
  unfold Yn at hs0_
  try dsimp only
  refine Zl [4, 6, 7, 28, 29, 30, 31] (Zb Zc [] ?_)
  simp only [push_cast, seval, ↓reduceIte, Za, hN0, hN]
  refine Zf ?_
  refine Zs (t := (decide (s0_.2 < (y2.1.length : Int)))) rfl (fun c9 => ?_) (fun c9 => ?_)
  ·replace hs0_ := Z0 c9 hs0_
   refine Zt ?_
   try simp only [Zg, Zd]
   refine Ze [4, 6, 7, 28, 29, 30] [] ?_
   simp only [push_cast, seval, ↓reduceIte]
   refine Zf ?_
   refine Ye ?_
   obtain ⟨x8, hx8, ax8, bx8, cx8, hs0_⟩ := bE (f := (eI .i64)) Zm8 (fun _ => rfl) (by decide) hs0_
   refine Zl [4, 6, 7, 9, 28, 29, 30] (Zb Zc [] ?_)
   simp only [push_cast, Nat.reduceAdd, Nat.reduceSub, Nat.reduceMul, Nat.reduceLeDiff, Nat.reduceLT, Nat.reduceEqDiff, ↓reduceIte, reduceCtorEq, Int.reduceBEq, Int.reduceBNe, Nat.reduceBEq, Int.reduceLE, Int.reduceLT, Int.reduceEq, Int.reduceNe, Int.reduceNeg, Nat.reduceDiv, Nat.reduceMod, Nat.reducePow, Za, ax8, bx8, cx8, hN0, hN]
   refine Zb Zc [] ?_
   simp only [push_cast, seval, ↓reduceIte, Za, hN0, hN]
   refine Ze [4, 6, 7, 28, 29, 30] [] ?_
   simp only [push_cast, seval, ↓reduceIte]
   refine Zb Zc [] ?_
   simp only [push_cast, seval, ↓reduceIte, Za, hN0, hN]
   have hs0_ := Option.some.inj hs0_; subst hs0_
   refine And.intro rfl (Fit2.of (Zh hU rfl rfl ?_) (by omega))
   simp only [push_cast, seval, ↓reduceIte, Za, hN0, hN]
  replace hs0_ := Zz c9 hs0_
  refine Xo ?_
  try simp only [Zg, Zd, ↓reduceIte, Nat.reduceEqDiff]
  have hs0_ := Option.some.inj hs0_; subst hs0_
  refine And.intro (fun h => by cases h) (And.intro rfl (Fit2.of (Zh hU rfl rfl ?_) (by omega)))
  simp only [push_cast, seval, ↓reduceIte, Za, hN0, hN]
 try simp only [Zg, Zd, ↓reduceIte, Nat.reduceEqDiff]
 refine Ze [4, 6, 7] [] ?_
 simp only [push_cast, seval, ↓reduceIte]
 refine Zf ?_
 refine Zl [4, 6, 7, 42] (Zb Zc [] ?_)
 simp only [push_cast, seval, ↓reduceIte, Za, hN0, hN]
 refine Zs (t := (decide ((l6.length : Int) < (IntKind.i64.wrap (8 * z10))))) rfl (fun c23 => ?_) (fun c23 => ?_)
 ·replace h := Z0 c23 h
  refine Zl [2, 3] (Zb Zc [] ?_)
  simp only [push_cast, seval, ↓reduceIte, Za, hN0, hN]
  refine Z9 ?_
  try simp only [Zg, Zd]
  have h := Option.some.inj h; subst h
  refine Zp (.inr rfl) hU [.val (.slice none 0 0), .val (.int .i64 4)] (by omega) ?_
  simp only [push_cast, seval, ↓reduceIte, Za, Try.results19, hN0, hN]
 replace h := Zz c23 h
 refine Zt ?_
 try simp only [Zg, Zd]
 refine Ze [4, 6, 7] [] ?_
 simp only [push_cast, seval, ↓reduceIte]
 refine Zf ?_
 refine Zl [4, 6, 47] (Zb Zc [] ?_)
 simp only [push_cast, seval, ↓reduceIte, Za, hN0, hN]
 refine Zs (t := (decide ((IntKind.i64.wrap (8 * z10)) < (l6.length : Int)))) rfl (fun c22 => ?_) (fun c22 => ?_)
 ·replace h := Z0 c22 h
  refine Zl [2, 3] (Zb Zc [] ?_)
  simp only [push_cast, seval, ↓reduceIte, Za, hN0, hN]
  refine Z9 ?_
  try simp only [Zg, Zd]
  have h := Option.some.inj h; subst h
  refine Zp (.inr rfl) hU [.val (.slice none 0 0), .val (.int .i64 6)] (by omega) ?_
  simp only [push_cast, seval, ↓reduceIte, Za, Try.results19, hN0, hN]
 replace h := Zz c22 h
 refine Zt ?_
 try simp only [Zg, Zd]
 refine Ze [4, 6] [] ?_
 simp only [push_cast, seval, ↓reduceIte]
 refine Zl [4, 6, 10] (Zb Zc [] ?_)
 simp only [push_cast, seval, ↓reduceIte, Za, hN0, hN]
 refine Zf ?_
 refine Zl [6, 10, 48, 49, 50] (Zb Zc [] ?_)
 simp only [push_cast, seval, ↓reduceIte, Za, hN0, hN]
 refine Ze [6, 10, 48, 49, 50] [] ?_
 simp only [push_cast, seval, ↓reduceIte]
 refine Za8 (E' := (⟨72, [], [(6, .sl l6.length (fl (eI .u8) l6)), (10, .row n ([] : List (List Int)).length), (48, .sl y2.1.length (fl (eI .i64) y2.1)), (49, .val (.int .i64 (y2.1.length : Int))), (50, .val (.int .i64 0))]⟩ : Env)) (O' := (Zk O n [some ⟨true, 62, 1, ([] : List (List Int)).length, fl (eL (eI .u64)) ([] : List (List Int))⟩, none])) (n' := (n + 2)) ?_ ?_
 ·refine Fit2.trans (E' := (⟨72, [], [(6, .sl l6.length (fl (eI .u8) l6)), (10, .val (.slice none 0 0)), (48, .sl y2.1.length (fl (eI .i64) y2.1)), (49, .val (.int .i64 (y2.1.length : Int))), (50, .val (.int .i64 0))]⟩ : Env)) (O' := (Zk O n [])) (n' := n) (Fit2.of (Zh hU rfl rfl ?_) (by omega)) ?_
  ·simp only [push_cast, seval, ↓reduceIte, Za, hN0, hN]
  refine Fit2.trans (E' := (⟨72, [], [(10, .row n 0), (6, .sl l6.length (fl (eI .u8) l6)), (10, .val (.slice none 0 0)), (48, .sl y2.1.length (fl (eI .i64) y2.1)), (49, .val (.int .i64 (y2.1.length : Int))), (50, .val (.int .i64 0))]⟩ : Env)) (O' := (Zk O n [some ⟨true, 62, 1, 0, []⟩])) (n' := (n + 1)) ?_ ?_
  ·have ha := Vk (ba := n) (E := (⟨72, [], [(6, .sl l6.length (fl (eI .u8) l6)), (10, .val (.slice none 0 0)), (48, .sl y2.1.length (fl (eI .i64) y2.1)), (49, .val (.int .i64 (y2.1.length : Int))), (50, .val (.int .i64 0))]⟩ : Env)) (O := (Zk O n [])) (n := n) 10 62 1 rfl (by omega)
   simp only [Jl, Jk, Kt, Kc, List.set_cons_zero, List.set_cons_succ, List.cons_append, List.nil_append, List.length_cons, List.length_nil, Nat.zero_add, Nat.reduceAdd, Nat.reduceLT, Nat.add_assoc] at ha
   exact ha
  refine Fit2.trans (E' := (⟨72, [], [(6, .sl l6.length (fl (eI .u8) l6)), (10, .row n ([] : List (List Int)).length), (48, .sl y2.1.length (fl (eI .i64) y2.1)), (49, .val (.int .i64 (y2.1.length : Int))), (50, .val (.int .i64 0))]⟩ : Env)) (O' := (Zk O n [some ⟨true, 62, 1, ([] : List (List Int)).length, fl (eL (eI .u64)) ([] : List (List Int))⟩])) (n' := (n + 1)) (Fit2.of (Zh hU rfl rfl ?_) (by omega)) ?_
  ·simp only [push_cast, seval, ↓reduceIte, Za, hN0, hN]
  refine U8 (k := 1) (k' := 2) hU [0] [0, 0] rfl rfl rfl rfl ⟨rfl, rfl⟩ ?_
  simp only [push_cast, seval, ↓reduceIte, Za, hN0, hN]
 obtain ⟨z21, hz21, h⟩ := bC h
 refine Z7 (E' := ⟨72, [], [(10, .row n z21.length)]⟩) (O' := (Zk O n [some ⟨true, 62, 1, z21.length, fl (eL (eI .u64)) z21⟩, none])) (n0 := (n + 2)) ?_ ?_
 ·refine Yp hz21 (fun s1_ => ⟨72, [], [(6, .sl s1_.1.length (fl (eI .u8) s1_.1)), (10, .row n s1_.2.2.length), (48, .sl y2.1.length (fl (eI .i64) y2.1)), (49, .val (.int .i64 (y2.1.length : Int))), (50, .val (.int .i64 s1_.2.1))]⟩) (fun s1_ => (Zk O n [some ⟨true, 62, 1, s1_.2.2.length, fl (eL (eI .u64)) s1_.2.2⟩, none])) (fun z21 => JX 2 n (⟨72, [], [(10, .row n z21.length)]⟩ : Env) (Zk O n [some ⟨true, 62, 1, z21.length, fl (eL (eI .u64)) z21⟩, none]) (n + 2)) ?_
  intro s1_ x1_ hs1_
  unfold Yo at hs1_
  try dsimp only
  refine Zl [6, 10, 48, 49, 50, 51] (Zb Zc [] ?_)
  simp only [push_cast, seval, ↓reduceIte, Za, hN0, hN]
  refine Zf ?_
  refine Zs (t := (decide (s1_.2.1 < (y2.1.length : Int)))) rfl (fun c20 => ?_) (fun c20 => ?_)
  ·replace hs1_ := Z0 c20 hs1_
   refine Zt ?_
   try simp only [Zg, Zd]
   refine Ze [6, 10, 48, 49, 50] [true, false] ?_
   simp only [push_cast, seval, ↓reduceIte]
   refine Zf ?_
   refine Ye ?_
   obtain ⟨x12, hx12, ax12, bx12, cx12, hs1_⟩ := bE (f := (eI .i64)) Zm8 (fun _ => rfl) (by decide) hs1_
   refine Zl [6, 10, 12, 48, 49, 50] (Zb Zc [] ?_)
   simp only [push_cast, Nat.reduceAdd, Nat.reduceSub, Nat.reduceMul, Nat.reduceLeDiff, Nat.reduceLT, Nat.reduceEqDiff, ↓reduceIte, reduceCtorEq, Int.reduceBEq, Int.reduceBNe, Nat.reduceBEq, Int.reduceLE, Int.reduceLT, Int.reduceEq, Int.reduceNe, Int.reduceNeg, Nat.reduceDiv, Nat.reduceMod, Nat.reducePow, Za, ax12, bx12, cx12, hN0, hN]
   refine Zf ?_
   obtain ⟨l15, al15, bl15, cl15, gl15, hs1_⟩ := bS (lo := none) (hi := (some (.i64, (IntKind.i64.wrap (8 * x12))))) (f := (eI .u8)) rfl rfl K3 Ks (fun _ => rfl) hs1_
   obtain ⟨y16, hy16, hs1_⟩ := bC hs1_
   refine Zb Zc [] ?_
   simp only [push_cast, seval, ↓reduceIte, Za, al15, bl15, cl15, gl15, hN0, hN]
   refine (Zcz hy16).then ?_
   simp only [push_cast, seval, ↓reduceIte, Za, al15, bl15, cl15, gl15, hN0, hN]
   refine Ze [6, 10, 12, 13, 48, 49, 50] [true, false] ?_
   simp only [push_cast, seval, ↓reduceIte]
   refine Zf ?_
   obtain ⟨l18, pl18, ql18, el18, hs1_⟩ := bA (k := 1) rfl hs1_
   refine Zb Zc [] ?_
   simp only [push_cast, seval, ↓reduceIte, Za, pl18, ql18, el18, hN0, hN]
   refine Vx ⟨72, [], [(6, .sl s1_.1.length (fl (eI .u8) s1_.1)), (10, .row n l18.length), (12, .val (.int .i64 x12)), (48, .sl y2.1.length (fl (eI .i64) y2.1)), (49, .val (.int .i64 (y2.1.length : Int))), (50, .val (.int .i64 s1_.2.1))]⟩ (Zk O n [some ⟨true, 62, 1, l18.length, fl (eL (eI .u64)) l18⟩, none, none]) (Zh hU rfl rfl ?_) ?_
   ·simp only [push_cast, seval, ↓reduceIte, Za, pl18, ql18, el18, hN0, hN]
   obtain ⟨l19, al19, bl19, cl19, gl19, hs1_⟩ := bS (lo := (some (.i64, (IntKind.i64.wrap (8 * x12))))) (hi := none) (f := (eI .u8)) rfl rfl K3 Ks (fun _ => rfl) hs1_
   refine Zb Zc [] ?_
   simp only [push_cast, seval, ↓reduceIte, Za, al19, bl19, cl19, gl19, hN0, hN]
   refine Ze [6, 10, 48, 49, 50] [true, false, false] ?_
   simp only [push_cast, seval, ↓reduceIte]
   refine Zb Zc [] ?_
   simp only [push_cast, seval, ↓reduceIte, Za, hN0, hN]
   have hs1_ := Option.some.inj hs1_; subst hs1_
   refine And.intro rfl (Fit2.of (Zh hU rfl rfl ?_) (by omega))
   simp only [push_cast, seval, ↓reduceIte, Za, hN0, hN]
  replace hs1_ := Zz c20 hs1_
  refine Xo ?_
  try simp only [Zg, Zd, ↓reduceIte, Nat.reduceEqDiff]
  have hs1_ := Option.some.inj hs1_; subst hs1_
  refine And.intro (fun h => by cases h) (And.intro rfl (Fit2.of (Zh hU rfl rfl ?_) (by omega)))
  simp only [push_cast, seval, ↓reduceIte, Za, hN0, hN]
 try simp only [Zg, Zd, ↓reduceIte, Nat.reduceEqDiff]
 refine Ze [10] [true, false] ?_
 simp only [push_cast, seval, ↓reduceIte]
 refine Zl [2, 3] (Zb Zc [] ?_)
 simp only [push_cast, seval, ↓reduceIte, Za, hN0, hN]
 refine Z9 ?_
 try simp only [Zg, Zd]
 have h := Option.some.inj h; subst h
 refine Zp (.inr rfl) hU [.row n z21.length, .val (.int .i64 0)] (by omega) ?_
 simp only [push_cast, seval, ↓reduceIte, Za, Try.results19, hN0, hN]
theorem Ul {a0 : (List Int)} {a1 : (List Int)} {r : Bool} {O : Objs} {n : Nat} (h : Yy a0 a1 = some r) : GTo Try.prog 58 [.sl a0.length (fl (eI .u64) a0), .sl a1.length (fl (eI .u64) a1)] O n (.val (.bool r)) O n := by
 unfold Yy at h
 refine Qp Zc Try.call58 Try.func58 rfl (Nat.le_of_ble_eq_true rfl) (Nat.le_refl _) fun hU => ?_
 have hN0 : O n = none := hU.fresh _ (Nat.le_refl _)
 have hN : ∀ k, O (n + k) = none := fun k => hU.fresh _ (Nat.le_add_right _ _)
 show W _ _ _ _ ⟨26, [], [(0, .sl a0.length (fl (eI .u64) a0)), (1, .sl a1.length (fl (eI .u64) a1))]⟩ (Zk O n []) _
 refine Zl [0, 1] (Zb Zc [] ?_)
 simp only [push_cast, seval, ↓reduceIte, Za, hN0, hN]
 refine Zf ?_
 refine Zl [0, 1, 10] (Zb Zc [] ?_)
 simp only [push_cast, seval, ↓reduceIte, Za, hN0, hN]
 refine Zs (t := ((a0.length : Int) != (a1.length : Int))) rfl (fun c8 => ?_) (fun c8 => ?_)
 ·replace h := Z0 c8 h
  refine Zl [4] (Zb Zc [] ?_)
  simp only [push_cast, seval, ↓reduceIte, Za, hN0, hN]
  refine Z9 ?_
  try simp only [Zg, Zd]
  have h := Option.some.inj h; subst h
  refine Zp (.inr rfl) hU [.val (.bool false)] (by omega) ?_
  simp only [push_cast, seval, ↓reduceIte, Za, Try.results58, hN0, hN]
 replace h := Zz c8 h
 refine Zt ?_
 try simp only [Zg, Zd]
 refine Ze [0, 1] [] ?_
 simp only [push_cast, seval, ↓reduceIte]
 refine Zf ?_
 refine Zl [0, 1, 5] (Zb Zc [] ?_)
 simp only [push_cast, seval, ↓reduceIte, Za, hN0, hN]
 refine Ze [0, 1, 5] [] ?_
 simp only [push_cast, seval, ↓reduceIte]
 obtain ⟨z7, hz7, h⟩ := bC h
 refine V9 (J := (Qz (fun z7 => JR n (⟨26, [], [(4, .val (.bool false))]⟩ : Env) (Zk O n []) n) (fun z7 => JX 0 n (⟨26, [], []⟩ : Env) (Zk O n []) n))) (z := z7) ?_ fun hw => ?_
 ·refine Yp hz7 (fun s0_ => ⟨26, [], [(0, .sl a0.length (fl (eI .u64) a0)), (1, .sl a1.length (fl (eI .u64) a1)), (5, .val (.int .i64 s0_))]⟩) (fun s0_ => (Zk O n [])) (Qz (fun z7 => JR n (⟨26, [], [(4, .val (.bool false))]⟩ : Env) (Zk O n []) n) (fun z7 => JX 0 n (⟨26, [], []⟩ : Env) (Zk O n []) n)) ?_
  intro s0_ x0_ hs0_
  unfold Yu at hs0_
  try dsimp only
  refine Zf ?_
  refine Zl [0, 1, 5, 14] (Zb Zc [] ?_)
  simp only [push_cast, seval, ↓reduceIte, Za, hN0, hN]
  refine Zs (t := (decide (s0_ < (a0.length : Int)))) rfl (fun c6 => ?_) (fun c6 => ?_)
  ·replace hs0_ := Z0 c6 hs0_
   refine Zt ?_
   try simp only [Zg, Zd]
   refine Ze [0, 1, 5] [] ?_
   simp only [push_cast, seval, ↓reduceIte]
   refine Zf ?_
   refine Ye ?_
   obtain ⟨x3, hx3, ax3, bx3, cx3, hs0_⟩ := bE (f := (eI .u64)) Zcd (fun _ => rfl) (by decide) hs0_
   obtain ⟨x4, hx4, ax4, bx4, cx4, hs0_⟩ := bE (f := (eI .u64)) Zcd (fun _ => rfl) (by decide) hs0_
   refine Zl [0, 1, 5, 25] (Za3 Zc (by kernel_rfl) [] (by kernel_rfl) ?_)
   simp only [push_cast, Nat.reduceAdd, Nat.reduceSub, Nat.reduceMul, Nat.reduceLeDiff, Nat.reduceLT, Nat.reduceEqDiff, ↓reduceIte, reduceCtorEq, Int.reduceBEq, Int.reduceBNe, Nat.reduceBEq, Int.reduceLE, Int.reduceLT, Int.reduceEq, Int.reduceNe, Int.reduceNeg, Nat.reduceDiv, Nat.reduceMod, Nat.reducePow, Za, ax3, bx3, cx3, ax4, bx4, cx4, hN0, hN]
   refine Zs (t := (x3 != x4)) rfl (fun c5 => ?_) (fun c5 => ?_)
   ·replace hs0_ := Z0 c5 hs0_
    refine Zl [4] (Zb Zc [] ?_)
    simp only [push_cast, seval, ↓reduceIte, Za, hN0, hN]
    refine Z9 ?_
    try simp only [Zg, Zd]
    have hs0_ := Option.some.inj hs0_; subst hs0_
    refine And.intro (fun h => by cases h) (And.intro rfl (Fit2.of (Zh hU rfl rfl ?_) (by omega)))
    simp only [push_cast, seval, ↓reduceIte, Za, hN0, hN]
   replace hs0_ := Zz c5 hs0_
   refine Zt ?_
   try simp only [Zg, Zd]
   refine Ze [0, 1, 5] [] ?_
   simp only [push_cast, seval, ↓reduceIte]
   refine Zb Zc [] ?_
   simp only [push_cast, seval, ↓reduceIte, Za, hN0, hN]
   have hs0_ := Option.some.inj hs0_; subst hs0_
   refine And.intro rfl (Fit2.of (Zh hU rfl rfl ?_) (by omega))
   simp only [push_cast, seval, ↓reduceIte, Za, hN0, hN]
  replace hs0_ := Zz c6 hs0_
  refine Xo ?_
  try simp only [Zg, Zd, ↓reduceIte, Nat.reduceEqDiff]
  have hs0_ := Option.some.inj hs0_; subst hs0_
  refine And.intro (fun h => by cases h) (And.intro rfl (Fit2.of (Zh hU rfl rfl ?_) (by omega)))
  simp only [push_cast, seval, ↓reduceIte, Za, hN0, hN]
 rcases z7 with z7 | z7
 ·dsimp only [Qz] at hw h
  refine Jm hw ?_
  try simp only [Zg, Zd, ↓reduceIte, Nat.reduceEqDiff]
  have h := Option.some.inj h; subst h
  refine Zp (.inr rfl) hU [.val (.bool false)] (by omega) ?_
  simp only [push_cast, seval, ↓reduceIte, Za, Try.results58, hN0, hN]
 dsimp only [Qz] at hw h
 refine Z7 hw ?_
 try simp only [Zg, Zd, ↓reduceIte, Nat.reduceEqDiff]
 refine Ze [] [] ?_
 simp only [push_cast, seval, ↓reduceIte]
 refine Zl [4] (Zb Zc [] ?_)
 simp only [push_cast, seval, ↓reduceIte, Za, hN0, hN]
 refine Z9 ?_
 try simp only [Zg, Zd]
 have h := Option.some.inj h; subst h
 refine Zp (.inr rfl) hU [.val (.bool true)] (by omega) ?_
 simp only [push_cast, seval, ↓reduceIte, Za, Try.results58, hN0, hN]
theorem Qo {a0 : (List (List Int))} {a1 : (List (List Int))} {r : Bool} {O : Objs} {n : Nat} (h : Yz a0 a1 = some r) : GTo Try.prog 20 [.sl a0.length (fl (eL (eI .u64)) a0), .sl a1.length (fl (eL (eI .u64)) a1)] O n (.val (.bool r)) O n := by
 unfold Yz at h
 refine Qp Zc Try.call20 Try.func20 rfl (Nat.le_of_ble_eq_true rfl) (Nat.le_refl _) fun hU => ?_
 have hN0 : O n = none := hU.fresh _ (Nat.le_refl _)
 have hN : ∀ k, O (n + k) = none := fun k => hU.fresh _ (Nat.le_add_right _ _)
 show W _ _ _ _ ⟨27, [], [(0, .sl a0.length (fl (eL (eI .u64)) a0)), (1, .sl a1.length (fl (eL (eI .u64)) a1))]⟩ (Zk O n []) _
 refine Zl [0, 1] (Zb Zc [] ?_)
 simp only [push_cast, seval, ↓reduceIte, Za, hN0, hN]
 refine Zf ?_
 refine Zl [0, 1, 10] (Zb Zc [] ?_)
 simp only [push_cast, seval, ↓reduceIte, Za, hN0, hN]
 refine Zs (t := ((a0.length : Int) != (a1.length : Int))) rfl (fun c10 => ?_) (fun c10 => ?_)
 ·replace h := Z0 c10 h
  refine Zl [4] (Zb Zc [] ?_)
  simp only [push_cast, seval, ↓reduceIte, Za, hN0, hN]
  refine Z9 ?_
  try simp only [Zg, Zd]
  have h := Option.some.inj h; subst h
  refine Zp (.inr rfl) hU [.val (.bool false)] (by omega) ?_
  simp only [push_cast, seval, ↓reduceIte, Za, Try.results20, hN0, hN]
 replace h := Zz c10 h
 refine Zt ?_
 try simp only [Zg, Zd]
 refine Ze [0, 1] [] ?_
 simp only [push_cast, seval, ↓reduceIte]
 refine Zf ?_
 refine Zl [0, 1, 5] (Zb Zc [] ?_)
 simp only [push_cast, seval, ↓reduceIte, Za, hN0, hN]
 refine Ze [0, 1, 5] [] ?_
 simp only [push_cast, seval, ↓reduceIte]
 obtain ⟨z9, hz9, h⟩ := bC h
 refine V9 (J := (Qz (fun z9 => JR n (⟨27, [], [(4, .val (.bool false))]⟩ : Env) (Zk O n []) n) (fun z9 => JX 0 n (⟨27, [], []⟩ : Env) (Zk O n []) n))) (z := z9) ?_ fun hw => ?_
 ·refine Yp hz9 (fun s0_ => ⟨27, [], [(0, .sl a0.length (fl (eL (eI .u64)) a0)), (1, .sl a1.length (fl (eL (eI .u64)) a1)), (5, .val (.int .i64 s0_))]⟩) (fun s0_ => (Zk O n [])) (Qz (fun z9 => JR n (⟨27, [], [(4, .val (.bool false))]⟩ : Env) (Zk O n []) n) (fun z9 => JX 0 n (⟨27, [], []⟩ : Env) (Zk O n []) n)) ?_
  intro s0_ x0_ hs0_
  unfold Yv at hs0_
  try dsimp only
  refine Zf ?_
  refine Zl [0, 1, 5, 14] (Zb Zc [] ?_)
  simp only [push_cast, seval, ↓reduceIte, Za, hN0, hN]
  refine Zs (t := (decide (s0_ < (a0.length : Int)))) rfl (fun c8 => ?_) (fun c8 => ?_)
  ·replace hs0_ := Z0 c8 hs0_
   refine Zt ?_
   try simp only [Zg, Zd]
   refine Ze [0, 1, 5] [] ?_
   simp only [push_cast, seval, ↓reduceIte]
   refine Zf ?_
   refine Ye ?_
   refine Zf ?_
   obtain ⟨x4, hx4, ax4, bx4, cx4, hs0_⟩ := bE (f := (eL (eI .u64))) V3 (fun _ => rfl) (by decide) hs0_
   obtain ⟨x5, hx5, ax5, bx5, cx5, hs0_⟩ := bE (f := (eL (eI .u64))) V3 (fun _ => rfl) (by decide) hs0_
   obtain ⟨y6, hy6, hs0_⟩ := bC hs0_
   refine Za3 Zc (by kernel_rfl) [] (by kernel_rfl) ?_
   simp only [push_cast, Nat.reduceAdd, Nat.reduceSub, Nat.reduceMul, Nat.reduceLeDiff, Nat.reduceLT, Nat.reduceEqDiff, ↓reduceIte, reduceCtorEq, Int.reduceBEq, Int.reduceBNe, Nat.reduceBEq, Int.reduceLE, Int.reduceLT, Int.reduceEq, Int.reduceNe, Int.reduceNeg, Nat.reduceDiv, Nat.reduceMod, Nat.reducePow, Za, ax4, bx4, cx4, ax5, bx5, cx5, hN0, hN]
   refine PCall.of (Ul hy6) ?_
   simp only [push_cast, Nat.reduceAdd, Nat.reduceSub, Nat.reduceMul, Nat.reduceLeDiff, Nat.reduceLT, Nat.reduceEqDiff, ↓reduceIte, reduceCtorEq, Int.reduceBEq, Int.reduceBNe, Nat.reduceBEq, Int.reduceLE, Int.reduceLT, Int.reduceEq, Int.reduceNe, Int.reduceNeg, Nat.reduceDiv, Nat.reduceMod, Nat.reducePow, Za, ax4, bx4, cx4, ax5, bx5, cx5, hN0, hN]
   refine Ze [0, 1, 5, 26] [] ?_
   simp only [push_cast, seval, ↓reduceIte]
   refine Zs (t := (!y6)) rfl (fun c7 => ?_) (fun c7 => ?_)
   ·replace hs0_ := Z0 c7 hs0_
    refine Zl [4] (Zb Zc [] ?_)
    simp only [push_cast, seval, ↓reduceIte, Za, hN0, hN]
    refine Z9 ?_
    try simp only [Zg, Zd]
    have hs0_ := Option.some.inj hs0_; subst hs0_
    refine And.intro (fun h => by cases h) (And.intro rfl (Fit2.of (Zh hU rfl rfl ?_) (by omega)))
    simp only [push_cast, seval, ↓reduceIte, Za, hN0, hN]
   replace hs0_ := Zz c7 hs0_
   refine Zt ?_
   try simp only [Zg, Zd]
   refine Ze [0, 1, 5] [] ?_
   simp only [push_cast, seval, ↓reduceIte]
   refine Zb Zc [] ?_
   simp only [push_cast, seval, ↓reduceIte, Za, hN0, hN]
   have hs0_ := Option.some.inj hs0_; subst hs0_
   refine And.intro rfl (Fit2.of (Zh hU rfl rfl ?_) (by omega))
   simp only [push_cast, seval, ↓reduceIte, Za, hN0, hN]
  replace hs0_ := Zz c8 hs0_
  refine Xo ?_
  try simp only [Zg, Zd, ↓reduceIte, Nat.reduceEqDiff]
  have hs0_ := Option.some.inj hs0_; subst hs0_
  refine And.intro (fun h => by cases h) (And.intro rfl (Fit2.of (Zh hU rfl rfl ?_) (by omega)))
  simp only [push_cast, seval, ↓reduceIte, Za, hN0, hN]
 rcases z9 with z9 | z9
 ·dsimp only [Qz] at hw h
  refine Jm hw ?_
  try simp only [Zg, Zd, ↓reduceIte, Nat.reduceEqDiff]
  have h := Option.some.inj h; subst h
  refine Zp (.inr rfl) hU [.val (.bool false)] (by omega) ?_
  simp only [push_cast, seval, ↓reduceIte, Za, Try.results20, hN0, hN]
 dsimp only [Qz] at hw h
 refine Z7 hw ?_
 try simp only [Zg, Zd, ↓reduceIte, Nat.reduceEqDiff]
 refine Ze [] [] ?_
 simp only [push_cast, seval, ↓reduceIte]
 refine Zl [4] (Zb Zc [] ?_)
 simp only [push_cast, seval, ↓reduceIte, Za, hN0, hN]
 refine Z9 ?_
 try simp only [Zg, Zd]
 have h := Option.some.inj h; subst h
 refine Zp (.inr rfl) hU [.val (.bool true)] (by omega) ?_
 simp only [push_cast, seval, ↓reduceIte, Za, Try.results20, hN0, hN]
theorem Um {a0 : (List (List Int))} {r : Bool} {O : Objs} {n : Nat} (h : Yh a0 = some r) : GTo Try.prog 50 [.sl a0.length (fl (eL (eI .u64)) a0)] O n (.val (.bool r)) O n := by
 unfold Yh at h
 refine Qp Zc Try.call50 Try.func50 rfl (Nat.le_of_ble_eq_true rfl) (Nat.le_refl _) fun hU => ?_
 have hN0 : O n = none := hU.fresh _ (Nat.le_refl _)
 have hN : ∀ k, O (n + k) = none := fun k => hU.fresh _ (Nat.le_add_right _ _)
 show W _ _ _ _ ⟨23, [], [(0, .sl a0.length (fl (eL (eI .u64)) a0))]⟩ (Zk O n []) _
 refine Zl [0] (Zb Zc [] ?_)
 simp only [push_cast, seval, ↓reduceIte, Za, hN0, hN]
 refine Zf ?_
 refine Zl [0, 12] (Zb Zc [none, none, none] ?_)
 simp only [push_cast, seval, ↓reduceIte, Za, hN0, hN]
 repeat (with_reducible refine And.intro (by first | (intro h0; simp only [h0, and_self]; done) | (intro h0; simp only [h0, Bool.not_false, Bool.not_true, Bool.true_and, Bool.and_true, true_and, and_true, and_self, imp_self, implies_true, bne_iff_ne, ne_eq, beq_iff_eq]; done) | (intros; simp_all; done) | exact True.intro) ?_)
 refine Zs (t := (cond (decide ((a0.length : Int) < 1)) true (decide (16 < (a0.length : Int))))) rfl (fun c6 => ?_) (fun c6 => ?_)
 ·replace h := Z0 c6 h
  refine Zl [2] (Zb Zc [] ?_)
  simp only [push_cast, seval, ↓reduceIte, Za, hN0, hN]
  refine Z9 ?_
  try simp only [Zg, Zd]
  have h := Option.some.inj h; subst h
  refine Zp (.inr rfl) hU [.val (.bool false)] (by omega) ?_
  simp only [push_cast, seval, ↓reduceIte, Za, Try.results50, hN0, hN]
 replace h := Zz c6 h
 refine Zt ?_
 try simp only [Zg, Zd]
 refine Ze [0] [] ?_
 simp only [push_cast, seval, ↓reduceIte]
 refine Zf ?_
 refine Zl [13, 14, 15] (Zb Zc [] ?_)
 simp only [push_cast, seval, ↓reduceIte, Za, hN0, hN]
 refine Ze [13, 14, 15] [] ?_
 simp only [push_cast, seval, ↓reduceIte]
 obtain ⟨z5, hz5, h⟩ := bC h
 refine V9 (J := (Qz (fun z5 => JR n (⟨23, [], [(2, .val (.bool false))]⟩ : Env) (Zk O n []) n) (fun z5 => JX 0 n (⟨23, [], []⟩ : Env) (Zk O n []) n))) (z := z5) ?_ fun hw => ?_
 ·refine Yp hz5 (fun s0_ => ⟨23, [], [(13, .sl a0.length (fl (eL (eI .u64)) a0)), (14, .val (.int .i64 (a0.length : Int))), (15, .val (.int .i64 s0_))]⟩) (fun s0_ => (Zk O n [])) (Qz (fun z5 => JR n (⟨23, [], [(2, .val (.bool false))]⟩ : Env) (Zk O n []) n) (fun z5 => JX 0 n (⟨23, [], []⟩ : Env) (Zk O n []) n)) ?_
  intro s0_ x0_ hs0_
  unfold Zv at hs0_
  try dsimp only
  refine Zl [13, 14, 15, 16] (Zb Zc [] ?_)
  simp only [push_cast, seval, ↓reduceIte, Za, hN0, hN]
  refine Zf ?_
  refine Zs (t := (decide (s0_ < (a0.length : Int)))) rfl (fun c4 => ?_) (fun c4 => ?_)
  ·replace hs0_ := Z0 c4 hs0_
   refine Zt ?_
   try simp only [Zg, Zd]
   refine Ze [13, 14, 15] [] ?_
   simp only [push_cast, seval, ↓reduceIte]
   refine Zf ?_
   refine Ye ?_
   obtain ⟨x2, hx2, ax2, bx2, cx2, hs0_⟩ := bE (f := (eL (eI .u64))) V3 (fun _ => rfl) (by decide) hs0_
   refine Zl [4, 13, 14, 15] (Zb Zc [] ?_)
   simp only [push_cast, Nat.reduceAdd, Nat.reduceSub, Nat.reduceMul, Nat.reduceLeDiff, Nat.reduceLT, Nat.reduceEqDiff, ↓reduceIte, reduceCtorEq, Int.reduceBEq, Int.reduceBNe, Nat.reduceBEq, Int.reduceLE, Int.reduceLT, Int.reduceEq, Int.reduceNe, Int.reduceNeg, Nat.reduceDiv, Nat.reduceMod, Nat.reducePow, Za, ax2, bx2, cx2, hN0, hN]
   refine Zl [13, 14, 15, 21] (Zb Zc [] ?_)
   simp only [push_cast, seval, ↓reduceIte, Za, hN0, hN]
   refine Zs (t := (decide (65536 < (x2.length : Int)))) rfl (fun c3 => ?_) (fun c3 => ?_)
   ·replace hs0_ := Z0 c3 hs0_
    refine Zl [2] (Zb Zc [] ?_)
    simp only [push_cast, seval, ↓reduceIte, Za, hN0, hN]
    refine Z9 ?_
    try simp only [Zg, Zd]
    have hs0_ := Option.some.inj hs0_; subst hs0_
    refine And.intro (fun h => by cases h) (And.intro rfl (Fit2.of (Zh hU rfl rfl ?_) (by omega)))
    simp only [push_cast, seval, ↓reduceIte, Za, hN0, hN]
   replace hs0_ := Zz c3 hs0_
   refine Zt ?_
   try simp only [Zg, Zd]
   refine Ze [13, 14, 15] [] ?_
   simp only [push_cast, seval, ↓reduceIte]
   refine Zb Zc [] ?_
   simp only [push_cast, seval, ↓reduceIte, Za, hN0, hN]
   have hs0_ := Option.some.inj hs0_; subst hs0_
   refine And.intro rfl (Fit2.of (Zh hU rfl rfl ?_) (by omega))
   simp only [push_cast, seval, ↓reduceIte, Za, hN0, hN]
  replace hs0_ := Zz c4 hs0_
  refine Xo ?_
  try simp only [Zg, Zd, ↓reduceIte, Nat.reduceEqDiff]
  have hs0_ := Option.some.inj hs0_; subst hs0_
  refine And.intro (fun h => by cases h) (And.intro rfl (Fit2.of (Zh hU rfl rfl ?_) (by omega)))
  simp only [push_cast, seval, ↓reduceIte, Za, hN0, hN]
 rcases z5 with z5 | z5
 ·dsimp only [Qz] at hw h
  refine Jm hw ?_
  try simp only [Zg, Zd, ↓reduceIte, Nat.reduceEqDiff]
  have h := Option.some.inj h; subst h
  refine Zp (.inr rfl) hU [.val (.bool false)] (by omega) ?_
  simp only [push_cast, seval, ↓reduceIte, Za, Try.results50, hN0, hN]
 dsimp only [Qz] at hw h
 refine Z7 hw ?_
 try simp only [Zg, Zd, ↓reduceIte, Nat.reduceEqDiff]
 refine Ze [] [] ?_
 simp only [push_cast, seval, ↓reduceIte]
 refine Zl [2] (Zb Zc [] ?_)
 simp only [push_cast, seval, ↓reduceIte, Za, hN0, hN]
 refine Z9 ?_
 try simp only [Zg, Zd]
 have h := Option.some.inj h; subst h
 refine Zp (.inr rfl) hU [.val (.bool true)] (by omega) ?_
 simp only [push_cast, seval, ↓reduceIte, Za, Try.results50, hN0, hN]
theorem K4 {a0 : (List Int)} {a1 : Int} {r : (List Int)} {O : Objs} {n i : Nat} (hi : i < n) (ho : O i = some ⟨true, 5, 1, a0.length, fl (eI .u8) a0⟩) (h : Yw a0 a1 = some r) : GTo Try.prog 51 [.row i a0.length, .val (.int .i64 a1)] O n (.row i r.length) (O.upd i (some ⟨true, 5, 1, r.length, fl (eI .u8) r⟩)) n := by
 unfold Yw at h
 refine Zop Zc Try.call51 Try.func51 rfl (Nat.le_of_ble_eq_true rfl) hi ho fun hU => ?_
 have hj : ∀ k, i < n + k := fun k => by omega
 have hN0 : ∀ o, O.upd i o n = none := fun o => Zab hU hi _ (Nat.le_refl _)
 have hN : ∀ o k, O.upd i o (n + k) = none := fun o k => Zab hU hi _ (Nat.le_add_right _ _)
 show W _ _ _ _ ⟨19, [], [(0, .row i a0.length), (1, .val (.int .i64 a1))]⟩ (Zk (O.upd i (some ⟨true, 5, 1, a0.length, fl (eI .u8) a0⟩)) n []) _
 refine Zl [0, 1] (Zb Zc [] ?_)
 simp only [push_cast, seval, ↓reduceIte, Za, hi, hj, hN0, hN]
 refine Zf ?_
 obtain ⟨l2, pl2, ql2, el2, h⟩ := bA (k := 4) rfl h
 refine Zb Zc [] ?_
 simp only [push_cast, seval, ↓reduceIte, Za, pl2, ql2, el2, hi, hj, hN0, hN]
 refine Vx ⟨19, [], [(4, .row i l2.length)]⟩ (Zk (O.upd i (some ⟨true, 5, 1, l2.length, fl (eI .u8) l2⟩)) n [none]) (Zlb hU rfl rfl ?_) ?_
 ·simp only [push_cast, seval, ↓reduceIte, Za, pl2, ql2, el2, hi, hj, hN0, hN]
 refine Z9 ?_
 try simp only [Zg, Zd]
 have h := Option.some.inj h; subst h
 refine Zla (.inr rfl) hU hi [.row i l2.length] (by omega) ?_
 simp only [push_cast, seval, ↓reduceIte, Za, Try.results51, hi, hj, hN0, hN]
theorem Zcy {a0 : Int} {r : (Arr Int 8)} {O : Objs} {n : Nat} (h : Xw a0 = some r) : GTo Try.prog 80 [.val (.int .u64 a0)] O n (.agg (fl (eI .u8) r.1)) O n := by
 unfold Xw at h
 refine Qp Zc Try.call80 Try.func80 rfl (Nat.le_of_ble_eq_true rfl) (Nat.le_refl _) fun hU => ?_
 have hN0 : O n = none := hU.fresh _ (Nat.le_refl _)
 have hN : ∀ k, O (n + k) = none := fun k => hU.fresh _ (Nat.le_add_right _ _)
 show W _ _ _ _ ⟨17, [], [(0, .val (.int .u64 a0))]⟩ (Zk O n []) _
 obtain ⟨y3, hy3, ey3, h⟩ := bY (f := (eI .u8)) (cs := [.val (.int .u8 0), .val (.int .u8 0), .val (.int .u8 0), .val (.int .u8 0), .val (.int .u8 0), .val (.int .u8 0), .val (.int .u8 0), .val (.int .u8 0)]) rfl h
 have g4 := congrArg (GObj.mk false 114 8 1) ey3
 refine Zl [0, 2] (Zb Zc [] ?_)
 simp only [push_cast, seval, ↓reduceIte, Za, g4, hN0, hN]
 obtain ⟨y7, hy7, ey7, h⟩ := bY (f := (eI .u8)) (cs := [.val (.int .u8 0), .val (.int .u8 0), .val (.int .u8 0), .val (.int .u8 0), .val (.int .u8 0), .val (.int .u8 0), .val (.int .u8 0), .val (.int .u8 0)]) rfl h
 have g8 := congrArg (GObj.mk false 114 8 1) ey7
 refine Zl [0, 2, 3] (Zb Zc [] ?_)
 simp only [push_cast, seval, ↓reduceIte, Za, g8, hN0, hN]
 refine Zf ?_
 refine Zl [0, 2, 3, 5] (Zb Zc [] ?_)
 simp only [push_cast, seval, ↓reduceIte, Za, hN0, hN]
 refine Ze [0, 2, 3, 5] [true, true] ?_
 simp only [push_cast, seval, ↓reduceIte]
 obtain ⟨z13, hz13, h⟩ := bC h
 refine Z7 (E' := ⟨17, [], [(2, .ref n 0), (3, .ref (n + 1) 0)]⟩) (O' := (Zk O n [some ⟨false, 114, 8, 1, fl (eI .u8) y3.1⟩, some ⟨false, 114, 8, 1, fl (eI .u8) z13.1⟩])) (n0 := (n + 2)) ?_ ?_
 ·refine Yp hz13 (fun s0_ => ⟨17, [], [(0, .val (.int .u64 a0)), (2, .ref n 0), (3, .ref (n + 1) 0), (5, .val (.int .i64 s0_.1))]⟩) (fun s0_ => (Zk O n [some ⟨false, 114, 8, 1, fl (eI .u8) y3.1⟩, some ⟨false, 114, 8, 1, fl (eI .u8) s0_.2.1⟩])) (fun z13 => JX 0 n (⟨17, [], [(2, .ref n 0), (3, .ref (n + 1) 0)]⟩ : Env) (Zk O n [some ⟨false, 114, 8, 1, fl (eI .u8) y3.1⟩, some ⟨false, 114, 8, 1, fl (eI .u8) z13.1⟩]) (n + 2)) ?_
  intro s0_ x0_ hs0_
  unfold Xh at hs0_
  try dsimp only
  refine Zl [0, 2, 3, 5, 6] (Zb Zc [] ?_)
  simp only [push_cast, seval, ↓reduceIte, Za, hN0, hN]
  refine Zf ?_
  refine Zs (t := (decide (s0_.1 < 8))) rfl (fun c12 => ?_) (fun c12 => ?_)
  ·replace hs0_ := Z0 c12 hs0_
   refine Zt ?_
   try simp only [Zg, Zd]
   refine Ze [0, 2, 3, 5] [true, true] ?_
   simp only [push_cast, seval, ↓reduceIte]
   refine Zf ?_
   refine Ye ?_
   refine Zl [0, 2, 3, 4, 5] (Zb Zc [] ?_)
   simp only [push_cast, seval, ↓reduceIte, Za, hN0, hN]
   obtain ⟨pu9, hs0_⟩ := bG hs0_
   obtain ⟨x10, hx10, ax10, bx10, cx10, hs0_⟩ := bEA (f := (eI .u8)) (b := 8) rfl Ks (fun _ => rfl) (by decide) hs0_
   have gu11 : X8 (fl (eI .u8) s0_.2.1) [.val (.int .u8 (IntKind.u8.wrap (Int.fdiv a0 (2 ^ min (Int.toNat (IntKind.i64.wrap (8 * s0_.1))) 64))))] (Int.toNat s0_.1 * 1) = some (fl (eI .u8) (Zcb s0_.2.1 s0_.1 (IntKind.u8.wrap (Int.fdiv a0 (2 ^ min (Int.toNat (IntKind.i64.wrap (8 * s0_.1))) 64))))) := Gr (f := (eI .u8)) (ti := ⟨.bool, 1, 0, [], false⟩) (x := (IntKind.u8.wrap (Int.fdiv a0 (2 ^ min (Int.toNat (IntKind.i64.wrap (8 * s0_.1))) 64)))) (fun _ => rfl) (K7 hx10)
   refine Zb Zc [] ?_
   simp only [push_cast, Nat.reduceAdd, Nat.reduceSub, Nat.reduceMul, Nat.reduceLeDiff, Nat.reduceLT, Nat.reduceEqDiff, ↓reduceIte, reduceCtorEq, Int.reduceBEq, Int.reduceBNe, Nat.reduceBEq, Int.reduceLE, Int.reduceLT, Int.reduceEq, Int.reduceNe, Int.reduceNeg, Nat.reduceDiv, Nat.reduceMod, Nat.reducePow, Za, pu9, ax10, bx10, cx10, gu11, hN0, hN]
   refine Ze [0, 2, 3, 5] [true, true] ?_
   simp only [push_cast, seval, ↓reduceIte]
   refine Zb Zc [] ?_
   simp only [push_cast, seval, ↓reduceIte, Za, hN0, hN]
   have hs0_ := Option.some.inj hs0_; subst hs0_
   refine And.intro rfl (Fit2.of (Zh hU rfl rfl ?_) (by omega))
   simp only [push_cast, seval, ↓reduceIte, Za, hN0, hN]
  replace hs0_ := Zz c12 hs0_
  refine Xo ?_
  try simp only [Zg, Zd, ↓reduceIte, Nat.reduceEqDiff]
  have hs0_ := Option.some.inj hs0_; subst hs0_
  refine And.intro (fun h => by cases h) (And.intro rfl (Fit2.of (Zh hU rfl rfl ?_) (by omega)))
  simp only [push_cast, seval, ↓reduceIte, Za, hN0, hN]
 try simp only [Zg, Zd, ↓reduceIte, Nat.reduceEqDiff]
 refine Ze [2, 3] [true, true] ?_
 simp only [push_cast, seval, ↓reduceIte]
 refine Zf ?_
 have g16 := Kh (f := (eI .u8)) z13 Uq rfl (fun _ => rfl) rfl
 have g17 := Jt (f := (eI .u8)) y3 z13 (fun _ => rfl)
 refine Zb Zc [] ?_
 simp only [push_cast, seval, ↓reduceIte, Za, g16, g17, hN0, hN]
 refine Ze [2] [true, false] ?_
 simp only [push_cast, seval, ↓reduceIte]
 refine Z9 ?_
 try simp only [Zg, Zd]
 have h := Option.some.inj h; subst h
 have gR0 := Kh (f := (eI .u8)) z13 Uq rfl (fun _ => rfl) rfl
 refine Zp (.inr rfl) hU [.agg (fl (eI .u8) z13.1)] (by omega) ?_
 simp only [push_cast, seval, ↓reduceIte, Za, Try.results80, hN0, hN, gR0]
theorem Zew {a0 : (List Int)} {r : (List Int)} {O : Objs} {n : Nat} (h : X9 a0 = some r) : GTo Try.prog 53 [.sl a0.length (fl (eI .u64) a0)] O n (.sl r.length (fl (eI .u8) r)) O n := by
 unfold X9 at h
 refine Qp Zc Try.call53 Try.func53 rfl (Nat.le_of_ble_eq_true rfl) (Nat.le_refl _) fun hU => ?_
 have hN0 : O n = none := hU.fresh _ (Nat.le_refl _)
 have hN : ∀ k, O (n + k) = none := fun k => hU.fresh _ (Nat.le_add_right _ _)
 show W _ _ _ _ ⟨24, [], [(0, .sl a0.length (fl (eI .u64) a0))]⟩ (Zk O n []) _
 refine Zl [0] (Zb Zc [] ?_)
 simp only [push_cast, seval, ↓reduceIte, Za, hN0, hN]
 refine Zf ?_
 obtain ⟨l2, al2, bl2, cl2, el2, h⟩ := bM2 (c := 1) rfl h
 have tl2 : Int.toNat 0 = 0 := rfl
 refine Zb Zc [] ?_
 simp only [push_cast, seval, ↓reduceIte, Za, al2, bl2, cl2, tl2, hN0, hN]
 refine Ze [0, 3] [true] ?_
 simp only [push_cast, seval, ↓reduceIte]
 refine Zf ?_
 refine Zl [3, 11, 12, 13] (Zb Zc [] ?_)
 simp only [push_cast, seval, ↓reduceIte, Za, hN0, hN]
 refine Ze [3, 11, 12, 13] [true] ?_
 simp only [push_cast, seval, ↓reduceIte]
 obtain ⟨z17, hz17, h⟩ := bC h
 refine Z7 (E' := ⟨24, [], [(3, .row n z17.length)]⟩) (O' := (Zk O n [some ⟨true, 5, 1, z17.length, fl (eI .u8) z17⟩])) (n0 := (n + 1)) ?_ ?_
 ·refine Yp hz17 (fun s0_ => ⟨24, [], [(3, .row n s0_.2.length), (11, .sl a0.length (fl (eI .u64) a0)), (12, .val (.int .i64 (a0.length : Int))), (13, .val (.int .i64 s0_.1))]⟩) (fun s0_ => (Zk O n [some ⟨true, 5, 1, s0_.2.length, fl (eI .u8) s0_.2⟩])) (fun z17 => JX 0 n (⟨24, [], [(3, .row n z17.length)]⟩ : Env) (Zk O n [some ⟨true, 5, 1, z17.length, fl (eI .u8) z17⟩]) (n + 1)) ?_
  intro s0_ x0_ hs0_
  unfold Qa at hs0_
  try dsimp only
  refine Zl [3, 11, 12, 13, 14] (Zb Zc [] ?_)
  simp only [push_cast, seval, ↓reduceIte, Za, hN0, hN]
  refine Zf ?_
  refine Zs (t := (decide (s0_.1 < (a0.length : Int)))) rfl (fun c16 => ?_) (fun c16 => ?_)
  ·replace hs0_ := Z0 c16 hs0_
   refine Zt ?_
   try simp only [Zg, Zd]
   refine Ze [3, 11, 12, 13] [true] ?_
   simp only [push_cast, seval, ↓reduceIte]
   refine Zf ?_
   refine Ye ?_
   obtain ⟨x4, hx4, ax4, bx4, cx4, hs0_⟩ := bE (f := (eI .u64)) Zcd (fun _ => rfl) (by decide) hs0_
   refine Zl [3, 5, 11, 12, 13] (Zb Zc [] ?_)
   simp only [push_cast, Nat.reduceAdd, Nat.reduceSub, Nat.reduceMul, Nat.reduceLeDiff, Nat.reduceLT, Nat.reduceEqDiff, ↓reduceIte, reduceCtorEq, Int.reduceBEq, Int.reduceBNe, Nat.reduceBEq, Int.reduceLE, Int.reduceLT, Int.reduceEq, Int.reduceNe, Int.reduceNeg, Nat.reduceDiv, Nat.reduceMod, Nat.reducePow, Za, ax4, bx4, cx4, hN0, hN]
   refine Zf ?_
   obtain ⟨y9, hy9, hs0_⟩ := bC hs0_
   obtain ⟨y10, hy10, ey10, hs0_⟩ := bY (f := (eI .u8)) (cs := [.val (.int .u8 0), .val (.int .u8 0), .val (.int .u8 0), .val (.int .u8 0), .val (.int .u8 0), .val (.int .u8 0), .val (.int .u8 0), .val (.int .u8 0)]) rfl hs0_
   have g11 := congrArg (GObj.mk false 114 8 1) ey10
   have g12 := Jt (f := (eI .u8)) y10 y9 (fun _ => rfl)
   refine Zb Zc [] ?_
   simp only [push_cast, seval, ↓reduceIte, Za, g11, g12, hN0, hN]
   refine (Zcy hy9).then ?_
   simp only [push_cast, seval, ↓reduceIte, Za, g11, g12, hN0, hN]
   refine Ze [3, 6, 11, 12, 13] [true, true] ?_
   simp only [push_cast, seval, ↓reduceIte]
   have g13 := Uf (j := (n + 1)) Vg Ks (by decide)
   have g14 := Zce (f := (eI .u8)) y9 (fun _ => rfl) 8 rfl
   obtain ⟨l15, pl15, ql15, el15, hs0_⟩ := bA (k := 8) y9.2 hs0_
   refine Zb Zc [] ?_
   simp only [push_cast, seval, ↓reduceIte, Za, g13, g14, pl15, ql15, el15, hN0, hN]
   refine Vx ⟨24, [], [(3, .row n l15.length), (11, .sl a0.length (fl (eI .u64) a0)), (12, .val (.int .i64 (a0.length : Int))), (13, .val (.int .i64 s0_.1))]⟩ (Zk O n [some ⟨true, 5, 1, l15.length, fl (eI .u8) l15⟩, none]) (Zh hU rfl rfl ?_) ?_
   ·simp only [push_cast, seval, ↓reduceIte, Za, g13, g14, pl15, ql15, el15, hN0, hN]
   refine Zb Zc [] ?_
   simp only [push_cast, seval, ↓reduceIte, Za, hN0, hN]
   have hs0_ := Option.some.inj hs0_; subst hs0_
   refine And.intro rfl (Fit2.of (Zh hU rfl rfl ?_) (by omega))
   simp only [push_cast, seval, ↓reduceIte, Za, hN0, hN]
  replace hs0_ := Zz c16 hs0_
  refine Xo ?_
  try simp only [Zg, Zd, ↓reduceIte, Nat.reduceEqDiff]
  have hs0_ := Option.some.inj hs0_; subst hs0_
  refine And.intro (fun h => by cases h) (And.intro rfl (Fit2.of (Zh hU rfl rfl ?_) (by omega)))
  simp only [push_cast, seval, ↓reduceIte, Za, hN0, hN]
 try simp only [Zg, Zd, ↓reduceIte, Nat.reduceEqDiff]
 refine Ze [3] [true] ?_
 simp only [push_cast, seval, ↓reduceIte]
 refine Zl [2] (Zb Zc [] ?_)
 simp only [push_cast, seval, ↓reduceIte, Za, hN0, hN]
 refine Z9 ?_
 try simp only [Zg, Zd]
 have h := Option.some.inj h; subst h
 refine Zp (.inr rfl) hU [.row n z17.length] (by omega) ?_
 simp only [push_cast, seval, ↓reduceIte, Za, Try.results53, hN0, hN]
theorem Vb {a0 : (List (List Int))} {r : ((List Int) × Bool)} {O : Objs} {n : Nat} (h : Yr a0 = some r) : GTo Try.prog 15 [.sl a0.length (fl (eL (eI .u64)) a0)] O n (.tup [.sl r.1.length (fl (eI .u8) r.1), .val (.bool r.2)]) O n := by
 unfold Yr at h
 refine Qp Zc Try.call15 Try.func15 rfl (Nat.le_of_ble_eq_true rfl) (Nat.le_refl _) fun hU => ?_
 have hN0 : O n = none := hU.fresh _ (Nat.le_refl _)
 have hN : ∀ k, O (n + k) = none := fun k => hU.fresh _ (Nat.le_add_right _ _)
 show W _ _ _ _ ⟨48, [], [(0, .sl a0.length (fl (eL (eI .u64)) a0))]⟩ (Zk O n []) _
 refine Zl [0] (Zb Zc [] ?_)
 simp only [push_cast, seval, ↓reduceIte, Za, hN0, hN]
 refine Zf ?_
 refine Zf ?_
 obtain ⟨y2, hy2, h⟩ := bC h
 refine Zb Zc [] ?_
 simp only [push_cast, seval, ↓reduceIte, Za, hN0, hN]
 refine (Um hy2).then ?_
 simp only [push_cast, seval, ↓reduceIte, Za, hN0, hN]
 refine Ze [0, 11] [] ?_
 simp only [push_cast, seval, ↓reduceIte]
 refine Zs (t := (!y2)) rfl (fun c21 => ?_) (fun c21 => ?_)
 ·replace h := Z0 c21 h
  refine Zl [2, 3] (Zb Zc [] ?_)
  simp only [push_cast, seval, ↓reduceIte, Za, hN0, hN]
  refine Z9 ?_
  try simp only [Zg, Zd]
  have h := Option.some.inj h; subst h
  refine Zp (.inr rfl) hU [.val (.slice none 0 0), .val (.bool false)] (by omega) ?_
  simp only [push_cast, seval, ↓reduceIte, Za, Try.results15, hN0, hN]
 replace h := Zz c21 h
 refine Zt ?_
 try simp only [Zg, Zd]
 refine Ze [0] [] ?_
 simp only [push_cast, seval, ↓reduceIte]
 refine Zf ?_
 obtain ⟨y4, hy4, h⟩ := bC h
 refine Zb Zc [] ?_
 simp only [push_cast, seval, ↓reduceIte, Za, hN0, hN]
 refine GCalls.adopt (pre := []) 5 1 ?_
 simp only [push_cast, seval, ↓reduceIte, Za, List.append_eq, List.cons_append, List.nil_append, hN0, hN]
 refine (K4 (i := _) (by omega) (by simp only [push_cast, seval, ↓reduceIte, Za, Zei, hN0, hN] <;> rfl) hy4).then ?_
 simp only [push_cast, seval, ↓reduceIte, Za, hN0, hN]
 refine Ze [0, 4] [true] ?_
 simp only [push_cast, seval, ↓reduceIte]
 refine Zf ?_
 refine Zl [0, 4, 16, 17, 18] (Zb Zc [] ?_)
 simp only [push_cast, seval, ↓reduceIte, Za, hN0, hN]
 refine Ze [0, 4, 16, 17, 18] [true] ?_
 simp only [push_cast, seval, ↓reduceIte]
 obtain ⟨z9, hz9, h⟩ := bC h
 refine Z7 (E' := ⟨48, [], [(0, .sl a0.length (fl (eL (eI .u64)) a0)), (4, .row n z9.length)]⟩) (O' := (Zk O n [some ⟨true, 5, 1, z9.length, fl (eI .u8) z9⟩])) (n0 := (n + 1)) ?_ ?_
 ·refine Yp hz9 (fun s0_ => ⟨48, [], [(0, .sl a0.length (fl (eL (eI .u64)) a0)), (4, .row n s0_.2.length), (16, .sl a0.length (fl (eL (eI .u64)) a0)), (17, .val (.int .i64 (a0.length : Int))), (18, .val (.int .i64 s0_.1))]⟩) (fun s0_ => (Zk O n [some ⟨true, 5, 1, s0_.2.length, fl (eI .u8) s0_.2⟩])) (fun z9 => JX 0 n (⟨48, [], [(0, .sl a0.length (fl (eL (eI .u64)) a0)), (4, .row n z9.length)]⟩ : Env) (Zk O n [some ⟨true, 5, 1, z9.length, fl (eI .u8) z9⟩]) (n + 1)) ?_
  intro s0_ x0_ hs0_
  unfold Xa at hs0_
  try dsimp only
  refine Zl [0, 4, 16, 17, 18, 19] (Zb Zc [] ?_)
  simp only [push_cast, seval, ↓reduceIte, Za, hN0, hN]
  refine Zf ?_
  refine Zs (t := (decide (s0_.1 < (a0.length : Int)))) rfl (fun c8 => ?_) (fun c8 => ?_)
  ·replace hs0_ := Z0 c8 hs0_
   refine Zt ?_
   try simp only [Zg, Zd]
   refine Ze [0, 4, 16, 17, 18] [true] ?_
   simp only [push_cast, seval, ↓reduceIte]
   refine Zf ?_
   refine Ye ?_
   obtain ⟨x6, hx6, ax6, bx6, cx6, hs0_⟩ := bE (f := (eL (eI .u64))) V3 (fun _ => rfl) (by decide) hs0_
   refine Zl [0, 4, 6, 16, 17, 18] (Zb Zc [] ?_)
   simp only [push_cast, Nat.reduceAdd, Nat.reduceSub, Nat.reduceMul, Nat.reduceLeDiff, Nat.reduceLT, Nat.reduceEqDiff, ↓reduceIte, reduceCtorEq, Int.reduceBEq, Int.reduceBNe, Nat.reduceBEq, Int.reduceLE, Int.reduceLT, Int.reduceEq, Int.reduceNe, Int.reduceNeg, Nat.reduceDiv, Nat.reduceMod, Nat.reducePow, Za, ax6, bx6, cx6, hN0, hN]
   obtain ⟨y7, hy7, hs0_⟩ := bC hs0_
   refine Zb Zc [] ?_
   simp only [push_cast, seval, ↓reduceIte, Za, hN0, hN]
   refine (K4 (i := _) (by omega) (by simp only [push_cast, seval, ↓reduceIte, Za, Zei, hN0, hN] <;> rfl) hy7).then ?_
   simp only [push_cast, seval, ↓reduceIte, Za, hN0, hN]
   refine Ze [0, 4, 16, 17, 18] [true] ?_
   simp only [push_cast, seval, ↓reduceIte]
   refine Zb Zc [] ?_
   simp only [push_cast, seval, ↓reduceIte, Za, hN0, hN]
   have hs0_ := Option.some.inj hs0_; subst hs0_
   refine And.intro rfl (Fit2.of (Zh hU rfl rfl ?_) (by omega))
   simp only [push_cast, seval, ↓reduceIte, Za, hN0, hN]
  replace hs0_ := Zz c8 hs0_
  refine Xo ?_
  try simp only [Zg, Zd, ↓reduceIte, Nat.reduceEqDiff]
  have hs0_ := Option.some.inj hs0_; subst hs0_
  refine And.intro (fun h => by cases h) (And.intro rfl (Fit2.of (Zh hU rfl rfl ?_) (by omega)))
  simp only [push_cast, seval, ↓reduceIte, Za, hN0, hN]
 try simp only [Zg, Zd, ↓reduceIte, Nat.reduceEqDiff]
 refine Ze [0, 4] [true] ?_
 simp only [push_cast, seval, ↓reduceIte]
 refine Zf ?_
 refine Ze [0, 4] [true] ?_
 simp only [push_cast, seval, ↓reduceIte]
 obtain ⟨z14, hz14, h⟩ := bC h
 refine Z7 (E' := ⟨48, [], [(0, .sl a0.length (fl (eL (eI .u64)) a0)), (4, .row n z14.length)]⟩) (O' := (Zk O n [some ⟨true, 5, 1, z14.length, fl (eI .u8) z14⟩])) (n0 := (n + 1)) ?_ ?_
 ·refine Yp hz14 (fun s1_ => ⟨48, [], [(0, .sl a0.length (fl (eL (eI .u64)) a0)), (4, .row n s1_.length)]⟩) (fun s1_ => (Zk O n [some ⟨true, 5, 1, s1_.length, fl (eI .u8) s1_⟩])) (fun z14 => JX 2 n (⟨48, [], [(0, .sl a0.length (fl (eL (eI .u64)) a0)), (4, .row n z14.length)]⟩ : Env) (Zk O n [some ⟨true, 5, 1, z14.length, fl (eI .u8) z14⟩]) (n + 1)) ?_
  intro s1_ x1_ hs1_
  unfold Qc at hs1_
  try dsimp only
  refine Zf ?_
  refine Zf ?_
  obtain ⟨y11, hy11, hs1_⟩ := bC hs1_
  refine Zb Zc [] ?_
  simp only [push_cast, seval, ↓reduceIte, Za, hN0, hN]
  refine (Qe hy11).then ?_
  simp only [push_cast, seval, ↓reduceIte, Za, hN0, hN]
  refine Ze [0, 4, 32] [true] ?_
  simp only [push_cast, seval, ↓reduceIte]
  refine Zs (t := (decide ((s1_.length : Int) < y11))) rfl (fun c13 => ?_) (fun c13 => ?_)
  ·replace hs1_ := Z0 c13 hs1_
   refine Zt ?_
   try simp only [Zg, Zd]
   refine Ze [0, 4] [true] ?_
   simp only [push_cast, seval, ↓reduceIte]
   refine Ye ?_
   obtain ⟨l12, pl12, ql12, el12, hs1_⟩ := bA (k := 1) rfl hs1_
   refine Zb Zc [] ?_
   simp only [push_cast, seval, ↓reduceIte, Za, pl12, ql12, el12, hN0, hN]
   have hs1_ := Option.some.inj hs1_; subst hs1_
   refine And.intro rfl (Fit2.of (Zh hU rfl rfl ?_) (by omega))
   simp only [push_cast, seval, ↓reduceIte, Za, pl12, ql12, el12, hN0, hN]
  replace hs1_ := Zz c13 hs1_
  refine Xo ?_
  try simp only [Zg, Zd, ↓reduceIte, Nat.reduceEqDiff]
  have hs1_ := Option.some.inj hs1_; subst hs1_
  refine And.intro (fun h => by cases h) (And.intro rfl (Fit2.of (Zh hU rfl rfl ?_) (by omega)))
  simp only [push_cast, seval, ↓reduceIte, Za, hN0, hN]
 try simp only [Zg, Zd, ↓reduceIte, Nat.reduceEqDiff]
 refine Ze [0, 4] [true] ?_
 simp only [push_cast, seval, ↓reduceIte]
 refine Zf ?_
 refine Zl [4, 36, 37, 38] (Zb Zc [] ?_)
 simp only [push_cast, seval, ↓reduceIte, Za, hN0, hN]
 refine Ze [4, 36, 37, 38] [true] ?_
 simp only [push_cast, seval, ↓reduceIte]
 obtain ⟨z20, hz20, h⟩ := bC h
 refine Z7 (E' := ⟨48, [], [(4, .row n z20.length)]⟩) (O' := (Zk O n [some ⟨true, 5, 1, z20.length, fl (eI .u8) z20⟩])) (n0 := (n + 1)) ?_ ?_
 ·refine Yp hz20 (fun s2_ => ⟨48, [], [(4, .row n s2_.2.length), (36, .sl a0.length (fl (eL (eI .u64)) a0)), (37, .val (.int .i64 (a0.length : Int))), (38, .val (.int .i64 s2_.1))]⟩) (fun s2_ => (Zk O n [some ⟨true, 5, 1, s2_.2.length, fl (eI .u8) s2_.2⟩])) (fun z20 => JX 4 n (⟨48, [], [(4, .row n z20.length)]⟩ : Env) (Zk O n [some ⟨true, 5, 1, z20.length, fl (eI .u8) z20⟩]) (n + 1)) ?_
  intro s2_ x2_ hs2_
  unfold Xb at hs2_
  try dsimp only
  refine Zl [4, 36, 37, 38, 39] (Zb Zc [] ?_)
  simp only [push_cast, seval, ↓reduceIte, Za, hN0, hN]
  refine Zf ?_
  refine Zs (t := (decide (s2_.1 < (a0.length : Int)))) rfl (fun c19 => ?_) (fun c19 => ?_)
  ·replace hs2_ := Z0 c19 hs2_
   refine Zt ?_
   try simp only [Zg, Zd]
   refine Ze [4, 36, 37, 38] [true] ?_
   simp only [push_cast, seval, ↓reduceIte]
   refine Zf ?_
   refine Ye ?_
   obtain ⟨x16, hx16, ax16, bx16, cx16, hs2_⟩ := bE (f := (eL (eI .u64))) V3 (fun _ => rfl) (by decide) hs2_
   refine Zl [4, 8, 36, 37, 38] (Zb Zc [] ?_)
   simp only [push_cast, Nat.reduceAdd, Nat.reduceSub, Nat.reduceMul, Nat.reduceLeDiff, Nat.reduceLT, Nat.reduceEqDiff, ↓reduceIte, reduceCtorEq, Int.reduceBEq, Int.reduceBNe, Nat.reduceBEq, Int.reduceLE, Int.reduceLT, Int.reduceEq, Int.reduceNe, Int.reduceNeg, Nat.reduceDiv, Nat.reduceMod, Nat.reducePow, Za, ax16, bx16, cx16, hN0, hN]
   obtain ⟨y17, hy17, hs2_⟩ := bC hs2_
   obtain ⟨l18, pl18, ql18, el18, hs2_⟩ := bA (k := y17.length) rfl hs2_
   refine Zb Zc [] ?_
   simp only [push_cast, seval, ↓reduceIte, Za, pl18, ql18, el18, hN0, hN]
   refine (Zew hy17).then ?_
   simp only [push_cast, seval, ↓reduceIte, Za, pl18, ql18, el18, hN0, hN]
   refine Vx ⟨48, [], [(4, .row n l18.length), (36, .sl a0.length (fl (eL (eI .u64)) a0)), (37, .val (.int .i64 (a0.length : Int))), (38, .val (.int .i64 s2_.1))]⟩ (Zk O n [some ⟨true, 5, 1, l18.length, fl (eI .u8) l18⟩]) (Zh hU rfl rfl ?_) ?_
   ·simp only [push_cast, seval, ↓reduceIte, Za, pl18, ql18, el18, hN0, hN]
   refine Zb Zc [] ?_
   simp only [push_cast, seval, ↓reduceIte, Za, hN0, hN]
   have hs2_ := Option.some.inj hs2_; subst hs2_
   refine And.intro rfl (Fit2.of (Zh hU rfl rfl ?_) (by omega))
   simp only [push_cast, seval, ↓reduceIte, Za, hN0, hN]
  replace hs2_ := Zz c19 hs2_
  refine Xo ?_
  try simp only [Zg, Zd, ↓reduceIte, Nat.reduceEqDiff]
  have hs2_ := Option.some.inj hs2_; subst hs2_
  refine And.intro (fun h => by cases h) (And.intro rfl (Fit2.of (Zh hU rfl rfl ?_) (by omega)))
  simp only [push_cast, seval, ↓reduceIte, Za, hN0, hN]
 try simp only [Zg, Zd, ↓reduceIte, Nat.reduceEqDiff]
 refine Ze [4] [true] ?_
 simp only [push_cast, seval, ↓reduceIte]
 refine Zl [2, 3] (Zb Zc [] ?_)
 simp only [push_cast, seval, ↓reduceIte, Za, hN0, hN]
 refine Z9 ?_
 try simp only [Zg, Zd]
 have h := Option.some.inj h; subst h
 refine Zp (.inr rfl) hU [.row n z20.length, .val (.bool true)] (by omega) ?_
 simp only [push_cast, seval, ↓reduceIte, Za, Try.results15, hN0, hN]
theorem Y0 {a0 : (List Int)} {a1 : (List Int)} {r : Bool} {O : Objs} {n : Nat} (h : Yg a0 a1 = some r) : GTo Try.prog 17 [.sl a0.length (fl (eI .u8) a0), .sl a1.length (fl (eI .u8) a1)] O n (.val (.bool r)) O n := by
 unfold Yg at h
 refine Qp Zc Try.call17 Try.func17 rfl (Nat.le_of_ble_eq_true rfl) (Nat.le_refl _) fun hU => ?_
 have hN0 : O n = none := hU.fresh _ (Nat.le_refl _)
 have hN : ∀ k, O (n + k) = none := fun k => hU.fresh _ (Nat.le_add_right _ _)
 show W _ _ _ _ ⟨26, [], [(0, .sl a0.length (fl (eI .u8) a0)), (1, .sl a1.length (fl (eI .u8) a1))]⟩ (Zk O n []) _
 refine Zl [0, 1] (Zb Zc [] ?_)
 simp only [push_cast, seval, ↓reduceIte, Za, hN0, hN]
 refine Zf ?_
 refine Zl [0, 1, 10] (Zb Zc [] ?_)
 simp only [push_cast, seval, ↓reduceIte, Za, hN0, hN]
 refine Zs (t := ((a0.length : Int) != (a1.length : Int))) rfl (fun c8 => ?_) (fun c8 => ?_)
 ·replace h := Z0 c8 h
  refine Zl [4] (Zb Zc [] ?_)
  simp only [push_cast, seval, ↓reduceIte, Za, hN0, hN]
  refine Z9 ?_
  try simp only [Zg, Zd]
  have h := Option.some.inj h; subst h
  refine Zp (.inr rfl) hU [.val (.bool false)] (by omega) ?_
  simp only [push_cast, seval, ↓reduceIte, Za, Try.results17, hN0, hN]
 replace h := Zz c8 h
 refine Zt ?_
 try simp only [Zg, Zd]
 refine Ze [0, 1] [] ?_
 simp only [push_cast, seval, ↓reduceIte]
 refine Zf ?_
 refine Zl [0, 1, 5] (Zb Zc [] ?_)
 simp only [push_cast, seval, ↓reduceIte, Za, hN0, hN]
 refine Ze [0, 1, 5] [] ?_
 simp only [push_cast, seval, ↓reduceIte]
 obtain ⟨z7, hz7, h⟩ := bC h
 refine V9 (J := (Qz (fun z7 => JR n (⟨26, [], [(4, .val (.bool false))]⟩ : Env) (Zk O n []) n) (fun z7 => JX 0 n (⟨26, [], []⟩ : Env) (Zk O n []) n))) (z := z7) ?_ fun hw => ?_
 ·refine Yp hz7 (fun s0_ => ⟨26, [], [(0, .sl a0.length (fl (eI .u8) a0)), (1, .sl a1.length (fl (eI .u8) a1)), (5, .val (.int .i64 s0_))]⟩) (fun s0_ => (Zk O n [])) (Qz (fun z7 => JR n (⟨26, [], [(4, .val (.bool false))]⟩ : Env) (Zk O n []) n) (fun z7 => JX 0 n (⟨26, [], []⟩ : Env) (Zk O n []) n)) ?_
  intro s0_ x0_ hs0_
  unfold Qi at hs0_
  try dsimp only
  refine Zf ?_
  refine Zl [0, 1, 5, 14] (Zb Zc [] ?_)
  simp only [push_cast, seval, ↓reduceIte, Za, hN0, hN]
  refine Zs (t := (decide (s0_ < (a0.length : Int)))) rfl (fun c6 => ?_) (fun c6 => ?_)
  ·replace hs0_ := Z0 c6 hs0_
   refine Zt ?_
   try simp only [Zg, Zd]
   refine Ze [0, 1, 5] [] ?_
   simp only [push_cast, seval, ↓reduceIte]
   refine Zf ?_
   refine Ye ?_
   obtain ⟨x3, hx3, ax3, bx3, cx3, hs0_⟩ := bE (f := (eI .u8)) Ks (fun _ => rfl) (by decide) hs0_
   obtain ⟨x4, hx4, ax4, bx4, cx4, hs0_⟩ := bE (f := (eI .u8)) Ks (fun _ => rfl) (by decide) hs0_
   refine Zl [0, 1, 5, 25] (Za3 Zc (by kernel_rfl) [] (by kernel_rfl) ?_)
   simp only [push_cast, Nat.reduceAdd, Nat.reduceSub, Nat.reduceMul, Nat.reduceLeDiff, Nat.reduceLT, Nat.reduceEqDiff, ↓reduceIte, reduceCtorEq, Int.reduceBEq, Int.reduceBNe, Nat.reduceBEq, Int.reduceLE, Int.reduceLT, Int.reduceEq, Int.reduceNe, Int.reduceNeg, Nat.reduceDiv, Nat.reduceMod, Nat.reducePow, Za, ax3, bx3, cx3, ax4, bx4, cx4, hN0, hN]
   refine Zs (t := (x3 != x4)) rfl (fun c5 => ?_) (fun c5 => ?_)
   ·replace hs0_ := Z0 c5 hs0_
    refine Zl [4] (Zb Zc [] ?_)
    simp only [push_cast, seval, ↓reduceIte, Za, hN0, hN]
    refine Z9 ?_
    try simp only [Zg, Zd]
    have hs0_ := Option.some.inj hs0_; subst hs0_
    refine And.intro (fun h => by cases h) (And.intro rfl (Fit2.of (Zh hU rfl rfl ?_) (by omega)))
    simp only [push_cast, seval, ↓reduceIte, Za, hN0, hN]
   replace hs0_ := Zz c5 hs0_
   refine Zt ?_
   try simp only [Zg, Zd]
   refine Ze [0, 1, 5] [] ?_
   simp only [push_cast, seval, ↓reduceIte]
   refine Zb Zc [] ?_
   simp only [push_cast, seval, ↓reduceIte, Za, hN0, hN]
   have hs0_ := Option.some.inj hs0_; subst hs0_
   refine And.intro rfl (Fit2.of (Zh hU rfl rfl ?_) (by omega))
   simp only [push_cast, seval, ↓reduceIte, Za, hN0, hN]
  replace hs0_ := Zz c6 hs0_
  refine Xo ?_
  try simp only [Zg, Zd, ↓reduceIte, Nat.reduceEqDiff]
  have hs0_ := Option.some.inj hs0_; subst hs0_
  refine And.intro (fun h => by cases h) (And.intro rfl (Fit2.of (Zh hU rfl rfl ?_) (by omega)))
  simp only [push_cast, seval, ↓reduceIte, Za, hN0, hN]
 rcases z7 with z7 | z7
 ·dsimp only [Qz] at hw h
  refine Jm hw ?_
  try simp only [Zg, Zd, ↓reduceIte, Nat.reduceEqDiff]
  have h := Option.some.inj h; subst h
  refine Zp (.inr rfl) hU [.val (.bool false)] (by omega) ?_
  simp only [push_cast, seval, ↓reduceIte, Za, Try.results17, hN0, hN]
 dsimp only [Qz] at hw h
 refine Z7 hw ?_
 try simp only [Zg, Zd, ↓reduceIte, Nat.reduceEqDiff]
 refine Ze [] [] ?_
 simp only [push_cast, seval, ↓reduceIte]
 refine Zl [4] (Zb Zc [] ?_)
 simp only [push_cast, seval, ↓reduceIte, Za, hN0, hN]
 refine Z9 ?_
 try simp only [Zg, Zd]
 have h := Option.some.inj h; subst h
 refine Zp (.inr rfl) hU [.val (.bool true)] (by omega) ?_
 simp only [push_cast, seval, ↓reduceIte, Za, Try.results17, hN0, hN]
end Go.Proofs.Ytgijkjifiekkmaa
