/- Part RM1 of this seat's mirrors: functions of the seat's program, and the plain functions that they are; each theorem bears its own conditions. -/
import Derived.Test.YtgijkjifiekkmaaRE
namespace Go.Proofs.Ytgijkjifiekkmaa
open Go.RowKit
set_option linter.unusedVariables false
set_option linter.unusedSimpArgs false
set_option maxRecDepth 100000
set_option maxHeartbeats 4000000
attribute [local push_cast] Zih Zig Zi5 Zi4 Zf Zd Zfw Zbh Zbg onW Z5 Q9 Jh Zdg Zep Zd1 Zd5 Zd0 Zd4 Zgx Zgu Zd3 Zgw Zgv Zd2 Zgs Zca Uh wok Xp Op.operands Call.operands gop onK onP atK List.all_cons List.all_nil Bool.and_true Bool.true_and Bool.and_self Value.oneCell' List.take_zero List.take_succ_cons List.take_nil List.drop_zero List.drop_succ_cons List.drop_nil List.append_nil Nat.add_zero Nat.zero_add Qo Zq ev Y7 Zfr Zh9 Zh8 Zie Zic Zid Zia Zib Zh7 Zcr Zek Zhm Ua Jp G0 Kv Zdf Ky Gu Gz Za9 Za6 Gx Za8 Za7 Gw Za4 Gv Gy Uj Za5 Us Zbj Qz Uu Q0 Gc V7 Zfx Jy U4 Vq Jr Ga Zkq V6 Ur Kw Qm Zft Zks Un Zkv Kh Zlc Zf5 Zf9 Zf4 Zf8 Zis Zip Zin Zdk Zf6 Zir Ziq Zf7 Zio Ut Zen Zgl Zb4 Zb3 Vs TK.isAgg Ziy Zi3 Zix Zi2 Zgd Zlt Zlq Zi1 Zls Zlr Ziz Zlp G.under G.unders List.getD_cons_zero List.getD_cons_succ List.set_cons_zero List.set_cons_succ List.map_cons List.map_nil List.toList_toArray Array.toList_append Option.toArray_none Option.toArray_some Array.toList_map Option.map_some Option.map_none Option.bind_some Option.bind_none List.getElem?_cons_zero List.getElem?_cons_succ List.getElem?_nil List.nil_append List.cons_append List.replicate_succ List.replicate_zero List.length_cons List.length_nil and_true true_and and_false false_and Bool.true_eq_false Bool.false_eq_true forall_const false_implies implies_true IntKind.bits if_true if_false ite_true ite_false eq_self true_implies false_or or_false or_true true_or not_true_eq_false not_false_eq_true decide_true decide_false decide_eq_true_eq decide_eq_false_iff_not beq_iff_eq bne_iff_ne ne_eq Bool.not_eq_true Bool.not_eq_false beq_eq_false_iff_ne bne_eq_false_iff_eq beq_self_eq_true bne_self_eq_false Option.some.injEq exists_eq_left' exists_eq_left ge_iff_le gt_iff_lt decide_not Bool.not_true Bool.not_false imp_self Zle cond_true cond_false Zo5 Zo4 Bool.not_not Bool.and_false Bool.false_and Bool.or_true Bool.true_or Bool.or_false Bool.false_or V2 Zh0 Ks Ke Jl Jk Option.join_some Nat.add_assoc Int.toNat_natCast eI eB eS eL Zeg Ge Zab Zik Zii Zij Zlo Zm3 Gl Zah Zjc Zja Zjb Zht Zba Zh3 Zan Zfm Kf Zhh List.length_append G.agg.injEq G.row.injEq G.ref.injEq G.val.injEq G.sl.injEq G.tup.injEq Value.int.injEq Value.bool.injEq Value.string.injEq List.cons.injEq exists_and_left exists_const List.flatten_cons List.flatten_nil Int.le_refl Nat.le_refl Zg3 J3 Zfh Bool.not_eq_true' Bool.not_eq_false' Zkj Zcl Zmd Zmi Zmc Zmh Zog Zoc List.size_toArray Ze2 Zgn G.ren G.rens Zhv Gq Zje Zh5 Zh6 Zgt Zmj Gj G.fn.injEq Zg5 Zg6 Zki Zod Zg4 Zmg Zof Zoe Zmf Zlk Zne Option.join_none Xn Q5 undef Uv Arr.len Arr.put_eq Gk Zdo Zb0 Zag Zi9 Zi7 Zi8 onB Zln Zfp Zgp Ze7 Ze8 Ze9 Zfa Zfb Zfc Zdl Zds Zdq Zb2 Zai Zdr Zgk Zgj Zgi Zgh Zm2 Zos Zhs Zk1 Ka Zmz Zor Zdt Zb1 Zm4 Zlx Zee Uk Uz Zb7 Zfd Zfe Zff Zfg Zc0 Zc1 Zc2 Zc3 Zc4 Zc5 Zc6 J5 prT Zf2 Zo8 Zl3 Zm7 Zl4 Zo9 Zl5 J0 Zl6 Zpa Zl7 Zpb Zl8 Zpc Zl9 Zpd Zma Zng Zjk Znh Zjl Zni Zjm Znj Zjn Znk Zjo Znl Zjp Znm Zjq Znn Zjr Zno Zjs Znp Zjt Znq Zju Znr Zjv Zns Kb Znt Zjw Zd7 Zjx Znu Zjy Znv Zjz Znw Zj0 Znx Zj1 Zny Zj2 Znz Zj3 Zn0 Zj4 Zn1 Zj5 Zn2 Zj6 Zn3 Zj7 Zcc Zj8 Zn4 Zj9 Zn5 Zka Zn6 Zkb Zn7 Zkc Zn8 Zkd Zn9 Zke Zoa Zkf Zob Zkg Zl1 Zg1 Zl2 Zg2 Zcb U2 Zeb Zea Zdj Zdm Zec Zch Zb8 Zb6 Zd8 Zcm Zcj Zbr Zbx Zco Zao Zal Zaj Zcd Zcn Zck Zbs Zby Zcp Zap Zam Zak Zce V0 Vz Vv Vx V1 Ve Vb Va Vy
theorem J9 {a0 : (List Int)} {a1 : Int} {r : Int} {O : Objs} {n : Nat} (h : Z4 a0 a1 = some r) : GTo Try.prog 82 [.sl a0.length (fl (eI .u8) a0), .val (.int .i64 a1)] O n (.val (.int .i64 r)) O n := by
 unfold Z4 at h
 refine Ql Zc Try.call82 Try.func82 rfl (Nat.le_of_ble_eq_true rfl) (Nat.le_refl _) fun hU => ?_
 have hN0 : O n = none := hU.fresh _ (Nat.le_refl _)
 have hN : ∀ k, O (n + k) = none := fun k => hU.fresh _ (Nat.le_add_right _ _)
 show W _ _ _ _ ⟨34, [], [(0, .sl a0.length (fl (eI .u8) a0)), (1, .val (.int .i64 a1))]⟩ (Zm O n []) _
 refine Zk [0, 1] (Zb Zc [] ?_)
 simp only [push_cast, seval, ↓reduceIte, Za, hN0, hN]
 obtain ⟨x5, hx5, ax5, bx5, cx5, h⟩ := bE (f := (eI .u8)) J0 (fun _ => rfl) (by decide) h
 obtain ⟨x6, hx6, ax6, bx6, cx6, h⟩ := bE (f := (eI .u8)) J0 (fun _ => rfl) (by decide) h
 obtain ⟨x7, hx7, ax7, bx7, cx7, h⟩ := bE (f := (eI .u8)) J0 (fun _ => rfl) (by decide) h
 obtain ⟨x8, hx8, ax8, bx8, cx8, h⟩ := bE (f := (eI .u8)) J0 (fun _ => rfl) (by decide) h
 refine Zk [4] (Zas Zc (by kernel_rfl) [] (by kernel_rfl) ?_)
 simp only [push_cast, Nat.reduceAdd, Nat.reduceSub, Nat.reduceMul, Nat.reduceLeDiff, Nat.reduceLT, Nat.reduceEqDiff, ↓reduceIte, reduceCtorEq, Int.reduceBEq, Int.reduceBNe, Nat.reduceBEq, Int.reduceLE, Int.reduceLT, Int.reduceEq, Int.reduceNe, Int.reduceNeg, Nat.reduceDiv, Nat.reduceMod, Nat.reducePow, Za, ax5, bx5, cx5, ax6, bx6, cx6, ax7, bx7, cx7, ax8, bx8, cx8, hN0, hN]
 refine Z6 ?_
 try simp only [Zf, Zd]
 have h := Option.some.inj h; subst h
 refine Zo (.inr rfl) hU [.val (.int .i64 (IntKind.i64.wrap (Uw .i64 (IntKind.i64.wrap (Uw .i64 (IntKind.i64.wrap (Uw .i64 (IntKind.i64.wrap x5) (IntKind.i64.wrap ((IntKind.i64.wrap x6) * 2 ^ min (Int.toNat 8) 64)))) (IntKind.i64.wrap ((IntKind.i64.wrap x7) * 2 ^ min (Int.toNat 16) 64)))) (IntKind.i64.wrap ((IntKind.i64.wrap x8) * 2 ^ min (Int.toNat 24) 64)))))] (by omega) ?_
 simp only [push_cast, seval, ↓reduceIte, Za, Try.results82, hN0, hN]
theorem Qc {a0 : Int} {r : Int} {O : Objs} {n : Nat} (h : Yo a0 = some r) : GTo Try.prog 52 [.val (.int .i64 a0)] O n (.val (.int .i64 r)) O n := by
 unfold Yo at h
 refine Ql Zc Try.call52 Try.func52 rfl (Nat.le_of_ble_eq_true rfl) (Nat.le_refl _) fun hU => ?_
 have hN0 : O n = none := hU.fresh _ (Nat.le_refl _)
 have hN : ∀ k, O (n + k) = none := fun k => hU.fresh _ (Nat.le_add_right _ _)
 show W _ _ _ _ ⟨9, [], [(0, .val (.int .i64 a0))]⟩ (Zm O n []) _
 refine Zk [0] (Zb Zc [] ?_)
 simp only [push_cast, seval, ↓reduceIte, Za, hN0, hN]
 refine Zk [2] (Zb Zc [] ?_)
 simp only [push_cast, seval, ↓reduceIte, Za, hN0, hN]
 refine Z6 ?_
 try simp only [Zf, Zd]
 have h := Option.some.inj h; subst h
 refine Zo (.inr rfl) hU [.val (.int .i64 (IntKind.i64.wrap ((IntKind.i64.wrap (Int.tdiv (IntKind.i64.wrap ((IntKind.i64.wrap (4 * (IntKind.i64.wrap (a0 + 1)))) + 7)) 8)) * 8)))] (by omega) ?_
 simp only [push_cast, seval, ↓reduceIte, Za, Try.results52, hN0, hN]
theorem Zct {a0 : (List Int)} {r : ((List Int) × Int)} {O : Objs} {n : Nat} (h : Qw a0 = some r) : GTo Try.prog 56 [.sl a0.length (fl (eI .u8) a0)] O n (.tup [.sl r.1.length (fl (eI .i64) r.1), .val (.int .i64 r.2)]) O n := by
 unfold Qw at h
 refine Ql Zc Try.call56 Try.func56 rfl (Nat.le_of_ble_eq_true rfl) (Nat.le_refl _) fun hU => ?_
 have hN0 : O n = none := hU.fresh _ (Nat.le_refl _)
 have hN : ∀ k, O (n + k) = none := fun k => hU.fresh _ (Nat.le_add_right _ _)
 show W _ _ _ _ ⟨55, [], [(0, .sl a0.length (fl (eI .u8) a0))]⟩ (Zm O n []) _
 refine Zk [0] (Zb Zc [] ?_)
 simp only [push_cast, seval, ↓reduceIte, Za, hN0, hN]
 refine Zg ?_
 refine Zk [0, 12] (Zb Zc [] ?_)
 simp only [push_cast, seval, ↓reduceIte, Za, hN0, hN]
 refine Zs (t := (decide ((a0.length : Int) < 4))) rfl (fun c22 => ?_) (fun c22 => ?_)
 ·replace h := Zx c22 h
  refine Zk [2, 3] (Zb Zc [] ?_)
  simp only [push_cast, seval, ↓reduceIte, Za, hN0, hN]
  refine Z6 ?_
  try simp only [Zf, Zd]
  have h := Option.some.inj h; subst h
  refine Zo (.inr rfl) hU [.val (.slice none 0 0), .val (.int .i64 4)] (by omega) ?_
  simp only [push_cast, seval, ↓reduceIte, Za, Try.results56, hN0, hN]
 replace h := Zw c22 h
 refine Zt ?_
 try simp only [Zf, Zd]
 refine Ze [0] [] ?_
 simp only [push_cast, seval, ↓reduceIte]
 refine Zg ?_
 obtain ⟨y2, hy2, h⟩ := bC h
 refine Zb Zc [] ?_
 simp only [push_cast, seval, ↓reduceIte, Za, hN0, hN]
 refine (J9 hy2).then ?_
 simp only [push_cast, seval, ↓reduceIte, Za, hN0, hN]
 refine Ze [0, 4] [] ?_
 simp only [push_cast, seval, ↓reduceIte]
 refine Zg ?_
 refine Zk [0, 4, 17] (Zb Zc [] ?_)
 simp only [push_cast, seval, ↓reduceIte, Za, hN0, hN]
 refine Zs (t := (decide (16 < (IntKind.i64.wrap (y2 + 1))))) rfl (fun c21 => ?_) (fun c21 => ?_)
 ·replace h := Zx c21 h
  refine Zk [2, 3] (Zb Zc [] ?_)
  simp only [push_cast, seval, ↓reduceIte, Za, hN0, hN]
  refine Z6 ?_
  try simp only [Zf, Zd]
  have h := Option.some.inj h; subst h
  refine Zo (.inr rfl) hU [.val (.slice none 0 0), .val (.int .i64 3)] (by omega) ?_
  simp only [push_cast, seval, ↓reduceIte, Za, Try.results56, hN0, hN]
 replace h := Zw c21 h
 refine Zt ?_
 try simp only [Zf, Zd]
 refine Ze [0, 4] [] ?_
 simp only [push_cast, seval, ↓reduceIte]
 refine Zg ?_
 refine Zg ?_
 obtain ⟨y4, hy4, h⟩ := bC h
 refine Zb Zc [] ?_
 simp only [push_cast, seval, ↓reduceIte, Za, hN0, hN]
 refine (Qc hy4).then ?_
 simp only [push_cast, seval, ↓reduceIte, Za, hN0, hN]
 refine Ze [0, 4, 22] [] ?_
 simp only [push_cast, seval, ↓reduceIte]
 refine Zs (t := (decide ((a0.length : Int) < y4))) rfl (fun c20 => ?_) (fun c20 => ?_)
 ·replace h := Zx c20 h
  refine Zk [2, 3] (Zb Zc [] ?_)
  simp only [push_cast, seval, ↓reduceIte, Za, hN0, hN]
  refine Z6 ?_
  try simp only [Zf, Zd]
  have h := Option.some.inj h; subst h
  refine Zo (.inr rfl) hU [.val (.slice none 0 0), .val (.int .i64 4)] (by omega) ?_
  simp only [push_cast, seval, ↓reduceIte, Za, Try.results56, hN0, hN]
 replace h := Zw c20 h
 refine Zt ?_
 try simp only [Zf, Zd]
 refine Ze [0, 4] [] ?_
 simp only [push_cast, seval, ↓reduceIte]
 refine Zk [0, 4, 5] (Zb Zc [] ?_)
 simp only [push_cast, seval, ↓reduceIte, Za, hN0, hN]
 refine Zg ?_
 refine Zk [0, 4, 5, 23, 24] (Zb Zc [] ?_)
 simp only [push_cast, seval, ↓reduceIte, Za, hN0, hN]
 refine Ze [0, 4, 5, 23, 24] [] ?_
 simp only [push_cast, seval, ↓reduceIte]
 refine Za1 (E' := (⟨55, [], [(0, .sl a0.length (fl (eI .u8) a0)), (4, .val (.int .i64 (IntKind.i64.wrap (y2 + 1)))), (5, .row n ([] : List Int).length), (23, .val (.int .i64 (IntKind.i64.wrap (y2 + 1)))), (24, .val (.int .i64 0))]⟩ : Env)) (O' := (Zm O n [some ⟨true, 3, 1, ([] : List Int).length, fl (eI .i64) ([] : List Int)⟩, none])) (n' := (n + 2)) ?_ ?_
 ·refine Fit2.trans (E' := (⟨55, [], [(0, .sl a0.length (fl (eI .u8) a0)), (4, .val (.int .i64 (IntKind.i64.wrap (y2 + 1)))), (5, .val (.slice none 0 0)), (23, .val (.int .i64 (IntKind.i64.wrap (y2 + 1)))), (24, .val (.int .i64 0))]⟩ : Env)) (O' := (Zm O n [])) (n' := n) (Fit2.of (Zh hU rfl rfl ?_) (by omega)) ?_
  ·simp only [push_cast, seval, ↓reduceIte, Za, hN0, hN]
  refine Fit2.trans (E' := (⟨55, [], [(5, .row n 0), (0, .sl a0.length (fl (eI .u8) a0)), (4, .val (.int .i64 (IntKind.i64.wrap (y2 + 1)))), (5, .val (.slice none 0 0)), (23, .val (.int .i64 (IntKind.i64.wrap (y2 + 1)))), (24, .val (.int .i64 0))]⟩ : Env)) (O' := (Zm O n [some ⟨true, 3, 1, 0, []⟩])) (n' := (n + 1)) ?_ ?_
  ·have ha := Vg (ba := n) (E := (⟨55, [], [(0, .sl a0.length (fl (eI .u8) a0)), (4, .val (.int .i64 (IntKind.i64.wrap (y2 + 1)))), (5, .val (.slice none 0 0)), (23, .val (.int .i64 (IntKind.i64.wrap (y2 + 1)))), (24, .val (.int .i64 0))]⟩ : Env)) (O := (Zm O n [])) (n := n) 5 3 1 rfl (by omega)
   simp only [Jl, Jk, Ks, Ke, List.set_cons_zero, List.set_cons_succ, List.cons_append, List.nil_append, List.length_cons, List.length_nil, Nat.zero_add, Nat.reduceAdd, Nat.reduceLT, Nat.add_assoc] at ha
   exact ha
  refine Fit2.trans (E' := (⟨55, [], [(0, .sl a0.length (fl (eI .u8) a0)), (4, .val (.int .i64 (IntKind.i64.wrap (y2 + 1)))), (5, .row n ([] : List Int).length), (23, .val (.int .i64 (IntKind.i64.wrap (y2 + 1)))), (24, .val (.int .i64 0))]⟩ : Env)) (O' := (Zm O n [some ⟨true, 3, 1, ([] : List Int).length, fl (eI .i64) ([] : List Int)⟩])) (n' := (n + 1)) (Fit2.of (Zh hU rfl rfl ?_) (by omega)) ?_
  ·simp only [push_cast, seval, ↓reduceIte, Za, hN0, hN]
  refine Zax (k := 1) (k' := 2) hU [0] [0, 0] rfl rfl rfl rfl ⟨rfl, rfl⟩ ?_
  simp only [push_cast, seval, ↓reduceIte, Za, hN0, hN]
 obtain ⟨z10, hz10, h⟩ := bC h
 refine Kt (J := (X5 (fun z10 => JR n (⟨55, [], [(2, .val (.slice none 0 0)), (3, .val (.int .i64 3))]⟩ : Env) (Zm O n []) n) (fun z10 => JX 0 n (⟨55, [], [(0, .sl a0.length (fl (eI .u8) a0)), (4, .val (.int .i64 (IntKind.i64.wrap (y2 + 1)))), (5, .row n z10.length)]⟩ : Env) (Zm O n [some ⟨true, 3, 1, z10.length, fl (eI .i64) z10⟩, none]) (n + 2)))) (z := z10) ?_ fun hw => ?_
 ·refine Ys hz10 (fun s0_ => ⟨55, [], [(0, .sl a0.length (fl (eI .u8) a0)), (4, .val (.int .i64 (IntKind.i64.wrap (y2 + 1)))), (5, .row n s0_.2.length), (23, .val (.int .i64 (IntKind.i64.wrap (y2 + 1)))), (24, .val (.int .i64 s0_.1))]⟩) (fun s0_ => (Zm O n [some ⟨true, 3, 1, s0_.2.length, fl (eI .i64) s0_.2⟩, none])) (X5 (fun z10 => JR n (⟨55, [], [(2, .val (.slice none 0 0)), (3, .val (.int .i64 3))]⟩ : Env) (Zm O n []) n) (fun z10 => JX 0 n (⟨55, [], [(0, .sl a0.length (fl (eI .u8) a0)), (4, .val (.int .i64 (IntKind.i64.wrap (y2 + 1)))), (5, .row n z10.length)]⟩ : Env) (Zm O n [some ⟨true, 3, 1, z10.length, fl (eI .i64) z10⟩, none]) (n + 2))) ?_
  intro s0_ x0_ hs0_
  unfold Y3 at hs0_
  try dsimp only
  refine Zk [0, 4, 5, 23, 24, 25] (Zb Zc [] ?_)
  simp only [push_cast, seval, ↓reduceIte, Za, hN0, hN]
  refine Zg ?_
  refine Zs (t := (decide (s0_.1 < (IntKind.i64.wrap (y2 + 1))))) rfl (fun c9 => ?_) (fun c9 => ?_)
  ·replace hs0_ := Zx c9 hs0_
   refine Zt ?_
   try simp only [Zf, Zd]
   refine Ze [0, 4, 5, 23, 24] [true, false] ?_
   simp only [push_cast, seval, ↓reduceIte]
   refine Zg ?_
   refine Yi ?_
   refine Zk [0, 4, 5, 6, 23, 24] (Zb Zc [] ?_)
   simp only [push_cast, seval, ↓reduceIte, Za, hN0, hN]
   refine Zg ?_
   obtain ⟨y6, hy6, hs0_⟩ := bC hs0_
   refine Zb Zc [] ?_
   simp only [push_cast, seval, ↓reduceIte, Za, hN0, hN]
   refine (J9 hy6).then ?_
   simp only [push_cast, seval, ↓reduceIte, Za, hN0, hN]
   refine Ze [0, 4, 5, 7, 23, 24] [true, false] ?_
   simp only [push_cast, seval, ↓reduceIte]
   refine Zg ?_
   refine Zk [0, 4, 5, 7, 23, 24, 33] (Zb Zc [] ?_)
   simp only [push_cast, seval, ↓reduceIte, Za, hN0, hN]
   refine Zs (t := (decide (65536 < y6))) rfl (fun c8 => ?_) (fun c8 => ?_)
   ·replace hs0_ := Zx c8 hs0_
    refine Zk [2, 3] (Zb Zc [] ?_)
    simp only [push_cast, seval, ↓reduceIte, Za, hN0, hN]
    refine Z6 ?_
    try simp only [Zf, Zd]
    have hs0_ := Option.some.inj hs0_; subst hs0_
    refine And.intro (fun h => by cases h) (And.intro rfl (Fit2.of (Zh hU rfl rfl ?_) (by omega)))
    simp only [push_cast, seval, ↓reduceIte, Za, hN0, hN]
   replace hs0_ := Zw c8 hs0_
   refine Zt ?_
   try simp only [Zf, Zd]
   refine Ze [0, 4, 5, 7, 23, 24] [true, false] ?_
   simp only [push_cast, seval, ↓reduceIte]
   obtain ⟨l7, pl7, ql7, el7, hs0_⟩ := bA (k := 1) rfl hs0_
   refine Zb Zc [] ?_
   simp only [push_cast, seval, ↓reduceIte, Za, pl7, ql7, el7, hN0, hN]
   refine Gt ⟨55, [], [(0, .sl a0.length (fl (eI .u8) a0)), (4, .val (.int .i64 (IntKind.i64.wrap (y2 + 1)))), (5, .row n l7.length), (23, .val (.int .i64 (IntKind.i64.wrap (y2 + 1)))), (24, .val (.int .i64 s0_.1))]⟩ (Zm O n [some ⟨true, 3, 1, l7.length, fl (eI .i64) l7⟩, none, none]) (Zh hU rfl rfl ?_) ?_
   ·simp only [push_cast, seval, ↓reduceIte, Za, pl7, ql7, el7, hN0, hN]
   refine Zb Zc [] ?_
   simp only [push_cast, seval, ↓reduceIte, Za, hN0, hN]
   have hs0_ := Option.some.inj hs0_; subst hs0_
   refine And.intro rfl (Fit2.of (Zh hU rfl rfl ?_) (by omega))
   simp only [push_cast, seval, ↓reduceIte, Za, hN0, hN]
  replace hs0_ := Zw c9 hs0_
  refine Xo ?_
  try simp only [Zf, Zd, ↓reduceIte, Nat.reduceEqDiff]
  have hs0_ := Option.some.inj hs0_; subst hs0_
  refine And.intro (fun h => by cases h) (And.intro rfl (Fit2.of (Zh hU rfl rfl ?_) (by omega)))
  simp only [push_cast, seval, ↓reduceIte, Za, hN0, hN]
 rcases z10 with z10 | z10
 ·dsimp only [X5] at hw h
  refine Qr hw ?_
  try simp only [Zf, Zd, ↓reduceIte, Nat.reduceEqDiff]
  have h := Option.some.inj h; subst h
  refine Zo (.inr rfl) hU [.val (.slice none 0 0), .val (.int .i64 3)] (by omega) ?_
  simp only [push_cast, seval, ↓reduceIte, Za, Try.results56, hN0, hN]
 dsimp only [X5] at hw h
 refine Yc hw ?_
 try simp only [Zf, Zd, ↓reduceIte, Nat.reduceEqDiff]
 refine Ze [0, 4, 5] [true, false] ?_
 simp only [push_cast, seval, ↓reduceIte]
 refine Zg ?_
 refine Zg ?_
 obtain ⟨y13, hy13, h⟩ := bC h
 obtain ⟨l14, al14, bl14, cl14, gl14, h⟩ := bS (lo := (some (.i64, (IntKind.i64.wrap (4 * (IntKind.i64.wrap ((IntKind.i64.wrap (y2 + 1)) + 1))))))) (hi := (some (.i64, y13))) (f := (eI .u8)) rfl rfl Kb J0 (fun _ => rfl) h
 refine Zb Zc [] ?_
 simp only [push_cast, seval, ↓reduceIte, Za, al14, bl14, cl14, gl14, hN0, hN]
 refine (Qc hy13).then ?_
 simp only [push_cast, seval, ↓reduceIte, Za, al14, bl14, cl14, gl14, hN0, hN]
 refine Ze [5, 45, 46, 47] [true, false] ?_
 simp only [push_cast, seval, ↓reduceIte]
 refine Ze [5, 45, 46, 47] [true, false] ?_
 simp only [push_cast, seval, ↓reduceIte]
 obtain ⟨z19, hz19, h⟩ := bC h
 refine Kt (J := (X5 (fun z19 => JR n (⟨55, [], [(2, .val (.slice none 0 0)), (3, .val (.int .i64 5))]⟩ : Env) (Zm O n [none, none]) (n + 2)) (fun z19 => JX 2 n (⟨55, [], [(5, .row n z10.length)]⟩ : Env) (Zm O n [some ⟨true, 3, 1, z10.length, fl (eI .i64) z10⟩, none]) (n + 2)))) (z := z19) ?_ fun hw => ?_
 ·refine Ys hz19 (fun s1_ => ⟨55, [], [(5, .row n z10.length), (45, .sl l14.length (fl (eI .u8) l14)), (46, .val (.int .i64 (l14.length : Int))), (47, .val (.int .i64 s1_))]⟩) (fun s1_ => (Zm O n [some ⟨true, 3, 1, z10.length, fl (eI .i64) z10⟩, none])) (X5 (fun z19 => JR n (⟨55, [], [(2, .val (.slice none 0 0)), (3, .val (.int .i64 5))]⟩ : Env) (Zm O n [none, none]) (n + 2)) (fun z19 => JX 2 n (⟨55, [], [(5, .row n z10.length)]⟩ : Env) (Zm O n [some ⟨true, 3, 1, z10.length, fl (eI .i64) z10⟩, none]) (n + 2))) ?_
  intro s1_ x1_ hs1_
  unfold Y4 at hs1_
  try dsimp only
  refine Zk [5, 45, 46, 47, 48] (Zb Zc [] ?_)
  simp only [push_cast, seval, ↓reduceIte, Za, hN0, hN]
  refine Zg ?_
  refine Zs (t := (decide (s1_ < (l14.length : Int)))) rfl (fun c18 => ?_) (fun c18 => ?_)
  ·replace hs1_ := Zx c18 hs1_
   refine Zt ?_
   try simp only [Zf, Zd]
   refine Ze [5, 45, 46, 47] [true, false] ?_
   simp only [push_cast, seval, ↓reduceIte]
   refine Zg ?_
   refine Yi ?_
   obtain ⟨x16, hx16, ax16, bx16, cx16, hs1_⟩ := bE (f := (eI .u8)) J0 (fun _ => rfl) (by decide) hs1_
   refine Zk [5, 9, 45, 46, 47] (Zb Zc [] ?_)
   simp only [push_cast, Nat.reduceAdd, Nat.reduceSub, Nat.reduceMul, Nat.reduceLeDiff, Nat.reduceLT, Nat.reduceEqDiff, ↓reduceIte, reduceCtorEq, Int.reduceBEq, Int.reduceBNe, Nat.reduceBEq, Int.reduceLE, Int.reduceLT, Int.reduceEq, Int.reduceNe, Int.reduceNeg, Nat.reduceDiv, Nat.reduceMod, Nat.reducePow, Za, ax16, bx16, cx16, hN0, hN]
   refine Zk [5, 45, 46, 47, 52] (Zb Zc [] ?_)
   simp only [push_cast, seval, ↓reduceIte, Za, hN0, hN]
   refine Zs (t := (x16 != 0)) rfl (fun c17 => ?_) (fun c17 => ?_)
   ·replace hs1_ := Zx c17 hs1_
    refine Zk [2, 3] (Zb Zc [] ?_)
    simp only [push_cast, seval, ↓reduceIte, Za, hN0, hN]
    refine Z6 ?_
    try simp only [Zf, Zd]
    have hs1_ := Option.some.inj hs1_; subst hs1_
    refine And.intro (fun h => by cases h) (And.intro rfl (Fit2.of (Zh hU rfl rfl ?_) (by omega)))
    simp only [push_cast, seval, ↓reduceIte, Za, hN0, hN]
   replace hs1_ := Zw c17 hs1_
   refine Zt ?_
   try simp only [Zf, Zd]
   refine Ze [5, 45, 46, 47] [true, false] ?_
   simp only [push_cast, seval, ↓reduceIte]
   refine Zb Zc [] ?_
   simp only [push_cast, seval, ↓reduceIte, Za, hN0, hN]
   have hs1_ := Option.some.inj hs1_; subst hs1_
   refine And.intro rfl (Fit2.of (Zh hU rfl rfl ?_) (by omega))
   simp only [push_cast, seval, ↓reduceIte, Za, hN0, hN]
  replace hs1_ := Zw c18 hs1_
  refine Xo ?_
  try simp only [Zf, Zd, ↓reduceIte, Nat.reduceEqDiff]
  have hs1_ := Option.some.inj hs1_; subst hs1_
  refine And.intro (fun h => by cases h) (And.intro rfl (Fit2.of (Zh hU rfl rfl ?_) (by omega)))
  simp only [push_cast, seval, ↓reduceIte, Za, hN0, hN]
 rcases z19 with z19 | z19
 ·dsimp only [X5] at hw h
  refine Qr hw ?_
  try simp only [Zf, Zd, ↓reduceIte, Nat.reduceEqDiff]
  have h := Option.some.inj h; subst h
  refine Zo (.inr rfl) hU [.val (.slice none 0 0), .val (.int .i64 5)] (by omega) ?_
  simp only [push_cast, seval, ↓reduceIte, Za, Try.results56, hN0, hN]
 dsimp only [X5] at hw h
 refine Yc hw ?_
 try simp only [Zf, Zd, ↓reduceIte, Nat.reduceEqDiff]
 refine Ze [5] [true, false] ?_
 simp only [push_cast, seval, ↓reduceIte]
 refine Zk [2, 3] (Zb Zc [] ?_)
 simp only [push_cast, seval, ↓reduceIte, Za, hN0, hN]
 refine Z6 ?_
 try simp only [Zf, Zd]
 have h := Option.some.inj h; subst h
 refine Zo (.inr rfl) hU [.row n z10.length, .val (.int .i64 0)] (by omega) ?_
 simp only [push_cast, seval, ↓reduceIte, Za, Try.results56, hN0, hN]
theorem Zhr {a0 : (Arr Int 8)} {r : Int} {O : Objs} {n : Nat} (h : Kl a0 = some r) : GTo Try.prog 83 [.agg (fl (eI .u8) a0.1)] O n (.val (.int .u64 r)) O n := by
 unfold Kl at h
 refine Ql Zc Try.call83 Try.func83 rfl (Nat.le_of_ble_eq_true rfl) (Nat.le_refl _) fun hU => ?_
 have hN0 : O n = none := hU.fresh _ (Nat.le_refl _)
 have hN : ∀ k, O (n + k) = none := fun k => hU.fresh _ (Nat.le_add_right _ _)
 show W _ _ _ _ ⟨19, [], [(0, .agg (fl (eI .u8) a0.1))]⟩ (Zm O n []) _
 refine Zk [1] (Zb Zc [] ?_)
 simp only [push_cast, seval, ↓reduceIte, Za, hN0, hN]
 refine Zk [1, 3] (Zb Zc [] ?_)
 simp only [push_cast, seval, ↓reduceIte, Za, hN0, hN]
 refine Zg ?_
 refine Zk [1, 3, 5] (Zb Zc [] ?_)
 simp only [push_cast, seval, ↓reduceIte, Za, hN0, hN]
 refine Ze [1, 3, 5] [true] ?_
 simp only [push_cast, seval, ↓reduceIte]
 obtain ⟨z4, hz4, h⟩ := bC h
 refine Yc (E' := ⟨19, [], [(3, .val (.int .u64 z4))]⟩) (O' := (Zm O n [none])) (n0 := (n + 1)) ?_ ?_
 ·refine Ys hz4 (fun s0_ => ⟨19, [], [(1, .ref n 0), (3, .val (.int .u64 s0_.1)), (5, .val (.int .i64 s0_.2))]⟩) (fun s0_ => (Zm O n [some ⟨false, 114, 8, 1, fl (eI .u8) a0.1⟩])) (fun z4 => JX 0 n (⟨19, [], [(3, .val (.int .u64 z4))]⟩ : Env) (Zm O n [none]) (n + 1)) ?_
  intro s0_ x0_ hs0_
  unfold Qb at hs0_
  try dsimp only
  refine Zk [1, 3, 5, 6] (Zb Zc [] ?_)
  simp only [push_cast, seval, ↓reduceIte, Za, hN0, hN]
  refine Zg ?_
  refine Zs (t := (decide (s0_.2 < 8))) rfl (fun c3 => ?_) (fun c3 => ?_)
  ·replace hs0_ := Zx c3 hs0_
   refine Zt ?_
   try simp only [Zf, Zd]
   refine Ze [1, 3, 5] [true] ?_
   simp only [push_cast, seval, ↓reduceIte]
   refine Zg ?_
   refine Yi ?_
   refine Zk [1, 3, 4, 5] (Zb Zc [] ?_)
   simp only [push_cast, seval, ↓reduceIte, Za, hN0, hN]
   obtain ⟨x1, hx1, ax1, bx1, cx1, hs0_⟩ := bEA (f := (eI .u8)) (b := 8) rfl J0 (fun _ => rfl) (by decide) hs0_
   obtain ⟨pu2, hs0_⟩ := bG hs0_
   refine Zb Zc [] ?_
   simp only [push_cast, Nat.reduceAdd, Nat.reduceSub, Nat.reduceMul, Nat.reduceLeDiff, Nat.reduceLT, Nat.reduceEqDiff, ↓reduceIte, reduceCtorEq, Int.reduceBEq, Int.reduceBNe, Nat.reduceBEq, Int.reduceLE, Int.reduceLT, Int.reduceEq, Int.reduceNe, Int.reduceNeg, Nat.reduceDiv, Nat.reduceMod, Nat.reducePow, Za, ax1, bx1, cx1, pu2, hN0, hN]
   refine Ze [1, 3, 5] [true] ?_
   simp only [push_cast, seval, ↓reduceIte]
   refine Zb Zc [] ?_
   simp only [push_cast, seval, ↓reduceIte, Za, hN0, hN]
   have hs0_ := Option.some.inj hs0_; subst hs0_
   refine And.intro rfl (Fit2.of (Zh hU rfl rfl ?_) (by omega))
   simp only [push_cast, seval, ↓reduceIte, Za, hN0, hN]
  replace hs0_ := Zw c3 hs0_
  refine Xo ?_
  try simp only [Zf, Zd, ↓reduceIte, Nat.reduceEqDiff]
  have hs0_ := Option.some.inj hs0_; subst hs0_
  refine And.intro (fun h => by cases h) (And.intro rfl (Fit2.of (Zh hU rfl rfl ?_) (by omega)))
  simp only [push_cast, seval, ↓reduceIte, Za, hN0, hN]
 try simp only [Zf, Zd, ↓reduceIte, Nat.reduceEqDiff]
 refine Ze [3] [false] ?_
 simp only [push_cast, seval, ↓reduceIte]
 refine Zk [2] (Zb Zc [] ?_)
 simp only [push_cast, seval, ↓reduceIte, Za, hN0, hN]
 refine Z6 ?_
 try simp only [Zf, Zd]
 have h := Option.some.inj h; subst h
 refine Zo (.inr rfl) hU [.val (.int .u64 z4)] (by omega) ?_
 simp only [push_cast, seval, ↓reduceIte, Za, Try.results83, hN0, hN]
theorem Zcv {a0 : (List Int)} {r : ((List Int) × Bool)} {O : Objs} {n : Nat} (h : Xm a0 = some r) : GTo Try.prog 57 [.sl a0.length (fl (eI .u8) a0)] O n (.tup [.sl r.1.length (fl (eI .u64) r.1), .val (.bool r.2)]) O n := by
 unfold Xm at h
 refine Ql Zc Try.call57 Try.func57 rfl (Nat.le_of_ble_eq_true rfl) (Nat.le_refl _) fun hU => ?_
 have hN0 : O n = none := hU.fresh _ (Nat.le_refl _)
 have hN : ∀ k, O (n + k) = none := fun k => hU.fresh _ (Nat.le_add_right _ _)
 show W _ _ _ _ ⟨33, [], [(0, .sl a0.length (fl (eI .u8) a0))]⟩ (Zm O n []) _
 refine Zk [0] (Zb Zc [] ?_)
 simp only [push_cast, seval, ↓reduceIte, Za, hN0, hN]
 refine Zg ?_
 refine Zk [0, 10] (Zb Zc [] ?_)
 simp only [push_cast, seval, ↓reduceIte, Za, hN0, hN]
 refine Zs (t := ((Int.tmod (a0.length : Int) 8) != 0)) rfl (fun c19 => ?_) (fun c19 => ?_)
 ·replace h := Zx c19 h
  refine Zk [2, 3] (Zb Zc [] ?_)
  simp only [push_cast, seval, ↓reduceIte, Za, hN0, hN]
  refine Z6 ?_
  try simp only [Zf, Zd]
  have h := Option.some.inj h; subst h
  refine Zo (.inr rfl) hU [.val (.slice none 0 0), .val (.bool false)] (by omega) ?_
  simp only [push_cast, seval, ↓reduceIte, Za, Try.results57, hN0, hN]
 replace h := Zw c19 h
 refine Zt ?_
 try simp only [Zf, Zd]
 refine Ze [0] [] ?_
 simp only [push_cast, seval, ↓reduceIte]
 refine Zg ?_
 obtain ⟨l2, al2, bl2, cl2, el2, h⟩ := bM2 (c := 8) rfl h
 have nl2 : Int.toNat (IntKind.i64.wrap (Int.tdiv (a0.length : Int) 8)) = List.length l2 := by rw [el2, List.length_replicate]
 have fl2 : (List.replicate (List.length l2) [.val (.int .u64 0)]).flatten = fl (eI .u64) l2 := by rw [← nl2, el2]; exact (Zeh (f := (eI .u64)) _ _).symm
 clear el2
 refine Zb Zc [] ?_
 simp only [push_cast, seval, ↓reduceIte, Za, al2, bl2, cl2, fl2, nl2, hN0, hN]
 refine Gt ⟨33, [], [(0, .sl a0.length (fl (eI .u8) a0)), (4, .row n l2.length)]⟩ (Zm O n [some ⟨true, 37, 1, l2.length, fl (eI .u64) l2⟩]) (Zh hU rfl rfl ?_) ?_
 ·simp only [push_cast, seval, ↓reduceIte, Za, al2, bl2, cl2, fl2, nl2, hN0, hN]
 refine Zg ?_
 refine Zk [0, 4, 16, 17] (Zb Zc [] ?_)
 simp only [push_cast, seval, ↓reduceIte, Za, hN0, hN]
 refine Ze [0, 4, 16, 17] [true] ?_
 simp only [push_cast, seval, ↓reduceIte]
 obtain ⟨z18, hz18, h⟩ := bC h
 refine Yc (E' := ⟨33, [], [(4, .row n z18.length)]⟩) (O' := (Zm O n [some ⟨true, 37, 1, z18.length, fl (eI .u64) z18⟩])) (n0 := (n + 1)) ?_ ?_
 ·refine Ys hz18 (fun s0_ => ⟨33, [], [(0, .sl a0.length (fl (eI .u8) a0)), (4, .row n s0_.2.length), (16, .val (.int .i64 (l2.length : Int))), (17, .val (.int .i64 s0_.1))]⟩) (fun s0_ => (Zm O n [some ⟨true, 37, 1, s0_.2.length, fl (eI .u64) s0_.2⟩])) (fun z18 => JX 0 n (⟨33, [], [(4, .row n z18.length)]⟩ : Env) (Zm O n [some ⟨true, 37, 1, z18.length, fl (eI .u64) z18⟩]) (n + 1)) ?_
  intro s0_ x0_ hs0_
  unfold Xi at hs0_
  try dsimp only
  refine Zk [0, 4, 16, 17, 18] (Zb Zc [] ?_)
  simp only [push_cast, seval, ↓reduceIte, Za, hN0, hN]
  refine Zg ?_
  refine Zs (t := (decide (s0_.1 < (l2.length : Int)))) rfl (fun c17 => ?_) (fun c17 => ?_)
  ·replace hs0_ := Zx c17 hs0_
   refine Zt ?_
   try simp only [Zf, Zd]
   refine Ze [0, 4, 16, 17] [true] ?_
   simp only [push_cast, seval, ↓reduceIte]
   refine Zg ?_
   refine Yi ?_
   refine Zk [0, 4, 5, 16, 17] (Zb Zc [] ?_)
   simp only [push_cast, seval, ↓reduceIte, Za, hN0, hN]
   obtain ⟨y5, hy5, ey5, hs0_⟩ := bY (f := (eI .u8)) (cs := [.val (.int .u8 0), .val (.int .u8 0), .val (.int .u8 0), .val (.int .u8 0), .val (.int .u8 0), .val (.int .u8 0), .val (.int .u8 0), .val (.int .u8 0)]) rfl hs0_
   have g6 := congrArg (GObj.mk false 114 8 1) ey5
   refine Zk [0, 4, 5, 6, 16, 17] (Zb Zc [] ?_)
   simp only [push_cast, seval, ↓reduceIte, Za, g6, hN0, hN]
   refine Zg ?_
   have g10 := Zbl (j := (n + 1)) U2 J0 (by decide)
   obtain ⟨l11, al11, bl11, cl11, gl11, hs0_⟩ := bS (lo := (some (.i64, (IntKind.i64.wrap (8 * s0_.1))))) (hi := none) (f := (eI .u8)) rfl rfl Kb J0 (fun _ => rfl) hs0_
   have g12 := Zhp (f := (eI .u8)) y5 l11 (fun _ => rfl)
   have mg12 := Nat.mul_one (List.length l11)
   refine Zmn Zc (by kernel_rfl) [false, false, false, false, false, true] [] (by kernel_rfl) ?_
   simp only [push_cast, seval, ↓reduceIte, Za, g10, al11, bl11, cl11, gl11, g12, mg12, hN0, hN]
   refine Ze [0, 4, 5, 6, 16, 17] [true, true] ?_
   simp only [push_cast, seval, ↓reduceIte]
   have g13 := Gf (f := (eI .u8)) (Arr.cpy y5 l11) Zcb rfl (fun _ => rfl) rfl
   obtain ⟨y14, hy14, hs0_⟩ := bC hs0_
   obtain ⟨x15, hx15, ax15, bx15, cx15, hs0_⟩ := bE (f := (eI .u64)) Zd7 (fun _ => rfl) (by decide) hs0_
   have gu16 : Qg (fl (eI .u64) s0_.2) [.val (.int .u64 y14)] (Int.toNat s0_.1 * 1) = some (fl (eI .u64) (Zcx s0_.2 s0_.1 y14)) := Zdh (f := (eI .u64)) (ti := ⟨.bool, 1, 0, [], false⟩) (x := y14) (fun _ => rfl) (Uq hx15)
   refine Zb Zc [] ?_
   simp only [push_cast, Nat.reduceAdd, Nat.reduceSub, Nat.reduceMul, Nat.reduceLeDiff, Nat.reduceLT, Nat.reduceEqDiff, ↓reduceIte, reduceCtorEq, Int.reduceBEq, Int.reduceBNe, Nat.reduceBEq, Int.reduceLE, Int.reduceLT, Int.reduceEq, Int.reduceNe, Int.reduceNeg, Nat.reduceDiv, Nat.reduceMod, Nat.reducePow, Za, g13, ax15, bx15, cx15, gu16, hN0, hN]
   refine (Zhr hy14).then ?_
   simp only [push_cast, Nat.reduceAdd, Nat.reduceSub, Nat.reduceMul, Nat.reduceLeDiff, Nat.reduceLT, Nat.reduceEqDiff, ↓reduceIte, reduceCtorEq, Int.reduceBEq, Int.reduceBNe, Nat.reduceBEq, Int.reduceLE, Int.reduceLT, Int.reduceEq, Int.reduceNe, Int.reduceNeg, Nat.reduceDiv, Nat.reduceMod, Nat.reducePow, Za, g13, ax15, bx15, cx15, gu16, hN0, hN]
   refine Ze [0, 4, 16, 17] [true, false] ?_
   simp only [push_cast, seval, ↓reduceIte]
   refine Zb Zc [] ?_
   simp only [push_cast, seval, ↓reduceIte, Za, hN0, hN]
   have hs0_ := Option.some.inj hs0_; subst hs0_
   refine And.intro rfl (Fit2.of (Zh hU rfl rfl ?_) (by omega))
   simp only [push_cast, seval, ↓reduceIte, Za, hN0, hN]
  replace hs0_ := Zw c17 hs0_
  refine Xo ?_
  try simp only [Zf, Zd, ↓reduceIte, Nat.reduceEqDiff]
  have hs0_ := Option.some.inj hs0_; subst hs0_
  refine And.intro (fun h => by cases h) (And.intro rfl (Fit2.of (Zh hU rfl rfl ?_) (by omega)))
  simp only [push_cast, seval, ↓reduceIte, Za, hN0, hN]
 try simp only [Zf, Zd, ↓reduceIte, Nat.reduceEqDiff]
 refine Ze [4] [true] ?_
 simp only [push_cast, seval, ↓reduceIte]
 refine Zk [2, 3] (Zb Zc [] ?_)
 simp only [push_cast, seval, ↓reduceIte, Za, hN0, hN]
 refine Z6 ?_
 try simp only [Zf, Zd]
 have h := Option.some.inj h; subst h
 refine Zo (.inr rfl) hU [.row n z18.length, .val (.bool true)] (by omega) ?_
 simp only [push_cast, seval, ↓reduceIte, Za, Try.results57, hN0, hN]
theorem Km {a0 : (List Int)} {r : ((List (List Int)) × Int)} {O : Objs} {n : Nat} (h : Y2 a0 = some r) : GTo Try.prog 19 [.sl a0.length (fl (eI .u8) a0)] O n (.tup [.sl r.1.length (fl (eL (eI .u64)) r.1), .val (.int .i64 r.2)]) O n := by
 unfold Y2 at h
 refine Ql Zc Try.call19 Try.func19 rfl (Nat.le_of_ble_eq_true rfl) (Nat.le_refl _) fun hU => ?_
 have hN0 : O n = none := hU.fresh _ (Nat.le_refl _)
 have hN : ∀ k, O (n + k) = none := fun k => hU.fresh _ (Nat.le_add_right _ _)
 show W _ _ _ _ ⟨72, [], [(0, .sl a0.length (fl (eI .u8) a0))]⟩ (Zm O n []) _
 refine Zk [0] (Zb Zc [] ?_)
 simp only [push_cast, seval, ↓reduceIte, Za, hN0, hN]
 refine Zg ?_
 obtain ⟨y2, hy2, h⟩ := bC h
 refine Zb Zc [] ?_
 simp only [push_cast, seval, ↓reduceIte, Za, hN0, hN]
 refine (Zct hy2).then ?_
 simp only [push_cast, seval, ↓reduceIte, Za, hN0, hN]
 refine Ze [0, 4, 5] [] ?_
 simp only [push_cast, seval, ↓reduceIte]
 refine Zg ?_
 refine Zk [0, 4, 5, 21] (Zb Zc [] ?_)
 simp only [push_cast, seval, ↓reduceIte, Za, hN0, hN]
 refine Zs (t := (y2.2 != 0)) rfl (fun c24 => ?_) (fun c24 => ?_)
 ·replace h := Zx c24 h
  refine Zk [2, 3] (Zb Zc [] ?_)
  simp only [push_cast, seval, ↓reduceIte, Za, hN0, hN]
  refine Z6 ?_
  try simp only [Zf, Zd]
  have h := Option.some.inj h; subst h
  refine Zo (.inr rfl) hU [.val (.slice none 0 0), .val (.int .i64 y2.2)] (by omega) ?_
  simp only [push_cast, seval, ↓reduceIte, Za, Try.results19, hN0, hN]
 replace h := Zw c24 h
 refine Zt ?_
 try simp only [Zf, Zd]
 refine Ze [0, 4] [] ?_
 simp only [push_cast, seval, ↓reduceIte]
 refine Zg ?_
 obtain ⟨y5, hy5, h⟩ := bC h
 obtain ⟨l6, al6, bl6, cl6, gl6, h⟩ := bS (lo := (some (.i64, y5))) (hi := none) (f := (eI .u8)) rfl rfl Kb J0 (fun _ => rfl) h
 refine Zb Zc [] ?_
 simp only [push_cast, seval, ↓reduceIte, Za, al6, bl6, cl6, gl6, hN0, hN]
 refine (Qc hy5).then ?_
 simp only [push_cast, seval, ↓reduceIte, Za, al6, bl6, cl6, gl6, hN0, hN]
 refine Ze [4, 6] [] ?_
 simp only [push_cast, seval, ↓reduceIte]
 refine Zk [4, 6, 7] (Zb Zc [] ?_)
 simp only [push_cast, seval, ↓reduceIte, Za, hN0, hN]
 refine Zg ?_
 refine Zk [4, 6, 7, 28, 29, 30] (Zb Zc [] ?_)
 simp only [push_cast, seval, ↓reduceIte, Za, hN0, hN]
 refine Ze [4, 6, 7, 28, 29, 30] [] ?_
 simp only [push_cast, seval, ↓reduceIte]
 obtain ⟨z10, hz10, h⟩ := bC h
 refine Yc (E' := ⟨72, [], [(4, .sl y2.1.length (fl (eI .i64) y2.1)), (6, .sl l6.length (fl (eI .u8) l6)), (7, .val (.int .i64 z10))]⟩) (O' := (Zm O n [])) (n0 := n) ?_ ?_
 ·refine Ys hz10 (fun s0_ => ⟨72, [], [(4, .sl y2.1.length (fl (eI .i64) y2.1)), (6, .sl l6.length (fl (eI .u8) l6)), (7, .val (.int .i64 s0_.1)), (28, .sl y2.1.length (fl (eI .i64) y2.1)), (29, .val (.int .i64 (y2.1.length : Int))), (30, .val (.int .i64 s0_.2))]⟩) (fun s0_ => (Zm O n [])) (fun z10 => JX 0 n (⟨72, [], [(4, .sl y2.1.length (fl (eI .i64) y2.1)), (6, .sl l6.length (fl (eI .u8) l6)), (7, .val (.int .i64 z10))]⟩ : Env) (Zm O n []) n) ?_
  intro s0_ x0_ hs0_
  unfold Yq at hs0_
  try dsimp only
  refine Zk [4, 6, 7, 28, 29, 30, 31] (Zb Zc [] ?_)
  simp only [push_cast, seval, ↓reduceIte, Za, hN0, hN]
  refine Zg ?_
  refine Zs (t := (decide (s0_.2 < (y2.1.length : Int)))) rfl (fun c9 => ?_) (fun c9 => ?_)
  ·replace hs0_ := Zx c9 hs0_
   refine Zt ?_
   try simp only [Zf, Zd]
   refine Ze [4, 6, 7, 28, 29, 30] [] ?_
   simp only [push_cast, seval, ↓reduceIte]
   refine Zg ?_
   refine Yi ?_
   obtain ⟨x8, hx8, ax8, bx8, cx8, hs0_⟩ := bE (f := (eI .i64)) Zm7 (fun _ => rfl) (by decide) hs0_
   refine Zk [4, 6, 7, 9, 28, 29, 30] (Zb Zc [] ?_)
   simp only [push_cast, Nat.reduceAdd, Nat.reduceSub, Nat.reduceMul, Nat.reduceLeDiff, Nat.reduceLT, Nat.reduceEqDiff, ↓reduceIte, reduceCtorEq, Int.reduceBEq, Int.reduceBNe, Nat.reduceBEq, Int.reduceLE, Int.reduceLT, Int.reduceEq, Int.reduceNe, Int.reduceNeg, Nat.reduceDiv, Nat.reduceMod, Nat.reducePow, Za, ax8, bx8, cx8, hN0, hN]
   refine Zb Zc [] ?_
   simp only [push_cast, seval, ↓reduceIte, Za, hN0, hN]
   refine Ze [4, 6, 7, 28, 29, 30] [] ?_
   simp only [push_cast, seval, ↓reduceIte]
   refine Zb Zc [] ?_
   simp only [push_cast, seval, ↓reduceIte, Za, hN0, hN]
   have hs0_ := Option.some.inj hs0_; subst hs0_
   refine And.intro rfl (Fit2.of (Zh hU rfl rfl ?_) (by omega))
   simp only [push_cast, seval, ↓reduceIte, Za, hN0, hN]
  replace hs0_ := Zw c9 hs0_
  refine Xo ?_
  try simp only [Zf, Zd, ↓reduceIte, Nat.reduceEqDiff]
  have hs0_ := Option.some.inj hs0_; subst hs0_
  refine And.intro (fun h => by cases h) (And.intro rfl (Fit2.of (Zh hU rfl rfl ?_) (by omega)))
  simp only [push_cast, seval, ↓reduceIte, Za, hN0, hN]
 try simp only [Zf, Zd, ↓reduceIte, Nat.reduceEqDiff]
 refine Ze [4, 6, 7] [] ?_
 simp only [push_cast, seval, ↓reduceIte]
 refine Zg ?_
 refine Zk [4, 6, 7, 42] (Zb Zc [] ?_)
 simp only [push_cast, seval, ↓reduceIte, Za, hN0, hN]
 refine Zs (t := (decide ((l6.length : Int) < (IntKind.i64.wrap (8 * z10))))) rfl (fun c23 => ?_) (fun c23 => ?_)
 ·replace h := Zx c23 h
  refine Zk [2, 3] (Zb Zc [] ?_)
  simp only [push_cast, seval, ↓reduceIte, Za, hN0, hN]
  refine Z6 ?_
  try simp only [Zf, Zd]
  have h := Option.some.inj h; subst h
  refine Zo (.inr rfl) hU [.val (.slice none 0 0), .val (.int .i64 4)] (by omega) ?_
  simp only [push_cast, seval, ↓reduceIte, Za, Try.results19, hN0, hN]
 replace h := Zw c23 h
 refine Zt ?_
 try simp only [Zf, Zd]
 refine Ze [4, 6, 7] [] ?_
 simp only [push_cast, seval, ↓reduceIte]
 refine Zg ?_
 refine Zk [4, 6, 47] (Zb Zc [] ?_)
 simp only [push_cast, seval, ↓reduceIte, Za, hN0, hN]
 refine Zs (t := (decide ((IntKind.i64.wrap (8 * z10)) < (l6.length : Int)))) rfl (fun c22 => ?_) (fun c22 => ?_)
 ·replace h := Zx c22 h
  refine Zk [2, 3] (Zb Zc [] ?_)
  simp only [push_cast, seval, ↓reduceIte, Za, hN0, hN]
  refine Z6 ?_
  try simp only [Zf, Zd]
  have h := Option.some.inj h; subst h
  refine Zo (.inr rfl) hU [.val (.slice none 0 0), .val (.int .i64 6)] (by omega) ?_
  simp only [push_cast, seval, ↓reduceIte, Za, Try.results19, hN0, hN]
 replace h := Zw c22 h
 refine Zt ?_
 try simp only [Zf, Zd]
 refine Ze [4, 6] [] ?_
 simp only [push_cast, seval, ↓reduceIte]
 refine Zk [4, 6, 10] (Zb Zc [] ?_)
 simp only [push_cast, seval, ↓reduceIte, Za, hN0, hN]
 refine Zg ?_
 refine Zk [6, 10, 48, 49, 50] (Zb Zc [] ?_)
 simp only [push_cast, seval, ↓reduceIte, Za, hN0, hN]
 refine Ze [6, 10, 48, 49, 50] [] ?_
 simp only [push_cast, seval, ↓reduceIte]
 refine Za1 (E' := (⟨72, [], [(6, .sl l6.length (fl (eI .u8) l6)), (10, .row n ([] : List (List Int)).length), (48, .sl y2.1.length (fl (eI .i64) y2.1)), (49, .val (.int .i64 (y2.1.length : Int))), (50, .val (.int .i64 0))]⟩ : Env)) (O' := (Zm O n [some ⟨true, 62, 1, ([] : List (List Int)).length, fl (eL (eI .u64)) ([] : List (List Int))⟩, none])) (n' := (n + 2)) ?_ ?_
 ·refine Fit2.trans (E' := (⟨72, [], [(6, .sl l6.length (fl (eI .u8) l6)), (10, .val (.slice none 0 0)), (48, .sl y2.1.length (fl (eI .i64) y2.1)), (49, .val (.int .i64 (y2.1.length : Int))), (50, .val (.int .i64 0))]⟩ : Env)) (O' := (Zm O n [])) (n' := n) (Fit2.of (Zh hU rfl rfl ?_) (by omega)) ?_
  ·simp only [push_cast, seval, ↓reduceIte, Za, hN0, hN]
  refine Fit2.trans (E' := (⟨72, [], [(10, .row n 0), (6, .sl l6.length (fl (eI .u8) l6)), (10, .val (.slice none 0 0)), (48, .sl y2.1.length (fl (eI .i64) y2.1)), (49, .val (.int .i64 (y2.1.length : Int))), (50, .val (.int .i64 0))]⟩ : Env)) (O' := (Zm O n [some ⟨true, 62, 1, 0, []⟩])) (n' := (n + 1)) ?_ ?_
  ·have ha := Vg (ba := n) (E := (⟨72, [], [(6, .sl l6.length (fl (eI .u8) l6)), (10, .val (.slice none 0 0)), (48, .sl y2.1.length (fl (eI .i64) y2.1)), (49, .val (.int .i64 (y2.1.length : Int))), (50, .val (.int .i64 0))]⟩ : Env)) (O := (Zm O n [])) (n := n) 10 62 1 rfl (by omega)
   simp only [Jl, Jk, Ks, Ke, List.set_cons_zero, List.set_cons_succ, List.cons_append, List.nil_append, List.length_cons, List.length_nil, Nat.zero_add, Nat.reduceAdd, Nat.reduceLT, Nat.add_assoc] at ha
   exact ha
  refine Fit2.trans (E' := (⟨72, [], [(6, .sl l6.length (fl (eI .u8) l6)), (10, .row n ([] : List (List Int)).length), (48, .sl y2.1.length (fl (eI .i64) y2.1)), (49, .val (.int .i64 (y2.1.length : Int))), (50, .val (.int .i64 0))]⟩ : Env)) (O' := (Zm O n [some ⟨true, 62, 1, ([] : List (List Int)).length, fl (eL (eI .u64)) ([] : List (List Int))⟩])) (n' := (n + 1)) (Fit2.of (Zh hU rfl rfl ?_) (by omega)) ?_
  ·simp only [push_cast, seval, ↓reduceIte, Za, hN0, hN]
  refine Zax (k := 1) (k' := 2) hU [0] [0, 0] rfl rfl rfl rfl ⟨rfl, rfl⟩ ?_
  simp only [push_cast, seval, ↓reduceIte, Za, hN0, hN]
 obtain ⟨z21, hz21, h⟩ := bC h
 refine Yc (E' := ⟨72, [], [(10, .row n z21.length)]⟩) (O' := (Zm O n [some ⟨true, 62, 1, z21.length, fl (eL (eI .u64)) z21⟩, none])) (n0 := (n + 2)) ?_ ?_
 ·refine Ys hz21 (fun s1_ => ⟨72, [], [(6, .sl s1_.1.length (fl (eI .u8) s1_.1)), (10, .row n s1_.2.2.length), (48, .sl y2.1.length (fl (eI .i64) y2.1)), (49, .val (.int .i64 (y2.1.length : Int))), (50, .val (.int .i64 s1_.2.1))]⟩) (fun s1_ => (Zm O n [some ⟨true, 62, 1, s1_.2.2.length, fl (eL (eI .u64)) s1_.2.2⟩, none])) (fun z21 => JX 2 n (⟨72, [], [(10, .row n z21.length)]⟩ : Env) (Zm O n [some ⟨true, 62, 1, z21.length, fl (eL (eI .u64)) z21⟩, none]) (n + 2)) ?_
  intro s1_ x1_ hs1_
  unfold Yr at hs1_
  try dsimp only
  refine Zk [6, 10, 48, 49, 50, 51] (Zb Zc [] ?_)
  simp only [push_cast, seval, ↓reduceIte, Za, hN0, hN]
  refine Zg ?_
  refine Zs (t := (decide (s1_.2.1 < (y2.1.length : Int)))) rfl (fun c20 => ?_) (fun c20 => ?_)
  ·replace hs1_ := Zx c20 hs1_
   refine Zt ?_
   try simp only [Zf, Zd]
   refine Ze [6, 10, 48, 49, 50] [true, false] ?_
   simp only [push_cast, seval, ↓reduceIte]
   refine Zg ?_
   refine Yi ?_
   obtain ⟨x12, hx12, ax12, bx12, cx12, hs1_⟩ := bE (f := (eI .i64)) Zm7 (fun _ => rfl) (by decide) hs1_
   refine Zk [6, 10, 12, 48, 49, 50] (Zb Zc [] ?_)
   simp only [push_cast, Nat.reduceAdd, Nat.reduceSub, Nat.reduceMul, Nat.reduceLeDiff, Nat.reduceLT, Nat.reduceEqDiff, ↓reduceIte, reduceCtorEq, Int.reduceBEq, Int.reduceBNe, Nat.reduceBEq, Int.reduceLE, Int.reduceLT, Int.reduceEq, Int.reduceNe, Int.reduceNeg, Nat.reduceDiv, Nat.reduceMod, Nat.reducePow, Za, ax12, bx12, cx12, hN0, hN]
   refine Zg ?_
   obtain ⟨l15, al15, bl15, cl15, gl15, hs1_⟩ := bS (lo := none) (hi := (some (.i64, (IntKind.i64.wrap (8 * x12))))) (f := (eI .u8)) rfl rfl Kb J0 (fun _ => rfl) hs1_
   obtain ⟨y16, hy16, hs1_⟩ := bC hs1_
   refine Zb Zc [] ?_
   simp only [push_cast, seval, ↓reduceIte, Za, al15, bl15, cl15, gl15, hN0, hN]
   refine (Zcv hy16).then ?_
   simp only [push_cast, seval, ↓reduceIte, Za, al15, bl15, cl15, gl15, hN0, hN]
   refine Ze [6, 10, 12, 13, 48, 49, 50] [true, false] ?_
   simp only [push_cast, seval, ↓reduceIte]
   refine Zg ?_
   obtain ⟨l18, pl18, ql18, el18, hs1_⟩ := bA (k := 1) rfl hs1_
   refine Zb Zc [] ?_
   simp only [push_cast, seval, ↓reduceIte, Za, pl18, ql18, el18, hN0, hN]
   refine Gt ⟨72, [], [(6, .sl s1_.1.length (fl (eI .u8) s1_.1)), (10, .row n l18.length), (12, .val (.int .i64 x12)), (48, .sl y2.1.length (fl (eI .i64) y2.1)), (49, .val (.int .i64 (y2.1.length : Int))), (50, .val (.int .i64 s1_.2.1))]⟩ (Zm O n [some ⟨true, 62, 1, l18.length, fl (eL (eI .u64)) l18⟩, none, none]) (Zh hU rfl rfl ?_) ?_
   ·simp only [push_cast, seval, ↓reduceIte, Za, pl18, ql18, el18, hN0, hN]
   obtain ⟨l19, al19, bl19, cl19, gl19, hs1_⟩ := bS (lo := (some (.i64, (IntKind.i64.wrap (8 * x12))))) (hi := none) (f := (eI .u8)) rfl rfl Kb J0 (fun _ => rfl) hs1_
   refine Zb Zc [] ?_
   simp only [push_cast, seval, ↓reduceIte, Za, al19, bl19, cl19, gl19, hN0, hN]
   refine Ze [6, 10, 48, 49, 50] [true, false, false] ?_
   simp only [push_cast, seval, ↓reduceIte]
   refine Zb Zc [] ?_
   simp only [push_cast, seval, ↓reduceIte, Za, hN0, hN]
   have hs1_ := Option.some.inj hs1_; subst hs1_
   refine And.intro rfl (Fit2.of (Zh hU rfl rfl ?_) (by omega))
   simp only [push_cast, seval, ↓reduceIte, Za, hN0, hN]
  replace hs1_ := Zw c20 hs1_
  refine Xo ?_
  try simp only [Zf, Zd, ↓reduceIte, Nat.reduceEqDiff]
  have hs1_ := Option.some.inj hs1_; subst hs1_
  refine And.intro (fun h => by cases h) (And.intro rfl (Fit2.of (Zh hU rfl rfl ?_) (by omega)))
  simp only [push_cast, seval, ↓reduceIte, Za, hN0, hN]
 try simp only [Zf, Zd, ↓reduceIte, Nat.reduceEqDiff]
 refine Ze [10] [true, false] ?_
 simp only [push_cast, seval, ↓reduceIte]
 refine Zk [2, 3] (Zb Zc [] ?_)
 simp only [push_cast, seval, ↓reduceIte, Za, hN0, hN]
 refine Z6 ?_
 try simp only [Zf, Zd]
 have h := Option.some.inj h; subst h
 refine Zo (.inr rfl) hU [.row n z21.length, .val (.int .i64 0)] (by omega) ?_
 simp only [push_cast, seval, ↓reduceIte, Za, Try.results19, hN0, hN]
theorem Qk {a0 : (List Int)} {a1 : Int} {r : Int} {O : Objs} {n : Nat} (h : Ya a0 a1 = some r) : GTo Try.prog 59 [.sl a0.length (fl (eI .u8) a0), .val (.int .i64 a1)] O n (.val (.int .i64 r)) O n := by
 unfold Ya at h
 refine Ql Zc Try.call59 Try.func59 rfl (Nat.le_of_ble_eq_true rfl) (Nat.le_refl _) fun hU => ?_
 have hN0 : O n = none := hU.fresh _ (Nat.le_refl _)
 have hN : ∀ k, O (n + k) = none := fun k => hU.fresh _ (Nat.le_add_right _ _)
 show W _ _ _ _ ⟨22, [], [(0, .sl a0.length (fl (eI .u8) a0)), (1, .val (.int .i64 a1))]⟩ (Zm O n []) _
 refine Zk [0, 1] (Zb Zc [] ?_)
 simp only [push_cast, seval, ↓reduceIte, Za, hN0, hN]
 refine Zk [0, 1, 5] (Zb Zc [] ?_)
 simp only [push_cast, seval, ↓reduceIte, Za, hN0, hN]
 refine Zg ?_
 refine Zk [0, 1, 5, 6] (Zb Zc [] ?_)
 simp only [push_cast, seval, ↓reduceIte, Za, hN0, hN]
 refine Ze [0, 1, 5, 6] [] ?_
 simp only [push_cast, seval, ↓reduceIte]
 obtain ⟨z3, hz3, h⟩ := bC h
 refine Yc (E' := ⟨22, [], [(5, .val (.int .i64 z3))]⟩) (O' := (Zm O n [])) (n0 := n) ?_ ?_
 ·refine Ys hz3 (fun s0_ => ⟨22, [], [(0, .sl a0.length (fl (eI .u8) a0)), (1, .val (.int .i64 a1)), (5, .val (.int .i64 s0_.1)), (6, .val (.int .i64 s0_.2))]⟩) (fun s0_ => (Zm O n [])) (fun z3 => JX 0 n (⟨22, [], [(5, .val (.int .i64 z3))]⟩ : Env) (Zm O n []) n) ?_
  intro s0_ x0_ hs0_
  unfold Zu at hs0_
  try dsimp only
  refine Zg ?_
  refine Zk [0, 1, 5, 6, 8] (Zb Zc [] ?_)
  simp only [push_cast, seval, ↓reduceIte, Za, hN0, hN]
  refine Zs (t := (decide (0 ≤ s0_.2))) rfl (fun c2 => ?_) (fun c2 => ?_)
  ·replace hs0_ := Zx c2 hs0_
   refine Zt ?_
   try simp only [Zf, Zd]
   refine Ze [0, 1, 5, 6] [] ?_
   simp only [push_cast, seval, ↓reduceIte]
   refine Zg ?_
   refine Yi ?_
   obtain ⟨x1, hx1, ax1, bx1, cx1, hs0_⟩ := bE (f := (eI .u8)) J0 (fun _ => rfl) (by decide) hs0_
   refine Zb Zc [] ?_
   simp only [push_cast, Nat.reduceAdd, Nat.reduceSub, Nat.reduceMul, Nat.reduceLeDiff, Nat.reduceLT, Nat.reduceEqDiff, ↓reduceIte, reduceCtorEq, Int.reduceBEq, Int.reduceBNe, Nat.reduceBEq, Int.reduceLE, Int.reduceLT, Int.reduceEq, Int.reduceNe, Int.reduceNeg, Nat.reduceDiv, Nat.reduceMod, Nat.reducePow, Za, ax1, bx1, cx1, hN0, hN]
   refine Ze [0, 1, 5, 6] [] ?_
   simp only [push_cast, seval, ↓reduceIte]
   refine Zb Zc [] ?_
   simp only [push_cast, seval, ↓reduceIte, Za, hN0, hN]
   have hs0_ := Option.some.inj hs0_; subst hs0_
   refine And.intro rfl (Fit2.of (Zh hU rfl rfl ?_) (by omega))
   simp only [push_cast, seval, ↓reduceIte, Za, hN0, hN]
  replace hs0_ := Zw c2 hs0_
  refine Xo ?_
  try simp only [Zf, Zd, ↓reduceIte, Nat.reduceEqDiff]
  have hs0_ := Option.some.inj hs0_; subst hs0_
  refine And.intro (fun h => by cases h) (And.intro rfl (Fit2.of (Zh hU rfl rfl ?_) (by omega)))
  simp only [push_cast, seval, ↓reduceIte, Za, hN0, hN]
 try simp only [Zf, Zd, ↓reduceIte, Nat.reduceEqDiff]
 refine Ze [5] [] ?_
 simp only [push_cast, seval, ↓reduceIte]
 refine Zk [4] (Zb Zc [] ?_)
 simp only [push_cast, seval, ↓reduceIte, Za, hN0, hN]
 refine Z6 ?_
 try simp only [Zf, Zd]
 have h := Option.some.inj h; subst h
 refine Zo (.inr rfl) hU [.val (.int .i64 z3)] (by omega) ?_
 simp only [push_cast, seval, ↓reduceIte, Za, Try.results59, hN0, hN]
theorem Gi {a0 : (List Int)} {a1 : Int} {r : Int} {O : Objs} {n : Nat} (h : X0 a0 a1 = some r) : GTo Try.prog 84 [.sl a0.length (fl (eI .u8) a0), .val (.int .i64 a1)] O n (.val (.int .u64 r)) O n := by
 unfold X0 at h
 refine Ql Zc Try.call84 Try.func84 rfl (Nat.le_of_ble_eq_true rfl) (Nat.le_refl _) fun hU => ?_
 have hN0 : O n = none := hU.fresh _ (Nat.le_refl _)
 have hN : ∀ k, O (n + k) = none := fun k => hU.fresh _ (Nat.le_add_right _ _)
 show W _ _ _ _ ⟨22, [], [(0, .sl a0.length (fl (eI .u8) a0)), (1, .val (.int .i64 a1))]⟩ (Zm O n []) _
 refine Zk [0, 1] (Zb Zc [] ?_)
 simp only [push_cast, seval, ↓reduceIte, Za, hN0, hN]
 refine Zk [0, 1, 5] (Zb Zc [] ?_)
 simp only [push_cast, seval, ↓reduceIte, Za, hN0, hN]
 refine Zg ?_
 refine Zk [0, 1, 5, 6] (Zb Zc [] ?_)
 simp only [push_cast, seval, ↓reduceIte, Za, hN0, hN]
 refine Ze [0, 1, 5, 6] [] ?_
 simp only [push_cast, seval, ↓reduceIte]
 obtain ⟨z3, hz3, h⟩ := bC h
 refine Yc (E' := ⟨22, [], [(5, .val (.int .u64 z3))]⟩) (O' := (Zm O n [])) (n0 := n) ?_ ?_
 ·refine Ys hz3 (fun s0_ => ⟨22, [], [(0, .sl a0.length (fl (eI .u8) a0)), (1, .val (.int .i64 a1)), (5, .val (.int .u64 s0_.1)), (6, .val (.int .i64 s0_.2))]⟩) (fun s0_ => (Zm O n [])) (fun z3 => JX 0 n (⟨22, [], [(5, .val (.int .u64 z3))]⟩ : Env) (Zm O n []) n) ?_
  intro s0_ x0_ hs0_
  unfold Zp at hs0_
  try dsimp only
  refine Zg ?_
  refine Zk [0, 1, 5, 6, 8] (Zb Zc [] ?_)
  simp only [push_cast, seval, ↓reduceIte, Za, hN0, hN]
  refine Zs (t := (decide (0 ≤ s0_.2))) rfl (fun c2 => ?_) (fun c2 => ?_)
  ·replace hs0_ := Zx c2 hs0_
   refine Zt ?_
   try simp only [Zf, Zd]
   refine Ze [0, 1, 5, 6] [] ?_
   simp only [push_cast, seval, ↓reduceIte]
   refine Zg ?_
   refine Yi ?_
   obtain ⟨x1, hx1, ax1, bx1, cx1, hs0_⟩ := bE (f := (eI .u8)) J0 (fun _ => rfl) (by decide) hs0_
   refine Zb Zc [] ?_
   simp only [push_cast, Nat.reduceAdd, Nat.reduceSub, Nat.reduceMul, Nat.reduceLeDiff, Nat.reduceLT, Nat.reduceEqDiff, ↓reduceIte, reduceCtorEq, Int.reduceBEq, Int.reduceBNe, Nat.reduceBEq, Int.reduceLE, Int.reduceLT, Int.reduceEq, Int.reduceNe, Int.reduceNeg, Nat.reduceDiv, Nat.reduceMod, Nat.reducePow, Za, ax1, bx1, cx1, hN0, hN]
   refine Ze [0, 1, 5, 6] [] ?_
   simp only [push_cast, seval, ↓reduceIte]
   refine Zb Zc [] ?_
   simp only [push_cast, seval, ↓reduceIte, Za, hN0, hN]
   have hs0_ := Option.some.inj hs0_; subst hs0_
   refine And.intro rfl (Fit2.of (Zh hU rfl rfl ?_) (by omega))
   simp only [push_cast, seval, ↓reduceIte, Za, hN0, hN]
  replace hs0_ := Zw c2 hs0_
  refine Xo ?_
  try simp only [Zf, Zd, ↓reduceIte, Nat.reduceEqDiff]
  have hs0_ := Option.some.inj hs0_; subst hs0_
  refine And.intro (fun h => by cases h) (And.intro rfl (Fit2.of (Zh hU rfl rfl ?_) (by omega)))
  simp only [push_cast, seval, ↓reduceIte, Za, hN0, hN]
 try simp only [Zf, Zd, ↓reduceIte, Nat.reduceEqDiff]
 refine Ze [5] [] ?_
 simp only [push_cast, seval, ↓reduceIte]
 refine Zk [4] (Zb Zc [] ?_)
 simp only [push_cast, seval, ↓reduceIte, Za, hN0, hN]
 refine Z6 ?_
 try simp only [Zf, Zd]
 have h := Option.some.inj h; subst h
 refine Zo (.inr rfl) hU [.val (.int .u64 z3)] (by omega) ?_
 simp only [push_cast, seval, ↓reduceIte, Za, Try.results84, hN0, hN]
theorem Vr {a0 : (List Int)} {r : ((List Int) × Bool)} {O : Objs} {n : Nat} (h : Xa a0 = some r) : GTo Try.prog 60 [.sl a0.length (fl (eI .u8) a0)] O n (.tup [.sl r.1.length (fl (eI .u64) r.1), .val (.bool r.2)]) O n := by
 unfold Xa at h
 refine Ql Zc Try.call60 Try.func60 rfl (Nat.le_of_ble_eq_true rfl) (Nat.le_refl _) fun hU => ?_
 have hN0 : O n = none := hU.fresh _ (Nat.le_refl _)
 have hN : ∀ k, O (n + k) = none := fun k => hU.fresh _ (Nat.le_add_right _ _)
 show W _ _ _ _ ⟨23, [], [(0, .sl a0.length (fl (eI .u8) a0))]⟩ (Zm O n []) _
 refine Zk [0] (Zb Zc [] ?_)
 simp only [push_cast, seval, ↓reduceIte, Za, hN0, hN]
 refine Zg ?_
 refine Zk [0, 9] (Zb Zc [] ?_)
 simp only [push_cast, seval, ↓reduceIte, Za, hN0, hN]
 refine Zs (t := (decide (0 < (Int.tmod (a0.length : Int) 8)))) rfl (fun c5 => ?_) (fun c5 => ?_)
 ·replace h := Zx c5 h
  refine Zk [2, 3] (Zb Zc [] ?_)
  simp only [push_cast, seval, ↓reduceIte, Za, hN0, hN]
  refine Z6 ?_
  try simp only [Zf, Zd]
  have h := Option.some.inj h; subst h
  refine Zo (.inr rfl) hU [.val (.slice none 0 0), .val (.bool false)] (by omega) ?_
  simp only [push_cast, seval, ↓reduceIte, Za, Try.results60, hN0, hN]
 replace h := Zw c5 h
 refine Zt ?_
 try simp only [Zf, Zd]
 refine Ze [0] [] ?_
 simp only [push_cast, seval, ↓reduceIte]
 refine Zk [0, 4] (Zb Zc [] ?_)
 simp only [push_cast, seval, ↓reduceIte, Za, hN0, hN]
 refine Zg ?_
 refine Zk [0, 4, 5] (Zb Zc [] ?_)
 simp only [push_cast, seval, ↓reduceIte, Za, hN0, hN]
 refine Ze [0, 4, 5] [] ?_
 simp only [push_cast, seval, ↓reduceIte]
 refine Za1 (E' := (⟨23, [], [(0, .sl a0.length (fl (eI .u8) a0)), (4, .row n ([] : List Int).length), (5, .val (.int .i64 0))]⟩ : Env)) (O' := (Zm O n [some ⟨true, 37, 1, ([] : List Int).length, fl (eI .u64) ([] : List Int)⟩, none])) (n' := (n + 2)) ?_ ?_
 ·refine Fit2.trans (E' := (⟨23, [], [(0, .sl a0.length (fl (eI .u8) a0)), (4, .val (.slice none 0 0)), (5, .val (.int .i64 0))]⟩ : Env)) (O' := (Zm O n [])) (n' := n) (Fit2.of (Zh hU rfl rfl ?_) (by omega)) ?_
  ·simp only [push_cast, seval, ↓reduceIte, Za, hN0, hN]
  refine Fit2.trans (E' := (⟨23, [], [(4, .row n 0), (0, .sl a0.length (fl (eI .u8) a0)), (4, .val (.slice none 0 0)), (5, .val (.int .i64 0))]⟩ : Env)) (O' := (Zm O n [some ⟨true, 37, 1, 0, []⟩])) (n' := (n + 1)) ?_ ?_
  ·have ha := Vg (ba := n) (E := (⟨23, [], [(0, .sl a0.length (fl (eI .u8) a0)), (4, .val (.slice none 0 0)), (5, .val (.int .i64 0))]⟩ : Env)) (O := (Zm O n [])) (n := n) 4 37 1 rfl (by omega)
   simp only [Jl, Jk, Ks, Ke, List.set_cons_zero, List.set_cons_succ, List.cons_append, List.nil_append, List.length_cons, List.length_nil, Nat.zero_add, Nat.reduceAdd, Nat.reduceLT, Nat.add_assoc] at ha
   exact ha
  refine Fit2.trans (E' := (⟨23, [], [(0, .sl a0.length (fl (eI .u8) a0)), (4, .row n ([] : List Int).length), (5, .val (.int .i64 0))]⟩ : Env)) (O' := (Zm O n [some ⟨true, 37, 1, ([] : List Int).length, fl (eI .u64) ([] : List Int)⟩])) (n' := (n + 1)) (Fit2.of (Zh hU rfl rfl ?_) (by omega)) ?_
  ·simp only [push_cast, seval, ↓reduceIte, Za, hN0, hN]
  refine Zax (k := 1) (k' := 2) hU [0] [0, 0] rfl rfl rfl rfl ⟨rfl, rfl⟩ ?_
  simp only [push_cast, seval, ↓reduceIte, Za, hN0, hN]
 obtain ⟨z4, hz4, h⟩ := bC h
 refine Yc (E' := ⟨23, [], [(4, .row n z4.length)]⟩) (O' := (Zm O n [some ⟨true, 37, 1, z4.length, fl (eI .u64) z4⟩, none])) (n0 := (n + 2)) ?_ ?_
 ·refine Ys hz4 (fun s0_ => ⟨23, [], [(0, .sl a0.length (fl (eI .u8) a0)), (4, .row n s0_.2.length), (5, .val (.int .i64 s0_.1))]⟩) (fun s0_ => (Zm O n [some ⟨true, 37, 1, s0_.2.length, fl (eI .u64) s0_.2⟩, none])) (fun z4 => JX 0 n (⟨23, [], [(4, .row n z4.length)]⟩ : Env) (Zm O n [some ⟨true, 37, 1, z4.length, fl (eI .u64) z4⟩, none]) (n + 2)) ?_
  intro s0_ x0_ hs0_
  unfold Yb at hs0_
  try dsimp only
  refine Zg ?_
  refine Zk [0, 4, 5, 13] (Zb Zc [] ?_)
  simp only [push_cast, seval, ↓reduceIte, Za, hN0, hN]
  refine Zs (t := (decide (s0_.1 < (a0.length : Int)))) rfl (fun c3 => ?_) (fun c3 => ?_)
  ·replace hs0_ := Zx c3 hs0_
   refine Zt ?_
   try simp only [Zf, Zd]
   refine Ze [0, 4, 5] [true, false] ?_
   simp only [push_cast, seval, ↓reduceIte]
   refine Zg ?_
   refine Yi ?_
   obtain ⟨y1, hy1, hs0_⟩ := bC hs0_
   obtain ⟨l2, pl2, ql2, el2, hs0_⟩ := bA (k := 1) rfl hs0_
   refine Zb Zc [] ?_
   simp only [push_cast, seval, ↓reduceIte, Za, pl2, ql2, el2, hN0, hN]
   refine (Gi hy1).then ?_
   simp only [push_cast, seval, ↓reduceIte, Za, pl2, ql2, el2, hN0, hN]
   refine Gt ⟨23, [], [(0, .sl a0.length (fl (eI .u8) a0)), (4, .row n l2.length), (5, .val (.int .i64 s0_.1))]⟩ (Zm O n [some ⟨true, 37, 1, l2.length, fl (eI .u64) l2⟩, none, none]) (Zh hU rfl rfl ?_) ?_
   ·simp only [push_cast, seval, ↓reduceIte, Za, pl2, ql2, el2, hN0, hN]
   refine Zb Zc [] ?_
   simp only [push_cast, seval, ↓reduceIte, Za, hN0, hN]
   have hs0_ := Option.some.inj hs0_; subst hs0_
   refine And.intro rfl (Fit2.of (Zh hU rfl rfl ?_) (by omega))
   simp only [push_cast, seval, ↓reduceIte, Za, hN0, hN]
  replace hs0_ := Zw c3 hs0_
  refine Xo ?_
  try simp only [Zf, Zd, ↓reduceIte, Nat.reduceEqDiff]
  have hs0_ := Option.some.inj hs0_; subst hs0_
  refine And.intro (fun h => by cases h) (And.intro rfl (Fit2.of (Zh hU rfl rfl ?_) (by omega)))
  simp only [push_cast, seval, ↓reduceIte, Za, hN0, hN]
 try simp only [Zf, Zd, ↓reduceIte, Nat.reduceEqDiff]
 refine Ze [4] [true, false] ?_
 simp only [push_cast, seval, ↓reduceIte]
 refine Zk [2, 3] (Zb Zc [] ?_)
 simp only [push_cast, seval, ↓reduceIte, Za, hN0, hN]
 refine Z6 ?_
 try simp only [Zf, Zd]
 have h := Option.some.inj h; subst h
 refine Zo (.inr rfl) hU [.row n z4.length, .val (.bool true)] (by omega) ?_
 simp only [push_cast, seval, ↓reduceIte, Za, Try.results60, hN0, hN]
theorem K5 {a0 : (List Int)} {r : ((List (List Int)) × Int)} {O : Objs} {n : Nat} (h : Yw a0 = some r) : GTo Try.prog 21 [.sl a0.length (fl (eI .u8) a0)] O n (.tup [.sl r.1.length (fl (eL (eI .u64)) r.1), .val (.int .i64 r.2)]) O n := by
 unfold Yw at h
 refine Ql Zc Try.call21 Try.func21 rfl (Nat.le_of_ble_eq_true rfl) (Nat.le_refl _) fun hU => ?_
 have hN0 : O n = none := hU.fresh _ (Nat.le_refl _)
 have hN : ∀ k, O (n + k) = none := fun k => hU.fresh _ (Nat.le_add_right _ _)
 show W _ _ _ _ ⟨98, [], [(0, .sl a0.length (fl (eI .u8) a0))]⟩ (Zm O n []) _
 refine Zk [0] (Zb Zc [] ?_)
 simp only [push_cast, seval, ↓reduceIte, Za, hN0, hN]
 refine Zg ?_
 refine Zk [0, 15] (Zb Zc [] ?_)
 simp only [push_cast, seval, ↓reduceIte, Za, hN0, hN]
 refine Zs (t := (decide ((a0.length : Int) < 4))) rfl (fun c29 => ?_) (fun c29 => ?_)
 ·replace h := Zx c29 h
  refine Zk [2, 3] (Zb Zc [] ?_)
  simp only [push_cast, seval, ↓reduceIte, Za, hN0, hN]
  refine Z6 ?_
  try simp only [Zf, Zd]
  have h := Option.some.inj h; subst h
  refine Zo (.inr rfl) hU [.val (.slice none 0 0), .val (.int .i64 4)] (by omega) ?_
  simp only [push_cast, seval, ↓reduceIte, Za, Try.results21, hN0, hN]
 replace h := Zw c29 h
 refine Zt ?_
 try simp only [Zf, Zd]
 refine Ze [0] [] ?_
 simp only [push_cast, seval, ↓reduceIte]
 refine Zg ?_
 obtain ⟨y2, hy2, h⟩ := bC h
 refine Zb Zc [] ?_
 simp only [push_cast, seval, ↓reduceIte, Za, hN0, hN]
 refine (Qk hy2).then ?_
 simp only [push_cast, seval, ↓reduceIte, Za, hN0, hN]
 refine Ze [0, 4] [] ?_
 simp only [push_cast, seval, ↓reduceIte]
 refine Zg ?_
 refine Zk [0, 4, 20] (Zb Zc [] ?_)
 simp only [push_cast, seval, ↓reduceIte, Za, hN0, hN]
 refine Zs (t := (decide (16 < (IntKind.i64.wrap (y2 + 1))))) rfl (fun c28 => ?_) (fun c28 => ?_)
 ·replace h := Zx c28 h
  refine Zk [2, 3] (Zb Zc [] ?_)
  simp only [push_cast, seval, ↓reduceIte, Za, hN0, hN]
  refine Z6 ?_
  try simp only [Zf, Zd]
  have h := Option.some.inj h; subst h
  refine Zo (.inr rfl) hU [.val (.slice none 0 0), .val (.int .i64 3)] (by omega) ?_
  simp only [push_cast, seval, ↓reduceIte, Za, Try.results21, hN0, hN]
 replace h := Zw c28 h
 refine Zt ?_
 try simp only [Zf, Zd]
 refine Ze [0, 4] [] ?_
 simp only [push_cast, seval, ↓reduceIte]
 refine Zk [0, 4, 5] (Zb Zc [] ?_)
 simp only [push_cast, seval, ↓reduceIte, Za, hN0, hN]
 obtain ⟨z3, hz3, h⟩ := bC h
 refine Zha (E' := ⟨98, [], [(0, .sl a0.length (fl (eI .u8) a0)), (4, .val (.int .i64 (IntKind.i64.wrap (y2 + 1)))), (5, .val (.int .i64 z3))]⟩) (O' := (Zm O n [])) (n0 := n) ?_ ?_
 ·refine Zk [0, 4, 5, 26] (Zb Zc [] ?_)
  simp only [push_cast, seval, ↓reduceIte, Za, hN0, hN]
  refine Zs (t := (decide (0 < (Int.tmod (IntKind.i64.wrap (4 + (IntKind.i64.wrap (4 * (IntKind.i64.wrap (y2 + 1)))))) 8)))) rfl (fun c4 => ?_) (fun c4 => ?_)
  ·replace hz3 := Zx c4 hz3
   refine Zb Zc [] ?_
   simp only [push_cast, seval, ↓reduceIte, Za, hN0, hN]
   have hz3 := Option.some.inj hz3; subst hz3
   refine And.intro rfl (Fit2.of (Zh hU rfl rfl ?_) (by omega))
   simp only [push_cast, seval, ↓reduceIte, Za, hN0, hN]
  replace hz3 := Zw c4 hz3
  refine Zt ?_
  try simp only [Zf, Zd]
  have hz3 := Option.some.inj hz3; subst hz3
  refine And.intro rfl (Fit2.of (Zh hU rfl rfl ?_) (by omega))
  simp only [push_cast, seval, ↓reduceIte, Za, hN0, hN]
 refine Zg ?_
 refine Zk [0, 4, 5, 32] (Zb Zc [] ?_)
 simp only [push_cast, seval, ↓reduceIte, Za, hN0, hN]
 refine Zs (t := (decide ((a0.length : Int) < z3))) rfl (fun c27 => ?_) (fun c27 => ?_)
 ·replace h := Zx c27 h
  refine Zk [2, 3] (Zb Zc [] ?_)
  simp only [push_cast, seval, ↓reduceIte, Za, hN0, hN]
  refine Z6 ?_
  try simp only [Zf, Zd]
  have h := Option.some.inj h; subst h
  refine Zo (.inr rfl) hU [.val (.slice none 0 0), .val (.int .i64 4)] (by omega) ?_
  simp only [push_cast, seval, ↓reduceIte, Za, Try.results21, hN0, hN]
 replace h := Zw c27 h
 refine Zt ?_
 try simp only [Zf, Zd]
 refine Ze [0, 4, 5] [] ?_
 simp only [push_cast, seval, ↓reduceIte]
 refine Zg ?_
 refine Zk [0, 4, 5, 6] (Zb Zc [] ?_)
 simp only [push_cast, seval, ↓reduceIte, Za, hN0, hN]
 refine Ze [0, 4, 5, 6] [] ?_
 simp only [push_cast, seval, ↓reduceIte]
 obtain ⟨z9, hz9, h⟩ := bC h
 refine Kt (J := (X5 (fun z9 => JR n (⟨98, [], [(2, .val (.slice none 0 0)), (3, .val (.int .i64 3))]⟩ : Env) (Zm O n []) n) (fun z9 => JX 0 n (⟨98, [], [(0, .sl a0.length (fl (eI .u8) a0)), (4, .val (.int .i64 (IntKind.i64.wrap (y2 + 1)))), (5, .val (.int .i64 z3))]⟩ : Env) (Zm O n []) n))) (z := z9) ?_ fun hw => ?_
 ·refine Ys hz9 (fun s0_ => ⟨98, [], [(0, .sl a0.length (fl (eI .u8) a0)), (4, .val (.int .i64 (IntKind.i64.wrap (y2 + 1)))), (5, .val (.int .i64 z3)), (6, .val (.int .i64 s0_))]⟩) (fun s0_ => (Zm O n [])) (X5 (fun z9 => JR n (⟨98, [], [(2, .val (.slice none 0 0)), (3, .val (.int .i64 3))]⟩ : Env) (Zm O n []) n) (fun z9 => JX 0 n (⟨98, [], [(0, .sl a0.length (fl (eI .u8) a0)), (4, .val (.int .i64 (IntKind.i64.wrap (y2 + 1)))), (5, .val (.int .i64 z3))]⟩ : Env) (Zm O n []) n)) ?_
  intro s0_ x0_ hs0_
  unfold Zy at hs0_
  try dsimp only
  refine Zg ?_
  refine Zk [0, 4, 5, 6, 35] (Zb Zc [] ?_)
  simp only [push_cast, seval, ↓reduceIte, Za, hN0, hN]
  refine Zs (t := (decide (s0_ < (IntKind.i64.wrap (y2 + 1))))) rfl (fun c8 => ?_) (fun c8 => ?_)
  ·replace hs0_ := Zx c8 hs0_
   refine Zt ?_
   try simp only [Zf, Zd]
   refine Ze [0, 4, 5, 6] [] ?_
   simp only [push_cast, seval, ↓reduceIte]
   refine Zg ?_
   refine Yi ?_
   refine Zg ?_
   obtain ⟨y6, hy6, hs0_⟩ := bC hs0_
   refine Zb Zc [] ?_
   simp only [push_cast, seval, ↓reduceIte, Za, hN0, hN]
   refine (Qk hy6).then ?_
   simp only [push_cast, seval, ↓reduceIte, Za, hN0, hN]
   refine Ze [0, 4, 5, 6, 43] [] ?_
   simp only [push_cast, seval, ↓reduceIte]
   refine Zs (t := (decide (65536 < y6))) rfl (fun c7 => ?_) (fun c7 => ?_)
   ·replace hs0_ := Zx c7 hs0_
    refine Zk [2, 3] (Zb Zc [] ?_)
    simp only [push_cast, seval, ↓reduceIte, Za, hN0, hN]
    refine Z6 ?_
    try simp only [Zf, Zd]
    have hs0_ := Option.some.inj hs0_; subst hs0_
    refine And.intro (fun h => by cases h) (And.intro rfl (Fit2.of (Zh hU rfl rfl ?_) (by omega)))
    simp only [push_cast, seval, ↓reduceIte, Za, hN0, hN]
   replace hs0_ := Zw c7 hs0_
   refine Zt ?_
   try simp only [Zf, Zd]
   refine Ze [0, 4, 5, 6] [] ?_
   simp only [push_cast, seval, ↓reduceIte]
   refine Zb Zc [] ?_
   simp only [push_cast, seval, ↓reduceIte, Za, hN0, hN]
   have hs0_ := Option.some.inj hs0_; subst hs0_
   refine And.intro rfl (Fit2.of (Zh hU rfl rfl ?_) (by omega))
   simp only [push_cast, seval, ↓reduceIte, Za, hN0, hN]
  replace hs0_ := Zw c8 hs0_
  refine Xo ?_
  try simp only [Zf, Zd, ↓reduceIte, Nat.reduceEqDiff]
  have hs0_ := Option.some.inj hs0_; subst hs0_
  refine And.intro (fun h => by cases h) (And.intro rfl (Fit2.of (Zh hU rfl rfl ?_) (by omega)))
  simp only [push_cast, seval, ↓reduceIte, Za, hN0, hN]
 rcases z9 with z9 | z9
 ·dsimp only [X5] at hw h
  refine Qr hw ?_
  try simp only [Zf, Zd, ↓reduceIte, Nat.reduceEqDiff]
  have h := Option.some.inj h; subst h
  refine Zo (.inr rfl) hU [.val (.slice none 0 0), .val (.int .i64 3)] (by omega) ?_
  simp only [push_cast, seval, ↓reduceIte, Za, Try.results21, hN0, hN]
 dsimp only [X5] at hw h
 refine Yc hw ?_
 try simp only [Zf, Zd, ↓reduceIte, Nat.reduceEqDiff]
 refine Ze [0, 4, 5] [] ?_
 simp only [push_cast, seval, ↓reduceIte]
 refine Zg ?_
 refine Zk [0, 4, 5, 7] (Zb Zc [] ?_)
 simp only [push_cast, seval, ↓reduceIte, Za, hN0, hN]
 refine Ze [0, 4, 5, 7] [] ?_
 simp only [push_cast, seval, ↓reduceIte]
 obtain ⟨z14, hz14, h⟩ := bC h
 refine Kt (J := (X5 (fun z14 => JR n (⟨98, [], [(2, .val (.slice none 0 0)), (3, .val (.int .i64 5))]⟩ : Env) (Zm O n []) n) (fun z14 => JX 2 n (⟨98, [], [(0, .sl a0.length (fl (eI .u8) a0)), (4, .val (.int .i64 (IntKind.i64.wrap (y2 + 1)))), (5, .val (.int .i64 z3))]⟩ : Env) (Zm O n []) n))) (z := z14) ?_ fun hw => ?_
 ·refine Ys hz14 (fun s1_ => ⟨98, [], [(0, .sl a0.length (fl (eI .u8) a0)), (4, .val (.int .i64 (IntKind.i64.wrap (y2 + 1)))), (5, .val (.int .i64 z3)), (7, .val (.int .i64 s1_))]⟩) (fun s1_ => (Zm O n [])) (X5 (fun z14 => JR n (⟨98, [], [(2, .val (.slice none 0 0)), (3, .val (.int .i64 5))]⟩ : Env) (Zm O n []) n) (fun z14 => JX 2 n (⟨98, [], [(0, .sl a0.length (fl (eI .u8) a0)), (4, .val (.int .i64 (IntKind.i64.wrap (y2 + 1)))), (5, .val (.int .i64 z3))]⟩ : Env) (Zm O n []) n)) ?_
  intro s1_ x1_ hs1_
  unfold Zz at hs1_
  try dsimp only
  refine Zg ?_
  refine Zk [0, 4, 5, 7, 49] (Zb Zc [] ?_)
  simp only [push_cast, seval, ↓reduceIte, Za, hN0, hN]
  refine Zs (t := (decide (s1_ < z3))) rfl (fun c13 => ?_) (fun c13 => ?_)
  ·replace hs1_ := Zx c13 hs1_
   refine Zt ?_
   try simp only [Zf, Zd]
   refine Ze [0, 4, 5, 7] [] ?_
   simp only [push_cast, seval, ↓reduceIte]
   refine Zg ?_
   refine Yi ?_
   obtain ⟨x11, hx11, ax11, bx11, cx11, hs1_⟩ := bE (f := (eI .u8)) J0 (fun _ => rfl) (by decide) hs1_
   refine Zk [0, 4, 5, 7, 56] (Zb Zc [] ?_)
   simp only [push_cast, Nat.reduceAdd, Nat.reduceSub, Nat.reduceMul, Nat.reduceLeDiff, Nat.reduceLT, Nat.reduceEqDiff, ↓reduceIte, reduceCtorEq, Int.reduceBEq, Int.reduceBNe, Nat.reduceBEq, Int.reduceLE, Int.reduceLT, Int.reduceEq, Int.reduceNe, Int.reduceNeg, Nat.reduceDiv, Nat.reduceMod, Nat.reducePow, Za, ax11, bx11, cx11, hN0, hN]
   refine Zs (t := (x11 != 0)) rfl (fun c12 => ?_) (fun c12 => ?_)
   ·replace hs1_ := Zx c12 hs1_
    refine Zk [2, 3] (Zb Zc [] ?_)
    simp only [push_cast, seval, ↓reduceIte, Za, hN0, hN]
    refine Z6 ?_
    try simp only [Zf, Zd]
    have hs1_ := Option.some.inj hs1_; subst hs1_
    refine And.intro (fun h => by cases h) (And.intro rfl (Fit2.of (Zh hU rfl rfl ?_) (by omega)))
    simp only [push_cast, seval, ↓reduceIte, Za, hN0, hN]
   replace hs1_ := Zw c12 hs1_
   refine Zt ?_
   try simp only [Zf, Zd]
   refine Ze [0, 4, 5, 7] [] ?_
   simp only [push_cast, seval, ↓reduceIte]
   refine Zb Zc [] ?_
   simp only [push_cast, seval, ↓reduceIte, Za, hN0, hN]
   have hs1_ := Option.some.inj hs1_; subst hs1_
   refine And.intro rfl (Fit2.of (Zh hU rfl rfl ?_) (by omega))
   simp only [push_cast, seval, ↓reduceIte, Za, hN0, hN]
  replace hs1_ := Zw c13 hs1_
  refine Xo ?_
  try simp only [Zf, Zd, ↓reduceIte, Nat.reduceEqDiff]
  have hs1_ := Option.some.inj hs1_; subst hs1_
  refine And.intro (fun h => by cases h) (And.intro rfl (Fit2.of (Zh hU rfl rfl ?_) (by omega)))
  simp only [push_cast, seval, ↓reduceIte, Za, hN0, hN]
 rcases z14 with z14 | z14
 ·dsimp only [X5] at hw h
  refine Qr hw ?_
  try simp only [Zf, Zd, ↓reduceIte, Nat.reduceEqDiff]
  have h := Option.some.inj h; subst h
  refine Zo (.inr rfl) hU [.val (.slice none 0 0), .val (.int .i64 5)] (by omega) ?_
  simp only [push_cast, seval, ↓reduceIte, Za, Try.results21, hN0, hN]
 dsimp only [X5] at hw h
 refine Yc hw ?_
 try simp only [Zf, Zd, ↓reduceIte, Nat.reduceEqDiff]
 refine Ze [0, 4, 5] [] ?_
 simp only [push_cast, seval, ↓reduceIte]
 refine Zk [0, 4, 5, 8] (Zb Zc [] ?_)
 simp only [push_cast, seval, ↓reduceIte, Za, hN0, hN]
 refine Zg ?_
 refine Zk [0, 4, 5, 8, 9] (Zb Zc [] ?_)
 simp only [push_cast, seval, ↓reduceIte, Za, hN0, hN]
 refine Ze [0, 4, 5, 8, 9] [] ?_
 simp only [push_cast, seval, ↓reduceIte]
 refine Za1 (E' := (⟨98, [], [(0, .sl a0.length (fl (eI .u8) a0)), (4, .val (.int .i64 (IntKind.i64.wrap (y2 + 1)))), (5, .val (.int .i64 z3)), (8, .row n ([] : List (List Int)).length), (9, .val (.int .i64 0))]⟩ : Env)) (O' := (Zm O n [some ⟨true, 62, 1, ([] : List (List Int)).length, fl (eL (eI .u64)) ([] : List (List Int))⟩, none])) (n' := (n + 2)) ?_ ?_
 ·refine Fit2.trans (E' := (⟨98, [], [(0, .sl a0.length (fl (eI .u8) a0)), (4, .val (.int .i64 (IntKind.i64.wrap (y2 + 1)))), (5, .val (.int .i64 z3)), (8, .val (.slice none 0 0)), (9, .val (.int .i64 0))]⟩ : Env)) (O' := (Zm O n [])) (n' := n) (Fit2.of (Zh hU rfl rfl ?_) (by omega)) ?_
  ·simp only [push_cast, seval, ↓reduceIte, Za, hN0, hN]
  refine Fit2.trans (E' := (⟨98, [], [(8, .row n 0), (0, .sl a0.length (fl (eI .u8) a0)), (4, .val (.int .i64 (IntKind.i64.wrap (y2 + 1)))), (5, .val (.int .i64 z3)), (8, .val (.slice none 0 0)), (9, .val (.int .i64 0))]⟩ : Env)) (O' := (Zm O n [some ⟨true, 62, 1, 0, []⟩])) (n' := (n + 1)) ?_ ?_
  ·have ha := Vg (ba := n) (E := (⟨98, [], [(0, .sl a0.length (fl (eI .u8) a0)), (4, .val (.int .i64 (IntKind.i64.wrap (y2 + 1)))), (5, .val (.int .i64 z3)), (8, .val (.slice none 0 0)), (9, .val (.int .i64 0))]⟩ : Env)) (O := (Zm O n [])) (n := n) 8 62 1 rfl (by omega)
   simp only [Jl, Jk, Ks, Ke, List.set_cons_zero, List.set_cons_succ, List.cons_append, List.nil_append, List.length_cons, List.length_nil, Nat.zero_add, Nat.reduceAdd, Nat.reduceLT, Nat.add_assoc] at ha
   exact ha
  refine Fit2.trans (E' := (⟨98, [], [(0, .sl a0.length (fl (eI .u8) a0)), (4, .val (.int .i64 (IntKind.i64.wrap (y2 + 1)))), (5, .val (.int .i64 z3)), (8, .row n ([] : List (List Int)).length), (9, .val (.int .i64 0))]⟩ : Env)) (O' := (Zm O n [some ⟨true, 62, 1, ([] : List (List Int)).length, fl (eL (eI .u64)) ([] : List (List Int))⟩])) (n' := (n + 1)) (Fit2.of (Zh hU rfl rfl ?_) (by omega)) ?_
  ·simp only [push_cast, seval, ↓reduceIte, Za, hN0, hN]
  refine Zax (k := 1) (k' := 2) hU [0] [0, 0] rfl rfl rfl rfl ⟨rfl, rfl⟩ ?_
  simp only [push_cast, seval, ↓reduceIte, Za, hN0, hN]
 obtain ⟨z25, hz25, h⟩ := bC h
 refine Kt (J := (X5 (fun z25 => JR n (⟨98, [], [(2, .val (.slice none 0 0)), (3, .val (.int .i64 4))]⟩ : Env) (Zm O n []) n) (fun z25 => JX 4 n (⟨98, [], [(0, .sl a0.length (fl (eI .u8) a0)), (5, .val (.int .i64 z25.1)), (8, .row n z25.2.length)]⟩ : Env) (Zm O n [some ⟨true, 62, 1, z25.2.length, fl (eL (eI .u64)) z25.2⟩, none]) (n + 2)))) (z := z25) ?_ fun hw => ?_
 ·refine Ys hz25 (fun s2_ => ⟨98, [], [(0, .sl a0.length (fl (eI .u8) a0)), (4, .val (.int .i64 (IntKind.i64.wrap (y2 + 1)))), (5, .val (.int .i64 s2_.1)), (8, .row n s2_.2.2.length), (9, .val (.int .i64 s2_.2.1))]⟩) (fun s2_ => (Zm O n [some ⟨true, 62, 1, s2_.2.2.length, fl (eL (eI .u64)) s2_.2.2⟩, none])) (X5 (fun z25 => JR n (⟨98, [], [(2, .val (.slice none 0 0)), (3, .val (.int .i64 4))]⟩ : Env) (Zm O n []) n) (fun z25 => JX 4 n (⟨98, [], [(0, .sl a0.length (fl (eI .u8) a0)), (5, .val (.int .i64 z25.1)), (8, .row n z25.2.length)]⟩ : Env) (Zm O n [some ⟨true, 62, 1, z25.2.length, fl (eL (eI .u64)) z25.2⟩, none]) (n + 2))) ?_
  intro s2_ x2_ hs2_
  unfold Zv at hs2_
  try dsimp only
  refine Zg ?_
  refine Zk [0, 4, 5, 8, 9, 59] (Zb Zc [] ?_)
  simp only [push_cast, seval, ↓reduceIte, Za, hN0, hN]
  refine Zs (t := (decide (s2_.2.1 < (IntKind.i64.wrap (y2 + 1))))) rfl (fun c24 => ?_) (fun c24 => ?_)
  ·replace hs2_ := Zx c24 hs2_
   refine Zt ?_
   try simp only [Zf, Zd]
   refine Ze [0, 4, 5, 8, 9] [true, false] ?_
   simp only [push_cast, seval, ↓reduceIte]
   refine Zg ?_
   refine Yi ?_
   refine Zg ?_
   obtain ⟨y16, hy16, hs2_⟩ := bC hs2_
   refine Zb Zc [] ?_
   simp only [push_cast, seval, ↓reduceIte, Za, hN0, hN]
   refine (Qk hy16).then ?_
   simp only [push_cast, seval, ↓reduceIte, Za, hN0, hN]
   refine Ze [0, 4, 5, 8, 9, 10] [true, false] ?_
   simp only [push_cast, seval, ↓reduceIte]
   refine Zg ?_
   refine Zk [0, 4, 5, 8, 9, 10, 73] (Zb Zc [] ?_)
   simp only [push_cast, seval, ↓reduceIte, Za, hN0, hN]
   refine Zs (t := (decide ((IntKind.i64.wrap ((a0.length : Int) - s2_.1)) < (IntKind.i64.wrap (8 * y16))))) rfl (fun c23 => ?_) (fun c23 => ?_)
   ·replace hs2_ := Zx c23 hs2_
    refine Zk [2, 3] (Zb Zc [] ?_)
    simp only [push_cast, seval, ↓reduceIte, Za, hN0, hN]
    refine Z6 ?_
    try simp only [Zf, Zd]
    have hs2_ := Option.some.inj hs2_; subst hs2_
    refine And.intro (fun h => by cases h) (And.intro rfl (Fit2.of (Zh hU rfl rfl ?_) (by omega)))
    simp only [push_cast, seval, ↓reduceIte, Za, hN0, hN]
   replace hs2_ := Zw c23 hs2_
   refine Zt ?_
   try simp only [Zf, Zd]
   refine Ze [0, 4, 5, 8, 9, 10] [true, false] ?_
   simp only [push_cast, seval, ↓reduceIte]
   refine Zg ?_
   obtain ⟨l19, al19, bl19, cl19, gl19, hs2_⟩ := bS (lo := (some (.i64, s2_.1))) (hi := (some (.i64, (IntKind.i64.wrap (s2_.1 + (IntKind.i64.wrap (8 * y16))))))) (f := (eI .u8)) rfl rfl Kb J0 (fun _ => rfl) hs2_
   obtain ⟨y20, hy20, hs2_⟩ := bC hs2_
   refine Zb Zc [] ?_
   simp only [push_cast, seval, ↓reduceIte, Za, al19, bl19, cl19, gl19, hN0, hN]
   refine (Vr hy20).then ?_
   simp only [push_cast, seval, ↓reduceIte, Za, al19, bl19, cl19, gl19, hN0, hN]
   refine Ze [0, 4, 5, 8, 9, 10, 11] [true, false] ?_
   simp only [push_cast, seval, ↓reduceIte]
   refine Zg ?_
   obtain ⟨l22, pl22, ql22, el22, hs2_⟩ := bA (k := 1) rfl hs2_
   refine Zb Zc [] ?_
   simp only [push_cast, seval, ↓reduceIte, Za, pl22, ql22, el22, hN0, hN]
   refine Gt ⟨98, [], [(0, .sl a0.length (fl (eI .u8) a0)), (4, .val (.int .i64 (IntKind.i64.wrap (y2 + 1)))), (5, .val (.int .i64 s2_.1)), (8, .row n l22.length), (9, .val (.int .i64 s2_.2.1)), (10, .val (.int .i64 y16))]⟩ (Zm O n [some ⟨true, 62, 1, l22.length, fl (eL (eI .u64)) l22⟩, none, none]) (Zh hU rfl rfl ?_) ?_
   ·simp only [push_cast, seval, ↓reduceIte, Za, pl22, ql22, el22, hN0, hN]
   refine Zb Zc [] ?_
   simp only [push_cast, seval, ↓reduceIte, Za, hN0, hN]
   refine Ze [0, 4, 5, 8, 9] [true, false, false] ?_
   simp only [push_cast, seval, ↓reduceIte]
   refine Zb Zc [] ?_
   simp only [push_cast, seval, ↓reduceIte, Za, hN0, hN]
   have hs2_ := Option.some.inj hs2_; subst hs2_
   refine And.intro rfl (Fit2.of (Zh hU rfl rfl ?_) (by omega))
   simp only [push_cast, seval, ↓reduceIte, Za, hN0, hN]
  replace hs2_ := Zw c24 hs2_
  refine Xo ?_
  try simp only [Zf, Zd, ↓reduceIte, Nat.reduceEqDiff]
  have hs2_ := Option.some.inj hs2_; subst hs2_
  refine And.intro (fun h => by cases h) (And.intro rfl (Fit2.of (Zh hU rfl rfl ?_) (by omega)))
  simp only [push_cast, seval, ↓reduceIte, Za, hN0, hN]
 rcases z25 with z25 | z25
 ·dsimp only [X5] at hw h
  refine Qr hw ?_
  try simp only [Zf, Zd, ↓reduceIte, Nat.reduceEqDiff]
  have h := Option.some.inj h; subst h
  refine Zo (.inr rfl) hU [.val (.slice none 0 0), .val (.int .i64 4)] (by omega) ?_
  simp only [push_cast, seval, ↓reduceIte, Za, Try.results21, hN0, hN]
 dsimp only [X5] at hw h
 refine Yc hw ?_
 try simp only [Zf, Zd, ↓reduceIte, Nat.reduceEqDiff]
 refine Ze [0, 5, 8] [true, false] ?_
 simp only [push_cast, seval, ↓reduceIte]
 refine Zg ?_
 refine Zk [8, 96] (Zb Zc [] ?_)
 simp only [push_cast, seval, ↓reduceIte, Za, hN0, hN]
 refine Zs (t := (decide (z25.1 < (a0.length : Int)))) rfl (fun c26 => ?_) (fun c26 => ?_)
 ·replace h := Zx c26 h
  refine Zk [2, 3] (Zb Zc [] ?_)
  simp only [push_cast, seval, ↓reduceIte, Za, hN0, hN]
  refine Z6 ?_
  try simp only [Zf, Zd]
  have h := Option.some.inj h; subst h
  refine Zo (.inr rfl) hU [.val (.slice none 0 0), .val (.int .i64 6)] (by omega) ?_
  simp only [push_cast, seval, ↓reduceIte, Za, Try.results21, hN0, hN]
 replace h := Zw c26 h
 refine Zt ?_
 try simp only [Zf, Zd]
 refine Ze [8] [true, false] ?_
 simp only [push_cast, seval, ↓reduceIte]
 refine Zk [2, 3] (Zb Zc [] ?_)
 simp only [push_cast, seval, ↓reduceIte, Za, hN0, hN]
 refine Z6 ?_
 try simp only [Zf, Zd]
 have h := Option.some.inj h; subst h
 refine Zo (.inr rfl) hU [.row n z25.2.length, .val (.int .i64 0)] (by omega) ?_
 simp only [push_cast, seval, ↓reduceIte, Za, Try.results21, hN0, hN]
theorem Uc {a0 : (List Int)} {a1 : (List Int)} {r : Bool} {O : Objs} {n : Nat} (h : Yz a0 a1 = some r) : GTo Try.prog 58 [.sl a0.length (fl (eI .u64) a0), .sl a1.length (fl (eI .u64) a1)] O n (.val (.bool r)) O n := by
 unfold Yz at h
 refine Ql Zc Try.call58 Try.func58 rfl (Nat.le_of_ble_eq_true rfl) (Nat.le_refl _) fun hU => ?_
 have hN0 : O n = none := hU.fresh _ (Nat.le_refl _)
 have hN : ∀ k, O (n + k) = none := fun k => hU.fresh _ (Nat.le_add_right _ _)
 show W _ _ _ _ ⟨26, [], [(0, .sl a0.length (fl (eI .u64) a0)), (1, .sl a1.length (fl (eI .u64) a1))]⟩ (Zm O n []) _
 refine Zk [0, 1] (Zb Zc [] ?_)
 simp only [push_cast, seval, ↓reduceIte, Za, hN0, hN]
 refine Zg ?_
 refine Zk [0, 1, 10] (Zb Zc [] ?_)
 simp only [push_cast, seval, ↓reduceIte, Za, hN0, hN]
 refine Zs (t := ((a0.length : Int) != (a1.length : Int))) rfl (fun c8 => ?_) (fun c8 => ?_)
 ·replace h := Zx c8 h
  refine Zk [4] (Zb Zc [] ?_)
  simp only [push_cast, seval, ↓reduceIte, Za, hN0, hN]
  refine Z6 ?_
  try simp only [Zf, Zd]
  have h := Option.some.inj h; subst h
  refine Zo (.inr rfl) hU [.val (.bool false)] (by omega) ?_
  simp only [push_cast, seval, ↓reduceIte, Za, Try.results58, hN0, hN]
 replace h := Zw c8 h
 refine Zt ?_
 try simp only [Zf, Zd]
 refine Ze [0, 1] [] ?_
 simp only [push_cast, seval, ↓reduceIte]
 refine Zg ?_
 refine Zk [0, 1, 5] (Zb Zc [] ?_)
 simp only [push_cast, seval, ↓reduceIte, Za, hN0, hN]
 refine Ze [0, 1, 5] [] ?_
 simp only [push_cast, seval, ↓reduceIte]
 obtain ⟨z7, hz7, h⟩ := bC h
 refine Kt (J := (X5 (fun z7 => JR n (⟨26, [], [(4, .val (.bool false))]⟩ : Env) (Zm O n []) n) (fun z7 => JX 0 n (⟨26, [], []⟩ : Env) (Zm O n []) n))) (z := z7) ?_ fun hw => ?_
 ·refine Ys hz7 (fun s0_ => ⟨26, [], [(0, .sl a0.length (fl (eI .u64) a0)), (1, .sl a1.length (fl (eI .u64) a1)), (5, .val (.int .i64 s0_))]⟩) (fun s0_ => (Zm O n [])) (X5 (fun z7 => JR n (⟨26, [], [(4, .val (.bool false))]⟩ : Env) (Zm O n []) n) (fun z7 => JX 0 n (⟨26, [], []⟩ : Env) (Zm O n []) n)) ?_
  intro s0_ x0_ hs0_
  unfold Yu at hs0_
  try dsimp only
  refine Zg ?_
  refine Zk [0, 1, 5, 14] (Zb Zc [] ?_)
  simp only [push_cast, seval, ↓reduceIte, Za, hN0, hN]
  refine Zs (t := (decide (s0_ < (a0.length : Int)))) rfl (fun c6 => ?_) (fun c6 => ?_)
  ·replace hs0_ := Zx c6 hs0_
   refine Zt ?_
   try simp only [Zf, Zd]
   refine Ze [0, 1, 5] [] ?_
   simp only [push_cast, seval, ↓reduceIte]
   refine Zg ?_
   refine Yi ?_
   obtain ⟨x3, hx3, ax3, bx3, cx3, hs0_⟩ := bE (f := (eI .u64)) Zd7 (fun _ => rfl) (by decide) hs0_
   obtain ⟨x4, hx4, ax4, bx4, cx4, hs0_⟩ := bE (f := (eI .u64)) Zd7 (fun _ => rfl) (by decide) hs0_
   refine Zk [0, 1, 5, 25] (Zas Zc (by kernel_rfl) [] (by kernel_rfl) ?_)
   simp only [push_cast, Nat.reduceAdd, Nat.reduceSub, Nat.reduceMul, Nat.reduceLeDiff, Nat.reduceLT, Nat.reduceEqDiff, ↓reduceIte, reduceCtorEq, Int.reduceBEq, Int.reduceBNe, Nat.reduceBEq, Int.reduceLE, Int.reduceLT, Int.reduceEq, Int.reduceNe, Int.reduceNeg, Nat.reduceDiv, Nat.reduceMod, Nat.reducePow, Za, ax3, bx3, cx3, ax4, bx4, cx4, hN0, hN]
   refine Zs (t := (x3 != x4)) rfl (fun c5 => ?_) (fun c5 => ?_)
   ·replace hs0_ := Zx c5 hs0_
    refine Zk [4] (Zb Zc [] ?_)
    simp only [push_cast, seval, ↓reduceIte, Za, hN0, hN]
    refine Z6 ?_
    try simp only [Zf, Zd]
    have hs0_ := Option.some.inj hs0_; subst hs0_
    refine And.intro (fun h => by cases h) (And.intro rfl (Fit2.of (Zh hU rfl rfl ?_) (by omega)))
    simp only [push_cast, seval, ↓reduceIte, Za, hN0, hN]
   replace hs0_ := Zw c5 hs0_
   refine Zt ?_
   try simp only [Zf, Zd]
   refine Ze [0, 1, 5] [] ?_
   simp only [push_cast, seval, ↓reduceIte]
   refine Zb Zc [] ?_
   simp only [push_cast, seval, ↓reduceIte, Za, hN0, hN]
   have hs0_ := Option.some.inj hs0_; subst hs0_
   refine And.intro rfl (Fit2.of (Zh hU rfl rfl ?_) (by omega))
   simp only [push_cast, seval, ↓reduceIte, Za, hN0, hN]
  replace hs0_ := Zw c6 hs0_
  refine Xo ?_
  try simp only [Zf, Zd, ↓reduceIte, Nat.reduceEqDiff]
  have hs0_ := Option.some.inj hs0_; subst hs0_
  refine And.intro (fun h => by cases h) (And.intro rfl (Fit2.of (Zh hU rfl rfl ?_) (by omega)))
  simp only [push_cast, seval, ↓reduceIte, Za, hN0, hN]
 rcases z7 with z7 | z7
 ·dsimp only [X5] at hw h
  refine Qr hw ?_
  try simp only [Zf, Zd, ↓reduceIte, Nat.reduceEqDiff]
  have h := Option.some.inj h; subst h
  refine Zo (.inr rfl) hU [.val (.bool false)] (by omega) ?_
  simp only [push_cast, seval, ↓reduceIte, Za, Try.results58, hN0, hN]
 dsimp only [X5] at hw h
 refine Yc hw ?_
 try simp only [Zf, Zd, ↓reduceIte, Nat.reduceEqDiff]
 refine Ze [] [] ?_
 simp only [push_cast, seval, ↓reduceIte]
 refine Zk [4] (Zb Zc [] ?_)
 simp only [push_cast, seval, ↓reduceIte, Za, hN0, hN]
 refine Z6 ?_
 try simp only [Zf, Zd]
 have h := Option.some.inj h; subst h
 refine Zo (.inr rfl) hU [.val (.bool true)] (by omega) ?_
 simp only [push_cast, seval, ↓reduceIte, Za, Try.results58, hN0, hN]
theorem Jt {a0 : (List (List Int))} {a1 : (List (List Int))} {r : Bool} {O : Objs} {n : Nat} (h : Y0 a0 a1 = some r) : GTo Try.prog 20 [.sl a0.length (fl (eL (eI .u64)) a0), .sl a1.length (fl (eL (eI .u64)) a1)] O n (.val (.bool r)) O n := by
 unfold Y0 at h
 refine Ql Zc Try.call20 Try.func20 rfl (Nat.le_of_ble_eq_true rfl) (Nat.le_refl _) fun hU => ?_
 have hN0 : O n = none := hU.fresh _ (Nat.le_refl _)
 have hN : ∀ k, O (n + k) = none := fun k => hU.fresh _ (Nat.le_add_right _ _)
 show W _ _ _ _ ⟨27, [], [(0, .sl a0.length (fl (eL (eI .u64)) a0)), (1, .sl a1.length (fl (eL (eI .u64)) a1))]⟩ (Zm O n []) _
 refine Zk [0, 1] (Zb Zc [] ?_)
 simp only [push_cast, seval, ↓reduceIte, Za, hN0, hN]
 refine Zg ?_
 refine Zk [0, 1, 10] (Zb Zc [] ?_)
 simp only [push_cast, seval, ↓reduceIte, Za, hN0, hN]
 refine Zs (t := ((a0.length : Int) != (a1.length : Int))) rfl (fun c10 => ?_) (fun c10 => ?_)
 ·replace h := Zx c10 h
  refine Zk [4] (Zb Zc [] ?_)
  simp only [push_cast, seval, ↓reduceIte, Za, hN0, hN]
  refine Z6 ?_
  try simp only [Zf, Zd]
  have h := Option.some.inj h; subst h
  refine Zo (.inr rfl) hU [.val (.bool false)] (by omega) ?_
  simp only [push_cast, seval, ↓reduceIte, Za, Try.results20, hN0, hN]
 replace h := Zw c10 h
 refine Zt ?_
 try simp only [Zf, Zd]
 refine Ze [0, 1] [] ?_
 simp only [push_cast, seval, ↓reduceIte]
 refine Zg ?_
 refine Zk [0, 1, 5] (Zb Zc [] ?_)
 simp only [push_cast, seval, ↓reduceIte, Za, hN0, hN]
 refine Ze [0, 1, 5] [] ?_
 simp only [push_cast, seval, ↓reduceIte]
 obtain ⟨z9, hz9, h⟩ := bC h
 refine Kt (J := (X5 (fun z9 => JR n (⟨27, [], [(4, .val (.bool false))]⟩ : Env) (Zm O n []) n) (fun z9 => JX 0 n (⟨27, [], []⟩ : Env) (Zm O n []) n))) (z := z9) ?_ fun hw => ?_
 ·refine Ys hz9 (fun s0_ => ⟨27, [], [(0, .sl a0.length (fl (eL (eI .u64)) a0)), (1, .sl a1.length (fl (eL (eI .u64)) a1)), (5, .val (.int .i64 s0_))]⟩) (fun s0_ => (Zm O n [])) (X5 (fun z9 => JR n (⟨27, [], [(4, .val (.bool false))]⟩ : Env) (Zm O n []) n) (fun z9 => JX 0 n (⟨27, [], []⟩ : Env) (Zm O n []) n)) ?_
  intro s0_ x0_ hs0_
  unfold Yv at hs0_
  try dsimp only
  refine Zg ?_
  refine Zk [0, 1, 5, 14] (Zb Zc [] ?_)
  simp only [push_cast, seval, ↓reduceIte, Za, hN0, hN]
  refine Zs (t := (decide (s0_ < (a0.length : Int)))) rfl (fun c8 => ?_) (fun c8 => ?_)
  ·replace hs0_ := Zx c8 hs0_
   refine Zt ?_
   try simp only [Zf, Zd]
   refine Ze [0, 1, 5] [] ?_
   simp only [push_cast, seval, ↓reduceIte]
   refine Zg ?_
   refine Yi ?_
   refine Zg ?_
   obtain ⟨x4, hx4, ax4, bx4, cx4, hs0_⟩ := bE (f := (eL (eI .u64))) Zcc (fun _ => rfl) (by decide) hs0_
   obtain ⟨x5, hx5, ax5, bx5, cx5, hs0_⟩ := bE (f := (eL (eI .u64))) Zcc (fun _ => rfl) (by decide) hs0_
   obtain ⟨y6, hy6, hs0_⟩ := bC hs0_
   refine Zas Zc (by kernel_rfl) [] (by kernel_rfl) ?_
   simp only [push_cast, Nat.reduceAdd, Nat.reduceSub, Nat.reduceMul, Nat.reduceLeDiff, Nat.reduceLT, Nat.reduceEqDiff, ↓reduceIte, reduceCtorEq, Int.reduceBEq, Int.reduceBNe, Nat.reduceBEq, Int.reduceLE, Int.reduceLT, Int.reduceEq, Int.reduceNe, Int.reduceNeg, Nat.reduceDiv, Nat.reduceMod, Nat.reducePow, Za, ax4, bx4, cx4, ax5, bx5, cx5, hN0, hN]
   refine PCall.of (Uc hy6) ?_
   simp only [push_cast, Nat.reduceAdd, Nat.reduceSub, Nat.reduceMul, Nat.reduceLeDiff, Nat.reduceLT, Nat.reduceEqDiff, ↓reduceIte, reduceCtorEq, Int.reduceBEq, Int.reduceBNe, Nat.reduceBEq, Int.reduceLE, Int.reduceLT, Int.reduceEq, Int.reduceNe, Int.reduceNeg, Nat.reduceDiv, Nat.reduceMod, Nat.reducePow, Za, ax4, bx4, cx4, ax5, bx5, cx5, hN0, hN]
   refine Ze [0, 1, 5, 26] [] ?_
   simp only [push_cast, seval, ↓reduceIte]
   refine Zs (t := (!y6)) rfl (fun c7 => ?_) (fun c7 => ?_)
   ·replace hs0_ := Zx c7 hs0_
    refine Zk [4] (Zb Zc [] ?_)
    simp only [push_cast, seval, ↓reduceIte, Za, hN0, hN]
    refine Z6 ?_
    try simp only [Zf, Zd]
    have hs0_ := Option.some.inj hs0_; subst hs0_
    refine And.intro (fun h => by cases h) (And.intro rfl (Fit2.of (Zh hU rfl rfl ?_) (by omega)))
    simp only [push_cast, seval, ↓reduceIte, Za, hN0, hN]
   replace hs0_ := Zw c7 hs0_
   refine Zt ?_
   try simp only [Zf, Zd]
   refine Ze [0, 1, 5] [] ?_
   simp only [push_cast, seval, ↓reduceIte]
   refine Zb Zc [] ?_
   simp only [push_cast, seval, ↓reduceIte, Za, hN0, hN]
   have hs0_ := Option.some.inj hs0_; subst hs0_
   refine And.intro rfl (Fit2.of (Zh hU rfl rfl ?_) (by omega))
   simp only [push_cast, seval, ↓reduceIte, Za, hN0, hN]
  replace hs0_ := Zw c8 hs0_
  refine Xo ?_
  try simp only [Zf, Zd, ↓reduceIte, Nat.reduceEqDiff]
  have hs0_ := Option.some.inj hs0_; subst hs0_
  refine And.intro (fun h => by cases h) (And.intro rfl (Fit2.of (Zh hU rfl rfl ?_) (by omega)))
  simp only [push_cast, seval, ↓reduceIte, Za, hN0, hN]
 rcases z9 with z9 | z9
 ·dsimp only [X5] at hw h
  refine Qr hw ?_
  try simp only [Zf, Zd, ↓reduceIte, Nat.reduceEqDiff]
  have h := Option.some.inj h; subst h
  refine Zo (.inr rfl) hU [.val (.bool false)] (by omega) ?_
  simp only [push_cast, seval, ↓reduceIte, Za, Try.results20, hN0, hN]
 dsimp only [X5] at hw h
 refine Yc hw ?_
 try simp only [Zf, Zd, ↓reduceIte, Nat.reduceEqDiff]
 refine Ze [] [] ?_
 simp only [push_cast, seval, ↓reduceIte]
 refine Zk [4] (Zb Zc [] ?_)
 simp only [push_cast, seval, ↓reduceIte, Za, hN0, hN]
 refine Z6 ?_
 try simp only [Zf, Zd]
 have h := Option.some.inj h; subst h
 refine Zo (.inr rfl) hU [.val (.bool true)] (by omega) ?_
 simp only [push_cast, seval, ↓reduceIte, Za, Try.results20, hN0, hN]
theorem Ud {a0 : (List (List Int))} {r : Bool} {O : Objs} {n : Nat} (h : Xl a0 = some r) : GTo Try.prog 50 [.sl a0.length (fl (eL (eI .u64)) a0)] O n (.val (.bool r)) O n := by
 unfold Xl at h
 refine Ql Zc Try.call50 Try.func50 rfl (Nat.le_of_ble_eq_true rfl) (Nat.le_refl _) fun hU => ?_
 have hN0 : O n = none := hU.fresh _ (Nat.le_refl _)
 have hN : ∀ k, O (n + k) = none := fun k => hU.fresh _ (Nat.le_add_right _ _)
 show W _ _ _ _ ⟨23, [], [(0, .sl a0.length (fl (eL (eI .u64)) a0))]⟩ (Zm O n []) _
 refine Zk [0] (Zb Zc [] ?_)
 simp only [push_cast, seval, ↓reduceIte, Za, hN0, hN]
 refine Zg ?_
 refine Zk [0, 12] (Zb Zc [none, none, none] ?_)
 simp only [push_cast, seval, ↓reduceIte, Za, hN0, hN]
 repeat (with_reducible refine And.intro (by first | (intro h0; simp only [h0, and_self]; done) | (intro h0; simp only [h0, Bool.not_false, Bool.not_true, Bool.true_and, Bool.and_true, true_and, and_true, and_self, imp_self, implies_true, bne_iff_ne, ne_eq, beq_iff_eq]; done) | (intros; simp_all; done) | exact True.intro) ?_)
 refine Zs (t := (cond (decide ((a0.length : Int) < 1)) true (decide (16 < (a0.length : Int))))) rfl (fun c6 => ?_) (fun c6 => ?_)
 ·replace h := Zx c6 h
  refine Zk [2] (Zb Zc [] ?_)
  simp only [push_cast, seval, ↓reduceIte, Za, hN0, hN]
  refine Z6 ?_
  try simp only [Zf, Zd]
  have h := Option.some.inj h; subst h
  refine Zo (.inr rfl) hU [.val (.bool false)] (by omega) ?_
  simp only [push_cast, seval, ↓reduceIte, Za, Try.results50, hN0, hN]
 replace h := Zw c6 h
 refine Zt ?_
 try simp only [Zf, Zd]
 refine Ze [0] [] ?_
 simp only [push_cast, seval, ↓reduceIte]
 refine Zg ?_
 refine Zk [13, 14, 15] (Zb Zc [] ?_)
 simp only [push_cast, seval, ↓reduceIte, Za, hN0, hN]
 refine Ze [13, 14, 15] [] ?_
 simp only [push_cast, seval, ↓reduceIte]
 obtain ⟨z5, hz5, h⟩ := bC h
 refine Kt (J := (X5 (fun z5 => JR n (⟨23, [], [(2, .val (.bool false))]⟩ : Env) (Zm O n []) n) (fun z5 => JX 0 n (⟨23, [], []⟩ : Env) (Zm O n []) n))) (z := z5) ?_ fun hw => ?_
 ·refine Ys hz5 (fun s0_ => ⟨23, [], [(13, .sl a0.length (fl (eL (eI .u64)) a0)), (14, .val (.int .i64 (a0.length : Int))), (15, .val (.int .i64 s0_))]⟩) (fun s0_ => (Zm O n [])) (X5 (fun z5 => JR n (⟨23, [], [(2, .val (.bool false))]⟩ : Env) (Zm O n []) n) (fun z5 => JX 0 n (⟨23, [], []⟩ : Env) (Zm O n []) n)) ?_
  intro s0_ x0_ hs0_
  unfold Yx at hs0_
  try dsimp only
  refine Zk [13, 14, 15, 16] (Zb Zc [] ?_)
  simp only [push_cast, seval, ↓reduceIte, Za, hN0, hN]
  refine Zg ?_
  refine Zs (t := (decide (s0_ < (a0.length : Int)))) rfl (fun c4 => ?_) (fun c4 => ?_)
  ·replace hs0_ := Zx c4 hs0_
   refine Zt ?_
   try simp only [Zf, Zd]
   refine Ze [13, 14, 15] [] ?_
   simp only [push_cast, seval, ↓reduceIte]
   refine Zg ?_
   refine Yi ?_
   obtain ⟨x2, hx2, ax2, bx2, cx2, hs0_⟩ := bE (f := (eL (eI .u64))) Zcc (fun _ => rfl) (by decide) hs0_
   refine Zk [4, 13, 14, 15] (Zb Zc [] ?_)
   simp only [push_cast, Nat.reduceAdd, Nat.reduceSub, Nat.reduceMul, Nat.reduceLeDiff, Nat.reduceLT, Nat.reduceEqDiff, ↓reduceIte, reduceCtorEq, Int.reduceBEq, Int.reduceBNe, Nat.reduceBEq, Int.reduceLE, Int.reduceLT, Int.reduceEq, Int.reduceNe, Int.reduceNeg, Nat.reduceDiv, Nat.reduceMod, Nat.reducePow, Za, ax2, bx2, cx2, hN0, hN]
   refine Zk [13, 14, 15, 21] (Zb Zc [] ?_)
   simp only [push_cast, seval, ↓reduceIte, Za, hN0, hN]
   refine Zs (t := (decide (65536 < (x2.length : Int)))) rfl (fun c3 => ?_) (fun c3 => ?_)
   ·replace hs0_ := Zx c3 hs0_
    refine Zk [2] (Zb Zc [] ?_)
    simp only [push_cast, seval, ↓reduceIte, Za, hN0, hN]
    refine Z6 ?_
    try simp only [Zf, Zd]
    have hs0_ := Option.some.inj hs0_; subst hs0_
    refine And.intro (fun h => by cases h) (And.intro rfl (Fit2.of (Zh hU rfl rfl ?_) (by omega)))
    simp only [push_cast, seval, ↓reduceIte, Za, hN0, hN]
   replace hs0_ := Zw c3 hs0_
   refine Zt ?_
   try simp only [Zf, Zd]
   refine Ze [13, 14, 15] [] ?_
   simp only [push_cast, seval, ↓reduceIte]
   refine Zb Zc [] ?_
   simp only [push_cast, seval, ↓reduceIte, Za, hN0, hN]
   have hs0_ := Option.some.inj hs0_; subst hs0_
   refine And.intro rfl (Fit2.of (Zh hU rfl rfl ?_) (by omega))
   simp only [push_cast, seval, ↓reduceIte, Za, hN0, hN]
  replace hs0_ := Zw c4 hs0_
  refine Xo ?_
  try simp only [Zf, Zd, ↓reduceIte, Nat.reduceEqDiff]
  have hs0_ := Option.some.inj hs0_; subst hs0_
  refine And.intro (fun h => by cases h) (And.intro rfl (Fit2.of (Zh hU rfl rfl ?_) (by omega)))
  simp only [push_cast, seval, ↓reduceIte, Za, hN0, hN]
 rcases z5 with z5 | z5
 ·dsimp only [X5] at hw h
  refine Qr hw ?_
  try simp only [Zf, Zd, ↓reduceIte, Nat.reduceEqDiff]
  have h := Option.some.inj h; subst h
  refine Zo (.inr rfl) hU [.val (.bool false)] (by omega) ?_
  simp only [push_cast, seval, ↓reduceIte, Za, Try.results50, hN0, hN]
 dsimp only [X5] at hw h
 refine Yc hw ?_
 try simp only [Zf, Zd, ↓reduceIte, Nat.reduceEqDiff]
 refine Ze [] [] ?_
 simp only [push_cast, seval, ↓reduceIte]
 refine Zk [2] (Zb Zc [] ?_)
 simp only [push_cast, seval, ↓reduceIte, Za, hN0, hN]
 refine Z6 ?_
 try simp only [Zf, Zd]
 have h := Option.some.inj h; subst h
 refine Zo (.inr rfl) hU [.val (.bool true)] (by omega) ?_
 simp only [push_cast, seval, ↓reduceIte, Za, Try.results50, hN0, hN]
theorem K3 {a0 : (List Int)} {a1 : Int} {r : (List Int)} {O : Objs} {n i : Nat} (hi : i < n) (ho : O i = some ⟨true, 5, 1, a0.length, fl (eI .u8) a0⟩) (h : Yy a0 a1 = some r) : GTo Try.prog 51 [.row i a0.length, .val (.int .i64 a1)] O n (.row i r.length) (O.upd i (some ⟨true, 5, 1, r.length, fl (eI .u8) r⟩)) n := by
 unfold Yy at h
 refine Zon Zc Try.call51 Try.func51 rfl (Nat.le_of_ble_eq_true rfl) hi ho fun hU => ?_
 have hj : ∀ k, i < n + k := fun k => by omega
 have hN0 : ∀ o, O.upd i o n = none := fun o => Gs hU hi _ (Nat.le_refl _)
 have hN : ∀ o k, O.upd i o (n + k) = none := fun o k => Gs hU hi _ (Nat.le_add_right _ _)
 show W _ _ _ _ ⟨19, [], [(0, .row i a0.length), (1, .val (.int .i64 a1))]⟩ (Zm (O.upd i (some ⟨true, 5, 1, a0.length, fl (eI .u8) a0⟩)) n []) _
 refine Zk [0, 1] (Zb Zc [] ?_)
 simp only [push_cast, seval, ↓reduceIte, Za, hi, hj, hN0, hN]
 refine Zg ?_
 obtain ⟨l2, pl2, ql2, el2, h⟩ := bA (k := 4) rfl h
 refine Zb Zc [] ?_
 simp only [push_cast, seval, ↓reduceIte, Za, pl2, ql2, el2, hi, hj, hN0, hN]
 refine Gt ⟨19, [], [(4, .row i l2.length)]⟩ (Zm (O.upd i (some ⟨true, 5, 1, l2.length, fl (eI .u8) l2⟩)) n [none]) (Zla hU rfl rfl ?_) ?_
 ·simp only [push_cast, seval, ↓reduceIte, Za, pl2, ql2, el2, hi, hj, hN0, hN]
 refine Z6 ?_
 try simp only [Zf, Zd]
 have h := Option.some.inj h; subst h
 refine Zk9 (.inr rfl) hU hi [.row i l2.length] (by omega) ?_
 simp only [push_cast, seval, ↓reduceIte, Za, Try.results51, hi, hj, hN0, hN]
theorem Zcu {a0 : Int} {r : (Arr Int 8)} {O : Objs} {n : Nat} (h : Xw a0 = some r) : GTo Try.prog 80 [.val (.int .u64 a0)] O n (.agg (fl (eI .u8) r.1)) O n := by
 unfold Xw at h
 refine Ql Zc Try.call80 Try.func80 rfl (Nat.le_of_ble_eq_true rfl) (Nat.le_refl _) fun hU => ?_
 have hN0 : O n = none := hU.fresh _ (Nat.le_refl _)
 have hN : ∀ k, O (n + k) = none := fun k => hU.fresh _ (Nat.le_add_right _ _)
 show W _ _ _ _ ⟨17, [], [(0, .val (.int .u64 a0))]⟩ (Zm O n []) _
 obtain ⟨y3, hy3, ey3, h⟩ := bY (f := (eI .u8)) (cs := [.val (.int .u8 0), .val (.int .u8 0), .val (.int .u8 0), .val (.int .u8 0), .val (.int .u8 0), .val (.int .u8 0), .val (.int .u8 0), .val (.int .u8 0)]) rfl h
 have g4 := congrArg (GObj.mk false 114 8 1) ey3
 refine Zk [0, 2] (Zb Zc [] ?_)
 simp only [push_cast, seval, ↓reduceIte, Za, g4, hN0, hN]
 obtain ⟨y7, hy7, ey7, h⟩ := bY (f := (eI .u8)) (cs := [.val (.int .u8 0), .val (.int .u8 0), .val (.int .u8 0), .val (.int .u8 0), .val (.int .u8 0), .val (.int .u8 0), .val (.int .u8 0), .val (.int .u8 0)]) rfl h
 have g8 := congrArg (GObj.mk false 114 8 1) ey7
 refine Zk [0, 2, 3] (Zb Zc [] ?_)
 simp only [push_cast, seval, ↓reduceIte, Za, g8, hN0, hN]
 refine Zg ?_
 refine Zk [0, 2, 3, 5] (Zb Zc [] ?_)
 simp only [push_cast, seval, ↓reduceIte, Za, hN0, hN]
 refine Ze [0, 2, 3, 5] [true, true] ?_
 simp only [push_cast, seval, ↓reduceIte]
 obtain ⟨z13, hz13, h⟩ := bC h
 refine Yc (E' := ⟨17, [], [(2, .ref n 0), (3, .ref (n + 1) 0)]⟩) (O' := (Zm O n [some ⟨false, 114, 8, 1, fl (eI .u8) y3.1⟩, some ⟨false, 114, 8, 1, fl (eI .u8) z13.1⟩])) (n0 := (n + 2)) ?_ ?_
 ·refine Ys hz13 (fun s0_ => ⟨17, [], [(0, .val (.int .u64 a0)), (2, .ref n 0), (3, .ref (n + 1) 0), (5, .val (.int .i64 s0_.1))]⟩) (fun s0_ => (Zm O n [some ⟨false, 114, 8, 1, fl (eI .u8) y3.1⟩, some ⟨false, 114, 8, 1, fl (eI .u8) s0_.2.1⟩])) (fun z13 => JX 0 n (⟨17, [], [(2, .ref n 0), (3, .ref (n + 1) 0)]⟩ : Env) (Zm O n [some ⟨false, 114, 8, 1, fl (eI .u8) y3.1⟩, some ⟨false, 114, 8, 1, fl (eI .u8) z13.1⟩]) (n + 2)) ?_
  intro s0_ x0_ hs0_
  unfold Xh at hs0_
  try dsimp only
  refine Zk [0, 2, 3, 5, 6] (Zb Zc [] ?_)
  simp only [push_cast, seval, ↓reduceIte, Za, hN0, hN]
  refine Zg ?_
  refine Zs (t := (decide (s0_.1 < 8))) rfl (fun c12 => ?_) (fun c12 => ?_)
  ·replace hs0_ := Zx c12 hs0_
   refine Zt ?_
   try simp only [Zf, Zd]
   refine Ze [0, 2, 3, 5] [true, true] ?_
   simp only [push_cast, seval, ↓reduceIte]
   refine Zg ?_
   refine Yi ?_
   refine Zk [0, 2, 3, 4, 5] (Zb Zc [] ?_)
   simp only [push_cast, seval, ↓reduceIte, Za, hN0, hN]
   obtain ⟨pu9, hs0_⟩ := bG hs0_
   obtain ⟨x10, hx10, ax10, bx10, cx10, hs0_⟩ := bEA (f := (eI .u8)) (b := 8) rfl J0 (fun _ => rfl) (by decide) hs0_
   have gu11 : Qg (fl (eI .u8) s0_.2.1) [.val (.int .u8 (IntKind.u8.wrap (Int.fdiv a0 (2 ^ min (Int.toNat (IntKind.i64.wrap (8 * s0_.1))) 64))))] (Int.toNat s0_.1 * 1) = some (fl (eI .u8) (Zcx s0_.2.1 s0_.1 (IntKind.u8.wrap (Int.fdiv a0 (2 ^ min (Int.toNat (IntKind.i64.wrap (8 * s0_.1))) 64))))) := Zdh (f := (eI .u8)) (ti := ⟨.bool, 1, 0, [], false⟩) (x := (IntKind.u8.wrap (Int.fdiv a0 (2 ^ min (Int.toNat (IntKind.i64.wrap (8 * s0_.1))) 64)))) (fun _ => rfl) (Uq hx10)
   refine Zb Zc [] ?_
   simp only [push_cast, Nat.reduceAdd, Nat.reduceSub, Nat.reduceMul, Nat.reduceLeDiff, Nat.reduceLT, Nat.reduceEqDiff, ↓reduceIte, reduceCtorEq, Int.reduceBEq, Int.reduceBNe, Nat.reduceBEq, Int.reduceLE, Int.reduceLT, Int.reduceEq, Int.reduceNe, Int.reduceNeg, Nat.reduceDiv, Nat.reduceMod, Nat.reducePow, Za, pu9, ax10, bx10, cx10, gu11, hN0, hN]
   refine Ze [0, 2, 3, 5] [true, true] ?_
   simp only [push_cast, seval, ↓reduceIte]
   refine Zb Zc [] ?_
   simp only [push_cast, seval, ↓reduceIte, Za, hN0, hN]
   have hs0_ := Option.some.inj hs0_; subst hs0_
   refine And.intro rfl (Fit2.of (Zh hU rfl rfl ?_) (by omega))
   simp only [push_cast, seval, ↓reduceIte, Za, hN0, hN]
  replace hs0_ := Zw c12 hs0_
  refine Xo ?_
  try simp only [Zf, Zd, ↓reduceIte, Nat.reduceEqDiff]
  have hs0_ := Option.some.inj hs0_; subst hs0_
  refine And.intro (fun h => by cases h) (And.intro rfl (Fit2.of (Zh hU rfl rfl ?_) (by omega)))
  simp only [push_cast, seval, ↓reduceIte, Za, hN0, hN]
 try simp only [Zf, Zd, ↓reduceIte, Nat.reduceEqDiff]
 refine Ze [2, 3] [true, true] ?_
 simp only [push_cast, seval, ↓reduceIte]
 refine Zg ?_
 have g16 := Gf (f := (eI .u8)) z13 Zcb rfl (fun _ => rfl) rfl
 have g17 := Zbi (f := (eI .u8)) y3 z13 (fun _ => rfl)
 refine Zb Zc [] ?_
 simp only [push_cast, seval, ↓reduceIte, Za, g16, g17, hN0, hN]
 refine Ze [2] [true, false] ?_
 simp only [push_cast, seval, ↓reduceIte]
 refine Z6 ?_
 try simp only [Zf, Zd]
 have h := Option.some.inj h; subst h
 have gR0 := Gf (f := (eI .u8)) z13 Zcb rfl (fun _ => rfl) rfl
 refine Zo (.inr rfl) hU [.agg (fl (eI .u8) z13.1)] (by omega) ?_
 simp only [push_cast, seval, ↓reduceIte, Za, Try.results80, hN0, hN, gR0]
theorem Zew {a0 : (List Int)} {r : (List Int)} {O : Objs} {n : Nat} (h : X7 a0 = some r) : GTo Try.prog 53 [.sl a0.length (fl (eI .u64) a0)] O n (.sl r.length (fl (eI .u8) r)) O n := by
 unfold X7 at h
 refine Ql Zc Try.call53 Try.func53 rfl (Nat.le_of_ble_eq_true rfl) (Nat.le_refl _) fun hU => ?_
 have hN0 : O n = none := hU.fresh _ (Nat.le_refl _)
 have hN : ∀ k, O (n + k) = none := fun k => hU.fresh _ (Nat.le_add_right _ _)
 show W _ _ _ _ ⟨24, [], [(0, .sl a0.length (fl (eI .u64) a0))]⟩ (Zm O n []) _
 refine Zk [0] (Zb Zc [] ?_)
 simp only [push_cast, seval, ↓reduceIte, Za, hN0, hN]
 refine Zg ?_
 obtain ⟨l2, al2, bl2, cl2, el2, h⟩ := bM2 (c := 1) rfl h
 have tl2 : Int.toNat 0 = 0 := rfl
 refine Zb Zc [] ?_
 simp only [push_cast, seval, ↓reduceIte, Za, al2, bl2, cl2, tl2, hN0, hN]
 refine Ze [0, 3] [true] ?_
 simp only [push_cast, seval, ↓reduceIte]
 refine Zg ?_
 refine Zk [3, 11, 12, 13] (Zb Zc [] ?_)
 simp only [push_cast, seval, ↓reduceIte, Za, hN0, hN]
 refine Ze [3, 11, 12, 13] [true] ?_
 simp only [push_cast, seval, ↓reduceIte]
 obtain ⟨z17, hz17, h⟩ := bC h
 refine Yc (E' := ⟨24, [], [(3, .row n z17.length)]⟩) (O' := (Zm O n [some ⟨true, 5, 1, z17.length, fl (eI .u8) z17⟩])) (n0 := (n + 1)) ?_ ?_
 ·refine Ys hz17 (fun s0_ => ⟨24, [], [(3, .row n s0_.2.length), (11, .sl a0.length (fl (eI .u64) a0)), (12, .val (.int .i64 (a0.length : Int))), (13, .val (.int .i64 s0_.1))]⟩) (fun s0_ => (Zm O n [some ⟨true, 5, 1, s0_.2.length, fl (eI .u8) s0_.2⟩])) (fun z17 => JX 0 n (⟨24, [], [(3, .row n z17.length)]⟩ : Env) (Zm O n [some ⟨true, 5, 1, z17.length, fl (eI .u8) z17⟩]) (n + 1)) ?_
  intro s0_ x0_ hs0_
  unfold X8 at hs0_
  try dsimp only
  refine Zk [3, 11, 12, 13, 14] (Zb Zc [] ?_)
  simp only [push_cast, seval, ↓reduceIte, Za, hN0, hN]
  refine Zg ?_
  refine Zs (t := (decide (s0_.1 < (a0.length : Int)))) rfl (fun c16 => ?_) (fun c16 => ?_)
  ·replace hs0_ := Zx c16 hs0_
   refine Zt ?_
   try simp only [Zf, Zd]
   refine Ze [3, 11, 12, 13] [true] ?_
   simp only [push_cast, seval, ↓reduceIte]
   refine Zg ?_
   refine Yi ?_
   obtain ⟨x4, hx4, ax4, bx4, cx4, hs0_⟩ := bE (f := (eI .u64)) Zd7 (fun _ => rfl) (by decide) hs0_
   refine Zk [3, 5, 11, 12, 13] (Zb Zc [] ?_)
   simp only [push_cast, Nat.reduceAdd, Nat.reduceSub, Nat.reduceMul, Nat.reduceLeDiff, Nat.reduceLT, Nat.reduceEqDiff, ↓reduceIte, reduceCtorEq, Int.reduceBEq, Int.reduceBNe, Nat.reduceBEq, Int.reduceLE, Int.reduceLT, Int.reduceEq, Int.reduceNe, Int.reduceNeg, Nat.reduceDiv, Nat.reduceMod, Nat.reducePow, Za, ax4, bx4, cx4, hN0, hN]
   refine Zg ?_
   obtain ⟨y9, hy9, hs0_⟩ := bC hs0_
   obtain ⟨y10, hy10, ey10, hs0_⟩ := bY (f := (eI .u8)) (cs := [.val (.int .u8 0), .val (.int .u8 0), .val (.int .u8 0), .val (.int .u8 0), .val (.int .u8 0), .val (.int .u8 0), .val (.int .u8 0), .val (.int .u8 0)]) rfl hs0_
   have g11 := congrArg (GObj.mk false 114 8 1) ey10
   have g12 := Zbi (f := (eI .u8)) y10 y9 (fun _ => rfl)
   refine Zb Zc [] ?_
   simp only [push_cast, seval, ↓reduceIte, Za, g11, g12, hN0, hN]
   refine (Zcu hy9).then ?_
   simp only [push_cast, seval, ↓reduceIte, Za, g11, g12, hN0, hN]
   refine Ze [3, 6, 11, 12, 13] [true, true] ?_
   simp only [push_cast, seval, ↓reduceIte]
   have g13 := Zbl (j := (n + 1)) U2 J0 (by decide)
   have g14 := Zgz (f := (eI .u8)) y9 (fun _ => rfl) 8 rfl
   obtain ⟨l15, pl15, ql15, el15, hs0_⟩ := bA (k := 8) y9.2 hs0_
   refine Zb Zc [] ?_
   simp only [push_cast, seval, ↓reduceIte, Za, g13, g14, pl15, ql15, el15, hN0, hN]
   refine Gt ⟨24, [], [(3, .row n l15.length), (11, .sl a0.length (fl (eI .u64) a0)), (12, .val (.int .i64 (a0.length : Int))), (13, .val (.int .i64 s0_.1))]⟩ (Zm O n [some ⟨true, 5, 1, l15.length, fl (eI .u8) l15⟩, none]) (Zh hU rfl rfl ?_) ?_
   ·simp only [push_cast, seval, ↓reduceIte, Za, g13, g14, pl15, ql15, el15, hN0, hN]
   refine Zb Zc [] ?_
   simp only [push_cast, seval, ↓reduceIte, Za, hN0, hN]
   have hs0_ := Option.some.inj hs0_; subst hs0_
   refine And.intro rfl (Fit2.of (Zh hU rfl rfl ?_) (by omega))
   simp only [push_cast, seval, ↓reduceIte, Za, hN0, hN]
  replace hs0_ := Zw c16 hs0_
  refine Xo ?_
  try simp only [Zf, Zd, ↓reduceIte, Nat.reduceEqDiff]
  have hs0_ := Option.some.inj hs0_; subst hs0_
  refine And.intro (fun h => by cases h) (And.intro rfl (Fit2.of (Zh hU rfl rfl ?_) (by omega)))
  simp only [push_cast, seval, ↓reduceIte, Za, hN0, hN]
 try simp only [Zf, Zd, ↓reduceIte, Nat.reduceEqDiff]
 refine Ze [3] [true] ?_
 simp only [push_cast, seval, ↓reduceIte]
 refine Zk [2] (Zb Zc [] ?_)
 simp only [push_cast, seval, ↓reduceIte, Za, hN0, hN]
 refine Z6 ?_
 try simp only [Zf, Zd]
 have h := Option.some.inj h; subst h
 refine Zo (.inr rfl) hU [.row n z17.length] (by omega) ?_
 simp only [push_cast, seval, ↓reduceIte, Za, Try.results53, hN0, hN]
theorem K8 {a0 : (List (List Int))} {r : ((List Int) × Bool)} {O : Objs} {n : Nat} (h : Xq a0 = some r) : GTo Try.prog 15 [.sl a0.length (fl (eL (eI .u64)) a0)] O n (.tup [.sl r.1.length (fl (eI .u8) r.1), .val (.bool r.2)]) O n := by
 unfold Xq at h
 refine Ql Zc Try.call15 Try.func15 rfl (Nat.le_of_ble_eq_true rfl) (Nat.le_refl _) fun hU => ?_
 have hN0 : O n = none := hU.fresh _ (Nat.le_refl _)
 have hN : ∀ k, O (n + k) = none := fun k => hU.fresh _ (Nat.le_add_right _ _)
 show W _ _ _ _ ⟨48, [], [(0, .sl a0.length (fl (eL (eI .u64)) a0))]⟩ (Zm O n []) _
 refine Zk [0] (Zb Zc [] ?_)
 simp only [push_cast, seval, ↓reduceIte, Za, hN0, hN]
 refine Zg ?_
 refine Zg ?_
 obtain ⟨y2, hy2, h⟩ := bC h
 refine Zb Zc [] ?_
 simp only [push_cast, seval, ↓reduceIte, Za, hN0, hN]
 refine (Ud hy2).then ?_
 simp only [push_cast, seval, ↓reduceIte, Za, hN0, hN]
 refine Ze [0, 11] [] ?_
 simp only [push_cast, seval, ↓reduceIte]
 refine Zs (t := (!y2)) rfl (fun c21 => ?_) (fun c21 => ?_)
 ·replace h := Zx c21 h
  refine Zk [2, 3] (Zb Zc [] ?_)
  simp only [push_cast, seval, ↓reduceIte, Za, hN0, hN]
  refine Z6 ?_
  try simp only [Zf, Zd]
  have h := Option.some.inj h; subst h
  refine Zo (.inr rfl) hU [.val (.slice none 0 0), .val (.bool false)] (by omega) ?_
  simp only [push_cast, seval, ↓reduceIte, Za, Try.results15, hN0, hN]
 replace h := Zw c21 h
 refine Zt ?_
 try simp only [Zf, Zd]
 refine Ze [0] [] ?_
 simp only [push_cast, seval, ↓reduceIte]
 refine Zg ?_
 obtain ⟨y4, hy4, h⟩ := bC h
 refine Zb Zc [] ?_
 simp only [push_cast, seval, ↓reduceIte, Za, hN0, hN]
 refine GCalls.adopt (pre := []) 5 1 ?_
 simp only [push_cast, seval, ↓reduceIte, Za, List.append_eq, List.cons_append, List.nil_append, hN0, hN]
 refine (K3 (i := _) (by omega) (by simp only [push_cast, seval, ↓reduceIte, Za, Zeg, hN0, hN] <;> rfl) hy4).then ?_
 simp only [push_cast, seval, ↓reduceIte, Za, hN0, hN]
 refine Ze [0, 4] [true] ?_
 simp only [push_cast, seval, ↓reduceIte]
 refine Zg ?_
 refine Zk [0, 4, 16, 17, 18] (Zb Zc [] ?_)
 simp only [push_cast, seval, ↓reduceIte, Za, hN0, hN]
 refine Ze [0, 4, 16, 17, 18] [true] ?_
 simp only [push_cast, seval, ↓reduceIte]
 obtain ⟨z9, hz9, h⟩ := bC h
 refine Yc (E' := ⟨48, [], [(0, .sl a0.length (fl (eL (eI .u64)) a0)), (4, .row n z9.length)]⟩) (O' := (Zm O n [some ⟨true, 5, 1, z9.length, fl (eI .u8) z9⟩])) (n0 := (n + 1)) ?_ ?_
 ·refine Ys hz9 (fun s0_ => ⟨48, [], [(0, .sl a0.length (fl (eL (eI .u64)) a0)), (4, .row n s0_.2.length), (16, .sl a0.length (fl (eL (eI .u64)) a0)), (17, .val (.int .i64 (a0.length : Int))), (18, .val (.int .i64 s0_.1))]⟩) (fun s0_ => (Zm O n [some ⟨true, 5, 1, s0_.2.length, fl (eI .u8) s0_.2⟩])) (fun z9 => JX 0 n (⟨48, [], [(0, .sl a0.length (fl (eL (eI .u64)) a0)), (4, .row n z9.length)]⟩ : Env) (Zm O n [some ⟨true, 5, 1, z9.length, fl (eI .u8) z9⟩]) (n + 1)) ?_
  intro s0_ x0_ hs0_
  unfold Y8 at hs0_
  try dsimp only
  refine Zk [0, 4, 16, 17, 18, 19] (Zb Zc [] ?_)
  simp only [push_cast, seval, ↓reduceIte, Za, hN0, hN]
  refine Zg ?_
  refine Zs (t := (decide (s0_.1 < (a0.length : Int)))) rfl (fun c8 => ?_) (fun c8 => ?_)
  ·replace hs0_ := Zx c8 hs0_
   refine Zt ?_
   try simp only [Zf, Zd]
   refine Ze [0, 4, 16, 17, 18] [true] ?_
   simp only [push_cast, seval, ↓reduceIte]
   refine Zg ?_
   refine Yi ?_
   obtain ⟨x6, hx6, ax6, bx6, cx6, hs0_⟩ := bE (f := (eL (eI .u64))) Zcc (fun _ => rfl) (by decide) hs0_
   refine Zk [0, 4, 6, 16, 17, 18] (Zb Zc [] ?_)
   simp only [push_cast, Nat.reduceAdd, Nat.reduceSub, Nat.reduceMul, Nat.reduceLeDiff, Nat.reduceLT, Nat.reduceEqDiff, ↓reduceIte, reduceCtorEq, Int.reduceBEq, Int.reduceBNe, Nat.reduceBEq, Int.reduceLE, Int.reduceLT, Int.reduceEq, Int.reduceNe, Int.reduceNeg, Nat.reduceDiv, Nat.reduceMod, Nat.reducePow, Za, ax6, bx6, cx6, hN0, hN]
   obtain ⟨y7, hy7, hs0_⟩ := bC hs0_
   refine Zb Zc [] ?_
   simp only [push_cast, seval, ↓reduceIte, Za, hN0, hN]
   refine (K3 (i := _) (by omega) (by simp only [push_cast, seval, ↓reduceIte, Za, Zeg, hN0, hN] <;> rfl) hy7).then ?_
   simp only [push_cast, seval, ↓reduceIte, Za, hN0, hN]
   refine Ze [0, 4, 16, 17, 18] [true] ?_
   simp only [push_cast, seval, ↓reduceIte]
   refine Zb Zc [] ?_
   simp only [push_cast, seval, ↓reduceIte, Za, hN0, hN]
   have hs0_ := Option.some.inj hs0_; subst hs0_
   refine And.intro rfl (Fit2.of (Zh hU rfl rfl ?_) (by omega))
   simp only [push_cast, seval, ↓reduceIte, Za, hN0, hN]
  replace hs0_ := Zw c8 hs0_
  refine Xo ?_
  try simp only [Zf, Zd, ↓reduceIte, Nat.reduceEqDiff]
  have hs0_ := Option.some.inj hs0_; subst hs0_
  refine And.intro (fun h => by cases h) (And.intro rfl (Fit2.of (Zh hU rfl rfl ?_) (by omega)))
  simp only [push_cast, seval, ↓reduceIte, Za, hN0, hN]
 try simp only [Zf, Zd, ↓reduceIte, Nat.reduceEqDiff]
 refine Ze [0, 4] [true] ?_
 simp only [push_cast, seval, ↓reduceIte]
 refine Zg ?_
 refine Ze [0, 4] [true] ?_
 simp only [push_cast, seval, ↓reduceIte]
 obtain ⟨z14, hz14, h⟩ := bC h
 refine Yc (E' := ⟨48, [], [(0, .sl a0.length (fl (eL (eI .u64)) a0)), (4, .row n z14.length)]⟩) (O' := (Zm O n [some ⟨true, 5, 1, z14.length, fl (eI .u8) z14⟩])) (n0 := (n + 1)) ?_ ?_
 ·refine Ys hz14 (fun s1_ => ⟨48, [], [(0, .sl a0.length (fl (eL (eI .u64)) a0)), (4, .row n s1_.length)]⟩) (fun s1_ => (Zm O n [some ⟨true, 5, 1, s1_.length, fl (eI .u8) s1_⟩])) (fun z14 => JX 2 n (⟨48, [], [(0, .sl a0.length (fl (eL (eI .u64)) a0)), (4, .row n z14.length)]⟩ : Env) (Zm O n [some ⟨true, 5, 1, z14.length, fl (eI .u8) z14⟩]) (n + 1)) ?_
  intro s1_ x1_ hs1_
  unfold Qa at hs1_
  try dsimp only
  refine Zg ?_
  refine Zg ?_
  obtain ⟨y11, hy11, hs1_⟩ := bC hs1_
  refine Zb Zc [] ?_
  simp only [push_cast, seval, ↓reduceIte, Za, hN0, hN]
  refine (Qc hy11).then ?_
  simp only [push_cast, seval, ↓reduceIte, Za, hN0, hN]
  refine Ze [0, 4, 32] [true] ?_
  simp only [push_cast, seval, ↓reduceIte]
  refine Zs (t := (decide ((s1_.length : Int) < y11))) rfl (fun c13 => ?_) (fun c13 => ?_)
  ·replace hs1_ := Zx c13 hs1_
   refine Zt ?_
   try simp only [Zf, Zd]
   refine Ze [0, 4] [true] ?_
   simp only [push_cast, seval, ↓reduceIte]
   refine Yi ?_
   obtain ⟨l12, pl12, ql12, el12, hs1_⟩ := bA (k := 1) rfl hs1_
   refine Zb Zc [] ?_
   simp only [push_cast, seval, ↓reduceIte, Za, pl12, ql12, el12, hN0, hN]
   have hs1_ := Option.some.inj hs1_; subst hs1_
   refine And.intro rfl (Fit2.of (Zh hU rfl rfl ?_) (by omega))
   simp only [push_cast, seval, ↓reduceIte, Za, pl12, ql12, el12, hN0, hN]
  replace hs1_ := Zw c13 hs1_
  refine Xo ?_
  try simp only [Zf, Zd, ↓reduceIte, Nat.reduceEqDiff]
  have hs1_ := Option.some.inj hs1_; subst hs1_
  refine And.intro (fun h => by cases h) (And.intro rfl (Fit2.of (Zh hU rfl rfl ?_) (by omega)))
  simp only [push_cast, seval, ↓reduceIte, Za, hN0, hN]
 try simp only [Zf, Zd, ↓reduceIte, Nat.reduceEqDiff]
 refine Ze [0, 4] [true] ?_
 simp only [push_cast, seval, ↓reduceIte]
 refine Zg ?_
 refine Zk [4, 36, 37, 38] (Zb Zc [] ?_)
 simp only [push_cast, seval, ↓reduceIte, Za, hN0, hN]
 refine Ze [4, 36, 37, 38] [true] ?_
 simp only [push_cast, seval, ↓reduceIte]
 obtain ⟨z20, hz20, h⟩ := bC h
 refine Yc (E' := ⟨48, [], [(4, .row n z20.length)]⟩) (O' := (Zm O n [some ⟨true, 5, 1, z20.length, fl (eI .u8) z20⟩])) (n0 := (n + 1)) ?_ ?_
 ·refine Ys hz20 (fun s2_ => ⟨48, [], [(4, .row n s2_.2.length), (36, .sl a0.length (fl (eL (eI .u64)) a0)), (37, .val (.int .i64 (a0.length : Int))), (38, .val (.int .i64 s2_.1))]⟩) (fun s2_ => (Zm O n [some ⟨true, 5, 1, s2_.2.length, fl (eI .u8) s2_.2⟩])) (fun z20 => JX 4 n (⟨48, [], [(4, .row n z20.length)]⟩ : Env) (Zm O n [some ⟨true, 5, 1, z20.length, fl (eI .u8) z20⟩]) (n + 1)) ?_
  intro s2_ x2_ hs2_
  unfold Y9 at hs2_
  try dsimp only
  refine Zk [4, 36, 37, 38, 39] (Zb Zc [] ?_)
  simp only [push_cast, seval, ↓reduceIte, Za, hN0, hN]
  refine Zg ?_
  refine Zs (t := (decide (s2_.1 < (a0.length : Int)))) rfl (fun c19 => ?_) (fun c19 => ?_)
  ·replace hs2_ := Zx c19 hs2_
   refine Zt ?_
   try simp only [Zf, Zd]
   refine Ze [4, 36, 37, 38] [true] ?_
   simp only [push_cast, seval, ↓reduceIte]
   refine Zg ?_
   refine Yi ?_
   obtain ⟨x16, hx16, ax16, bx16, cx16, hs2_⟩ := bE (f := (eL (eI .u64))) Zcc (fun _ => rfl) (by decide) hs2_
   refine Zk [4, 8, 36, 37, 38] (Zb Zc [] ?_)
   simp only [push_cast, Nat.reduceAdd, Nat.reduceSub, Nat.reduceMul, Nat.reduceLeDiff, Nat.reduceLT, Nat.reduceEqDiff, ↓reduceIte, reduceCtorEq, Int.reduceBEq, Int.reduceBNe, Nat.reduceBEq, Int.reduceLE, Int.reduceLT, Int.reduceEq, Int.reduceNe, Int.reduceNeg, Nat.reduceDiv, Nat.reduceMod, Nat.reducePow, Za, ax16, bx16, cx16, hN0, hN]
   obtain ⟨y17, hy17, hs2_⟩ := bC hs2_
   obtain ⟨l18, pl18, ql18, el18, hs2_⟩ := bA (k := y17.length) rfl hs2_
   refine Zb Zc [] ?_
   simp only [push_cast, seval, ↓reduceIte, Za, pl18, ql18, el18, hN0, hN]
   refine (Zew hy17).then ?_
   simp only [push_cast, seval, ↓reduceIte, Za, pl18, ql18, el18, hN0, hN]
   refine Gt ⟨48, [], [(4, .row n l18.length), (36, .sl a0.length (fl (eL (eI .u64)) a0)), (37, .val (.int .i64 (a0.length : Int))), (38, .val (.int .i64 s2_.1))]⟩ (Zm O n [some ⟨true, 5, 1, l18.length, fl (eI .u8) l18⟩]) (Zh hU rfl rfl ?_) ?_
   ·simp only [push_cast, seval, ↓reduceIte, Za, pl18, ql18, el18, hN0, hN]
   refine Zb Zc [] ?_
   simp only [push_cast, seval, ↓reduceIte, Za, hN0, hN]
   have hs2_ := Option.some.inj hs2_; subst hs2_
   refine And.intro rfl (Fit2.of (Zh hU rfl rfl ?_) (by omega))
   simp only [push_cast, seval, ↓reduceIte, Za, hN0, hN]
  replace hs2_ := Zw c19 hs2_
  refine Xo ?_
  try simp only [Zf, Zd, ↓reduceIte, Nat.reduceEqDiff]
  have hs2_ := Option.some.inj hs2_; subst hs2_
  refine And.intro (fun h => by cases h) (And.intro rfl (Fit2.of (Zh hU rfl rfl ?_) (by omega)))
  simp only [push_cast, seval, ↓reduceIte, Za, hN0, hN]
 try simp only [Zf, Zd, ↓reduceIte, Nat.reduceEqDiff]
 refine Ze [4] [true] ?_
 simp only [push_cast, seval, ↓reduceIte]
 refine Zk [2, 3] (Zb Zc [] ?_)
 simp only [push_cast, seval, ↓reduceIte, Za, hN0, hN]
 refine Z6 ?_
 try simp only [Zf, Zd]
 have h := Option.some.inj h; subst h
 refine Zo (.inr rfl) hU [.row n z20.length, .val (.bool true)] (by omega) ?_
 simp only [push_cast, seval, ↓reduceIte, Za, Try.results15, hN0, hN]
theorem Yf {a0 : (List Int)} {a1 : (List Int)} {r : Bool} {O : Objs} {n : Nat} (h : Yk a0 a1 = some r) : GTo Try.prog 17 [.sl a0.length (fl (eI .u8) a0), .sl a1.length (fl (eI .u8) a1)] O n (.val (.bool r)) O n := by
 unfold Yk at h
 refine Ql Zc Try.call17 Try.func17 rfl (Nat.le_of_ble_eq_true rfl) (Nat.le_refl _) fun hU => ?_
 have hN0 : O n = none := hU.fresh _ (Nat.le_refl _)
 have hN : ∀ k, O (n + k) = none := fun k => hU.fresh _ (Nat.le_add_right _ _)
 show W _ _ _ _ ⟨26, [], [(0, .sl a0.length (fl (eI .u8) a0)), (1, .sl a1.length (fl (eI .u8) a1))]⟩ (Zm O n []) _
 refine Zk [0, 1] (Zb Zc [] ?_)
 simp only [push_cast, seval, ↓reduceIte, Za, hN0, hN]
 refine Zg ?_
 refine Zk [0, 1, 10] (Zb Zc [] ?_)
 simp only [push_cast, seval, ↓reduceIte, Za, hN0, hN]
 refine Zs (t := ((a0.length : Int) != (a1.length : Int))) rfl (fun c8 => ?_) (fun c8 => ?_)
 ·replace h := Zx c8 h
  refine Zk [4] (Zb Zc [] ?_)
  simp only [push_cast, seval, ↓reduceIte, Za, hN0, hN]
  refine Z6 ?_
  try simp only [Zf, Zd]
  have h := Option.some.inj h; subst h
  refine Zo (.inr rfl) hU [.val (.bool false)] (by omega) ?_
  simp only [push_cast, seval, ↓reduceIte, Za, Try.results17, hN0, hN]
 replace h := Zw c8 h
 refine Zt ?_
 try simp only [Zf, Zd]
 refine Ze [0, 1] [] ?_
 simp only [push_cast, seval, ↓reduceIte]
 refine Zg ?_
 refine Zk [0, 1, 5] (Zb Zc [] ?_)
 simp only [push_cast, seval, ↓reduceIte, Za, hN0, hN]
 refine Ze [0, 1, 5] [] ?_
 simp only [push_cast, seval, ↓reduceIte]
 obtain ⟨z7, hz7, h⟩ := bC h
 refine Kt (J := (X5 (fun z7 => JR n (⟨26, [], [(4, .val (.bool false))]⟩ : Env) (Zm O n []) n) (fun z7 => JX 0 n (⟨26, [], []⟩ : Env) (Zm O n []) n))) (z := z7) ?_ fun hw => ?_
 ·refine Ys hz7 (fun s0_ => ⟨26, [], [(0, .sl a0.length (fl (eI .u8) a0)), (1, .sl a1.length (fl (eI .u8) a1)), (5, .val (.int .i64 s0_))]⟩) (fun s0_ => (Zm O n [])) (X5 (fun z7 => JR n (⟨26, [], [(4, .val (.bool false))]⟩ : Env) (Zm O n []) n) (fun z7 => JX 0 n (⟨26, [], []⟩ : Env) (Zm O n []) n)) ?_
  intro s0_ x0_ hs0_
  unfold Qf at hs0_
  try dsimp only
  refine Zg ?_
  refine Zk [0, 1, 5, 14] (Zb Zc [] ?_)
  simp only [push_cast, seval, ↓reduceIte, Za, hN0, hN]
  refine Zs (t := (decide (s0_ < (a0.length : Int)))) rfl (fun c6 => ?_) (fun c6 => ?_)
  ·replace hs0_ := Zx c6 hs0_
   refine Zt ?_
   try simp only [Zf, Zd]
   refine Ze [0, 1, 5] [] ?_
   simp only [push_cast, seval, ↓reduceIte]
   refine Zg ?_
   refine Yi ?_
   obtain ⟨x3, hx3, ax3, bx3, cx3, hs0_⟩ := bE (f := (eI .u8)) J0 (fun _ => rfl) (by decide) hs0_
   obtain ⟨x4, hx4, ax4, bx4, cx4, hs0_⟩ := bE (f := (eI .u8)) J0 (fun _ => rfl) (by decide) hs0_
   refine Zk [0, 1, 5, 25] (Zas Zc (by kernel_rfl) [] (by kernel_rfl) ?_)
   simp only [push_cast, Nat.reduceAdd, Nat.reduceSub, Nat.reduceMul, Nat.reduceLeDiff, Nat.reduceLT, Nat.reduceEqDiff, ↓reduceIte, reduceCtorEq, Int.reduceBEq, Int.reduceBNe, Nat.reduceBEq, Int.reduceLE, Int.reduceLT, Int.reduceEq, Int.reduceNe, Int.reduceNeg, Nat.reduceDiv, Nat.reduceMod, Nat.reducePow, Za, ax3, bx3, cx3, ax4, bx4, cx4, hN0, hN]
   refine Zs (t := (x3 != x4)) rfl (fun c5 => ?_) (fun c5 => ?_)
   ·replace hs0_ := Zx c5 hs0_
    refine Zk [4] (Zb Zc [] ?_)
    simp only [push_cast, seval, ↓reduceIte, Za, hN0, hN]
    refine Z6 ?_
    try simp only [Zf, Zd]
    have hs0_ := Option.some.inj hs0_; subst hs0_
    refine And.intro (fun h => by cases h) (And.intro rfl (Fit2.of (Zh hU rfl rfl ?_) (by omega)))
    simp only [push_cast, seval, ↓reduceIte, Za, hN0, hN]
   replace hs0_ := Zw c5 hs0_
   refine Zt ?_
   try simp only [Zf, Zd]
   refine Ze [0, 1, 5] [] ?_
   simp only [push_cast, seval, ↓reduceIte]
   refine Zb Zc [] ?_
   simp only [push_cast, seval, ↓reduceIte, Za, hN0, hN]
   have hs0_ := Option.some.inj hs0_; subst hs0_
   refine And.intro rfl (Fit2.of (Zh hU rfl rfl ?_) (by omega))
   simp only [push_cast, seval, ↓reduceIte, Za, hN0, hN]
  replace hs0_ := Zw c6 hs0_
  refine Xo ?_
  try simp only [Zf, Zd, ↓reduceIte, Nat.reduceEqDiff]
  have hs0_ := Option.some.inj hs0_; subst hs0_
  refine And.intro (fun h => by cases h) (And.intro rfl (Fit2.of (Zh hU rfl rfl ?_) (by omega)))
  simp only [push_cast, seval, ↓reduceIte, Za, hN0, hN]
 rcases z7 with z7 | z7
 ·dsimp only [X5] at hw h
  refine Qr hw ?_
  try simp only [Zf, Zd, ↓reduceIte, Nat.reduceEqDiff]
  have h := Option.some.inj h; subst h
  refine Zo (.inr rfl) hU [.val (.bool false)] (by omega) ?_
  simp only [push_cast, seval, ↓reduceIte, Za, Try.results17, hN0, hN]
 dsimp only [X5] at hw h
 refine Yc hw ?_
 try simp only [Zf, Zd, ↓reduceIte, Nat.reduceEqDiff]
 refine Ze [] [] ?_
 simp only [push_cast, seval, ↓reduceIte]
 refine Zk [4] (Zb Zc [] ?_)
 simp only [push_cast, seval, ↓reduceIte, Za, hN0, hN]
 refine Z6 ?_
 try simp only [Zf, Zd]
 have h := Option.some.inj h; subst h
 refine Zo (.inr rfl) hU [.val (.bool true)] (by omega) ?_
 simp only [push_cast, seval, ↓reduceIte, Za, Try.results17, hN0, hN]
end Go.Proofs.Ytgijkjifiekkmaa
