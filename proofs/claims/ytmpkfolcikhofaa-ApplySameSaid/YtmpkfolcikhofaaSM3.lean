/- Part SM3 of this seat's mirrors: functions of the seat's program, and the plain functions that they are; each theorem bears its own conditions. -/
import Derived.Test.YtmpkfolcikhofaaSE
import Derived.Test.YtmpkfolcikhofaaSM2
namespace Go.Proofs.Ytmpkfolcikhofaa
open Go.RowKit
set_option linter.unusedVariables false
set_option linter.unusedSimpArgs false
set_option maxRecDepth 100000
set_option maxHeartbeats 1000000
attribute [local push_cast] Zp Vm Xj Zd Jv Zif Zie Ziu Zit Zk Zg Zfj Zbn Zbm onW Yu U2 Ul Zij Zhp Zcz evS wok Xd Op.operands Call.operands gop onK onP atK List.all_cons List.all_nil Bool.and_true Bool.true_and Bool.and_self Value.oneCell' List.take_zero List.take_succ_cons List.take_nil List.drop_zero List.drop_succ_cons List.drop_nil List.append_nil Nat.add_zero Nat.zero_add J8 Z7 ev Xk Zho Zpz Zlg Zlf Zp4 Zc5 Uq Zcr Uw Zdk Za3 J0 Zfk Zbo Vj Zcs Vk Zed Zc3 Zmi bLo bHi bMx Ur Zec Zp0 Zc2 Zev Zac Ki Zk5 Zp5 Zcp Zp8 Up Zrf Xi Zee gone Zf1 Zb2 Zb1 pop TK.isAgg G.one G.under G.unders List.getD_cons_zero List.getD_cons_succ List.set_cons_zero List.set_cons_succ List.map_cons List.map_nil List.toList_toArray Array.toList_append Option.toArray_none Option.toArray_some Array.toList_map Option.map_some Option.map_none Option.bind_some Option.bind_none List.getElem?_cons_zero List.getElem?_cons_succ List.getElem?_nil List.nil_append List.cons_append List.replicate_succ List.replicate_zero List.length_cons List.length_nil and_true true_and and_false false_and Bool.true_eq_false Bool.false_eq_true forall_const false_implies implies_true IntKind.bits if_true if_false ite_true ite_false eq_self true_implies false_or or_false or_true true_or not_true_eq_false not_false_eq_true decide_true decide_false decide_eq_true_eq decide_eq_false_iff_not beq_iff_eq bne_iff_ne ne_eq Bool.not_eq_true Bool.not_eq_false beq_eq_false_iff_ne bne_eq_false_iff_eq beq_self_eq_true bne_self_eq_false Option.some.injEq exists_eq_left' exists_eq_left ge_iff_le gt_iff_lt decide_not Bool.not_true Bool.not_false imp_self Zmk cond_true cond_false Zv7 Zv6 Bool.not_not Bool.and_false Bool.false_and Bool.or_true Bool.true_or Bool.or_false Bool.false_or Uk Zeb Za7 Zae Ke Qd Option.join_some Nat.add_assoc Int.toNat_natCast eI eB eS eL Ga Zbc Zam Zii Zig Zih Zrt Zty Zbe Zau Zi1 Ziz Zi0 Zow Zfi Zmc Zf4 Zmb Gq Zko List.length_append G.agg.injEq G.row.injEq G.ref.injEq G.val.injEq G.sl.injEq G.tup.injEq Value.int.injEq Value.bool.injEq Value.string.injEq List.cons.injEq exists_and_left exists_const List.flatten_cons List.flatten_nil Int.le_refl Nat.le_refl Uu Xb Jy Bool.not_eq_true' Bool.not_eq_false' Zkh Zd8 Zog Zom Zof Zol Ztd Zs9 List.size_toArray Zi4 Zi5 G.ren G.rens Zlm Za5 Zi7 Zh9 Zia Zf6 Zon Za4 G.fn.injEq Zg0 Zg1 Zkg Zta Zgz Zoj Ztc Ztb Zoi Zmp Zrl Option.join_none Yi Jp undef Zew Arr.len Arr.put_eq Zbd Zdu Zbx Zat Ziy Ziw Zix onB Zrs Zk3 Zf5 Ze6 Ze7 Ze8 Ze9 Zfa Zfb Zdq Zdy Zdw Zb0 Zav Zdx Zf0 Zfz Zfy Zfx Ztx Zvo Zov Zm2 Kp Zor Zim Zdz Zbz Zqn Zjd Zc1 Zeu Gi Zd0 Zfc Zfd Zfe Zff Zda Zdb Zdc Zdd Zde Zdf Zdg Zaj prT Zba Zxn Zn3 Zvx Zn4 Zxo Zn5 Zxp Zn6 Zxq Zn7 Zxr Zn8 Zxs Zn9 Zxt Zoa Zr7 Zjg Zr8 Zjh Zr9 Zji Zsa Zjj Zsb Zjk Zsc Zjl Zsd Zjm Zse Zjn Zsf Zjo Zsg Zjp Zsh Zjq Zsi Zer Zsj Uv Zsk Zjr Va Zjs Zsl Zjt Zsm Zju Zsn Zjv Zso Zjw Zsp Zjx Zsq Zjy Zsr Zjz Zss Zj0 Zst Zj1 Zsu Zj2 Zsv Zj3 Zpk Zj4 Zsw Zj5 Zpl Zj6 Gn Zj7 Zsx Zj8 Zsy Zj9 Zsz Zka Zs0 Zkb Zs1 Zkc Zs2 Zkd Zs3 Zke Zpm Zkf Zne Zf8 Znf Zf9 Zng Zga Znh Zgb Zni Zgc Znj Zgd Znk Zge Znl Zgf Znm Zgg Znn Zgh Zno Zgi Znp Zgj Znq Zgk Znr Zgl Zns Zgm Znt Zgn Znu Zgo Znv Zgp Znw Zgq Znx Zgr Zny Zgs Znz Zgt Zn0 Zgu Zn1 Zgv Zn2 Zgw Zb Yc Zcl Zck Zbq Zbu Zcn Za1 Zax Zaw Zch Ve Vd K5 K7 Vf Kt Kr Kq Vb Zi Vi Zq Z6 Xo Yp Xv Zy Q4 Q2 Qq Qv Q6 Qb X9 X7 Qz Jn Jm Ji Jk Jo Q1 Qy Qx Jl Ud Uc V3 V9 Uf Vt Vs Vr Ub Q5 Q3 Qr Qw Q7 Qc Qa X8 Q0 Zd9 Zd7 Zdm Zdt Zea Zci Zca Zb9 Zd6
theorem Zhw {a0 : (List Int)} {r : (List Int)} {O : Objs} {n : Nat} (h : Km a0 = some r) : GTo Try.prog 62 [.sl a0.length (fl (eI .u64) a0)] O n (.sl r.length (fl (eI .u64) r)) O n := by
 unfold Km at h
 refine Qp Zf Try.call62 Try.func62 rfl (Nat.le_of_ble_eq_true rfl) (Nat.le_refl _) fun hU => ?_
 have hN0 : O n = none := hU.fresh _ (Nat.le_refl _)
 have hN : ∀ k, O (n + k) = none := fun k => hU.fresh _ (Nat.le_add_right _ _)
 show W _ _ _ _ ⟨24, [], [(0, .sl a0.length (fl (eI .u64) a0))]⟩ (Zt O n []) _
 refine Zw [0] (Zc Zf [] ?_)
 simp only [push_cast, seval, ↓reduceIte, Za, hN0, hN]
 refine Zw [0, 3] (Zc Zf [] ?_)
 simp only [push_cast, seval, ↓reduceIte, Za, hN0, hN]
 refine Zm ?_
 refine Zl [0, 3] [] ?_
 simp only [push_cast, seval, ↓reduceIte]
 obtain ⟨z7, hz7, h⟩ := bC h
 refine X4 (E' := ⟨24, [], [(0, .sl a0.length (fl (eI .u64) a0)), (3, .val (.int .i64 z7))]⟩) (O' := (Zt O n [])) (n0 := n) ?_ ?_
 ·refine J7 hz7 (fun s0_ => ⟨24, [], [(0, .sl a0.length (fl (eI .u64) a0)), (3, .val (.int .i64 s0_))]⟩) (fun s0_ => (Zt O n [])) (fun z7 => JX 0 n (⟨24, [], [(0, .sl a0.length (fl (eI .u64) a0)), (3, .val (.int .i64 z7))]⟩ : Env) (Zt O n []) n) ?_
  intro s0_ x0_ hs0_
  unfold Qt at hs0_
  try dsimp only
  refine Zm ?_
  obtain ⟨z2, hz2, hs0_⟩ := bC hs0_
  refine Ku (E' := ⟨24, [], [(0, .sl a0.length (fl (eI .u64) a0)), (3, .val (.int .i64 s0_)), (16, .val (.bool z2))]⟩) (O' := (Zt O n [])) (n0 := n) ?_ ?_
  ·rcases Bool.eq_false_or_eq_true (decide (0 < s0_)) with c5 | c5
   ·replace hz2 := Z4 c5 hz2
    obtain ⟨x4, hx4, ax4, bx4, cx4, hz2⟩ := bE (f := (eI .u64)) Gn (fun _ => rfl) (by decide) hz2
    refine Zc Zf [some true, some true, some true, some true, some true, some true] ?_
    simp only [push_cast, Nat.reduceAdd, Nat.reduceSub, Nat.reduceMul, Nat.reduceLeDiff, Nat.reduceLT, Nat.reduceEqDiff, ↓reduceIte, reduceCtorEq, Int.reduceBEq, Int.reduceBNe, Nat.reduceBEq, Int.reduceLE, Int.reduceLT, Int.reduceEq, Int.reduceNe, Int.reduceNeg, Nat.reduceDiv, Nat.reduceMod, Nat.reducePow, Za, c5, ax4, bx4, cx4, hN0, hN]
    have hz2 := Option.some.inj hz2; subst hz2
    refine And.intro rfl (Fit2.of (Zo hU rfl rfl ?_) (by omega))
    simp only [push_cast, Nat.reduceAdd, Nat.reduceSub, Nat.reduceMul, Nat.reduceLeDiff, Nat.reduceLT, Nat.reduceEqDiff, ↓reduceIte, reduceCtorEq, Int.reduceBEq, Int.reduceBNe, Nat.reduceBEq, Int.reduceLE, Int.reduceLT, Int.reduceEq, Int.reduceNe, Int.reduceNeg, Nat.reduceDiv, Nat.reduceMod, Nat.reducePow, Za, c5, ax4, bx4, cx4, hN0, hN]
   replace hz2 := Z3 c5 hz2
   refine Zc Zf [some false, some false, some false, some false, some false, some false] ?_
   simp only [push_cast, seval, ↓reduceIte, Za, c5, hN0, hN]
   have hz2 := Option.some.inj hz2; subst hz2
   refine And.intro rfl (Fit2.of (Zo hU rfl rfl ?_) (by omega))
   simp only [push_cast, seval, ↓reduceIte, Za, c5, hN0, hN]
  refine Z0 (t := z2) rfl (fun c6 => ?_) (fun c6 => ?_)
  ·replace hs0_ := Z4 c6 hs0_
   refine Ya ?_
   try simp only [Zk, Zg]
   refine Zl [0, 3] [] ?_
   simp only [push_cast, seval, ↓reduceIte]
   refine Xq ?_
   refine Zc Zf [] ?_
   simp only [push_cast, seval, ↓reduceIte, Za, hN0, hN]
   have hs0_ := Option.some.inj hs0_; subst hs0_
   refine And.intro rfl (Fit2.of (Zo hU rfl rfl ?_) (by omega))
   simp only [push_cast, seval, ↓reduceIte, Za, hN0, hN]
  replace hs0_ := Z3 c6 hs0_
  refine Vy ?_
  try simp only [Zk, Zg, ↓reduceIte, Nat.reduceEqDiff]
  have hs0_ := Option.some.inj hs0_; subst hs0_
  refine And.intro (fun h => by cases h) (And.intro rfl (Fit2.of (Zo hU rfl rfl ?_) (by omega)))
  simp only [push_cast, seval, ↓reduceIte, Za, hN0, hN]
 try simp only [Zk, Zg, ↓reduceIte, Nat.reduceEqDiff]
 refine Zl [0, 3] [] ?_
 simp only [push_cast, seval, ↓reduceIte]
 refine Zw [0, 3, 4] (Zc Zf [] ?_)
 simp only [push_cast, seval, ↓reduceIte, Za, hN0, hN]
 refine Zm ?_
 obtain ⟨l10, al10, bl10, cl10, gl10, h⟩ := bS (lo := none) (hi := (some (.i64, z7))) (f := (eI .u64)) rfl rfl Zer Gn (fun _ => rfl) h
 obtain ⟨l11, pl11, ql11, el11, h⟩ := bA0 (k := l10.length) rfl h
 refine Zc Zf [] ?_
 simp only [push_cast, seval, ↓reduceIte, Za, al10, bl10, cl10, gl10, pl11, ql11, el11, hN0, hN]
 refine Zh2 ⟨24, [], [(2, .row n l11.length)]⟩ (Zt O n [some ⟨true, 71, 1, l11.length, fl (eI .u64) l11⟩]) (Zo hU rfl rfl ?_) ?_
 ·simp only [push_cast, seval, ↓reduceIte, Za, al10, bl10, cl10, gl10, pl11, ql11, el11, hN0, hN]
 refine Yb ?_
 try simp only [Zk, Zg]
 have h := Option.some.inj h; subst h
 refine Zu (.inr rfl) hU [.row n l11.length] (by omega) ?_
 simp only [push_cast, seval, ↓reduceIte, Za, Try.results62, hN0, hN]
theorem Zhf {Jd : (S_api_Tree → Option S_api_Tree)} (Zfs : ∀ {a0 : S_api_Tree} {r : S_api_Tree} {O : Objs} {n : Nat}, Jd a0 = some r → GTo Try.prog 21 [.agg (Zd a0)] O n (.agg (Zd r)) O n) {a0 : S_api_Tree} {r : S_api_Tree} {O : Objs} {n : Nat} (h : Kg Jd a0 = some r) : GTo Try.prog 21 [.agg (Zd a0)] O n (.agg (Zd r)) O n := by
 unfold Kg at h
 refine Qp Zf Try.call21 Try.func21 rfl (Nat.le_of_ble_eq_true rfl) (Nat.le_refl _) fun hU => ?_
 have hN0 : O n = none := hU.fresh _ (Nat.le_refl _)
 have hN : ∀ k, O (n + k) = none := fun k => hU.fresh _ (Nat.le_add_right _ _)
 show W _ _ _ _ ⟨53, [], [(0, .agg (Zd a0))]⟩ (Zt O n []) _
 refine Zw [1, 2] (Zc Zf [] ?_)
 simp only [push_cast, seval, ↓reduceIte, Za, hN0, hN]
 refine Zm ?_
 refine Zw [1, 2, 10] (Zc Zf [] ?_)
 simp only [push_cast, seval, ↓reduceIte, Za, hN0, hN]
 refine Z0 (t := (a0.Kind == 0)) rfl (fun c19 => ?_) (fun c19 => ?_)
 ·replace h := Z4 c19 h
  refine Zm ?_
  refine Zc Zf [] ?_
  simp only [push_cast, seval, ↓reduceIte, Za, hN0, hN]
  refine Zl [2] [false, true] ?_
  simp only [push_cast, seval, ↓reduceIte]
  refine Yb ?_
  try simp only [Zk, Zg]
  have h := Option.some.inj h; subst h
  refine Zu (.inr rfl) hU [.agg [.val (.int .i64 0), .val (.slice none 0 0), .val (.slice none 0 0)]] (by omega) ?_
  simp only [push_cast, seval, ↓reduceIte, Za, Try.results21, hN0, hN]
 replace h := Z3 c19 h
 refine Ya ?_
 try simp only [Zk, Zg]
 refine Zl [1, 2] [true, true] ?_
 simp only [push_cast, seval, ↓reduceIte]
 refine Zw [1, 2, 3] (Zc Zf [] ?_)
 simp only [push_cast, seval, ↓reduceIte, Za, hN0, hN]
 refine Zw [1, 2, 3, 4] (Zc Zf [] ?_)
 simp only [push_cast, seval, ↓reduceIte, Za, hN0, hN]
 refine Zm ?_
 refine Zw [1, 2, 3, 4, 5] (Zc Zf [] ?_)
 simp only [push_cast, seval, ↓reduceIte, Za, hN0, hN]
 refine Zl [1, 2, 3, 4, 5] [true, true] ?_
 simp only [push_cast, seval, ↓reduceIte]
 refine Zc0 (E' := (⟨53, [], [(1, .ref n 0), (2, .ref (n + 1) 0), (3, .row (n + 2) ([] : List S_api_Tree).length), (4, .val (.int .i64 0)), (5, .val (.int .i64 0))]⟩ : Env)) (O' := (Zt O n [some ⟨false, 25, 3, 1, (Zd a0)⟩, some ⟨false, 25, 3, 1, [.val (.int .i64 0), .val (.slice none 0 0), .val (.slice none 0 0)]⟩, some ⟨true, 25, 3, ([] : List S_api_Tree).length, fl Zb ([] : List S_api_Tree)⟩, none])) (n' := (n + 4)) ?_ ?_
 ·refine Fit2.trans (E' := (⟨53, [], [(1, .ref n 0), (2, .ref (n + 1) 0), (3, .val (.slice none 0 0)), (4, .val (.int .i64 0)), (5, .val (.int .i64 0))]⟩ : Env)) (O' := (Zt O n [some ⟨false, 25, 3, 1, (Zd a0)⟩, some ⟨false, 25, 3, 1, [.val (.int .i64 0), .val (.slice none 0 0), .val (.slice none 0 0)]⟩])) (n' := (n + 2)) (Fit2.of (Zo hU rfl rfl ?_) (by omega)) ?_
  ·simp only [push_cast, seval, ↓reduceIte, Za, hN0, hN]
  refine Fit2.trans (E' := (⟨53, [], [(3, .row (n + 2) 0), (1, .ref n 0), (2, .ref (n + 1) 0), (3, .val (.slice none 0 0)), (4, .val (.int .i64 0)), (5, .val (.int .i64 0))]⟩ : Env)) (O' := (Zt O n [some ⟨false, 25, 3, 1, (Zd a0)⟩, some ⟨false, 25, 3, 1, [.val (.int .i64 0), .val (.slice none 0 0), .val (.slice none 0 0)]⟩, some ⟨true, 25, 3, 0, []⟩])) (n' := (n + 3)) ?_ ?_
  ·have ha := Zki (ba := n) (E := (⟨53, [], [(1, .ref n 0), (2, .ref (n + 1) 0), (3, .val (.slice none 0 0)), (4, .val (.int .i64 0)), (5, .val (.int .i64 0))]⟩ : Env)) (O := (Zt O n [some ⟨false, 25, 3, 1, [.val (.int .i64 a0.Kind), .sl a0.Words.length (fl (eI .u64) a0.Words), .sl a0.Kids.length (fl Zb a0.Kids)]⟩, some ⟨false, 25, 3, 1, [.val (.int .i64 0), .val (.slice none 0 0), .val (.slice none 0 0)]⟩])) (n := (n + 2)) 3 25 3 rfl (by omega)
   simp only [Ke, Qd, Za7, Zae, List.set_cons_zero, List.set_cons_succ, List.cons_append, List.nil_append, List.length_cons, List.length_nil, Nat.zero_add, Nat.reduceAdd, Nat.reduceLT, Nat.add_assoc] at ha
   exact ha
  refine Fit2.trans (E' := (⟨53, [], [(1, .ref n 0), (2, .ref (n + 1) 0), (3, .row (n + 2) ([] : List S_api_Tree).length), (4, .val (.int .i64 0)), (5, .val (.int .i64 0))]⟩ : Env)) (O' := (Zt O n [some ⟨false, 25, 3, 1, (Zd a0)⟩, some ⟨false, 25, 3, 1, [.val (.int .i64 0), .val (.slice none 0 0), .val (.slice none 0 0)]⟩, some ⟨true, 25, 3, ([] : List S_api_Tree).length, fl Zb ([] : List S_api_Tree)⟩])) (n' := (n + 3)) (Fit2.of (Zo hU rfl rfl ?_) (by omega)) ?_
  ·simp only [push_cast, seval, ↓reduceIte, Za, hN0, hN]
  refine Gg (k := 3) (k' := 4) hU [0, 1, 2] [0, 1, 2, 0] rfl rfl rfl rfl ⟨rfl, rfl⟩ ?_
  simp only [push_cast, seval, ↓reduceIte, Za, hN0, hN]
 obtain ⟨z10, hz10, h⟩ := bC h
 refine X4 (E' := ⟨53, [], [(1, .ref n 0), (2, .ref (n + 1) 0), (3, .row (n + 2) z10.2.length), (4, .val (.int .i64 z10.1))]⟩) (O' := (Zt O n [some ⟨false, 25, 3, 1, (Zd a0)⟩, some ⟨false, 25, 3, 1, [.val (.int .i64 0), .val (.slice none 0 0), .val (.slice none 0 0)]⟩, some ⟨true, 25, 3, z10.2.length, fl Zb z10.2⟩, none])) (n0 := (n + 4)) ?_ ?_
 ·refine J7 hz10 (fun s0_ => ⟨53, [], [(1, .ref n 0), (2, .ref (n + 1) 0), (3, .row (n + 2) s0_.2.2.length), (4, .val (.int .i64 s0_.1)), (5, .val (.int .i64 s0_.2.1))]⟩) (fun s0_ => (Zt O n [some ⟨false, 25, 3, 1, (Zd a0)⟩, some ⟨false, 25, 3, 1, [.val (.int .i64 0), .val (.slice none 0 0), .val (.slice none 0 0)]⟩, some ⟨true, 25, 3, s0_.2.2.length, fl Zb s0_.2.2⟩, none])) (fun z10 => JX 0 n (⟨53, [], [(1, .ref n 0), (2, .ref (n + 1) 0), (3, .row (n + 2) z10.2.length), (4, .val (.int .i64 z10.1))]⟩ : Env) (Zt O n [some ⟨false, 25, 3, 1, (Zd a0)⟩, some ⟨false, 25, 3, 1, [.val (.int .i64 0), .val (.slice none 0 0), .val (.slice none 0 0)]⟩, some ⟨true, 25, 3, z10.2.length, fl Zb z10.2⟩, none]) (n + 4)) ?_
  intro s0_ x0_ hs0_
  unfold Y7 at hs0_
  try dsimp only
  refine Zm ?_
  refine Zw [1, 2, 3, 4, 5, 16] (Zc Zf [] ?_)
  simp only [push_cast, seval, ↓reduceIte, Za, hN0, hN]
  refine Z0 (t := (decide (s0_.2.1 < (a0.Kids.length : Int)))) rfl (fun c9 => ?_) (fun c9 => ?_)
  ·replace hs0_ := Z4 c9 hs0_
   refine Ya ?_
   try simp only [Zk, Zg]
   refine Zl [1, 2, 3, 4, 5] [true, true, true, false] ?_
   simp only [push_cast, seval, ↓reduceIte]
   obtain ⟨z1, hz1, hs0_⟩ := bC hs0_
   refine Ku (E' := ⟨53, [], [(1, .ref n 0), (2, .ref (n + 1) 0), (3, .row (n + 2) z1.2.length), (4, .val (.int .i64 z1.1)), (5, .val (.int .i64 s0_.2.1))]⟩) (O' := (Zt O n [some ⟨false, 25, 3, 1, (Zd a0)⟩, some ⟨false, 25, 3, 1, [.val (.int .i64 0), .val (.slice none 0 0), .val (.slice none 0 0)]⟩, some ⟨true, 25, 3, z1.2.length, fl Zb z1.2⟩, none, none, none])) (n0 := (n + 6)) ?_ ?_
   ·refine Xq ?_
    refine Zm ?_
    obtain ⟨x4, hx4, ax4, bx4, cx4, hz1⟩ := bE (f := Zb) Va (fun _ => rfl) (by decide) hz1
    obtain ⟨y5, hy5, hz1⟩ := bC hz1
    refine Zc Zf [] ?_
    simp only [push_cast, Nat.reduceAdd, Nat.reduceSub, Nat.reduceMul, Nat.reduceLeDiff, Nat.reduceLT, Nat.reduceEqDiff, ↓reduceIte, reduceCtorEq, Int.reduceBEq, Int.reduceBNe, Nat.reduceBEq, Int.reduceLE, Int.reduceLT, Int.reduceEq, Int.reduceNe, Int.reduceNeg, Nat.reduceDiv, Nat.reduceMod, Nat.reducePow, Za, ax4, bx4, cx4, hN0, hN]
    refine (Zfs hy5).then ?_
    simp only [push_cast, Nat.reduceAdd, Nat.reduceSub, Nat.reduceMul, Nat.reduceLeDiff, Nat.reduceLT, Nat.reduceEqDiff, ↓reduceIte, reduceCtorEq, Int.reduceBEq, Int.reduceBNe, Nat.reduceBEq, Int.reduceLE, Int.reduceLT, Int.reduceEq, Int.reduceNe, Int.reduceNeg, Nat.reduceDiv, Nat.reduceMod, Nat.reducePow, Za, ax4, bx4, cx4, hN0, hN]
    refine Zl [1, 2, 3, 4, 5, 6] [true, true, true, false, true] ?_
    simp only [push_cast, seval, ↓reduceIte]
    refine Zm ?_
    obtain ⟨l7, pl7, ql7, el7, hz1⟩ := bA (k := 1) rfl hz1
    refine Zc Zf [] ?_
    simp only [push_cast, seval, ↓reduceIte, Za, pl7, ql7, el7, hN0, hN]
    refine Zh2 ⟨53, [], [(1, .ref n 0), (2, .ref (n + 1) 0), (3, .row (n + 2) l7.length), (4, .val (.int .i64 s0_.1)), (5, .val (.int .i64 s0_.2.1)), (6, .ref (n + 4) 0)]⟩ (Zt O n [some ⟨false, 25, 3, 1, (Zd a0)⟩, some ⟨false, 25, 3, 1, [.val (.int .i64 0), .val (.slice none 0 0), .val (.slice none 0 0)]⟩, some ⟨true, 25, 3, l7.length, fl Zb l7⟩, none, some ⟨false, 25, 3, 1, (Zd y5)⟩, none]) (Zo hU rfl rfl ?_) ?_
    ·simp only [push_cast, seval, ↓reduceIte, Za, pl7, ql7, el7, hN0, hN]
    refine Zw [1, 2, 3, 4, 5, 31] (Zc Zf [] ?_)
    simp only [push_cast, seval, ↓reduceIte, Za, hN0, hN]
    refine Z0 (t := (y5.Kind != 0)) rfl (fun c8 => ?_) (fun c8 => ?_)
    ·replace hz1 := Z4 c8 hz1
     refine Zc Zf [] ?_
     simp only [push_cast, seval, ↓reduceIte, Za, hN0, hN]
     have hz1 := Option.some.inj hz1; subst hz1
     refine And.intro rfl (Fit2.of (Zo hU rfl rfl ?_) (by omega))
     simp only [push_cast, seval, ↓reduceIte, Za, hN0, hN]
    replace hz1 := Z3 c8 hz1
    refine Ya ?_
    try simp only [Zk, Zg]
    have hz1 := Option.some.inj hz1; subst hz1
    refine And.intro rfl (Fit2.of (Zo hU rfl rfl ?_) (by omega))
    simp only [push_cast, seval, ↓reduceIte, Za, hN0, hN]
   refine Zc Zf [] ?_
   simp only [push_cast, seval, ↓reduceIte, Za, hN0, hN]
   have hs0_ := Option.some.inj hs0_; subst hs0_
   refine And.intro rfl (Fit2.of (Zo hU rfl rfl ?_) (by omega))
   simp only [push_cast, seval, ↓reduceIte, Za, hN0, hN]
  replace hs0_ := Z3 c9 hs0_
  refine Vy ?_
  try simp only [Zk, Zg, ↓reduceIte, Nat.reduceEqDiff]
  have hs0_ := Option.some.inj hs0_; subst hs0_
  refine And.intro (fun h => by cases h) (And.intro rfl (Fit2.of (Zo hU rfl rfl ?_) (by omega)))
  simp only [push_cast, seval, ↓reduceIte, Za, hN0, hN]
 try simp only [Zk, Zg, ↓reduceIte, Nat.reduceEqDiff]
 refine Zl [1, 2, 3, 4] [true, true, true, false] ?_
 simp only [push_cast, seval, ↓reduceIte]
 refine Zm ?_
 refine Zw [1, 2, 3, 4, 36] (Zc Zf [] ?_)
 simp only [push_cast, seval, ↓reduceIte, Za, hN0, hN]
 refine Z0 (t := (a0.Kind == 1)) rfl (fun c18 => ?_) (fun c18 => ?_)
 ·replace h := Z4 c18 h
  refine Zh2 ⟨53, [], [(1, .ref n 0), (2, .ref (n + 1) 0), (3, .sl z10.2.length (fl Zb z10.2)), (4, .val (.int .i64 z10.1))]⟩ (Zt O n [some ⟨false, 25, 3, 1, (Zd a0)⟩, some ⟨false, 25, 3, 1, [.val (.int .i64 0), .val (.slice none 0 0), .val (.slice none 0 0)]⟩, none, none]) (Zo hU rfl rfl ?_) ?_
  ·simp only [push_cast, seval, ↓reduceIte, Za, hN0, hN]
  refine Zm ?_
  obtain ⟨y14, hy14, h⟩ := bC h
  obtain ⟨l15, al15, bl15, cl15, gl15, h⟩ := bS (lo := none) (hi := (some (.i64, z10.1))) (f := Zb) rfl rfl Uv Va (fun _ => rfl) h
  refine Zaa Zf (by kernel_rfl) [false, false, false, false, false, false, false, true] [] (by kernel_rfl) ?_
  simp only [push_cast, seval, ↓reduceIte, Za, al15, bl15, cl15, gl15, hN0, hN]
  refine PCall.of (Zhw hy14) ?_
  simp only [push_cast, seval, ↓reduceIte, Za, al15, bl15, cl15, gl15, hN0, hN]
  refine Zl [2] [false, true, false, false] ?_
  simp only [push_cast, seval, ↓reduceIte]
  refine Yb ?_
  try simp only [Zk, Zg]
  have h := Option.some.inj h; subst h
  refine Zu (.inr rfl) hU [.agg [.val (.int .i64 1), .sl y14.length (fl (eI .u64) y14), .sl l15.length (fl Zb l15)]] (by omega) ?_
  simp only [push_cast, seval, ↓reduceIte, Za, Try.results21, hN0, hN]
 replace h := Z3 c18 h
 refine Ya ?_
 try simp only [Zk, Zg]
 refine Zl [1, 2, 3] [true, true, true, false] ?_
 simp only [push_cast, seval, ↓reduceIte]
 refine Zw [1, 2, 3, 7] (Zc Zf [] ?_)
 simp only [push_cast, seval, ↓reduceIte, Za, hN0, hN]
 refine Zm ?_
 obtain ⟨l17, pl17, ql17, el17, h⟩ := bA0 (k := a0.Words.length) rfl h
 refine Zc Zf [] ?_
 simp only [push_cast, seval, ↓reduceIte, Za, pl17, ql17, el17, hN0, hN]
 refine Zh2 ⟨53, [], [(1, .ref n 0), (2, .ref (n + 1) 0), (3, .row (n + 2) z10.2.length), (7, .row (n + 4) l17.length)]⟩ (Zt O n [some ⟨false, 25, 3, 1, (Zd a0)⟩, some ⟨false, 25, 3, 1, [.val (.int .i64 0), .val (.slice none 0 0), .val (.slice none 0 0)]⟩, some ⟨true, 25, 3, z10.2.length, fl Zb z10.2⟩, none, some ⟨true, 71, 1, l17.length, fl (eI .u64) l17⟩]) (Zo hU rfl rfl ?_) ?_
 ·simp only [push_cast, seval, ↓reduceIte, Za, pl17, ql17, el17, hN0, hN]
 refine Zm ?_
 refine Zc Zf [] ?_
 simp only [push_cast, seval, ↓reduceIte, Za, hN0, hN]
 refine Zl [2] [false, true, true, false, true] ?_
 simp only [push_cast, seval, ↓reduceIte]
 refine Yb ?_
 try simp only [Zk, Zg]
 have h := Option.some.inj h; subst h
 refine Zu (.inr rfl) hU [.agg [.val (.int .i64 a0.Kind), .row (n + 4) l17.length, .row (n + 2) z10.2.length]] (by omega) ?_
 simp only [push_cast, seval, ↓reduceIte, Za, Try.results21, hN0, hN]
theorem Ze1 : ∀ k, (∀ {a0 : S_api_Tree} {r : S_api_Tree} {O : Objs} {n : Nat}, (Ym k) a0 = some r → GTo Try.prog 21 [.agg (Zd a0)] O n (.agg (Zd r)) O n) := fun k => by
 induction k with
 | zero => exact @fun a0 r O n h => (nomatch (show (none : Option _) = some _ from h))
 | succ k ih => exact @fun a0 r O n h => Zhf (ih)  h
theorem Qh {a0 : S_api_Tree} {r : S_api_Tree} {O : Objs} {n : Nat} (h : Jb a0 = some r) : GTo Try.prog 21 [.agg (Zd a0)] O n (.agg (Zd r)) O n := by
 obtain ⟨k, hk⟩ := Zao h
 exact (Ze1 k)  hk
theorem Zhv {a0 : (List Int)} {a1 : (List Int)} {r : Bool} {O : Objs} {n : Nat} (h : Kl a0 a1 = some r) : GTo Try.prog 59 [.sl a0.length (fl (eI .u64) a0), .sl a1.length (fl (eI .u64) a1)] O n (.val (.bool r)) O n := by
 unfold Kl at h
 refine Qp Zf Try.call59 Try.func59 rfl (Nat.le_of_ble_eq_true rfl) (Nat.le_refl _) fun hU => ?_
 have hN0 : O n = none := hU.fresh _ (Nat.le_refl _)
 have hN : ∀ k, O (n + k) = none := fun k => hU.fresh _ (Nat.le_add_right _ _)
 show W _ _ _ _ ⟨26, [], [(0, .sl a0.length (fl (eI .u64) a0)), (1, .sl a1.length (fl (eI .u64) a1))]⟩ (Zt O n []) _
 refine Zw [0, 1] (Zc Zf [] ?_)
 simp only [push_cast, seval, ↓reduceIte, Za, hN0, hN]
 refine Zm ?_
 refine Zw [0, 1, 10] (Zc Zf [] ?_)
 simp only [push_cast, seval, ↓reduceIte, Za, hN0, hN]
 refine Z0 (t := ((a0.length : Int) != (a1.length : Int))) rfl (fun c8 => ?_) (fun c8 => ?_)
 ·replace h := Z4 c8 h
  refine Zw [4] (Zc Zf [] ?_)
  simp only [push_cast, seval, ↓reduceIte, Za, hN0, hN]
  refine Yb ?_
  try simp only [Zk, Zg]
  have h := Option.some.inj h; subst h
  refine Zu (.inr rfl) hU [.val (.bool false)] (by omega) ?_
  simp only [push_cast, seval, ↓reduceIte, Za, Try.results59, hN0, hN]
 replace h := Z3 c8 h
 refine Ya ?_
 try simp only [Zk, Zg]
 refine Zl [0, 1] [] ?_
 simp only [push_cast, seval, ↓reduceIte]
 refine Zm ?_
 refine Zw [0, 1, 5] (Zc Zf [] ?_)
 simp only [push_cast, seval, ↓reduceIte, Za, hN0, hN]
 refine Zl [0, 1, 5] [] ?_
 simp only [push_cast, seval, ↓reduceIte]
 obtain ⟨z7, hz7, h⟩ := bC h
 refine Zfg (J := (Un (fun z7 => JR n (⟨26, [], [(4, .val (.bool false))]⟩ : Env) (Zt O n []) n) (fun z7 => JX 0 n (⟨26, [], []⟩ : Env) (Zt O n []) n))) (z := z7) ?_ fun hw => ?_
 ·refine J7 hz7 (fun s0_ => ⟨26, [], [(0, .sl a0.length (fl (eI .u64) a0)), (1, .sl a1.length (fl (eI .u64) a1)), (5, .val (.int .i64 s0_))]⟩) (fun s0_ => (Zt O n [])) (Un (fun z7 => JR n (⟨26, [], [(4, .val (.bool false))]⟩ : Env) (Zt O n []) n) (fun z7 => JX 0 n (⟨26, [], []⟩ : Env) (Zt O n []) n)) ?_
  intro s0_ x0_ hs0_
  unfold Qs at hs0_
  try dsimp only
  refine Zm ?_
  refine Zw [0, 1, 5, 14] (Zc Zf [] ?_)
  simp only [push_cast, seval, ↓reduceIte, Za, hN0, hN]
  refine Z0 (t := (decide (s0_ < (a0.length : Int)))) rfl (fun c6 => ?_) (fun c6 => ?_)
  ·replace hs0_ := Z4 c6 hs0_
   refine Ya ?_
   try simp only [Zk, Zg]
   refine Zl [0, 1, 5] [] ?_
   simp only [push_cast, seval, ↓reduceIte]
   refine Zm ?_
   refine Xq ?_
   obtain ⟨x3, hx3, ax3, bx3, cx3, hs0_⟩ := bE (f := (eI .u64)) Gn (fun _ => rfl) (by decide) hs0_
   obtain ⟨x4, hx4, ax4, bx4, cx4, hs0_⟩ := bE (f := (eI .u64)) Gn (fun _ => rfl) (by decide) hs0_
   refine Zw [0, 1, 5, 25] (Xg Zf (by kernel_rfl) [] (by kernel_rfl) ?_)
   simp only [push_cast, Nat.reduceAdd, Nat.reduceSub, Nat.reduceMul, Nat.reduceLeDiff, Nat.reduceLT, Nat.reduceEqDiff, ↓reduceIte, reduceCtorEq, Int.reduceBEq, Int.reduceBNe, Nat.reduceBEq, Int.reduceLE, Int.reduceLT, Int.reduceEq, Int.reduceNe, Int.reduceNeg, Nat.reduceDiv, Nat.reduceMod, Nat.reducePow, Za, ax3, bx3, cx3, ax4, bx4, cx4, hN0, hN]
   refine Z0 (t := (x3 != x4)) rfl (fun c5 => ?_) (fun c5 => ?_)
   ·replace hs0_ := Z4 c5 hs0_
    refine Zw [4] (Zc Zf [] ?_)
    simp only [push_cast, seval, ↓reduceIte, Za, hN0, hN]
    refine Yb ?_
    try simp only [Zk, Zg]
    have hs0_ := Option.some.inj hs0_; subst hs0_
    refine And.intro (fun h => by cases h) (And.intro rfl (Fit2.of (Zo hU rfl rfl ?_) (by omega)))
    simp only [push_cast, seval, ↓reduceIte, Za, hN0, hN]
   replace hs0_ := Z3 c5 hs0_
   refine Ya ?_
   try simp only [Zk, Zg]
   refine Zl [0, 1, 5] [] ?_
   simp only [push_cast, seval, ↓reduceIte]
   refine Zc Zf [] ?_
   simp only [push_cast, seval, ↓reduceIte, Za, hN0, hN]
   have hs0_ := Option.some.inj hs0_; subst hs0_
   refine And.intro rfl (Fit2.of (Zo hU rfl rfl ?_) (by omega))
   simp only [push_cast, seval, ↓reduceIte, Za, hN0, hN]
  replace hs0_ := Z3 c6 hs0_
  refine Vy ?_
  try simp only [Zk, Zg, ↓reduceIte, Nat.reduceEqDiff]
  have hs0_ := Option.some.inj hs0_; subst hs0_
  refine And.intro (fun h => by cases h) (And.intro rfl (Fit2.of (Zo hU rfl rfl ?_) (by omega)))
  simp only [push_cast, seval, ↓reduceIte, Za, hN0, hN]
 rcases z7 with z7 | z7
 ·dsimp only [Un] at hw h
  refine Zaf hw ?_
  try simp only [Zk, Zg, ↓reduceIte, Nat.reduceEqDiff]
  have h := Option.some.inj h; subst h
  refine Zu (.inr rfl) hU [.val (.bool false)] (by omega) ?_
  simp only [push_cast, seval, ↓reduceIte, Za, Try.results59, hN0, hN]
 dsimp only [Un] at hw h
 refine X4 hw ?_
 try simp only [Zk, Zg, ↓reduceIte, Nat.reduceEqDiff]
 refine Zl [] [] ?_
 simp only [push_cast, seval, ↓reduceIte]
 refine Zw [4] (Zc Zf [] ?_)
 simp only [push_cast, seval, ↓reduceIte, Za, hN0, hN]
 refine Yb ?_
 try simp only [Zk, Zg]
 have h := Option.some.inj h; subst h
 refine Zu (.inr rfl) hU [.val (.bool true)] (by omega) ?_
 simp only [push_cast, seval, ↓reduceIte, Za, Try.results59, hN0, hN]
theorem Zhg {Je : (S_api_Tree → S_api_Tree → Option Bool)} (Zft : ∀ {a0 : S_api_Tree} {a1 : S_api_Tree} {r : Bool} {O : Objs} {n : Nat}, Je a0 a1 = some r → GTo Try.prog 23 [.agg (Zd a0), .agg (Zd a1)] O n (.val (.bool r)) O n) {a0 : S_api_Tree} {a1 : S_api_Tree} {r : Bool} {O : Objs} {n : Nat} (h : Kh Je a0 a1 = some r) : GTo Try.prog 23 [.agg (Zd a0), .agg (Zd a1)] O n (.val (.bool r)) O n := by
 unfold Kh at h
 refine Qp Zf Try.call23 Try.func23 rfl (Nat.le_of_ble_eq_true rfl) (Nat.le_refl _) fun hU => ?_
 have hN0 : O n = none := hU.fresh _ (Nat.le_refl _)
 have hN : ∀ k, O (n + k) = none := fun k => hU.fresh _ (Nat.le_add_right _ _)
 show W _ _ _ _ ⟨47, [], [(0, .agg (Zd a0)), (1, .agg (Zd a1))]⟩ (Zt O n []) _
 refine Zw [2, 3] (Zc Zf [] ?_)
 simp only [push_cast, seval, ↓reduceIte, Za, hN0, hN]
 refine Zm ?_
 obtain ⟨z2, hz2, h⟩ := bC h
 refine Ku (E' := ⟨47, [], [(2, .ref n 0), (3, .ref (n + 1) 0), (27, .val (.bool z2))]⟩) (O' := (Zt O n [some ⟨false, 25, 3, 1, (Zd a0)⟩, some ⟨false, 25, 3, 1, (Zd a1)⟩])) (n0 := (n + 2)) ?_ ?_
 ·rcases Bool.eq_false_or_eq_true (a0.Kind != a1.Kind) with c5 | c5
  ·replace hz2 := Z4 c5 hz2
   refine Zc Zf [some false, some false, some false, some false, some false, some false, some false, some false, some false, some false, some false, some false, some false] ?_
   simp only [push_cast, seval, ↓reduceIte, Za, c5, hN0, hN]
   have hz2 := Option.some.inj hz2; subst hz2
   refine And.intro rfl (Fit2.of (Zo hU rfl rfl ?_) (by omega))
   simp only [push_cast, seval, ↓reduceIte, Za, c5, hN0, hN]
  replace hz2 := Z3 c5 hz2
  obtain ⟨y4, hy4, hz2⟩ := bC hz2
  refine Zc Zf [some true, some true, some true, some true, some true, some true, none, none, none, none, none, none, none] ?_
  simp only [push_cast, seval, ↓reduceIte, Za, c5, hN0, hN]
  repeat (with_reducible refine And.intro (by first | (intro h0; simp only [h0, and_self]; done) | (intro h0; simp only [h0, Bool.not_false, Bool.not_true, Bool.true_and, Bool.and_true, true_and, and_true, and_self, imp_self, implies_true, bne_iff_ne, ne_eq, beq_iff_eq]; done) | (intros; simp_all; done) | exact True.intro) ?_)
  refine (Zhv hy4).then ?_
  simp only [push_cast, seval, ↓reduceIte, Za, c5, hN0, hN]
  repeat (with_reducible refine And.intro (by first | (intro h0; simp only [h0, and_self]; done) | (intro h0; simp only [h0, Bool.not_false, Bool.not_true, Bool.true_and, Bool.and_true, true_and, and_true, and_self, imp_self, implies_true, bne_iff_ne, ne_eq, beq_iff_eq]; done) | (intros; simp_all; done) | exact True.intro) ?_)
  have hz2 := Option.some.inj hz2; subst hz2
  refine And.intro rfl (Fit2.of (Zo hU rfl rfl ?_) (by omega))
  simp only [push_cast, seval, ↓reduceIte, Za, c5, hN0, hN]
 refine Z0 (t := z2) rfl (fun c15 => ?_) (fun c15 => ?_)
 ·replace h := Z4 c15 h
  refine Zw [4] (Zc Zf [] ?_)
  simp only [push_cast, seval, ↓reduceIte, Za, hN0, hN]
  refine Yb ?_
  try simp only [Zk, Zg]
  have h := Option.some.inj h; subst h
  refine Zu (.inr rfl) hU [.val (.bool false)] (by omega) ?_
  simp only [push_cast, seval, ↓reduceIte, Za, Try.results23, hN0, hN]
 replace h := Z3 c15 h
 refine Ya ?_
 try simp only [Zk, Zg]
 refine Zl [2, 3] [true, true] ?_
 simp only [push_cast, seval, ↓reduceIte]
 refine Zm ?_
 refine Zw [2, 3, 5] (Zc Zf [] ?_)
 simp only [push_cast, seval, ↓reduceIte, Za, hN0, hN]
 refine Zl [2, 3, 5] [true, true] ?_
 simp only [push_cast, seval, ↓reduceIte]
 obtain ⟨z14, hz14, h⟩ := bC h
 refine Zfg (J := (Un (fun z14 => JR n (⟨47, [], [(4, .val (.bool false))]⟩ : Env) (Zt O n [none, none]) (n + 2)) (fun z14 => JX 0 n (⟨47, [], []⟩ : Env) (Zt O n [none, none]) (n + 2)))) (z := z14) ?_ fun hw => ?_
 ·refine J7 hz14 (fun s0_ => ⟨47, [], [(2, .ref n 0), (3, .ref (n + 1) 0), (5, .val (.int .i64 s0_))]⟩) (fun s0_ => (Zt O n [some ⟨false, 25, 3, 1, (Zd a0)⟩, some ⟨false, 25, 3, 1, (Zd a1)⟩])) (Un (fun z14 => JR n (⟨47, [], [(4, .val (.bool false))]⟩ : Env) (Zt O n [none, none]) (n + 2)) (fun z14 => JX 0 n (⟨47, [], []⟩ : Env) (Zt O n [none, none]) (n + 2))) ?_
  intro s0_ x0_ hs0_
  unfold Qn at hs0_
  try dsimp only
  refine Zm ?_
  refine Zw [2, 3, 5, 32] (Zc Zf [] ?_)
  simp only [push_cast, seval, ↓reduceIte, Za, hN0, hN]
  refine Z0 (t := (decide (s0_ < (a0.Kids.length : Int)))) rfl (fun c13 => ?_) (fun c13 => ?_)
  ·replace hs0_ := Z4 c13 hs0_
   refine Ya ?_
   try simp only [Zk, Zg]
   refine Zl [2, 3, 5] [true, true] ?_
   simp only [push_cast, seval, ↓reduceIte]
   refine Zm ?_
   refine Xq ?_
   refine Zm ?_
   obtain ⟨x9, hx9, ax9, bx9, cx9, hs0_⟩ := bE (f := Zb) Va (fun _ => rfl) (by decide) hs0_
   obtain ⟨x10, hx10, ax10, bx10, cx10, hs0_⟩ := bE (f := Zb) Va (fun _ => rfl) (by decide) hs0_
   obtain ⟨y11, hy11, hs0_⟩ := bC hs0_
   refine Xg Zf (by kernel_rfl) [] (by kernel_rfl) ?_
   simp only [push_cast, Nat.reduceAdd, Nat.reduceSub, Nat.reduceMul, Nat.reduceLeDiff, Nat.reduceLT, Nat.reduceEqDiff, ↓reduceIte, reduceCtorEq, Int.reduceBEq, Int.reduceBNe, Nat.reduceBEq, Int.reduceLE, Int.reduceLT, Int.reduceEq, Int.reduceNe, Int.reduceNeg, Nat.reduceDiv, Nat.reduceMod, Nat.reducePow, Za, ax9, bx9, cx9, ax10, bx10, cx10, hN0, hN]
   refine PCall.of (Zft hy11) ?_
   simp only [push_cast, Nat.reduceAdd, Nat.reduceSub, Nat.reduceMul, Nat.reduceLeDiff, Nat.reduceLT, Nat.reduceEqDiff, ↓reduceIte, reduceCtorEq, Int.reduceBEq, Int.reduceBNe, Nat.reduceBEq, Int.reduceLE, Int.reduceLT, Int.reduceEq, Int.reduceNe, Int.reduceNeg, Nat.reduceDiv, Nat.reduceMod, Nat.reducePow, Za, ax9, bx9, cx9, ax10, bx10, cx10, hN0, hN]
   refine Zl [2, 3, 5, 46] [true, true] ?_
   simp only [push_cast, seval, ↓reduceIte]
   refine Z0 (t := (!y11)) rfl (fun c12 => ?_) (fun c12 => ?_)
   ·replace hs0_ := Z4 c12 hs0_
    refine Zw [4] (Zc Zf [] ?_)
    simp only [push_cast, seval, ↓reduceIte, Za, hN0, hN]
    refine Yb ?_
    try simp only [Zk, Zg]
    have hs0_ := Option.some.inj hs0_; subst hs0_
    refine And.intro (fun h => by cases h) (And.intro rfl (Fit2.of (Zo hU rfl rfl ?_) (by omega)))
    simp only [push_cast, seval, ↓reduceIte, Za, hN0, hN]
   replace hs0_ := Z3 c12 hs0_
   refine Ya ?_
   try simp only [Zk, Zg]
   refine Zl [2, 3, 5] [true, true] ?_
   simp only [push_cast, seval, ↓reduceIte]
   refine Zc Zf [] ?_
   simp only [push_cast, seval, ↓reduceIte, Za, hN0, hN]
   have hs0_ := Option.some.inj hs0_; subst hs0_
   refine And.intro rfl (Fit2.of (Zo hU rfl rfl ?_) (by omega))
   simp only [push_cast, seval, ↓reduceIte, Za, hN0, hN]
  replace hs0_ := Z3 c13 hs0_
  refine Vy ?_
  try simp only [Zk, Zg, ↓reduceIte, Nat.reduceEqDiff]
  have hs0_ := Option.some.inj hs0_; subst hs0_
  refine And.intro (fun h => by cases h) (And.intro rfl (Fit2.of (Zo hU rfl rfl ?_) (by omega)))
  simp only [push_cast, seval, ↓reduceIte, Za, hN0, hN]
 rcases z14 with z14 | z14
 ·dsimp only [Un] at hw h
  refine Zaf hw ?_
  try simp only [Zk, Zg, ↓reduceIte, Nat.reduceEqDiff]
  have h := Option.some.inj h; subst h
  refine Zu (.inr rfl) hU [.val (.bool false)] (by omega) ?_
  simp only [push_cast, seval, ↓reduceIte, Za, Try.results23, hN0, hN]
 dsimp only [Un] at hw h
 refine X4 hw ?_
 try simp only [Zk, Zg, ↓reduceIte, Nat.reduceEqDiff]
 refine Zl [] [false, false] ?_
 simp only [push_cast, seval, ↓reduceIte]
 refine Zw [4] (Zc Zf [] ?_)
 simp only [push_cast, seval, ↓reduceIte, Za, hN0, hN]
 refine Yb ?_
 try simp only [Zk, Zg]
 have h := Option.some.inj h; subst h
 refine Zu (.inr rfl) hU [.val (.bool true)] (by omega) ?_
 simp only [push_cast, seval, ↓reduceIte, Za, Try.results23, hN0, hN]
theorem Ze2 : ∀ k, (∀ {a0 : S_api_Tree} {a1 : S_api_Tree} {r : Bool} {O : Objs} {n : Nat}, (Xl k) a0 a1 = some r → GTo Try.prog 23 [.agg (Zd a0), .agg (Zd a1)] O n (.val (.bool r)) O n) := fun k => by
 induction k with
 | zero => exact @fun a0 a1 r O n h => (nomatch (show (none : Option _) = some _ from h))
 | succ k ih => exact @fun a0 a1 r O n h => Zhg (ih)  h
theorem Xn {a0 : S_api_Tree} {a1 : S_api_Tree} {r : Bool} {O : Objs} {n : Nat} (h : Xx a0 a1 = some r) : GTo Try.prog 23 [.agg (Zd a0), .agg (Zd a1)] O n (.val (.bool r)) O n := by
 obtain ⟨k, hk⟩ := Zao h
 exact (Ze2 k)  hk
theorem Zhc {a0 : S_api_Tree} {a1 : S_api_Tree} {r : Bool} {O : Objs} {n : Nat} (h : J5 a0 a1 = some r) : GTo Try.prog 26 [.agg (Zd a0), .agg (Zd a1)] O n (.val (.bool r)) O n := by
 unfold J5 at h
 refine Qp Zf Try.call26 Try.func26 rfl (Nat.le_of_ble_eq_true rfl) (Nat.le_refl _) fun hU => ?_
 have hN0 : O n = none := hU.fresh _ (Nat.le_refl _)
 have hN : ∀ k, O (n + k) = none := fun k => hU.fresh _ (Nat.le_add_right _ _)
 show W _ _ _ _ ⟨10, [], [(0, .agg (Zd a0)), (1, .agg (Zd a1))]⟩ (Zt O n []) _
 refine Zw [2, 3] (Zc Zf [] ?_)
 simp only [push_cast, seval, ↓reduceIte, Za, hN0, hN]
 refine Zm ?_
 obtain ⟨y4, hy4, h⟩ := bC h
 obtain ⟨y5, hy5, h⟩ := bC h
 obtain ⟨y6, hy6, h⟩ := bC h
 refine Xg Zf (by kernel_rfl) [] (by kernel_rfl) ?_
 simp only [push_cast, seval, ↓reduceIte, Za, hN0, hN]
 refine PCall.of (Qh hy4) ?_
 simp only [push_cast, seval, ↓reduceIte, Za, hN0, hN]
 refine PCall.of (Qh hy5) ?_
 simp only [push_cast, seval, ↓reduceIte, Za, hN0, hN]
 refine PCall.of (Xn hy6) ?_
 simp only [push_cast, seval, ↓reduceIte, Za, hN0, hN]
 refine Zl [4] [false, false] ?_
 simp only [push_cast, seval, ↓reduceIte]
 refine Yb ?_
 try simp only [Zk, Zg]
 have h := Option.some.inj h; subst h
 refine Zu (.inr rfl) hU [.val (.bool y6)] (by omega) ?_
 simp only [push_cast, seval, ↓reduceIte, Za, Try.results26, hN0, hN]
theorem Zdr {a0 : S_api_Tree} {a1 : S_api_Tree} {a2 : S_api_Tree} {r : Bool} {O : Objs} {n : Nat} (h : Js a0 a1 a2 = some r) : GTo Try.prog 14 [.agg (Zd a0), .agg (Zd a1), .agg (Zd a2)] O n (.val (.bool r)) O n := by
 unfold Js at h
 refine Qp Zf Try.call14 Try.func14 rfl (Nat.le_of_ble_eq_true rfl) (Nat.le_refl _) fun hU => ?_
 have hN0 : O n = none := hU.fresh _ (Nat.le_refl _)
 have hN : ∀ k, O (n + k) = none := fun k => hU.fresh _ (Nat.le_add_right _ _)
 show W _ _ _ _ ⟨74, [], [(0, .agg (Zd a0)), (1, .agg (Zd a1)), (2, .agg (Zd a2))]⟩ (Zt O n []) _
 refine Zw [3, 4, 5] (Zc Zf [] ?_)
 simp only [push_cast, seval, ↓reduceIte, Za, hN0, hN]
 refine Zm ?_
 obtain ⟨z4, hz4, h⟩ := bC h
 refine Ku (E' := ⟨74, [], [(3, .ref n 0), (4, .ref (n + 1) 0), (5, .ref (n + 2) 0), (23, .val (.bool z4))]⟩) (O' := (Zt O n [some ⟨false, 25, 3, 1, (Zd a0)⟩, some ⟨false, 25, 3, 1, (Zd a1)⟩, some ⟨false, 25, 3, 1, (Zd a2)⟩])) (n0 := (n + 3)) ?_ ?_
 ·obtain ⟨y8, hy8, hz4⟩ := bC hz4
  rcases Bool.eq_false_or_eq_true y8 with c11 | c11
  ·replace hz4 := Z4 c11 hz4
   obtain ⟨y9, hy9, hz4⟩ := bC hz4
   rcases Bool.eq_false_or_eq_true y9 with c12 | c12
   ·replace hz4 := Z4 c12 hz4
    try rw [c12] at c11
    obtain ⟨y10, hy10, hz4⟩ := bC hz4
    refine Zc Zf [some true, some true, some true, some true, some true, some true] ?_
    simp only [push_cast, seval, ↓reduceIte, Za, c11, c12, hN0, hN]
    refine (Qg hy8).then ?_
    simp only [push_cast, seval, ↓reduceIte, Za, c11, c12, hN0, hN]
    refine (Qg hy9).then ?_
    simp only [push_cast, seval, ↓reduceIte, Za, c11, c12, hN0, hN]
    refine (Qg hy10).then ?_
    simp only [push_cast, seval, ↓reduceIte, Za, c11, c12, hN0, hN]
    have hz4 := Option.some.inj hz4; subst hz4
    refine And.intro rfl (Fit2.of (Zo hU rfl rfl ?_) (by omega))
    simp only [push_cast, seval, ↓reduceIte, Za, c11, c12, hN0, hN]
   replace hz4 := Z3 c12 hz4
   try rw [c12] at c11
   refine Zc Zf [some true, some true, some true, some false, some false, some false] ?_
   simp only [push_cast, seval, ↓reduceIte, Za, c11, c12, hN0, hN]
   refine (Qg hy8).then ?_
   simp only [push_cast, seval, ↓reduceIte, Za, c11, c12, hN0, hN]
   refine (Qg hy9).then ?_
   simp only [push_cast, seval, ↓reduceIte, Za, c11, c12, hN0, hN]
   have hz4 := Option.some.inj hz4; subst hz4
   refine And.intro rfl (Fit2.of (Zo hU rfl rfl ?_) (by omega))
   simp only [push_cast, seval, ↓reduceIte, Za, c11, c12, hN0, hN]
  replace hz4 := Z3 c11 hz4
  refine Zc Zf [some false, some false, some false, some false, some false, some false] ?_
  simp only [push_cast, seval, ↓reduceIte, Za, c11, hN0, hN]
  refine (Qg hy8).then ?_
  simp only [push_cast, seval, ↓reduceIte, Za, c11, hN0, hN]
  have hz4 := Option.some.inj hz4; subst hz4
  refine And.intro rfl (Fit2.of (Zo hU rfl rfl ?_) (by omega))
  simp only [push_cast, seval, ↓reduceIte, Za, c11, hN0, hN]
 refine Z0 (t := z4) rfl (fun c51 => ?_) (fun c51 => ?_)
 ·replace h := Z4 c51 h
  refine Zm ?_
  obtain ⟨y14, hy14, h⟩ := bC h
  refine Zc Zf [] ?_
  simp only [push_cast, seval, ↓reduceIte, Za, hN0, hN]
  refine (Um hy14).then ?_
  simp only [push_cast, seval, ↓reduceIte, Za, hN0, hN]
  refine Zl [6] [false, false, false] ?_
  simp only [push_cast, seval, ↓reduceIte]
  refine Yb ?_
  try simp only [Zk, Zg]
  have h := Option.some.inj h; subst h
  refine Zu (.inr rfl) hU [.val (.bool y14)] (by omega) ?_
  simp only [push_cast, seval, ↓reduceIte, Za, Try.results14, hN0, hN]
 replace h := Z3 c51 h
 refine Ya ?_
 try simp only [Zk, Zg]
 refine Zl [3, 4, 5] [true, true, true] ?_
 simp only [push_cast, seval, ↓reduceIte]
 refine Zm ?_
 obtain ⟨y16, hy16, h⟩ := bC h
 refine Zc Zf [] ?_
 simp only [push_cast, seval, ↓reduceIte, Za, hN0, hN]
 refine GCalls.argsW ?_ ((Zad hy16).then ?_)
 ·simp only [push_cast, seval, ↓reduceIte, Za, hN0, hN]
 simp only [push_cast, seval, ↓reduceIte, Za, hN0, hN]
 refine Zl [3, 4, 5, 7, 8] [true, true, true, true] ?_
 simp only [push_cast, seval, ↓reduceIte]
 refine Zm ?_
 obtain ⟨y18, hy18, h⟩ := bC h
 refine Zc Zf [] ?_
 simp only [push_cast, seval, ↓reduceIte, Za, hN0, hN]
 refine GCalls.argsW ?_ ((Zad hy18).then ?_)
 ·simp only [push_cast, seval, ↓reduceIte, Za, hN0, hN]
 simp only [push_cast, seval, ↓reduceIte, Za, hN0, hN]
 refine Zl [3, 4, 5, 7, 8, 9, 10] [true, true, true, true, true] ?_
 simp only [push_cast, seval, ↓reduceIte]
 refine Zm ?_
 obtain ⟨z22, hz22, h⟩ := bC h
 refine Ku (E' := ⟨74, [], [(4, .ref (n + 1) 0), (9, .ref (n + 4) 0), (10, .val (.bool y18.2)), (54, .val (.bool z22))]⟩) (O' := (Zt O n [none, some ⟨false, 25, 3, 1, (Zd a1)⟩, none, none, some ⟨false, 25, 3, 1, (Zd y18.1)⟩])) (n0 := (n + 5)) ?_ ?_
 ·rcases Bool.eq_false_or_eq_true y16.2 with c29 | c29
  ·replace hz22 := Z4 c29 hz22
   obtain ⟨y26, hy26, hz22⟩ := bC hz22
   obtain ⟨y27, hy27, hz22⟩ := bC hz22
   rcases Bool.eq_false_or_eq_true y27 with c30 | c30
   ·replace hz22 := Z4 c30 hz22
    try rw [c30] at c29
    obtain ⟨y28, hy28, hz22⟩ := bC hz22
    refine Xg Zf (by kernel_rfl) [some true, some true, some true, some true, some true, some true, some true, some true, some true, some true] (by kernel_rfl) ?_
    simp only [push_cast, seval, ↓reduceIte, Za, c29, c30, hN0, hN]
    refine PCall.of (Qh hy26) ?_
    simp only [push_cast, seval, ↓reduceIte, Za, c29, c30, hN0, hN]
    refine PCall.of (Xn hy27) ?_
    simp only [push_cast, seval, ↓reduceIte, Za, c29, c30, hN0, hN]
    refine PCall.of (Zhc hy28) ?_
    simp only [push_cast, seval, ↓reduceIte, Za, c29, c30, hN0, hN]
    have hz22 := Option.some.inj hz22; subst hz22
    refine And.intro rfl (Fit2.of (Zo hU rfl rfl ?_) (by omega))
    simp only [push_cast, seval, ↓reduceIte, Za, c29, c30, hN0, hN]
   replace hz22 := Z3 c30 hz22
   try rw [c30] at c29
   refine Xg Zf (by kernel_rfl) [some true, some true, some true, some true, some true, some false, some false, some false, some false, some false] (by kernel_rfl) ?_
   simp only [push_cast, seval, ↓reduceIte, Za, c29, c30, hN0, hN]
   refine PCall.of (Qh hy26) ?_
   simp only [push_cast, seval, ↓reduceIte, Za, c29, c30, hN0, hN]
   refine PCall.of (Xn hy27) ?_
   simp only [push_cast, seval, ↓reduceIte, Za, c29, c30, hN0, hN]
   have hz22 := Option.some.inj hz22; subst hz22
   refine And.intro rfl (Fit2.of (Zo hU rfl rfl ?_) (by omega))
   simp only [push_cast, seval, ↓reduceIte, Za, c29, c30, hN0, hN]
  replace hz22 := Z3 c29 hz22
  refine Xg Zf (by kernel_rfl) [some false, some false, some false, some false, some false, some false, some false, some false, some false, some false] (by kernel_rfl) ?_
  simp only [push_cast, seval, ↓reduceIte, Za, c29, hN0, hN]
  have hz22 := Option.some.inj hz22; subst hz22
  refine And.intro rfl (Fit2.of (Zo hU rfl rfl ?_) (by omega))
  simp only [push_cast, seval, ↓reduceIte, Za, c29, hN0, hN]
 refine Z0 (t := z22) rfl (fun c50 => ?_) (fun c50 => ?_)
 ·replace h := Z4 c50 h
  refine Zw [6] (Zc Zf [] ?_)
  simp only [push_cast, seval, ↓reduceIte, Za, hN0, hN]
  refine Yb ?_
  try simp only [Zk, Zg]
  have h := Option.some.inj h; subst h
  refine Zu (.inr rfl) hU [.val (.bool false)] (by omega) ?_
  simp only [push_cast, seval, ↓reduceIte, Za, Try.results14, hN0, hN]
 replace h := Z3 c50 h
 refine Ya ?_
 try simp only [Zk, Zg]
 refine Zl [4, 9, 10] [false, true, false, false, true] ?_
 simp only [push_cast, seval, ↓reduceIte]
 obtain ⟨z36, hz36, h⟩ := bC h
 refine Ku (E' := ⟨74, [], [(6, .val (.bool z36))]⟩) (O' := (Zt O n [none, none, none, none, none])) (n0 := (n + 5)) ?_ ?_
 ·rcases Bool.eq_false_or_eq_true y18.2 with c47 | c47
  ·replace hz36 := Z4 c47 hz36
   obtain ⟨y42, hy42, hz36⟩ := bC hz36
   obtain ⟨y43, hy43, hz36⟩ := bC hz36
   rcases Bool.eq_false_or_eq_true y43 with c48 | c48
   ·replace hz36 := Z4 c48 hz36
    try rw [c48] at c47
    obtain ⟨y44, hy44, hz36⟩ := bC hz36
    refine Xg Zf (by kernel_rfl) [some true, some true, some true, some true, some false, some false, some false, some false, some false, some false, some false, some true] (by kernel_rfl) ?_
    simp only [push_cast, seval, ↓reduceIte, Za, c47, c48, hN0, hN]
    refine PCall.of (Qh hy42) ?_
    simp only [push_cast, seval, ↓reduceIte, Za, c47, c48, hN0, hN]
    refine PCall.of (Xn hy43) ?_
    simp only [push_cast, seval, ↓reduceIte, Za, c47, c48, hN0, hN]
    refine PCall.of (Um hy44) ?_
    simp only [push_cast, seval, ↓reduceIte, Za, c47, c48, hN0, hN]
    have hz36 := Option.some.inj hz36; subst hz36
    refine And.intro rfl (Fit2.of (Zo hU rfl rfl ?_) (by omega))
    simp only [push_cast, seval, ↓reduceIte, Za, c47, c48, hN0, hN]
   replace hz36 := Z3 c48 hz36
   try rw [c48] at c47
   refine Xg Zf (by kernel_rfl) [some true, some true, some true, some true, some true, some true, some true, some false, some false, some false, some true, some false] (by kernel_rfl) ?_
   simp only [push_cast, seval, ↓reduceIte, Za, c47, c48, hN0, hN]
   refine PCall.of (Qh hy42) ?_
   simp only [push_cast, seval, ↓reduceIte, Za, c47, c48, hN0, hN]
   refine PCall.of (Xn hy43) ?_
   simp only [push_cast, seval, ↓reduceIte, Za, c47, c48, hN0, hN]
   have hz36 := Option.some.inj hz36; subst hz36
   refine And.intro rfl (Fit2.of (Zo hU rfl rfl ?_) (by omega))
   simp only [push_cast, seval, ↓reduceIte, Za, c47, c48, hN0, hN]
  replace hz36 := Z3 c47 hz36
  obtain ⟨y45, hy45, hz36⟩ := bC hz36
  rcases Bool.eq_false_or_eq_true y45 with c49 | c49
  ·replace hz36 := Z4 c49 hz36
   try rw [c49] at c47
   obtain ⟨y46, hy46, hz36⟩ := bC hz36
   refine Zaa Zf (by kernel_rfl) [false, false, false, false, false, false, false, false, false, false, false, false, false, true, false, false, false, false, false, false] [some false, some false, some false, some false, some true, some true, some true, some true, some true, some true, some true, some true] (by kernel_rfl) ?_
   simp only [push_cast, seval, ↓reduceIte, Za, c47, c49, hN0, hN]
   refine GCalls.argsW ?_ ((Xn hy45).then ?_)
   ·simp only [push_cast, seval, ↓reduceIte, Za, c47, c49, hN0, hN]
   simp only [push_cast, seval, ↓reduceIte, Za, c47, c49, hN0, hN]
   refine PCall.of (Um hy46) ?_
   simp only [push_cast, seval, ↓reduceIte, Za, c47, c49, hN0, hN]
   have hz36 := Option.some.inj hz36; subst hz36
   refine And.intro rfl (Fit2.of (Zo hU rfl rfl ?_) (by omega))
   simp only [push_cast, seval, ↓reduceIte, Za, c47, c49, hN0, hN]
  replace hz36 := Z3 c49 hz36
  try rw [c49] at c47
  refine Zaa Zf (by kernel_rfl) [false, false, false, false, false, false, false, false, false, false, false, false, false, true, false, false, false, false, false, false] [some false, some false, some false, some false, some true, some true, some true, some true, some true, some true, some true, some false] (by kernel_rfl) ?_
  simp only [push_cast, seval, ↓reduceIte, Za, c47, c49, hN0, hN]
  refine GCalls.argsW ?_ ((Xn hy45).then ?_)
  ·simp only [push_cast, seval, ↓reduceIte, Za, c47, c49, hN0, hN]
  simp only [push_cast, seval, ↓reduceIte, Za, c47, c49, hN0, hN]
  have hz36 := Option.some.inj hz36; subst hz36
  refine And.intro rfl (Fit2.of (Zo hU rfl rfl ?_) (by omega))
  simp only [push_cast, seval, ↓reduceIte, Za, c47, c49, hN0, hN]
 refine Yb ?_
 try simp only [Zk, Zg]
 have h := Option.some.inj h; subst h
 refine Zu (.inr rfl) hU [.val (.bool z36)] (by omega) ?_
 simp only [push_cast, seval, ↓reduceIte, Za, Try.results14, hN0, hN]
end Go.Proofs.Ytmpkfolcikhofaa
