/- Part VM1 of this seat's mirrors: functions of the seat's program, and the plain functions that they are; each theorem bears its own conditions. -/
import Derived.Test.YtmlhokaflhlhbaaVE
namespace Go.Proofs.Ytmlhokaflhlhbaa
open Go.RowKit
set_option linter.unusedVariables false
set_option linter.unusedSimpArgs false
set_option maxRecDepth 100000
set_option maxHeartbeats 4000000
attribute [local push_cast] Z6 K4 Qb Ys Zi Zfx Zfw Zgn Zgm Zm Zj Zc2 Ga U9 onW Yd Kx J6 Zf2 Ze2 Zbt Zby Zbs Zbx Zdw Zdt Zbw Zdv Zdu Zbu Zdr Gu evS wok Yr Op.operands Call.operands gop onK onP atK List.all_cons List.all_nil Bool.and_true Bool.true_and Bool.and_self Value.oneCell' List.take_zero List.take_succ_cons List.take_nil List.drop_zero List.drop_succ_cons List.drop_nil List.append_nil Nat.add_zero Nat.zero_add Ql Zq ev Yv Zk9 Zfo Zfn Zft Zfr Zfs Zfp Zfq Zfm Zid Ziw Zla Zau Ka Zal Ks Zba Um Vu Vz U5 U2 Vx U4 U3 Vw U0 Vv Vy K5 U1 Zc4 Gb Je Zam Jf Zb4 Zat Zjl bLo bHi bMx Kb Zb3 Zmb Zas Zcg Vs Qs Zip Zmf Zaj Zmk J9 Znf Zc7 Zdb Zc6 Zda Zga Zf7 Zf5 Zbe Zc8 Zf9 Zf8 Zc9 Zf6 Zb5 Zfy Zdk Gp Gn pop TK.isAgg Zgf Zgj Zge Zgi Zde Zj0 Zjx Zgh Zjz Zjy Zgg Zjw G.under G.unders List.getD_cons_zero List.getD_cons_succ List.set_cons_zero List.set_cons_succ List.map_cons List.map_nil List.toList_toArray Array.toList_append Option.toArray_none Option.toArray_some Array.toList_map Option.map_some Option.map_none Option.bind_some Option.bind_none List.getElem?_cons_zero List.getElem?_cons_succ List.getElem?_nil List.nil_append List.cons_append List.replicate_succ List.replicate_zero List.length_cons List.length_nil and_true true_and and_false false_and Bool.true_eq_false Bool.false_eq_true forall_const false_implies implies_true IntKind.bits if_true if_false ite_true ite_false eq_self true_implies false_or or_false or_true true_or not_true_eq_false not_false_eq_true decide_true decide_false decide_eq_true_eq decide_eq_false_iff_not beq_iff_eq bne_iff_ne ne_eq Bool.not_eq_true Bool.not_eq_false beq_eq_false_iff_ne bne_eq_false_iff_eq beq_self_eq_true bne_self_eq_false Option.some.injEq exists_eq_left' exists_eq_left ge_iff_le gt_iff_lt decide_not Bool.not_true Bool.not_false imp_self Zjn cond_true cond_false Zq8 Zq7 Bool.not_not Bool.and_false Bool.false_and Bool.or_true Bool.true_or Bool.or_false Bool.false_or K2 Zfb Zeh Zcy Za5 Ur Option.join_some Nat.add_assoc Int.toNat_natCast eI eB eS eL U6 Ut V5 Zf1 Zfz Zf0 Znt Zpn Uv Ub Zgu Zgs Zgt Zlh Zc1 Zjg Zdp Zjf Vj Zic List.length_append G.agg.injEq G.row.injEq G.ref.injEq G.val.injEq G.sl.injEq G.tup.injEq Value.int.injEq Value.bool.injEq Value.string.injEq List.cons.injEq exists_and_left exists_const List.flatten_cons List.flatten_nil Int.le_refl Nat.le_refl Zee Qr Zcz Bool.not_eq_true' Bool.not_eq_false' Zh5 G0 Zk1 Zk5 Zk0 Zk4 Zo4 Zo0 List.size_toArray Zgw Zgx G.ren G.rens Zix Uo Zgz Zfj Zfk Zds Zk6 Gi G.fn.injEq Zbz Zeg Zh3 Zo1 Zef Zk3 Zo3 Zo2 Zk2 Zjr Zno Option.join_none Xh Jd undef Zch Arr.len Arr.put_eq Uu Zbi Gj Ua Zgr Zgp Zgq onB Zns Zin Zdq Zco Zcp Zcq Zcr Zcs Zct Zbf Zbm Zbk Gm Uc Zbl Zdj Zdi Zdh Zdg Zpm Zqt Zlg Zj2 Xp Zlc Zgb Zbo Gl Zmq Zg2 Zar Zcf Vf Zbp Zcu Zcv Zcw Zcx Zay Zaz Za0 Za1 Za2 Za3 Za4 V0 prT K9 Zr8 Zkp Zqy Zkq Zr9 Zkr Zsa Zks Zsb Zkt Zsc Zku Zsd Zkv Zse Zkw Zny Zg4 Znz Zg5 Zn0 Zg6 Zn1 Zg7 Zn2 Zg8 Zn3 Zg9 Zn4 Zha Zn5 Zhb Zn6 Zhc Zn7 Zhd Zn8 Zhe Zn9 Zhf Zoa Zhg Zob Zeq Zoc Zhh Zod Zhi Zoe Zhj Zg3 Zhk Zof Zhl Zog Zhm Zez Zer Zoh Zhn Zoi Zho Zoj Zhp Zok Zhq Zol Zhr Zom Zhs Zon Zht Zoo Zhu Zop Zhv Zoq Zhw Zor Zhx Zos Zhy Zot Zhz Zou Zh0 Zov Zh1 Zow Zh2 Zj8 Zdx Zj9 Zdy Zka Zdz Zkb Zd0 Zkc Zd1 Zkd Zd2 Zke Zd3 Zkf Zd4 Zkg Zd5 Zkh Zd6 Zki Zd7 Zkj Zd8 Zkk Zd9 Zkl Zea Zkm Zeb Zkn Zec Zko Zed Zab Gz Gf Gh Zae Ul Ui Ug Gw Ko Km Kc Kj Kp Jx Jw Jv Kl Zf X1 X0 Xx Xy X2 Xt Xs Xr Xz V2 Zaa Gy Ge Gg Zad Uk Uh Uf Gv V1 Jr Qc Qd Y3 Zo Xj Xi Xe Xf Xk Xa Y8 Y7 Xg Zy X7 Q9 Q8 Q3 Q5 Ja Qx Qv Qu Q7
theorem Jb {a0 r : List Int} {O : Objs} {n : Nat} (h : Z8 a0 = some r) : GTo Try.prog 70 [.sl a0.length (fl (eI .u64) a0)] O n (.row n r.length) (Zv O n [some ⟨true, 31, 1, r.length, fl (eI .u64) r⟩]) (n + 1) := by
 have h1 := Zth h
 have h2 := Zti h
 have h3 := Zso h
 rw [List.nil_append] at h3
 subst h3
 simp only [List.length_nil, Nat.zero_add] at h1 h2
 clear h
 refine Xd Ze Try.call70 Try.func70 rfl (Nat.le_of_ble_eq_true rfl) (by omega) fun hU => ?_
 have hN0 : O n = none := hU.fresh _ (Nat.le_refl _)
 have hN : ∀ k, O (n + k) = none := fun k => hU.fresh _ (Nat.le_add_right _ _)
 show W _ _ _ _ ⟨8, [], [(0, .sl r.length (fl (eI .u64) r))]⟩ (Zv O n []) _
 refine Zw [0] (Zb Ze [] ?_)
 simp only [push_cast, seval, ↓reduceIte, Za, hN0, hN]
 refine Ztf 0 r.length (fl (eI .u64) r) rfl (Nat.le_of_ble_eq_true rfl) (Z3 X9 _) fun A c hA => ?_
 refine Zw [0, 4] (Zb Ze [] ?_)
 simp only [push_cast, seval, ↓reduceIte, Za, hN0, hN]
 cases A with
 | none =>
  obtain rfl : r = [] := List.eq_nil_of_length_eq_zero (hA rfl)
  refine Zz (t := true) rfl (fun _ => ?_) (fun hc => by cases hc)
  refine Zw [2] (Zb Ze [] ?_)
  simp only [push_cast, seval, ↓reduceIte, Za, hN0, hN]
  refine Zx ?_
  try simp only [Zm, Zj]
  refine Zrg (k := 1) (L3 := [some ⟨true, 31, 1, 0, []⟩]) (E2 := ⟨8, [], [(2, .row n 0), (2, .val (.slice none 0 0))]⟩) (n3 := (n + 1)) (.inr rfl) hU rfl [.row n 0] ?_ ?_
  ·have ha := Zqb (ba := n) (E := ⟨8, [], [(2, .val (.slice none 0 0))]⟩) (O := (Zv O n [])) (n := n) 2 31 1 rfl (by omega)
   simp only [Ur] at ha
   exact ha
  simp only [push_cast, seval, ↓reduceIte, Za, Try.results70, hN0, hN]
 | some A =>
  refine Zz (t := false) rfl (fun hc => by cases hc) (fun _ => ?_)
  refine Yb ?_
  try simp only [Zm, Zj]
  refine And.intro rfl (And.intro (Nat.le_of_ble_eq_true rfl) ?_)
  refine Zl ?_
  refine Zb Ze [] ?_
  simp only [push_cast, seval, ↓reduceIte, Za, h1, h2, hN0, hN]
  refine Zx ?_
  try simp only [Zm, Zj]
  refine Zrf (.inr rfl) hU rfl [.row n r.length] (by omega) ?_
  simp only [push_cast, seval, ↓reduceIte, Za, Try.results70, hN0, hN]
theorem Vm {a0 r : List Int} {O : Objs} {n : Nat} (h : Z8 a0 = some r) : GTo Try.prog 70 [.sl a0.length (fl (eI .u64) a0)] O n (.sl r.length (fl (eI .u64) r)) O n := by
 refine GTo.freeze (Jb h) fun hU => ?_
 have hN0 : O n = none := hU.fresh _ (Nat.le_refl _)
 have hN : ∀ k, O (n + k) = none := fun k => hU.fresh _ (Nat.le_add_right _ _)
 simp only [push_cast, seval, ↓reduceIte, Za, hN0, hN]
theorem Zju {a0 : (List (List Int))} {r : (List (List Int))} {O : Objs} {n : Nat} (h : Kg a0 = some r) : GTo Try.prog 47 [.sl a0.length (fl (eL (eI .u64)) a0)] O n (.sl r.length (fl (eL (eI .u64)) r)) O n := by
 unfold Kg at h
 refine Xd Ze Try.call47 Try.func47 rfl (Nat.le_of_ble_eq_true rfl) (Nat.le_refl _) fun hU => ?_
 have hN0 : O n = none := hU.fresh _ (Nat.le_refl _)
 have hN : ∀ k, O (n + k) = none := fun k => hU.fresh _ (Nat.le_add_right _ _)
 show W _ _ _ _ ⟨23, [], [(0, .sl a0.length (fl (eL (eI .u64)) a0))]⟩ (Zv O n []) _
 refine Zw [0] (Zb Ze [] ?_)
 simp only [push_cast, seval, ↓reduceIte, Za, hN0, hN]
 refine Zl ?_
 obtain ⟨l2, al2, bl2, cl2, el2, h⟩ := bM2 (c := 24) rfl h
 have nl2 : Int.toNat (a0.length : Int) = List.length l2 := by rw [el2, List.length_replicate]
 have fl2 : ∀ O O' n, K0 O O' n (List.replicate (List.length l2) [G.val (.slice none 0 0)]).flatten (fl (eL (eI .u64)) l2) = True := fun O O' n => by rw [← nl2, el2]; exact eq_true (Zo5 _ _)
 clear el2
 refine Zb Ze [] ?_
 simp only [push_cast, seval, ↓reduceIte, Za, al2, bl2, cl2, fl2, nl2, hN0, hN]
 refine Zt0 ⟨23, [], [(0, .sl a0.length (fl (eL (eI .u64)) a0)), (3, .row n l2.length)]⟩ (Zv O n [some ⟨true, 42, 1, l2.length, fl (eL (eI .u64)) l2⟩]) (Xc hU rfl rfl ?_) ?_
 ·simp only [push_cast, seval, ↓reduceIte, Za, al2, bl2, cl2, fl2, nl2, hN0, hN]
 refine Zl ?_
 refine Zw [3, 9, 10, 11] (Zb Ze [] ?_)
 simp only [push_cast, seval, ↓reduceIte, Za, hN0, hN]
 refine Zk [3, 9, 10, 11] [true] ?_
 simp only [push_cast, seval, ↓reduceIte]
 obtain ⟨z9, hz9, h⟩ := bC h
 refine Zi9 (E' := ⟨23, [], [(3, .row n z9.length)]⟩) (O' := (Zv O n [some ⟨true, 42, 1, z9.length, fl (eL (eI .u64)) z9⟩])) (n0 := (n + 1)) ?_ ?_
 ·refine Zl1 hz9 (fun s0_ => ⟨23, [], [(3, .row n s0_.2.length), (9, .sl a0.length (fl (eL (eI .u64)) a0)), (10, .val (.int .i64 (a0.length : Int))), (11, .val (.int .i64 s0_.1))]⟩) (fun s0_ => (Zv O n [some ⟨true, 42, 1, s0_.2.length, fl (eL (eI .u64)) s0_.2⟩])) (fun z9 => JX 0 n (⟨23, [], [(3, .row n z9.length)]⟩ : Env) (Zv O n [some ⟨true, 42, 1, z9.length, fl (eL (eI .u64)) z9⟩]) (n + 1)) ?_
  intro s0_ x0_ hs0_
  unfold X8 at hs0_
  try dsimp only
  refine Zw [3, 9, 10, 11, 12] (Zb Ze [] ?_)
  simp only [push_cast, seval, ↓reduceIte, Za, hN0, hN]
  refine Zl ?_
  refine Zz (t := (decide (s0_.1 < (a0.length : Int)))) rfl (fun c8 => ?_) (fun c8 => ?_)
  ·replace hs0_ := Z5 c8 hs0_
   refine Yb ?_
   try simp only [Zm, Zj]
   refine Zk [3, 9, 10, 11] [true] ?_
   simp only [push_cast, seval, ↓reduceIte]
   refine Zl ?_
   refine Jz ?_
   obtain ⟨x4, hx4, ax4, bx4, cx4, hs0_⟩ := bE (f := (eL (eI .u64))) Zez (fun _ => rfl) (by decide) hs0_
   refine Zw [3, 4, 5, 9, 10, 11] (Zb Ze [] ?_)
   simp only [push_cast, Nat.reduceAdd, Nat.reduceSub, Nat.reduceMul, Nat.reduceLeDiff, Nat.reduceLT, Nat.reduceEqDiff, ↓reduceIte, reduceCtorEq, Int.reduceBEq, Int.reduceBNe, Nat.reduceBEq, Int.reduceLE, Int.reduceLT, Int.reduceEq, Int.reduceNe, Int.reduceNeg, Nat.reduceDiv, Nat.reduceMod, Nat.reducePow, Za, ax4, bx4, cx4, hN0, hN]
   obtain ⟨y5, hy5, hs0_⟩ := bC hs0_
   obtain ⟨x6, hx6, ax6, bx6, cx6, hs0_⟩ := bE (f := (eL (eI .u64))) Zez (fun _ => rfl) (by decide) hs0_
   have gu7 : Vl (fl (eL (eI .u64)) s0_.2) [.sl y5.length (fl (eI .u64) y5)] (Int.toNat s0_.1 * 1) = some (fl (eL (eI .u64)) (Zj7 s0_.2 s0_.1 y5)) := Zqm (f := (eL (eI .u64))) (ti := ⟨.bool, 1, 0, [], false⟩) (x := y5) (fun _ => rfl) (Zjj hx6)
   refine Zb Ze [] ?_
   simp only [push_cast, Nat.reduceAdd, Nat.reduceSub, Nat.reduceMul, Nat.reduceLeDiff, Nat.reduceLT, Nat.reduceEqDiff, ↓reduceIte, reduceCtorEq, Int.reduceBEq, Int.reduceBNe, Nat.reduceBEq, Int.reduceLE, Int.reduceLT, Int.reduceEq, Int.reduceNe, Int.reduceNeg, Nat.reduceDiv, Nat.reduceMod, Nat.reducePow, Za, ax6, bx6, cx6, gu7, hN0, hN]
   refine (Vm hy5).then ?_
   simp only [push_cast, Nat.reduceAdd, Nat.reduceSub, Nat.reduceMul, Nat.reduceLeDiff, Nat.reduceLT, Nat.reduceEqDiff, ↓reduceIte, reduceCtorEq, Int.reduceBEq, Int.reduceBNe, Nat.reduceBEq, Int.reduceLE, Int.reduceLT, Int.reduceEq, Int.reduceNe, Int.reduceNeg, Nat.reduceDiv, Nat.reduceMod, Nat.reducePow, Za, ax6, bx6, cx6, gu7, hN0, hN]
   refine Zk [3, 9, 10, 11] [true] ?_
   simp only [push_cast, seval, ↓reduceIte]
   refine Zb Ze [] ?_
   simp only [push_cast, seval, ↓reduceIte, Za, hN0, hN]
   have hs0_ := Option.some.inj hs0_; subst hs0_
   refine And.intro rfl (Fit2.of (Xc hU rfl rfl ?_) (by omega))
   simp only [push_cast, seval, ↓reduceIte, Za, hN0, hN]
  replace hs0_ := Z4 c8 hs0_
  refine Zo8 ?_
  try simp only [Zm, Zj, ↓reduceIte, Nat.reduceEqDiff]
  have hs0_ := Option.some.inj hs0_; subst hs0_
  refine And.intro (fun h => by cases h) (And.intro rfl (Fit2.of (Xc hU rfl rfl ?_) (by omega)))
  simp only [push_cast, seval, ↓reduceIte, Za, hN0, hN]
 try simp only [Zm, Zj, ↓reduceIte, Nat.reduceEqDiff]
 refine Zk [3] [true] ?_
 simp only [push_cast, seval, ↓reduceIte]
 refine Zw [2] (Zb Ze [] ?_)
 simp only [push_cast, seval, ↓reduceIte, Za, hN0, hN]
 refine Zx ?_
 try simp only [Zm, Zj]
 have h := Option.some.inj h; subst h
 refine Zn (.inr rfl) hU [.row n z9.length] (by omega) ?_
 simp only [push_cast, seval, ↓reduceIte, Za, Try.results47, hN0, hN]
theorem Zdc {a0 : (List (List Int))} {r : (Option Zg)} {O : Objs} {n : Nat} (h : Ku a0 = some r) : GTo Try.prog 15 [.sl a0.length (fl (eL (eI .u64)) a0)] O n ((gP Zf r)) O n := by
 unfold Ku at h
 refine Xd Ze Try.call15 Try.func15 rfl (Nat.le_of_ble_eq_true rfl) (Nat.le_refl _) fun hU => ?_
 have hN0 : O n = none := hU.fresh _ (Nat.le_refl _)
 have hN : ∀ k, O (n + k) = none := fun k => hU.fresh _ (Nat.le_add_right _ _)
 show W _ _ _ _ ⟨7, [], [(0, .sl a0.length (fl (eL (eI .u64)) a0))]⟩ (Zv O n []) _
 refine Zw [0] (Zb Ze [] ?_)
 simp only [push_cast, seval, ↓reduceIte, Za, hN0, hN]
 refine Zl ?_
 obtain ⟨y2, hy2, h⟩ := bC h
 refine Zb Ze [] ?_
 simp only [push_cast, seval, ↓reduceIte, Za, hN0, hN]
 refine (Zju hy2).then ?_
 simp only [push_cast, seval, ↓reduceIte, Za, hN0, hN]
 refine Zk [2] [true] ?_
 simp only [push_cast, seval, ↓reduceIte]
 refine Zx ?_
 try simp only [Zm, Zj]
 have h := Option.some.inj h; subst h
 refine Zn (.inr rfl) hU [.ref n 0] (by omega) ?_
 simp only [push_cast, seval, ↓reduceIte, Za, Try.results15, hN0, hN]
theorem Ze7 {a0 : (Option Zg)} {r : Int} {O : Objs} {n : Nat} (h : Jq a0 = some r) : GTo Try.prog 106 [(gP Zf a0)] O n (.val (.int .i64 r)) O n := by
 unfold Jq at h
 refine Xd Ze Try.call106 Try.func106 rfl (Nat.le_of_ble_eq_true rfl) (Nat.le_refl _) fun hU => ?_
 have hN0 : O n = none := hU.fresh _ (Nat.le_refl _)
 have hN : ∀ k, O (n + k) = none := fun k => hU.fresh _ (Nat.le_add_right _ _)
 show W _ _ _ _ ⟨10, [], [(0, (gP Zf a0))]⟩ (Zv O n []) _
 refine Zw [0] (Zb Ze [] ?_)
 simp only [push_cast, seval, ↓reduceIte, Za, hN0, hN]
 refine Zl ?_
 have g2 := Znb (f := Zf) (t := 24) Zeq a0
 refine Zw [0, 4] (Zb Ze [] ?_)
 simp only [push_cast, seval, ↓reduceIte, Za, g2, hN0, hN]
 refine Zz (t := (Option.isNone a0)) rfl (fun c5 => ?_) (fun c5 => ?_)
 ·replace h := Z5 c5 h
  refine Zw [2] (Zb Ze [] ?_)
  simp only [push_cast, seval, ↓reduceIte, Za, hN0, hN]
  refine Zx ?_
  try simp only [Zm, Zj]
  have h := Option.some.inj h; subst h
  refine Zn (.inr rfl) hU [.val (.int .i64 0)] (by omega) ?_
  simp only [push_cast, seval, ↓reduceIte, Za, Try.results106, hN0, hN]
 replace h := Z4 c5 h
 refine Yb ?_
 try simp only [Zm, Zj]
 refine Zk [0] [] ?_
 simp only [push_cast, seval, ↓reduceIte]
 obtain ⟨x4, hx4, h⟩ := bC h
 refine Zw [2] (Zb Ze [] ?_)
 simp only [push_cast, seval, ↓reduceIte, Za, hx4, hN0, hN]
 refine Zx ?_
 try simp only [Zm, Zj]
 have h := Option.some.inj h; subst h
 refine Zn (.inr rfl) hU [.val (.int .i64 (x4.segments.length : Int))] (by omega) ?_
 simp only [push_cast, seval, ↓reduceIte, Za, Try.results106, hN0, hN]
theorem Y0 {a0 : (Option Zg)} {a1 : Int} {r : Bool} {O : Objs} {n : Nat} (h : Xb a0 a1 = some r) : GTo Try.prog 100 [(gP Zf a0), .val (.int .i64 a1)] O n (.val (.bool r)) O n := by
 unfold Xb at h
 refine Xd Ze Try.call100 Try.func100 rfl (Nat.le_of_ble_eq_true rfl) (Nat.le_refl _) fun hU => ?_
 have hN0 : O n = none := hU.fresh _ (Nat.le_refl _)
 have hN : ∀ k, O (n + k) = none := fun k => hU.fresh _ (Nat.le_add_right _ _)
 show W _ _ _ _ ⟨13, [], [(0, (gP Zf a0)), (1, .val (.int .i64 a1))]⟩ (Zv O n []) _
 refine Zw [0, 1] (Zb Ze [] ?_)
 simp only [push_cast, seval, ↓reduceIte, Za, hN0, hN]
 obtain ⟨z2, hz2, h⟩ := bC h
 refine Zb1 (E' := ⟨13, [], [(4, .val (.bool z2))]⟩) (O' := (Zv O n [])) (n0 := n) ?_ ?_
 ·rcases Bool.eq_false_or_eq_true (decide (0 ≤ a1)) with c5 | c5
  ·replace hz2 := Z5 c5 hz2
   obtain ⟨y4, hy4, hz2⟩ := bC hz2
   refine Zb Ze [some true, some true, some true, some true] ?_
   simp only [push_cast, seval, ↓reduceIte, Za, c5, hN0, hN]
   refine (Ze7 hy4).then ?_
   simp only [push_cast, seval, ↓reduceIte, Za, c5, hN0, hN]
   have hz2 := Option.some.inj hz2; subst hz2
   refine And.intro rfl (Fit2.of (Xc hU rfl rfl ?_) (by omega))
   simp only [push_cast, seval, ↓reduceIte, Za, c5, hN0, hN]
  replace hz2 := Z4 c5 hz2
  refine Zb Ze [some false, some false, some false, some false] ?_
  simp only [push_cast, seval, ↓reduceIte, Za, c5, hN0, hN]
  have hz2 := Option.some.inj hz2; subst hz2
  refine And.intro rfl (Fit2.of (Xc hU rfl rfl ?_) (by omega))
  simp only [push_cast, seval, ↓reduceIte, Za, c5, hN0, hN]
 refine Zx ?_
 try simp only [Zm, Zj]
 have h := Option.some.inj h; subst h
 refine Zn (.inr rfl) hU [.val (.bool z2)] (by omega) ?_
 simp only [push_cast, seval, ↓reduceIte, Za, Try.results100, hN0, hN]
theorem J8 {a0 : (Option Zg)} {a1 : Int} {r : Int} {O : Objs} {n : Nat} (h : Xl a0 a1 = some r) : GTo Try.prog 101 [(gP Zf a0), .val (.int .i64 a1)] O n (.val (.int .i64 r)) O n := by
 unfold Xl at h
 refine Xd Ze Try.call101 Try.func101 rfl (Nat.le_of_ble_eq_true rfl) (Nat.le_refl _) fun hU => ?_
 have hN0 : O n = none := hU.fresh _ (Nat.le_refl _)
 have hN : ∀ k, O (n + k) = none := fun k => hU.fresh _ (Nat.le_add_right _ _)
 show W _ _ _ _ ⟨17, [], [(0, (gP Zf a0)), (1, .val (.int .i64 a1))]⟩ (Zv O n []) _
 refine Zw [0, 1] (Zb Ze [] ?_)
 simp only [push_cast, seval, ↓reduceIte, Za, hN0, hN]
 refine Zl ?_
 refine Zl ?_
 obtain ⟨y2, hy2, h⟩ := bC h
 refine Zb Ze [] ?_
 simp only [push_cast, seval, ↓reduceIte, Za, hN0, hN]
 refine (Y0 hy2).then ?_
 simp only [push_cast, seval, ↓reduceIte, Za, hN0, hN]
 refine Zk [0, 1, 8] [] ?_
 simp only [push_cast, seval, ↓reduceIte]
 refine Zz (t := (!y2)) rfl (fun c7 => ?_) (fun c7 => ?_)
 ·replace h := Z5 c7 h
  refine Zw [4] (Zb Ze [] ?_)
  simp only [push_cast, seval, ↓reduceIte, Za, hN0, hN]
  refine Zx ?_
  try simp only [Zm, Zj]
  have h := Option.some.inj h; subst h
  refine Zn (.inr rfl) hU [.val (.int .i64 0)] (by omega) ?_
  simp only [push_cast, seval, ↓reduceIte, Za, Try.results101, hN0, hN]
 replace h := Z4 c7 h
 refine Yb ?_
 try simp only [Zm, Zj]
 refine Zk [0, 1] [] ?_
 simp only [push_cast, seval, ↓reduceIte]
 obtain ⟨x5, hx5, h⟩ := bC h
 obtain ⟨x6, hx6, ax6, bx6, cx6, h⟩ := bE (f := (eL (eI .u64))) Zez (fun _ => rfl) (by decide) h
 refine Zw [4] (Zb Ze [] ?_)
 simp only [push_cast, Nat.reduceAdd, Nat.reduceSub, Nat.reduceMul, Nat.reduceLeDiff, Nat.reduceLT, Nat.reduceEqDiff, ↓reduceIte, reduceCtorEq, Int.reduceBEq, Int.reduceBNe, Nat.reduceBEq, Int.reduceLE, Int.reduceLT, Int.reduceEq, Int.reduceNe, Int.reduceNeg, Nat.reduceDiv, Nat.reduceMod, Nat.reducePow, Za, hx5, ax6, bx6, cx6, hN0, hN]
 refine Zx ?_
 try simp only [Zm, Zj]
 have h := Option.some.inj h; subst h
 refine Zn (.inr rfl) hU [.val (.int .i64 (x6.length : Int))] (by omega) ?_
 simp only [push_cast, seval, ↓reduceIte, Za, Try.results101, hN0, hN]
theorem Kw {a0 : (Option Zg)} {a1 : Int} {a2 : Int} {a3 : Int} {r : Bool} {O : Objs} {n : Nat} (h : Y5 a0 a1 a2 a3 = some r) : GTo Try.prog 82 [(gP Zf a0), .val (.int .i64 a1), .val (.int .i64 a2), .val (.int .i64 a3)] O n (.val (.bool r)) O n := by
 unfold Y5 at h
 refine Xd Ze Try.call82 Try.func82 rfl (Nat.le_of_ble_eq_true rfl) (Nat.le_refl _) fun hU => ?_
 have hN0 : O n = none := hU.fresh _ (Nat.le_refl _)
 have hN : ∀ k, O (n + k) = none := fun k => hU.fresh _ (Nat.le_add_right _ _)
 show W _ _ _ _ ⟨36, [], [(0, (gP Zf a0)), (1, .val (.int .i64 a1)), (2, .val (.int .i64 a2)), (3, .val (.int .i64 a3))]⟩ (Zv O n []) _
 refine Zw [0, 1, 2, 3] (Zb Ze [] ?_)
 simp only [push_cast, seval, ↓reduceIte, Za, hN0, hN]
 obtain ⟨z4, hz4, h⟩ := bC h
 refine Zb1 (E' := ⟨36, [], [(8, .val (.bool z4))]⟩) (O' := (Zv O n [])) (n0 := n) ?_ ?_
 ·obtain ⟨y8, hy8, hz4⟩ := bC hz4
  rcases Bool.eq_false_or_eq_true y8 with c11 | c11
  ·replace hz4 := Z5 c11 hz4
   rcases Bool.eq_false_or_eq_true (decide (0 ≤ a2)) with c12 | c12
   ·replace hz4 := Z5 c12 hz4
    try rw [c12] at c11
    rcases Bool.eq_false_or_eq_true (decide (0 ≤ a3)) with c13 | c13
    ·replace hz4 := Z5 c13 hz4
     try rw [c13] at c11
     try rw [c13] at c12
     obtain ⟨y9, hy9, hz4⟩ := bC hz4
     rcases Bool.eq_false_or_eq_true (decide (a3 ≤ y9)) with c14 | c14
     ·replace hz4 := Z5 c14 hz4
      try rw [c14] at c11
      try rw [c14] at c12
      try rw [c14] at c13
      obtain ⟨y10, hy10, hz4⟩ := bC hz4
      refine Zb Ze [none, none, none, none, some true, some true, some true, some true, some true, some true, some true, some true, some true, some true, some true, some true] ?_
      simp only [push_cast, seval, ↓reduceIte, Za, c11, c12, c13, c14, hN0, hN]
      repeat (with_reducible refine And.intro (by first | (intro h0; simp only [h0, and_self]; done) | (intro h0; simp only [h0, Bool.not_false, Bool.not_true, Bool.true_and, Bool.and_true, true_and, and_true, and_self, imp_self, implies_true, bne_iff_ne, ne_eq, beq_iff_eq]; done) | (intros; simp_all; done) | exact True.intro) ?_)
      refine (Y0 hy8).then ?_
      simp only [push_cast, seval, ↓reduceIte, Za, c11, c12, c13, c14, hN0, hN]
      repeat (with_reducible refine And.intro (by first | (intro h0; simp only [h0, and_self]; done) | (intro h0; simp only [h0, Bool.not_false, Bool.not_true, Bool.true_and, Bool.and_true, true_and, and_true, and_self, imp_self, implies_true, bne_iff_ne, ne_eq, beq_iff_eq]; done) | (intros; simp_all; done) | exact True.intro) ?_)
      refine (J8 hy9).then ?_
      simp only [push_cast, seval, ↓reduceIte, Za, c11, c12, c13, c14, hN0, hN]
      repeat (with_reducible refine And.intro (by first | (intro h0; simp only [h0, and_self]; done) | (intro h0; simp only [h0, Bool.not_false, Bool.not_true, Bool.true_and, Bool.and_true, true_and, and_true, and_self, imp_self, implies_true, bne_iff_ne, ne_eq, beq_iff_eq]; done) | (intros; simp_all; done) | exact True.intro) ?_)
      refine (J8 hy10).then ?_
      simp only [push_cast, seval, ↓reduceIte, Za, c11, c12, c13, c14, hN0, hN]
      repeat (with_reducible refine And.intro (by first | (intro h0; simp only [h0, and_self]; done) | (intro h0; simp only [h0, Bool.not_false, Bool.not_true, Bool.true_and, Bool.and_true, true_and, and_true, and_self, imp_self, implies_true, bne_iff_ne, ne_eq, beq_iff_eq]; done) | (intros; simp_all; done) | exact True.intro) ?_)
      have hz4 := Option.some.inj hz4; subst hz4
      refine And.intro rfl (Fit2.of (Xc hU rfl rfl ?_) (by omega))
      simp only [push_cast, seval, ↓reduceIte, Za, c11, c12, c13, c14, hN0, hN]
     replace hz4 := Z4 c14 hz4
     try rw [c14] at c11
     try rw [c14] at c12
     try rw [c14] at c13
     refine Zb Ze [none, none, none, none, some true, some true, some true, some true, some true, some false, some false, some false, some false, some false, some false, some false] ?_
     simp only [push_cast, seval, ↓reduceIte, Za, c11, c12, c13, c14, hN0, hN]
     repeat (with_reducible refine And.intro (by first | (intro h0; simp only [h0, and_self]; done) | (intro h0; simp only [h0, Bool.not_false, Bool.not_true, Bool.true_and, Bool.and_true, true_and, and_true, and_self, imp_self, implies_true, bne_iff_ne, ne_eq, beq_iff_eq]; done) | (intros; simp_all; done) | exact True.intro) ?_)
     refine (Y0 hy8).then ?_
     simp only [push_cast, seval, ↓reduceIte, Za, c11, c12, c13, c14, hN0, hN]
     repeat (with_reducible refine And.intro (by first | (intro h0; simp only [h0, and_self]; done) | (intro h0; simp only [h0, Bool.not_false, Bool.not_true, Bool.true_and, Bool.and_true, true_and, and_true, and_self, imp_self, implies_true, bne_iff_ne, ne_eq, beq_iff_eq]; done) | (intros; simp_all; done) | exact True.intro) ?_)
     refine (J8 hy9).then ?_
     simp only [push_cast, seval, ↓reduceIte, Za, c11, c12, c13, c14, hN0, hN]
     repeat (with_reducible refine And.intro (by first | (intro h0; simp only [h0, and_self]; done) | (intro h0; simp only [h0, Bool.not_false, Bool.not_true, Bool.true_and, Bool.and_true, true_and, and_true, and_self, imp_self, implies_true, bne_iff_ne, ne_eq, beq_iff_eq]; done) | (intros; simp_all; done) | exact True.intro) ?_)
     have hz4 := Option.some.inj hz4; subst hz4
     refine And.intro rfl (Fit2.of (Xc hU rfl rfl ?_) (by omega))
     simp only [push_cast, seval, ↓reduceIte, Za, c11, c12, c13, c14, hN0, hN]
    replace hz4 := Z4 c13 hz4
    try rw [c13] at c11
    try rw [c13] at c12
    refine Zb Ze [none, none, none, none, some false, some false, some false, some false, some false, some false, some false, some false, some false, some false, some false, some false] ?_
    simp only [push_cast, seval, ↓reduceIte, Za, c11, c12, c13, hN0, hN]
    repeat (with_reducible refine And.intro (by first | (intro h0; simp only [h0, and_self]; done) | (intro h0; simp only [h0, Bool.not_false, Bool.not_true, Bool.true_and, Bool.and_true, true_and, and_true, and_self, imp_self, implies_true, bne_iff_ne, ne_eq, beq_iff_eq]; done) | (intros; simp_all; done) | exact True.intro) ?_)
    refine (Y0 hy8).then ?_
    simp only [push_cast, seval, ↓reduceIte, Za, c11, c12, c13, hN0, hN]
    repeat (with_reducible refine And.intro (by first | (intro h0; simp only [h0, and_self]; done) | (intro h0; simp only [h0, Bool.not_false, Bool.not_true, Bool.true_and, Bool.and_true, true_and, and_true, and_self, imp_self, implies_true, bne_iff_ne, ne_eq, beq_iff_eq]; done) | (intros; simp_all; done) | exact True.intro) ?_)
    have hz4 := Option.some.inj hz4; subst hz4
    refine And.intro rfl (Fit2.of (Xc hU rfl rfl ?_) (by omega))
    simp only [push_cast, seval, ↓reduceIte, Za, c11, c12, c13, hN0, hN]
   replace hz4 := Z4 c12 hz4
   try rw [c12] at c11
   refine Zb Ze [none, none, none, none, some false, some false, some false, some false, some false, some false, some false, some false, some false, some false, some false, some false] ?_
   simp only [push_cast, seval, ↓reduceIte, Za, c11, c12, hN0, hN]
   repeat (with_reducible refine And.intro (by first | (intro h0; simp only [h0, and_self]; done) | (intro h0; simp only [h0, Bool.not_false, Bool.not_true, Bool.true_and, Bool.and_true, true_and, and_true, and_self, imp_self, implies_true, bne_iff_ne, ne_eq, beq_iff_eq]; done) | (intros; simp_all; done) | exact True.intro) ?_)
   refine (Y0 hy8).then ?_
   simp only [push_cast, seval, ↓reduceIte, Za, c11, c12, hN0, hN]
   repeat (with_reducible refine And.intro (by first | (intro h0; simp only [h0, and_self]; done) | (intro h0; simp only [h0, Bool.not_false, Bool.not_true, Bool.true_and, Bool.and_true, true_and, and_true, and_self, imp_self, implies_true, bne_iff_ne, ne_eq, beq_iff_eq]; done) | (intros; simp_all; done) | exact True.intro) ?_)
   have hz4 := Option.some.inj hz4; subst hz4
   refine And.intro rfl (Fit2.of (Xc hU rfl rfl ?_) (by omega))
   simp only [push_cast, seval, ↓reduceIte, Za, c11, c12, hN0, hN]
  replace hz4 := Z4 c11 hz4
  refine Zb Ze [none, none, none, none, some false, some false, some false, some false, some false, some false, some false, some false, some false, some false, some false, some false] ?_
  simp only [push_cast, seval, ↓reduceIte, Za, c11, hN0, hN]
  repeat (with_reducible refine And.intro (by first | (intro h0; simp only [h0, and_self]; done) | (intro h0; simp only [h0, Bool.not_false, Bool.not_true, Bool.true_and, Bool.and_true, true_and, and_true, and_self, imp_self, implies_true, bne_iff_ne, ne_eq, beq_iff_eq]; done) | (intros; simp_all; done) | exact True.intro) ?_)
  refine (Y0 hy8).then ?_
  simp only [push_cast, seval, ↓reduceIte, Za, c11, hN0, hN]
  repeat (with_reducible refine And.intro (by first | (intro h0; simp only [h0, and_self]; done) | (intro h0; simp only [h0, Bool.not_false, Bool.not_true, Bool.true_and, Bool.and_true, true_and, and_true, and_self, imp_self, implies_true, bne_iff_ne, ne_eq, beq_iff_eq]; done) | (intros; simp_all; done) | exact True.intro) ?_)
  have hz4 := Option.some.inj hz4; subst hz4
  refine And.intro rfl (Fit2.of (Xc hU rfl rfl ?_) (by omega))
  simp only [push_cast, seval, ↓reduceIte, Za, c11, hN0, hN]
 refine Zx ?_
 try simp only [Zm, Zj]
 have h := Option.some.inj h; subst h
 refine Zn (.inr rfl) hU [.val (.bool z4)] (by omega) ?_
 simp only [push_cast, seval, ↓reduceIte, Za, Try.results82, hN0, hN]
theorem Kv {a0 : (Option Zg)} {a1 : Int} {a2 : Int} {r : (Int × Bool)} {O : Objs} {n : Nat} (h : Y4 a0 a1 a2 = some r) : GTo Try.prog 60 [(gP Zf a0), .val (.int .i64 a1), .val (.int .i64 a2)] O n (.tup [.val (.int .u64 r.1), .val (.bool r.2)]) O n := by
 unfold Y4 at h
 refine Xd Ze Try.call60 Try.func60 rfl (Nat.le_of_ble_eq_true rfl) (Nat.le_refl _) fun hU => ?_
 have hN0 : O n = none := hU.fresh _ (Nat.le_refl _)
 have hN : ∀ k, O (n + k) = none := fun k => hU.fresh _ (Nat.le_add_right _ _)
 show W _ _ _ _ ⟨23, [], [(0, (gP Zf a0)), (1, .val (.int .i64 a1)), (2, .val (.int .i64 a2))]⟩ (Zv O n []) _
 refine Zw [0, 1, 2] (Zb Ze [] ?_)
 simp only [push_cast, seval, ↓reduceIte, Za, hN0, hN]
 refine Zl ?_
 refine Zl ?_
 obtain ⟨y2, hy2, h⟩ := bC h
 refine Zb Ze [] ?_
 simp only [push_cast, seval, ↓reduceIte, Za, hN0, hN]
 refine (Kw hy2).then ?_
 simp only [push_cast, seval, ↓reduceIte, Za, hN0, hN]
 refine Zk [0, 1, 2, 12] [] ?_
 simp only [push_cast, seval, ↓reduceIte]
 refine Zz (t := (!y2)) rfl (fun c9 => ?_) (fun c9 => ?_)
 ·replace h := Z5 c9 h
  refine Zw [6, 7] (Zb Ze [] ?_)
  simp only [push_cast, seval, ↓reduceIte, Za, hN0, hN]
  refine Zx ?_
  try simp only [Zm, Zj]
  have h := Option.some.inj h; subst h
  refine Zn (.inr rfl) hU [.val (.int .u64 0), .val (.bool false)] (by omega) ?_
  simp only [push_cast, seval, ↓reduceIte, Za, Try.results60, hN0, hN]
 replace h := Z4 c9 h
 refine Yb ?_
 try simp only [Zm, Zj]
 refine Zk [0, 1, 2] [] ?_
 simp only [push_cast, seval, ↓reduceIte]
 obtain ⟨x6, hx6, h⟩ := bC h
 obtain ⟨x7, hx7, ax7, bx7, cx7, h⟩ := bE (f := (eL (eI .u64))) Zez (fun _ => rfl) (by decide) h
 obtain ⟨x8, hx8, ax8, bx8, cx8, h⟩ := bE (f := (eI .u64)) Zg3 (fun _ => rfl) (by decide) h
 refine Zw [6, 7] (Zb Ze [] ?_)
 simp only [push_cast, Nat.reduceAdd, Nat.reduceSub, Nat.reduceMul, Nat.reduceLeDiff, Nat.reduceLT, Nat.reduceEqDiff, ↓reduceIte, reduceCtorEq, Int.reduceBEq, Int.reduceBNe, Nat.reduceBEq, Int.reduceLE, Int.reduceLT, Int.reduceEq, Int.reduceNe, Int.reduceNeg, Nat.reduceDiv, Nat.reduceMod, Nat.reducePow, Za, hx6, ax7, bx7, cx7, ax8, bx8, cx8, hN0, hN]
 refine Zx ?_
 try simp only [Zm, Zj]
 have h := Option.some.inj h; subst h
 refine Zn (.inr rfl) hU [.val (.int .u64 x8), .val (.bool true)] (by omega) ?_
 simp only [push_cast, seval, ↓reduceIte, Za, Try.results60, hN0, hN]
theorem Zey {a0 : Int} {r : Int} {O : Objs} {n : Nat} (h : Vd a0 = some r) : GTo Try.prog 95 [.val (.int .u64 a0)] O n (.val (.int .i64 r)) O n := by
 unfold Vd at h
 refine Xd Ze Try.call95 Try.func95 rfl (Nat.le_of_ble_eq_true rfl) (Nat.le_refl _) fun hU => ?_
 have hN0 : O n = none := hU.fresh _ (Nat.le_refl _)
 have hN : ∀ k, O (n + k) = none := fun k => hU.fresh _ (Nat.le_add_right _ _)
 show W _ _ _ _ ⟨8, [], [(0, .val (.int .u64 a0))]⟩ (Zv O n []) _
 refine Zw [0] (Zb Ze [] ?_)
 simp only [push_cast, seval, ↓reduceIte, Za, hN0, hN]
 refine Zw [2] (Zb Ze [] ?_)
 simp only [push_cast, seval, ↓reduceIte, Za, hN0, hN]
 refine Zx ?_
 try simp only [Zm, Zj]
 have h := Option.some.inj h; subst h
 refine Zn (.inr rfl) hU [.val (.int .i64 (IntKind.i64.wrap (Int.fdiv (IntKind.i32.wrap (IntKind.u32.wrap a0)) (2 ^ min (Int.toNat 2) 32))))] (by omega) ?_
 simp only [push_cast, seval, ↓reduceIte, Za, Try.results95, hN0, hN]
theorem J0 {a0 : Int} {a1 : Int} {a2 : Int} {r : Int} {O : Objs} {n : Nat} (h : Yj a0 a1 a2 = some r) : GTo Try.prog 96 [.val (.int .u64 a0), .val (.int .i64 a1), .val (.int .i64 a2)] O n (.val (.int .i64 r)) O n := by
 unfold Yj at h
 refine Xd Ze Try.call96 Try.func96 rfl (Nat.le_of_ble_eq_true rfl) (Nat.le_refl _) fun hU => ?_
 have hN0 : O n = none := hU.fresh _ (Nat.le_refl _)
 have hN : ∀ k, O (n + k) = none := fun k => hU.fresh _ (Nat.le_add_right _ _)
 show W _ _ _ _ ⟨15, [], [(0, .val (.int .u64 a0)), (1, .val (.int .i64 a1)), (2, .val (.int .i64 a2))]⟩ (Zv O n []) _
 refine Zw [0, 1, 2] (Zb Ze [] ?_)
 simp only [push_cast, seval, ↓reduceIte, Za, hN0, hN]
 obtain ⟨pu3, h⟩ := bG h
 obtain ⟨pu4, h⟩ := bG h
 refine Zw [6] (Zai Ze (by kernel_rfl) [] (by kernel_rfl) ?_)
 simp only [push_cast, seval, ↓reduceIte, Za, pu3, pu4, hN0, hN]
 refine Zx ?_
 try simp only [Zm, Zj]
 have h := Option.some.inj h; subst h
 refine Zn (.inr rfl) hU [.val (.int .i64 (IntKind.i64.wrap (IntKind.u64.wrap (V6 .u64 (Int.fdiv a0 (2 ^ min (Int.toNat a1) 64)) (IntKind.u64.wrap ((IntKind.u64.wrap (1 * 2 ^ min (Int.toNat a2) 64)) - 1))))))] (by omega) ?_
 simp only [push_cast, seval, ↓reduceIte, Za, Try.results96, hN0, hN]
theorem Q0 {a0 : Int} {r : Z7} {O : Objs} {n : Nat} (h : Xo a0 = some r) : GTo Try.prog 71 [.val (.int .u64 a0)] O n (.agg (Ys r)) O n := by
 unfold Xo at h
 refine Xd Ze Try.call71 Try.func71 rfl (Nat.le_of_ble_eq_true rfl) (Nat.le_refl _) fun hU => ?_
 have hN0 : O n = none := hU.fresh _ (Nat.le_refl _)
 have hN : ∀ k, O (n + k) = none := fun k => hU.fresh _ (Nat.le_add_right _ _)
 show W _ _ _ _ ⟨38, [], [(0, .val (.int .u64 a0))]⟩ (Zv O n []) _
 refine Zw [0, 2] (Zb Ze [] ?_)
 simp only [push_cast, seval, ↓reduceIte, Za, hN0, hN]
 refine Zl ?_
 refine Zw [0, 2, 4] (Zb Ze [] ?_)
 simp only [push_cast, seval, ↓reduceIte, Za, hN0, hN]
 refine Zz (t := (a0 == 0)) rfl (fun c20 => ?_) (fun c20 => ?_)
 ·replace h := Z5 c20 h
  refine Zl ?_
  refine Zb Ze [] ?_
  simp only [push_cast, seval, ↓reduceIte, Za, hN0, hN]
  refine Zk [2] [true] ?_
  simp only [push_cast, seval, ↓reduceIte]
  refine Zx ?_
  try simp only [Zm, Zj]
  have h := Option.some.inj h; subst h
  refine Zn (.inr rfl) hU [.agg [.val (.int .i64 0), .val (.int .i64 0), .val (.int .i64 0), .val (.int .i64 0), .val (.int .i64 0), .val (.int .i64 0), .val (.int .i64 0), .val (.bool false)]] (by omega) ?_
  simp only [push_cast, seval, ↓reduceIte, Za, Try.results71, hN0, hN]
 replace h := Z4 c20 h
 refine Yb ?_
 try simp only [Zm, Zj]
 refine Zk [0, 2] [true] ?_
 simp only [push_cast, seval, ↓reduceIte]
 refine Zl ?_
 refine Zw [0, 2, 7] (Zb Ze [] ?_)
 simp only [push_cast, seval, ↓reduceIte, Za, hN0, hN]
 refine Jz ?_
 refine Zw [0, 2, 7, 8] (Zb Ze [] ?_)
 simp only [push_cast, seval, ↓reduceIte, Za, hN0, hN]
 refine Zz (t := ((IntKind.u64.wrap (V6 .u64 a0 3)) == 0)) rfl (fun c19 => ?_) (fun c19 => ?_)
 ·replace h := Z5 c19 h
  refine Zl ?_
  obtain ⟨y4, hy4, h⟩ := bC h
  obtain ⟨y5, hy5, h⟩ := bC h
  obtain ⟨y6, hy6, h⟩ := bC h
  refine Zb Ze [] ?_
  simp only [push_cast, seval, ↓reduceIte, Za, hN0, hN]
  refine (Zey hy4).then ?_
  simp only [push_cast, seval, ↓reduceIte, Za, hN0, hN]
  refine (J0 hy5).then ?_
  simp only [push_cast, seval, ↓reduceIte, Za, hN0, hN]
  refine (J0 hy6).then ?_
  simp only [push_cast, seval, ↓reduceIte, Za, hN0, hN]
  refine Zk [2] [true] ?_
  simp only [push_cast, seval, ↓reduceIte]
  refine Zx ?_
  try simp only [Zm, Zj]
  have h := Option.some.inj h; subst h
  refine Zn (.inr rfl) hU [.agg [.val (.int .i64 1), .val (.int .i64 y4), .val (.int .i64 y5), .val (.int .i64 y6), .val (.int .i64 0), .val (.int .i64 0), .val (.int .i64 0), .val (.bool false)]] (by omega) ?_
  simp only [push_cast, seval, ↓reduceIte, Za, Try.results71, hN0, hN]
 replace h := Z4 c19 h
 refine Zw [0, 2, 7, 17] (Zb Ze [] ?_)
 simp only [push_cast, seval, ↓reduceIte, Za, hN0, hN]
 refine Zz (t := ((IntKind.u64.wrap (V6 .u64 a0 3)) == 1)) rfl (fun c18 => ?_) (fun c18 => ?_)
 ·replace h := Z5 c18 h
  refine Zl ?_
  obtain ⟨y10, hy10, h⟩ := bC h
  obtain ⟨y11, hy11, h⟩ := bC h
  obtain ⟨y12, hy12, h⟩ := bC h
  refine Zb Ze [] ?_
  simp only [push_cast, seval, ↓reduceIte, Za, hN0, hN]
  refine (Zey hy10).then ?_
  simp only [push_cast, seval, ↓reduceIte, Za, hN0, hN]
  refine (J0 hy11).then ?_
  simp only [push_cast, seval, ↓reduceIte, Za, hN0, hN]
  refine (J0 hy12).then ?_
  simp only [push_cast, seval, ↓reduceIte, Za, hN0, hN]
  refine Zk [2] [true] ?_
  simp only [push_cast, seval, ↓reduceIte]
  refine Zx ?_
  try simp only [Zm, Zj]
  have h := Option.some.inj h; subst h
  refine Zn (.inr rfl) hU [.agg [.val (.int .i64 2), .val (.int .i64 y10), .val (.int .i64 0), .val (.int .i64 0), .val (.int .i64 y11), .val (.int .i64 y12), .val (.int .i64 0), .val (.bool false)]] (by omega) ?_
  simp only [push_cast, seval, ↓reduceIte, Za, Try.results71, hN0, hN]
 replace h := Z4 c18 h
 refine Zw [0, 2, 26] (Zb Ze [] ?_)
 simp only [push_cast, seval, ↓reduceIte, Za, hN0, hN]
 refine Zz (t := ((IntKind.u64.wrap (V6 .u64 a0 3)) == 2)) rfl (fun c17 => ?_) (fun c17 => ?_)
 ·replace h := Z5 c17 h
  refine Zl ?_
  obtain ⟨y15, hy15, h⟩ := bC h
  obtain ⟨y16, hy16, h⟩ := bC h
  refine Zb Ze [] ?_
  simp only [push_cast, seval, ↓reduceIte, Za, hN0, hN]
  refine (J0 hy15).then ?_
  simp only [push_cast, seval, ↓reduceIte, Za, hN0, hN]
  refine (J0 hy16).then ?_
  simp only [push_cast, seval, ↓reduceIte, Za, hN0, hN]
  refine Zk [2] [true] ?_
  simp only [push_cast, seval, ↓reduceIte]
  refine Zx ?_
  try simp only [Zm, Zj]
  have h := Option.some.inj h; subst h
  refine Zn (.inr rfl) hU [.agg [.val (.int .i64 3), .val (.int .i64 y15), .val (.int .i64 0), .val (.int .i64 0), .val (.int .i64 0), .val (.int .i64 0), .val (.int .i64 y16), .val (.bool ((IntKind.u64.wrap (V6 .u64 (Int.fdiv a0 (2 ^ min (Int.toNat 2) 64)) 1)) == 1))]] (by omega) ?_
  simp only [push_cast, seval, ↓reduceIte, Za, Try.results71, hN0, hN]
 replace h := Z4 c17 h
 refine Yb ?_
 try simp only [Zm, Zj]
 refine Zk [2] [true] ?_
 simp only [push_cast, seval, ↓reduceIte]
 refine Zl ?_
 refine Zb Ze [] ?_
 simp only [push_cast, seval, ↓reduceIte, Za, hN0, hN]
 refine Zk [2] [true] ?_
 simp only [push_cast, seval, ↓reduceIte]
 refine Zx ?_
 try simp only [Zm, Zj]
 have h := Option.some.inj h; subst h
 refine Zn (.inr rfl) hU [.agg [.val (.int .i64 4), .val (.int .i64 0), .val (.int .i64 0), .val (.int .i64 0), .val (.int .i64 0), .val (.int .i64 0), .val (.int .i64 0), .val (.bool false)]] (by omega) ?_
 simp only [push_cast, seval, ↓reduceIte, Za, Try.results71, hN0, hN]
theorem Zes {a0 : (Option Zg)} {a1 : Int} {a2 : Int} {a3 : Int} {r : ((List Int) × Bool)} {O : Objs} {n : Nat} (h : Qf a0 a1 a2 a3 = some r) : GTo Try.prog 97 [(gP Zf a0), .val (.int .i64 a1), .val (.int .i64 a2), .val (.int .i64 a3)] O n (.tup [.sl r.1.length (fl (eI .u64) r.1), .val (.bool r.2)]) O n := by
 unfold Qf at h
 refine Xd Ze Try.call97 Try.func97 rfl (Nat.le_of_ble_eq_true rfl) (Nat.le_refl _) fun hU => ?_
 have hN0 : O n = none := hU.fresh _ (Nat.le_refl _)
 have hN : ∀ k, O (n + k) = none := fun k => hU.fresh _ (Nat.le_add_right _ _)
 show W _ _ _ _ ⟨29, [], [(0, (gP Zf a0)), (1, .val (.int .i64 a1)), (2, .val (.int .i64 a2)), (3, .val (.int .i64 a3))]⟩ (Zv O n []) _
 refine Zw [0, 1, 2, 3] (Zb Ze [] ?_)
 simp only [push_cast, seval, ↓reduceIte, Za, hN0, hN]
 refine Zl ?_
 refine Zl ?_
 obtain ⟨y2, hy2, h⟩ := bC h
 refine Zb Ze [] ?_
 simp only [push_cast, seval, ↓reduceIte, Za, hN0, hN]
 refine (Kw hy2).then ?_
 simp only [push_cast, seval, ↓reduceIte, Za, hN0, hN]
 refine Zk [0, 1, 2, 3, 15] [] ?_
 simp only [push_cast, seval, ↓reduceIte]
 refine Zz (t := (!y2)) rfl (fun c11 => ?_) (fun c11 => ?_)
 ·replace h := Z5 c11 h
  refine Zw [8, 9] (Zb Ze [] ?_)
  simp only [push_cast, seval, ↓reduceIte, Za, hN0, hN]
  refine Zx ?_
  try simp only [Zm, Zj]
  have h := Option.some.inj h; subst h
  refine Zn (.inr rfl) hU [.val (.slice none 0 0), .val (.bool false)] (by omega) ?_
  simp only [push_cast, seval, ↓reduceIte, Za, Try.results97, hN0, hN]
 replace h := Z4 c11 h
 refine Yb ?_
 try simp only [Zm, Zj]
 refine Zk [0, 1, 2, 3] [] ?_
 simp only [push_cast, seval, ↓reduceIte]
 refine Zl ?_
 obtain ⟨x7, hx7, h⟩ := bC h
 obtain ⟨x8, hx8, ax8, bx8, cx8, h⟩ := bE (f := (eL (eI .u64))) Zez (fun _ => rfl) (by decide) h
 obtain ⟨l9, al9, bl9, cl9, gl9, h⟩ := bS (lo := (some (.i64, a2))) (hi := (some (.i64, (IntKind.i64.wrap (a2 + a3))))) (f := (eI .u64)) rfl rfl Zer Zg3 (fun _ => rfl) h
 obtain ⟨y10, hy10, h⟩ := bC h
 refine Zb Ze [] ?_
 simp only [push_cast, Nat.reduceAdd, Nat.reduceSub, Nat.reduceMul, Nat.reduceLeDiff, Nat.reduceLT, Nat.reduceEqDiff, ↓reduceIte, reduceCtorEq, Int.reduceBEq, Int.reduceBNe, Nat.reduceBEq, Int.reduceLE, Int.reduceLT, Int.reduceEq, Int.reduceNe, Int.reduceNeg, Nat.reduceDiv, Nat.reduceMod, Nat.reducePow, Za, hx7, ax8, bx8, cx8, al9, bl9, cl9, gl9, hN0, hN]
 refine (Jb  hy10).then ?_
 simp only [push_cast, Nat.reduceAdd, Nat.reduceSub, Nat.reduceMul, Nat.reduceLeDiff, Nat.reduceLT, Nat.reduceEqDiff, ↓reduceIte, reduceCtorEq, Int.reduceBEq, Int.reduceBNe, Nat.reduceBEq, Int.reduceLE, Int.reduceLT, Int.reduceEq, Int.reduceNe, Int.reduceNeg, Nat.reduceDiv, Nat.reduceMod, Nat.reducePow, Za, hx7, ax8, bx8, cx8, al9, bl9, cl9, gl9, hN0, hN]
 refine Zk [8, 9] [true] ?_
 simp only [push_cast, seval, ↓reduceIte]
 refine Zx ?_
 try simp only [Zm, Zj]
 have h := Option.some.inj h; subst h
 refine Zn (.inr rfl) hU [.row n y10.length, .val (.bool true)] (by omega) ?_
 simp only [push_cast, seval, ↓reduceIte, Za, Try.results97, hN0, hN]
theorem Zmo {a0 : Int} {r : Int} {O : Objs} {n : Nat} (h : V9 a0 = some r) : GTo Try.prog 105 [.val (.int .i64 a0)] O n (.val (.int .i64 r)) O n := by
 unfold V9 at h
 refine Xd Ze Try.call105 Try.func105 rfl (Nat.le_of_ble_eq_true rfl) (Nat.le_refl _) fun hU => ?_
 have hN0 : O n = none := hU.fresh _ (Nat.le_refl _)
 have hN : ∀ k, O (n + k) = none := fun k => hU.fresh _ (Nat.le_add_right _ _)
 show W _ _ _ _ ⟨8, [], [(0, .val (.int .i64 a0))]⟩ (Zv O n []) _
 refine Zw [0] (Zb Ze [] ?_)
 simp only [push_cast, seval, ↓reduceIte, Za, hN0, hN]
 refine Zl ?_
 obtain ⟨y6, hy6, ey6, h⟩ := bY (f := (eI .i64)) (cs := [.val (.int .i64 0), .val (.int .i64 1), .val (.int .i64 8), .val (.int .i64 16), .val (.int .i64 32), .val (.int .i64 64), .val (.int .i64 64)]) rfl h
 have g7 := congrArg G.agg ey6
 obtain ⟨y8, hy8, ey8, h⟩ := bY (f := (eI .i64)) (cs := [.val (.int .i64 0), .val (.int .i64 0), .val (.int .i64 0), .val (.int .i64 0), .val (.int .i64 0), .val (.int .i64 0), .val (.int .i64 0)]) rfl h
 have g9 := congrArg (GObj.mk false 140 7 1) ey8
 have g10 := Zpi (f := (eI .i64)) y8 y6 (fun _ => rfl)
 refine Zb Ze [] ?_
 simp only [push_cast, seval, ↓reduceIte, Za, g7, g9, g10, hN0, hN]
 refine Zk [0, 3] [true] ?_
 simp only [push_cast, seval, ↓reduceIte]
 obtain ⟨x12, hx12, ax12, bx12, cx12, h⟩ := bEA (f := (eI .i64)) (b := 7) rfl Zqy (fun _ => rfl) (by decide) h
 refine Zw [2] (Zb Ze [] ?_)
 simp only [push_cast, Nat.reduceAdd, Nat.reduceSub, Nat.reduceMul, Nat.reduceLeDiff, Nat.reduceLT, Nat.reduceEqDiff, ↓reduceIte, reduceCtorEq, Int.reduceBEq, Int.reduceBNe, Nat.reduceBEq, Int.reduceLE, Int.reduceLT, Int.reduceEq, Int.reduceNe, Int.reduceNeg, Nat.reduceDiv, Nat.reduceMod, Nat.reducePow, Za, ax12, bx12, cx12, hN0, hN]
 refine Zx ?_
 try simp only [Zm, Zj]
 have h := Option.some.inj h; subst h
 refine Zn (.inr rfl) hU [.val (.int .i64 x12)] (by omega) ?_
 simp only [push_cast, seval, ↓reduceIte, Za, Try.results105, hN0, hN]
theorem Zih {a0 : Z7} {r : (Int × Bool)} {O : Objs} {n : Nat} (h : Jk a0 = some r) : GTo Try.prog 98 [.agg (Ys a0)] O n (.tup [.val (.int .i64 r.1), .val (.bool r.2)]) O n := by
 unfold Jk at h
 refine Xd Ze Try.call98 Try.func98 rfl (Nat.le_of_ble_eq_true rfl) (Nat.le_refl _) fun hU => ?_
 have hN0 : O n = none := hU.fresh _ (Nat.le_refl _)
 have hN : ∀ k, O (n + k) = none := fun k => hU.fresh _ (Nat.le_add_right _ _)
 show W _ _ _ _ ⟨57, [], [(0, .agg (Ys a0))]⟩ (Zv O n []) _
 refine Zw [1] (Zb Ze [] ?_)
 simp only [push_cast, seval, ↓reduceIte, Za, hN0, hN]
 refine Zl ?_
 refine Jz ?_
 refine Zw [1, 4] (Zb Ze [] ?_)
 simp only [push_cast, seval, ↓reduceIte, Za, hN0, hN]
 refine Zz (t := (a0.Kind == 1)) rfl (fun c5 => ?_) (fun c5 => ?_)
 ·replace h := Z5 c5 h
  refine Zw [2, 3] (Zb Ze [] ?_)
  simp only [push_cast, seval, ↓reduceIte, Za, hN0, hN]
  refine Zx ?_
  try simp only [Zm, Zj]
  have h := Option.some.inj h; subst h
  refine Zn (.inr rfl) hU [.val (.int .i64 (IntKind.i64.wrap (a0.Data + a0.Ptrs))), .val (.bool true)] (by omega) ?_
  simp only [push_cast, seval, ↓reduceIte, Za, Try.results98, hN0, hN]
 replace h := Z4 c5 h
 refine Zw [1, 13] (Zb Ze [none, none, none] ?_)
 simp only [push_cast, seval, ↓reduceIte, Za, hN0, hN]
 repeat (with_reducible refine And.intro (by first | (intro h0; simp only [h0, and_self]; done) | (intro h0; simp only [h0, Bool.not_false, Bool.not_true, Bool.true_and, Bool.and_true, true_and, and_true, and_self, imp_self, implies_true, bne_iff_ne, ne_eq, beq_iff_eq]; done) | (intros; simp_all; done) | exact True.intro) ?_)
 refine Zz (t := (cond (a0.Kind == 2) (a0.Code == 7) false)) rfl (fun c4 => ?_) (fun c4 => ?_)
 ·replace h := Z5 c4 h
  refine Zw [2, 3] (Zb Ze [] ?_)
  simp only [push_cast, seval, ↓reduceIte, Za, hN0, hN]
  refine Zx ?_
  try simp only [Zm, Zj]
  have h := Option.some.inj h; subst h
  refine Zn (.inr rfl) hU [.val (.int .i64 (IntKind.i64.wrap (a0.Count + 1))), .val (.bool true)] (by omega) ?_
  simp only [push_cast, seval, ↓reduceIte, Za, Try.results98, hN0, hN]
 replace h := Z4 c4 h
 refine Zw [1, 25] (Zb Ze [none, none, none, none, none, none, none, none, none, none, none, none] ?_)
 simp only [push_cast, seval, ↓reduceIte, Za, hN0, hN]
 repeat (with_reducible refine And.intro (by first | (intro h0; simp only [h0, and_self]; done) | (intro h0; simp only [h0, Bool.not_false, Bool.not_true, Bool.true_and, Bool.and_true, true_and, and_true, and_self, imp_self, implies_true, bne_iff_ne, ne_eq, beq_iff_eq]; done) | (intros; simp_all; done) | exact True.intro) ?_)
 refine Zz (t := (cond (cond (cond (cond (a0.Kind == 2) (decide (0 ≤ a0.Code)) false) (decide (a0.Code < 7)) false) (decide (0 ≤ a0.Count)) false) (decide (a0.Count ≤ 536870911)) false)) rfl (fun c3 => ?_) (fun c3 => ?_)
 ·replace h := Z5 c3 h
  refine Zl ?_
  obtain ⟨y2, hy2, h⟩ := bC h
  refine Zai Ze (by kernel_rfl) [] (by kernel_rfl) ?_
  simp only [push_cast, seval, ↓reduceIte, Za, hN0, hN]
  refine PCall.of (Zmo hy2) ?_
  simp only [push_cast, seval, ↓reduceIte, Za, hN0, hN]
  refine Zk [2, 3] [false] ?_
  simp only [push_cast, seval, ↓reduceIte]
  refine Zx ?_
  try simp only [Zm, Zj]
  have h := Option.some.inj h; subst h
  refine Zn (.inr rfl) hU [.val (.int .i64 (IntKind.i64.wrap (Int.tdiv (IntKind.i64.wrap ((IntKind.i64.wrap (a0.Count * y2)) + 63)) 64))), .val (.bool true)] (by omega) ?_
  simp only [push_cast, seval, ↓reduceIte, Za, Try.results98, hN0, hN]
 replace h := Z4 c3 h
 refine Yb ?_
 try simp only [Zm, Zj]
 refine Zk [] [false] ?_
 simp only [push_cast, seval, ↓reduceIte]
 refine Zw [2, 3] (Zb Ze [] ?_)
 simp only [push_cast, seval, ↓reduceIte, Za, hN0, hN]
 refine Zx ?_
 try simp only [Zm, Zj]
 have h := Option.some.inj h; subst h
 refine Zn (.inr rfl) hU [.val (.int .i64 0), .val (.bool false)] (by omega) ?_
 simp only [push_cast, seval, ↓reduceIte, Za, Try.results98, hN0, hN]
theorem Zaw {a0 : (Option Zg)} {a1 : Z7} {a2 : Int} {a3 : Int} {r : (Yg × Int)} {O : Objs} {n : Nat} (h : Jg a0 a1 a2 a3 = some r) : GTo Try.prog 74 [(gP Zf a0), .agg (Ys a1), .val (.int .i64 a2), .val (.int .i64 a3)] O n (.tup [.agg [.val (.int .i64 r.1.P.Kind), .val (.int .i64 r.1.P.Off), .val (.int .i64 r.1.P.Data), .val (.int .i64 r.1.P.Ptrs), .val (.int .i64 r.1.P.Code), .val (.int .i64 r.1.P.Count), .val (.int .i64 r.1.P.Segment), .val (.bool r.1.P.Double), .val (.int .i64 r.1.Segment), .val (.int .i64 r.1.At)], .val (.int .i64 r.2)]) O n := by
 unfold Jg at h
 refine Xd Ze Try.call74 Try.func74 rfl (Nat.le_of_ble_eq_true rfl) (Nat.le_refl _) fun hU => ?_
 have hN0 : O n = none := hU.fresh _ (Nat.le_refl _)
 have hN : ∀ k, O (n + k) = none := fun k => hU.fresh _ (Nat.le_add_right _ _)
 show W _ _ _ _ ⟨36, [], [(0, (gP Zf a0)), (1, .agg (Ys a1)), (2, .val (.int .i64 a2)), (3, .val (.int .i64 a3))]⟩ (Zv O n []) _
 refine Zw [0, 2, 3, 5, 8] (Zb Ze [] ?_)
 simp only [push_cast, seval, ↓reduceIte, Za, hN0, hN]
 refine Zl ?_
 refine Zw [0, 2, 3, 5, 8, 14] (Zb Ze [] ?_)
 simp only [push_cast, seval, ↓reduceIte, Za, hN0, hN]
 refine Zz (t := (a1.Kind == 4)) rfl (fun c7 => ?_) (fun c7 => ?_)
 ·replace h := Z5 c7 h
  refine Zl ?_
  refine Zb Ze [] ?_
  simp only [push_cast, seval, ↓reduceIte, Za, hN0, hN]
  refine Zk [8, 9] [false, true] ?_
  simp only [push_cast, seval, ↓reduceIte]
  refine Zx ?_
  try simp only [Zm, Zj]
  have h := Option.some.inj h; subst h
  refine Zn (.inr rfl) hU [.agg [.val (.int .i64 0), .val (.int .i64 0), .val (.int .i64 0), .val (.int .i64 0), .val (.int .i64 0), .val (.int .i64 0), .val (.int .i64 0), .val (.bool false), .val (.int .i64 0), .val (.int .i64 0)], .val (.int .i64 9)] (by omega) ?_
  simp only [push_cast, seval, ↓reduceIte, Za, Try.results74, hN0, hN]
 replace h := Z4 c7 h
 refine Yb ?_
 try simp only [Zm, Zj]
 refine Zk [0, 2, 3, 5, 8] [true, true] ?_
 simp only [push_cast, seval, ↓reduceIte]
 refine Zl ?_
 obtain ⟨y2, hy2, h⟩ := bC h
 refine Zb Ze [] ?_
 simp only [push_cast, seval, ↓reduceIte, Za, hN0, hN]
 refine (Zih hy2).then ?_
 simp only [push_cast, seval, ↓reduceIte, Za, hN0, hN]
 refine Zk [0, 2, 3, 5, 8, 10, 11] [true, true] ?_
 simp only [push_cast, seval, ↓reduceIte]
 refine Zl ?_
 refine Zw [0, 2, 3, 5, 8, 10, 22] (Zb Ze [] ?_)
 simp only [push_cast, seval, ↓reduceIte, Za, hN0, hN]
 refine Zz (t := (!y2.2)) rfl (fun c6 => ?_) (fun c6 => ?_)
 ·replace h := Z5 c6 h
  refine Zl ?_
  refine Zb Ze [] ?_
  simp only [push_cast, seval, ↓reduceIte, Za, hN0, hN]
  refine Zk [8, 9] [false, true] ?_
  simp only [push_cast, seval, ↓reduceIte]
  refine Zx ?_
  try simp only [Zm, Zj]
  have h := Option.some.inj h; subst h
  refine Zn (.inr rfl) hU [.agg [.val (.int .i64 0), .val (.int .i64 0), .val (.int .i64 0), .val (.int .i64 0), .val (.int .i64 0), .val (.int .i64 0), .val (.int .i64 0), .val (.bool false), .val (.int .i64 0), .val (.int .i64 0)], .val (.int .i64 8)] (by omega) ?_
  simp only [push_cast, seval, ↓reduceIte, Za, Try.results74, hN0, hN]
 replace h := Z4 c6 h
 refine Yb ?_
 try simp only [Zm, Zj]
 refine Zk [0, 2, 3, 5, 8, 10] [true, true] ?_
 simp only [push_cast, seval, ↓reduceIte]
 refine Zl ?_
 refine Zl ?_
 obtain ⟨y4, hy4, h⟩ := bC h
 refine Zb Ze [] ?_
 simp only [push_cast, seval, ↓reduceIte, Za, hN0, hN]
 refine (Kw hy4).then ?_
 simp only [push_cast, seval, ↓reduceIte, Za, hN0, hN]
 refine Zk [2, 3, 5, 8, 29] [true, true] ?_
 simp only [push_cast, seval, ↓reduceIte]
 refine Zz (t := (!y4)) rfl (fun c5 => ?_) (fun c5 => ?_)
 ·replace h := Z5 c5 h
  refine Zl ?_
  refine Zb Ze [] ?_
  simp only [push_cast, seval, ↓reduceIte, Za, hN0, hN]
  refine Zk [8, 9] [false, true] ?_
  simp only [push_cast, seval, ↓reduceIte]
  refine Zx ?_
  try simp only [Zm, Zj]
  have h := Option.some.inj h; subst h
  refine Zn (.inr rfl) hU [.agg [.val (.int .i64 0), .val (.int .i64 0), .val (.int .i64 0), .val (.int .i64 0), .val (.int .i64 0), .val (.int .i64 0), .val (.int .i64 0), .val (.bool false), .val (.int .i64 0), .val (.int .i64 0)], .val (.int .i64 7)] (by omega) ?_
  simp only [push_cast, seval, ↓reduceIte, Za, Try.results74, hN0, hN]
 replace h := Z4 c5 h
 refine Yb ?_
 try simp only [Zm, Zj]
 refine Zk [2, 3, 5, 8] [true, true] ?_
 simp only [push_cast, seval, ↓reduceIte]
 refine Zl ?_
 refine Zb Ze [] ?_
 simp only [push_cast, seval, ↓reduceIte, Za, hN0, hN]
 refine Zk [2, 3, 5, 8] [true, true] ?_
 simp only [push_cast, seval, ↓reduceIte]
 refine Zl ?_
 refine Zb Ze [] ?_
 simp only [push_cast, seval, ↓reduceIte, Za, hN0, hN]
 refine Zk [8, 9] [false, true] ?_
 simp only [push_cast, seval, ↓reduceIte]
 refine Zx ?_
 try simp only [Zm, Zj]
 have h := Option.some.inj h; subst h
 refine Zn (.inr rfl) hU [.agg [.val (.int .i64 a1.Kind), .val (.int .i64 0), .val (.int .i64 a1.Data), .val (.int .i64 a1.Ptrs), .val (.int .i64 a1.Code), .val (.int .i64 a1.Count), .val (.int .i64 a1.Segment), .val (.bool a1.Double), .val (.int .i64 a2), .val (.int .i64 a3)], .val (.int .i64 0)] (by omega) ?_
 simp only [push_cast, seval, ↓reduceIte, Za, Try.results74, hN0, hN]
theorem Zle {a0 : (Option Zg)} {a1 : Int} {a2 : Int} {r : (Yg × Int)} {O : Objs} {n : Nat} (h : Vb a0 a1 a2 = some r) : GTo Try.prog 72 [(gP Zf a0), .val (.int .i64 a1), .val (.int .i64 a2)] O n (.tup [.agg [.val (.int .i64 r.1.P.Kind), .val (.int .i64 r.1.P.Off), .val (.int .i64 r.1.P.Data), .val (.int .i64 r.1.P.Ptrs), .val (.int .i64 r.1.P.Code), .val (.int .i64 r.1.P.Count), .val (.int .i64 r.1.P.Segment), .val (.bool r.1.P.Double), .val (.int .i64 r.1.Segment), .val (.int .i64 r.1.At)], .val (.int .i64 r.2)]) O n := by
 unfold Vb at h
 refine Xd Ze Try.call72 Try.func72 rfl (Nat.le_of_ble_eq_true rfl) (Nat.le_refl _) fun hU => ?_
 have hN0 : O n = none := hU.fresh _ (Nat.le_refl _)
 have hN : ∀ k, O (n + k) = none := fun k => hU.fresh _ (Nat.le_add_right _ _)
 show W _ _ _ _ ⟨56, [], [(0, (gP Zf a0)), (1, .val (.int .i64 a1)), (2, .val (.int .i64 a2))]⟩ (Zv O n []) _
 refine Zw [0, 1, 2, 6] (Zb Ze [] ?_)
 simp only [push_cast, seval, ↓reduceIte, Za, hN0, hN]
 refine Zl ?_
 obtain ⟨y2, hy2, h⟩ := bC h
 refine Zb Ze [] ?_
 simp only [push_cast, seval, ↓reduceIte, Za, hN0, hN]
 refine (Zes hy2).then ?_
 simp only [push_cast, seval, ↓reduceIte, Za, hN0, hN]
 refine Zk [0, 6, 8, 9] [true] ?_
 simp only [push_cast, seval, ↓reduceIte]
 refine Zl ?_
 refine Zw [0, 6, 8, 20] (Zb Ze [] ?_)
 simp only [push_cast, seval, ↓reduceIte, Za, hN0, hN]
 refine Zz (t := (!y2.2)) rfl (fun c11 => ?_) (fun c11 => ?_)
 ·replace h := Z5 c11 h
  refine Zl ?_
  refine Zb Ze [] ?_
  simp only [push_cast, seval, ↓reduceIte, Za, hN0, hN]
  refine Zk [6, 7] [true] ?_
  simp only [push_cast, seval, ↓reduceIte]
  refine Zx ?_
  try simp only [Zm, Zj]
  have h := Option.some.inj h; subst h
  refine Zn (.inr rfl) hU [.agg [.val (.int .i64 0), .val (.int .i64 0), .val (.int .i64 0), .val (.int .i64 0), .val (.int .i64 0), .val (.int .i64 0), .val (.int .i64 0), .val (.bool false), .val (.int .i64 0), .val (.int .i64 0)], .val (.int .i64 7)] (by omega) ?_
  simp only [push_cast, seval, ↓reduceIte, Za, Try.results72, hN0, hN]
 replace h := Z4 c11 h
 refine Yb ?_
 try simp only [Zm, Zj]
 refine Zk [0, 6, 8] [true] ?_
 simp only [push_cast, seval, ↓reduceIte]
 obtain ⟨x3, hx3, ax3, bx3, cx3, h⟩ := bE (f := (eI .u64)) Zg3 (fun _ => rfl) (by decide) h
 obtain ⟨y4, hy4, h⟩ := bC h
 obtain ⟨x5, hx5, ax5, bx5, cx5, h⟩ := bE (f := (eI .u64)) Zg3 (fun _ => rfl) (by decide) h
 obtain ⟨y6, hy6, h⟩ := bC h
 refine Zb1 (E' := ⟨56, [], [(0, (gP Zf a0)), (6, .ref n 0), (10, .ref (n + 1) 0), (11, .ref (n + 2) 0)]⟩) (O' := (Zv O n [some ⟨false, 85, 10, 1, [.val (.int .i64 0), .val (.int .i64 0), .val (.int .i64 0), .val (.int .i64 0), .val (.int .i64 0), .val (.int .i64 0), .val (.int .i64 0), .val (.bool false), .val (.int .i64 0), .val (.int .i64 0)]⟩, some ⟨false, 83, 8, 1, (Ys y4)⟩, some ⟨false, 83, 8, 1, (Ys y6)⟩])) (n0 := (n + 3)) ?_ ?_
 ·refine Zsm Ze (by kernel_rfl) [.low, .low, .low, .low, .low, .low, .low, .low, .pass, .pass, .pass, .pass] (fun i => i < (n + 1)) 8 9 [0, 1, 2, 3, 4, 5, 6, 7] [10, 11] [.low, .low, .low, .low, .low, .low, .low, .low] [.pass, .pass, .pass, .pass] [.pass, .pass, .pass, .pass] [] (by kernel_rfl) rfl rfl rfl ?_
  simp only [push_cast, Nat.reduceAdd, Nat.reduceSub, Nat.reduceMul, Nat.reduceLeDiff, Nat.reduceLT, Nat.reduceEqDiff, ↓reduceIte, reduceCtorEq, Int.reduceBEq, Int.reduceBNe, Nat.reduceBEq, Int.reduceLE, Int.reduceLT, Int.reduceEq, Int.reduceNe, Int.reduceNeg, Nat.reduceDiv, Nat.reduceMod, Nat.reducePow, Za, ax3, bx3, cx3, ax5, bx5, cx5, hN0, hN]
  repeat (with_reducible refine And.intro (by omega) ?_)
  first | refine PCallA.of (fun _ _ => Q0 hy4) ?_ | refine PCall.of (Q0 hy4) ?_
  simp only [push_cast, Nat.reduceAdd, Nat.reduceSub, Nat.reduceMul, Nat.reduceLeDiff, Nat.reduceLT, Nat.reduceEqDiff, ↓reduceIte, reduceCtorEq, Int.reduceBEq, Int.reduceBNe, Nat.reduceBEq, Int.reduceLE, Int.reduceLT, Int.reduceEq, Int.reduceNe, Int.reduceNeg, Nat.reduceDiv, Nat.reduceMod, Nat.reducePow, Za, ax3, bx3, cx3, ax5, bx5, cx5, hN0, hN]
  repeat (with_reducible refine And.intro (by omega) ?_)
  first | refine PCallA.of (fun _ _ => Q0 hy6) ?_ | refine PCall.of (Q0 hy6) ?_
  simp only [push_cast, Nat.reduceAdd, Nat.reduceSub, Nat.reduceMul, Nat.reduceLeDiff, Nat.reduceLT, Nat.reduceEqDiff, ↓reduceIte, reduceCtorEq, Int.reduceBEq, Int.reduceBNe, Nat.reduceBEq, Int.reduceLE, Int.reduceLT, Int.reduceEq, Int.reduceNe, Int.reduceNeg, Nat.reduceDiv, Nat.reduceMod, Nat.reducePow, Za, ax3, bx3, cx3, ax5, bx5, cx5, hN0, hN]
  repeat (with_reducible refine And.intro (by omega) ?_)
  refine And.intro ?_ ?_
  ·simp only [push_cast, Nat.reduceAdd, Nat.reduceSub, Nat.reduceMul, Nat.reduceLeDiff, Nat.reduceLT, Nat.reduceEqDiff, ↓reduceIte, reduceCtorEq, Int.reduceBEq, Int.reduceBNe, Nat.reduceBEq, Int.reduceLE, Int.reduceLT, Int.reduceEq, Int.reduceNe, Int.reduceNeg, Nat.reduceDiv, Nat.reduceMod, Nat.reducePow, Za, ax3, bx3, cx3, ax5, bx5, cx5, hN0, hN]
   repeat (with_reducible refine And.intro (by first | exact Za7 rfl | exact Uy) ?_)
   refine And.intro rfl (Fit2.of (Xc hU rfl rfl ?_) (by omega))
   simp only [push_cast, Nat.reduceAdd, Nat.reduceSub, Nat.reduceMul, Nat.reduceLeDiff, Nat.reduceLT, Nat.reduceEqDiff, ↓reduceIte, reduceCtorEq, Int.reduceBEq, Int.reduceBNe, Nat.reduceBEq, Int.reduceLE, Int.reduceLT, Int.reduceEq, Int.reduceNe, Int.reduceNeg, Nat.reduceDiv, Nat.reduceMod, Nat.reducePow, Za, ax3, bx3, cx3, ax5, bx5, cx5, hN0, hN]
  simp only [push_cast, Nat.reduceAdd, Nat.reduceSub, Nat.reduceMul, Nat.reduceLeDiff, Nat.reduceLT, Nat.reduceEqDiff, ↓reduceIte, reduceCtorEq, Int.reduceBEq, Int.reduceBNe, Nat.reduceBEq, Int.reduceLE, Int.reduceLT, Int.reduceEq, Int.reduceNe, Int.reduceNeg, Nat.reduceDiv, Nat.reduceMod, Nat.reducePow, Za, ax3, bx3, cx3, ax5, bx5, cx5, hN0, hN]
  repeat (with_reducible refine And.intro (by first | exact Za7 rfl | exact Uy) ?_)
  refine And.intro rfl ?_
  refine Fit2.trans (E' := (⟨56, [], [(0, (gP Zf a0)), (6, .ref n 0), (10, .ref (n + 2) 0), (11, .ref (n + 1) 0)]⟩ : Env)) (O' := (Zv O n [some ⟨false, 85, 10, 1, [.val (.int .i64 0), .val (.int .i64 0), .val (.int .i64 0), .val (.int .i64 0), .val (.int .i64 0), .val (.int .i64 0), .val (.int .i64 0), .val (.bool false), .val (.int .i64 0), .val (.int .i64 0)]⟩, some ⟨false, 83, 8, 1, (Ys y6)⟩, some ⟨false, 83, 8, 1, (Ys y4)⟩])) (n' := (n + 3)) (Fit2.of (Xc hU rfl rfl ?_) (by omega)) ?_
  ·simp only [push_cast, Nat.reduceAdd, Nat.reduceSub, Nat.reduceMul, Nat.reduceLeDiff, Nat.reduceLT, Nat.reduceEqDiff, ↓reduceIte, reduceCtorEq, Int.reduceBEq, Int.reduceBNe, Nat.reduceBEq, Int.reduceLE, Int.reduceLT, Int.reduceEq, Int.reduceNe, Int.reduceNeg, Nat.reduceDiv, Nat.reduceMod, Nat.reducePow, Za, ax3, bx3, cx3, ax5, bx5, cx5, hN0, hN]
  refine Zs4 (k := 3) (k' := 3) hU [0, 2, 1] [0, 2, 1] rfl rfl rfl rfl ⟨rfl, rfl⟩ ?_
  simp only [push_cast, seval, ↓reduceIte, Za, hN0, hN]
 refine Zl ?_
 refine Zw [0, 6, 10, 11, 36] (Zb Ze [none, none] ?_)
 simp only [push_cast, seval, ↓reduceIte, Za, hN0, hN]
 repeat (with_reducible refine And.intro (by first | (intro h0; simp only [h0, and_self]; done) | (intro h0; simp only [h0, Bool.not_false, Bool.not_true, Bool.true_and, Bool.and_true, true_and, and_true, and_self, imp_self, implies_true, bne_iff_ne, ne_eq, beq_iff_eq]; done) | (intros; simp_all; done) | exact True.intro) ?_)
 refine Zz (t := (cond (y4.Kind != 3) true y4.Double)) rfl (fun c10 => ?_) (fun c10 => ?_)
 ·replace h := Z5 c10 h
  refine Zl ?_
  refine Zb Ze [] ?_
  simp only [push_cast, seval, ↓reduceIte, Za, hN0, hN]
  refine Zk [6, 7] [true, false, false] ?_
  simp only [push_cast, seval, ↓reduceIte]
  refine Zx ?_
  try simp only [Zm, Zj]
  have h := Option.some.inj h; subst h
  refine Zn (.inr rfl) hU [.agg [.val (.int .i64 0), .val (.int .i64 0), .val (.int .i64 0), .val (.int .i64 0), .val (.int .i64 0), .val (.int .i64 0), .val (.int .i64 0), .val (.bool false), .val (.int .i64 0), .val (.int .i64 0)], .val (.int .i64 8)] (by omega) ?_
  simp only [push_cast, seval, ↓reduceIte, Za, Try.results72, hN0, hN]
 replace h := Z4 c10 h
 refine Yb ?_
 try simp only [Zm, Zj]
 refine Zk [0, 6, 10, 11] [true, true, true] ?_
 simp only [push_cast, seval, ↓reduceIte]
 refine Zl ?_
 refine Zw [0, 6, 10, 11, 45] (Zb Ze [none, none, none] ?_)
 simp only [push_cast, seval, ↓reduceIte, Za, hN0, hN]
 repeat (with_reducible refine And.intro (by first | (intro h0; simp only [h0, and_self]; done) | (intro h0; simp only [h0, Bool.not_false, Bool.not_true, Bool.true_and, Bool.and_true, true_and, and_true, and_self, imp_self, implies_true, bne_iff_ne, ne_eq, beq_iff_eq]; done) | (intros; simp_all; done) | exact True.intro) ?_)
 refine Zz (t := (cond (y6.Kind != 4) (y6.Off != 0) false)) rfl (fun c9 => ?_) (fun c9 => ?_)
 ·replace h := Z5 c9 h
  refine Zl ?_
  refine Zb Ze [] ?_
  simp only [push_cast, seval, ↓reduceIte, Za, hN0, hN]
  refine Zk [6, 7] [true, false, false] ?_
  simp only [push_cast, seval, ↓reduceIte]
  refine Zx ?_
  try simp only [Zm, Zj]
  have h := Option.some.inj h; subst h
  refine Zn (.inr rfl) hU [.agg [.val (.int .i64 0), .val (.int .i64 0), .val (.int .i64 0), .val (.int .i64 0), .val (.int .i64 0), .val (.int .i64 0), .val (.int .i64 0), .val (.bool false), .val (.int .i64 0), .val (.int .i64 0)], .val (.int .i64 8)] (by omega) ?_
  simp only [push_cast, seval, ↓reduceIte, Za, Try.results72, hN0, hN]
 replace h := Z4 c9 h
 refine Yb ?_
 try simp only [Zm, Zj]
 refine Zk [0, 6, 10, 11] [true, true, true] ?_
 simp only [push_cast, seval, ↓reduceIte]
 refine Zl ?_
 obtain ⟨y8, hy8, h⟩ := bC h
 refine Zb Ze [] ?_
 simp only [push_cast, seval, ↓reduceIte, Za, hN0, hN]
 refine (Zaw hy8).then ?_
 simp only [push_cast, seval, ↓reduceIte, Za, hN0, hN]
 refine Zk [6, 7] [true, false, false] ?_
 simp only [push_cast, seval, ↓reduceIte]
 refine Zx ?_
 try simp only [Zm, Zj]
 have h := Option.some.inj h; subst h
 refine Zn (.inr rfl) hU [.agg [.val (.int .i64 y8.1.P.Kind), .val (.int .i64 y8.1.P.Off), .val (.int .i64 y8.1.P.Data), .val (.int .i64 y8.1.P.Ptrs), .val (.int .i64 y8.1.P.Code), .val (.int .i64 y8.1.P.Count), .val (.int .i64 y8.1.P.Segment), .val (.bool y8.1.P.Double), .val (.int .i64 y8.1.Segment), .val (.int .i64 y8.1.At)], .val (.int .i64 y8.2)] (by omega) ?_
 simp only [push_cast, seval, ↓reduceIte, Za, Try.results72, hN0, hN]
theorem Zlf {a0 : (Option Zg)} {a1 : Int} {a2 : Int} {r : (Yg × Int)} {O : Objs} {n : Nat} (h : Vc a0 a1 a2 = some r) : GTo Try.prog 73 [(gP Zf a0), .val (.int .i64 a1), .val (.int .i64 a2)] O n (.tup [.agg [.val (.int .i64 r.1.P.Kind), .val (.int .i64 r.1.P.Off), .val (.int .i64 r.1.P.Data), .val (.int .i64 r.1.P.Ptrs), .val (.int .i64 r.1.P.Code), .val (.int .i64 r.1.P.Count), .val (.int .i64 r.1.P.Segment), .val (.bool r.1.P.Double), .val (.int .i64 r.1.Segment), .val (.int .i64 r.1.At)], .val (.int .i64 r.2)]) O n := by
 unfold Vc at h
 refine Xd Ze Try.call73 Try.func73 rfl (Nat.le_of_ble_eq_true rfl) (Nat.le_refl _) fun hU => ?_
 have hN0 : O n = none := hU.fresh _ (Nat.le_refl _)
 have hN : ∀ k, O (n + k) = none := fun k => hU.fresh _ (Nat.le_add_right _ _)
 show W _ _ _ _ ⟨34, [], [(0, (gP Zf a0)), (1, .val (.int .i64 a1)), (2, .val (.int .i64 a2))]⟩ (Zv O n []) _
 refine Zw [0, 1, 2, 6] (Zb Ze [] ?_)
 simp only [push_cast, seval, ↓reduceIte, Za, hN0, hN]
 refine Zl ?_
 obtain ⟨y2, hy2, h⟩ := bC h
 refine Zb Ze [] ?_
 simp only [push_cast, seval, ↓reduceIte, Za, hN0, hN]
 refine (Kv hy2).then ?_
 simp only [push_cast, seval, ↓reduceIte, Za, hN0, hN]
 refine Zk [0, 1, 2, 6, 8, 9] [true] ?_
 simp only [push_cast, seval, ↓reduceIte]
 refine Zl ?_
 refine Zw [0, 1, 2, 6, 8, 19] (Zb Ze [] ?_)
 simp only [push_cast, seval, ↓reduceIte, Za, hN0, hN]
 refine Zz (t := (!y2.2)) rfl (fun c7 => ?_) (fun c7 => ?_)
 ·replace h := Z5 c7 h
  refine Zl ?_
  refine Zb Ze [] ?_
  simp only [push_cast, seval, ↓reduceIte, Za, hN0, hN]
  refine Zk [6, 7] [true] ?_
  simp only [push_cast, seval, ↓reduceIte]
  refine Zx ?_
  try simp only [Zm, Zj]
  have h := Option.some.inj h; subst h
  refine Zn (.inr rfl) hU [.agg [.val (.int .i64 0), .val (.int .i64 0), .val (.int .i64 0), .val (.int .i64 0), .val (.int .i64 0), .val (.int .i64 0), .val (.int .i64 0), .val (.bool false), .val (.int .i64 0), .val (.int .i64 0)], .val (.int .i64 7)] (by omega) ?_
  simp only [push_cast, seval, ↓reduceIte, Za, Try.results73, hN0, hN]
 replace h := Z4 c7 h
 refine Yb ?_
 try simp only [Zm, Zj]
 refine Zk [0, 1, 2, 6, 8] [true] ?_
 simp only [push_cast, seval, ↓reduceIte]
 refine Zl ?_
 obtain ⟨y4, hy4, h⟩ := bC h
 refine Zb Ze [] ?_
 simp only [push_cast, seval, ↓reduceIte, Za, hN0, hN]
 refine (Q0 hy4).then ?_
 simp only [push_cast, seval, ↓reduceIte, Za, hN0, hN]
 refine Zk [0, 1, 2, 6, 10] [true, true] ?_
 simp only [push_cast, seval, ↓reduceIte]
 refine Zl ?_
 obtain ⟨y6, hy6, h⟩ := bC h
 refine Zb Ze [] ?_
 simp only [push_cast, seval, ↓reduceIte, Za, hN0, hN]
 refine (Zaw hy6).then ?_
 simp only [push_cast, seval, ↓reduceIte, Za, hN0, hN]
 refine Zk [6, 7] [true, false] ?_
 simp only [push_cast, seval, ↓reduceIte]
 refine Zx ?_
 try simp only [Zm, Zj]
 have h := Option.some.inj h; subst h
 refine Zn (.inr rfl) hU [.agg [.val (.int .i64 y6.1.P.Kind), .val (.int .i64 y6.1.P.Off), .val (.int .i64 y6.1.P.Data), .val (.int .i64 y6.1.P.Ptrs), .val (.int .i64 y6.1.P.Code), .val (.int .i64 y6.1.P.Count), .val (.int .i64 y6.1.P.Segment), .val (.bool y6.1.P.Double), .val (.int .i64 y6.1.Segment), .val (.int .i64 y6.1.At)], .val (.int .i64 y6.2)] (by omega) ?_
 simp only [push_cast, seval, ↓reduceIte, Za, Try.results73, hN0, hN]
theorem Zld {a0 : (Option Zg)} {a1 : Int} {a2 : Int} {r : (Yg × Int)} {O : Objs} {n : Nat} (h : Va a0 a1 a2 = some r) : GTo Try.prog 48 [(gP Zf a0), .val (.int .i64 a1), .val (.int .i64 a2)] O n (.tup [.agg [.val (.int .i64 r.1.P.Kind), .val (.int .i64 r.1.P.Off), .val (.int .i64 r.1.P.Data), .val (.int .i64 r.1.P.Ptrs), .val (.int .i64 r.1.P.Code), .val (.int .i64 r.1.P.Count), .val (.int .i64 r.1.P.Segment), .val (.bool r.1.P.Double), .val (.int .i64 r.1.Segment), .val (.int .i64 r.1.At)], .val (.int .i64 r.2)]) O n := by
 unfold Va at h
 refine Xd Ze Try.call48 Try.func48 rfl (Nat.le_of_ble_eq_true rfl) (Nat.le_refl _) fun hU => ?_
 have hN0 : O n = none := hU.fresh _ (Nat.le_refl _)
 have hN : ∀ k, O (n + k) = none := fun k => hU.fresh _ (Nat.le_add_right _ _)
 show W _ _ _ _ ⟨67, [], [(0, (gP Zf a0)), (1, .val (.int .i64 a1)), (2, .val (.int .i64 a2))]⟩ (Zv O n []) _
 refine Zw [0, 1, 2, 6] (Zb Ze [] ?_)
 simp only [push_cast, seval, ↓reduceIte, Za, hN0, hN]
 refine Zl ?_
 obtain ⟨y2, hy2, h⟩ := bC h
 refine Zb Ze [] ?_
 simp only [push_cast, seval, ↓reduceIte, Za, hN0, hN]
 refine (Kv hy2).then ?_
 simp only [push_cast, seval, ↓reduceIte, Za, hN0, hN]
 refine Zk [0, 1, 2, 6, 8, 9] [true] ?_
 simp only [push_cast, seval, ↓reduceIte]
 refine Zl ?_
 refine Zw [0, 1, 2, 6, 8, 19] (Zb Ze [] ?_)
 simp only [push_cast, seval, ↓reduceIte, Za, hN0, hN]
 refine Zz (t := (!y2.2)) rfl (fun c14 => ?_) (fun c14 => ?_)
 ·replace h := Z5 c14 h
  refine Zl ?_
  refine Zb Ze [] ?_
  simp only [push_cast, seval, ↓reduceIte, Za, hN0, hN]
  refine Zk [6, 7] [true] ?_
  simp only [push_cast, seval, ↓reduceIte]
  refine Zx ?_
  try simp only [Zm, Zj]
  have h := Option.some.inj h; subst h
  refine Zn (.inr rfl) hU [.agg [.val (.int .i64 0), .val (.int .i64 0), .val (.int .i64 0), .val (.int .i64 0), .val (.int .i64 0), .val (.int .i64 0), .val (.int .i64 0), .val (.bool false), .val (.int .i64 0), .val (.int .i64 0)], .val (.int .i64 7)] (by omega) ?_
  simp only [push_cast, seval, ↓reduceIte, Za, Try.results48, hN0, hN]
 replace h := Z4 c14 h
 refine Yb ?_
 try simp only [Zm, Zj]
 refine Zk [0, 1, 2, 6, 8] [true] ?_
 simp only [push_cast, seval, ↓reduceIte]
 refine Zl ?_
 obtain ⟨y4, hy4, h⟩ := bC h
 refine Zb Ze [] ?_
 simp only [push_cast, seval, ↓reduceIte, Za, hN0, hN]
 refine (Q0 hy4).then ?_
 simp only [push_cast, seval, ↓reduceIte, Za, hN0, hN]
 refine Zk [0, 1, 2, 6, 10] [true, true] ?_
 simp only [push_cast, seval, ↓reduceIte]
 refine Zl ?_
 refine Jz ?_
 refine Zw [0, 1, 2, 6, 10, 23] (Zb Ze [] ?_)
 simp only [push_cast, seval, ↓reduceIte, Za, hN0, hN]
 refine Zz (t := (y4.Kind == 0)) rfl (fun c13 => ?_) (fun c13 => ?_)
 ·replace h := Z5 c13 h
  refine Zl ?_
  refine Zb Ze [] ?_
  simp only [push_cast, seval, ↓reduceIte, Za, hN0, hN]
  refine Zk [6, 7] [true, false] ?_
  simp only [push_cast, seval, ↓reduceIte]
  refine Zx ?_
  try simp only [Zm, Zj]
  have h := Option.some.inj h; subst h
  refine Zn (.inr rfl) hU [.agg [.val (.int .i64 0), .val (.int .i64 0), .val (.int .i64 0), .val (.int .i64 0), .val (.int .i64 0), .val (.int .i64 0), .val (.int .i64 0), .val (.bool false), .val (.int .i64 0), .val (.int .i64 0)], .val (.int .i64 0)] (by omega) ?_
  simp only [push_cast, seval, ↓reduceIte, Za, Try.results48, hN0, hN]
 replace h := Z4 c13 h
 refine Zw [0, 1, 2, 6, 10, 28] (Zb Ze [none, none] ?_)
 simp only [push_cast, seval, ↓reduceIte, Za, hN0, hN]
 repeat (with_reducible refine And.intro (by first | (intro h0; simp only [h0, and_self]; done) | (intro h0; simp only [h0, Bool.not_false, Bool.not_true, Bool.true_and, Bool.and_true, true_and, and_true, and_self, imp_self, implies_true, bne_iff_ne, ne_eq, beq_iff_eq]; done) | (intros; simp_all; done) | exact True.intro) ?_)
 refine Zz (t := (cond (y4.Kind == 3) y4.Double false)) rfl (fun c12 => ?_) (fun c12 => ?_)
 ·replace h := Z5 c12 h
  refine Zl ?_
  obtain ⟨y6, hy6, h⟩ := bC h
  refine Zb Ze [] ?_
  simp only [push_cast, seval, ↓reduceIte, Za, hN0, hN]
  refine (Zle hy6).then ?_
  simp only [push_cast, seval, ↓reduceIte, Za, hN0, hN]
  refine Zk [6, 7] [true, false] ?_
  simp only [push_cast, seval, ↓reduceIte]
  refine Zx ?_
  try simp only [Zm, Zj]
  have h := Option.some.inj h; subst h
  refine Zn (.inr rfl) hU [.agg [.val (.int .i64 y6.1.P.Kind), .val (.int .i64 y6.1.P.Off), .val (.int .i64 y6.1.P.Data), .val (.int .i64 y6.1.P.Ptrs), .val (.int .i64 y6.1.P.Code), .val (.int .i64 y6.1.P.Count), .val (.int .i64 y6.1.P.Segment), .val (.bool y6.1.P.Double), .val (.int .i64 y6.1.Segment), .val (.int .i64 y6.1.At)], .val (.int .i64 y6.2)] (by omega) ?_
  simp only [push_cast, seval, ↓reduceIte, Za, Try.results48, hN0, hN]
 replace h := Z4 c12 h
 refine Zw [0, 1, 2, 6, 10, 44] (Zb Ze [] ?_)
 simp only [push_cast, seval, ↓reduceIte, Za, hN0, hN]
 refine Zz (t := (y4.Kind == 3)) rfl (fun c11 => ?_) (fun c11 => ?_)
 ·replace h := Z5 c11 h
  refine Zl ?_
  obtain ⟨y8, hy8, h⟩ := bC h
  refine Zb Ze [] ?_
  simp only [push_cast, seval, ↓reduceIte, Za, hN0, hN]
  refine (Zlf hy8).then ?_
  simp only [push_cast, seval, ↓reduceIte, Za, hN0, hN]
  refine Zk [6, 7] [true, false] ?_
  simp only [push_cast, seval, ↓reduceIte]
  refine Zx ?_
  try simp only [Zm, Zj]
  have h := Option.some.inj h; subst h
  refine Zn (.inr rfl) hU [.agg [.val (.int .i64 y8.1.P.Kind), .val (.int .i64 y8.1.P.Off), .val (.int .i64 y8.1.P.Data), .val (.int .i64 y8.1.P.Ptrs), .val (.int .i64 y8.1.P.Code), .val (.int .i64 y8.1.P.Count), .val (.int .i64 y8.1.P.Segment), .val (.bool y8.1.P.Double), .val (.int .i64 y8.1.Segment), .val (.int .i64 y8.1.At)], .val (.int .i64 y8.2)] (by omega) ?_
  simp only [push_cast, seval, ↓reduceIte, Za, Try.results48, hN0, hN]
 replace h := Z4 c11 h
 refine Yb ?_
 try simp only [Zm, Zj]
 refine Zk [0, 1, 2, 6, 10] [true, true] ?_
 simp only [push_cast, seval, ↓reduceIte]
 refine Zl ?_
 obtain ⟨y10, hy10, h⟩ := bC h
 refine Zb Ze [] ?_
 simp only [push_cast, seval, ↓reduceIte, Za, hN0, hN]
 refine (Zaw hy10).then ?_
 simp only [push_cast, seval, ↓reduceIte, Za, hN0, hN]
 refine Zk [6, 7] [true, false] ?_
 simp only [push_cast, seval, ↓reduceIte]
 refine Zx ?_
 try simp only [Zm, Zj]
 have h := Option.some.inj h; subst h
 refine Zn (.inr rfl) hU [.agg [.val (.int .i64 y10.1.P.Kind), .val (.int .i64 y10.1.P.Off), .val (.int .i64 y10.1.P.Data), .val (.int .i64 y10.1.P.Ptrs), .val (.int .i64 y10.1.P.Code), .val (.int .i64 y10.1.P.Count), .val (.int .i64 y10.1.P.Segment), .val (.bool y10.1.P.Double), .val (.int .i64 y10.1.Segment), .val (.int .i64 y10.1.At)], .val (.int .i64 y10.2)] (by omega) ?_
 simp only [push_cast, seval, ↓reduceIte, Za, Try.results48, hN0, hN]
theorem Zew {a0 : Zc} {r : (Zc × Int)} {O : Objs} {n : Nat} (h : Ji a0 = some r) : GTo Try.prog 49 [.agg (Zi a0)] O n (.tup [.agg (Zi r.1), .val (.int .i64 r.2)]) O n := by
 unfold Ji at h
 refine Xd Ze Try.call49 Try.func49 rfl (Nat.le_of_ble_eq_true rfl) (Nat.le_refl _) fun hU => ?_
 have hN0 : O n = none := hU.fresh _ (Nat.le_refl _)
 have hN : ∀ k, O (n + k) = none := fun k => hU.fresh _ (Nat.le_add_right _ _)
 show W _ _ _ _ ⟨56, [], [(0, .agg (Zi a0))]⟩ (Zv O n []) _
 refine Zw [1, 2] (Zb Ze [] ?_)
 simp only [push_cast, seval, ↓reduceIte, Za, hN0, hN]
 refine Zl ?_
 obtain ⟨y2, hy2, h⟩ := bC h
 refine Zb Ze [] ?_
 simp only [push_cast, seval, ↓reduceIte, Za, hN0, hN]
 refine (Kv hy2).then ?_
 simp only [push_cast, seval, ↓reduceIte, Za, hN0, hN]
 refine Zk [1, 2, 4] [true, true] ?_
 simp only [push_cast, seval, ↓reduceIte]
 refine Zl ?_
 obtain ⟨y4, hy4, h⟩ := bC h
 refine Zb Ze [] ?_
 simp only [push_cast, seval, ↓reduceIte, Za, hN0, hN]
 refine (Q0 hy4).then ?_
 simp only [push_cast, seval, ↓reduceIte, Za, hN0, hN]
 refine Zk [1, 2, 6] [true, true, true] ?_
 simp only [push_cast, seval, ↓reduceIte]
 refine Zl ?_
 refine Zw [1, 2, 6, 44] (Zb Ze [none, none, none, none, none, none, none, none, none, none, none, none, none, none, none, none, none] ?_)
 simp only [push_cast, seval, ↓reduceIte, Za, hN0, hN]
 repeat (with_reducible refine And.intro (by first | (intro h0; simp only [h0, and_self]; done) | (intro h0; simp only [h0, Bool.not_false, Bool.not_true, Bool.true_and, Bool.and_true, true_and, and_true, and_self, imp_self, implies_true, bne_iff_ne, ne_eq, beq_iff_eq]; done) | (intros; simp_all; done) | exact True.intro) ?_)
 refine Zz (t := (cond (cond (cond (y4.Kind != 0) (y4.Kind != 1) false) true (decide (y4.Off < 0))) true (decide (a0.count < (IntKind.i64.wrap (y4.Off * (IntKind.i64.wrap (y4.Data + y4.Ptrs)))))))) rfl (fun c5 => ?_) (fun c5 => ?_)
 ·replace h := Z5 c5 h
  refine Zl ?_
  refine Zb Ze [] ?_
  simp only [push_cast, seval, ↓reduceIte, Za, hN0, hN]
  refine Zk [2, 3] [false, true, false] ?_
  simp only [push_cast, seval, ↓reduceIte]
  refine Zx ?_
  try simp only [Zm, Zj]
  have h := Option.some.inj h; subst h
  refine Zn (.inr rfl) hU [.agg [.val (.pointer none), .val (.int .i64 0), .val (.int .i64 0), .val (.int .i64 0), .val (.int .i64 0), .val (.int .i64 0), .val (.int .i64 0), .val (.int .i64 0), .val (.int .i64 0)], .val (.int .i64 8)] (by omega) ?_
  simp only [push_cast, seval, ↓reduceIte, Za, Try.results49, hN0, hN]
 replace h := Z4 c5 h
 refine Yb ?_
 try simp only [Zm, Zj]
 refine Zk [1, 2, 6] [true, true, true] ?_
 simp only [push_cast, seval, ↓reduceIte]
 refine Zl ?_
 refine Zl0 Ze (by kernel_rfl) [.plain, .plain, .low, .low, .low, .low, .plain, .pass, .plain, .pass, .plain, .bar] (fun i => i ≠ n + 0) [0, 1, 2, 3, 4, 5, 6, 7, 8, 9, 10, 11] [.plain, .plain, .low, .low, .low, .low, .plain, .pass, .plain, .pass, .plain, .bar] [] (by kernel_rfl) rfl ?_
 simp only [push_cast, seval, ↓reduceIte, Za, hN0, hN]
 repeat (with_reducible refine And.intro (by first | omega | exact Za7 rfl | exact Uy | exact Zh8 rfl | exact Zfd rfl rfl) ?_)
 refine Zk [1, 2] [true, true, false] ?_
 simp only [push_cast, seval, ↓reduceIte]
 refine Zl ?_
 refine Zb Ze [] ?_
 simp only [push_cast, seval, ↓reduceIte, Za, hN0, hN]
 refine Zk [2, 3] [false, true, false] ?_
 simp only [push_cast, seval, ↓reduceIte]
 refine Zx ?_
 try simp only [Zm, Zj]
 have h := Option.some.inj h; subst h
 refine Zn (.inr rfl) hU [.agg [(gP Zf a0.a), .val (.int .i64 a0.kind), .val (.int .i64 a0.segment), .val (.int .i64 a0.at_), .val (.int .i64 y4.Data), .val (.int .i64 y4.Ptrs), .val (.int .i64 y4.Off), .val (.int .i64 a0.code), .val (.int .i64 a0.index)], .val (.int .i64 0)] (by omega) ?_
 simp only [push_cast, seval, ↓reduceIte, Za, Try.results49, hN0, hN]
theorem Zb6 {a0 : (Option Zg)} {a1 : Int} {a2 : Int} {r : (Zc × Int)} {O : Objs} {n : Nat} (h : Js a0 a1 a2 = some r) : GTo Try.prog 16 [(gP Zf a0), .val (.int .i64 a1), .val (.int .i64 a2)] O n (.tup [.agg (Zi r.1), .val (.int .i64 r.2)]) O n := by
 unfold Js at h
 refine Xd Ze Try.call16 Try.func16 rfl (Nat.le_of_ble_eq_true rfl) (Nat.le_refl _) fun hU => ?_
 have hN0 : O n = none := hU.fresh _ (Nat.le_refl _)
 have hN : ∀ k, O (n + k) = none := fun k => hU.fresh _ (Nat.le_add_right _ _)
 show W _ _ _ _ ⟨66, [], [(0, (gP Zf a0)), (1, .val (.int .i64 a1)), (2, .val (.int .i64 a2))]⟩ (Zv O n []) _
 refine Zw [0, 1, 2, 6] (Zb Ze [] ?_)
 simp only [push_cast, seval, ↓reduceIte, Za, hN0, hN]
 refine Zl ?_
 obtain ⟨y2, hy2, h⟩ := bC h
 refine Zb Ze [] ?_
 simp only [push_cast, seval, ↓reduceIte, Za, hN0, hN]
 refine (Zld hy2).then ?_
 simp only [push_cast, seval, ↓reduceIte, Za, hN0, hN]
 refine Zk [0, 6, 8, 9] [true, true] ?_
 simp only [push_cast, seval, ↓reduceIte]
 refine Zl ?_
 refine Zw [0, 6, 8, 9, 25] (Zb Ze [none, none, none, none] ?_)
 simp only [push_cast, seval, ↓reduceIte, Za, hN0, hN]
 repeat (with_reducible refine And.intro (by first | (intro h0; simp only [h0, and_self]; done) | (intro h0; simp only [h0, Bool.not_false, Bool.not_true, Bool.true_and, Bool.and_true, true_and, and_true, and_self, imp_self, implies_true, bne_iff_ne, ne_eq, beq_iff_eq]; done) | (intros; simp_all; done) | exact True.intro) ?_)
 refine Zz (t := (cond (y2.2 != 0) true (y2.1.P.Kind == 0))) rfl (fun c7 => ?_) (fun c7 => ?_)
 ·replace h := Z5 c7 h
  refine Zl ?_
  refine Zb Ze [] ?_
  simp only [push_cast, seval, ↓reduceIte, Za, hN0, hN]
  refine Zk [6, 7] [true, false] ?_
  simp only [push_cast, seval, ↓reduceIte]
  refine Zx ?_
  try simp only [Zm, Zj]
  have h := Option.some.inj h; subst h
  refine Zn (.inr rfl) hU [.agg [.val (.pointer none), .val (.int .i64 0), .val (.int .i64 0), .val (.int .i64 0), .val (.int .i64 0), .val (.int .i64 0), .val (.int .i64 0), .val (.int .i64 0), .val (.int .i64 0)], .val (.int .i64 y2.2)] (by omega) ?_
  simp only [push_cast, seval, ↓reduceIte, Za, Try.results16, hN0, hN]
 replace h := Z4 c7 h
 refine Yb ?_
 try simp only [Zm, Zj]
 refine Zk [0, 6, 8] [true, true] ?_
 simp only [push_cast, seval, ↓reduceIte]
 refine Zl ?_
 refine Zb Ze [] ?_
 simp only [push_cast, seval, ↓reduceIte, Za, hN0, hN]
 refine Zk [6, 8, 10] [true, true, true] ?_
 simp only [push_cast, seval, ↓reduceIte]
 refine Zl ?_
 refine Zw [6, 8, 10, 37] (Zb Ze [] ?_)
 simp only [push_cast, seval, ↓reduceIte, Za, hN0, hN]
 refine Zz (t := (y2.1.P.Kind == 1)) rfl (fun c6 => ?_) (fun c6 => ?_)
 ·replace h := Z5 c6 h
  refine Zl ?_
  refine Zl0 Ze (by kernel_rfl) [.low, .low, .low, .low, .low, .low, .plain, .pass, .plain, .pass, .plain, .bar] (fun i => i ≠ n + 2) [0, 1, 2, 3, 4, 5, 6, 7, 8, 9, 10, 11] [.low, .low, .low, .low, .low, .low, .plain, .pass, .plain, .pass, .plain, .bar] [] (by kernel_rfl) rfl ?_
  simp only [push_cast, seval, ↓reduceIte, Za, hN0, hN]
  repeat (with_reducible refine And.intro (by first | omega | exact Za7 rfl | exact Uy | exact Zh8 rfl | exact Zfd rfl rfl) ?_)
  refine Zk [6, 10] [true, false, true] ?_
  simp only [push_cast, seval, ↓reduceIte]
  refine Zl ?_
  refine Zb Ze [] ?_
  simp only [push_cast, seval, ↓reduceIte, Za, hN0, hN]
  refine Zk [6, 7] [true, false, false] ?_
  simp only [push_cast, seval, ↓reduceIte]
  refine Zx ?_
  try simp only [Zm, Zj]
  have h := Option.some.inj h; subst h
  refine Zn (.inr rfl) hU [.agg [(gP Zf a0), .val (.int .i64 1), .val (.int .i64 y2.1.Segment), .val (.int .i64 y2.1.At), .val (.int .i64 y2.1.P.Data), .val (.int .i64 y2.1.P.Ptrs), .val (.int .i64 0), .val (.int .i64 0), .val (.int .i64 0)], .val (.int .i64 0)] (by omega) ?_
  simp only [push_cast, seval, ↓reduceIte, Za, Try.results16, hN0, hN]
 replace h := Z4 c6 h
 refine Yb ?_
 try simp only [Zm, Zj]
 refine Zk [6, 8, 10] [true, true, true] ?_
 simp only [push_cast, seval, ↓reduceIte]
 refine Zl ?_
 refine Zl0 Ze (by kernel_rfl) [.plain, .plain, .plain, .plain, .low, .low, .low, .plain, .pass, .plain, .bar] (fun i => i ≠ n + 2) [0, 1, 2, 3, 4, 5, 6, 7, 8, 9, 10] [.plain, .plain, .plain, .plain, .low, .low, .low, .plain, .pass, .plain, .bar] [] (by kernel_rfl) rfl ?_
 simp only [push_cast, seval, ↓reduceIte, Za, hN0, hN]
 repeat (with_reducible refine And.intro (by first | omega | exact Za7 rfl | exact Uy | exact Zh8 rfl | exact Zfd rfl rfl) ?_)
 refine Zk [6, 8, 10] [true, true, true] ?_
 simp only [push_cast, seval, ↓reduceIte]
 refine Zl ?_
 refine Zw [6, 10, 60] (Zb Ze [] ?_)
 simp only [push_cast, seval, ↓reduceIte, Za, hN0, hN]
 refine Zz (t := (y2.1.P.Code == 7)) rfl (fun c5 => ?_) (fun c5 => ?_)
 ·replace h := Z5 c5 h
  refine Zl ?_
  obtain ⟨y4, hy4, h⟩ := bC h
  refine Zb Ze [] ?_
  simp only [push_cast, seval, ↓reduceIte, Za, hN0, hN]
  refine (Zew hy4).then ?_
  simp only [push_cast, seval, ↓reduceIte, Za, hN0, hN]
  refine Zk [6, 7] [true, false, false] ?_
  simp only [push_cast, seval, ↓reduceIte]
  refine Zx ?_
  try simp only [Zm, Zj]
  have h := Option.some.inj h; subst h
  refine Zn (.inr rfl) hU [.agg (Zi y4.1), .val (.int .i64 y4.2)] (by omega) ?_
  simp only [push_cast, seval, ↓reduceIte, Za, Try.results16, hN0, hN]
 replace h := Z4 c5 h
 refine Yb ?_
 try simp only [Zm, Zj]
 refine Zk [6, 10] [true, false, true] ?_
 simp only [push_cast, seval, ↓reduceIte]
 refine Zl ?_
 refine Zb Ze [] ?_
 simp only [push_cast, seval, ↓reduceIte, Za, hN0, hN]
 refine Zk [6, 7] [true, false, false] ?_
 simp only [push_cast, seval, ↓reduceIte]
 refine Zx ?_
 try simp only [Zm, Zj]
 have h := Option.some.inj h; subst h
 refine Zn (.inr rfl) hU [.agg [(gP Zf a0), .val (.int .i64 (IntKind.i64.wrap (y2.1.P.Code + 2))), .val (.int .i64 y2.1.Segment), .val (.int .i64 y2.1.At), .val (.int .i64 0), .val (.int .i64 0), .val (.int .i64 y2.1.P.Count), .val (.int .i64 0), .val (.int .i64 0)], .val (.int .i64 0)] (by omega) ?_
 simp only [push_cast, seval, ↓reduceIte, Za, Try.results16, hN0, hN]
theorem Zjv {a0 : (Option Zg)} {r : (Zc × Int)} {O : Objs} {n : Nat} (h : Kh a0 = some r) : GTo Try.prog 24 [(gP Zf a0)] O n (.tup [.agg (Zi r.1), .val (.int .i64 r.2)]) O n := by
 unfold Kh at h
 refine Xd Ze Try.call24 Try.func24 rfl (Nat.le_of_ble_eq_true rfl) (Nat.le_refl _) fun hU => ?_
 have hN0 : O n = none := hU.fresh _ (Nat.le_refl _)
 have hN : ∀ k, O (n + k) = none := fun k => hU.fresh _ (Nat.le_add_right _ _)
 show W _ _ _ _ ⟨8, [], [(0, (gP Zf a0))]⟩ (Zv O n []) _
 refine Zw [0, 2] (Zb Ze [] ?_)
 simp only [push_cast, seval, ↓reduceIte, Za, hN0, hN]
 refine Zl ?_
 obtain ⟨y2, hy2, h⟩ := bC h
 refine Zb Ze [] ?_
 simp only [push_cast, seval, ↓reduceIte, Za, hN0, hN]
 refine (Zb6 hy2).then ?_
 simp only [push_cast, seval, ↓reduceIte, Za, hN0, hN]
 refine Zk [2, 3] [true] ?_
 simp only [push_cast, seval, ↓reduceIte]
 refine Zx ?_
 try simp only [Zm, Zj]
 have h := Option.some.inj h; subst h
 refine Zn (.inr rfl) hU [.agg (Zi y2.1), .val (.int .i64 y2.2)] (by omega) ?_
 simp only [push_cast, seval, ↓reduceIte, Za, Try.results24, hN0, hN]
theorem Qj {a0 : Zc} {r : Int} {O : Objs} {n : Nat} (h : Yk a0 = some r) : GTo Try.prog 25 [.agg (Zi a0)] O n (.val (.int .i64 r)) O n := by
 unfold Yk at h
 refine Xd Ze Try.call25 Try.func25 rfl (Nat.le_of_ble_eq_true rfl) (Nat.le_refl _) fun hU => ?_
 have hN0 : O n = none := hU.fresh _ (Nat.le_refl _)
 have hN : ∀ k, O (n + k) = none := fun k => hU.fresh _ (Nat.le_add_right _ _)
 show W _ _ _ _ ⟨5, [], [(0, .agg (Zi a0))]⟩ (Zv O n []) _
 refine Zw [1] (Zb Ze [] ?_)
 simp only [push_cast, seval, ↓reduceIte, Za, hN0, hN]
 refine Zw [2] (Zb Ze [] ?_)
 simp only [push_cast, seval, ↓reduceIte, Za, hN0, hN]
 refine Zx ?_
 try simp only [Zm, Zj]
 have h := Option.some.inj h; subst h
 refine Zn (.inr rfl) hU [.val (.int .i64 a0.kind)] (by omega) ?_
 simp only [push_cast, seval, ↓reduceIte, Za, Try.results25, hN0, hN]
theorem Yw {a0 : Zc} {r : Int} {O : Objs} {n : Nat} (h : Z9 a0 = some r) : GTo Try.prog 26 [.agg (Zi a0)] O n (.val (.int .i64 r)) O n := by
 unfold Z9 at h
 refine Xd Ze Try.call26 Try.func26 rfl (Nat.le_of_ble_eq_true rfl) (Nat.le_refl _) fun hU => ?_
 have hN0 : O n = none := hU.fresh _ (Nat.le_refl _)
 have hN : ∀ k, O (n + k) = none := fun k => hU.fresh _ (Nat.le_add_right _ _)
 show W _ _ _ _ ⟨10, [], [(0, .agg (Zi a0))]⟩ (Zv O n []) _
 refine Zw [1] (Zb Ze [] ?_)
 simp only [push_cast, seval, ↓reduceIte, Za, hN0, hN]
 refine Zl ?_
 refine Zw [1, 5] (Zb Ze [] ?_)
 simp only [push_cast, seval, ↓reduceIte, Za, hN0, hN]
 refine Zz (t := (a0.kind == 1)) rfl (fun c1 => ?_) (fun c1 => ?_)
 ·replace h := Z5 c1 h
  refine Zw [2] (Zb Ze [] ?_)
  simp only [push_cast, seval, ↓reduceIte, Za, hN0, hN]
  refine Zx ?_
  try simp only [Zm, Zj]
  have h := Option.some.inj h; subst h
  refine Zn (.inr rfl) hU [.val (.int .i64 a0.ptrs)] (by omega) ?_
  simp only [push_cast, seval, ↓reduceIte, Za, Try.results26, hN0, hN]
 replace h := Z4 c1 h
 refine Yb ?_
 try simp only [Zm, Zj]
 refine Zk [1] [true] ?_
 simp only [push_cast, seval, ↓reduceIte]
 refine Zw [2] (Zb Ze [] ?_)
 simp only [push_cast, seval, ↓reduceIte, Za, hN0, hN]
 refine Zx ?_
 try simp only [Zm, Zj]
 have h := Option.some.inj h; subst h
 refine Zn (.inr rfl) hU [.val (.int .i64 a0.count)] (by omega) ?_
 simp only [push_cast, seval, ↓reduceIte, Za, Try.results26, hN0, hN]
theorem Zao {a0 : Zc} {a1 : Int} {r : (Zc × Int)} {O : Objs} {n : Nat} (h : Xn a0 a1 = some r) : GTo Try.prog 20 [.agg (Zi a0), .val (.int .i64 a1)] O n (.tup [.agg (Zi r.1), .val (.int .i64 r.2)]) O n := by
 unfold Xn at h
 refine Xd Ze Try.call20 Try.func20 rfl (Nat.le_of_ble_eq_true rfl) (Nat.le_refl _) fun hU => ?_
 have hN0 : O n = none := hU.fresh _ (Nat.le_refl _)
 have hN : ∀ k, O (n + k) = none := fun k => hU.fresh _ (Nat.le_add_right _ _)
 show W _ _ _ _ ⟨81, [], [(0, .agg (Zi a0)), (1, .val (.int .i64 a1))]⟩ (Zv O n []) _
 refine Zw [1, 2, 4] (Zb Ze [] ?_)
 simp only [push_cast, seval, ↓reduceIte, Za, hN0, hN]
 refine Zl ?_
 obtain ⟨z2, hz2, h⟩ := bC h
 refine Zb1 (E' := ⟨81, [], [(1, .val (.int .i64 a1)), (2, .ref n 0), (4, .ref (n + 1) 0), (14, .val (.bool z2))]⟩) (O' := (Zv O n [some ⟨false, 27, 9, 1, (Zi a0)⟩, some ⟨false, 27, 9, 1, [.val (.pointer none), .val (.int .i64 0), .val (.int .i64 0), .val (.int .i64 0), .val (.int .i64 0), .val (.int .i64 0), .val (.int .i64 0), .val (.int .i64 0), .val (.int .i64 0)]⟩])) (n0 := (n + 2)) ?_ ?_
 ·rcases Bool.eq_false_or_eq_true (decide (a1 < 0)) with c5 | c5
  ·replace hz2 := Z5 c5 hz2
   refine Zb Ze [some false, some false, some false, some false] ?_
   simp only [push_cast, seval, ↓reduceIte, Za, c5, hN0, hN]
   have hz2 := Option.some.inj hz2; subst hz2
   refine And.intro rfl (Fit2.of (Xc hU rfl rfl ?_) (by omega))
   simp only [push_cast, seval, ↓reduceIte, Za, c5, hN0, hN]
  replace hz2 := Z4 c5 hz2
  obtain ⟨y4, hy4, hz2⟩ := bC hz2
  refine Zb Ze [some true, some true, some true, some true] ?_
  simp only [push_cast, seval, ↓reduceIte, Za, c5, hN0, hN]
  refine (Yw hy4).then ?_
  simp only [push_cast, seval, ↓reduceIte, Za, c5, hN0, hN]
  have hz2 := Option.some.inj hz2; subst hz2
  refine And.intro rfl (Fit2.of (Xc hU rfl rfl ?_) (by omega))
  simp only [push_cast, seval, ↓reduceIte, Za, c5, hN0, hN]
 refine Zz (t := z2) rfl (fun c13 => ?_) (fun c13 => ?_)
 ·replace h := Z5 c13 h
  refine Zl ?_
  refine Zb Ze [] ?_
  simp only [push_cast, seval, ↓reduceIte, Za, hN0, hN]
  refine Zk [4, 5] [false, true] ?_
  simp only [push_cast, seval, ↓reduceIte]
  refine Zx ?_
  try simp only [Zm, Zj]
  have h := Option.some.inj h; subst h
  refine Zn (.inr rfl) hU [.agg [.val (.pointer none), .val (.int .i64 0), .val (.int .i64 0), .val (.int .i64 0), .val (.int .i64 0), .val (.int .i64 0), .val (.int .i64 0), .val (.int .i64 0), .val (.int .i64 0)], .val (.int .i64 0)] (by omega) ?_
  simp only [push_cast, seval, ↓reduceIte, Za, Try.results20, hN0, hN]
 replace h := Z4 c13 h
 refine Yb ?_
 try simp only [Zm, Zj]
 refine Zk [1, 2, 4] [true, true] ?_
 simp only [push_cast, seval, ↓reduceIte]
 refine Zl ?_
 refine Zw [1, 2, 4, 17] (Zb Ze [] ?_)
 simp only [push_cast, seval, ↓reduceIte, Za, hN0, hN]
 refine Jz ?_
 refine Zw [1, 2, 4, 17, 18] (Zb Ze [] ?_)
 simp only [push_cast, seval, ↓reduceIte, Za, hN0, hN]
 refine Zz (t := (a0.kind == 1)) rfl (fun c12 => ?_) (fun c12 => ?_)
 ·replace h := Z5 c12 h
  refine Zl ?_
  obtain ⟨y7, hy7, h⟩ := bC h
  refine Zb Ze [] ?_
  simp only [push_cast, seval, ↓reduceIte, Za, hN0, hN]
  refine (Zb6 hy7).then ?_
  simp only [push_cast, seval, ↓reduceIte, Za, hN0, hN]
  refine Zk [4, 5] [false, true] ?_
  simp only [push_cast, seval, ↓reduceIte]
  refine Zx ?_
  try simp only [Zm, Zj]
  have h := Option.some.inj h; subst h
  refine Zn (.inr rfl) hU [.agg (Zi y7.1), .val (.int .i64 y7.2)] (by omega) ?_
  simp only [push_cast, seval, ↓reduceIte, Za, Try.results20, hN0, hN]
 replace h := Z4 c12 h
 refine Zw [1, 2, 4, 17, 34] (Zb Ze [] ?_)
 simp only [push_cast, seval, ↓reduceIte, Za, hN0, hN]
 refine Zz (t := (a0.kind == 8)) rfl (fun c11 => ?_) (fun c11 => ?_)
 ·replace h := Z5 c11 h
  refine Zl ?_
  obtain ⟨y9, hy9, h⟩ := bC h
  refine Zb Ze [] ?_
  simp only [push_cast, seval, ↓reduceIte, Za, hN0, hN]
  refine (Zb6 hy9).then ?_
  simp only [push_cast, seval, ↓reduceIte, Za, hN0, hN]
  refine Zk [4, 5] [false, true] ?_
  simp only [push_cast, seval, ↓reduceIte]
  refine Zx ?_
  try simp only [Zm, Zj]
  have h := Option.some.inj h; subst h
  refine Zn (.inr rfl) hU [.agg (Zi y9.1), .val (.int .i64 y9.2)] (by omega) ?_
  simp only [push_cast, seval, ↓reduceIte, Za, Try.results20, hN0, hN]
 replace h := Z4 c11 h
 refine Zw [1, 2, 4, 47] (Zb Ze [] ?_)
 simp only [push_cast, seval, ↓reduceIte, Za, hN0, hN]
 refine Zz (t := (a0.kind == 9)) rfl (fun c10 => ?_) (fun c10 => ?_)
 ·replace h := Z5 c10 h
  refine Zw [2, 4, 6] (Zb Ze [] ?_)
  simp only [push_cast, seval, ↓reduceIte, Za, hN0, hN]
  refine Zl ?_
  refine Zb Ze [] ?_
  simp only [push_cast, seval, ↓reduceIte, Za, hN0, hN]
  refine Zk [4, 5] [false, true] ?_
  simp only [push_cast, seval, ↓reduceIte]
  refine Zx ?_
  try simp only [Zm, Zj]
  have h := Option.some.inj h; subst h
  refine Zn (.inr rfl) hU [.agg [(gP Zf a0.a), .val (.int .i64 1), .val (.int .i64 a0.segment), .val (.int .i64 (IntKind.i64.wrap ((IntKind.i64.wrap (a0.at_ + 1)) + (IntKind.i64.wrap (a1 * (IntKind.i64.wrap (a0.words + a0.ptrs))))))), .val (.int .i64 a0.words), .val (.int .i64 a0.ptrs), .val (.int .i64 0), .val (.int .i64 0), .val (.int .i64 0)], .val (.int .i64 0)] (by omega) ?_
  simp only [push_cast, seval, ↓reduceIte, Za, Try.results20, hN0, hN]
 replace h := Z4 c10 h
 refine Yb ?_
 try simp only [Zm, Zj]
 refine Zk [1, 2, 4] [true, true] ?_
 simp only [push_cast, seval, ↓reduceIte]
 refine Zl ?_
 refine Zb Ze [] ?_
 simp only [push_cast, seval, ↓reduceIte, Za, hN0, hN]
 refine Zk [4, 5] [false, true] ?_
 simp only [push_cast, seval, ↓reduceIte]
 refine Zx ?_
 try simp only [Zm, Zj]
 have h := Option.some.inj h; subst h
 refine Zn (.inr rfl) hU [.agg [(gP Zf a0.a), .val (.int .i64 10), .val (.int .i64 a0.segment), .val (.int .i64 a0.at_), .val (.int .i64 0), .val (.int .i64 0), .val (.int .i64 0), .val (.int .i64 (IntKind.i64.wrap (a0.kind - 2))), .val (.int .i64 a1)], .val (.int .i64 0)] (by omega) ?_
 simp only [push_cast, seval, ↓reduceIte, Za, Try.results20, hN0, hN]
theorem Zev {a0 : Zc} {r : Int} {O : Objs} {n : Nat} (h : Qh a0 = some r) : GTo Try.prog 53 [.agg (Zi a0)] O n (.val (.int .i64 r)) O n := by
 unfold Qh at h
 refine Xd Ze Try.call53 Try.func53 rfl (Nat.le_of_ble_eq_true rfl) (Nat.le_refl _) fun hU => ?_
 have hN0 : O n = none := hU.fresh _ (Nat.le_refl _)
 have hN : ∀ k, O (n + k) = none := fun k => hU.fresh _ (Nat.le_add_right _ _)
 show W _ _ _ _ ⟨11, [], [(0, .agg (Zi a0))]⟩ (Zv O n []) _
 refine Zw [1] (Zb Ze [] ?_)
 simp only [push_cast, seval, ↓reduceIte, Za, hN0, hN]
 refine Zl ?_
 refine Zw [1, 4] (Zb Ze [] ?_)
 simp only [push_cast, seval, ↓reduceIte, Za, hN0, hN]
 refine Jz ?_
 refine Zw [1, 4, 5] (Zb Ze [] ?_)
 simp only [push_cast, seval, ↓reduceIte, Za, hN0, hN]
 refine Zz (t := (a0.kind == 1)) rfl (fun c2 => ?_) (fun c2 => ?_)
 ·replace h := Z5 c2 h
  refine Zw [2] (Zb Ze [] ?_)
  simp only [push_cast, seval, ↓reduceIte, Za, hN0, hN]
  refine Zx ?_
  try simp only [Zm, Zj]
  have h := Option.some.inj h; subst h
  refine Zn (.inr rfl) hU [.val (.int .i64 a0.words)] (by omega) ?_
  simp only [push_cast, seval, ↓reduceIte, Za, Try.results53, hN0, hN]
 replace h := Z4 c2 h
 refine Zw [9] (Zb Ze [] ?_)
 simp only [push_cast, seval, ↓reduceIte, Za, hN0, hN]
 refine Zz (t := (a0.kind == 10)) rfl (fun c1 => ?_) (fun c1 => ?_)
 ·replace h := Z5 c1 h
  refine Zw [2] (Zb Ze [] ?_)
  simp only [push_cast, seval, ↓reduceIte, Za, hN0, hN]
  refine Zx ?_
  try simp only [Zm, Zj]
  have h := Option.some.inj h; subst h
  refine Zn (.inr rfl) hU [.val (.int .i64 1)] (by omega) ?_
  simp only [push_cast, seval, ↓reduceIte, Za, Try.results53, hN0, hN]
 replace h := Z4 c1 h
 refine Yb ?_
 try simp only [Zm, Zj]
 refine Zk [] [false] ?_
 simp only [push_cast, seval, ↓reduceIte]
 refine Zw [2] (Zb Ze [] ?_)
 simp only [push_cast, seval, ↓reduceIte, Za, hN0, hN]
 refine Zx ?_
 try simp only [Zm, Zj]
 have h := Option.some.inj h; subst h
 refine Zn (.inr rfl) hU [.val (.int .i64 0)] (by omega) ?_
 simp only [push_cast, seval, ↓reduceIte, Za, Try.results53, hN0, hN]
end Go.Proofs.Ytmlhokaflhlhbaa
