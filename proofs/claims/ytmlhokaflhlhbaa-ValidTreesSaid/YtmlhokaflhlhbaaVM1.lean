/- Part VM1 of this seat's mirrors: functions of the seat's program, and the plain functions that they are; each theorem bears its own conditions. -/
import Derived.Test.YtmlhokaflhlhbaaVE
namespace Go.Proofs.Ytmlhokaflhlhbaa
open Go.RowKit
set_option linter.unusedVariables false
set_option linter.unusedSimpArgs false
set_option maxRecDepth 100000
set_option maxHeartbeats 4000000
attribute [local push_cast] Yg Zz Zn Yh Zp Zi3 Zi2 Zjs Zjr Zi Zf Zfx Zb2 Zb1 onW Yw U1 Ua Zi8 Zh6 Zed Zei Zec Zeh Zgx Zgu Zeg Zgw Zgv Zee Zgs Zcm evS wok Xi Op.operands Call.operands gop onK onP atK List.all_cons List.all_nil Bool.and_true Bool.true_and Bool.and_self Value.oneCell' List.take_zero List.take_succ_cons List.take_nil List.drop_zero List.drop_succ_cons List.drop_nil List.append_nil Nat.add_zero Nat.zero_add J8 Z8 ev Xn Zoq Ziu Zit Ziz Zix Ziy Ziv Ziw Zis Zlf Zl4 Zor Zdb Uf Zc3 Ut Zds Zba Zah Zam Zbx Zbu Zak Zbw Zbv Zaj Zbs Zai Zal U8 Zbt Zfz Zb3 Vh Zc4 Vi Zep Zda Zmy bLo bHi bMx Ug Zeo Zpy Zc9 Ze6 Zad Ki Zlu Zp2 Zc1 Zp6 Ue Zq6 Zf4 Zf8 Zf3 Zf7 Zje Zjb Zi9 Zdw Zf5 Zjd Zjc Zf6 Zja Zeq Zi4 Zgl Zch Zcg pop TK.isAgg Zjl Zjp Zjk Zjo Zgf Znf Znc Zjn Zne Znd Zjm Znb G.under G.unders List.getD_cons_zero List.getD_cons_succ List.set_cons_zero List.set_cons_succ List.map_cons List.map_nil List.toList_toArray Array.toList_append Option.toArray_none Option.toArray_some Array.toList_map Option.map_some Option.map_none Option.bind_some Option.bind_none List.getElem?_cons_zero List.getElem?_cons_succ List.getElem?_nil List.nil_append List.cons_append List.replicate_succ List.replicate_zero List.length_cons List.length_nil and_true true_and and_false false_and Bool.true_eq_false Bool.false_eq_true forall_const false_implies implies_true IntKind.bits if_true if_false ite_true ite_false eq_self true_implies false_or or_false or_true true_or not_true_eq_false not_false_eq_true decide_true decide_false decide_eq_true_eq decide_eq_false_iff_not beq_iff_eq bne_iff_ne ne_eq Bool.not_eq_true Bool.not_eq_false beq_eq_false_iff_ne bne_eq_false_iff_eq beq_self_eq_true bne_self_eq_false Option.some.injEq exists_eq_left' exists_eq_left ge_iff_le gt_iff_lt decide_not Bool.not_true Bool.not_false imp_self Zm0 cond_true cond_false Zvz Zvy Bool.not_not Bool.and_false Bool.false_and Bool.or_true Bool.true_or Bool.or_false Bool.false_or V9 Zem Zc0 Zbq Zae Uz Option.join_some Nat.add_assoc Int.toNat_natCast eI eB eS eL Zby Zbk Zas Zi7 Zi5 Zi6 Zrk Ztn Zbm Zaz Zjz Zjx Zjy Zoz Zfw Zmr Zgq Zmq Gu Zle List.length_append G.agg.injEq G.row.injEq G.ref.injEq G.val.injEq G.sl.injEq G.tup.injEq Value.int.injEq Value.bool.injEq Value.string.injEq List.cons.injEq exists_and_left exists_const List.flatten_cons List.flatten_nil Int.le_refl Nat.le_refl Zhg Kh Zfr Bool.not_eq_true' Bool.not_eq_false' Zla Zcs Zoj Zon Zoi Zom Zsy Zsu List.size_toArray Zj1 Zj2 G.ren G.rens Zl6 Zbc Zj5 Zip Ziq Zgt Zoo Zcb G.fn.injEq Zej Zhj Zk8 Zsv Zhi Zol Zsx Zsw Zok Zm6 Zrf Option.join_none Xh Vg undef Ze7 Arr.len Arr.put_eq Zbl Zd1 Zcc Zay Zjw Zju Zjv onB Zrj Zls Zgr Zfh Zfi Zfj Zfk Zfl Zfm Zdz Zd5 Zd3 Zcf Za0 Zd4 Zgk Zgj Zgi Zgh Ztm Zvc Zoy Znh Qw Zot Zjf Zd7 Zce Zqd Zj7 Zc8 Ze5 Gj Zd8 Zfn Zfo Zfp Zfq Zdg Zdh Zdi Zdj Zdk Zdl Zdm Zan prT Gc Zw4 Zn6 Zvn Zn7 Zw5 Zn8 Zw6 Zn9 Zw7 Zoa Zw8 Zob Zw9 Zoc Zxa Zod Zrv Zj8 Zrw Zj9 Zrx Zka Zry Zkb Zrz Zkc Zr0 Zkd Zr1 Zke Zr2 Zkf Zr3 Zkg Zr4 Zkh Zr5 Zki Zr6 Zkj Zr7 Zkk Zr8 Zhu Zr9 Zkl Zsa Zkm Zsb Zkn Gp Zko Zsc Zkp Zsd Zkq Gs Zc7 Zse Zkr Zsf Zks Zsg Zkt Zsh Zku Zl3 Zkv Zsi Zkw Zsj Zkx Zsk Zky Zsl Zkz Zsm Zk0 Zsn Zk1 Zso Zk2 Zsp Zk3 Zsq Zk4 Zsr Zk5 Zss Zk6 Znp Zgz Znq Zg0 Znr Zg1 Zns Zg2 Znt Zg3 Znu Zg4 Znv Zg5 Znw Zg6 Znx Zg7 Zny Zg8 Znz Zg9 Zn0 Zha Zn1 Zhb Zn2 Zhc Zn3 Zhd Zn4 Zhe Zn5 Zhf Zcu Zcr Zb6 Zca Zcx Za9 Za6 Za4 Zco Up Uo Uh Ul Uq V2 V1 V0 Un Zk Jk Jj Jd Jh Jl Q2 Q1 Q0 Ji Zap Zct Zcq Zb5 Zb9 Zcw Za8 Za5 Za3 Zcn Zao Vu Jv Jw X3 Z3 Ql Qk Qh Qi Qm Qa X8 X7 Qj Zw Jo Vc Vb K0 K6 Vd Ks Kq Kp K9
theorem Ve {a0 r : List Int} {O : Objs} {n : Nat} (h : Yo a0 = some r) : GTo Try.prog 70 [.sl a0.length (fl (eI .u64) a0)] O n (.row n r.length) (Z4 O n [some ⟨true, 31, 1, r.length, fl (eI .u64) r⟩]) (n + 1) := by
 have h1 := Zs5 h
 have h2 := Zs6 h
 have h3 := Zps h
 rw [List.nil_append] at h3
 subst h3
 simp only [List.length_nil, Nat.zero_add] at h1 h2
 clear h
 refine Yn Zc Try.call70 Try.func70 rfl (Nat.le_of_ble_eq_true rfl) (by omega) fun hU => ?_
 have hN0 : O n = none := hU.fresh _ (Nat.le_refl _)
 have hN : ∀ k, O (n + k) = none := fun k => hU.fresh _ (Nat.le_add_right _ _)
 show W _ _ _ _ ⟨8, [], [(0, .sl r.length (fl (eI .u64) r))]⟩ (Z4 O n []) _
 refine Zq [0] (Zb Zc [] ?_)
 simp only [push_cast, seval, ↓reduceIte, Za, hN0, hN]
 refine Zyd 0 r.length (fl (eI .u64) r) rfl (Nat.le_of_ble_eq_true rfl) (Yk Jq _) fun A c hA => ?_
 refine Zq [0, 4] (Zb Zc [] ?_)
 simp only [push_cast, seval, ↓reduceIte, Za, hN0, hN]
 cases A with
 | none =>
  obtain rfl : r = [] := List.eq_nil_of_length_eq_zero (hA rfl)
  refine Zr (t := true) rfl (fun _ => ?_) (fun hc => by cases hc)
  refine Zq [2] (Zb Zc [] ?_)
  simp only [push_cast, seval, ↓reduceIte, Za, hN0, hN]
  refine Zt ?_
  try simp only [Zi, Zf]
  refine Zv7 (k := 1) (L3 := [some ⟨true, 31, 1, 0, []⟩]) (E2 := ⟨8, [], [(2, .row n 0), (2, .val (.slice none 0 0))]⟩) (n3 := (n + 1)) (.inr rfl) hU rfl [.row n 0] ?_ ?_
  ·have ha := Zut (ba := n) (E := ⟨8, [], [(2, .val (.slice none 0 0))]⟩) (O := (Z4 O n [])) (n := n) 2 31 1 rfl (by omega)
   simp only [Uz] at ha
   exact ha
  simp only [push_cast, seval, ↓reduceIte, Za, Try.results70, hN0, hN]
 | some A =>
  refine Zr (t := false) rfl (fun hc => by cases hc) (fun _ => ?_)
  refine Zx ?_
  try simp only [Zi, Zf]
  refine And.intro rfl (And.intro (Nat.le_of_ble_eq_true rfl) ?_)
  refine Zh ?_
  refine Zb Zc [] ?_
  simp only [push_cast, seval, ↓reduceIte, Za, h1, h2, hN0, hN]
  refine Zt ?_
  try simp only [Zi, Zf]
  refine Zv6 (.inr rfl) hU rfl [.row n r.length] (by omega) ?_
  simp only [push_cast, seval, ↓reduceIte, Za, Try.results70, hN0, hN]
theorem Gz {a0 r : List Int} {O : Objs} {n : Nat} (h : Yo a0 = some r) : GTo Try.prog 70 [.sl a0.length (fl (eI .u64) a0)] O n (.sl r.length (fl (eI .u64) r)) O n := by
 refine GTo.freeze (Ve h) fun hU => ?_
 have hN0 : O n = none := hU.fresh _ (Nat.le_refl _)
 have hN : ∀ k, O (n + k) = none := fun k => hU.fresh _ (Nat.le_add_right _ _)
 simp only [push_cast, seval, ↓reduceIte, Za, hN0, hN]
theorem Zm9 {a0 : (List (List Int))} {r : (List (List Int))} {O : Objs} {n : Nat} (h : Uj a0 = some r) : GTo Try.prog 47 [.sl a0.length (fl (eL (eI .u64)) a0)] O n (.sl r.length (fl (eL (eI .u64)) r)) O n := by
 unfold Uj at h
 refine Yn Zc Try.call47 Try.func47 rfl (Nat.le_of_ble_eq_true rfl) (Nat.le_refl _) fun hU => ?_
 have hN0 : O n = none := hU.fresh _ (Nat.le_refl _)
 have hN : ∀ k, O (n + k) = none := fun k => hU.fresh _ (Nat.le_add_right _ _)
 show W _ _ _ _ ⟨23, [], [(0, .sl a0.length (fl (eL (eI .u64)) a0))]⟩ (Z4 O n []) _
 refine Zq [0] (Zb Zc [] ?_)
 simp only [push_cast, seval, ↓reduceIte, Za, hN0, hN]
 refine Zh ?_
 obtain ⟨l2, al2, bl2, cl2, el2, h⟩ := bM2 (c := 24) rfl h
 have nl2 : Int.toNat (a0.length : Int) = List.length l2 := by rw [el2, List.length_replicate]
 have fl2 : ∀ O O' n, U4 O O' n (List.replicate (List.length l2) [G.val (.slice none 0 0)]).flatten (fl (eL (eI .u64)) l2) = True := fun O O' n => by rw [← nl2, el2]; exact eq_true (Zsz _ _)
 clear el2
 refine Zb Zc [] ?_
 simp only [push_cast, seval, ↓reduceIte, Za, al2, bl2, cl2, fl2, nl2, hN0, hN]
 refine Zqp ⟨23, [], [(0, .sl a0.length (fl (eL (eI .u64)) a0)), (3, .row n l2.length)]⟩ (Z4 O n [some ⟨true, 42, 1, l2.length, fl (eL (eI .u64)) l2⟩]) (Zs hU rfl rfl ?_) ?_
 ·simp only [push_cast, seval, ↓reduceIte, Za, al2, bl2, cl2, fl2, nl2, hN0, hN]
 refine Zh ?_
 refine Zq [3, 9, 10, 11] (Zb Zc [] ?_)
 simp only [push_cast, seval, ↓reduceIte, Za, hN0, hN]
 refine Zg [3, 9, 10, 11] [true] ?_
 simp only [push_cast, seval, ↓reduceIte]
 obtain ⟨z9, hz9, h⟩ := bC h
 refine Kz (E' := ⟨23, [], [(3, .row n z9.length)]⟩) (O' := (Z4 O n [some ⟨true, 42, 1, z9.length, fl (eL (eI .u64)) z9⟩])) (n0 := (n + 1)) ?_ ?_
 ·refine V4 hz9 (fun s0_ => ⟨23, [], [(3, .row n s0_.2.length), (9, .sl a0.length (fl (eL (eI .u64)) a0)), (10, .val (.int .i64 (a0.length : Int))), (11, .val (.int .i64 s0_.1))]⟩) (fun s0_ => (Z4 O n [some ⟨true, 42, 1, s0_.2.length, fl (eL (eI .u64)) s0_.2⟩])) (fun z9 => JX 0 n (⟨23, [], [(3, .row n z9.length)]⟩ : Env) (Z4 O n [some ⟨true, 42, 1, z9.length, fl (eL (eI .u64)) z9⟩]) (n + 1)) ?_
  intro s0_ x0_ hs0_
  unfold Jp at hs0_
  try dsimp only
  refine Zq [3, 9, 10, 11, 12] (Zb Zc [] ?_)
  simp only [push_cast, seval, ↓reduceIte, Za, hN0, hN]
  refine Zh ?_
  refine Zr (t := (decide (s0_.1 < (a0.length : Int)))) rfl (fun c8 => ?_) (fun c8 => ?_)
  ·replace hs0_ := Zv c8 hs0_
   refine Zx ?_
   try simp only [Zi, Zf]
   refine Zg [3, 9, 10, 11] [true] ?_
   simp only [push_cast, seval, ↓reduceIte]
   refine Zh ?_
   refine Xc ?_
   obtain ⟨x4, hx4, ax4, bx4, cx4, hs0_⟩ := bE (f := (eL (eI .u64))) Gs (fun _ => rfl) (by decide) hs0_
   refine Zq [3, 4, 5, 9, 10, 11] (Zb Zc [] ?_)
   simp only [push_cast, Nat.reduceAdd, Nat.reduceSub, Nat.reduceMul, Nat.reduceLeDiff, Nat.reduceLT, Nat.reduceEqDiff, ↓reduceIte, reduceCtorEq, Int.reduceBEq, Int.reduceBNe, Nat.reduceBEq, Int.reduceLE, Int.reduceLT, Int.reduceEq, Int.reduceNe, Int.reduceNeg, Nat.reduceDiv, Nat.reduceMod, Nat.reducePow, Za, ax4, bx4, cx4, hN0, hN]
   obtain ⟨y5, hy5, hs0_⟩ := bC hs0_
   obtain ⟨x6, hx6, ax6, bx6, cx6, hs0_⟩ := bE (f := (eL (eI .u64))) Gs (fun _ => rfl) (by decide) hs0_
   have gu7 : Gw (fl (eL (eI .u64)) s0_.2) [.sl y5.length (fl (eI .u64) y5)] (Int.toNat s0_.1 * 1) = some (fl (eL (eI .u64)) (Zno s0_.2 s0_.1 y5)) := Zu3 (f := (eL (eI .u64))) (ti := ⟨.bool, 1, 0, [], false⟩) (x := y5) (fun _ => rfl) (Zmv hx6)
   refine Zb Zc [] ?_
   simp only [push_cast, Nat.reduceAdd, Nat.reduceSub, Nat.reduceMul, Nat.reduceLeDiff, Nat.reduceLT, Nat.reduceEqDiff, ↓reduceIte, reduceCtorEq, Int.reduceBEq, Int.reduceBNe, Nat.reduceBEq, Int.reduceLE, Int.reduceLT, Int.reduceEq, Int.reduceNe, Int.reduceNeg, Nat.reduceDiv, Nat.reduceMod, Nat.reducePow, Za, ax6, bx6, cx6, gu7, hN0, hN]
   refine (Gz hy5).then ?_
   simp only [push_cast, Nat.reduceAdd, Nat.reduceSub, Nat.reduceMul, Nat.reduceLeDiff, Nat.reduceLT, Nat.reduceEqDiff, ↓reduceIte, reduceCtorEq, Int.reduceBEq, Int.reduceBNe, Nat.reduceBEq, Int.reduceLE, Int.reduceLT, Int.reduceEq, Int.reduceNe, Int.reduceNeg, Nat.reduceDiv, Nat.reduceMod, Nat.reducePow, Za, ax6, bx6, cx6, gu7, hN0, hN]
   refine Zg [3, 9, 10, 11] [true] ?_
   simp only [push_cast, seval, ↓reduceIte]
   refine Zb Zc [] ?_
   simp only [push_cast, seval, ↓reduceIte, Za, hN0, hN]
   have hs0_ := Option.some.inj hs0_; subst hs0_
   refine And.intro rfl (Fit2.of (Zs hU rfl rfl ?_) (by omega))
   simp only [push_cast, seval, ↓reduceIte, Za, hN0, hN]
  replace hs0_ := Zu c8 hs0_
  refine Gt ?_
  try simp only [Zi, Zf, ↓reduceIte, Nat.reduceEqDiff]
  have hs0_ := Option.some.inj hs0_; subst hs0_
  refine And.intro (fun h => by cases h) (And.intro rfl (Fit2.of (Zs hU rfl rfl ?_) (by omega)))
  simp only [push_cast, seval, ↓reduceIte, Za, hN0, hN]
 try simp only [Zi, Zf, ↓reduceIte, Nat.reduceEqDiff]
 refine Zg [3] [true] ?_
 simp only [push_cast, seval, ↓reduceIte]
 refine Zq [2] (Zb Zc [] ?_)
 simp only [push_cast, seval, ↓reduceIte, Za, hN0, hN]
 refine Zt ?_
 try simp only [Zi, Zf]
 have h := Option.some.inj h; subst h
 refine Zl (.inr rfl) hU [.row n z9.length] (by omega) ?_
 simp only [push_cast, seval, ↓reduceIte, Za, Try.results47, hN0, hN]
theorem Zlz {a0 : (List (List Int))} {r : (Option Zj)} {O : Objs} {n : Nat} (h : Gx a0 = some r) : GTo Try.prog 15 [.sl a0.length (fl (eL (eI .u64)) a0)] O n ((gP Zk r)) O n := by
 unfold Gx at h
 refine Yn Zc Try.call15 Try.func15 rfl (Nat.le_of_ble_eq_true rfl) (Nat.le_refl _) fun hU => ?_
 have hN0 : O n = none := hU.fresh _ (Nat.le_refl _)
 have hN : ∀ k, O (n + k) = none := fun k => hU.fresh _ (Nat.le_add_right _ _)
 show W _ _ _ _ ⟨7, [], [(0, .sl a0.length (fl (eL (eI .u64)) a0))]⟩ (Z4 O n []) _
 refine Zq [0] (Zb Zc [] ?_)
 simp only [push_cast, seval, ↓reduceIte, Za, hN0, hN]
 refine Zh ?_
 obtain ⟨y2, hy2, h⟩ := bC h
 refine Zb Zc [] ?_
 simp only [push_cast, seval, ↓reduceIte, Za, hN0, hN]
 refine (Zm9 hy2).then ?_
 simp only [push_cast, seval, ↓reduceIte, Za, hN0, hN]
 refine Zg [2] [true] ?_
 simp only [push_cast, seval, ↓reduceIte]
 refine Zt ?_
 try simp only [Zi, Zf]
 have h := Option.some.inj h; subst h
 refine Zl (.inr rfl) hU [.ref n 0] (by omega) ?_
 simp only [push_cast, seval, ↓reduceIte, Za, Try.results15, hN0, hN]
theorem Zic {a0 : (Option Zj)} {r : Int} {O : Objs} {n : Nat} (h : Vt a0 = some r) : GTo Try.prog 106 [(gP Zk a0)] O n (.val (.int .i64 r)) O n := by
 unfold Vt at h
 refine Yn Zc Try.call106 Try.func106 rfl (Nat.le_of_ble_eq_true rfl) (Nat.le_refl _) fun hU => ?_
 have hN0 : O n = none := hU.fresh _ (Nat.le_refl _)
 have hN : ∀ k, O (n + k) = none := fun k => hU.fresh _ (Nat.le_add_right _ _)
 show W _ _ _ _ ⟨10, [], [(0, (gP Zk a0))]⟩ (Z4 O n []) _
 refine Zq [0] (Zb Zc [] ?_)
 simp only [push_cast, seval, ↓reduceIte, Za, hN0, hN]
 refine Zh ?_
 have g2 := Zq1 (f := Zk) (t := 24) Zhu a0
 refine Zq [0, 4] (Zb Zc [] ?_)
 simp only [push_cast, seval, ↓reduceIte, Za, g2, hN0, hN]
 refine Zr (t := (Option.isNone a0)) rfl (fun c5 => ?_) (fun c5 => ?_)
 ·replace h := Zv c5 h
  refine Zq [2] (Zb Zc [] ?_)
  simp only [push_cast, seval, ↓reduceIte, Za, hN0, hN]
  refine Zt ?_
  try simp only [Zi, Zf]
  have h := Option.some.inj h; subst h
  refine Zl (.inr rfl) hU [.val (.int .i64 0)] (by omega) ?_
  simp only [push_cast, seval, ↓reduceIte, Za, Try.results106, hN0, hN]
 replace h := Zu c5 h
 refine Zx ?_
 try simp only [Zi, Zf]
 refine Zg [0] [] ?_
 simp only [push_cast, seval, ↓reduceIte]
 obtain ⟨x4, hx4, h⟩ := bC h
 refine Zq [2] (Zb Zc [] ?_)
 simp only [push_cast, seval, ↓reduceIte, Za, hx4, hN0, hN]
 refine Zt ?_
 try simp only [Zi, Zf]
 have h := Option.some.inj h; subst h
 refine Zl (.inr rfl) hU [.val (.int .i64 (x4.segments.length : Int))] (by omega) ?_
 simp only [push_cast, seval, ↓reduceIte, Za, Try.results106, hN0, hN]
theorem Xz {a0 : (Option Zj)} {a1 : Int} {r : Bool} {O : Objs} {n : Nat} (h : Qb a0 a1 = some r) : GTo Try.prog 100 [(gP Zk a0), .val (.int .i64 a1)] O n (.val (.bool r)) O n := by
 unfold Qb at h
 refine Yn Zc Try.call100 Try.func100 rfl (Nat.le_of_ble_eq_true rfl) (Nat.le_refl _) fun hU => ?_
 have hN0 : O n = none := hU.fresh _ (Nat.le_refl _)
 have hN : ∀ k, O (n + k) = none := fun k => hU.fresh _ (Nat.le_add_right _ _)
 show W _ _ _ _ ⟨13, [], [(0, (gP Zk a0)), (1, .val (.int .i64 a1))]⟩ (Z4 O n []) _
 refine Zq [0, 1] (Zb Zc [] ?_)
 simp only [push_cast, seval, ↓reduceIte, Za, hN0, hN]
 obtain ⟨z2, hz2, h⟩ := bC h
 refine Qn (E' := ⟨13, [], [(4, .val (.bool z2))]⟩) (O' := (Z4 O n [])) (n0 := n) ?_ ?_
 ·rcases Bool.eq_false_or_eq_true (decide (0 ≤ a1)) with c5 | c5
  ·replace hz2 := Zv c5 hz2
   obtain ⟨y4, hy4, hz2⟩ := bC hz2
   refine Zb Zc [some true, some true, some true, some true] ?_
   simp only [push_cast, seval, ↓reduceIte, Za, c5, hN0, hN]
   refine (Zic hy4).then ?_
   simp only [push_cast, seval, ↓reduceIte, Za, c5, hN0, hN]
   have hz2 := Option.some.inj hz2; subst hz2
   refine And.intro rfl (Fit2.of (Zs hU rfl rfl ?_) (by omega))
   simp only [push_cast, seval, ↓reduceIte, Za, c5, hN0, hN]
  replace hz2 := Zu c5 hz2
  refine Zb Zc [some false, some false, some false, some false] ?_
  simp only [push_cast, seval, ↓reduceIte, Za, c5, hN0, hN]
  have hz2 := Option.some.inj hz2; subst hz2
  refine And.intro rfl (Fit2.of (Zs hU rfl rfl ?_) (by omega))
  simp only [push_cast, seval, ↓reduceIte, Za, c5, hN0, hN]
 refine Zt ?_
 try simp only [Zi, Zf]
 have h := Option.some.inj h; subst h
 refine Zl (.inr rfl) hU [.val (.bool z2)] (by omega) ?_
 simp only [push_cast, seval, ↓reduceIte, Za, Try.results100, hN0, hN]
theorem Ud {a0 : (Option Zj)} {a1 : Int} {r : Int} {O : Objs} {n : Nat} (h : Qo a0 a1 = some r) : GTo Try.prog 101 [(gP Zk a0), .val (.int .i64 a1)] O n (.val (.int .i64 r)) O n := by
 unfold Qo at h
 refine Yn Zc Try.call101 Try.func101 rfl (Nat.le_of_ble_eq_true rfl) (Nat.le_refl _) fun hU => ?_
 have hN0 : O n = none := hU.fresh _ (Nat.le_refl _)
 have hN : ∀ k, O (n + k) = none := fun k => hU.fresh _ (Nat.le_add_right _ _)
 show W _ _ _ _ ⟨17, [], [(0, (gP Zk a0)), (1, .val (.int .i64 a1))]⟩ (Z4 O n []) _
 refine Zq [0, 1] (Zb Zc [] ?_)
 simp only [push_cast, seval, ↓reduceIte, Za, hN0, hN]
 refine Zh ?_
 refine Zh ?_
 obtain ⟨y2, hy2, h⟩ := bC h
 refine Zb Zc [] ?_
 simp only [push_cast, seval, ↓reduceIte, Za, hN0, hN]
 refine (Xz hy2).then ?_
 simp only [push_cast, seval, ↓reduceIte, Za, hN0, hN]
 refine Zg [0, 1, 8] [] ?_
 simp only [push_cast, seval, ↓reduceIte]
 refine Zr (t := (!y2)) rfl (fun c7 => ?_) (fun c7 => ?_)
 ·replace h := Zv c7 h
  refine Zq [4] (Zb Zc [] ?_)
  simp only [push_cast, seval, ↓reduceIte, Za, hN0, hN]
  refine Zt ?_
  try simp only [Zi, Zf]
  have h := Option.some.inj h; subst h
  refine Zl (.inr rfl) hU [.val (.int .i64 0)] (by omega) ?_
  simp only [push_cast, seval, ↓reduceIte, Za, Try.results101, hN0, hN]
 replace h := Zu c7 h
 refine Zx ?_
 try simp only [Zi, Zf]
 refine Zg [0, 1] [] ?_
 simp only [push_cast, seval, ↓reduceIte]
 obtain ⟨x5, hx5, h⟩ := bC h
 obtain ⟨x6, hx6, ax6, bx6, cx6, h⟩ := bE (f := (eL (eI .u64))) Gs (fun _ => rfl) (by decide) h
 refine Zq [4] (Zb Zc [] ?_)
 simp only [push_cast, Nat.reduceAdd, Nat.reduceSub, Nat.reduceMul, Nat.reduceLeDiff, Nat.reduceLT, Nat.reduceEqDiff, ↓reduceIte, reduceCtorEq, Int.reduceBEq, Int.reduceBNe, Nat.reduceBEq, Int.reduceLE, Int.reduceLT, Int.reduceEq, Int.reduceNe, Int.reduceNeg, Nat.reduceDiv, Nat.reduceMod, Nat.reducePow, Za, hx5, ax6, bx6, cx6, hN0, hN]
 refine Zt ?_
 try simp only [Zi, Zf]
 have h := Option.some.inj h; subst h
 refine Zl (.inr rfl) hU [.val (.int .i64 (x6.length : Int))] (by omega) ?_
 simp only [push_cast, seval, ↓reduceIte, Za, Try.results101, hN0, hN]
theorem Ux {a0 : (Option Zj)} {a1 : Int} {a2 : Int} {a3 : Int} {r : Bool} {O : Objs} {n : Nat} (h : X5 a0 a1 a2 a3 = some r) : GTo Try.prog 82 [(gP Zk a0), .val (.int .i64 a1), .val (.int .i64 a2), .val (.int .i64 a3)] O n (.val (.bool r)) O n := by
 unfold X5 at h
 refine Yn Zc Try.call82 Try.func82 rfl (Nat.le_of_ble_eq_true rfl) (Nat.le_refl _) fun hU => ?_
 have hN0 : O n = none := hU.fresh _ (Nat.le_refl _)
 have hN : ∀ k, O (n + k) = none := fun k => hU.fresh _ (Nat.le_add_right _ _)
 show W _ _ _ _ ⟨36, [], [(0, (gP Zk a0)), (1, .val (.int .i64 a1)), (2, .val (.int .i64 a2)), (3, .val (.int .i64 a3))]⟩ (Z4 O n []) _
 refine Zq [0, 1, 2, 3] (Zb Zc [] ?_)
 simp only [push_cast, seval, ↓reduceIte, Za, hN0, hN]
 obtain ⟨z4, hz4, h⟩ := bC h
 refine Qn (E' := ⟨36, [], [(8, .val (.bool z4))]⟩) (O' := (Z4 O n [])) (n0 := n) ?_ ?_
 ·obtain ⟨y8, hy8, hz4⟩ := bC hz4
  rcases Bool.eq_false_or_eq_true y8 with c11 | c11
  ·replace hz4 := Zv c11 hz4
   rcases Bool.eq_false_or_eq_true (decide (0 ≤ a2)) with c12 | c12
   ·replace hz4 := Zv c12 hz4
    try rw [c12] at c11
    rcases Bool.eq_false_or_eq_true (decide (0 ≤ a3)) with c13 | c13
    ·replace hz4 := Zv c13 hz4
     try rw [c13] at c11
     try rw [c13] at c12
     obtain ⟨y9, hy9, hz4⟩ := bC hz4
     rcases Bool.eq_false_or_eq_true (decide (a3 ≤ y9)) with c14 | c14
     ·replace hz4 := Zv c14 hz4
      try rw [c14] at c11
      try rw [c14] at c12
      try rw [c14] at c13
      obtain ⟨y10, hy10, hz4⟩ := bC hz4
      refine Zb Zc [none, none, none, none, some true, some true, some true, some true, some true, some true, some true, some true, some true, some true, some true, some true] ?_
      simp only [push_cast, seval, ↓reduceIte, Za, c11, c12, c13, c14, hN0, hN]
      repeat (with_reducible refine And.intro (by first | (intro h0; simp only [h0, and_self]; done) | (intro h0; simp only [h0, Bool.not_false, Bool.not_true, Bool.true_and, Bool.and_true, true_and, and_true, and_self, imp_self, implies_true, bne_iff_ne, ne_eq, beq_iff_eq]; done) | (intros; simp_all; done) | exact True.intro) ?_)
      refine (Xz hy8).then ?_
      simp only [push_cast, seval, ↓reduceIte, Za, c11, c12, c13, c14, hN0, hN]
      repeat (with_reducible refine And.intro (by first | (intro h0; simp only [h0, and_self]; done) | (intro h0; simp only [h0, Bool.not_false, Bool.not_true, Bool.true_and, Bool.and_true, true_and, and_true, and_self, imp_self, implies_true, bne_iff_ne, ne_eq, beq_iff_eq]; done) | (intros; simp_all; done) | exact True.intro) ?_)
      refine (Ud hy9).then ?_
      simp only [push_cast, seval, ↓reduceIte, Za, c11, c12, c13, c14, hN0, hN]
      repeat (with_reducible refine And.intro (by first | (intro h0; simp only [h0, and_self]; done) | (intro h0; simp only [h0, Bool.not_false, Bool.not_true, Bool.true_and, Bool.and_true, true_and, and_true, and_self, imp_self, implies_true, bne_iff_ne, ne_eq, beq_iff_eq]; done) | (intros; simp_all; done) | exact True.intro) ?_)
      refine (Ud hy10).then ?_
      simp only [push_cast, seval, ↓reduceIte, Za, c11, c12, c13, c14, hN0, hN]
      repeat (with_reducible refine And.intro (by first | (intro h0; simp only [h0, and_self]; done) | (intro h0; simp only [h0, Bool.not_false, Bool.not_true, Bool.true_and, Bool.and_true, true_and, and_true, and_self, imp_self, implies_true, bne_iff_ne, ne_eq, beq_iff_eq]; done) | (intros; simp_all; done) | exact True.intro) ?_)
      have hz4 := Option.some.inj hz4; subst hz4
      refine And.intro rfl (Fit2.of (Zs hU rfl rfl ?_) (by omega))
      simp only [push_cast, seval, ↓reduceIte, Za, c11, c12, c13, c14, hN0, hN]
     replace hz4 := Zu c14 hz4
     try rw [c14] at c11
     try rw [c14] at c12
     try rw [c14] at c13
     refine Zb Zc [none, none, none, none, some true, some true, some true, some true, some true, some false, some false, some false, some false, some false, some false, some false] ?_
     simp only [push_cast, seval, ↓reduceIte, Za, c11, c12, c13, c14, hN0, hN]
     repeat (with_reducible refine And.intro (by first | (intro h0; simp only [h0, and_self]; done) | (intro h0; simp only [h0, Bool.not_false, Bool.not_true, Bool.true_and, Bool.and_true, true_and, and_true, and_self, imp_self, implies_true, bne_iff_ne, ne_eq, beq_iff_eq]; done) | (intros; simp_all; done) | exact True.intro) ?_)
     refine (Xz hy8).then ?_
     simp only [push_cast, seval, ↓reduceIte, Za, c11, c12, c13, c14, hN0, hN]
     repeat (with_reducible refine And.intro (by first | (intro h0; simp only [h0, and_self]; done) | (intro h0; simp only [h0, Bool.not_false, Bool.not_true, Bool.true_and, Bool.and_true, true_and, and_true, and_self, imp_self, implies_true, bne_iff_ne, ne_eq, beq_iff_eq]; done) | (intros; simp_all; done) | exact True.intro) ?_)
     refine (Ud hy9).then ?_
     simp only [push_cast, seval, ↓reduceIte, Za, c11, c12, c13, c14, hN0, hN]
     repeat (with_reducible refine And.intro (by first | (intro h0; simp only [h0, and_self]; done) | (intro h0; simp only [h0, Bool.not_false, Bool.not_true, Bool.true_and, Bool.and_true, true_and, and_true, and_self, imp_self, implies_true, bne_iff_ne, ne_eq, beq_iff_eq]; done) | (intros; simp_all; done) | exact True.intro) ?_)
     have hz4 := Option.some.inj hz4; subst hz4
     refine And.intro rfl (Fit2.of (Zs hU rfl rfl ?_) (by omega))
     simp only [push_cast, seval, ↓reduceIte, Za, c11, c12, c13, c14, hN0, hN]
    replace hz4 := Zu c13 hz4
    try rw [c13] at c11
    try rw [c13] at c12
    refine Zb Zc [none, none, none, none, some false, some false, some false, some false, some false, some false, some false, some false, some false, some false, some false, some false] ?_
    simp only [push_cast, seval, ↓reduceIte, Za, c11, c12, c13, hN0, hN]
    repeat (with_reducible refine And.intro (by first | (intro h0; simp only [h0, and_self]; done) | (intro h0; simp only [h0, Bool.not_false, Bool.not_true, Bool.true_and, Bool.and_true, true_and, and_true, and_self, imp_self, implies_true, bne_iff_ne, ne_eq, beq_iff_eq]; done) | (intros; simp_all; done) | exact True.intro) ?_)
    refine (Xz hy8).then ?_
    simp only [push_cast, seval, ↓reduceIte, Za, c11, c12, c13, hN0, hN]
    repeat (with_reducible refine And.intro (by first | (intro h0; simp only [h0, and_self]; done) | (intro h0; simp only [h0, Bool.not_false, Bool.not_true, Bool.true_and, Bool.and_true, true_and, and_true, and_self, imp_self, implies_true, bne_iff_ne, ne_eq, beq_iff_eq]; done) | (intros; simp_all; done) | exact True.intro) ?_)
    have hz4 := Option.some.inj hz4; subst hz4
    refine And.intro rfl (Fit2.of (Zs hU rfl rfl ?_) (by omega))
    simp only [push_cast, seval, ↓reduceIte, Za, c11, c12, c13, hN0, hN]
   replace hz4 := Zu c12 hz4
   try rw [c12] at c11
   refine Zb Zc [none, none, none, none, some false, some false, some false, some false, some false, some false, some false, some false, some false, some false, some false, some false] ?_
   simp only [push_cast, seval, ↓reduceIte, Za, c11, c12, hN0, hN]
   repeat (with_reducible refine And.intro (by first | (intro h0; simp only [h0, and_self]; done) | (intro h0; simp only [h0, Bool.not_false, Bool.not_true, Bool.true_and, Bool.and_true, true_and, and_true, and_self, imp_self, implies_true, bne_iff_ne, ne_eq, beq_iff_eq]; done) | (intros; simp_all; done) | exact True.intro) ?_)
   refine (Xz hy8).then ?_
   simp only [push_cast, seval, ↓reduceIte, Za, c11, c12, hN0, hN]
   repeat (with_reducible refine And.intro (by first | (intro h0; simp only [h0, and_self]; done) | (intro h0; simp only [h0, Bool.not_false, Bool.not_true, Bool.true_and, Bool.and_true, true_and, and_true, and_self, imp_self, implies_true, bne_iff_ne, ne_eq, beq_iff_eq]; done) | (intros; simp_all; done) | exact True.intro) ?_)
   have hz4 := Option.some.inj hz4; subst hz4
   refine And.intro rfl (Fit2.of (Zs hU rfl rfl ?_) (by omega))
   simp only [push_cast, seval, ↓reduceIte, Za, c11, c12, hN0, hN]
  replace hz4 := Zu c11 hz4
  refine Zb Zc [none, none, none, none, some false, some false, some false, some false, some false, some false, some false, some false, some false, some false, some false, some false] ?_
  simp only [push_cast, seval, ↓reduceIte, Za, c11, hN0, hN]
  repeat (with_reducible refine And.intro (by first | (intro h0; simp only [h0, and_self]; done) | (intro h0; simp only [h0, Bool.not_false, Bool.not_true, Bool.true_and, Bool.and_true, true_and, and_true, and_self, imp_self, implies_true, bne_iff_ne, ne_eq, beq_iff_eq]; done) | (intros; simp_all; done) | exact True.intro) ?_)
  refine (Xz hy8).then ?_
  simp only [push_cast, seval, ↓reduceIte, Za, c11, hN0, hN]
  repeat (with_reducible refine And.intro (by first | (intro h0; simp only [h0, and_self]; done) | (intro h0; simp only [h0, Bool.not_false, Bool.not_true, Bool.true_and, Bool.and_true, true_and, and_true, and_self, imp_self, implies_true, bne_iff_ne, ne_eq, beq_iff_eq]; done) | (intros; simp_all; done) | exact True.intro) ?_)
  have hz4 := Option.some.inj hz4; subst hz4
  refine And.intro rfl (Fit2.of (Zs hU rfl rfl ?_) (by omega))
  simp only [push_cast, seval, ↓reduceIte, Za, c11, hN0, hN]
 refine Zt ?_
 try simp only [Zi, Zf]
 have h := Option.some.inj h; subst h
 refine Zl (.inr rfl) hU [.val (.bool z4)] (by omega) ?_
 simp only [push_cast, seval, ↓reduceIte, Za, Try.results82, hN0, hN]
theorem Uw {a0 : (Option Zj)} {a1 : Int} {a2 : Int} {r : (Int × Bool)} {O : Objs} {n : Nat} (h : X4 a0 a1 a2 = some r) : GTo Try.prog 60 [(gP Zk a0), .val (.int .i64 a1), .val (.int .i64 a2)] O n (.tup [.val (.int .u64 r.1), .val (.bool r.2)]) O n := by
 unfold X4 at h
 refine Yn Zc Try.call60 Try.func60 rfl (Nat.le_of_ble_eq_true rfl) (Nat.le_refl _) fun hU => ?_
 have hN0 : O n = none := hU.fresh _ (Nat.le_refl _)
 have hN : ∀ k, O (n + k) = none := fun k => hU.fresh _ (Nat.le_add_right _ _)
 show W _ _ _ _ ⟨23, [], [(0, (gP Zk a0)), (1, .val (.int .i64 a1)), (2, .val (.int .i64 a2))]⟩ (Z4 O n []) _
 refine Zq [0, 1, 2] (Zb Zc [] ?_)
 simp only [push_cast, seval, ↓reduceIte, Za, hN0, hN]
 refine Zh ?_
 refine Zh ?_
 obtain ⟨y2, hy2, h⟩ := bC h
 refine Zb Zc [] ?_
 simp only [push_cast, seval, ↓reduceIte, Za, hN0, hN]
 refine (Ux hy2).then ?_
 simp only [push_cast, seval, ↓reduceIte, Za, hN0, hN]
 refine Zg [0, 1, 2, 12] [] ?_
 simp only [push_cast, seval, ↓reduceIte]
 refine Zr (t := (!y2)) rfl (fun c9 => ?_) (fun c9 => ?_)
 ·replace h := Zv c9 h
  refine Zq [6, 7] (Zb Zc [] ?_)
  simp only [push_cast, seval, ↓reduceIte, Za, hN0, hN]
  refine Zt ?_
  try simp only [Zi, Zf]
  have h := Option.some.inj h; subst h
  refine Zl (.inr rfl) hU [.val (.int .u64 0), .val (.bool false)] (by omega) ?_
  simp only [push_cast, seval, ↓reduceIte, Za, Try.results60, hN0, hN]
 replace h := Zu c9 h
 refine Zx ?_
 try simp only [Zi, Zf]
 refine Zg [0, 1, 2] [] ?_
 simp only [push_cast, seval, ↓reduceIte]
 obtain ⟨x6, hx6, h⟩ := bC h
 obtain ⟨x7, hx7, ax7, bx7, cx7, h⟩ := bE (f := (eL (eI .u64))) Gs (fun _ => rfl) (by decide) h
 obtain ⟨x8, hx8, ax8, bx8, cx8, h⟩ := bE (f := (eI .u64)) Gp (fun _ => rfl) (by decide) h
 refine Zq [6, 7] (Zb Zc [] ?_)
 simp only [push_cast, Nat.reduceAdd, Nat.reduceSub, Nat.reduceMul, Nat.reduceLeDiff, Nat.reduceLT, Nat.reduceEqDiff, ↓reduceIte, reduceCtorEq, Int.reduceBEq, Int.reduceBNe, Nat.reduceBEq, Int.reduceLE, Int.reduceLT, Int.reduceEq, Int.reduceNe, Int.reduceNeg, Nat.reduceDiv, Nat.reduceMod, Nat.reducePow, Za, hx6, ax7, bx7, cx7, ax8, bx8, cx8, hN0, hN]
 refine Zt ?_
 try simp only [Zi, Zf]
 have h := Option.some.inj h; subst h
 refine Zl (.inr rfl) hU [.val (.int .u64 x8), .val (.bool true)] (by omega) ?_
 simp only [push_cast, seval, ↓reduceIte, Za, Try.results60, hN0, hN]
theorem Zh3 {a0 : Int} {r : Int} {O : Objs} {n : Nat} (h : Gg a0 = some r) : GTo Try.prog 95 [.val (.int .u64 a0)] O n (.val (.int .i64 r)) O n := by
 unfold Gg at h
 refine Yn Zc Try.call95 Try.func95 rfl (Nat.le_of_ble_eq_true rfl) (Nat.le_refl _) fun hU => ?_
 have hN0 : O n = none := hU.fresh _ (Nat.le_refl _)
 have hN : ∀ k, O (n + k) = none := fun k => hU.fresh _ (Nat.le_add_right _ _)
 show W _ _ _ _ ⟨8, [], [(0, .val (.int .u64 a0))]⟩ (Z4 O n []) _
 refine Zq [0] (Zb Zc [] ?_)
 simp only [push_cast, seval, ↓reduceIte, Za, hN0, hN]
 refine Zq [2] (Zb Zc [] ?_)
 simp only [push_cast, seval, ↓reduceIte, Za, hN0, hN]
 refine Zt ?_
 try simp only [Zi, Zf]
 have h := Option.some.inj h; subst h
 refine Zl (.inr rfl) hU [.val (.int .i64 (IntKind.i64.wrap (Int.fdiv (IntKind.i32.wrap (IntKind.u32.wrap a0)) (2 ^ min (Int.toNat 2) 32))))] (by omega) ?_
 simp only [push_cast, seval, ↓reduceIte, Za, Try.results95, hN0, hN]
theorem V5 {a0 : Int} {a1 : Int} {a2 : Int} {r : Int} {O : Objs} {n : Nat} (h : Y3 a0 a1 a2 = some r) : GTo Try.prog 96 [.val (.int .u64 a0), .val (.int .i64 a1), .val (.int .i64 a2)] O n (.val (.int .i64 r)) O n := by
 unfold Y3 at h
 refine Yn Zc Try.call96 Try.func96 rfl (Nat.le_of_ble_eq_true rfl) (Nat.le_refl _) fun hU => ?_
 have hN0 : O n = none := hU.fresh _ (Nat.le_refl _)
 have hN : ∀ k, O (n + k) = none := fun k => hU.fresh _ (Nat.le_add_right _ _)
 show W _ _ _ _ ⟨15, [], [(0, .val (.int .u64 a0)), (1, .val (.int .i64 a1)), (2, .val (.int .i64 a2))]⟩ (Z4 O n []) _
 refine Zq [0, 1, 2] (Zb Zc [] ?_)
 simp only [push_cast, seval, ↓reduceIte, Za, hN0, hN]
 obtain ⟨pu3, h⟩ := bG h
 obtain ⟨pu4, h⟩ := bG h
 refine Zq [6] (Xd Zc (by kernel_rfl) [] (by kernel_rfl) ?_)
 simp only [push_cast, seval, ↓reduceIte, Za, pu3, pu4, hN0, hN]
 refine Zt ?_
 try simp only [Zi, Zf]
 have h := Option.some.inj h; subst h
 refine Zl (.inr rfl) hU [.val (.int .i64 (IntKind.i64.wrap (IntKind.u64.wrap (Zat .u64 (Int.fdiv a0 (2 ^ min (Int.toNat a1) 64)) (IntKind.u64.wrap ((IntKind.u64.wrap (1 * 2 ^ min (Int.toNat a2) 64)) - 1))))))] (by omega) ?_
 simp only [push_cast, seval, ↓reduceIte, Za, Try.results96, hN0, hN]
theorem Kw {a0 : Int} {r : Z7} {O : Objs} {n : Nat} (h : Qv a0 = some r) : GTo Try.prog 71 [.val (.int .u64 a0)] O n (.agg (Yh r)) O n := by
 unfold Qv at h
 refine Yn Zc Try.call71 Try.func71 rfl (Nat.le_of_ble_eq_true rfl) (Nat.le_refl _) fun hU => ?_
 have hN0 : O n = none := hU.fresh _ (Nat.le_refl _)
 have hN : ∀ k, O (n + k) = none := fun k => hU.fresh _ (Nat.le_add_right _ _)
 show W _ _ _ _ ⟨38, [], [(0, .val (.int .u64 a0))]⟩ (Z4 O n []) _
 refine Zq [0, 2] (Zb Zc [] ?_)
 simp only [push_cast, seval, ↓reduceIte, Za, hN0, hN]
 refine Zh ?_
 refine Zq [0, 2, 4] (Zb Zc [] ?_)
 simp only [push_cast, seval, ↓reduceIte, Za, hN0, hN]
 refine Zr (t := (a0 == 0)) rfl (fun c20 => ?_) (fun c20 => ?_)
 ·replace h := Zv c20 h
  refine Zh ?_
  refine Zb Zc [] ?_
  simp only [push_cast, seval, ↓reduceIte, Za, hN0, hN]
  refine Zg [2] [true] ?_
  simp only [push_cast, seval, ↓reduceIte]
  refine Zt ?_
  try simp only [Zi, Zf]
  have h := Option.some.inj h; subst h
  refine Zl (.inr rfl) hU [.agg [.val (.int .i64 0), .val (.int .i64 0), .val (.int .i64 0), .val (.int .i64 0), .val (.int .i64 0), .val (.int .i64 0), .val (.int .i64 0), .val (.bool false)]] (by omega) ?_
  simp only [push_cast, seval, ↓reduceIte, Za, Try.results71, hN0, hN]
 replace h := Zu c20 h
 refine Zx ?_
 try simp only [Zi, Zf]
 refine Zg [0, 2] [true] ?_
 simp only [push_cast, seval, ↓reduceIte]
 refine Zh ?_
 refine Zq [0, 2, 7] (Zb Zc [] ?_)
 simp only [push_cast, seval, ↓reduceIte, Za, hN0, hN]
 refine Xc ?_
 refine Zq [0, 2, 7, 8] (Zb Zc [] ?_)
 simp only [push_cast, seval, ↓reduceIte, Za, hN0, hN]
 refine Zr (t := ((IntKind.u64.wrap (Zat .u64 a0 3)) == 0)) rfl (fun c19 => ?_) (fun c19 => ?_)
 ·replace h := Zv c19 h
  refine Zh ?_
  obtain ⟨y4, hy4, h⟩ := bC h
  obtain ⟨y5, hy5, h⟩ := bC h
  obtain ⟨y6, hy6, h⟩ := bC h
  refine Zb Zc [] ?_
  simp only [push_cast, seval, ↓reduceIte, Za, hN0, hN]
  refine (Zh3 hy4).then ?_
  simp only [push_cast, seval, ↓reduceIte, Za, hN0, hN]
  refine (V5 hy5).then ?_
  simp only [push_cast, seval, ↓reduceIte, Za, hN0, hN]
  refine (V5 hy6).then ?_
  simp only [push_cast, seval, ↓reduceIte, Za, hN0, hN]
  refine Zg [2] [true] ?_
  simp only [push_cast, seval, ↓reduceIte]
  refine Zt ?_
  try simp only [Zi, Zf]
  have h := Option.some.inj h; subst h
  refine Zl (.inr rfl) hU [.agg [.val (.int .i64 1), .val (.int .i64 y4), .val (.int .i64 y5), .val (.int .i64 y6), .val (.int .i64 0), .val (.int .i64 0), .val (.int .i64 0), .val (.bool false)]] (by omega) ?_
  simp only [push_cast, seval, ↓reduceIte, Za, Try.results71, hN0, hN]
 replace h := Zu c19 h
 refine Zq [0, 2, 7, 17] (Zb Zc [] ?_)
 simp only [push_cast, seval, ↓reduceIte, Za, hN0, hN]
 refine Zr (t := ((IntKind.u64.wrap (Zat .u64 a0 3)) == 1)) rfl (fun c18 => ?_) (fun c18 => ?_)
 ·replace h := Zv c18 h
  refine Zh ?_
  obtain ⟨y10, hy10, h⟩ := bC h
  obtain ⟨y11, hy11, h⟩ := bC h
  obtain ⟨y12, hy12, h⟩ := bC h
  refine Zb Zc [] ?_
  simp only [push_cast, seval, ↓reduceIte, Za, hN0, hN]
  refine (Zh3 hy10).then ?_
  simp only [push_cast, seval, ↓reduceIte, Za, hN0, hN]
  refine (V5 hy11).then ?_
  simp only [push_cast, seval, ↓reduceIte, Za, hN0, hN]
  refine (V5 hy12).then ?_
  simp only [push_cast, seval, ↓reduceIte, Za, hN0, hN]
  refine Zg [2] [true] ?_
  simp only [push_cast, seval, ↓reduceIte]
  refine Zt ?_
  try simp only [Zi, Zf]
  have h := Option.some.inj h; subst h
  refine Zl (.inr rfl) hU [.agg [.val (.int .i64 2), .val (.int .i64 y10), .val (.int .i64 0), .val (.int .i64 0), .val (.int .i64 y11), .val (.int .i64 y12), .val (.int .i64 0), .val (.bool false)]] (by omega) ?_
  simp only [push_cast, seval, ↓reduceIte, Za, Try.results71, hN0, hN]
 replace h := Zu c18 h
 refine Zq [0, 2, 26] (Zb Zc [] ?_)
 simp only [push_cast, seval, ↓reduceIte, Za, hN0, hN]
 refine Zr (t := ((IntKind.u64.wrap (Zat .u64 a0 3)) == 2)) rfl (fun c17 => ?_) (fun c17 => ?_)
 ·replace h := Zv c17 h
  refine Zh ?_
  obtain ⟨y15, hy15, h⟩ := bC h
  obtain ⟨y16, hy16, h⟩ := bC h
  refine Zb Zc [] ?_
  simp only [push_cast, seval, ↓reduceIte, Za, hN0, hN]
  refine (V5 hy15).then ?_
  simp only [push_cast, seval, ↓reduceIte, Za, hN0, hN]
  refine (V5 hy16).then ?_
  simp only [push_cast, seval, ↓reduceIte, Za, hN0, hN]
  refine Zg [2] [true] ?_
  simp only [push_cast, seval, ↓reduceIte]
  refine Zt ?_
  try simp only [Zi, Zf]
  have h := Option.some.inj h; subst h
  refine Zl (.inr rfl) hU [.agg [.val (.int .i64 3), .val (.int .i64 y15), .val (.int .i64 0), .val (.int .i64 0), .val (.int .i64 0), .val (.int .i64 0), .val (.int .i64 y16), .val (.bool ((IntKind.u64.wrap (Zat .u64 (Int.fdiv a0 (2 ^ min (Int.toNat 2) 64)) 1)) == 1))]] (by omega) ?_
  simp only [push_cast, seval, ↓reduceIte, Za, Try.results71, hN0, hN]
 replace h := Zu c17 h
 refine Zx ?_
 try simp only [Zi, Zf]
 refine Zg [2] [true] ?_
 simp only [push_cast, seval, ↓reduceIte]
 refine Zh ?_
 refine Zb Zc [] ?_
 simp only [push_cast, seval, ↓reduceIte, Za, hN0, hN]
 refine Zg [2] [true] ?_
 simp only [push_cast, seval, ↓reduceIte]
 refine Zt ?_
 try simp only [Zi, Zf]
 have h := Option.some.inj h; subst h
 refine Zl (.inr rfl) hU [.agg [.val (.int .i64 4), .val (.int .i64 0), .val (.int .i64 0), .val (.int .i64 0), .val (.int .i64 0), .val (.int .i64 0), .val (.int .i64 0), .val (.bool false)]] (by omega) ?_
 simp only [push_cast, seval, ↓reduceIte, Za, Try.results71, hN0, hN]
theorem Zhv {a0 : (Option Zj)} {a1 : Int} {a2 : Int} {a3 : Int} {r : ((List Int) × Bool)} {O : Objs} {n : Nat} (h : Jy a0 a1 a2 a3 = some r) : GTo Try.prog 97 [(gP Zk a0), .val (.int .i64 a1), .val (.int .i64 a2), .val (.int .i64 a3)] O n (.tup [.sl r.1.length (fl (eI .u64) r.1), .val (.bool r.2)]) O n := by
 unfold Jy at h
 refine Yn Zc Try.call97 Try.func97 rfl (Nat.le_of_ble_eq_true rfl) (Nat.le_refl _) fun hU => ?_
 have hN0 : O n = none := hU.fresh _ (Nat.le_refl _)
 have hN : ∀ k, O (n + k) = none := fun k => hU.fresh _ (Nat.le_add_right _ _)
 show W _ _ _ _ ⟨29, [], [(0, (gP Zk a0)), (1, .val (.int .i64 a1)), (2, .val (.int .i64 a2)), (3, .val (.int .i64 a3))]⟩ (Z4 O n []) _
 refine Zq [0, 1, 2, 3] (Zb Zc [] ?_)
 simp only [push_cast, seval, ↓reduceIte, Za, hN0, hN]
 refine Zh ?_
 refine Zh ?_
 obtain ⟨y2, hy2, h⟩ := bC h
 refine Zb Zc [] ?_
 simp only [push_cast, seval, ↓reduceIte, Za, hN0, hN]
 refine (Ux hy2).then ?_
 simp only [push_cast, seval, ↓reduceIte, Za, hN0, hN]
 refine Zg [0, 1, 2, 3, 15] [] ?_
 simp only [push_cast, seval, ↓reduceIte]
 refine Zr (t := (!y2)) rfl (fun c11 => ?_) (fun c11 => ?_)
 ·replace h := Zv c11 h
  refine Zq [8, 9] (Zb Zc [] ?_)
  simp only [push_cast, seval, ↓reduceIte, Za, hN0, hN]
  refine Zt ?_
  try simp only [Zi, Zf]
  have h := Option.some.inj h; subst h
  refine Zl (.inr rfl) hU [.val (.slice none 0 0), .val (.bool false)] (by omega) ?_
  simp only [push_cast, seval, ↓reduceIte, Za, Try.results97, hN0, hN]
 replace h := Zu c11 h
 refine Zx ?_
 try simp only [Zi, Zf]
 refine Zg [0, 1, 2, 3] [] ?_
 simp only [push_cast, seval, ↓reduceIte]
 refine Zh ?_
 obtain ⟨x7, hx7, h⟩ := bC h
 obtain ⟨x8, hx8, ax8, bx8, cx8, h⟩ := bE (f := (eL (eI .u64))) Gs (fun _ => rfl) (by decide) h
 obtain ⟨l9, al9, bl9, cl9, gl9, h⟩ := bS (lo := (some (.i64, a2))) (hi := (some (.i64, (IntKind.i64.wrap (a2 + a3))))) (f := (eI .u64)) rfl rfl Zc7 Gp (fun _ => rfl) h
 obtain ⟨y10, hy10, h⟩ := bC h
 refine Zb Zc [] ?_
 simp only [push_cast, Nat.reduceAdd, Nat.reduceSub, Nat.reduceMul, Nat.reduceLeDiff, Nat.reduceLT, Nat.reduceEqDiff, ↓reduceIte, reduceCtorEq, Int.reduceBEq, Int.reduceBNe, Nat.reduceBEq, Int.reduceLE, Int.reduceLT, Int.reduceEq, Int.reduceNe, Int.reduceNeg, Nat.reduceDiv, Nat.reduceMod, Nat.reducePow, Za, hx7, ax8, bx8, cx8, al9, bl9, cl9, gl9, hN0, hN]
 refine (Ve  hy10).then ?_
 simp only [push_cast, Nat.reduceAdd, Nat.reduceSub, Nat.reduceMul, Nat.reduceLeDiff, Nat.reduceLT, Nat.reduceEqDiff, ↓reduceIte, reduceCtorEq, Int.reduceBEq, Int.reduceBNe, Nat.reduceBEq, Int.reduceLE, Int.reduceLT, Int.reduceEq, Int.reduceNe, Int.reduceNeg, Nat.reduceDiv, Nat.reduceMod, Nat.reducePow, Za, hx7, ax8, bx8, cx8, al9, bl9, cl9, gl9, hN0, hN]
 refine Zg [8, 9] [true] ?_
 simp only [push_cast, seval, ↓reduceIte]
 refine Zt ?_
 try simp only [Zi, Zf]
 have h := Option.some.inj h; subst h
 refine Zl (.inr rfl) hU [.row n y10.length, .val (.bool true)] (by omega) ?_
 simp only [push_cast, seval, ↓reduceIte, Za, Try.results97, hN0, hN]
theorem Zqb {a0 : Int} {r : Int} {O : Objs} {n : Nat} (h : Zaw a0 = some r) : GTo Try.prog 105 [.val (.int .i64 a0)] O n (.val (.int .i64 r)) O n := by
 unfold Zaw at h
 refine Yn Zc Try.call105 Try.func105 rfl (Nat.le_of_ble_eq_true rfl) (Nat.le_refl _) fun hU => ?_
 have hN0 : O n = none := hU.fresh _ (Nat.le_refl _)
 have hN : ∀ k, O (n + k) = none := fun k => hU.fresh _ (Nat.le_add_right _ _)
 show W _ _ _ _ ⟨8, [], [(0, .val (.int .i64 a0))]⟩ (Z4 O n []) _
 refine Zq [0] (Zb Zc [] ?_)
 simp only [push_cast, seval, ↓reduceIte, Za, hN0, hN]
 refine Zh ?_
 obtain ⟨y6, hy6, ey6, h⟩ := bY (f := (eI .i64)) (cs := [.val (.int .i64 0), .val (.int .i64 1), .val (.int .i64 8), .val (.int .i64 16), .val (.int .i64 32), .val (.int .i64 64), .val (.int .i64 64)]) rfl h
 have g7 := congrArg G.agg ey6
 obtain ⟨y8, hy8, ey8, h⟩ := bY (f := (eI .i64)) (cs := [.val (.int .i64 0), .val (.int .i64 0), .val (.int .i64 0), .val (.int .i64 0), .val (.int .i64 0), .val (.int .i64 0), .val (.int .i64 0)]) rfl h
 have g9 := congrArg (GObj.mk false 140 7 1) ey8
 have g10 := Zth (f := (eI .i64)) y8 y6 (fun _ => rfl)
 refine Zb Zc [] ?_
 simp only [push_cast, seval, ↓reduceIte, Za, g7, g9, g10, hN0, hN]
 refine Zg [0, 3] [true] ?_
 simp only [push_cast, seval, ↓reduceIte]
 obtain ⟨x12, hx12, ax12, bx12, cx12, h⟩ := bEA (f := (eI .i64)) (b := 7) rfl Zvn (fun _ => rfl) (by decide) h
 refine Zq [2] (Zb Zc [] ?_)
 simp only [push_cast, Nat.reduceAdd, Nat.reduceSub, Nat.reduceMul, Nat.reduceLeDiff, Nat.reduceLT, Nat.reduceEqDiff, ↓reduceIte, reduceCtorEq, Int.reduceBEq, Int.reduceBNe, Nat.reduceBEq, Int.reduceLE, Int.reduceLT, Int.reduceEq, Int.reduceNe, Int.reduceNeg, Nat.reduceDiv, Nat.reduceMod, Nat.reducePow, Za, ax12, bx12, cx12, hN0, hN]
 refine Zt ?_
 try simp only [Zi, Zf]
 have h := Option.some.inj h; subst h
 refine Zl (.inr rfl) hU [.val (.int .i64 x12)] (by omega) ?_
 simp only [push_cast, seval, ↓reduceIte, Za, Try.results105, hN0, hN]
theorem Zlj {a0 : Z7} {r : (Int × Bool)} {O : Objs} {n : Nat} (h : Vp a0 = some r) : GTo Try.prog 98 [.agg (Yh a0)] O n (.tup [.val (.int .i64 r.1), .val (.bool r.2)]) O n := by
 unfold Vp at h
 refine Yn Zc Try.call98 Try.func98 rfl (Nat.le_of_ble_eq_true rfl) (Nat.le_refl _) fun hU => ?_
 have hN0 : O n = none := hU.fresh _ (Nat.le_refl _)
 have hN : ∀ k, O (n + k) = none := fun k => hU.fresh _ (Nat.le_add_right _ _)
 show W _ _ _ _ ⟨57, [], [(0, .agg (Yh a0))]⟩ (Z4 O n []) _
 refine Zq [1] (Zb Zc [] ?_)
 simp only [push_cast, seval, ↓reduceIte, Za, hN0, hN]
 refine Zh ?_
 refine Xc ?_
 refine Zq [1, 4] (Zb Zc [] ?_)
 simp only [push_cast, seval, ↓reduceIte, Za, hN0, hN]
 refine Zr (t := (a0.Kind == 1)) rfl (fun c5 => ?_) (fun c5 => ?_)
 ·replace h := Zv c5 h
  refine Zq [2, 3] (Zb Zc [] ?_)
  simp only [push_cast, seval, ↓reduceIte, Za, hN0, hN]
  refine Zt ?_
  try simp only [Zi, Zf]
  have h := Option.some.inj h; subst h
  refine Zl (.inr rfl) hU [.val (.int .i64 (IntKind.i64.wrap (a0.Data + a0.Ptrs))), .val (.bool true)] (by omega) ?_
  simp only [push_cast, seval, ↓reduceIte, Za, Try.results98, hN0, hN]
 replace h := Zu c5 h
 refine Zq [1, 13] (Zb Zc [none, none, none] ?_)
 simp only [push_cast, seval, ↓reduceIte, Za, hN0, hN]
 repeat (with_reducible refine And.intro (by first | (intro h0; simp only [h0, and_self]; done) | (intro h0; simp only [h0, Bool.not_false, Bool.not_true, Bool.true_and, Bool.and_true, true_and, and_true, and_self, imp_self, implies_true, bne_iff_ne, ne_eq, beq_iff_eq]; done) | (intros; simp_all; done) | exact True.intro) ?_)
 refine Zr (t := (cond (a0.Kind == 2) (a0.Code == 7) false)) rfl (fun c4 => ?_) (fun c4 => ?_)
 ·replace h := Zv c4 h
  refine Zq [2, 3] (Zb Zc [] ?_)
  simp only [push_cast, seval, ↓reduceIte, Za, hN0, hN]
  refine Zt ?_
  try simp only [Zi, Zf]
  have h := Option.some.inj h; subst h
  refine Zl (.inr rfl) hU [.val (.int .i64 (IntKind.i64.wrap (a0.Count + 1))), .val (.bool true)] (by omega) ?_
  simp only [push_cast, seval, ↓reduceIte, Za, Try.results98, hN0, hN]
 replace h := Zu c4 h
 refine Zq [1, 25] (Zb Zc [none, none, none, none, none, none, none, none, none, none, none, none] ?_)
 simp only [push_cast, seval, ↓reduceIte, Za, hN0, hN]
 repeat (with_reducible refine And.intro (by first | (intro h0; simp only [h0, and_self]; done) | (intro h0; simp only [h0, Bool.not_false, Bool.not_true, Bool.true_and, Bool.and_true, true_and, and_true, and_self, imp_self, implies_true, bne_iff_ne, ne_eq, beq_iff_eq]; done) | (intros; simp_all; done) | exact True.intro) ?_)
 refine Zr (t := (cond (cond (cond (cond (a0.Kind == 2) (decide (0 ≤ a0.Code)) false) (decide (a0.Code < 7)) false) (decide (0 ≤ a0.Count)) false) (decide (a0.Count ≤ 536870911)) false)) rfl (fun c3 => ?_) (fun c3 => ?_)
 ·replace h := Zv c3 h
  refine Zh ?_
  obtain ⟨y2, hy2, h⟩ := bC h
  refine Xd Zc (by kernel_rfl) [] (by kernel_rfl) ?_
  simp only [push_cast, seval, ↓reduceIte, Za, hN0, hN]
  refine PCall.of (Zqb hy2) ?_
  simp only [push_cast, seval, ↓reduceIte, Za, hN0, hN]
  refine Zg [2, 3] [false] ?_
  simp only [push_cast, seval, ↓reduceIte]
  refine Zt ?_
  try simp only [Zi, Zf]
  have h := Option.some.inj h; subst h
  refine Zl (.inr rfl) hU [.val (.int .i64 (IntKind.i64.wrap (Int.tdiv (IntKind.i64.wrap ((IntKind.i64.wrap (a0.Count * y2)) + 63)) 64))), .val (.bool true)] (by omega) ?_
  simp only [push_cast, seval, ↓reduceIte, Za, Try.results98, hN0, hN]
 replace h := Zu c3 h
 refine Zx ?_
 try simp only [Zi, Zf]
 refine Zg [] [false] ?_
 simp only [push_cast, seval, ↓reduceIte]
 refine Zq [2, 3] (Zb Zc [] ?_)
 simp only [push_cast, seval, ↓reduceIte, Za, hN0, hN]
 refine Zt ?_
 try simp only [Zi, Zf]
 have h := Option.some.inj h; subst h
 refine Zl (.inr rfl) hU [.val (.int .i64 0), .val (.bool false)] (by omega) ?_
 simp only [push_cast, seval, ↓reduceIte, Za, Try.results98, hN0, hN]
theorem Zde {a0 : (Option Zj)} {a1 : Z7} {a2 : Int} {a3 : Int} {r : (Ys × Int)} {O : Objs} {n : Nat} (h : Vk a0 a1 a2 a3 = some r) : GTo Try.prog 74 [(gP Zk a0), .agg (Yh a1), .val (.int .i64 a2), .val (.int .i64 a3)] O n (.tup [.agg [.val (.int .i64 r.1.P.Kind), .val (.int .i64 r.1.P.Off), .val (.int .i64 r.1.P.Data), .val (.int .i64 r.1.P.Ptrs), .val (.int .i64 r.1.P.Code), .val (.int .i64 r.1.P.Count), .val (.int .i64 r.1.P.Segment), .val (.bool r.1.P.Double), .val (.int .i64 r.1.Segment), .val (.int .i64 r.1.At)], .val (.int .i64 r.2)]) O n := by
 unfold Vk at h
 refine Yn Zc Try.call74 Try.func74 rfl (Nat.le_of_ble_eq_true rfl) (Nat.le_refl _) fun hU => ?_
 have hN0 : O n = none := hU.fresh _ (Nat.le_refl _)
 have hN : ∀ k, O (n + k) = none := fun k => hU.fresh _ (Nat.le_add_right _ _)
 show W _ _ _ _ ⟨36, [], [(0, (gP Zk a0)), (1, .agg (Yh a1)), (2, .val (.int .i64 a2)), (3, .val (.int .i64 a3))]⟩ (Z4 O n []) _
 refine Zq [0, 2, 3, 5, 8] (Zb Zc [] ?_)
 simp only [push_cast, seval, ↓reduceIte, Za, hN0, hN]
 refine Zh ?_
 refine Zq [0, 2, 3, 5, 8, 14] (Zb Zc [] ?_)
 simp only [push_cast, seval, ↓reduceIte, Za, hN0, hN]
 refine Zr (t := (a1.Kind == 4)) rfl (fun c7 => ?_) (fun c7 => ?_)
 ·replace h := Zv c7 h
  refine Zh ?_
  refine Zb Zc [] ?_
  simp only [push_cast, seval, ↓reduceIte, Za, hN0, hN]
  refine Zg [8, 9] [false, true] ?_
  simp only [push_cast, seval, ↓reduceIte]
  refine Zt ?_
  try simp only [Zi, Zf]
  have h := Option.some.inj h; subst h
  refine Zl (.inr rfl) hU [.agg [.val (.int .i64 0), .val (.int .i64 0), .val (.int .i64 0), .val (.int .i64 0), .val (.int .i64 0), .val (.int .i64 0), .val (.int .i64 0), .val (.bool false), .val (.int .i64 0), .val (.int .i64 0)], .val (.int .i64 9)] (by omega) ?_
  simp only [push_cast, seval, ↓reduceIte, Za, Try.results74, hN0, hN]
 replace h := Zu c7 h
 refine Zx ?_
 try simp only [Zi, Zf]
 refine Zg [0, 2, 3, 5, 8] [true, true] ?_
 simp only [push_cast, seval, ↓reduceIte]
 refine Zh ?_
 obtain ⟨y2, hy2, h⟩ := bC h
 refine Zb Zc [] ?_
 simp only [push_cast, seval, ↓reduceIte, Za, hN0, hN]
 refine (Zlj hy2).then ?_
 simp only [push_cast, seval, ↓reduceIte, Za, hN0, hN]
 refine Zg [0, 2, 3, 5, 8, 10, 11] [true, true] ?_
 simp only [push_cast, seval, ↓reduceIte]
 refine Zh ?_
 refine Zq [0, 2, 3, 5, 8, 10, 22] (Zb Zc [] ?_)
 simp only [push_cast, seval, ↓reduceIte, Za, hN0, hN]
 refine Zr (t := (!y2.2)) rfl (fun c6 => ?_) (fun c6 => ?_)
 ·replace h := Zv c6 h
  refine Zh ?_
  refine Zb Zc [] ?_
  simp only [push_cast, seval, ↓reduceIte, Za, hN0, hN]
  refine Zg [8, 9] [false, true] ?_
  simp only [push_cast, seval, ↓reduceIte]
  refine Zt ?_
  try simp only [Zi, Zf]
  have h := Option.some.inj h; subst h
  refine Zl (.inr rfl) hU [.agg [.val (.int .i64 0), .val (.int .i64 0), .val (.int .i64 0), .val (.int .i64 0), .val (.int .i64 0), .val (.int .i64 0), .val (.int .i64 0), .val (.bool false), .val (.int .i64 0), .val (.int .i64 0)], .val (.int .i64 8)] (by omega) ?_
  simp only [push_cast, seval, ↓reduceIte, Za, Try.results74, hN0, hN]
 replace h := Zu c6 h
 refine Zx ?_
 try simp only [Zi, Zf]
 refine Zg [0, 2, 3, 5, 8, 10] [true, true] ?_
 simp only [push_cast, seval, ↓reduceIte]
 refine Zh ?_
 refine Zh ?_
 obtain ⟨y4, hy4, h⟩ := bC h
 refine Zb Zc [] ?_
 simp only [push_cast, seval, ↓reduceIte, Za, hN0, hN]
 refine (Ux hy4).then ?_
 simp only [push_cast, seval, ↓reduceIte, Za, hN0, hN]
 refine Zg [2, 3, 5, 8, 29] [true, true] ?_
 simp only [push_cast, seval, ↓reduceIte]
 refine Zr (t := (!y4)) rfl (fun c5 => ?_) (fun c5 => ?_)
 ·replace h := Zv c5 h
  refine Zh ?_
  refine Zb Zc [] ?_
  simp only [push_cast, seval, ↓reduceIte, Za, hN0, hN]
  refine Zg [8, 9] [false, true] ?_
  simp only [push_cast, seval, ↓reduceIte]
  refine Zt ?_
  try simp only [Zi, Zf]
  have h := Option.some.inj h; subst h
  refine Zl (.inr rfl) hU [.agg [.val (.int .i64 0), .val (.int .i64 0), .val (.int .i64 0), .val (.int .i64 0), .val (.int .i64 0), .val (.int .i64 0), .val (.int .i64 0), .val (.bool false), .val (.int .i64 0), .val (.int .i64 0)], .val (.int .i64 7)] (by omega) ?_
  simp only [push_cast, seval, ↓reduceIte, Za, Try.results74, hN0, hN]
 replace h := Zu c5 h
 refine Zx ?_
 try simp only [Zi, Zf]
 refine Zg [2, 3, 5, 8] [true, true] ?_
 simp only [push_cast, seval, ↓reduceIte]
 refine Zh ?_
 refine Zb Zc [] ?_
 simp only [push_cast, seval, ↓reduceIte, Za, hN0, hN]
 refine Zg [2, 3, 5, 8] [true, true] ?_
 simp only [push_cast, seval, ↓reduceIte]
 refine Zh ?_
 refine Zb Zc [] ?_
 simp only [push_cast, seval, ↓reduceIte, Za, hN0, hN]
 refine Zg [8, 9] [false, true] ?_
 simp only [push_cast, seval, ↓reduceIte]
 refine Zt ?_
 try simp only [Zi, Zf]
 have h := Option.some.inj h; subst h
 refine Zl (.inr rfl) hU [.agg [.val (.int .i64 a1.Kind), .val (.int .i64 0), .val (.int .i64 a1.Data), .val (.int .i64 a1.Ptrs), .val (.int .i64 a1.Code), .val (.int .i64 a1.Count), .val (.int .i64 a1.Segment), .val (.bool a1.Double), .val (.int .i64 a2), .val (.int .i64 a3)], .val (.int .i64 0)] (by omega) ?_
 simp only [push_cast, seval, ↓reduceIte, Za, Try.results74, hN0, hN]
theorem Zow {a0 : (Option Zj)} {a1 : Int} {a2 : Int} {r : (Ys × Int)} {O : Objs} {n : Nat} (h : Ge a0 a1 a2 = some r) : GTo Try.prog 72 [(gP Zk a0), .val (.int .i64 a1), .val (.int .i64 a2)] O n (.tup [.agg [.val (.int .i64 r.1.P.Kind), .val (.int .i64 r.1.P.Off), .val (.int .i64 r.1.P.Data), .val (.int .i64 r.1.P.Ptrs), .val (.int .i64 r.1.P.Code), .val (.int .i64 r.1.P.Count), .val (.int .i64 r.1.P.Segment), .val (.bool r.1.P.Double), .val (.int .i64 r.1.Segment), .val (.int .i64 r.1.At)], .val (.int .i64 r.2)]) O n := by
 unfold Ge at h
 refine Yn Zc Try.call72 Try.func72 rfl (Nat.le_of_ble_eq_true rfl) (Nat.le_refl _) fun hU => ?_
 have hN0 : O n = none := hU.fresh _ (Nat.le_refl _)
 have hN : ∀ k, O (n + k) = none := fun k => hU.fresh _ (Nat.le_add_right _ _)
 show W _ _ _ _ ⟨56, [], [(0, (gP Zk a0)), (1, .val (.int .i64 a1)), (2, .val (.int .i64 a2))]⟩ (Z4 O n []) _
 refine Zq [0, 1, 2, 6] (Zb Zc [] ?_)
 simp only [push_cast, seval, ↓reduceIte, Za, hN0, hN]
 refine Zh ?_
 obtain ⟨y2, hy2, h⟩ := bC h
 refine Zb Zc [] ?_
 simp only [push_cast, seval, ↓reduceIte, Za, hN0, hN]
 refine (Zhv hy2).then ?_
 simp only [push_cast, seval, ↓reduceIte, Za, hN0, hN]
 refine Zg [0, 6, 8, 9] [true] ?_
 simp only [push_cast, seval, ↓reduceIte]
 refine Zh ?_
 refine Zq [0, 6, 8, 20] (Zb Zc [] ?_)
 simp only [push_cast, seval, ↓reduceIte, Za, hN0, hN]
 refine Zr (t := (!y2.2)) rfl (fun c11 => ?_) (fun c11 => ?_)
 ·replace h := Zv c11 h
  refine Zh ?_
  refine Zb Zc [] ?_
  simp only [push_cast, seval, ↓reduceIte, Za, hN0, hN]
  refine Zg [6, 7] [true] ?_
  simp only [push_cast, seval, ↓reduceIte]
  refine Zt ?_
  try simp only [Zi, Zf]
  have h := Option.some.inj h; subst h
  refine Zl (.inr rfl) hU [.agg [.val (.int .i64 0), .val (.int .i64 0), .val (.int .i64 0), .val (.int .i64 0), .val (.int .i64 0), .val (.int .i64 0), .val (.int .i64 0), .val (.bool false), .val (.int .i64 0), .val (.int .i64 0)], .val (.int .i64 7)] (by omega) ?_
  simp only [push_cast, seval, ↓reduceIte, Za, Try.results72, hN0, hN]
 replace h := Zu c11 h
 refine Zx ?_
 try simp only [Zi, Zf]
 refine Zg [0, 6, 8] [true] ?_
 simp only [push_cast, seval, ↓reduceIte]
 obtain ⟨x3, hx3, ax3, bx3, cx3, h⟩ := bE (f := (eI .u64)) Gp (fun _ => rfl) (by decide) h
 obtain ⟨y4, hy4, h⟩ := bC h
 obtain ⟨x5, hx5, ax5, bx5, cx5, h⟩ := bE (f := (eI .u64)) Gp (fun _ => rfl) (by decide) h
 obtain ⟨y6, hy6, h⟩ := bC h
 refine Qn (E' := ⟨56, [], [(0, (gP Zk a0)), (6, .ref n 0), (10, .ref (n + 1) 0), (11, .ref (n + 2) 0)]⟩) (O' := (Z4 O n [some ⟨false, 85, 10, 1, [.val (.int .i64 0), .val (.int .i64 0), .val (.int .i64 0), .val (.int .i64 0), .val (.int .i64 0), .val (.int .i64 0), .val (.int .i64 0), .val (.bool false), .val (.int .i64 0), .val (.int .i64 0)]⟩, some ⟨false, 83, 8, 1, (Yh y4)⟩, some ⟨false, 83, 8, 1, (Yh y6)⟩])) (n0 := (n + 3)) ?_ ?_
 ·refine Zt2 Zc (by kernel_rfl) [.low, .low, .low, .low, .low, .low, .low, .low, .pass, .pass, .pass, .pass] (fun i => i < (n + 1)) 8 9 [0, 1, 2, 3, 4, 5, 6, 7] [10, 11] [.low, .low, .low, .low, .low, .low, .low, .low] [.pass, .pass, .pass, .pass] [.pass, .pass, .pass, .pass] [] (by kernel_rfl) rfl rfl rfl ?_
  simp only [push_cast, Nat.reduceAdd, Nat.reduceSub, Nat.reduceMul, Nat.reduceLeDiff, Nat.reduceLT, Nat.reduceEqDiff, ↓reduceIte, reduceCtorEq, Int.reduceBEq, Int.reduceBNe, Nat.reduceBEq, Int.reduceLE, Int.reduceLT, Int.reduceEq, Int.reduceNe, Int.reduceNeg, Nat.reduceDiv, Nat.reduceMod, Nat.reducePow, Za, ax3, bx3, cx3, ax5, bx5, cx5, hN0, hN]
  repeat (with_reducible refine And.intro (by omega) ?_)
  first | refine PCallA.of (fun _ _ => Kw hy4) ?_ | refine PCall.of (Kw hy4) ?_
  simp only [push_cast, Nat.reduceAdd, Nat.reduceSub, Nat.reduceMul, Nat.reduceLeDiff, Nat.reduceLT, Nat.reduceEqDiff, ↓reduceIte, reduceCtorEq, Int.reduceBEq, Int.reduceBNe, Nat.reduceBEq, Int.reduceLE, Int.reduceLT, Int.reduceEq, Int.reduceNe, Int.reduceNeg, Nat.reduceDiv, Nat.reduceMod, Nat.reducePow, Za, ax3, bx3, cx3, ax5, bx5, cx5, hN0, hN]
  repeat (with_reducible refine And.intro (by omega) ?_)
  first | refine PCallA.of (fun _ _ => Kw hy6) ?_ | refine PCall.of (Kw hy6) ?_
  simp only [push_cast, Nat.reduceAdd, Nat.reduceSub, Nat.reduceMul, Nat.reduceLeDiff, Nat.reduceLT, Nat.reduceEqDiff, ↓reduceIte, reduceCtorEq, Int.reduceBEq, Int.reduceBNe, Nat.reduceBEq, Int.reduceLE, Int.reduceLT, Int.reduceEq, Int.reduceNe, Int.reduceNeg, Nat.reduceDiv, Nat.reduceMod, Nat.reducePow, Za, ax3, bx3, cx3, ax5, bx5, cx5, hN0, hN]
  repeat (with_reducible refine And.intro (by omega) ?_)
  refine And.intro ?_ ?_
  ·simp only [push_cast, Nat.reduceAdd, Nat.reduceSub, Nat.reduceMul, Nat.reduceLeDiff, Nat.reduceLT, Nat.reduceEqDiff, ↓reduceIte, reduceCtorEq, Int.reduceBEq, Int.reduceBNe, Nat.reduceBEq, Int.reduceLE, Int.reduceLT, Int.reduceEq, Int.reduceNe, Int.reduceNeg, Nat.reduceDiv, Nat.reduceMod, Nat.reducePow, Za, ax3, bx3, cx3, ax5, bx5, cx5, hN0, hN]
   repeat (with_reducible refine And.intro (by first | exact Ka rfl | exact Q8) ?_)
   refine And.intro rfl (Fit2.of (Zs hU rfl rfl ?_) (by omega))
   simp only [push_cast, Nat.reduceAdd, Nat.reduceSub, Nat.reduceMul, Nat.reduceLeDiff, Nat.reduceLT, Nat.reduceEqDiff, ↓reduceIte, reduceCtorEq, Int.reduceBEq, Int.reduceBNe, Nat.reduceBEq, Int.reduceLE, Int.reduceLT, Int.reduceEq, Int.reduceNe, Int.reduceNeg, Nat.reduceDiv, Nat.reduceMod, Nat.reducePow, Za, ax3, bx3, cx3, ax5, bx5, cx5, hN0, hN]
  simp only [push_cast, Nat.reduceAdd, Nat.reduceSub, Nat.reduceMul, Nat.reduceLeDiff, Nat.reduceLT, Nat.reduceEqDiff, ↓reduceIte, reduceCtorEq, Int.reduceBEq, Int.reduceBNe, Nat.reduceBEq, Int.reduceLE, Int.reduceLT, Int.reduceEq, Int.reduceNe, Int.reduceNeg, Nat.reduceDiv, Nat.reduceMod, Nat.reducePow, Za, ax3, bx3, cx3, ax5, bx5, cx5, hN0, hN]
  repeat (with_reducible refine And.intro (by first | exact Ka rfl | exact Q8) ?_)
  refine And.intro rfl ?_
  refine Fit2.trans (E' := (⟨56, [], [(0, (gP Zk a0)), (6, .ref n 0), (10, .ref (n + 2) 0), (11, .ref (n + 1) 0)]⟩ : Env)) (O' := (Z4 O n [some ⟨false, 85, 10, 1, [.val (.int .i64 0), .val (.int .i64 0), .val (.int .i64 0), .val (.int .i64 0), .val (.int .i64 0), .val (.int .i64 0), .val (.int .i64 0), .val (.bool false), .val (.int .i64 0), .val (.int .i64 0)]⟩, some ⟨false, 83, 8, 1, (Yh y6)⟩, some ⟨false, 83, 8, 1, (Yh y4)⟩])) (n' := (n + 3)) (Fit2.of (Zs hU rfl rfl ?_) (by omega)) ?_
  ·simp only [push_cast, Nat.reduceAdd, Nat.reduceSub, Nat.reduceMul, Nat.reduceLeDiff, Nat.reduceLT, Nat.reduceEqDiff, ↓reduceIte, reduceCtorEq, Int.reduceBEq, Int.reduceBNe, Nat.reduceBEq, Int.reduceLE, Int.reduceLT, Int.reduceEq, Int.reduceNe, Int.reduceNeg, Nat.reduceDiv, Nat.reduceMod, Nat.reducePow, Za, ax3, bx3, cx3, ax5, bx5, cx5, hN0, hN]
  refine Zmd (k := 3) (k' := 3) hU [0, 2, 1] [0, 2, 1] rfl rfl rfl rfl ⟨rfl, rfl⟩ ?_
  simp only [push_cast, seval, ↓reduceIte, Za, hN0, hN]
 refine Zh ?_
 refine Zq [0, 6, 10, 11, 36] (Zb Zc [none, none] ?_)
 simp only [push_cast, seval, ↓reduceIte, Za, hN0, hN]
 repeat (with_reducible refine And.intro (by first | (intro h0; simp only [h0, and_self]; done) | (intro h0; simp only [h0, Bool.not_false, Bool.not_true, Bool.true_and, Bool.and_true, true_and, and_true, and_self, imp_self, implies_true, bne_iff_ne, ne_eq, beq_iff_eq]; done) | (intros; simp_all; done) | exact True.intro) ?_)
 refine Zr (t := (cond (y4.Kind != 3) true y4.Double)) rfl (fun c10 => ?_) (fun c10 => ?_)
 ·replace h := Zv c10 h
  refine Zh ?_
  refine Zb Zc [] ?_
  simp only [push_cast, seval, ↓reduceIte, Za, hN0, hN]
  refine Zg [6, 7] [true, false, false] ?_
  simp only [push_cast, seval, ↓reduceIte]
  refine Zt ?_
  try simp only [Zi, Zf]
  have h := Option.some.inj h; subst h
  refine Zl (.inr rfl) hU [.agg [.val (.int .i64 0), .val (.int .i64 0), .val (.int .i64 0), .val (.int .i64 0), .val (.int .i64 0), .val (.int .i64 0), .val (.int .i64 0), .val (.bool false), .val (.int .i64 0), .val (.int .i64 0)], .val (.int .i64 8)] (by omega) ?_
  simp only [push_cast, seval, ↓reduceIte, Za, Try.results72, hN0, hN]
 replace h := Zu c10 h
 refine Zx ?_
 try simp only [Zi, Zf]
 refine Zg [0, 6, 10, 11] [true, true, true] ?_
 simp only [push_cast, seval, ↓reduceIte]
 refine Zh ?_
 refine Zq [0, 6, 10, 11, 45] (Zb Zc [none, none, none] ?_)
 simp only [push_cast, seval, ↓reduceIte, Za, hN0, hN]
 repeat (with_reducible refine And.intro (by first | (intro h0; simp only [h0, and_self]; done) | (intro h0; simp only [h0, Bool.not_false, Bool.not_true, Bool.true_and, Bool.and_true, true_and, and_true, and_self, imp_self, implies_true, bne_iff_ne, ne_eq, beq_iff_eq]; done) | (intros; simp_all; done) | exact True.intro) ?_)
 refine Zr (t := (cond (y6.Kind != 4) (y6.Off != 0) false)) rfl (fun c9 => ?_) (fun c9 => ?_)
 ·replace h := Zv c9 h
  refine Zh ?_
  refine Zb Zc [] ?_
  simp only [push_cast, seval, ↓reduceIte, Za, hN0, hN]
  refine Zg [6, 7] [true, false, false] ?_
  simp only [push_cast, seval, ↓reduceIte]
  refine Zt ?_
  try simp only [Zi, Zf]
  have h := Option.some.inj h; subst h
  refine Zl (.inr rfl) hU [.agg [.val (.int .i64 0), .val (.int .i64 0), .val (.int .i64 0), .val (.int .i64 0), .val (.int .i64 0), .val (.int .i64 0), .val (.int .i64 0), .val (.bool false), .val (.int .i64 0), .val (.int .i64 0)], .val (.int .i64 8)] (by omega) ?_
  simp only [push_cast, seval, ↓reduceIte, Za, Try.results72, hN0, hN]
 replace h := Zu c9 h
 refine Zx ?_
 try simp only [Zi, Zf]
 refine Zg [0, 6, 10, 11] [true, true, true] ?_
 simp only [push_cast, seval, ↓reduceIte]
 refine Zh ?_
 obtain ⟨y8, hy8, h⟩ := bC h
 refine Zb Zc [] ?_
 simp only [push_cast, seval, ↓reduceIte, Za, hN0, hN]
 refine (Zde hy8).then ?_
 simp only [push_cast, seval, ↓reduceIte, Za, hN0, hN]
 refine Zg [6, 7] [true, false, false] ?_
 simp only [push_cast, seval, ↓reduceIte]
 refine Zt ?_
 try simp only [Zi, Zf]
 have h := Option.some.inj h; subst h
 refine Zl (.inr rfl) hU [.agg [.val (.int .i64 y8.1.P.Kind), .val (.int .i64 y8.1.P.Off), .val (.int .i64 y8.1.P.Data), .val (.int .i64 y8.1.P.Ptrs), .val (.int .i64 y8.1.P.Code), .val (.int .i64 y8.1.P.Count), .val (.int .i64 y8.1.P.Segment), .val (.bool y8.1.P.Double), .val (.int .i64 y8.1.Segment), .val (.int .i64 y8.1.At)], .val (.int .i64 y8.2)] (by omega) ?_
 simp only [push_cast, seval, ↓reduceIte, Za, Try.results72, hN0, hN]
theorem Zox {a0 : (Option Zj)} {a1 : Int} {a2 : Int} {r : (Ys × Int)} {O : Objs} {n : Nat} (h : Gf a0 a1 a2 = some r) : GTo Try.prog 73 [(gP Zk a0), .val (.int .i64 a1), .val (.int .i64 a2)] O n (.tup [.agg [.val (.int .i64 r.1.P.Kind), .val (.int .i64 r.1.P.Off), .val (.int .i64 r.1.P.Data), .val (.int .i64 r.1.P.Ptrs), .val (.int .i64 r.1.P.Code), .val (.int .i64 r.1.P.Count), .val (.int .i64 r.1.P.Segment), .val (.bool r.1.P.Double), .val (.int .i64 r.1.Segment), .val (.int .i64 r.1.At)], .val (.int .i64 r.2)]) O n := by
 unfold Gf at h
 refine Yn Zc Try.call73 Try.func73 rfl (Nat.le_of_ble_eq_true rfl) (Nat.le_refl _) fun hU => ?_
 have hN0 : O n = none := hU.fresh _ (Nat.le_refl _)
 have hN : ∀ k, O (n + k) = none := fun k => hU.fresh _ (Nat.le_add_right _ _)
 show W _ _ _ _ ⟨34, [], [(0, (gP Zk a0)), (1, .val (.int .i64 a1)), (2, .val (.int .i64 a2))]⟩ (Z4 O n []) _
 refine Zq [0, 1, 2, 6] (Zb Zc [] ?_)
 simp only [push_cast, seval, ↓reduceIte, Za, hN0, hN]
 refine Zh ?_
 obtain ⟨y2, hy2, h⟩ := bC h
 refine Zb Zc [] ?_
 simp only [push_cast, seval, ↓reduceIte, Za, hN0, hN]
 refine (Uw hy2).then ?_
 simp only [push_cast, seval, ↓reduceIte, Za, hN0, hN]
 refine Zg [0, 1, 2, 6, 8, 9] [true] ?_
 simp only [push_cast, seval, ↓reduceIte]
 refine Zh ?_
 refine Zq [0, 1, 2, 6, 8, 19] (Zb Zc [] ?_)
 simp only [push_cast, seval, ↓reduceIte, Za, hN0, hN]
 refine Zr (t := (!y2.2)) rfl (fun c7 => ?_) (fun c7 => ?_)
 ·replace h := Zv c7 h
  refine Zh ?_
  refine Zb Zc [] ?_
  simp only [push_cast, seval, ↓reduceIte, Za, hN0, hN]
  refine Zg [6, 7] [true] ?_
  simp only [push_cast, seval, ↓reduceIte]
  refine Zt ?_
  try simp only [Zi, Zf]
  have h := Option.some.inj h; subst h
  refine Zl (.inr rfl) hU [.agg [.val (.int .i64 0), .val (.int .i64 0), .val (.int .i64 0), .val (.int .i64 0), .val (.int .i64 0), .val (.int .i64 0), .val (.int .i64 0), .val (.bool false), .val (.int .i64 0), .val (.int .i64 0)], .val (.int .i64 7)] (by omega) ?_
  simp only [push_cast, seval, ↓reduceIte, Za, Try.results73, hN0, hN]
 replace h := Zu c7 h
 refine Zx ?_
 try simp only [Zi, Zf]
 refine Zg [0, 1, 2, 6, 8] [true] ?_
 simp only [push_cast, seval, ↓reduceIte]
 refine Zh ?_
 obtain ⟨y4, hy4, h⟩ := bC h
 refine Zb Zc [] ?_
 simp only [push_cast, seval, ↓reduceIte, Za, hN0, hN]
 refine (Kw hy4).then ?_
 simp only [push_cast, seval, ↓reduceIte, Za, hN0, hN]
 refine Zg [0, 1, 2, 6, 10] [true, true] ?_
 simp only [push_cast, seval, ↓reduceIte]
 refine Zh ?_
 obtain ⟨y6, hy6, h⟩ := bC h
 refine Zb Zc [] ?_
 simp only [push_cast, seval, ↓reduceIte, Za, hN0, hN]
 refine (Zde hy6).then ?_
 simp only [push_cast, seval, ↓reduceIte, Za, hN0, hN]
 refine Zg [6, 7] [true, false] ?_
 simp only [push_cast, seval, ↓reduceIte]
 refine Zt ?_
 try simp only [Zi, Zf]
 have h := Option.some.inj h; subst h
 refine Zl (.inr rfl) hU [.agg [.val (.int .i64 y6.1.P.Kind), .val (.int .i64 y6.1.P.Off), .val (.int .i64 y6.1.P.Data), .val (.int .i64 y6.1.P.Ptrs), .val (.int .i64 y6.1.P.Code), .val (.int .i64 y6.1.P.Count), .val (.int .i64 y6.1.P.Segment), .val (.bool y6.1.P.Double), .val (.int .i64 y6.1.Segment), .val (.int .i64 y6.1.At)], .val (.int .i64 y6.2)] (by omega) ?_
 simp only [push_cast, seval, ↓reduceIte, Za, Try.results73, hN0, hN]
theorem Zov {a0 : (Option Zj)} {a1 : Int} {a2 : Int} {r : (Ys × Int)} {O : Objs} {n : Nat} (h : Gd a0 a1 a2 = some r) : GTo Try.prog 48 [(gP Zk a0), .val (.int .i64 a1), .val (.int .i64 a2)] O n (.tup [.agg [.val (.int .i64 r.1.P.Kind), .val (.int .i64 r.1.P.Off), .val (.int .i64 r.1.P.Data), .val (.int .i64 r.1.P.Ptrs), .val (.int .i64 r.1.P.Code), .val (.int .i64 r.1.P.Count), .val (.int .i64 r.1.P.Segment), .val (.bool r.1.P.Double), .val (.int .i64 r.1.Segment), .val (.int .i64 r.1.At)], .val (.int .i64 r.2)]) O n := by
 unfold Gd at h
 refine Yn Zc Try.call48 Try.func48 rfl (Nat.le_of_ble_eq_true rfl) (Nat.le_refl _) fun hU => ?_
 have hN0 : O n = none := hU.fresh _ (Nat.le_refl _)
 have hN : ∀ k, O (n + k) = none := fun k => hU.fresh _ (Nat.le_add_right _ _)
 show W _ _ _ _ ⟨67, [], [(0, (gP Zk a0)), (1, .val (.int .i64 a1)), (2, .val (.int .i64 a2))]⟩ (Z4 O n []) _
 refine Zq [0, 1, 2, 6] (Zb Zc [] ?_)
 simp only [push_cast, seval, ↓reduceIte, Za, hN0, hN]
 refine Zh ?_
 obtain ⟨y2, hy2, h⟩ := bC h
 refine Zb Zc [] ?_
 simp only [push_cast, seval, ↓reduceIte, Za, hN0, hN]
 refine (Uw hy2).then ?_
 simp only [push_cast, seval, ↓reduceIte, Za, hN0, hN]
 refine Zg [0, 1, 2, 6, 8, 9] [true] ?_
 simp only [push_cast, seval, ↓reduceIte]
 refine Zh ?_
 refine Zq [0, 1, 2, 6, 8, 19] (Zb Zc [] ?_)
 simp only [push_cast, seval, ↓reduceIte, Za, hN0, hN]
 refine Zr (t := (!y2.2)) rfl (fun c14 => ?_) (fun c14 => ?_)
 ·replace h := Zv c14 h
  refine Zh ?_
  refine Zb Zc [] ?_
  simp only [push_cast, seval, ↓reduceIte, Za, hN0, hN]
  refine Zg [6, 7] [true] ?_
  simp only [push_cast, seval, ↓reduceIte]
  refine Zt ?_
  try simp only [Zi, Zf]
  have h := Option.some.inj h; subst h
  refine Zl (.inr rfl) hU [.agg [.val (.int .i64 0), .val (.int .i64 0), .val (.int .i64 0), .val (.int .i64 0), .val (.int .i64 0), .val (.int .i64 0), .val (.int .i64 0), .val (.bool false), .val (.int .i64 0), .val (.int .i64 0)], .val (.int .i64 7)] (by omega) ?_
  simp only [push_cast, seval, ↓reduceIte, Za, Try.results48, hN0, hN]
 replace h := Zu c14 h
 refine Zx ?_
 try simp only [Zi, Zf]
 refine Zg [0, 1, 2, 6, 8] [true] ?_
 simp only [push_cast, seval, ↓reduceIte]
 refine Zh ?_
 obtain ⟨y4, hy4, h⟩ := bC h
 refine Zb Zc [] ?_
 simp only [push_cast, seval, ↓reduceIte, Za, hN0, hN]
 refine (Kw hy4).then ?_
 simp only [push_cast, seval, ↓reduceIte, Za, hN0, hN]
 refine Zg [0, 1, 2, 6, 10] [true, true] ?_
 simp only [push_cast, seval, ↓reduceIte]
 refine Zh ?_
 refine Xc ?_
 refine Zq [0, 1, 2, 6, 10, 23] (Zb Zc [] ?_)
 simp only [push_cast, seval, ↓reduceIte, Za, hN0, hN]
 refine Zr (t := (y4.Kind == 0)) rfl (fun c13 => ?_) (fun c13 => ?_)
 ·replace h := Zv c13 h
  refine Zh ?_
  refine Zb Zc [] ?_
  simp only [push_cast, seval, ↓reduceIte, Za, hN0, hN]
  refine Zg [6, 7] [true, false] ?_
  simp only [push_cast, seval, ↓reduceIte]
  refine Zt ?_
  try simp only [Zi, Zf]
  have h := Option.some.inj h; subst h
  refine Zl (.inr rfl) hU [.agg [.val (.int .i64 0), .val (.int .i64 0), .val (.int .i64 0), .val (.int .i64 0), .val (.int .i64 0), .val (.int .i64 0), .val (.int .i64 0), .val (.bool false), .val (.int .i64 0), .val (.int .i64 0)], .val (.int .i64 0)] (by omega) ?_
  simp only [push_cast, seval, ↓reduceIte, Za, Try.results48, hN0, hN]
 replace h := Zu c13 h
 refine Zq [0, 1, 2, 6, 10, 28] (Zb Zc [none, none] ?_)
 simp only [push_cast, seval, ↓reduceIte, Za, hN0, hN]
 repeat (with_reducible refine And.intro (by first | (intro h0; simp only [h0, and_self]; done) | (intro h0; simp only [h0, Bool.not_false, Bool.not_true, Bool.true_and, Bool.and_true, true_and, and_true, and_self, imp_self, implies_true, bne_iff_ne, ne_eq, beq_iff_eq]; done) | (intros; simp_all; done) | exact True.intro) ?_)
 refine Zr (t := (cond (y4.Kind == 3) y4.Double false)) rfl (fun c12 => ?_) (fun c12 => ?_)
 ·replace h := Zv c12 h
  refine Zh ?_
  obtain ⟨y6, hy6, h⟩ := bC h
  refine Zb Zc [] ?_
  simp only [push_cast, seval, ↓reduceIte, Za, hN0, hN]
  refine (Zow hy6).then ?_
  simp only [push_cast, seval, ↓reduceIte, Za, hN0, hN]
  refine Zg [6, 7] [true, false] ?_
  simp only [push_cast, seval, ↓reduceIte]
  refine Zt ?_
  try simp only [Zi, Zf]
  have h := Option.some.inj h; subst h
  refine Zl (.inr rfl) hU [.agg [.val (.int .i64 y6.1.P.Kind), .val (.int .i64 y6.1.P.Off), .val (.int .i64 y6.1.P.Data), .val (.int .i64 y6.1.P.Ptrs), .val (.int .i64 y6.1.P.Code), .val (.int .i64 y6.1.P.Count), .val (.int .i64 y6.1.P.Segment), .val (.bool y6.1.P.Double), .val (.int .i64 y6.1.Segment), .val (.int .i64 y6.1.At)], .val (.int .i64 y6.2)] (by omega) ?_
  simp only [push_cast, seval, ↓reduceIte, Za, Try.results48, hN0, hN]
 replace h := Zu c12 h
 refine Zq [0, 1, 2, 6, 10, 44] (Zb Zc [] ?_)
 simp only [push_cast, seval, ↓reduceIte, Za, hN0, hN]
 refine Zr (t := (y4.Kind == 3)) rfl (fun c11 => ?_) (fun c11 => ?_)
 ·replace h := Zv c11 h
  refine Zh ?_
  obtain ⟨y8, hy8, h⟩ := bC h
  refine Zb Zc [] ?_
  simp only [push_cast, seval, ↓reduceIte, Za, hN0, hN]
  refine (Zox hy8).then ?_
  simp only [push_cast, seval, ↓reduceIte, Za, hN0, hN]
  refine Zg [6, 7] [true, false] ?_
  simp only [push_cast, seval, ↓reduceIte]
  refine Zt ?_
  try simp only [Zi, Zf]
  have h := Option.some.inj h; subst h
  refine Zl (.inr rfl) hU [.agg [.val (.int .i64 y8.1.P.Kind), .val (.int .i64 y8.1.P.Off), .val (.int .i64 y8.1.P.Data), .val (.int .i64 y8.1.P.Ptrs), .val (.int .i64 y8.1.P.Code), .val (.int .i64 y8.1.P.Count), .val (.int .i64 y8.1.P.Segment), .val (.bool y8.1.P.Double), .val (.int .i64 y8.1.Segment), .val (.int .i64 y8.1.At)], .val (.int .i64 y8.2)] (by omega) ?_
  simp only [push_cast, seval, ↓reduceIte, Za, Try.results48, hN0, hN]
 replace h := Zu c11 h
 refine Zx ?_
 try simp only [Zi, Zf]
 refine Zg [0, 1, 2, 6, 10] [true, true] ?_
 simp only [push_cast, seval, ↓reduceIte]
 refine Zh ?_
 obtain ⟨y10, hy10, h⟩ := bC h
 refine Zb Zc [] ?_
 simp only [push_cast, seval, ↓reduceIte, Za, hN0, hN]
 refine (Zde hy10).then ?_
 simp only [push_cast, seval, ↓reduceIte, Za, hN0, hN]
 refine Zg [6, 7] [true, false] ?_
 simp only [push_cast, seval, ↓reduceIte]
 refine Zt ?_
 try simp only [Zi, Zf]
 have h := Option.some.inj h; subst h
 refine Zl (.inr rfl) hU [.agg [.val (.int .i64 y10.1.P.Kind), .val (.int .i64 y10.1.P.Off), .val (.int .i64 y10.1.P.Data), .val (.int .i64 y10.1.P.Ptrs), .val (.int .i64 y10.1.P.Code), .val (.int .i64 y10.1.P.Count), .val (.int .i64 y10.1.P.Segment), .val (.bool y10.1.P.Double), .val (.int .i64 y10.1.Segment), .val (.int .i64 y10.1.At)], .val (.int .i64 y10.2)] (by omega) ?_
 simp only [push_cast, seval, ↓reduceIte, Za, Try.results48, hN0, hN]
theorem Zh0 {a0 : Zd} {r : (Zd × Int)} {O : Objs} {n : Nat} (h : Vm a0 = some r) : GTo Try.prog 49 [.agg (Zp a0)] O n (.tup [.agg (Zp r.1), .val (.int .i64 r.2)]) O n := by
 unfold Vm at h
 refine Yn Zc Try.call49 Try.func49 rfl (Nat.le_of_ble_eq_true rfl) (Nat.le_refl _) fun hU => ?_
 have hN0 : O n = none := hU.fresh _ (Nat.le_refl _)
 have hN : ∀ k, O (n + k) = none := fun k => hU.fresh _ (Nat.le_add_right _ _)
 show W _ _ _ _ ⟨56, [], [(0, .agg (Zp a0))]⟩ (Z4 O n []) _
 refine Zq [1, 2] (Zb Zc [] ?_)
 simp only [push_cast, seval, ↓reduceIte, Za, hN0, hN]
 refine Zh ?_
 obtain ⟨y2, hy2, h⟩ := bC h
 refine Zb Zc [] ?_
 simp only [push_cast, seval, ↓reduceIte, Za, hN0, hN]
 refine (Uw hy2).then ?_
 simp only [push_cast, seval, ↓reduceIte, Za, hN0, hN]
 refine Zg [1, 2, 4] [true, true] ?_
 simp only [push_cast, seval, ↓reduceIte]
 refine Zh ?_
 obtain ⟨y4, hy4, h⟩ := bC h
 refine Zb Zc [] ?_
 simp only [push_cast, seval, ↓reduceIte, Za, hN0, hN]
 refine (Kw hy4).then ?_
 simp only [push_cast, seval, ↓reduceIte, Za, hN0, hN]
 refine Zg [1, 2, 6] [true, true, true] ?_
 simp only [push_cast, seval, ↓reduceIte]
 refine Zh ?_
 refine Zq [1, 2, 6, 44] (Zb Zc [none, none, none, none, none, none, none, none, none, none, none, none, none, none, none, none, none] ?_)
 simp only [push_cast, seval, ↓reduceIte, Za, hN0, hN]
 repeat (with_reducible refine And.intro (by first | (intro h0; simp only [h0, and_self]; done) | (intro h0; simp only [h0, Bool.not_false, Bool.not_true, Bool.true_and, Bool.and_true, true_and, and_true, and_self, imp_self, implies_true, bne_iff_ne, ne_eq, beq_iff_eq]; done) | (intros; simp_all; done) | exact True.intro) ?_)
 refine Zr (t := (cond (cond (cond (y4.Kind != 0) (y4.Kind != 1) false) true (decide (y4.Off < 0))) true (decide (a0.count < (IntKind.i64.wrap (y4.Off * (IntKind.i64.wrap (y4.Data + y4.Ptrs)))))))) rfl (fun c5 => ?_) (fun c5 => ?_)
 ·replace h := Zv c5 h
  refine Zh ?_
  refine Zb Zc [] ?_
  simp only [push_cast, seval, ↓reduceIte, Za, hN0, hN]
  refine Zg [2, 3] [false, true, false] ?_
  simp only [push_cast, seval, ↓reduceIte]
  refine Zt ?_
  try simp only [Zi, Zf]
  have h := Option.some.inj h; subst h
  refine Zl (.inr rfl) hU [.agg [.val (.pointer none), .val (.int .i64 0), .val (.int .i64 0), .val (.int .i64 0), .val (.int .i64 0), .val (.int .i64 0), .val (.int .i64 0), .val (.int .i64 0), .val (.int .i64 0)], .val (.int .i64 8)] (by omega) ?_
  simp only [push_cast, seval, ↓reduceIte, Za, Try.results49, hN0, hN]
 replace h := Zu c5 h
 refine Zx ?_
 try simp only [Zi, Zf]
 refine Zg [1, 2, 6] [true, true, true] ?_
 simp only [push_cast, seval, ↓reduceIte]
 refine Zh ?_
 refine Zhk Zc (by kernel_rfl) [.plain, .plain, .low, .low, .low, .low, .plain, .pass, .plain, .pass, .plain, .bar] (fun i => i ≠ n + 0) [0, 1, 2, 3, 4, 5, 6, 7, 8, 9, 10, 11] [.plain, .plain, .low, .low, .low, .low, .plain, .pass, .plain, .pass, .plain, .bar] [] (by kernel_rfl) rfl ?_
 simp only [push_cast, seval, ↓reduceIte, Za, hN0, hN]
 repeat (with_reducible refine And.intro (by first | omega | exact Ka rfl | exact Q8 | exact U0 rfl | exact U7 rfl rfl) ?_)
 refine Zg [1, 2] [true, true, false] ?_
 simp only [push_cast, seval, ↓reduceIte]
 refine Zh ?_
 refine Zb Zc [] ?_
 simp only [push_cast, seval, ↓reduceIte, Za, hN0, hN]
 refine Zg [2, 3] [false, true, false] ?_
 simp only [push_cast, seval, ↓reduceIte]
 refine Zt ?_
 try simp only [Zi, Zf]
 have h := Option.some.inj h; subst h
 refine Zl (.inr rfl) hU [.agg [(gP Zk a0.a), .val (.int .i64 a0.kind), .val (.int .i64 a0.segment), .val (.int .i64 a0.at_), .val (.int .i64 y4.Data), .val (.int .i64 y4.Ptrs), .val (.int .i64 y4.Off), .val (.int .i64 a0.code), .val (.int .i64 a0.index)], .val (.int .i64 0)] (by omega) ?_
 simp only [push_cast, seval, ↓reduceIte, Za, Try.results49, hN0, hN]
theorem Zeu {a0 : (Option Zj)} {a1 : Int} {a2 : Int} {r : (Zd × Int)} {O : Objs} {n : Nat} (h : Vx a0 a1 a2 = some r) : GTo Try.prog 16 [(gP Zk a0), .val (.int .i64 a1), .val (.int .i64 a2)] O n (.tup [.agg (Zp r.1), .val (.int .i64 r.2)]) O n := by
 unfold Vx at h
 refine Yn Zc Try.call16 Try.func16 rfl (Nat.le_of_ble_eq_true rfl) (Nat.le_refl _) fun hU => ?_
 have hN0 : O n = none := hU.fresh _ (Nat.le_refl _)
 have hN : ∀ k, O (n + k) = none := fun k => hU.fresh _ (Nat.le_add_right _ _)
 show W _ _ _ _ ⟨66, [], [(0, (gP Zk a0)), (1, .val (.int .i64 a1)), (2, .val (.int .i64 a2))]⟩ (Z4 O n []) _
 refine Zq [0, 1, 2, 6] (Zb Zc [] ?_)
 simp only [push_cast, seval, ↓reduceIte, Za, hN0, hN]
 refine Zh ?_
 obtain ⟨y2, hy2, h⟩ := bC h
 refine Zb Zc [] ?_
 simp only [push_cast, seval, ↓reduceIte, Za, hN0, hN]
 refine (Zov hy2).then ?_
 simp only [push_cast, seval, ↓reduceIte, Za, hN0, hN]
 refine Zg [0, 6, 8, 9] [true, true] ?_
 simp only [push_cast, seval, ↓reduceIte]
 refine Zh ?_
 refine Zq [0, 6, 8, 9, 25] (Zb Zc [none, none, none, none] ?_)
 simp only [push_cast, seval, ↓reduceIte, Za, hN0, hN]
 repeat (with_reducible refine And.intro (by first | (intro h0; simp only [h0, and_self]; done) | (intro h0; simp only [h0, Bool.not_false, Bool.not_true, Bool.true_and, Bool.and_true, true_and, and_true, and_self, imp_self, implies_true, bne_iff_ne, ne_eq, beq_iff_eq]; done) | (intros; simp_all; done) | exact True.intro) ?_)
 refine Zr (t := (cond (y2.2 != 0) true (y2.1.P.Kind == 0))) rfl (fun c7 => ?_) (fun c7 => ?_)
 ·replace h := Zv c7 h
  refine Zh ?_
  refine Zb Zc [] ?_
  simp only [push_cast, seval, ↓reduceIte, Za, hN0, hN]
  refine Zg [6, 7] [true, false] ?_
  simp only [push_cast, seval, ↓reduceIte]
  refine Zt ?_
  try simp only [Zi, Zf]
  have h := Option.some.inj h; subst h
  refine Zl (.inr rfl) hU [.agg [.val (.pointer none), .val (.int .i64 0), .val (.int .i64 0), .val (.int .i64 0), .val (.int .i64 0), .val (.int .i64 0), .val (.int .i64 0), .val (.int .i64 0), .val (.int .i64 0)], .val (.int .i64 y2.2)] (by omega) ?_
  simp only [push_cast, seval, ↓reduceIte, Za, Try.results16, hN0, hN]
 replace h := Zu c7 h
 refine Zx ?_
 try simp only [Zi, Zf]
 refine Zg [0, 6, 8] [true, true] ?_
 simp only [push_cast, seval, ↓reduceIte]
 refine Zh ?_
 refine Zb Zc [] ?_
 simp only [push_cast, seval, ↓reduceIte, Za, hN0, hN]
 refine Zg [6, 8, 10] [true, true, true] ?_
 simp only [push_cast, seval, ↓reduceIte]
 refine Zh ?_
 refine Zq [6, 8, 10, 37] (Zb Zc [] ?_)
 simp only [push_cast, seval, ↓reduceIte, Za, hN0, hN]
 refine Zr (t := (y2.1.P.Kind == 1)) rfl (fun c6 => ?_) (fun c6 => ?_)
 ·replace h := Zv c6 h
  refine Zh ?_
  refine Zhk Zc (by kernel_rfl) [.low, .low, .low, .low, .low, .low, .plain, .pass, .plain, .pass, .plain, .bar] (fun i => i ≠ n + 2) [0, 1, 2, 3, 4, 5, 6, 7, 8, 9, 10, 11] [.low, .low, .low, .low, .low, .low, .plain, .pass, .plain, .pass, .plain, .bar] [] (by kernel_rfl) rfl ?_
  simp only [push_cast, seval, ↓reduceIte, Za, hN0, hN]
  repeat (with_reducible refine And.intro (by first | omega | exact Ka rfl | exact Q8 | exact U0 rfl | exact U7 rfl rfl) ?_)
  refine Zg [6, 10] [true, false, true] ?_
  simp only [push_cast, seval, ↓reduceIte]
  refine Zh ?_
  refine Zb Zc [] ?_
  simp only [push_cast, seval, ↓reduceIte, Za, hN0, hN]
  refine Zg [6, 7] [true, false, false] ?_
  simp only [push_cast, seval, ↓reduceIte]
  refine Zt ?_
  try simp only [Zi, Zf]
  have h := Option.some.inj h; subst h
  refine Zl (.inr rfl) hU [.agg [(gP Zk a0), .val (.int .i64 1), .val (.int .i64 y2.1.Segment), .val (.int .i64 y2.1.At), .val (.int .i64 y2.1.P.Data), .val (.int .i64 y2.1.P.Ptrs), .val (.int .i64 0), .val (.int .i64 0), .val (.int .i64 0)], .val (.int .i64 0)] (by omega) ?_
  simp only [push_cast, seval, ↓reduceIte, Za, Try.results16, hN0, hN]
 replace h := Zu c6 h
 refine Zx ?_
 try simp only [Zi, Zf]
 refine Zg [6, 8, 10] [true, true, true] ?_
 simp only [push_cast, seval, ↓reduceIte]
 refine Zh ?_
 refine Zhk Zc (by kernel_rfl) [.plain, .plain, .plain, .plain, .low, .low, .low, .plain, .pass, .plain, .bar] (fun i => i ≠ n + 2) [0, 1, 2, 3, 4, 5, 6, 7, 8, 9, 10] [.plain, .plain, .plain, .plain, .low, .low, .low, .plain, .pass, .plain, .bar] [] (by kernel_rfl) rfl ?_
 simp only [push_cast, seval, ↓reduceIte, Za, hN0, hN]
 repeat (with_reducible refine And.intro (by first | omega | exact Ka rfl | exact Q8 | exact U0 rfl | exact U7 rfl rfl) ?_)
 refine Zg [6, 8, 10] [true, true, true] ?_
 simp only [push_cast, seval, ↓reduceIte]
 refine Zh ?_
 refine Zq [6, 10, 60] (Zb Zc [] ?_)
 simp only [push_cast, seval, ↓reduceIte, Za, hN0, hN]
 refine Zr (t := (y2.1.P.Code == 7)) rfl (fun c5 => ?_) (fun c5 => ?_)
 ·replace h := Zv c5 h
  refine Zh ?_
  obtain ⟨y4, hy4, h⟩ := bC h
  refine Zb Zc [] ?_
  simp only [push_cast, seval, ↓reduceIte, Za, hN0, hN]
  refine (Zh0 hy4).then ?_
  simp only [push_cast, seval, ↓reduceIte, Za, hN0, hN]
  refine Zg [6, 7] [true, false, false] ?_
  simp only [push_cast, seval, ↓reduceIte]
  refine Zt ?_
  try simp only [Zi, Zf]
  have h := Option.some.inj h; subst h
  refine Zl (.inr rfl) hU [.agg (Zp y4.1), .val (.int .i64 y4.2)] (by omega) ?_
  simp only [push_cast, seval, ↓reduceIte, Za, Try.results16, hN0, hN]
 replace h := Zu c5 h
 refine Zx ?_
 try simp only [Zi, Zf]
 refine Zg [6, 10] [true, false, true] ?_
 simp only [push_cast, seval, ↓reduceIte]
 refine Zh ?_
 refine Zb Zc [] ?_
 simp only [push_cast, seval, ↓reduceIte, Za, hN0, hN]
 refine Zg [6, 7] [true, false, false] ?_
 simp only [push_cast, seval, ↓reduceIte]
 refine Zt ?_
 try simp only [Zi, Zf]
 have h := Option.some.inj h; subst h
 refine Zl (.inr rfl) hU [.agg [(gP Zk a0), .val (.int .i64 (IntKind.i64.wrap (y2.1.P.Code + 2))), .val (.int .i64 y2.1.Segment), .val (.int .i64 y2.1.At), .val (.int .i64 0), .val (.int .i64 0), .val (.int .i64 y2.1.P.Count), .val (.int .i64 0), .val (.int .i64 0)], .val (.int .i64 0)] (by omega) ?_
 simp only [push_cast, seval, ↓reduceIte, Za, Try.results16, hN0, hN]
theorem Zna {a0 : (Option Zj)} {r : (Zd × Int)} {O : Objs} {n : Nat} (h : Uk a0 = some r) : GTo Try.prog 24 [(gP Zk a0)] O n (.tup [.agg (Zp r.1), .val (.int .i64 r.2)]) O n := by
 unfold Uk at h
 refine Yn Zc Try.call24 Try.func24 rfl (Nat.le_of_ble_eq_true rfl) (Nat.le_refl _) fun hU => ?_
 have hN0 : O n = none := hU.fresh _ (Nat.le_refl _)
 have hN : ∀ k, O (n + k) = none := fun k => hU.fresh _ (Nat.le_add_right _ _)
 show W _ _ _ _ ⟨8, [], [(0, (gP Zk a0))]⟩ (Z4 O n []) _
 refine Zq [0, 2] (Zb Zc [] ?_)
 simp only [push_cast, seval, ↓reduceIte, Za, hN0, hN]
 refine Zh ?_
 obtain ⟨y2, hy2, h⟩ := bC h
 refine Zb Zc [] ?_
 simp only [push_cast, seval, ↓reduceIte, Za, hN0, hN]
 refine (Zeu hy2).then ?_
 simp only [push_cast, seval, ↓reduceIte, Za, hN0, hN]
 refine Zg [2, 3] [true] ?_
 simp only [push_cast, seval, ↓reduceIte]
 refine Zt ?_
 try simp only [Zi, Zf]
 have h := Option.some.inj h; subst h
 refine Zl (.inr rfl) hU [.agg (Zp y2.1), .val (.int .i64 y2.2)] (by omega) ?_
 simp only [push_cast, seval, ↓reduceIte, Za, Try.results24, hN0, hN]
theorem J5 {a0 : Zd} {r : Int} {O : Objs} {n : Nat} (h : Y6 a0 = some r) : GTo Try.prog 25 [.agg (Zp a0)] O n (.val (.int .i64 r)) O n := by
 unfold Y6 at h
 refine Yn Zc Try.call25 Try.func25 rfl (Nat.le_of_ble_eq_true rfl) (Nat.le_refl _) fun hU => ?_
 have hN0 : O n = none := hU.fresh _ (Nat.le_refl _)
 have hN : ∀ k, O (n + k) = none := fun k => hU.fresh _ (Nat.le_add_right _ _)
 show W _ _ _ _ ⟨5, [], [(0, .agg (Zp a0))]⟩ (Z4 O n []) _
 refine Zq [1] (Zb Zc [] ?_)
 simp only [push_cast, seval, ↓reduceIte, Za, hN0, hN]
 refine Zq [2] (Zb Zc [] ?_)
 simp only [push_cast, seval, ↓reduceIte, Za, hN0, hN]
 refine Zt ?_
 try simp only [Zi, Zf]
 have h := Option.some.inj h; subst h
 refine Zl (.inr rfl) hU [.val (.int .i64 a0.kind)] (by omega) ?_
 simp only [push_cast, seval, ↓reduceIte, Za, Try.results25, hN0, hN]
theorem Xq {a0 : Zd} {r : Int} {O : Objs} {n : Nat} (h : Yp a0 = some r) : GTo Try.prog 26 [.agg (Zp a0)] O n (.val (.int .i64 r)) O n := by
 unfold Yp at h
 refine Yn Zc Try.call26 Try.func26 rfl (Nat.le_of_ble_eq_true rfl) (Nat.le_refl _) fun hU => ?_
 have hN0 : O n = none := hU.fresh _ (Nat.le_refl _)
 have hN : ∀ k, O (n + k) = none := fun k => hU.fresh _ (Nat.le_add_right _ _)
 show W _ _ _ _ ⟨10, [], [(0, .agg (Zp a0))]⟩ (Z4 O n []) _
 refine Zq [1] (Zb Zc [] ?_)
 simp only [push_cast, seval, ↓reduceIte, Za, hN0, hN]
 refine Zh ?_
 refine Zq [1, 5] (Zb Zc [] ?_)
 simp only [push_cast, seval, ↓reduceIte, Za, hN0, hN]
 refine Zr (t := (a0.kind == 1)) rfl (fun c1 => ?_) (fun c1 => ?_)
 ·replace h := Zv c1 h
  refine Zq [2] (Zb Zc [] ?_)
  simp only [push_cast, seval, ↓reduceIte, Za, hN0, hN]
  refine Zt ?_
  try simp only [Zi, Zf]
  have h := Option.some.inj h; subst h
  refine Zl (.inr rfl) hU [.val (.int .i64 a0.ptrs)] (by omega) ?_
  simp only [push_cast, seval, ↓reduceIte, Za, Try.results26, hN0, hN]
 replace h := Zu c1 h
 refine Zx ?_
 try simp only [Zi, Zf]
 refine Zg [1] [true] ?_
 simp only [push_cast, seval, ↓reduceIte]
 refine Zq [2] (Zb Zc [] ?_)
 simp only [push_cast, seval, ↓reduceIte, Za, hN0, hN]
 refine Zt ?_
 try simp only [Zi, Zf]
 have h := Option.some.inj h; subst h
 refine Zl (.inr rfl) hU [.val (.int .i64 a0.count)] (by omega) ?_
 simp only [push_cast, seval, ↓reduceIte, Za, Try.results26, hN0, hN]
theorem Zc5 {a0 : Zd} {a1 : Int} {r : (Zd × Int)} {O : Objs} {n : Nat} (h : Qr a0 a1 = some r) : GTo Try.prog 20 [.agg (Zp a0), .val (.int .i64 a1)] O n (.tup [.agg (Zp r.1), .val (.int .i64 r.2)]) O n := by
 unfold Qr at h
 refine Yn Zc Try.call20 Try.func20 rfl (Nat.le_of_ble_eq_true rfl) (Nat.le_refl _) fun hU => ?_
 have hN0 : O n = none := hU.fresh _ (Nat.le_refl _)
 have hN : ∀ k, O (n + k) = none := fun k => hU.fresh _ (Nat.le_add_right _ _)
 show W _ _ _ _ ⟨81, [], [(0, .agg (Zp a0)), (1, .val (.int .i64 a1))]⟩ (Z4 O n []) _
 refine Zq [1, 2, 4] (Zb Zc [] ?_)
 simp only [push_cast, seval, ↓reduceIte, Za, hN0, hN]
 refine Zh ?_
 obtain ⟨z2, hz2, h⟩ := bC h
 refine Qn (E' := ⟨81, [], [(1, .val (.int .i64 a1)), (2, .ref n 0), (4, .ref (n + 1) 0), (14, .val (.bool z2))]⟩) (O' := (Z4 O n [some ⟨false, 27, 9, 1, (Zp a0)⟩, some ⟨false, 27, 9, 1, [.val (.pointer none), .val (.int .i64 0), .val (.int .i64 0), .val (.int .i64 0), .val (.int .i64 0), .val (.int .i64 0), .val (.int .i64 0), .val (.int .i64 0), .val (.int .i64 0)]⟩])) (n0 := (n + 2)) ?_ ?_
 ·rcases Bool.eq_false_or_eq_true (decide (a1 < 0)) with c5 | c5
  ·replace hz2 := Zv c5 hz2
   refine Zb Zc [some false, some false, some false, some false] ?_
   simp only [push_cast, seval, ↓reduceIte, Za, c5, hN0, hN]
   have hz2 := Option.some.inj hz2; subst hz2
   refine And.intro rfl (Fit2.of (Zs hU rfl rfl ?_) (by omega))
   simp only [push_cast, seval, ↓reduceIte, Za, c5, hN0, hN]
  replace hz2 := Zu c5 hz2
  obtain ⟨y4, hy4, hz2⟩ := bC hz2
  refine Zb Zc [some true, some true, some true, some true] ?_
  simp only [push_cast, seval, ↓reduceIte, Za, c5, hN0, hN]
  refine (Xq hy4).then ?_
  simp only [push_cast, seval, ↓reduceIte, Za, c5, hN0, hN]
  have hz2 := Option.some.inj hz2; subst hz2
  refine And.intro rfl (Fit2.of (Zs hU rfl rfl ?_) (by omega))
  simp only [push_cast, seval, ↓reduceIte, Za, c5, hN0, hN]
 refine Zr (t := z2) rfl (fun c13 => ?_) (fun c13 => ?_)
 ·replace h := Zv c13 h
  refine Zh ?_
  refine Zb Zc [] ?_
  simp only [push_cast, seval, ↓reduceIte, Za, hN0, hN]
  refine Zg [4, 5] [false, true] ?_
  simp only [push_cast, seval, ↓reduceIte]
  refine Zt ?_
  try simp only [Zi, Zf]
  have h := Option.some.inj h; subst h
  refine Zl (.inr rfl) hU [.agg [.val (.pointer none), .val (.int .i64 0), .val (.int .i64 0), .val (.int .i64 0), .val (.int .i64 0), .val (.int .i64 0), .val (.int .i64 0), .val (.int .i64 0), .val (.int .i64 0)], .val (.int .i64 0)] (by omega) ?_
  simp only [push_cast, seval, ↓reduceIte, Za, Try.results20, hN0, hN]
 replace h := Zu c13 h
 refine Zx ?_
 try simp only [Zi, Zf]
 refine Zg [1, 2, 4] [true, true] ?_
 simp only [push_cast, seval, ↓reduceIte]
 refine Zh ?_
 refine Zq [1, 2, 4, 17] (Zb Zc [] ?_)
 simp only [push_cast, seval, ↓reduceIte, Za, hN0, hN]
 refine Xc ?_
 refine Zq [1, 2, 4, 17, 18] (Zb Zc [] ?_)
 simp only [push_cast, seval, ↓reduceIte, Za, hN0, hN]
 refine Zr (t := (a0.kind == 1)) rfl (fun c12 => ?_) (fun c12 => ?_)
 ·replace h := Zv c12 h
  refine Zh ?_
  obtain ⟨y7, hy7, h⟩ := bC h
  refine Zb Zc [] ?_
  simp only [push_cast, seval, ↓reduceIte, Za, hN0, hN]
  refine (Zeu hy7).then ?_
  simp only [push_cast, seval, ↓reduceIte, Za, hN0, hN]
  refine Zg [4, 5] [false, true] ?_
  simp only [push_cast, seval, ↓reduceIte]
  refine Zt ?_
  try simp only [Zi, Zf]
  have h := Option.some.inj h; subst h
  refine Zl (.inr rfl) hU [.agg (Zp y7.1), .val (.int .i64 y7.2)] (by omega) ?_
  simp only [push_cast, seval, ↓reduceIte, Za, Try.results20, hN0, hN]
 replace h := Zu c12 h
 refine Zq [1, 2, 4, 17, 34] (Zb Zc [] ?_)
 simp only [push_cast, seval, ↓reduceIte, Za, hN0, hN]
 refine Zr (t := (a0.kind == 8)) rfl (fun c11 => ?_) (fun c11 => ?_)
 ·replace h := Zv c11 h
  refine Zh ?_
  obtain ⟨y9, hy9, h⟩ := bC h
  refine Zb Zc [] ?_
  simp only [push_cast, seval, ↓reduceIte, Za, hN0, hN]
  refine (Zeu hy9).then ?_
  simp only [push_cast, seval, ↓reduceIte, Za, hN0, hN]
  refine Zg [4, 5] [false, true] ?_
  simp only [push_cast, seval, ↓reduceIte]
  refine Zt ?_
  try simp only [Zi, Zf]
  have h := Option.some.inj h; subst h
  refine Zl (.inr rfl) hU [.agg (Zp y9.1), .val (.int .i64 y9.2)] (by omega) ?_
  simp only [push_cast, seval, ↓reduceIte, Za, Try.results20, hN0, hN]
 replace h := Zu c11 h
 refine Zq [1, 2, 4, 47] (Zb Zc [] ?_)
 simp only [push_cast, seval, ↓reduceIte, Za, hN0, hN]
 refine Zr (t := (a0.kind == 9)) rfl (fun c10 => ?_) (fun c10 => ?_)
 ·replace h := Zv c10 h
  refine Zq [2, 4, 6] (Zb Zc [] ?_)
  simp only [push_cast, seval, ↓reduceIte, Za, hN0, hN]
  refine Zh ?_
  refine Zb Zc [] ?_
  simp only [push_cast, seval, ↓reduceIte, Za, hN0, hN]
  refine Zg [4, 5] [false, true] ?_
  simp only [push_cast, seval, ↓reduceIte]
  refine Zt ?_
  try simp only [Zi, Zf]
  have h := Option.some.inj h; subst h
  refine Zl (.inr rfl) hU [.agg [(gP Zk a0.a), .val (.int .i64 1), .val (.int .i64 a0.segment), .val (.int .i64 (IntKind.i64.wrap ((IntKind.i64.wrap (a0.at_ + 1)) + (IntKind.i64.wrap (a1 * (IntKind.i64.wrap (a0.words + a0.ptrs))))))), .val (.int .i64 a0.words), .val (.int .i64 a0.ptrs), .val (.int .i64 0), .val (.int .i64 0), .val (.int .i64 0)], .val (.int .i64 0)] (by omega) ?_
  simp only [push_cast, seval, ↓reduceIte, Za, Try.results20, hN0, hN]
 replace h := Zu c10 h
 refine Zx ?_
 try simp only [Zi, Zf]
 refine Zg [1, 2, 4] [true, true] ?_
 simp only [push_cast, seval, ↓reduceIte]
 refine Zh ?_
 refine Zb Zc [] ?_
 simp only [push_cast, seval, ↓reduceIte, Za, hN0, hN]
 refine Zg [4, 5] [false, true] ?_
 simp only [push_cast, seval, ↓reduceIte]
 refine Zt ?_
 try simp only [Zi, Zf]
 have h := Option.some.inj h; subst h
 refine Zl (.inr rfl) hU [.agg [(gP Zk a0.a), .val (.int .i64 10), .val (.int .i64 a0.segment), .val (.int .i64 a0.at_), .val (.int .i64 0), .val (.int .i64 0), .val (.int .i64 0), .val (.int .i64 (IntKind.i64.wrap (a0.kind - 2))), .val (.int .i64 a1)], .val (.int .i64 0)] (by omega) ?_
 simp only [push_cast, seval, ↓reduceIte, Za, Try.results20, hN0, hN]
theorem Zhz {a0 : Zd} {r : Int} {O : Objs} {n : Nat} (h : J3 a0 = some r) : GTo Try.prog 53 [.agg (Zp a0)] O n (.val (.int .i64 r)) O n := by
 unfold J3 at h
 refine Yn Zc Try.call53 Try.func53 rfl (Nat.le_of_ble_eq_true rfl) (Nat.le_refl _) fun hU => ?_
 have hN0 : O n = none := hU.fresh _ (Nat.le_refl _)
 have hN : ∀ k, O (n + k) = none := fun k => hU.fresh _ (Nat.le_add_right _ _)
 show W _ _ _ _ ⟨11, [], [(0, .agg (Zp a0))]⟩ (Z4 O n []) _
 refine Zq [1] (Zb Zc [] ?_)
 simp only [push_cast, seval, ↓reduceIte, Za, hN0, hN]
 refine Zh ?_
 refine Zq [1, 4] (Zb Zc [] ?_)
 simp only [push_cast, seval, ↓reduceIte, Za, hN0, hN]
 refine Xc ?_
 refine Zq [1, 4, 5] (Zb Zc [] ?_)
 simp only [push_cast, seval, ↓reduceIte, Za, hN0, hN]
 refine Zr (t := (a0.kind == 1)) rfl (fun c2 => ?_) (fun c2 => ?_)
 ·replace h := Zv c2 h
  refine Zq [2] (Zb Zc [] ?_)
  simp only [push_cast, seval, ↓reduceIte, Za, hN0, hN]
  refine Zt ?_
  try simp only [Zi, Zf]
  have h := Option.some.inj h; subst h
  refine Zl (.inr rfl) hU [.val (.int .i64 a0.words)] (by omega) ?_
  simp only [push_cast, seval, ↓reduceIte, Za, Try.results53, hN0, hN]
 replace h := Zu c2 h
 refine Zq [9] (Zb Zc [] ?_)
 simp only [push_cast, seval, ↓reduceIte, Za, hN0, hN]
 refine Zr (t := (a0.kind == 10)) rfl (fun c1 => ?_) (fun c1 => ?_)
 ·replace h := Zv c1 h
  refine Zq [2] (Zb Zc [] ?_)
  simp only [push_cast, seval, ↓reduceIte, Za, hN0, hN]
  refine Zt ?_
  try simp only [Zi, Zf]
  have h := Option.some.inj h; subst h
  refine Zl (.inr rfl) hU [.val (.int .i64 1)] (by omega) ?_
  simp only [push_cast, seval, ↓reduceIte, Za, Try.results53, hN0, hN]
 replace h := Zu c1 h
 refine Zx ?_
 try simp only [Zi, Zf]
 refine Zg [] [false] ?_
 simp only [push_cast, seval, ↓reduceIte]
 refine Zq [2] (Zb Zc [] ?_)
 simp only [push_cast, seval, ↓reduceIte, Za, hN0, hN]
 refine Zt ?_
 try simp only [Zi, Zf]
 have h := Option.some.inj h; subst h
 refine Zl (.inr rfl) hU [.val (.int .i64 0)] (by omega) ?_
 simp only [push_cast, seval, ↓reduceIte, Za, Try.results53, hN0, hN]
end Go.Proofs.Ytmlhokaflhlhbaa
