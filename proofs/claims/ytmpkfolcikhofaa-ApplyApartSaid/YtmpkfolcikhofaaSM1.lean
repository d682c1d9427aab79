/- Part SM1 of this seat's mirrors: functions of the seat's program, and the plain functions that they are; each theorem bears its own conditions. -/
import Derived.Test.YtmpkfolcikhofaaSE
namespace Go.Proofs.Ytmpkfolcikhofaa
open Go.RowKit
set_option linter.unusedVariables false
set_option linter.unusedSimpArgs false
set_option maxRecDepth 100000
set_option maxHeartbeats 1000000
attribute [local push_cast] Zh Vi Ym Ze Q8 Zkx Zkw Zlf Zle Zk Zg Zhq Zdh Zdg onW Y7 Zaw Zae Zk1 Zj1 Zey evS wok X0 Op.operands Call.operands gop onK onP atK List.all_cons List.all_nil Bool.and_true Bool.true_and Bool.and_self Value.oneCell' List.take_zero List.take_succ_cons List.take_nil List.drop_zero List.drop_succ_cons List.drop_nil List.append_nil Nat.add_zero Nat.zero_add Vh Yb ev Qf Zj0 Zsv Zn4 Zn3 Zs0 Ze3 Zah Zep Zao Zfl Zcv K6 Zhr Zdi Uw Zeq Ux Zgf Ze2 Zpa bLo bHi bMx Zai Zge Zsw Ze1 Zg0 Zb3 Vt Zns Zs1 Zen Zs4 Zag Zuc Qe Zgh gone Zia Zdy Zdx pop TK.isAgg G.one G.under G.unders List.getD_cons_zero List.getD_cons_succ List.set_cons_zero List.set_cons_succ List.map_cons List.map_nil List.toList_toArray Array.toList_append Option.toArray_none Option.toArray_some Array.toList_map Option.map_some Option.map_none Option.bind_some Option.bind_none List.getElem?_cons_zero List.getElem?_cons_succ List.getElem?_nil List.nil_append List.cons_append List.replicate_succ List.replicate_zero List.length_cons List.length_nil and_true true_and and_false false_and Bool.true_eq_false Bool.false_eq_true forall_const false_implies implies_true IntKind.bits if_true if_false ite_true ite_false eq_self true_implies false_or or_false or_true true_or not_true_eq_false not_false_eq_true decide_true decide_false decide_eq_true_eq decide_eq_false_iff_not beq_iff_eq bne_iff_ne ne_eq Bool.not_eq_true Bool.not_eq_false beq_eq_false_iff_ne bne_eq_false_iff_eq beq_self_eq_true bne_self_eq_false Option.some.injEq exists_eq_left' exists_eq_left ge_iff_le gt_iff_lt decide_not Bool.not_true Bool.not_false imp_self Zpc cond_true cond_false Zzc Zzb Bool.not_not Bool.and_false Bool.false_and Bool.or_true Bool.true_or Bool.or_false Bool.false_or Zad Zgd Zc3 Zb5 Vn Q7 Option.join_some Nat.add_assoc Int.toNat_natCast eI eB eS eL Za7 Zc8 Zcd Zk0 Zky Zkz Zup Zwz Zdb Zcl Zlm Zlk Zll Zrq Zhp Zo4 Zif Zo3 Zbq Zm8 List.length_append G.agg.injEq G.row.injEq G.ref.injEq G.val.injEq G.sl.injEq G.tup.injEq Value.int.injEq Value.bool.injEq Value.string.injEq List.cons.injEq exists_and_left exists_const List.flatten_cons List.flatten_nil Int.le_refl Nat.le_refl Zam Xx K1 Bool.not_eq_true' Bool.not_eq_false' Zm0 Zga Zra Zrg Zq9 Zrf Zwc Zv8 List.size_toArray Zlp Zlq G.ren G.rens Zn9 Zcy Zls Zkr Zks Zih Zrh Zcx G.fn.injEq Zja Zjb Zmz Zv9 Zi9 Zrd Zwb Zwa Zrc Zpi Zuh Option.join_none Yp Kv undef Zg1 Arr.len Arr.put_eq Zda Zfv Zdt Zck Zlj Zlh Zli onB Zuo Znq Zig Zhd Zhe Zhf Zhg Zhh Zhi Zfs Zfz Zfx Zdw Zcm Zfy Zh9 Zh8 Zh7 Zh6 Zwy Zyr Zrp Zpv V0 Zrl Zk4 Zf0 Zdv Ztj Zlu Ze0 Zgz Zbi Zf1 Zhj Zhk Zhl Zhm Zfb Zfc Zfd Zfe Zff Zfg Zfh Zca prT Zc6 Z00 Zqw Zy1 Zqx Z01 Zqy Zrs Zqz Z02 Zq0 Z03 Zq1 Z04 Zq2 Z05 Zq3 Zu5 Zlz Zu6 Zl0 Zu7 Zl1 Zu8 Zl2 Zu9 Zl3 Zva Zl4 Zvb Zl5 Zvc Zl6 Zvd Zl7 Zve Zl8 Zvf Zl9 Zvg Zgv Zqu Zab Zvh Zma V4 Zmb Zvi Zmc Zvj Zmd Zvk Zme Zvl Zmf Zvm Zmg Zvn Zmh Zvo Zmi Zvp Zmj Zvq Zmk Zlx Zml Zvr Zmm Zly Zmn Zvs Zmo Zg5 Zmp Zbp Zmq Zvt Zmr Zvu Zms Zvv Zmt Zvw Zmu Zvx Zmv Zvy Zmw Zvz Zmx Zqv Zmy Zp6 Zij Zp7 Zik Zp8 Zil Zp9 Zim Zqa Zin Zqb Zio Zkh Zf7 Zqc Zip Zqd Ziq Zqe Zir Zqf Zis Zqg Zit Zqh Ziu Zqi Ziv Zqj Ziw Zqk Zix Zql Ziy Zqm Ziz Zqn Zi0 Zqo Zi1 Zqp Zi2 Zqq Zi3 Zqr Zi4 Zqs Zi5 Zqt Zi6 Zb Ya Zei Zeh Zdk Zdr Zek Zcs Zco Zcn Zee Us Ur Ui Um Ut V5 V2 V1 Up Zm Yz Zp Zt Yv Yj Y5 Z7 J4 J0 Jo Jt J6 Q5 Q3 Q1 Jx Kt Ks Kl Kq Ku Jz Jw Jv Kr Gw Gv Gj Gr Gy U7 U6 U5 Gu J5 J3 Jp Ju J7 Q6 Q4 Q2 Jy Zgb Zf9 Zfo Zfu Zgc Zef Zd7 Zd6 Zf8
theorem Zgo {Qj : (S_api_Tree → Int → Int → Option Int)} (Zft : ∀ {a0 : S_api_Tree} {a1 : Int} {a2 : Int} {r : Int} {O : Objs} {n : Nat}, Qj a0 a1 a2 = some r → GTo Try.prog 58 [.agg (Ze a0), .val (.int .i64 a1), .val (.int .i64 a2)] O n (.val (.int .i64 r)) O n) {a0 : S_api_Tree} {a1 : Int} {a2 : Int} {r : Int} {O : Objs} {n : Nat} (h : Y9 Qj a0 a1 a2 = some r) : GTo Try.prog 58 [.agg (Ze a0), .val (.int .i64 a1), .val (.int .i64 a2)] O n (.val (.int .i64 r)) O n := by
 unfold Y9 at h
 refine Xj Zd Try.call58 Try.func58 rfl (Nat.le_of_ble_eq_true rfl) (Nat.le_refl _) fun hU => ?_
 have hN0 : O n = none := hU.fresh _ (Nat.le_refl _)
 have hN : ∀ k, O (n + k) = none := fun k => hU.fresh _ (Nat.le_add_right _ _)
 show W _ _ _ _ ⟨41, [], [(0, .agg (Ze a0)), (1, .val (.int .i64 a1)), (2, .val (.int .i64 a2))]⟩ (Zy O n []) _
 refine Zr [1, 2, 3] (Zc Zd [] ?_)
 simp only [push_cast, seval, ↓reduceIte, Za, hN0, hN]
 refine Zr [1, 2, 3] (Zc Zd [] ?_)
 simp only [push_cast, seval, ↓reduceIte, Za, hN0, hN]
 refine Zl ?_
 refine Zr [1, 2, 3, 19] (Zc Zd [none, none] ?_)
 simp only [push_cast, seval, ↓reduceIte, Za, hN0, hN]
 repeat (with_reducible refine And.intro (by first | (intro h0; simp only [h0, and_self]; done) | (intro h0; simp only [h0, Bool.not_false, Bool.not_true, Bool.true_and, Bool.and_true, true_and, and_true, and_self, imp_self, implies_true, bne_iff_ne, ne_eq, beq_iff_eq]; done) | (intros; simp_all; done) | exact True.intro) ?_)
 refine Zw (t := (cond (a1 == 0) true (decide ((IntKind.i64.wrap ((IntKind.i64.wrap (a2 - 1)) - (a0.Words.length : Int))) < 0)))) rfl (fun c5 => ?_) (fun c5 => ?_)
 ·replace h := Zv c5 h
  refine Zr [6] (Zc Zd [] ?_)
  simp only [push_cast, seval, ↓reduceIte, Za, hN0, hN]
  refine Z5 ?_
  try simp only [Zk, Zg]
  have h := Option.some.inj h; subst h
  refine Zs (.inr rfl) hU [.val (.int .i64 (-1))] (by omega) ?_
  simp only [push_cast, seval, ↓reduceIte, Za, Try.results58, hN0, hN]
 replace h := Zu c5 h
 refine Z0 ?_
 try simp only [Zk, Zg]
 refine Zi [1, 2, 3] [true] ?_
 simp only [push_cast, seval, ↓reduceIte]
 refine Zl ?_
 refine Zr [1, 2, 3, 7] (Zc Zd [] ?_)
 simp only [push_cast, seval, ↓reduceIte, Za, hN0, hN]
 refine Zi [1, 2, 3, 7] [true] ?_
 simp only [push_cast, seval, ↓reduceIte]
 obtain ⟨z4, hz4, h⟩ := bC h
 refine Yq (E' := ⟨41, [], [(2, .val (.int .i64 z4))]⟩) (O' := (Zy O n [none])) (n0 := (n + 1)) ?_ ?_
 ·refine Y6 hz4 (fun s0_ => ⟨41, [], [(1, .val (.int .i64 a1)), (2, .val (.int .i64 s0_.1)), (3, .ref n 0), (7, .val (.int .i64 s0_.2))]⟩) (fun s0_ => (Zy O n [some ⟨false, 25, 3, 1, (Ze a0)⟩])) (fun z4 => JX 0 n (⟨41, [], [(2, .val (.int .i64 z4))]⟩ : Env) (Zy O n [none]) (n + 1)) ?_
  intro s0_ x0_ hs0_
  unfold Y3 at hs0_
  try dsimp only
  refine Zl ?_
  refine Zr [1, 2, 3, 7, 28] (Zc Zd [none, none] ?_)
  simp only [push_cast, seval, ↓reduceIte, Za, hN0, hN]
  repeat (with_reducible refine And.intro (by first | (intro h0; simp only [h0, and_self]; done) | (intro h0; simp only [h0, Bool.not_false, Bool.not_true, Bool.true_and, Bool.and_true, true_and, and_true, and_self, imp_self, implies_true, bne_iff_ne, ne_eq, beq_iff_eq]; done) | (intros; simp_all; done) | exact True.intro) ?_)
  refine Zw (t := (cond (decide (s0_.2 < (a0.Kids.length : Int))) (decide (0 ≤ s0_.1)) false)) rfl (fun c3 => ?_) (fun c3 => ?_)
  ·replace hs0_ := Zv c3 hs0_
   refine Z0 ?_
   try simp only [Zk, Zg]
   refine Zi [1, 2, 3, 7] [true] ?_
   simp only [push_cast, seval, ↓reduceIte]
   refine Zl ?_
   refine Yr ?_
   obtain ⟨x1, hx1, ax1, bx1, cx1, hs0_⟩ := bE (f := Zb) V4 (fun _ => rfl) (by decide) hs0_
   obtain ⟨y2, hy2, hs0_⟩ := bC hs0_
   refine Zc Zd [] ?_
   simp only [push_cast, Nat.reduceAdd, Nat.reduceSub, Nat.reduceMul, Nat.reduceLeDiff, Nat.reduceLT, Nat.reduceEqDiff, ↓reduceIte, reduceCtorEq, Int.reduceBEq, Int.reduceBNe, Nat.reduceBEq, Int.reduceLE, Int.reduceLT, Int.reduceEq, Int.reduceNe, Int.reduceNeg, Nat.reduceDiv, Nat.reduceMod, Nat.reducePow, Za, ax1, bx1, cx1, hN0, hN]
   refine (Zft hy2).then ?_
   simp only [push_cast, Nat.reduceAdd, Nat.reduceSub, Nat.reduceMul, Nat.reduceLeDiff, Nat.reduceLT, Nat.reduceEqDiff, ↓reduceIte, reduceCtorEq, Int.reduceBEq, Int.reduceBNe, Nat.reduceBEq, Int.reduceLE, Int.reduceLT, Int.reduceEq, Int.reduceNe, Int.reduceNeg, Nat.reduceDiv, Nat.reduceMod, Nat.reducePow, Za, ax1, bx1, cx1, hN0, hN]
   refine Zi [1, 2, 3, 7] [true] ?_
   simp only [push_cast, seval, ↓reduceIte]
   refine Zc Zd [] ?_
   simp only [push_cast, seval, ↓reduceIte, Za, hN0, hN]
   have hs0_ := Option.some.inj hs0_; subst hs0_
   refine And.intro rfl (Fit2.of (Zj hU rfl rfl ?_) (by omega))
   simp only [push_cast, seval, ↓reduceIte, Za, hN0, hN]
  replace hs0_ := Zu c3 hs0_
  refine Qd ?_
  try simp only [Zk, Zg, ↓reduceIte, Nat.reduceEqDiff]
  have hs0_ := Option.some.inj hs0_; subst hs0_
  refine And.intro (fun h => by cases h) (And.intro rfl (Fit2.of (Zj hU rfl rfl ?_) (by omega)))
  simp only [push_cast, seval, ↓reduceIte, Za, hN0, hN]
 try simp only [Zk, Zg, ↓reduceIte, Nat.reduceEqDiff]
 refine Zi [2] [false] ?_
 simp only [push_cast, seval, ↓reduceIte]
 refine Zr [6] (Zc Zd [] ?_)
 simp only [push_cast, seval, ↓reduceIte, Za, hN0, hN]
 refine Z5 ?_
 try simp only [Zk, Zg]
 have h := Option.some.inj h; subst h
 refine Zs (.inr rfl) hU [.val (.int .i64 z4)] (by omega) ?_
 simp only [push_cast, seval, ↓reduceIte, Za, Try.results58, hN0, hN]
theorem Ze4 : ∀ k, (∀ {a0 : S_api_Tree} {a1 : Int} {a2 : Int} {r : Int} {O : Objs} {n : Nat}, (Ye k) a0 a1 a2 = some r → GTo Try.prog 58 [.agg (Ze a0), .val (.int .i64 a1), .val (.int .i64 a2)] O n (.val (.int .i64 r)) O n) := fun k => by
 induction k with
 | zero => exact @fun a0 a1 a2 r O n h => (nomatch (show (none : Option _) = some _ from h))
 | succ k ih => exact @fun a0 a1 a2 r O n h => Zgo (ih)  h
theorem Vg {a0 : S_api_Tree} {a1 : Int} {a2 : Int} {r : Int} {O : Objs} {n : Nat} (h : Xb a0 a1 a2 = some r) : GTo Try.prog 58 [.agg (Ze a0), .val (.int .i64 a1), .val (.int .i64 a2)] O n (.val (.int .i64 r)) O n := by
 obtain ⟨k, hk⟩ := Gk h
 exact (Ze4 k)  hk
theorem Zeu {a0 : S_api_Tree} {r : Bool} {O : Objs} {n : Nat} (h : Uk a0 = some r) : GTo Try.prog 15 [.agg (Ze a0)] O n (.val (.bool r)) O n := by
 unfold Uk at h
 refine Xj Zd Try.call15 Try.func15 rfl (Nat.le_of_ble_eq_true rfl) (Nat.le_refl _) fun hU => ?_
 have hN0 : O n = none := hU.fresh _ (Nat.le_refl _)
 have hN : ∀ k, O (n + k) = none := fun k => hU.fresh _ (Nat.le_add_right _ _)
 show W _ _ _ _ ⟨6, [], [(0, .agg (Ze a0))]⟩ (Zy O n []) _
 refine Zr [1] (Zc Zd [] ?_)
 simp only [push_cast, seval, ↓reduceIte, Za, hN0, hN]
 refine Zl ?_
 obtain ⟨y2, hy2, h⟩ := bC h
 refine Zc Zd [] ?_
 simp only [push_cast, seval, ↓reduceIte, Za, hN0, hN]
 refine (Vg hy2).then ?_
 simp only [push_cast, seval, ↓reduceIte, Za, hN0, hN]
 refine Zi [2] [false] ?_
 simp only [push_cast, seval, ↓reduceIte]
 refine Z5 ?_
 try simp only [Zk, Zg]
 have h := Option.some.inj h; subst h
 refine Zs (.inr rfl) hU [.val (.bool (decide (0 ≤ y2)))] (by omega) ?_
 simp only [push_cast, seval, ↓reduceIte, Za, Try.results15, hN0, hN]
theorem Zjo {a0 : Int} {r : Int} {O : Objs} {n : Nat} (h : Zaq a0 = some r) : GTo Try.prog 92 [.val (.int .i64 a0)] O n (.val (.int .i64 r)) O n := by
 unfold Zaq at h
 refine Xj Zd Try.call92 Try.func92 rfl (Nat.le_of_ble_eq_true rfl) (Nat.le_refl _) fun hU => ?_
 have hN0 : O n = none := hU.fresh _ (Nat.le_refl _)
 have hN : ∀ k, O (n + k) = none := fun k => hU.fresh _ (Nat.le_add_right _ _)
 show W _ _ _ _ ⟨16, [], [(0, .val (.int .i64 a0))]⟩ (Zy O n []) _
 refine Zr [0] (Zc Zd [] ?_)
 simp only [push_cast, seval, ↓reduceIte, Za, hN0, hN]
 refine Zl ?_
 refine Zr [3] (Zc Zd [] ?_)
 simp only [push_cast, seval, ↓reduceIte, Za, hN0, hN]
 refine Yr ?_
 refine Zr [3, 4] (Zc Zd [] ?_)
 simp only [push_cast, seval, ↓reduceIte, Za, hN0, hN]
 refine Zw (t := (a0 == 0)) rfl (fun c6 => ?_) (fun c6 => ?_)
 ·replace h := Zv c6 h
  refine Zr [2] (Zc Zd [] ?_)
  simp only [push_cast, seval, ↓reduceIte, Za, hN0, hN]
  refine Z5 ?_
  try simp only [Zk, Zg]
  have h := Option.some.inj h; subst h
  refine Zs (.inr rfl) hU [.val (.int .i64 0)] (by omega) ?_
  simp only [push_cast, seval, ↓reduceIte, Za, Try.results92, hN0, hN]
 replace h := Zu c6 h
 refine Zr [3, 6] (Zc Zd [] ?_)
 simp only [push_cast, seval, ↓reduceIte, Za, hN0, hN]
 refine Zw (t := (a0 == 1)) rfl (fun c5 => ?_) (fun c5 => ?_)
 ·replace h := Zv c5 h
  refine Zr [2] (Zc Zd [] ?_)
  simp only [push_cast, seval, ↓reduceIte, Za, hN0, hN]
  refine Z5 ?_
  try simp only [Zk, Zg]
  have h := Option.some.inj h; subst h
  refine Zs (.inr rfl) hU [.val (.int .i64 1)] (by omega) ?_
  simp only [push_cast, seval, ↓reduceIte, Za, Try.results92, hN0, hN]
 replace h := Zu c5 h
 refine Zr [3, 8] (Zc Zd [] ?_)
 simp only [push_cast, seval, ↓reduceIte, Za, hN0, hN]
 refine Zw (t := (a0 == 2)) rfl (fun c4 => ?_) (fun c4 => ?_)
 ·replace h := Zv c4 h
  refine Zr [2] (Zc Zd [] ?_)
  simp only [push_cast, seval, ↓reduceIte, Za, hN0, hN]
  refine Z5 ?_
  try simp only [Zk, Zg]
  have h := Option.some.inj h; subst h
  refine Zs (.inr rfl) hU [.val (.int .i64 8)] (by omega) ?_
  simp only [push_cast, seval, ↓reduceIte, Za, Try.results92, hN0, hN]
 replace h := Zu c4 h
 refine Zr [3, 10] (Zc Zd [] ?_)
 simp only [push_cast, seval, ↓reduceIte, Za, hN0, hN]
 refine Zw (t := (a0 == 3)) rfl (fun c3 => ?_) (fun c3 => ?_)
 ·replace h := Zv c3 h
  refine Zr [2] (Zc Zd [] ?_)
  simp only [push_cast, seval, ↓reduceIte, Za, hN0, hN]
  refine Z5 ?_
  try simp only [Zk, Zg]
  have h := Option.some.inj h; subst h
  refine Zs (.inr rfl) hU [.val (.int .i64 16)] (by omega) ?_
  simp only [push_cast, seval, ↓reduceIte, Za, Try.results92, hN0, hN]
 replace h := Zu c3 h
 refine Zr [3, 12] (Zc Zd [] ?_)
 simp only [push_cast, seval, ↓reduceIte, Za, hN0, hN]
 refine Zw (t := (a0 == 4)) rfl (fun c2 => ?_) (fun c2 => ?_)
 ·replace h := Zv c2 h
  refine Zr [2] (Zc Zd [] ?_)
  simp only [push_cast, seval, ↓reduceIte, Za, hN0, hN]
  refine Z5 ?_
  try simp only [Zk, Zg]
  have h := Option.some.inj h; subst h
  refine Zs (.inr rfl) hU [.val (.int .i64 32)] (by omega) ?_
  simp only [push_cast, seval, ↓reduceIte, Za, Try.results92, hN0, hN]
 replace h := Zu c2 h
 refine Zr [14] (Zc Zd [] ?_)
 simp only [push_cast, seval, ↓reduceIte, Za, hN0, hN]
 refine Zw (t := (a0 == 5)) rfl (fun c1 => ?_) (fun c1 => ?_)
 ·replace h := Zv c1 h
  refine Zr [2] (Zc Zd [] ?_)
  simp only [push_cast, seval, ↓reduceIte, Za, hN0, hN]
  refine Z5 ?_
  try simp only [Zk, Zg]
  have h := Option.some.inj h; subst h
  refine Zs (.inr rfl) hU [.val (.int .i64 64)] (by omega) ?_
  simp only [push_cast, seval, ↓reduceIte, Za, Try.results92, hN0, hN]
 replace h := Zu c1 h
 refine Z0 ?_
 try simp only [Zk, Zg]
 refine Zi [] [] ?_
 simp only [push_cast, seval, ↓reduceIte]
 refine Zr [2] (Zc Zd [] ?_)
 simp only [push_cast, seval, ↓reduceIte, Za, hN0, hN]
 refine Z5 ?_
 try simp only [Zk, Zg]
 have h := Option.some.inj h; subst h
 refine Zs (.inr rfl) hU [.val (.int .i64 (-1))] (by omega) ?_
 simp only [push_cast, seval, ↓reduceIte, Za, Try.results92, hN0, hN]
theorem Zdn {a0 : Int} {a1 : Int} {r : Bool} {O : Objs} {n : Nat} (h : Kb a0 a1 = some r) : GTo Try.prog 61 [.val (.int .i64 a0), .val (.int .u64 a1)] O n (.val (.bool r)) O n := by
 unfold Kb at h
 refine Xj Zd Try.call61 Try.func61 rfl (Nat.le_of_ble_eq_true rfl) (Nat.le_refl _) fun hU => ?_
 have hN0 : O n = none := hU.fresh _ (Nat.le_refl _)
 have hN : ∀ k, O (n + k) = none := fun k => hU.fresh _ (Nat.le_add_right _ _)
 show W _ _ _ _ ⟨20, [], [(0, .val (.int .i64 a0)), (1, .val (.int .u64 a1))]⟩ (Zy O n []) _
 refine Zr [0, 1] (Zc Zd [] ?_)
 simp only [push_cast, seval, ↓reduceIte, Za, hN0, hN]
 refine Zl ?_
 obtain ⟨y2, hy2, h⟩ := bC h
 refine Zc Zd [] ?_
 simp only [push_cast, seval, ↓reduceIte, Za, hN0, hN]
 refine (Zjo hy2).then ?_
 simp only [push_cast, seval, ↓reduceIte, Za, hN0, hN]
 refine Zi [1, 5] [] ?_
 simp only [push_cast, seval, ↓reduceIte]
 refine Zl ?_
 refine Zr [1, 5, 10] (Zc Zd [] ?_)
 simp only [push_cast, seval, ↓reduceIte, Za, hN0, hN]
 refine Zw (t := (decide (y2 < 0))) rfl (fun c5 => ?_) (fun c5 => ?_)
 ·replace h := Zv c5 h
  refine Zr [4] (Zc Zd [] ?_)
  simp only [push_cast, seval, ↓reduceIte, Za, hN0, hN]
  refine Z5 ?_
  try simp only [Zk, Zg]
  have h := Option.some.inj h; subst h
  refine Zs (.inr rfl) hU [.val (.bool false)] (by omega) ?_
  simp only [push_cast, seval, ↓reduceIte, Za, Try.results61, hN0, hN]
 replace h := Zu c5 h
 refine Z0 ?_
 try simp only [Zk, Zg]
 refine Zi [1, 5] [] ?_
 simp only [push_cast, seval, ↓reduceIte]
 refine Zl ?_
 refine Zr [1, 5, 6] (Zc Zd [] ?_)
 simp only [push_cast, seval, ↓reduceIte, Za, hN0, hN]
 refine Zi [1, 5, 6] [] ?_
 simp only [push_cast, seval, ↓reduceIte]
 obtain ⟨z4, hz4, h⟩ := bC h
 refine Yq (E' := ⟨20, [], [(1, .val (.int .u64 z4))]⟩) (O' := (Zy O n [])) (n0 := n) ?_ ?_
 ·refine Y6 hz4 (fun s0_ => ⟨20, [], [(1, .val (.int .u64 s0_.1)), (5, .val (.int .i64 y2)), (6, .val (.int .i64 s0_.2))]⟩) (fun s0_ => (Zy O n [])) (fun z4 => JX 0 n (⟨20, [], [(1, .val (.int .u64 z4))]⟩ : Env) (Zy O n []) n) ?_
  intro s0_ x0_ hs0_
  unfold Xa at hs0_
  try dsimp only
  refine Zl ?_
  refine Zr [1, 5, 6, 13] (Zc Zd [] ?_)
  simp only [push_cast, seval, ↓reduceIte, Za, hN0, hN]
  refine Zw (t := (decide (s0_.2 < y2))) rfl (fun c3 => ?_) (fun c3 => ?_)
  ·replace hs0_ := Zv c3 hs0_
   refine Z0 ?_
   try simp only [Zk, Zg]
   refine Zi [1, 5, 6] [] ?_
   simp only [push_cast, seval, ↓reduceIte]
   refine Zl ?_
   refine Yr ?_
   refine Zc Zd [] ?_
   simp only [push_cast, seval, ↓reduceIte, Za, hN0, hN]
   refine Zi [1, 5, 6] [] ?_
   simp only [push_cast, seval, ↓reduceIte]
   refine Zc Zd [] ?_
   simp only [push_cast, seval, ↓reduceIte, Za, hN0, hN]
   have hs0_ := Option.some.inj hs0_; subst hs0_
   refine And.intro rfl (Fit2.of (Zj hU rfl rfl ?_) (by omega))
   simp only [push_cast, seval, ↓reduceIte, Za, hN0, hN]
  replace hs0_ := Zu c3 hs0_
  refine Qd ?_
  try simp only [Zk, Zg, ↓reduceIte, Nat.reduceEqDiff]
  have hs0_ := Option.some.inj hs0_; subst hs0_
  refine And.intro (fun h => by cases h) (And.intro rfl (Fit2.of (Zj hU rfl rfl ?_) (by omega)))
  simp only [push_cast, seval, ↓reduceIte, Za, hN0, hN]
 try simp only [Zk, Zg, ↓reduceIte, Nat.reduceEqDiff]
 refine Zi [1] [] ?_
 simp only [push_cast, seval, ↓reduceIte]
 refine Zr [4] (Zc Zd [] ?_)
 simp only [push_cast, seval, ↓reduceIte, Za, hN0, hN]
 refine Z5 ?_
 try simp only [Zk, Zg]
 have h := Option.some.inj h; subst h
 refine Zs (.inr rfl) hU [.val (.bool (z4 == 0))] (by omega) ?_
 simp only [push_cast, seval, ↓reduceIte, Za, Try.results61, hN0, hN]
theorem Zh2 {Jg : (S_api_Tree → Int → Option Bool)} (Zhb : ∀ {a0 : S_api_Tree} {a1 : Int} {r : Bool} {O : Objs} {n : Nat}, Jg a0 a1 = some r → GTo Try.prog 18 [.agg (Ze a0), .val (.int .i64 a1)] O n (.val (.bool r)) O n) {a0 : S_api_Tree} {a1 : Int} {r : Bool} {O : Objs} {n : Nat} (h : K2 Jg a0 a1 = some r) : GTo Try.prog 18 [.agg (Ze a0), .val (.int .i64 a1)] O n (.val (.bool r)) O n := by
 unfold K2 at h
 refine Xj Zd Try.call18 Try.func18 rfl (Nat.le_of_ble_eq_true rfl) (Nat.le_refl _) fun hU => ?_
 have hN0 : O n = none := hU.fresh _ (Nat.le_refl _)
 have hN : ∀ k, O (n + k) = none := fun k => hU.fresh _ (Nat.le_add_right _ _)
 show W _ _ _ _ ⟨132, [], [(0, .agg (Ze a0)), (1, .val (.int .i64 a1))]⟩ (Zy O n []) _
 refine Zr [1, 2] (Zc Zd [] ?_)
 simp only [push_cast, seval, ↓reduceIte, Za, hN0, hN]
 refine Zl ?_
 refine Zr [1, 2, 10] (Zc Zd [] ?_)
 simp only [push_cast, seval, ↓reduceIte, Za, hN0, hN]
 refine Zw (t := (a0.Kind == 0)) rfl (fun c32 => ?_) (fun c32 => ?_)
 ·replace h := Zv c32 h
  refine Zr [4] (Zc Zd [none, none, none, none] ?_)
  simp only [push_cast, seval, ↓reduceIte, Za, hN0, hN]
  repeat (with_reducible refine And.intro (by first | (intro h0; simp only [h0, and_self]; done) | (intro h0; simp only [h0, Bool.not_false, Bool.not_true, Bool.true_and, Bool.and_true, true_and, and_true, and_self, imp_self, implies_true, bne_iff_ne, ne_eq, beq_iff_eq]; done) | (intros; simp_all; done) | exact True.intro) ?_)
  refine Z5 ?_
  try simp only [Zk, Zg]
  have h := Option.some.inj h; subst h
  refine Zs (.inr rfl) hU [.val (.bool (cond ((a0.Words.length : Int) == 0) ((a0.Kids.length : Int) == 0) false))] (by omega) ?_
  simp only [push_cast, seval, ↓reduceIte, Za, Try.results18, hN0, hN]
 replace h := Zu c32 h
 refine Z0 ?_
 try simp only [Zk, Zg]
 refine Zi [1, 2] [true] ?_
 simp only [push_cast, seval, ↓reduceIte]
 refine Zl ?_
 refine Zr [1, 2, 23] (Zc Zd [] ?_)
 simp only [push_cast, seval, ↓reduceIte, Za, hN0, hN]
 refine Zw (t := (a0.Kind == 10)) rfl (fun c31 => ?_) (fun c31 => ?_)
 ·replace h := Zv c31 h
  refine Zr [4] (Zc Zd [none, none, none, none] ?_)
  simp only [push_cast, seval, ↓reduceIte, Za, hN0, hN]
  repeat (with_reducible refine And.intro (by first | (intro h0; simp only [h0, and_self]; done) | (intro h0; simp only [h0, Bool.not_false, Bool.not_true, Bool.true_and, Bool.and_true, true_and, and_true, and_self, imp_self, implies_true, bne_iff_ne, ne_eq, beq_iff_eq]; done) | (intros; simp_all; done) | exact True.intro) ?_)
  refine Z5 ?_
  try simp only [Zk, Zg]
  have h := Option.some.inj h; subst h
  refine Zs (.inr rfl) hU [.val (.bool (cond ((a0.Words.length : Int) == 1) ((a0.Kids.length : Int) == 0) false))] (by omega) ?_
  simp only [push_cast, seval, ↓reduceIte, Za, Try.results18, hN0, hN]
 replace h := Zu c31 h
 refine Z0 ?_
 try simp only [Zk, Zg]
 refine Zi [1, 2] [true] ?_
 simp only [push_cast, seval, ↓reduceIte]
 refine Zl ?_
 refine Zr [1, 2, 68] (Zc Zd [none, none, none, none, none, none, none, none, none, none, none, none, none, none, none, none, none, none, none, none, none, none] ?_)
 simp only [push_cast, seval, ↓reduceIte, Za, hN0, hN]
 repeat (with_reducible refine And.intro (by first | (intro h0; simp only [h0, and_self]; done) | (intro h0; simp only [h0, Bool.not_false, Bool.not_true, Bool.true_and, Bool.and_true, true_and, and_true, and_self, imp_self, implies_true, bne_iff_ne, ne_eq, beq_iff_eq]; done) | (intros; simp_all; done) | exact True.intro) ?_)
 refine Zw (t := (cond (cond (cond (cond (cond (decide (a0.Kind < 0)) true (decide (10 < a0.Kind))) true (a1 == 0)) true (decide (65536 ≤ (a0.Words.length : Int)))) true (cond (a0.Kind == 1) (decide (65536 ≤ (a0.Kids.length : Int))) false)) true (decide (1048576 ≤ (a0.Kids.length : Int))))) rfl (fun c30 => ?_) (fun c30 => ?_)
 ·replace h := Zv c30 h
  refine Zr [4] (Zc Zd [] ?_)
  simp only [push_cast, seval, ↓reduceIte, Za, hN0, hN]
  refine Z5 ?_
  try simp only [Zk, Zg]
  have h := Option.some.inj h; subst h
  refine Zs (.inr rfl) hU [.val (.bool false)] (by omega) ?_
  simp only [push_cast, seval, ↓reduceIte, Za, Try.results18, hN0, hN]
 replace h := Zu c30 h
 refine Z0 ?_
 try simp only [Zk, Zg]
 refine Zi [1, 2] [true] ?_
 simp only [push_cast, seval, ↓reduceIte]
 refine Zl ?_
 refine Zr [1, 2, 77] (Zc Zd [none, none, none, none] ?_)
 simp only [push_cast, seval, ↓reduceIte, Za, hN0, hN]
 repeat (with_reducible refine And.intro (by first | (intro h0; simp only [h0, and_self]; done) | (intro h0; simp only [h0, Bool.not_false, Bool.not_true, Bool.true_and, Bool.and_true, true_and, and_true, and_self, imp_self, implies_true, bne_iff_ne, ne_eq, beq_iff_eq]; done) | (intros; simp_all; done) | exact True.intro) ?_)
 refine Zw (t := (cond (decide (1 < a0.Kind)) (decide (0 < (a0.Words.length : Int))) false)) rfl (fun c29 => ?_) (fun c29 => ?_)
 ·replace h := Zv c29 h
  refine Zr [4] (Zc Zd [] ?_)
  simp only [push_cast, seval, ↓reduceIte, Za, hN0, hN]
  refine Z5 ?_
  try simp only [Zk, Zg]
  have h := Option.some.inj h; subst h
  refine Zs (.inr rfl) hU [.val (.bool false)] (by omega) ?_
  simp only [push_cast, seval, ↓reduceIte, Za, Try.results18, hN0, hN]
 replace h := Zu c29 h
 refine Z0 ?_
 try simp only [Zk, Zg]
 refine Zi [1, 2] [true] ?_
 simp only [push_cast, seval, ↓reduceIte]
 refine Zl ?_
 refine Zr [1, 2, 5] (Zc Zd [] ?_)
 simp only [push_cast, seval, ↓reduceIte, Za, hN0, hN]
 refine Zi [1, 2, 5] [true] ?_
 simp only [push_cast, seval, ↓reduceIte]
 obtain ⟨z28, hz28, h⟩ := bC h
 refine Za3 (J := (Qv (fun z28 => JR n (⟨132, [], [(4, .val (.bool false))]⟩ : Env) (Zy O n [none]) (n + 1)) (fun z28 => JX 0 n (⟨132, [], []⟩ : Env) (Zy O n [none]) (n + 1)))) (z := z28) ?_ fun hw => ?_
 ·refine Y6 hz28 (fun s0_ => ⟨132, [], [(1, .val (.int .i64 a1)), (2, .ref n 0), (5, .val (.int .i64 s0_))]⟩) (fun s0_ => (Zy O n [some ⟨false, 25, 3, 1, (Ze a0)⟩])) (Qv (fun z28 => JR n (⟨132, [], [(4, .val (.bool false))]⟩ : Env) (Zy O n [none]) (n + 1)) (fun z28 => JX 0 n (⟨132, [], []⟩ : Env) (Zy O n [none]) (n + 1))) ?_
  intro s0_ x0_ hs0_
  unfold Qw at hs0_
  try dsimp only
  refine Zl ?_
  refine Zr [1, 2, 5, 82] (Zc Zd [] ?_)
  simp only [push_cast, seval, ↓reduceIte, Za, hN0, hN]
  refine Zw (t := (decide (s0_ < (a0.Kids.length : Int)))) rfl (fun c27 => ?_) (fun c27 => ?_)
  ·replace hs0_ := Zv c27 hs0_
   refine Z0 ?_
   try simp only [Zk, Zg]
   refine Zi [1, 2, 5] [true] ?_
   simp only [push_cast, seval, ↓reduceIte]
   refine Zl ?_
   refine Yr ?_
   refine Zl ?_
   obtain ⟨x2, hx2, ax2, bx2, cx2, hs0_⟩ := bE (f := Zb) V4 (fun _ => rfl) (by decide) hs0_
   refine Zc Zd [] ?_
   simp only [push_cast, Nat.reduceAdd, Nat.reduceSub, Nat.reduceMul, Nat.reduceLeDiff, Nat.reduceLT, Nat.reduceEqDiff, ↓reduceIte, reduceCtorEq, Int.reduceBEq, Int.reduceBNe, Nat.reduceBEq, Int.reduceLE, Int.reduceLT, Int.reduceEq, Int.reduceNe, Int.reduceNeg, Nat.reduceDiv, Nat.reduceMod, Nat.reducePow, Za, ax2, bx2, cx2, hN0, hN]
   refine Zi [1, 2, 5, 6] [true, true] ?_
   simp only [push_cast, seval, ↓reduceIte]
   refine Zl ?_
   refine Zl ?_
   obtain ⟨y4, hy4, hs0_⟩ := bC hs0_
   refine Zc Zd [] ?_
   simp only [push_cast, seval, ↓reduceIte, Za, hN0, hN]
   refine (Zhb hy4).then ?_
   simp only [push_cast, seval, ↓reduceIte, Za, hN0, hN]
   refine Zi [1, 2, 5, 6, 94] [true, true] ?_
   simp only [push_cast, seval, ↓reduceIte]
   refine Zw (t := (!y4)) rfl (fun c26 => ?_) (fun c26 => ?_)
   ·replace hs0_ := Zv c26 hs0_
    refine Zr [4] (Zc Zd [] ?_)
    simp only [push_cast, seval, ↓reduceIte, Za, hN0, hN]
    refine Z5 ?_
    try simp only [Zk, Zg]
    have hs0_ := Option.some.inj hs0_; subst hs0_
    refine And.intro (fun h => by cases h) (And.intro rfl (Fit2.of (Zj hU rfl rfl ?_) (by omega)))
    simp only [push_cast, seval, ↓reduceIte, Za, hN0, hN]
   replace hs0_ := Zu c26 hs0_
   refine Z0 ?_
   try simp only [Zk, Zg]
   refine Zi [1, 2, 5, 6] [true, true] ?_
   simp only [push_cast, seval, ↓reduceIte]
   refine Zr [1, 2, 5, 6, 7] (Zc Zd [none, none, none] ?_)
   simp only [push_cast, seval, ↓reduceIte, Za, hN0, hN]
   repeat (with_reducible refine And.intro (by first | (intro h0; simp only [h0, and_self]; done) | (intro h0; simp only [h0, Bool.not_false, Bool.not_true, Bool.true_and, Bool.and_true, true_and, and_true, and_self, imp_self, implies_true, bne_iff_ne, ne_eq, beq_iff_eq]; done) | (intros; simp_all; done) | exact True.intro) ?_)
   obtain ⟨z9, hz9, hs0_⟩ := bC hs0_
   refine Xg (E' := ⟨132, [], [(1, .val (.int .i64 a1)), (2, .ref n 0), (5, .val (.int .i64 s0_)), (131, .val (.bool z9))]⟩) (O' := (Zy O n [some ⟨false, 25, 3, 1, (Ze a0)⟩, none])) (n0 := (n + 2)) ?_ ?_
   ·rcases Bool.eq_false_or_eq_true ((cond (decide (2 ≤ a0.Kind)) (decide (a0.Kind ≤ 7)) false) != (x2.Kind == 10)) with c18 | c18
    ·replace hz9 := Zv c18 hz9
     refine X4 Zd (by kernel_rfl) [none, none, none, none, none, none, none, none, some false, some false, some false, some false, some false, some false, some false, some false, some false, some false, some false, some false] (by kernel_rfl) ?_
     simp only [push_cast, seval, ↓reduceIte, Za, c18, hN0, hN]
     repeat (with_reducible refine And.intro (by first | (intro h0; simp only [h0, and_self]; done) | (intro h0; simp only [h0, Bool.not_false, Bool.not_true, Bool.true_and, Bool.and_true, true_and, and_true, and_self, imp_self, implies_true, bne_iff_ne, ne_eq, beq_iff_eq]; done) | (intros; simp_all; done) | exact True.intro) ?_)
     have hz9 := Option.some.inj hz9; subst hz9
     refine And.intro rfl (Fit2.of (Zj hU rfl rfl ?_) (by omega))
     simp only [push_cast, seval, ↓reduceIte, Za, c18, hN0, hN]
    replace hz9 := Zu c18 hz9
    rcases Bool.eq_false_or_eq_true (a0.Kind == 9) with c19 | c19
    ·replace hz9 := Zv c19 hz9
     try rw [c19] at c18
     rcases Bool.eq_false_or_eq_true (x2.Kind != 1) with c20 | c20
     ·replace hz9 := Zv c20 hz9
      try rw [c20] at c18
      try rw [c20] at c19
      refine X4 Zd (by kernel_rfl) [none, none, none, none, none, none, none, none, some false, some false, some false, some false, some false, some false, some false, some false, some false, some false, some false, some false] (by kernel_rfl) ?_
      simp only [push_cast, seval, ↓reduceIte, Za, c18, c19, c20, hN0, hN]
      repeat (with_reducible refine And.intro (by first | (intro h0; simp only [h0, and_self]; done) | (intro h0; simp only [h0, Bool.not_false, Bool.not_true, Bool.true_and, Bool.and_true, true_and, and_true, and_self, imp_self, implies_true, bne_iff_ne, ne_eq, beq_iff_eq]; done) | (intros; simp_all; done) | exact True.intro) ?_)
      have hz9 := Option.some.inj hz9; subst hz9
      refine And.intro rfl (Fit2.of (Zj hU rfl rfl ?_) (by omega))
      simp only [push_cast, seval, ↓reduceIte, Za, c18, c19, c20, hN0, hN]
     replace hz9 := Zu c20 hz9
     try rw [c20] at c18
     try rw [c20] at c19
     rcases Bool.eq_false_or_eq_true (decide (2 ≤ a0.Kind)) with c21 | c21
     ·replace hz9 := Zv c21 hz9
      try rw [c21] at c18
      try rw [c21] at c19
      try rw [c21] at c20
      rcases Bool.eq_false_or_eq_true (decide (a0.Kind ≤ 7)) with c22 | c22
      ·replace hz9 := Zv c22 hz9
       try rw [c22] at c18
       try rw [c22] at c19
       try rw [c22] at c20
       try rw [c22] at c21
       obtain ⟨x14, hx14, ax14, bx14, cx14, hz9⟩ := bE (f := (eI .u64)) Zbp (fun _ => rfl) (by decide) hz9
       obtain ⟨y15, hy15, hz9⟩ := bC hz9
       refine X4 Zd (by kernel_rfl) [none, none, none, none, none, none, none, none, some true, some true, some true, some true, some true, some true, some true, some true, some true, some true, some true, some true] (by kernel_rfl) ?_
       simp only [push_cast, Nat.reduceAdd, Nat.reduceSub, Nat.reduceMul, Nat.reduceLeDiff, Nat.reduceLT, Nat.reduceEqDiff, ↓reduceIte, reduceCtorEq, Int.reduceBEq, Int.reduceBNe, Nat.reduceBEq, Int.reduceLE, Int.reduceLT, Int.reduceEq, Int.reduceNe, Int.reduceNeg, Nat.reduceDiv, Nat.reduceMod, Nat.reducePow, Za, c18, c19, c20, c21, c22, ax14, bx14, cx14, hN0, hN]
       repeat (with_reducible refine And.intro (by first | (intro h0; simp only [h0, and_self]; done) | (intro h0; simp only [h0, Bool.not_false, Bool.not_true, Bool.true_and, Bool.and_true, true_and, and_true, and_self, imp_self, implies_true, bne_iff_ne, ne_eq, beq_iff_eq]; done) | (intros; simp_all; done) | exact True.intro) ?_)
       refine PCall.of (Zdn hy15) ?_
       simp only [push_cast, Nat.reduceAdd, Nat.reduceSub, Nat.reduceMul, Nat.reduceLeDiff, Nat.reduceLT, Nat.reduceEqDiff, ↓reduceIte, reduceCtorEq, Int.reduceBEq, Int.reduceBNe, Nat.reduceBEq, Int.reduceLE, Int.reduceLT, Int.reduceEq, Int.reduceNe, Int.reduceNeg, Nat.reduceDiv, Nat.reduceMod, Nat.reducePow, Za, c18, c19, c20, c21, c22, ax14, bx14, cx14, hN0, hN]
       repeat (with_reducible refine And.intro (by first | (intro h0; simp only [h0, and_self]; done) | (intro h0; simp only [h0, Bool.not_false, Bool.not_true, Bool.true_and, Bool.and_true, true_and, and_true, and_self, imp_self, implies_true, bne_iff_ne, ne_eq, beq_iff_eq]; done) | (intros; simp_all; done) | exact True.intro) ?_)
       have hz9 := Option.some.inj hz9; subst hz9
       refine And.intro rfl (Fit2.of (Zj hU rfl rfl ?_) (by omega))
       simp only [push_cast, Nat.reduceAdd, Nat.reduceSub, Nat.reduceMul, Nat.reduceLeDiff, Nat.reduceLT, Nat.reduceEqDiff, ↓reduceIte, reduceCtorEq, Int.reduceBEq, Int.reduceBNe, Nat.reduceBEq, Int.reduceLE, Int.reduceLT, Int.reduceEq, Int.reduceNe, Int.reduceNeg, Nat.reduceDiv, Nat.reduceMod, Nat.reducePow, Za, c18, c19, c20, c21, c22, ax14, bx14, cx14, hN0, hN]
      replace hz9 := Zu c22 hz9
      try rw [c22] at c18
      try rw [c22] at c19
      try rw [c22] at c20
      try rw [c22] at c21
      refine X4 Zd (by kernel_rfl) [none, none, none, none, none, none, none, none, some true, some true, some false, some false, some false, some false, some false, some false, some false, some false, some false, some true] (by kernel_rfl) ?_
      simp only [push_cast, seval, ↓reduceIte, Za, c18, c19, c20, c21, c22, hN0, hN]
      repeat (with_reducible refine And.intro (by first | (intro h0; simp only [h0, and_self]; done) | (intro h0; simp only [h0, Bool.not_false, Bool.not_true, Bool.true_and, Bool.and_true, true_and, and_true, and_self, imp_self, implies_true, bne_iff_ne, ne_eq, beq_iff_eq]; done) | (intros; simp_all; done) | exact True.intro) ?_)
      have hz9 := Option.some.inj hz9; subst hz9
      refine And.intro rfl (Fit2.of (Zj hU rfl rfl ?_) (by omega))
      simp only [push_cast, seval, ↓reduceIte, Za, c18, c19, c20, c21, c22, hN0, hN]
     replace hz9 := Zu c21 hz9
     try rw [c21] at c18
     try rw [c21] at c19
     try rw [c21] at c20
     refine X4 Zd (by kernel_rfl) [none, none, none, none, none, none, none, none, some true, some true, some false, some false, some false, some false, some false, some false, some false, some false, some false, some true] (by kernel_rfl) ?_
     simp only [push_cast, seval, ↓reduceIte, Za, c18, c19, c20, c21, hN0, hN]
     repeat (with_reducible refine And.intro (by first | (intro h0; simp only [h0, and_self]; done) | (intro h0; simp only [h0, Bool.not_false, Bool.not_true, Bool.true_and, Bool.and_true, true_and, and_true, and_self, imp_self, implies_true, bne_iff_ne, ne_eq, beq_iff_eq]; done) | (intros; simp_all; done) | exact True.intro) ?_)
     have hz9 := Option.some.inj hz9; subst hz9
     refine And.intro rfl (Fit2.of (Zj hU rfl rfl ?_) (by omega))
     simp only [push_cast, seval, ↓reduceIte, Za, c18, c19, c20, c21, hN0, hN]
    replace hz9 := Zu c19 hz9
    try rw [c19] at c18
    rcases Bool.eq_false_or_eq_true (decide (2 ≤ a0.Kind)) with c23 | c23
    ·replace hz9 := Zv c23 hz9
     try rw [c23] at c18
     try rw [c23] at c19
     rcases Bool.eq_false_or_eq_true (decide (a0.Kind ≤ 7)) with c24 | c24
     ·replace hz9 := Zv c24 hz9
      try rw [c24] at c18
      try rw [c24] at c19
      try rw [c24] at c23
      obtain ⟨x16, hx16, ax16, bx16, cx16, hz9⟩ := bE (f := (eI .u64)) Zbp (fun _ => rfl) (by decide) hz9
      obtain ⟨y17, hy17, hz9⟩ := bC hz9
      refine X4 Zd (by kernel_rfl) [none, none, none, none, none, none, none, none, some true, some true, some true, some true, some true, some true, some true, some true, some true, some true, some true, some true] (by kernel_rfl) ?_
      simp only [push_cast, Nat.reduceAdd, Nat.reduceSub, Nat.reduceMul, Nat.reduceLeDiff, Nat.reduceLT, Nat.reduceEqDiff, ↓reduceIte, reduceCtorEq, Int.reduceBEq, Int.reduceBNe, Nat.reduceBEq, Int.reduceLE, Int.reduceLT, Int.reduceEq, Int.reduceNe, Int.reduceNeg, Nat.reduceDiv, Nat.reduceMod, Nat.reducePow, Za, c18, c19, c23, c24, ax16, bx16, cx16, hN0, hN]
      repeat (with_reducible refine And.intro (by first | (intro h0; simp only [h0, and_self]; done) | (intro h0; simp only [h0, Bool.not_false, Bool.not_true, Bool.true_and, Bool.and_true, true_and, and_true, and_self, imp_self, implies_true, bne_iff_ne, ne_eq, beq_iff_eq]; done) | (intros; simp_all; done) | exact True.intro) ?_)
      refine PCall.of (Zdn hy17) ?_
      simp only [push_cast, Nat.reduceAdd, Nat.reduceSub, Nat.reduceMul, Nat.reduceLeDiff, Nat.reduceLT, Nat.reduceEqDiff, ↓reduceIte, reduceCtorEq, Int.reduceBEq, Int.reduceBNe, Nat.reduceBEq, Int.reduceLE, Int.reduceLT, Int.reduceEq, Int.reduceNe, Int.reduceNeg, Nat.reduceDiv, Nat.reduceMod, Nat.reducePow, Za, c18, c19, c23, c24, ax16, bx16, cx16, hN0, hN]
      repeat (with_reducible refine And.intro (by first | (intro h0; simp only [h0, and_self]; done) | (intro h0; simp only [h0, Bool.not_false, Bool.not_true, Bool.true_and, Bool.and_true, true_and, and_true, and_self, imp_self, implies_true, bne_iff_ne, ne_eq, beq_iff_eq]; done) | (intros; simp_all; done) | exact True.intro) ?_)
      have hz9 := Option.some.inj hz9; subst hz9
      refine And.intro rfl (Fit2.of (Zj hU rfl rfl ?_) (by omega))
      simp only [push_cast, Nat.reduceAdd, Nat.reduceSub, Nat.reduceMul, Nat.reduceLeDiff, Nat.reduceLT, Nat.reduceEqDiff, ↓reduceIte, reduceCtorEq, Int.reduceBEq, Int.reduceBNe, Nat.reduceBEq, Int.reduceLE, Int.reduceLT, Int.reduceEq, Int.reduceNe, Int.reduceNeg, Nat.reduceDiv, Nat.reduceMod, Nat.reducePow, Za, c18, c19, c23, c24, ax16, bx16, cx16, hN0, hN]
     replace hz9 := Zu c24 hz9
     try rw [c24] at c18
     try rw [c24] at c19
     try rw [c24] at c23
     refine X4 Zd (by kernel_rfl) [none, none, none, none, none, none, none, none, some true, some true, some false, some false, some false, some false, some false, some false, some false, some false, some false, some true] (by kernel_rfl) ?_
     simp only [push_cast, seval, ↓reduceIte, Za, c18, c19, c23, c24, hN0, hN]
     repeat (with_reducible refine And.intro (by first | (intro h0; simp only [h0, and_self]; done) | (intro h0; simp only [h0, Bool.not_false, Bool.not_true, Bool.true_and, Bool.and_true, true_and, and_true, and_self, imp_self, implies_true, bne_iff_ne, ne_eq, beq_iff_eq]; done) | (intros; simp_all; done) | exact True.intro) ?_)
     have hz9 := Option.some.inj hz9; subst hz9
     refine And.intro rfl (Fit2.of (Zj hU rfl rfl ?_) (by omega))
     simp only [push_cast, seval, ↓reduceIte, Za, c18, c19, c23, c24, hN0, hN]
    replace hz9 := Zu c23 hz9
    try rw [c23] at c18
    try rw [c23] at c19
    refine X4 Zd (by kernel_rfl) [none, none, none, none, none, none, none, none, some true, some true, some false, some false, some false, some false, some false, some false, some false, some false, some false, some true] (by kernel_rfl) ?_
    simp only [push_cast, seval, ↓reduceIte, Za, c18, c19, c23, hN0, hN]
    repeat (with_reducible refine And.intro (by first | (intro h0; simp only [h0, and_self]; done) | (intro h0; simp only [h0, Bool.not_false, Bool.not_true, Bool.true_and, Bool.and_true, true_and, and_true, and_self, imp_self, implies_true, bne_iff_ne, ne_eq, beq_iff_eq]; done) | (intros; simp_all; done) | exact True.intro) ?_)
    have hz9 := Option.some.inj hz9; subst hz9
    refine And.intro rfl (Fit2.of (Zj hU rfl rfl ?_) (by omega))
    simp only [push_cast, seval, ↓reduceIte, Za, c18, c19, c23, hN0, hN]
   refine Zw (t := z9) rfl (fun c25 => ?_) (fun c25 => ?_)
   ·replace hs0_ := Zv c25 hs0_
    refine Zr [4] (Zc Zd [] ?_)
    simp only [push_cast, seval, ↓reduceIte, Za, hN0, hN]
    refine Z5 ?_
    try simp only [Zk, Zg]
    have hs0_ := Option.some.inj hs0_; subst hs0_
    refine And.intro (fun h => by cases h) (And.intro rfl (Fit2.of (Zj hU rfl rfl ?_) (by omega)))
    simp only [push_cast, seval, ↓reduceIte, Za, hN0, hN]
   replace hs0_ := Zu c25 hs0_
   refine Z0 ?_
   try simp only [Zk, Zg]
   refine Zi [1, 2, 5] [true, false] ?_
   simp only [push_cast, seval, ↓reduceIte]
   refine Zc Zd [] ?_
   simp only [push_cast, seval, ↓reduceIte, Za, hN0, hN]
   have hs0_ := Option.some.inj hs0_; subst hs0_
   refine And.intro rfl (Fit2.of (Zj hU rfl rfl ?_) (by omega))
   simp only [push_cast, seval, ↓reduceIte, Za, hN0, hN]
  replace hs0_ := Zu c27 hs0_
  refine Qd ?_
  try simp only [Zk, Zg, ↓reduceIte, Nat.reduceEqDiff]
  have hs0_ := Option.some.inj hs0_; subst hs0_
  refine And.intro (fun h => by cases h) (And.intro rfl (Fit2.of (Zj hU rfl rfl ?_) (by omega)))
  simp only [push_cast, seval, ↓reduceIte, Za, hN0, hN]
 rcases z28 with z28 | z28
 ·dsimp only [Qv] at hw h
  refine Vo hw ?_
  try simp only [Zk, Zg, ↓reduceIte, Nat.reduceEqDiff]
  have h := Option.some.inj h; subst h
  refine Zs (.inr rfl) hU [.val (.bool false)] (by omega) ?_
  simp only [push_cast, seval, ↓reduceIte, Za, Try.results18, hN0, hN]
 dsimp only [Qv] at hw h
 refine Yq hw ?_
 try simp only [Zk, Zg, ↓reduceIte, Nat.reduceEqDiff]
 refine Zi [] [false] ?_
 simp only [push_cast, seval, ↓reduceIte]
 refine Zr [4] (Zc Zd [] ?_)
 simp only [push_cast, seval, ↓reduceIte, Za, hN0, hN]
 refine Z5 ?_
 try simp only [Zk, Zg]
 have h := Option.some.inj h; subst h
 refine Zs (.inr rfl) hU [.val (.bool true)] (by omega) ?_
 simp only [push_cast, seval, ↓reduceIte, Za, Try.results18, hN0, hN]
theorem Zgi : ∀ k, (∀ {a0 : S_api_Tree} {a1 : Int} {r : Bool} {O : Objs} {n : Nat}, (X1 k) a0 a1 = some r → GTo Try.prog 18 [.agg (Ze a0), .val (.int .i64 a1)] O n (.val (.bool r)) O n) := fun k => by
 induction k with
 | zero => exact @fun a0 a1 r O n h => (nomatch (show (none : Option _) = some _ from h))
 | succ k ih => exact @fun a0 a1 r O n h => Zh2 (ih)  h
theorem Kp {a0 : S_api_Tree} {a1 : Int} {r : Bool} {O : Objs} {n : Nat} (h : Jd a0 a1 = some r) : GTo Try.prog 18 [.agg (Ze a0), .val (.int .i64 a1)] O n (.val (.bool r)) O n := by
 obtain ⟨k, hk⟩ := Gk h
 exact (Zgi k)  hk
theorem Vd {a0 : S_api_Tree} {r : Bool} {O : Objs} {n : Nat} (h : Ka a0 = some r) : GTo Try.prog 53 [.agg (Ze a0)] O n (.val (.bool r)) O n := by
 unfold Ka at h
 refine Xj Zd Try.call53 Try.func53 rfl (Nat.le_of_ble_eq_true rfl) (Nat.le_refl _) fun hU => ?_
 have hN0 : O n = none := hU.fresh _ (Nat.le_refl _)
 have hN : ∀ k, O (n + k) = none := fun k => hU.fresh _ (Nat.le_add_right _ _)
 show W _ _ _ _ ⟨14, [], [(0, .agg (Ze a0))]⟩ (Zy O n []) _
 refine Zr [1] (Zc Zd [] ?_)
 simp only [push_cast, seval, ↓reduceIte, Za, hN0, hN]
 obtain ⟨z3, hz3, h⟩ := bC h
 refine Xg (E' := ⟨14, [], [(2, .val (.bool z3))]⟩) (O' := (Zy O n [none])) (n0 := (n + 1)) ?_ ?_
 ·obtain ⟨y6, hy6, hz3⟩ := bC hz3
  rcases Bool.eq_false_or_eq_true y6 with c8 | c8
  ·replace hz3 := Zv c8 hz3
   obtain ⟨y7, hy7, hz3⟩ := bC hz3
   refine Zc Zd [some true, some true, none, none, none] ?_
   simp only [push_cast, seval, ↓reduceIte, Za, c8, hN0, hN]
   repeat (with_reducible refine And.intro (by first | (intro h0; simp only [h0, and_self]; done) | (intro h0; simp only [h0, Bool.not_false, Bool.not_true, Bool.true_and, Bool.and_true, true_and, and_true, and_self, imp_self, implies_true, bne_iff_ne, ne_eq, beq_iff_eq]; done) | (intros; simp_all; done) | exact True.intro) ?_)
   refine (Zeu hy6).then ?_
   simp only [push_cast, seval, ↓reduceIte, Za, c8, hN0, hN]
   repeat (with_reducible refine And.intro (by first | (intro h0; simp only [h0, and_self]; done) | (intro h0; simp only [h0, Bool.not_false, Bool.not_true, Bool.true_and, Bool.and_true, true_and, and_true, and_self, imp_self, implies_true, bne_iff_ne, ne_eq, beq_iff_eq]; done) | (intros; simp_all; done) | exact True.intro) ?_)
   refine (Kp hy7).then ?_
   simp only [push_cast, seval, ↓reduceIte, Za, c8, hN0, hN]
   repeat (with_reducible refine And.intro (by first | (intro h0; simp only [h0, and_self]; done) | (intro h0; simp only [h0, Bool.not_false, Bool.not_true, Bool.true_and, Bool.and_true, true_and, and_true, and_self, imp_self, implies_true, bne_iff_ne, ne_eq, beq_iff_eq]; done) | (intros; simp_all; done) | exact True.intro) ?_)
   have hz3 := Option.some.inj hz3; subst hz3
   refine And.intro rfl (Fit2.of (Zj hU rfl rfl ?_) (by omega))
   simp only [push_cast, seval, ↓reduceIte, Za, c8, hN0, hN]
  replace hz3 := Zu c8 hz3
  refine Zc Zd [some false, some false, some false, some false, some false] ?_
  simp only [push_cast, seval, ↓reduceIte, Za, c8, hN0, hN]
  refine (Zeu hy6).then ?_
  simp only [push_cast, seval, ↓reduceIte, Za, c8, hN0, hN]
  have hz3 := Option.some.inj hz3; subst hz3
  refine And.intro rfl (Fit2.of (Zj hU rfl rfl ?_) (by omega))
  simp only [push_cast, seval, ↓reduceIte, Za, c8, hN0, hN]
 refine Z5 ?_
 try simp only [Zk, Zg]
 have h := Option.some.inj h; subst h
 refine Zs (.inr rfl) hU [.val (.bool z3)] (by omega) ?_
 simp only [push_cast, seval, ↓reduceIte, Za, Try.results53, hN0, hN]
theorem Vz {a0 : (List Int)} {r : (List Int)} {O : Objs} {n : Nat} (h : Je a0 = some r) : GTo Try.prog 63 [.sl a0.length (fl (eI .u64) a0)] O n (.sl r.length (fl (eI .u64) r)) O n := by
 unfold Je at h
 refine Xj Zd Try.call63 Try.func63 rfl (Nat.le_of_ble_eq_true rfl) (Nat.le_refl _) fun hU => ?_
 have hN0 : O n = none := hU.fresh _ (Nat.le_refl _)
 have hN : ∀ k, O (n + k) = none := fun k => hU.fresh _ (Nat.le_add_right _ _)
 show W _ _ _ _ ⟨22, [], [(0, .sl a0.length (fl (eI .u64) a0))]⟩ (Zy O n []) _
 refine Zr [0] (Zc Zd [] ?_)
 simp only [push_cast, seval, ↓reduceIte, Za, hN0, hN]
 refine Zr [0, 3] (Zc Zd [] ?_)
 simp only [push_cast, seval, ↓reduceIte, Za, hN0, hN]
 refine Zl ?_
 refine Zi [0, 3] [] ?_
 simp only [push_cast, seval, ↓reduceIte]
 obtain ⟨z7, hz7, h⟩ := bC h
 refine Yq (E' := ⟨22, [], [(0, .sl a0.length (fl (eI .u64) a0)), (3, .val (.int .i64 z7))]⟩) (O' := (Zy O n [])) (n0 := n) ?_ ?_
 ·refine Y6 hz7 (fun s0_ => ⟨22, [], [(0, .sl a0.length (fl (eI .u64) a0)), (3, .val (.int .i64 s0_))]⟩) (fun s0_ => (Zy O n [])) (fun z7 => JX 0 n (⟨22, [], [(0, .sl a0.length (fl (eI .u64) a0)), (3, .val (.int .i64 z7))]⟩ : Env) (Zy O n []) n) ?_
  intro s0_ x0_ hs0_
  unfold Ko at hs0_
  try dsimp only
  refine Zl ?_
  obtain ⟨z2, hz2, hs0_⟩ := bC hs0_
  refine Xg (E' := ⟨22, [], [(0, .sl a0.length (fl (eI .u64) a0)), (3, .val (.int .i64 s0_)), (15, .val (.bool z2))]⟩) (O' := (Zy O n [])) (n0 := n) ?_ ?_
  ·rcases Bool.eq_false_or_eq_true (decide (0 < s0_)) with c5 | c5
   ·replace hz2 := Zv c5 hz2
    obtain ⟨x4, hx4, ax4, bx4, cx4, hz2⟩ := bE (f := (eI .u64)) Zbp (fun _ => rfl) (by decide) hz2
    refine Zc Zd [some true, some true, some true, some true, some true, some true] ?_
    simp only [push_cast, Nat.reduceAdd, Nat.reduceSub, Nat.reduceMul, Nat.reduceLeDiff, Nat.reduceLT, Nat.reduceEqDiff, ↓reduceIte, reduceCtorEq, Int.reduceBEq, Int.reduceBNe, Nat.reduceBEq, Int.reduceLE, Int.reduceLT, Int.reduceEq, Int.reduceNe, Int.reduceNeg, Nat.reduceDiv, Nat.reduceMod, Nat.reducePow, Za, c5, ax4, bx4, cx4, hN0, hN]
    have hz2 := Option.some.inj hz2; subst hz2
    refine And.intro rfl (Fit2.of (Zj hU rfl rfl ?_) (by omega))
    simp only [push_cast, Nat.reduceAdd, Nat.reduceSub, Nat.reduceMul, Nat.reduceLeDiff, Nat.reduceLT, Nat.reduceEqDiff, ↓reduceIte, reduceCtorEq, Int.reduceBEq, Int.reduceBNe, Nat.reduceBEq, Int.reduceLE, Int.reduceLT, Int.reduceEq, Int.reduceNe, Int.reduceNeg, Nat.reduceDiv, Nat.reduceMod, Nat.reducePow, Za, c5, ax4, bx4, cx4, hN0, hN]
   replace hz2 := Zu c5 hz2
   refine Zc Zd [some false, some false, some false, some false, some false, some false] ?_
   simp only [push_cast, seval, ↓reduceIte, Za, c5, hN0, hN]
   have hz2 := Option.some.inj hz2; subst hz2
   refine And.intro rfl (Fit2.of (Zj hU rfl rfl ?_) (by omega))
   simp only [push_cast, seval, ↓reduceIte, Za, c5, hN0, hN]
  refine Zw (t := z2) rfl (fun c6 => ?_) (fun c6 => ?_)
  ·replace hs0_ := Zv c6 hs0_
   refine Z0 ?_
   try simp only [Zk, Zg]
   refine Zi [0, 3] [] ?_
   simp only [push_cast, seval, ↓reduceIte]
   refine Yr ?_
   refine Zc Zd [] ?_
   simp only [push_cast, seval, ↓reduceIte, Za, hN0, hN]
   have hs0_ := Option.some.inj hs0_; subst hs0_
   refine And.intro rfl (Fit2.of (Zj hU rfl rfl ?_) (by omega))
   simp only [push_cast, seval, ↓reduceIte, Za, hN0, hN]
  replace hs0_ := Zu c6 hs0_
  refine Qd ?_
  try simp only [Zk, Zg, ↓reduceIte, Nat.reduceEqDiff]
  have hs0_ := Option.some.inj hs0_; subst hs0_
  refine And.intro (fun h => by cases h) (And.intro rfl (Fit2.of (Zj hU rfl rfl ?_) (by omega)))
  simp only [push_cast, seval, ↓reduceIte, Za, hN0, hN]
 try simp only [Zk, Zg, ↓reduceIte, Nat.reduceEqDiff]
 refine Zi [0, 3] [] ?_
 simp only [push_cast, seval, ↓reduceIte]
 obtain ⟨l9, al9, bl9, cl9, gl9, h⟩ := bS3 (lo := none) (hi := (.i64, z7)) (f := (eI .u64)) rfl rfl Zgv Zbp (fun _ => rfl) h
 refine Zr [2] (Zc Zd [] ?_)
 simp only [push_cast, seval, ↓reduceIte, Za, al9, bl9, cl9, gl9, hN0, hN]
 refine Z5 ?_
 try simp only [Zk, Zg]
 have h := Option.some.inj h; subst h
 refine Zs (.inr rfl) hU [.sl l9.length (fl (eI .u64) l9)] (by omega) ?_
 simp only [push_cast, seval, ↓reduceIte, Za, Try.results63, hN0, hN]
theorem X7 {a0 : (List Int)} {a1 : (List Int)} {r : Bool} {O : Objs} {n : Nat} (h : Yw a0 a1 = some r) : GTo Try.prog 65 [.sl a0.length (fl (eI .u64) a0), .sl a1.length (fl (eI .u64) a1)] O n (.val (.bool r)) O n := by
 unfold Yw at h
 refine Xj Zd Try.call65 Try.func65 rfl (Nat.le_of_ble_eq_true rfl) (Nat.le_refl _) fun hU => ?_
 have hN0 : O n = none := hU.fresh _ (Nat.le_refl _)
 have hN : ∀ k, O (n + k) = none := fun k => hU.fresh _ (Nat.le_add_right _ _)
 show W _ _ _ _ ⟨26, [], [(0, .sl a0.length (fl (eI .u64) a0)), (1, .sl a1.length (fl (eI .u64) a1))]⟩ (Zy O n []) _
 refine Zr [0, 1] (Zc Zd [] ?_)
 simp only [push_cast, seval, ↓reduceIte, Za, hN0, hN]
 refine Zl ?_
 refine Zr [0, 1, 10] (Zc Zd [] ?_)
 simp only [push_cast, seval, ↓reduceIte, Za, hN0, hN]
 refine Zw (t := ((a0.length : Int) != (a1.length : Int))) rfl (fun c8 => ?_) (fun c8 => ?_)
 ·replace h := Zv c8 h
  refine Zr [4] (Zc Zd [] ?_)
  simp only [push_cast, seval, ↓reduceIte, Za, hN0, hN]
  refine Z5 ?_
  try simp only [Zk, Zg]
  have h := Option.some.inj h; subst h
  refine Zs (.inr rfl) hU [.val (.bool false)] (by omega) ?_
  simp only [push_cast, seval, ↓reduceIte, Za, Try.results65, hN0, hN]
 replace h := Zu c8 h
 refine Z0 ?_
 try simp only [Zk, Zg]
 refine Zi [0, 1] [] ?_
 simp only [push_cast, seval, ↓reduceIte]
 refine Zl ?_
 refine Zr [0, 1, 12, 13] (Zc Zd [] ?_)
 simp only [push_cast, seval, ↓reduceIte, Za, hN0, hN]
 refine Zi [0, 1, 12, 13] [] ?_
 simp only [push_cast, seval, ↓reduceIte]
 obtain ⟨z7, hz7, h⟩ := bC h
 refine Za3 (J := (Qv (fun z7 => JR n (⟨26, [], [(4, .val (.bool false))]⟩ : Env) (Zy O n []) n) (fun z7 => JX 0 n (⟨26, [], []⟩ : Env) (Zy O n []) n))) (z := z7) ?_ fun hw => ?_
 ·refine Y6 hz7 (fun s0_ => ⟨26, [], [(0, .sl a0.length (fl (eI .u64) a0)), (1, .sl a1.length (fl (eI .u64) a1)), (12, .val (.int .i64 (a0.length : Int))), (13, .val (.int .i64 s0_))]⟩) (fun s0_ => (Zy O n [])) (Qv (fun z7 => JR n (⟨26, [], [(4, .val (.bool false))]⟩ : Env) (Zy O n []) n) (fun z7 => JX 0 n (⟨26, [], []⟩ : Env) (Zy O n []) n)) ?_
  intro s0_ x0_ hs0_
  unfold Yy at hs0_
  try dsimp only
  refine Zr [0, 1, 12, 13, 14] (Zc Zd [] ?_)
  simp only [push_cast, seval, ↓reduceIte, Za, hN0, hN]
  refine Zl ?_
  refine Zw (t := (decide (s0_ < (a0.length : Int)))) rfl (fun c6 => ?_) (fun c6 => ?_)
  ·replace hs0_ := Zv c6 hs0_
   refine Z0 ?_
   try simp only [Zk, Zg]
   refine Zi [0, 1, 12, 13] [] ?_
   simp only [push_cast, seval, ↓reduceIte]
   refine Zl ?_
   refine Yr ?_
   refine Zr [0, 1, 5, 12, 13] (Zc Zd [] ?_)
   simp only [push_cast, seval, ↓reduceIte, Za, hN0, hN]
   obtain ⟨x3, hx3, ax3, bx3, cx3, hs0_⟩ := bE (f := (eI .u64)) Zbp (fun _ => rfl) (by decide) hs0_
   obtain ⟨x4, hx4, ax4, bx4, cx4, hs0_⟩ := bE (f := (eI .u64)) Zbp (fun _ => rfl) (by decide) hs0_
   refine Zr [0, 1, 12, 13, 24] (X4 Zd (by kernel_rfl) [] (by kernel_rfl) ?_)
   simp only [push_cast, Nat.reduceAdd, Nat.reduceSub, Nat.reduceMul, Nat.reduceLeDiff, Nat.reduceLT, Nat.reduceEqDiff, ↓reduceIte, reduceCtorEq, Int.reduceBEq, Int.reduceBNe, Nat.reduceBEq, Int.reduceLE, Int.reduceLT, Int.reduceEq, Int.reduceNe, Int.reduceNeg, Nat.reduceDiv, Nat.reduceMod, Nat.reducePow, Za, ax3, bx3, cx3, ax4, bx4, cx4, hN0, hN]
   refine Zw (t := (x3 != x4)) rfl (fun c5 => ?_) (fun c5 => ?_)
   ·replace hs0_ := Zv c5 hs0_
    refine Zr [4] (Zc Zd [] ?_)
    simp only [push_cast, seval, ↓reduceIte, Za, hN0, hN]
    refine Z5 ?_
    try simp only [Zk, Zg]
    have hs0_ := Option.some.inj hs0_; subst hs0_
    refine And.intro (fun h => by cases h) (And.intro rfl (Fit2.of (Zj hU rfl rfl ?_) (by omega)))
    simp only [push_cast, seval, ↓reduceIte, Za, hN0, hN]
   replace hs0_ := Zu c5 hs0_
   refine Z0 ?_
   try simp only [Zk, Zg]
   refine Zi [0, 1, 12, 13] [] ?_
   simp only [push_cast, seval, ↓reduceIte]
   refine Zc Zd [] ?_
   simp only [push_cast, seval, ↓reduceIte, Za, hN0, hN]
   have hs0_ := Option.some.inj hs0_; subst hs0_
   refine And.intro rfl (Fit2.of (Zj hU rfl rfl ?_) (by omega))
   simp only [push_cast, seval, ↓reduceIte, Za, hN0, hN]
  replace hs0_ := Zu c6 hs0_
  refine Qd ?_
  try simp only [Zk, Zg, ↓reduceIte, Nat.reduceEqDiff]
  have hs0_ := Option.some.inj hs0_; subst hs0_
  refine And.intro (fun h => by cases h) (And.intro rfl (Fit2.of (Zj hU rfl rfl ?_) (by omega)))
  simp only [push_cast, seval, ↓reduceIte, Za, hN0, hN]
 rcases z7 with z7 | z7
 ·dsimp only [Qv] at hw h
  refine Vo hw ?_
  try simp only [Zk, Zg, ↓reduceIte, Nat.reduceEqDiff]
  have h := Option.some.inj h; subst h
  refine Zs (.inr rfl) hU [.val (.bool false)] (by omega) ?_
  simp only [push_cast, seval, ↓reduceIte, Za, Try.results65, hN0, hN]
 dsimp only [Qv] at hw h
 refine Yq hw ?_
 try simp only [Zk, Zg, ↓reduceIte, Nat.reduceEqDiff]
 refine Zi [] [] ?_
 simp only [push_cast, seval, ↓reduceIte]
 refine Zr [4] (Zc Zd [] ?_)
 simp only [push_cast, seval, ↓reduceIte, Za, hN0, hN]
 refine Z5 ?_
 try simp only [Zk, Zg]
 have h := Option.some.inj h; subst h
 refine Zs (.inr rfl) hU [.val (.bool true)] (by omega) ?_
 simp only [push_cast, seval, ↓reduceIte, Za, Try.results65, hN0, hN]
theorem Zbx {a0 : (List S_api_Tree)} {r : (List S_api_Tree)} {O : Objs} {n : Nat} (h : Kj a0 = some r) : GTo Try.prog 64 [.sl a0.length (fl Zb a0)] O n (.sl r.length (fl Zb r)) O n := by
 unfold Kj at h
 refine Xj Zd Try.call64 Try.func64 rfl (Nat.le_of_ble_eq_true rfl) (Nat.le_refl _) fun hU => ?_
 have hN0 : O n = none := hU.fresh _ (Nat.le_refl _)
 have hN : ∀ k, O (n + k) = none := fun k => hU.fresh _ (Nat.le_add_right _ _)
 show W _ _ _ _ ⟨23, [], [(0, .sl a0.length (fl Zb a0))]⟩ (Zy O n []) _
 refine Zr [0] (Zc Zd [] ?_)
 simp only [push_cast, seval, ↓reduceIte, Za, hN0, hN]
 refine Zr [0, 3] (Zc Zd [] ?_)
 simp only [push_cast, seval, ↓reduceIte, Za, hN0, hN]
 refine Zl ?_
 refine Zi [0, 3] [] ?_
 simp only [push_cast, seval, ↓reduceIte]
 obtain ⟨z10, hz10, h⟩ := bC h
 refine Yq (E' := ⟨23, [], [(0, .sl a0.length (fl Zb a0)), (3, .val (.int .i64 z10))]⟩) (O' := (Zy O n [])) (n0 := n) ?_ ?_
 ·refine Y6 hz10 (fun s0_ => ⟨23, [], [(0, .sl a0.length (fl Zb a0)), (3, .val (.int .i64 s0_))]⟩) (fun s0_ => (Zy O n [])) (fun z10 => JX 0 n (⟨23, [], [(0, .sl a0.length (fl Zb a0)), (3, .val (.int .i64 z10))]⟩ : Env) (Zy O n []) n) ?_
  intro s0_ x0_ hs0_
  unfold Vc at hs0_
  try dsimp only
  refine Zl ?_
  obtain ⟨z3, hz3, hs0_⟩ := bC hs0_
  refine Xg (E' := ⟨23, [], [(0, .sl a0.length (fl Zb a0)), (3, .val (.int .i64 s0_)), (16, .val (.bool z3))]⟩) (O' := (Zy O n [])) (n0 := n) ?_ ?_
  ·rcases Bool.eq_false_or_eq_true (decide (0 < s0_)) with c8 | c8
   ·replace hz3 := Zv c8 hz3
    obtain ⟨x6, hx6, ax6, bx6, cx6, hz3⟩ := bE (f := Zb) V4 (fun _ => rfl) (by decide) hz3
    have g7 := Zwq (f := Zb) (sz := 3) Zy1 (fun _ => rfl) (by decide) (by decide) hx6
    refine Zc Zd [some true, some true, some true, some true, some true, some true, some true] ?_
    simp only [push_cast, Nat.reduceAdd, Nat.reduceSub, Nat.reduceMul, Nat.reduceLeDiff, Nat.reduceLT, Nat.reduceEqDiff, ↓reduceIte, reduceCtorEq, Int.reduceBEq, Int.reduceBNe, Nat.reduceBEq, Int.reduceLE, Int.reduceLT, Int.reduceEq, Int.reduceNe, Int.reduceNeg, Nat.reduceDiv, Nat.reduceMod, Nat.reducePow, Za, c8, ax6, bx6, cx6, g7, hN0, hN]
    have hz3 := Option.some.inj hz3; subst hz3
    refine And.intro rfl (Fit2.of (Zj hU rfl rfl ?_) (by omega))
    simp only [push_cast, Nat.reduceAdd, Nat.reduceSub, Nat.reduceMul, Nat.reduceLeDiff, Nat.reduceLT, Nat.reduceEqDiff, ↓reduceIte, reduceCtorEq, Int.reduceBEq, Int.reduceBNe, Nat.reduceBEq, Int.reduceLE, Int.reduceLT, Int.reduceEq, Int.reduceNe, Int.reduceNeg, Nat.reduceDiv, Nat.reduceMod, Nat.reducePow, Za, c8, ax6, bx6, cx6, g7, hN0, hN]
   replace hz3 := Zu c8 hz3
   refine Zc Zd [some false, some false, some false, some false, some false, some false, some false] ?_
   simp only [push_cast, seval, ↓reduceIte, Za, c8, hN0, hN]
   have hz3 := Option.some.inj hz3; subst hz3
   refine And.intro rfl (Fit2.of (Zj hU rfl rfl ?_) (by omega))
   simp only [push_cast, seval, ↓reduceIte, Za, c8, hN0, hN]
  refine Zw (t := z3) rfl (fun c9 => ?_) (fun c9 => ?_)
  ·replace hs0_ := Zv c9 hs0_
   refine Z0 ?_
   try simp only [Zk, Zg]
   refine Zi [0, 3] [] ?_
   simp only [push_cast, seval, ↓reduceIte]
   refine Yr ?_
   refine Zc Zd [] ?_
   simp only [push_cast, seval, ↓reduceIte, Za, hN0, hN]
   have hs0_ := Option.some.inj hs0_; subst hs0_
   refine And.intro rfl (Fit2.of (Zj hU rfl rfl ?_) (by omega))
   simp only [push_cast, seval, ↓reduceIte, Za, hN0, hN]
  replace hs0_ := Zu c9 hs0_
  refine Qd ?_
  try simp only [Zk, Zg, ↓reduceIte, Nat.reduceEqDiff]
  have hs0_ := Option.some.inj hs0_; subst hs0_
  refine And.intro (fun h => by cases h) (And.intro rfl (Fit2.of (Zj hU rfl rfl ?_) (by omega)))
  simp only [push_cast, seval, ↓reduceIte, Za, hN0, hN]
 try simp only [Zk, Zg, ↓reduceIte, Nat.reduceEqDiff]
 refine Zi [0, 3] [] ?_
 simp only [push_cast, seval, ↓reduceIte]
 obtain ⟨l12, al12, bl12, cl12, gl12, h⟩ := bS3 (lo := none) (hi := (.i64, z10)) (f := Zb) rfl rfl Zab V4 (fun _ => rfl) h
 refine Zr [2] (Zc Zd [] ?_)
 simp only [push_cast, seval, ↓reduceIte, Za, al12, bl12, cl12, gl12, hN0, hN]
 refine Z5 ?_
 try simp only [Zk, Zg]
 have h := Option.some.inj h; subst h
 refine Zs (.inr rfl) hU [.sl l12.length (fl Zb l12)] (by omega) ?_
 simp only [push_cast, seval, ↓reduceIte, Za, Try.results64, hN0, hN]
theorem Zpr {Jj : (S_api_Tree → S_api_Tree → Option Bool)} {Zq : ((List S_api_Tree) → (List S_api_Tree) → Option Bool)} (Zg2 : ∀ {a0 : S_api_Tree} {a1 : S_api_Tree} {r : Bool} {O : Objs} {n : Nat}, Jj a0 a1 = some r → GTo Try.prog 24 [.agg (Ze a0), .agg (Ze a1)] O n (.val (.bool r)) O n) (Yk : ∀ {a0 : (List S_api_Tree)} {a1 : (List S_api_Tree)} {r : Bool} {O : Objs} {n : Nat}, Zq a0 a1 = some r → GTo Try.prog 66 [.sl a0.length (fl Zb a0), .sl a1.length (fl Zb a1), .fn 24 0 []] O n (.val (.bool r)) O n) {a0 : S_api_Tree} {a1 : S_api_Tree} {r : Bool} {O : Objs} {n : Nat} (h : Za4 Jj Zq a0 a1 = some r) : GTo Try.prog 24 [.agg (Ze a0), .agg (Ze a1)] O n (.val (.bool r)) O n := by
 unfold Za4 at h
 refine Xj Zd Try.call24 Try.func24 rfl (Nat.le_of_ble_eq_true rfl) (Nat.le_refl _) fun hU => ?_
 have hN0 : O n = none := hU.fresh _ (Nat.le_refl _)
 have hN : ∀ k, O (n + k) = none := fun k => hU.fresh _ (Nat.le_add_right _ _)
 show W _ _ _ _ ⟨44, [], [(0, .agg (Ze a0)), (1, .agg (Ze a1))]⟩ (Zy O n []) _
 refine Zr [2, 3] (Zc Zd [] ?_)
 simp only [push_cast, seval, ↓reduceIte, Za, hN0, hN]
 refine Zl ?_
 refine Zr [2, 3, 9] (Zc Zd [] ?_)
 simp only [push_cast, seval, ↓reduceIte, Za, hN0, hN]
 refine Zw (t := (a0.Kind != a1.Kind)) rfl (fun c31 => ?_) (fun c31 => ?_)
 ·replace h := Zv c31 h
  refine Zr [4] (Zc Zd [] ?_)
  simp only [push_cast, seval, ↓reduceIte, Za, hN0, hN]
  refine Z5 ?_
  try simp only [Zk, Zg]
  have h := Option.some.inj h; subst h
  refine Zs (.inr rfl) hU [.val (.bool false)] (by omega) ?_
  simp only [push_cast, seval, ↓reduceIte, Za, Try.results24, hN0, hN]
 replace h := Zu c31 h
 refine Z0 ?_
 try simp only [Zk, Zg]
 refine Zi [2, 3] [true, true] ?_
 simp only [push_cast, seval, ↓reduceIte]
 refine Zl ?_
 refine Zr [2, 3, 11] (Zc Zd [] ?_)
 simp only [push_cast, seval, ↓reduceIte, Za, hN0, hN]
 refine Yr ?_
 refine Zr [2, 3, 11, 12] (Zc Zd [] ?_)
 simp only [push_cast, seval, ↓reduceIte, Za, hN0, hN]
 refine Zw (t := (a0.Kind == 0)) rfl (fun c30 => ?_) (fun c30 => ?_)
 ·replace h := Zv c30 h
  refine Zr [4] (Zc Zd [] ?_)
  simp only [push_cast, seval, ↓reduceIte, Za, hN0, hN]
  refine Z5 ?_
  try simp only [Zk, Zg]
  have h := Option.some.inj h; subst h
  refine Zs (.inr rfl) hU [.val (.bool true)] (by omega) ?_
  simp only [push_cast, seval, ↓reduceIte, Za, Try.results24, hN0, hN]
 replace h := Zu c30 h
 refine Zr [2, 3, 14] (Zc Zd [] ?_)
 simp only [push_cast, seval, ↓reduceIte, Za, hN0, hN]
 refine Zw (t := (a0.Kind == 1)) rfl (fun c29 => ?_) (fun c29 => ?_)
 ·replace h := Zv c29 h
  obtain ⟨z7, hz7, h⟩ := bC h
  refine Xg (E' := ⟨44, [], [(4, .val (.bool z7))]⟩) (O' := (Zy O n [none, none])) (n0 := (n + 2)) ?_ ?_
  ·obtain ⟨y14, hy14, hz7⟩ := bC hz7
   obtain ⟨y15, hy15, hz7⟩ := bC hz7
   obtain ⟨y16, hy16, hz7⟩ := bC hz7
   rcases Bool.eq_false_or_eq_true y16 with c20 | c20
   ·replace hz7 := Zv c20 hz7
    obtain ⟨y17, hy17, hz7⟩ := bC hz7
    obtain ⟨y18, hy18, hz7⟩ := bC hz7
    obtain ⟨y19, hy19, hz7⟩ := bC hz7
    refine X4 Zd (by kernel_rfl) [some true, some true, some true, some true, some true, some true, some true] (by kernel_rfl) ?_
    simp only [push_cast, seval, ↓reduceIte, Za, c20, hN0, hN]
    refine PCall.of (Vz hy14) ?_
    simp only [push_cast, seval, ↓reduceIte, Za, c20, hN0, hN]
    refine PCall.of (Vz hy15) ?_
    simp only [push_cast, seval, ↓reduceIte, Za, c20, hN0, hN]
    refine PCall.of (X7 hy16) ?_
    simp only [push_cast, seval, ↓reduceIte, Za, c20, hN0, hN]
    refine PCall.of (Zbx hy17) ?_
    simp only [push_cast, seval, ↓reduceIte, Za, c20, hN0, hN]
    refine PCall.of (Zbx hy18) ?_
    simp only [push_cast, seval, ↓reduceIte, Za, c20, hN0, hN]
    refine PCall.of (Yk hy19) ?_
    simp only [push_cast, seval, ↓reduceIte, Za, c20, hN0, hN]
    have hz7 := Option.some.inj hz7; subst hz7
    refine And.intro rfl (Fit2.of (Zj hU rfl rfl ?_) (by omega))
    simp only [push_cast, seval, ↓reduceIte, Za, c20, hN0, hN]
   replace hz7 := Zu c20 hz7
   refine X4 Zd (by kernel_rfl) [some false, some false, some false, some false, some false, some false, some false] (by kernel_rfl) ?_
   simp only [push_cast, seval, ↓reduceIte, Za, c20, hN0, hN]
   refine PCall.of (Vz hy14) ?_
   simp only [push_cast, seval, ↓reduceIte, Za, c20, hN0, hN]
   refine PCall.of (Vz hy15) ?_
   simp only [push_cast, seval, ↓reduceIte, Za, c20, hN0, hN]
   refine PCall.of (X7 hy16) ?_
   simp only [push_cast, seval, ↓reduceIte, Za, c20, hN0, hN]
   have hz7 := Option.some.inj hz7; subst hz7
   refine And.intro rfl (Fit2.of (Zj hU rfl rfl ?_) (by omega))
   simp only [push_cast, seval, ↓reduceIte, Za, c20, hN0, hN]
  refine Z5 ?_
  try simp only [Zk, Zg]
  have h := Option.some.inj h; subst h
  refine Zs (.inr rfl) hU [.val (.bool z7)] (by omega) ?_
  simp only [push_cast, seval, ↓reduceIte, Za, Try.results24, hN0, hN]
 replace h := Zu c29 h
 refine Z0 ?_
 try simp only [Zk, Zg]
 refine Zi [2, 3] [true, true] ?_
 simp only [push_cast, seval, ↓reduceIte]
 obtain ⟨z23, hz23, h⟩ := bC h
 refine Xg (E' := ⟨44, [], [(4, .val (.bool z23))]⟩) (O' := (Zy O n [none, none])) (n0 := (n + 2)) ?_ ?_
 ·obtain ⟨y26, hy26, hz23⟩ := bC hz23
  rcases Bool.eq_false_or_eq_true y26 with c28 | c28
  ·replace hz23 := Zv c28 hz23
   obtain ⟨y27, hy27, hz23⟩ := bC hz23
   refine Zc Zd [some true, some true, some true, some true, some true] ?_
   simp only [push_cast, seval, ↓reduceIte, Za, c28, hN0, hN]
   refine (X7 hy26).then ?_
   simp only [push_cast, seval, ↓reduceIte, Za, c28, hN0, hN]
   refine (Yk hy27).then ?_
   simp only [push_cast, seval, ↓reduceIte, Za, c28, hN0, hN]
   have hz23 := Option.some.inj hz23; subst hz23
   refine And.intro rfl (Fit2.of (Zj hU rfl rfl ?_) (by omega))
   simp only [push_cast, seval, ↓reduceIte, Za, c28, hN0, hN]
  replace hz23 := Zu c28 hz23
  refine Zc Zd [some false, some false, some false, some false, some false] ?_
  simp only [push_cast, seval, ↓reduceIte, Za, c28, hN0, hN]
  refine (X7 hy26).then ?_
  simp only [push_cast, seval, ↓reduceIte, Za, c28, hN0, hN]
  have hz23 := Option.some.inj hz23; subst hz23
  refine And.intro rfl (Fit2.of (Zj hU rfl rfl ?_) (by omega))
  simp only [push_cast, seval, ↓reduceIte, Za, c28, hN0, hN]
 refine Z5 ?_
 try simp only [Zk, Zg]
 have h := Option.some.inj h; subst h
 refine Zs (.inr rfl) hU [.val (.bool z23)] (by omega) ?_
 simp only [push_cast, seval, ↓reduceIte, Za, Try.results24, hN0, hN]
theorem Qu {Jj : (S_api_Tree → S_api_Tree → Option Bool)} {Zq : ((List S_api_Tree) → (List S_api_Tree) → Option Bool)} (Zg2 : ∀ {a0 : S_api_Tree} {a1 : S_api_Tree} {r : Bool} {O : Objs} {n : Nat}, Jj a0 a1 = some r → GTo Try.prog 24 [.agg (Ze a0), .agg (Ze a1)] O n (.val (.bool r)) O n) (Yk : ∀ {a0 : (List S_api_Tree)} {a1 : (List S_api_Tree)} {r : Bool} {O : Objs} {n : Nat}, Zq a0 a1 = some r → GTo Try.prog 66 [.sl a0.length (fl Zb a0), .sl a1.length (fl Zb a1), .fn 24 0 []] O n (.val (.bool r)) O n) {a0 : (List S_api_Tree)} {a1 : (List S_api_Tree)} {r : Bool} {O : Objs} {n : Nat} (h : Z6 Jj Zq a0 a1 = some r) : GTo Try.prog 66 [.sl a0.length (fl Zb a0), .sl a1.length (fl Zb a1), .fn 24 0 []] O n (.val (.bool r)) O n := by
 unfold Z6 at h
 refine Xj Zd Try.call66 Try.func66 rfl (Nat.le_of_ble_eq_true rfl) (Nat.le_refl _) fun hU => ?_
 have hN0 : O n = none := hU.fresh _ (Nat.le_refl _)
 have hN : ∀ k, O (n + k) = none := fun k => hU.fresh _ (Nat.le_add_right _ _)
 show W _ _ _ _ ⟨32, [], [(0, .sl a0.length (fl Zb a0)), (1, .sl a1.length (fl Zb a1)), (2, .fn 24 0 [])]⟩ (Zy O n []) _
 refine Zr [0, 1, 2] (Zc Zd [] ?_)
 simp only [push_cast, seval, ↓reduceIte, Za, hN0, hN]
 refine Zl ?_
 refine Zr [0, 1, 2, 14] (Zc Zd [] ?_)
 simp only [push_cast, seval, ↓reduceIte, Za, hN0, hN]
 refine Zw (t := ((a0.length : Int) != (a1.length : Int))) rfl (fun c10 => ?_) (fun c10 => ?_)
 ·replace h := Zv c10 h
  refine Zr [6] (Zc Zd [] ?_)
  simp only [push_cast, seval, ↓reduceIte, Za, hN0, hN]
  refine Z5 ?_
  try simp only [Zk, Zg]
  have h := Option.some.inj h; subst h
  refine Zs (.inr rfl) hU [.val (.bool false)] (by omega) ?_
  simp only [push_cast, seval, ↓reduceIte, Za, Try.results66, hN0, hN]
 replace h := Zu c10 h
 refine Z0 ?_
 try simp only [Zk, Zg]
 refine Zi [0, 1, 2] [] ?_
 simp only [push_cast, seval, ↓reduceIte]
 refine Zl ?_
 refine Zr [1, 2, 15, 16, 17] (Zc Zd [] ?_)
 simp only [push_cast, seval, ↓reduceIte, Za, hN0, hN]
 refine Zi [1, 2, 15, 16, 17] [] ?_
 simp only [push_cast, seval, ↓reduceIte]
 obtain ⟨z9, hz9, h⟩ := bC h
 refine Za3 (J := (Qv (fun z9 => JR n (⟨32, [], [(6, .val (.bool false))]⟩ : Env) (Zy O n []) n) (fun z9 => JX 0 n (⟨32, [], []⟩ : Env) (Zy O n []) n))) (z := z9) ?_ fun hw => ?_
 ·refine Y6 hz9 (fun s0_ => ⟨32, [], [(1, .sl a1.length (fl Zb a1)), (2, .fn 24 0 []), (15, .sl a0.length (fl Zb a0)), (16, .val (.int .i64 (a0.length : Int))), (17, .val (.int .i64 s0_))]⟩) (fun s0_ => (Zy O n [])) (Qv (fun z9 => JR n (⟨32, [], [(6, .val (.bool false))]⟩ : Env) (Zy O n []) n) (fun z9 => JX 0 n (⟨32, [], []⟩ : Env) (Zy O n []) n)) ?_
  intro s0_ x0_ hs0_
  unfold Z4 at hs0_
  try dsimp only
  refine Zr [1, 2, 15, 16, 17, 18] (Zc Zd [] ?_)
  simp only [push_cast, seval, ↓reduceIte, Za, hN0, hN]
  refine Zl ?_
  refine Zw (t := (decide (s0_ < (a0.length : Int)))) rfl (fun c8 => ?_) (fun c8 => ?_)
  ·replace hs0_ := Zv c8 hs0_
   refine Z0 ?_
   try simp only [Zk, Zg]
   refine Zi [1, 2, 15, 16, 17] [] ?_
   simp only [push_cast, seval, ↓reduceIte]
   refine Zl ?_
   refine Yr ?_
   refine Zl ?_
   obtain ⟨x2, hx2, ax2, bx2, cx2, hs0_⟩ := bE (f := Zb) V4 (fun _ => rfl) (by decide) hs0_
   refine Zc Zd [] ?_
   simp only [push_cast, Nat.reduceAdd, Nat.reduceSub, Nat.reduceMul, Nat.reduceLeDiff, Nat.reduceLT, Nat.reduceEqDiff, ↓reduceIte, reduceCtorEq, Int.reduceBEq, Int.reduceBNe, Nat.reduceBEq, Int.reduceLE, Int.reduceLT, Int.reduceEq, Int.reduceNe, Int.reduceNeg, Nat.reduceDiv, Nat.reduceMod, Nat.reducePow, Za, ax2, bx2, cx2, hN0, hN]
   refine Zi [1, 2, 7, 8, 15, 16, 17] [true] ?_
   simp only [push_cast, seval, ↓reduceIte]
   refine Zl ?_
   obtain ⟨x4, hx4, ax4, bx4, cx4, hs0_⟩ := bE (f := Zb) V4 (fun _ => rfl) (by decide) hs0_
   refine Zc Zd [] ?_
   simp only [push_cast, Nat.reduceAdd, Nat.reduceSub, Nat.reduceMul, Nat.reduceLeDiff, Nat.reduceLT, Nat.reduceEqDiff, ↓reduceIte, reduceCtorEq, Int.reduceBEq, Int.reduceBNe, Nat.reduceBEq, Int.reduceLE, Int.reduceLT, Int.reduceEq, Int.reduceNe, Int.reduceNeg, Nat.reduceDiv, Nat.reduceMod, Nat.reducePow, Za, ax4, bx4, cx4, hN0, hN]
   refine Zi [1, 2, 8, 9, 15, 16, 17] [true, true] ?_
   simp only [push_cast, seval, ↓reduceIte]
   refine Zl ?_
   obtain ⟨y6, hy6, hs0_⟩ := bC hs0_
   refine Zc Zd [] ?_
   simp only [push_cast, seval, ↓reduceIte, Za, hN0, hN]
   refine (Zg2 hy6).then ?_
   simp only [push_cast, seval, ↓reduceIte, Za, hN0, hN]
   refine Zi [1, 2, 15, 16, 17, 30] [false, false] ?_
   simp only [push_cast, seval, ↓reduceIte]
   refine Zw (t := (!y6)) rfl (fun c7 => ?_) (fun c7 => ?_)
   ·replace hs0_ := Zv c7 hs0_
    refine Zr [6] (Zc Zd [] ?_)
    simp only [push_cast, seval, ↓reduceIte, Za, hN0, hN]
    refine Z5 ?_
    try simp only [Zk, Zg]
    have hs0_ := Option.some.inj hs0_; subst hs0_
    refine And.intro (fun h => by cases h) (And.intro rfl (Fit2.of (Zj hU rfl rfl ?_) (by omega)))
    simp only [push_cast, seval, ↓reduceIte, Za, hN0, hN]
   replace hs0_ := Zu c7 hs0_
   refine Z0 ?_
   try simp only [Zk, Zg]
   refine Zi [1, 2, 15, 16, 17] [false, false] ?_
   simp only [push_cast, seval, ↓reduceIte]
   refine Zc Zd [] ?_
   simp only [push_cast, seval, ↓reduceIte, Za, hN0, hN]
   have hs0_ := Option.some.inj hs0_; subst hs0_
   refine And.intro rfl (Fit2.of (Zj hU rfl rfl ?_) (by omega))
   simp only [push_cast, seval, ↓reduceIte, Za, hN0, hN]
  replace hs0_ := Zu c8 hs0_
  refine Qd ?_
  try simp only [Zk, Zg, ↓reduceIte, Nat.reduceEqDiff]
  have hs0_ := Option.some.inj hs0_; subst hs0_
  refine And.intro (fun h => by cases h) (And.intro rfl (Fit2.of (Zj hU rfl rfl ?_) (by omega)))
  simp only [push_cast, seval, ↓reduceIte, Za, hN0, hN]
 rcases z9 with z9 | z9
 ·dsimp only [Qv] at hw h
  refine Vo hw ?_
  try simp only [Zk, Zg, ↓reduceIte, Nat.reduceEqDiff]
  have h := Option.some.inj h; subst h
  refine Zs (.inr rfl) hU [.val (.bool false)] (by omega) ?_
  simp only [push_cast, seval, ↓reduceIte, Za, Try.results66, hN0, hN]
 dsimp only [Qv] at hw h
 refine Yq hw ?_
 try simp only [Zk, Zg, ↓reduceIte, Nat.reduceEqDiff]
 refine Zi [] [] ?_
 simp only [push_cast, seval, ↓reduceIte]
 refine Zr [6] (Zc Zd [] ?_)
 simp only [push_cast, seval, ↓reduceIte, Za, hN0, hN]
 refine Z5 ?_
 try simp only [Zk, Zg]
 have h := Option.some.inj h; subst h
 refine Zs (.inr rfl) hU [.val (.bool true)] (by omega) ?_
 simp only [push_cast, seval, ↓reduceIte, Za, Try.results66, hN0, hN]
theorem Zfq : ∀ k, (∀ {a0 : S_api_Tree} {a1 : S_api_Tree} {r : Bool} {O : Objs} {n : Nat}, (Yu k).1 a0 a1 = some r → GTo Try.prog 24 [.agg (Ze a0), .agg (Ze a1)] O n (.val (.bool r)) O n) ∧ (∀ {a0 : (List S_api_Tree)} {a1 : (List S_api_Tree)} {r : Bool} {O : Objs} {n : Nat}, (Yu k).2 a0 a1 = some r → GTo Try.prog 66 [.sl a0.length (fl Zb a0), .sl a1.length (fl Zb a1), .fn 24 0 []] O n (.val (.bool r)) O n) := fun k => by
 induction k with
 | zero => exact ⟨@fun a0 a1 r O n h => (nomatch (show (none : Option _) = some _ from h)), @fun a0 a1 r O n h => (nomatch (show (none : Option _) = some _ from h))⟩
 | succ k ih => exact ⟨@fun a0 a1 r O n h => Zpr (ih.1) (ih.2)  h, @fun a0 a1 r O n h => Qu (ih.1) (ih.2)  h⟩
theorem Zrn {a0 : S_api_Tree} {a1 : S_api_Tree} {r : Bool} {O : Objs} {n : Nat} (h : Zgm a0 a1 = some r) : GTo Try.prog 24 [.agg (Ze a0), .agg (Ze a1)] O n (.val (.bool r)) O n := by
 obtain ⟨k, hk⟩ := Gk h
 exact (Zfq k).1  hk
theorem Q0 {a0 : (List S_api_Tree)} {a1 : (List S_api_Tree)} {r : Bool} {O : Objs} {n : Nat} (h : Yl a0 a1 = some r) : GTo Try.prog 66 [.sl a0.length (fl Zb a0), .sl a1.length (fl Zb a1), .fn 24 0 []] O n (.val (.bool r)) O n := by
 obtain ⟨k, hk⟩ := Gk h
 exact (Zfq k).2  hk
theorem Uu {a0 r : List Int} {O : Objs} {n : Nat} (h : Ki a0 = some r) : GTo Try.prog 126 [.sl a0.length (fl (eI .u64) a0)] O n (.row n r.length) (Zy O n [some ⟨true, 71, 1, r.length, fl (eI .u64) r⟩]) (n + 1) := by
 have h1 := Zsk h
 have h2 := Zsl h
 have h3 := Zob h
 rw [List.nil_append] at h3
 subst h3
 simp only [List.length_nil, Nat.zero_add] at h1 h2
 clear h
 refine Xj Zd Try.call126 Try.func126 rfl (Nat.le_of_ble_eq_true rfl) (by omega) fun hU => ?_
 have hN0 : O n = none := hU.fresh _ (Nat.le_refl _)
 have hN : ∀ k, O (n + k) = none := fun k => hU.fresh _ (Nat.le_add_right _ _)
 show W _ _ _ _ ⟨8, [], [(0, .sl r.length (fl (eI .u64) r))]⟩ (Zy O n []) _
 refine Zr [0] (Zc Zd [] ?_)
 simp only [push_cast, seval, ↓reduceIte, Za, hN0, hN]
 refine Zy3 0 r.length (fl (eI .u64) r) rfl (Nat.le_of_ble_eq_true rfl) (Yh Ke _) fun A c hA => ?_
 refine Zr [0, 4] (Zc Zd [] ?_)
 simp only [push_cast, seval, ↓reduceIte, Za, hN0, hN]
 cases A with
 | none =>
  obtain rfl : r = [] := List.eq_nil_of_length_eq_zero (hA rfl)
  refine Zw (t := true) rfl (fun _ => ?_) (fun hc => by cases hc)
  refine Zr [2] (Zc Zd [] ?_)
  simp only [push_cast, seval, ↓reduceIte, Za, hN0, hN]
  refine Z5 ?_
  try simp only [Zk, Zg]
  refine Zt7 (k := 1) (L3 := [some ⟨true, 71, 1, 0, []⟩]) (E2 := ⟨8, [], [(2, .row n 0), (2, .val (.slice none 0 0))]⟩) (n3 := (n + 1)) (.inr rfl) hU rfl [.row n 0] ?_ ?_
  ·have ha := Zm1 (ba := n) (E := ⟨8, [], [(2, .val (.slice none 0 0))]⟩) (O := (Zy O n [])) (n := n) 2 71 1 rfl (by omega)
   simp only [Q7] at ha
   exact ha
  simp only [push_cast, seval, ↓reduceIte, Za, Try.results126, hN0, hN]
 | some A =>
  refine Zw (t := false) rfl (fun hc => by cases hc) (fun _ => ?_)
  refine Z0 ?_
  try simp only [Zk, Zg]
  refine And.intro rfl (And.intro (Nat.le_of_ble_eq_true rfl) ?_)
  refine Zl ?_
  refine Zc Zd [] ?_
  simp only [push_cast, seval, ↓reduceIte, Za, h1, h2, hN0, hN]
  refine Z5 ?_
  try simp only [Zk, Zg]
  refine Zt6 (.inr rfl) hU rfl [.row n r.length] (by omega) ?_
  simp only [push_cast, seval, ↓reduceIte, Za, Try.results126, hN0, hN]
theorem Ql {a0 r : List S_api_Tree} {O : Objs} {n : Nat} (h : Qo a0 = some r) : GTo Try.prog 127 [.sl a0.length (fl Zb a0)] O n (.row n r.length) (Zy O n [some ⟨true, 25, 3, r.length, fl Zb r⟩]) (n + 1) := by
 have h1 := Zsk h
 have h2 := Zsl h
 have h3 := Zob h
 rw [List.nil_append] at h3
 subst h3
 simp only [List.length_nil, Nat.zero_add] at h1 h2
 clear h
 refine Xj Zd Try.call127 Try.func127 rfl (Nat.le_of_ble_eq_true rfl) (by omega) fun hU => ?_
 have hN0 : O n = none := hU.fresh _ (Nat.le_refl _)
 have hN : ∀ k, O (n + k) = none := fun k => hU.fresh _ (Nat.le_add_right _ _)
 show W _ _ _ _ ⟨8, [], [(0, .sl r.length (fl Zb r))]⟩ (Zy O n []) _
 refine Zr [0] (Zc Zd [] ?_)
 simp only [push_cast, seval, ↓reduceIte, Za, hN0, hN]
 refine Zy3 0 r.length (fl Zb r) rfl (Nat.le_of_ble_eq_true rfl) (Yh Ys _) fun A c hA => ?_
 refine Zr [0, 4] (Zc Zd [] ?_)
 simp only [push_cast, seval, ↓reduceIte, Za, hN0, hN]
 cases A with
 | none =>
  obtain rfl : r = [] := List.eq_nil_of_length_eq_zero (hA rfl)
  refine Zw (t := true) rfl (fun _ => ?_) (fun hc => by cases hc)
  refine Zr [2] (Zc Zd [] ?_)
  simp only [push_cast, seval, ↓reduceIte, Za, hN0, hN]
  refine Z5 ?_
  try simp only [Zk, Zg]
  refine Zt7 (k := 1) (L3 := [some ⟨true, 25, 3, 0, []⟩]) (E2 := ⟨8, [], [(2, .row n 0), (2, .val (.slice none 0 0))]⟩) (n3 := (n + 1)) (.inr rfl) hU rfl [.row n 0] ?_ ?_
  ·have ha := Zm1 (ba := n) (E := ⟨8, [], [(2, .val (.slice none 0 0))]⟩) (O := (Zy O n [])) (n := n) 2 25 3 rfl (by omega)
   simp only [Q7] at ha
   exact ha
  simp only [push_cast, seval, ↓reduceIte, Za, Try.results127, hN0, hN]
 | some A =>
  refine Zw (t := false) rfl (fun hc => by cases hc) (fun _ => ?_)
  refine Z0 ?_
  try simp only [Zk, Zg]
  refine And.intro rfl (And.intro (Nat.le_of_ble_eq_true rfl) ?_)
  refine Zl ?_
  refine Zc Zd [] ?_
  simp only [push_cast, seval, ↓reduceIte, Za, h1, h2, hN0, hN]
  refine Z5 ?_
  try simp only [Zk, Zg]
  refine Zt6 (.inr rfl) hU rfl [.row n r.length] (by omega) ?_
  simp only [push_cast, seval, ↓reduceIte, Za, Try.results127, hN0, hN]
theorem Zth {a0 : S_api_Tree} {a1 : Int} {r : Int} {O : Objs} {n : Nat} (h : Zci a0 a1 = some r) : GTo Try.prog 128 [.agg (Ze a0), .val (.int .i64 a1)] O n (.val (.int .u64 r)) O n := by
 unfold Zci at h
 refine Xj Zd Try.call128 Try.func128 rfl (Nat.le_of_ble_eq_true rfl) (Nat.le_refl _) fun hU => ?_
 have hN0 : O n = none := hU.fresh _ (Nat.le_refl _)
 have hN : ∀ k, O (n + k) = none := fun k => hU.fresh _ (Nat.le_add_right _ _)
 show W _ _ _ _ ⟨19, [], [(0, .agg (Ze a0)), (1, .val (.int .i64 a1))]⟩ (Zy O n []) _
 refine Zr [1, 2] (Zc Zd [] ?_)
 simp only [push_cast, seval, ↓reduceIte, Za, hN0, hN]
 refine Zl ?_
 refine Zr [1, 2, 13] (Zc Zd [none, none, none, none, none] ?_)
 simp only [push_cast, seval, ↓reduceIte, Za, hN0, hN]
 repeat (with_reducible refine And.intro (by first | (intro h0; simp only [h0, and_self]; done) | (intro h0; simp only [h0, Bool.not_false, Bool.not_true, Bool.true_and, Bool.and_true, true_and, and_true, and_self, imp_self, implies_true, bne_iff_ne, ne_eq, beq_iff_eq]; done) | (intros; simp_all; done) | exact True.intro) ?_)
 refine Zw (t := (cond (decide (a1 < 0)) true (decide ((a0.Words.length : Int) ≤ a1)))) rfl (fun c3 => ?_) (fun c3 => ?_)
 ·replace h := Zv c3 h
  refine Zr [4] (Zc Zd [] ?_)
  simp only [push_cast, seval, ↓reduceIte, Za, hN0, hN]
  refine Z5 ?_
  try simp only [Zk, Zg]
  have h := Option.some.inj h; subst h
  refine Zs (.inr rfl) hU [.val (.int .u64 0)] (by omega) ?_
  simp only [push_cast, seval, ↓reduceIte, Za, Try.results128, hN0, hN]
 replace h := Zu c3 h
 refine Z0 ?_
 try simp only [Zk, Zg]
 refine Zi [1, 2] [true] ?_
 simp only [push_cast, seval, ↓reduceIte]
 obtain ⟨x2, hx2, ax2, bx2, cx2, h⟩ := bE (f := (eI .u64)) Zbp (fun _ => rfl) (by decide) h
 refine Zr [4] (Zc Zd [] ?_)
 simp only [push_cast, Nat.reduceAdd, Nat.reduceSub, Nat.reduceMul, Nat.reduceLeDiff, Nat.reduceLT, Nat.reduceEqDiff, ↓reduceIte, reduceCtorEq, Int.reduceBEq, Int.reduceBNe, Nat.reduceBEq, Int.reduceLE, Int.reduceLT, Int.reduceEq, Int.reduceNe, Int.reduceNeg, Nat.reduceDiv, Nat.reduceMod, Nat.reducePow, Za, ax2, bx2, cx2, hN0, hN]
 refine Z5 ?_
 try simp only [Zk, Zg]
 have h := Option.some.inj h; subst h
 refine Zs (.inr rfl) hU [.val (.int .u64 x2)] (by omega) ?_
 simp only [push_cast, seval, ↓reduceIte, Za, Try.results128, hN0, hN]
theorem Zbw {a0 : Int} {r : Bool} {O : Objs} {n : Nat} (h : Vj a0 = some r) : GTo Try.prog 129 [.val (.int .i64 a0)] O n (.val (.bool r)) O n := by
 unfold Vj at h
 refine Xj Zd Try.call129 Try.func129 rfl (Nat.le_of_ble_eq_true rfl) (Nat.le_refl _) fun hU => ?_
 have hN0 : O n = none := hU.fresh _ (Nat.le_refl _)
 have hN : ∀ k, O (n + k) = none := fun k => hU.fresh _ (Nat.le_add_right _ _)
 show W _ _ _ _ ⟨9, [], [(0, .val (.int .i64 a0))]⟩ (Zy O n []) _
 refine Zr [0] (Zc Zd [] ?_)
 simp only [push_cast, seval, ↓reduceIte, Za, hN0, hN]
 refine Zr [2] (Zc Zd [none, none] ?_)
 simp only [push_cast, seval, ↓reduceIte, Za, hN0, hN]
 repeat (with_reducible refine And.intro (by first | (intro h0; simp only [h0, and_self]; done) | (intro h0; simp only [h0, Bool.not_false, Bool.not_true, Bool.true_and, Bool.and_true, true_and, and_true, and_self, imp_self, implies_true, bne_iff_ne, ne_eq, beq_iff_eq]; done) | (intros; simp_all; done) | exact True.intro) ?_)
 refine Z5 ?_
 try simp only [Zk, Zg]
 have h := Option.some.inj h; subst h
 refine Zs (.inr rfl) hU [.val (.bool (cond (decide (a0 < 0)) true (decide (65534 < a0))))] (by omega) ?_
 simp only [push_cast, seval, ↓reduceIte, Za, Try.results129, hN0, hN]
theorem Zla {a0 : Int} {r : Int} {O : Objs} {n : Nat} (h : Gn a0 = some r) : GTo Try.prog 121 [.val (.int .u8 a0)] O n (.val (.int .u64 r)) O n := by
 unfold Gn at h
 refine Xj Zd Try.call121 Try.func121 rfl (Nat.le_of_ble_eq_true rfl) (Nat.le_refl _) fun hU => ?_
 have hN0 : O n = none := hU.fresh _ (Nat.le_refl _)
 have hN : ∀ k, O (n + k) = none := fun k => hU.fresh _ (Nat.le_add_right _ _)
 show W _ _ _ _ ⟨20, [], [(0, .val (.int .u8 a0))]⟩ (Zy O n []) _
 refine Zr [0] (Zc Zd [] ?_)
 simp only [push_cast, seval, ↓reduceIte, Za, hN0, hN]
 refine Zr [0, 3] (Zc Zd [] ?_)
 simp only [push_cast, seval, ↓reduceIte, Za, hN0, hN]
 refine Zl ?_
 refine Zr [0, 3, 5] (Zc Zd [] ?_)
 simp only [push_cast, seval, ↓reduceIte, Za, hN0, hN]
 refine Zi [0, 3, 5] [] ?_
 simp only [push_cast, seval, ↓reduceIte]
 obtain ⟨z7, hz7, h⟩ := bC h
 refine Yq (E' := ⟨20, [], [(3, .val (.int .u64 z7))]⟩) (O' := (Zy O n [])) (n0 := n) ?_ ?_
 ·refine Y6 hz7 (fun s0_ => ⟨20, [], [(0, .val (.int .u8 a0)), (3, .val (.int .u64 s0_.1)), (5, .val (.int .i64 s0_.2))]⟩) (fun s0_ => (Zy O n [])) (fun z7 => JX 0 n (⟨20, [], [(3, .val (.int .u64 z7))]⟩ : Env) (Zy O n []) n) ?_
  intro s0_ x0_ hs0_
  unfold Gp at hs0_
  try dsimp only
  refine Zr [0, 3, 5, 6] (Zc Zd [] ?_)
  simp only [push_cast, seval, ↓reduceIte, Za, hN0, hN]
  refine Zl ?_
  refine Zw (t := (decide (s0_.2 < 8))) rfl (fun c6 => ?_) (fun c6 => ?_)
  ·replace hs0_ := Zv c6 hs0_
   refine Z0 ?_
   try simp only [Zk, Zg]
   refine Zi [0, 3, 5] [] ?_
   simp only [push_cast, seval, ↓reduceIte]
   obtain ⟨z1, hz1, hs0_⟩ := bC hs0_
   refine Xg (E' := ⟨20, [], [(0, .val (.int .u8 a0)), (3, .val (.int .u64 z1)), (5, .val (.int .i64 s0_.2))]⟩) (O' := (Zy O n [])) (n0 := n) ?_ ?_
   ·refine Yr ?_
    refine Zr [0, 3, 4, 5] (Zc Zd [] ?_)
    simp only [push_cast, seval, ↓reduceIte, Za, hN0, hN]
    obtain ⟨pu3, hz1⟩ := bG hz1
    refine Zr [0, 3, 4, 5, 12] (Zc Zd [] ?_)
    simp only [push_cast, seval, ↓reduceIte, Za, pu3, hN0, hN]
    refine Zw (t := ((IntKind.u8.wrap (Zes .u8 (Int.fdiv a0 (2 ^ min (Int.toNat s0_.2) 8)) 1)) == 1)) rfl (fun c5 => ?_) (fun c5 => ?_)
    ·replace hz1 := Zv c5 hz1
     obtain ⟨pu4, hz1⟩ := bG hz1
     refine Zc Zd [] ?_
     simp only [push_cast, seval, ↓reduceIte, Za, pu4, hN0, hN]
     have hz1 := Option.some.inj hz1; subst hz1
     refine And.intro rfl (Fit2.of (Zj hU rfl rfl ?_) (by omega))
     simp only [push_cast, seval, ↓reduceIte, Za, pu4, hN0, hN]
    replace hz1 := Zu c5 hz1
    refine Z0 ?_
    try simp only [Zk, Zg]
    have hz1 := Option.some.inj hz1; subst hz1
    refine And.intro rfl (Fit2.of (Zj hU rfl rfl ?_) (by omega))
    simp only [push_cast, seval, ↓reduceIte, Za, hN0, hN]
   refine Zc Zd [] ?_
   simp only [push_cast, seval, ↓reduceIte, Za, hN0, hN]
   have hs0_ := Option.some.inj hs0_; subst hs0_
   refine And.intro rfl (Fit2.of (Zj hU rfl rfl ?_) (by omega))
   simp only [push_cast, seval, ↓reduceIte, Za, hN0, hN]
  replace hs0_ := Zu c6 hs0_
  refine Qd ?_
  try simp only [Zk, Zg, ↓reduceIte, Nat.reduceEqDiff]
  have hs0_ := Option.some.inj hs0_; subst hs0_
  refine And.intro (fun h => by cases h) (And.intro rfl (Fit2.of (Zj hU rfl rfl ?_) (by omega)))
  simp only [push_cast, seval, ↓reduceIte, Za, hN0, hN]
 try simp only [Zk, Zg, ↓reduceIte, Nat.reduceEqDiff]
 refine Zi [3] [] ?_
 simp only [push_cast, seval, ↓reduceIte]
 refine Zr [2] (Zc Zd [] ?_)
 simp only [push_cast, seval, ↓reduceIte, Za, hN0, hN]
 refine Z5 ?_
 try simp only [Zk, Zg]
 have h := Option.some.inj h; subst h
 refine Zs (.inr rfl) hU [.val (.int .u64 z7)] (by omega) ?_
 simp only [push_cast, seval, ↓reduceIte, Za, Try.results121, hN0, hN]
theorem Zun {a0 : Int} {a1 : Int} {a2 : Int} {r : Int} {O : Objs} {n : Nat} (h : Zbu a0 a1 a2 = some r) : GTo Try.prog 131 [.val (.int .u64 a0), .val (.int .u64 a1), .val (.int .u8 a2)] O n (.val (.int .u64 r)) O n := by
 unfold Zbu at h
 refine Xj Zd Try.call131 Try.func131 rfl (Nat.le_of_ble_eq_true rfl) (Nat.le_refl _) fun hU => ?_
 have hN0 : O n = none := hU.fresh _ (Nat.le_refl _)
 have hN : ∀ k, O (n + k) = none := fun k => hU.fresh _ (Nat.le_add_right _ _)
 show W _ _ _ _ ⟨17, [], [(0, .val (.int .u64 a0)), (1, .val (.int .u64 a1)), (2, .val (.int .u8 a2))]⟩ (Zy O n []) _
 refine Zr [0, 1, 2] (Zc Zd [] ?_)
 simp only [push_cast, seval, ↓reduceIte, Za, hN0, hN]
 refine Zl ?_
 obtain ⟨y2, hy2, h⟩ := bC h
 refine Zc Zd [] ?_
 simp only [push_cast, seval, ↓reduceIte, Za, hN0, hN]
 refine (Zla hy2).then ?_
 simp only [push_cast, seval, ↓reduceIte, Za, hN0, hN]
 refine Zi [0, 1, 7] [] ?_
 simp only [push_cast, seval, ↓reduceIte]
 refine Zr [6] (Zc Zd [] ?_)
 simp only [push_cast, seval, ↓reduceIte, Za, hN0, hN]
 refine Z5 ?_
 try simp only [Zk, Zg]
 have h := Option.some.inj h; subst h
 refine Zs (.inr rfl) hU [.val (.int .u64 (IntKind.u64.wrap (Zpm .u64 (IntKind.u64.wrap (Zr5 .u64 a0 y2)) (IntKind.u64.wrap (Zes .u64 a1 y2)))))] (by omega) ?_
 simp only [push_cast, seval, ↓reduceIte, Za, Try.results131, hN0, hN]
theorem Znd {a0 : S_api_Tree} {a1 : Int} {a2 : Int} {r : S_api_Tree} {O : Objs} {n : Nat} {i0 j0_0 j0_1 : Nat} (hi0 : i0 < n) (Zce : j0_0 < n) (Z2e : j0_1 < n) (Gh : i0 ≠ j0_0) (Zwu : i0 ≠ j0_1) (Zwt : j0_0 ≠ j0_1) (ho0 : O i0 = some ⟨false, 25, 3, 1, [.val (.int .i64 a0.Kind), .row j0_1 a0.Words.length, .row j0_0 a0.Kids.length]⟩) (Zbt : O j0_0 = some ⟨true, 25, 3, a0.Kids.length, fl Zb a0.Kids⟩) (Z2u : O j0_1 = some ⟨true, 71, 1, a0.Words.length, fl (eI .u64) a0.Words⟩) (h : U2 a0 a1 a2 = some r) : GTo Try.prog 130 [.ref i0 0, .val (.int .i64 a1), .val (.int .u64 a2)] O n (.tup []) (Zy (((O.upd j0_0 none).upd j0_1 none).upd i0 (some ⟨false, 25, 3, 1, [.val (.int .i64 r.Kind), .row (n + 1) r.Words.length, .row n r.Kids.length]⟩)) n [some ⟨true, 25, 3, r.Kids.length, fl Zb r.Kids⟩, some ⟨true, 71, 1, r.Words.length, fl (eI .u64) r.Words⟩]) (n + 2) := by
 unfold U2 at h
 refine Xj Zd Try.call130 Try.func130 rfl (Nat.le_of_ble_eq_true rfl) (by omega) fun hU => ?_
 have e0 := Zii (ba := n) (E := ⟨40, [], Zj0 0 [.ref i0 0, .val (.int .i64 a1), .val (.int .u64 a2)]⟩) (O := (Zy O n [])) (n := n) (i := i0) (j := j0_0) (k := 2) (len := a0.Kids.length) (q := ⟨false, 25, 3, 1, [.val (.int .i64 a0.Kind), .row j0_1 a0.Words.length, .row j0_0 a0.Kids.length]⟩) (qj := ⟨true, 25, 3, a0.Kids.length, fl Zb a0.Kids⟩) (by rw [Xx _ hi0]; first | exact ho0 | exact Yp _ _ _) rfl (by rw [Xx _ Zce]; exact Zbt) Gh (by omega)
 simp only [K1 _ _ Zce, K1 _ _ hi0, Vn, Q7, Zam, Zq8 Gh, List.set_cons_zero, List.set_cons_succ, List.cons_append, List.nil_append, List.length_cons, List.length_nil, Nat.zero_add, Nat.reduceAdd, Nat.add_assoc] at e0
 refine Zez e0 ?_
 have e1 := Zii (ba := n) (E := ⟨40, [], Zj0 0 [.ref i0 0, .val (.int .i64 a1), .val (.int .u64 a2)]⟩) (O := (Zy ((O.upd j0_0 none).upd i0 (some ⟨false, 25, 3, 1, [.val (.int .i64 a0.Kind), .row j0_1 a0.Words.length, .row n a0.Kids.length]⟩)) n [some ⟨true, 25, 3, a0.Kids.length, fl Zb a0.Kids⟩])) (n := (n + 1)) (i := i0) (j := j0_1) (k := 1) (len := a0.Words.length) (q := ⟨false, 25, 3, 1, [.val (.int .i64 a0.Kind), .row j0_1 a0.Words.length, .row n a0.Kids.length]⟩) (qj := ⟨true, 71, 1, a0.Words.length, fl (eI .u64) a0.Words⟩) (by rw [Xx _ hi0]; first | exact ho0 | exact Yp _ _ _) rfl (by rw [Xx _ Z2e, Xv _ _ (Ne.symm Zwu), Xv _ _ (Ne.symm Zwt)]; exact Z2u) Zwu (by omega)
 simp only [K1 _ _ Z2e, K1 _ _ hi0, Vn, Q7, Zam, Zq8 Zwu, List.set_cons_zero, List.set_cons_succ, List.cons_append, List.nil_append, List.length_cons, List.length_nil, Nat.zero_add, Nat.reduceAdd, Nat.add_assoc] at e1
 refine Zez e1 ?_
 have hU := (Und.drop (Und.drop hU j0_0) j0_1)
 have hk0 : ∀ k, i0 < n + k := fun k => by omega
 have hN0 : ∀ o, Objs.upd ((O.upd j0_0 none).upd j0_1 none) i0 o n = none := fun o => Za0 hU hi0 _ (Nat.le_refl _)
 have hN : ∀ o k, Objs.upd ((O.upd j0_0 none).upd j0_1 none) i0 o (n + k) = none := fun o k => Za0 hU hi0 _ (Nat.le_add_right _ _)
 show W _ _ _ _ ⟨40, [], [(0, .ref i0 0), (1, .val (.int .i64 a1)), (2, .val (.int .u64 a2))]⟩ (Zy (((O.upd j0_0 none).upd j0_1 none).upd i0 (some ⟨false, 25, 3, 1, [.val (.int .i64 a0.Kind), .row (n + 1) a0.Words.length, .row n a0.Kids.length]⟩)) n [some ⟨true, 25, 3, a0.Kids.length, fl Zb a0.Kids⟩, some ⟨true, 71, 1, a0.Words.length, fl (eI .u64) a0.Words⟩]) _
 refine Zl ?_
 refine Zi [0, 1, 2] [true, true] ?_
 simp only [push_cast, seval, ↓reduceIte]
 obtain ⟨z3, hz3, h⟩ := bC h
 refine Yq (E' := ⟨40, [], [(0, .ref i0 0), (1, .val (.int .i64 a1)), (2, .val (.int .u64 a2))]⟩) (O' := (Zy (((O.upd j0_0 none).upd j0_1 none).upd i0 (some ⟨false, 25, 3, 1, [.val (.int .i64 a0.Kind), .row (n + 1) z3.length, .row n a0.Kids.length]⟩)) n [some ⟨true, 25, 3, a0.Kids.length, fl Zb a0.Kids⟩, some ⟨true, 71, 1, z3.length, fl (eI .u64) z3⟩])) (n0 := (n + 2)) ?_ ?_
 ·refine Y6 hz3 (fun s0_ => ⟨40, [], [(0, .ref i0 0), (1, .val (.int .i64 a1)), (2, .val (.int .u64 a2))]⟩) (fun s0_ => (Zy (((O.upd j0_0 none).upd j0_1 none).upd i0 (some ⟨false, 25, 3, 1, [.val (.int .i64 a0.Kind), .row (n + 1) s0_.length, .row n a0.Kids.length]⟩)) n [some ⟨true, 25, 3, a0.Kids.length, fl Zb a0.Kids⟩, some ⟨true, 71, 1, s0_.length, fl (eI .u64) s0_⟩])) (fun z3 => JX 0 n (⟨40, [], [(0, .ref i0 0), (1, .val (.int .i64 a1)), (2, .val (.int .u64 a2))]⟩ : Env) (Zy (((O.upd j0_0 none).upd j0_1 none).upd i0 (some ⟨false, 25, 3, 1, [.val (.int .i64 a0.Kind), .row (n + 1) z3.length, .row n a0.Kids.length]⟩)) n [some ⟨true, 25, 3, a0.Kids.length, fl Zb a0.Kids⟩, some ⟨true, 71, 1, z3.length, fl (eI .u64) z3⟩]) (n + 2)) ?_
  intro s0_ x0_ hs0_
  unfold K9 at hs0_
  try dsimp only
  refine Zl ?_
  refine Zr [0, 1, 2, 16] (Zc Zd [none, none] ?_)
  simp only [push_cast, seval, ↓reduceIte, Za, hi0, hk0, hN0, hN]
  repeat (with_reducible refine And.intro (by first | (intro h0; simp only [h0, and_self]; done) | (intro h0; simp only [h0, Bool.not_false, Bool.not_true, Bool.true_and, Bool.and_true, true_and, and_true, and_self, imp_self, implies_true, bne_iff_ne, ne_eq, beq_iff_eq]; done) | (intros; simp_all; done) | exact True.intro) ?_)
  refine Zw (t := (cond (decide ((s0_.length : Int) ≤ a1)) (a2 != 0) false)) rfl (fun c2 => ?_) (fun c2 => ?_)
  ·replace hs0_ := Zv c2 hs0_
   refine Z0 ?_
   try simp only [Zk, Zg]
   refine Zi [0, 1, 2] [true, true] ?_
   simp only [push_cast, seval, ↓reduceIte]
   refine Yr ?_
   obtain ⟨l1, pl1, ql1, el1, hs0_⟩ := bA (k := 1) rfl hs0_
   refine Zc Zd [] ?_
   simp only [push_cast, seval, ↓reduceIte, Za, pl1, ql1, el1, hi0, hk0, hN0, hN]
   have hs0_ := Option.some.inj hs0_; subst hs0_
   refine And.intro rfl (Fit2.of (Xi hU rfl rfl ?_) (by omega))
   simp only [push_cast, seval, ↓reduceIte, Za, pl1, ql1, el1, hi0, hk0, hN0, hN]
  replace hs0_ := Zu c2 hs0_
  refine Qd ?_
  try simp only [Zk, Zg, ↓reduceIte, Nat.reduceEqDiff]
  have hs0_ := Option.some.inj hs0_; subst hs0_
  refine And.intro (fun h => by cases h) (And.intro rfl (Fit2.of (Xi hU rfl rfl ?_) (by omega)))
  simp only [push_cast, seval, ↓reduceIte, Za, hi0, hk0, hN0, hN]
 try simp only [Zk, Zg, ↓reduceIte, Nat.reduceEqDiff]
 refine Zi [0, 1, 2] [true, true] ?_
 simp only [push_cast, seval, ↓reduceIte]
 refine Zr [0, 1, 2, 32] (Zc Zd [] ?_)
 simp only [push_cast, seval, ↓reduceIte, Za, hi0, hk0, hN0, hN]
 refine Zw (t := (decide (a1 < (z3.length : Int)))) rfl (fun c6 => ?_) (fun c6 => ?_)
 ·replace h := Zv c6 h
  obtain ⟨x4, hx4, ax4, bx4, cx4, h⟩ := bE (f := (eI .u64)) Zbp (fun _ => rfl) (by decide) h
  have gu5 : K8 (fl (eI .u64) z3) [.val (.int .u64 a2)] (Int.toNat a1 * 1) = some (fl (eI .u64) (Zav z3 a1 a2)) := Zfm (f := (eI .u64)) (ti := ⟨.bool, 1, 0, [], false⟩) (x := a2) (fun _ => rfl) (Za9 hx4)
  refine Zc Zd [] ?_
  simp only [push_cast, Nat.reduceAdd, Nat.reduceSub, Nat.reduceMul, Nat.reduceLeDiff, Nat.reduceLT, Nat.reduceEqDiff, ↓reduceIte, reduceCtorEq, Int.reduceBEq, Int.reduceBNe, Nat.reduceBEq, Int.reduceLE, Int.reduceLT, Int.reduceEq, Int.reduceNe, Int.reduceNeg, Nat.reduceDiv, Nat.reduceMod, Nat.reducePow, Za, ax4, bx4, cx4, gu5, hi0, hk0, hN0, hN]
  have h := Option.some.inj h; subst h
  refine Ug (k := 2) (i := i0) (q1 := ⟨false, 25, 3, 1, [.val (.int .i64 a0.Kind), .row (n + 1) (Zav z3 a1 a2).length, .row n a0.Kids.length]⟩) (L3 := [some ⟨true, 25, 3, a0.Kids.length, fl Zb a0.Kids⟩, some ⟨true, 71, 1, (Zav z3 a1 a2).length, fl (eI .u64) (Zav z3 a1 a2)⟩, none]) (E2 := (⟨40, [], []⟩ : Env)) (n3 := (n + 3)) (.inl rfl) hU rfl [] ?_ ?_
  ·refine Fit2.trans (E' := (⟨40, [], []⟩ : Env)) (O' := (Zy (((O.upd j0_0 none).upd j0_1 none).upd i0 (some ⟨false, 25, 3, 1, [.val (.int .i64 a0.Kind), .row (n + 1) (Zav z3 a1 a2).length, .row n a0.Kids.length]⟩)) n [some ⟨true, 25, 3, a0.Kids.length, fl Zb a0.Kids⟩, some ⟨true, 71, 1, (Zav z3 a1 a2).length, fl (eI .u64) (Zav z3 a1 a2)⟩])) (n' := (n + 2)) (Fit2.of (Xi hU rfl rfl ?_) (by omega)) ?_
   ·simp only [push_cast, Nat.reduceAdd, Nat.reduceSub, Nat.reduceMul, Nat.reduceLeDiff, Nat.reduceLT, Nat.reduceEqDiff, ↓reduceIte, reduceCtorEq, Int.reduceBEq, Int.reduceBNe, Nat.reduceBEq, Int.reduceLE, Int.reduceLT, Int.reduceEq, Int.reduceNe, Int.reduceNeg, Nat.reduceDiv, Nat.reduceMod, Nat.reducePow, Za, ax4, bx4, cx4, gu5, hi0, hk0, hN0, hN]
   refine Un (k := 2) (k' := 3) hU [0, 1] [0, 1, 0] rfl rfl rfl rfl ⟨rfl, rfl⟩ ?_
   simp only [push_cast, seval, ↓reduceIte, Za, hi0, hk0, hN0, hN]
  simp only [push_cast, seval, ↓reduceIte, Za, Try.results130, hi0, hk0, hN0, hN]
 replace h := Zu c6 h
 refine Z0 ?_
 try simp only [Zk, Zg]
 have h := Option.some.inj h; subst h
 refine Ug (k := 2) (i := i0) (q1 := ⟨false, 25, 3, 1, [.val (.int .i64 a0.Kind), .row (n + 1) z3.length, .row n a0.Kids.length]⟩) (L3 := [some ⟨true, 25, 3, a0.Kids.length, fl Zb a0.Kids⟩, some ⟨true, 71, 1, z3.length, fl (eI .u64) z3⟩, none]) (E2 := (⟨40, [], []⟩ : Env)) (n3 := (n + 3)) (.inl rfl) hU rfl [] ?_ ?_
 ·refine Fit2.trans (E' := (⟨40, [], []⟩ : Env)) (O' := (Zy (((O.upd j0_0 none).upd j0_1 none).upd i0 (some ⟨false, 25, 3, 1, [.val (.int .i64 a0.Kind), .row (n + 1) z3.length, .row n a0.Kids.length]⟩)) n [some ⟨true, 25, 3, a0.Kids.length, fl Zb a0.Kids⟩, some ⟨true, 71, 1, z3.length, fl (eI .u64) z3⟩])) (n' := (n + 2)) (Fit2.of (Xi hU rfl rfl ?_) (by omega)) ?_
  ·simp only [push_cast, seval, ↓reduceIte, Za, hi0, hk0, hN0, hN]
  refine Un (k := 2) (k' := 3) hU [0, 1] [0, 1, 0] rfl rfl rfl rfl ⟨rfl, rfl⟩ ?_
  simp only [push_cast, seval, ↓reduceIte, Za, hi0, hk0, hN0, hN]
 simp only [push_cast, seval, ↓reduceIte, Za, Try.results130, hi0, hk0, hN0, hN]
theorem Zny {a0 : S_api_Tree} {a1 : Int} {r : S_api_Tree} {O : Objs} {n : Nat} (h : Zdl a0 a1 = some r) : GTo Try.prog 132 [.agg (Ze a0), .val (.int .i64 a1)] O n (.agg (Ze r)) O n := by
 unfold Zdl at h
 refine Xj Zd Try.call132 Try.func132 rfl (Nat.le_of_ble_eq_true rfl) (Nat.le_refl _) fun hU => ?_
 have hN0 : O n = none := hU.fresh _ (Nat.le_refl _)
 have hN : ∀ k, O (n + k) = none := fun k => hU.fresh _ (Nat.le_add_right _ _)
 show W _ _ _ _ ⟨20, [], [(0, .agg (Ze a0)), (1, .val (.int .i64 a1))]⟩ (Zy O n []) _
 refine Zr [1, 2, 4] (Zc Zd [] ?_)
 simp only [push_cast, seval, ↓reduceIte, Za, hN0, hN]
 refine Zl ?_
 refine Zr [1, 2, 4, 13] (Zc Zd [none, none, none, none, none] ?_)
 simp only [push_cast, seval, ↓reduceIte, Za, hN0, hN]
 repeat (with_reducible refine And.intro (by first | (intro h0; simp only [h0, and_self]; done) | (intro h0; simp only [h0, Bool.not_false, Bool.not_true, Bool.true_and, Bool.and_true, true_and, and_true, and_self, imp_self, implies_true, bne_iff_ne, ne_eq, beq_iff_eq]; done) | (intros; simp_all; done) | exact True.intro) ?_)
 refine Zw (t := (cond (decide (a1 < 0)) true (decide ((a0.Kids.length : Int) ≤ a1)))) rfl (fun c3 => ?_) (fun c3 => ?_)
 ·replace h := Zv c3 h
  refine Zl ?_
  refine Zc Zd [] ?_
  simp only [push_cast, seval, ↓reduceIte, Za, hN0, hN]
  refine Zi [4] [false, true] ?_
  simp only [push_cast, seval, ↓reduceIte]
  refine Z5 ?_
  try simp only [Zk, Zg]
  have h := Option.some.inj h; subst h
  refine Zs (.inr rfl) hU [.agg [.val (.int .i64 0), .val (.slice none 0 0), .val (.slice none 0 0)]] (by omega) ?_
  simp only [push_cast, seval, ↓reduceIte, Za, Try.results132, hN0, hN]
 replace h := Zu c3 h
 refine Z0 ?_
 try simp only [Zk, Zg]
 refine Zi [1, 2, 4] [true, true] ?_
 simp only [push_cast, seval, ↓reduceIte]
 refine Zl ?_
 obtain ⟨x2, hx2, ax2, bx2, cx2, h⟩ := bE (f := Zb) V4 (fun _ => rfl) (by decide) h
 refine Zc Zd [] ?_
 simp only [push_cast, Nat.reduceAdd, Nat.reduceSub, Nat.reduceMul, Nat.reduceLeDiff, Nat.reduceLT, Nat.reduceEqDiff, ↓reduceIte, reduceCtorEq, Int.reduceBEq, Int.reduceBNe, Nat.reduceBEq, Int.reduceLE, Int.reduceLT, Int.reduceEq, Int.reduceNe, Int.reduceNeg, Nat.reduceDiv, Nat.reduceMod, Nat.reducePow, Za, ax2, bx2, cx2, hN0, hN]
 refine Zi [4] [false, true] ?_
 simp only [push_cast, seval, ↓reduceIte]
 refine Z5 ?_
 try simp only [Zk, Zg]
 have h := Option.some.inj h; subst h
 refine Zs (.inr rfl) hU [.agg (Ze x2)] (by omega) ?_
 simp only [push_cast, seval, ↓reduceIte, Za, Try.results132, hN0, hN]
theorem Zn7 {a0 : S_api_Tree} {a1 : Int} {a2 : S_api_Tree} {r : S_api_Tree} {O : Objs} {n : Nat} {i0 j0_0 : Nat} (hi0 : i0 < n) (Zce : j0_0 < n) (Gh : i0 ≠ j0_0) (ho0 : O i0 = some ⟨false, 25, 3, 1, [.val (.int .i64 a0.Kind), .sl a0.Words.length (fl (eI .u64) a0.Words), .row j0_0 a0.Kids.length]⟩) (Zbt : O j0_0 = some ⟨true, 25, 3, a0.Kids.length, fl Zb a0.Kids⟩) (h : Gm a0 a1 a2 = some r) : GTo Try.prog 133 [.ref i0 0, .val (.int .i64 a1), .agg (Ze a2)] O n (.tup []) (Zy ((O.upd j0_0 none).upd i0 (some ⟨false, 25, 3, 1, [.val (.int .i64 r.Kind), .sl r.Words.length (fl (eI .u64) r.Words), .row n r.Kids.length]⟩)) n [some ⟨true, 25, 3, r.Kids.length, fl Zb r.Kids⟩]) (n + 1) := by
 unfold Gm at h
 refine Xj Zd Try.call133 Try.func133 rfl (Nat.le_of_ble_eq_true rfl) (by omega) fun hU => ?_
 have e0 := Zii (ba := n) (E := ⟨43, [], Zj0 0 [.ref i0 0, .val (.int .i64 a1), .agg [.val (.int .i64 a2.Kind), .sl a2.Words.length (fl (eI .u64) a2.Words), .sl a2.Kids.length (fl Zb a2.Kids)]]⟩) (O := (Zy O n [])) (n := n) (i := i0) (j := j0_0) (k := 2) (len := a0.Kids.length) (q := ⟨false, 25, 3, 1, [.val (.int .i64 a0.Kind), .sl a0.Words.length (fl (eI .u64) a0.Words), .row j0_0 a0.Kids.length]⟩) (qj := ⟨true, 25, 3, a0.Kids.length, fl Zb a0.Kids⟩) (by rw [Xx _ hi0]; first | exact ho0 | exact Yp _ _ _) rfl (by rw [Xx _ Zce]; exact Zbt) Gh (by omega)
 simp only [K1 _ _ Zce, K1 _ _ hi0, Vn, Q7, Zam, Zq8 Gh, List.set_cons_zero, List.set_cons_succ, List.cons_append, List.nil_append, List.length_cons, List.length_nil, Nat.zero_add, Nat.reduceAdd, Nat.add_assoc] at e0
 refine Zez e0 ?_
 have hU := (Und.drop hU j0_0)
 have hk0 : ∀ k, i0 < n + k := fun k => by omega
 have hN0 : ∀ o, Objs.upd (O.upd j0_0 none) i0 o n = none := fun o => Za0 hU hi0 _ (Nat.le_refl _)
 have hN : ∀ o k, Objs.upd (O.upd j0_0 none) i0 o (n + k) = none := fun o k => Za0 hU hi0 _ (Nat.le_add_right _ _)
 show W _ _ _ _ ⟨43, [], [(0, .ref i0 0), (1, .val (.int .i64 a1)), (2, .agg (Ze a2))]⟩ (Zy ((O.upd j0_0 none).upd i0 (some ⟨false, 25, 3, 1, [.val (.int .i64 a0.Kind), .sl a0.Words.length (fl (eI .u64) a0.Words), .row n a0.Kids.length]⟩)) n [some ⟨true, 25, 3, a0.Kids.length, fl Zb a0.Kids⟩]) _
 refine Zr [0, 1, 5] (Zc Zd [] ?_)
 simp only [push_cast, seval, ↓reduceIte, Za, hi0, hk0, hN0, hN]
 refine Zl ?_
 refine Zi [0, 1, 5] [true, true] ?_
 simp only [push_cast, seval, ↓reduceIte]
 obtain ⟨z5, hz5, h⟩ := bC h
 refine Yq (E' := ⟨43, [], [(0, .ref i0 0), (1, .val (.int .i64 a1)), (5, .ref (n + 1) 0)]⟩) (O' := (Zy ((O.upd j0_0 none).upd i0 (some ⟨false, 25, 3, 1, [.val (.int .i64 a0.Kind), .sl a0.Words.length (fl (eI .u64) a0.Words), .row n z5.length]⟩)) n [some ⟨true, 25, 3, z5.length, fl Zb z5⟩, some ⟨false, 25, 3, 1, (Ze a2)⟩])) (n0 := (n + 2)) ?_ ?_
 ·refine Y6 hz5 (fun s0_ => ⟨43, [], [(0, .ref i0 0), (1, .val (.int .i64 a1)), (5, .ref (n + 1) 0)]⟩) (fun s0_ => (Zy ((O.upd j0_0 none).upd i0 (some ⟨false, 25, 3, 1, [.val (.int .i64 a0.Kind), .sl a0.Words.length (fl (eI .u64) a0.Words), .row n s0_.length]⟩)) n [some ⟨true, 25, 3, s0_.length, fl Zb s0_⟩, some ⟨false, 25, 3, 1, (Ze a2)⟩])) (fun z5 => JX 0 n (⟨43, [], [(0, .ref i0 0), (1, .val (.int .i64 a1)), (5, .ref (n + 1) 0)]⟩ : Env) (Zy ((O.upd j0_0 none).upd i0 (some ⟨false, 25, 3, 1, [.val (.int .i64 a0.Kind), .sl a0.Words.length (fl (eI .u64) a0.Words), .row n z5.length]⟩)) n [some ⟨true, 25, 3, z5.length, fl Zb z5⟩, some ⟨false, 25, 3, 1, (Ze a2)⟩]) (n + 2)) ?_
  intro s0_ x0_ hs0_
  unfold Vv at hs0_
  try dsimp only
  refine Zl ?_
  refine Zr [0, 1, 5, 17] (Zc Zd [none, none, none] ?_)
  simp only [push_cast, seval, ↓reduceIte, Za, hi0, hk0, hN0, hN]
  repeat (with_reducible refine And.intro (by first | (intro h0; simp only [h0, and_self]; done) | (intro h0; simp only [h0, Bool.not_false, Bool.not_true, Bool.true_and, Bool.and_true, true_and, and_true, and_self, imp_self, implies_true, bne_iff_ne, ne_eq, beq_iff_eq]; done) | (intros; simp_all; done) | exact True.intro) ?_)
  refine Zw (t := (cond (decide ((s0_.length : Int) ≤ a1)) (a2.Kind != 0) false)) rfl (fun c4 => ?_) (fun c4 => ?_)
  ·replace hs0_ := Zv c4 hs0_
   refine Z0 ?_
   try simp only [Zk, Zg]
   refine Zi [0, 1, 5] [true, true] ?_
   simp only [push_cast, seval, ↓reduceIte]
   refine Yr ?_
   obtain ⟨l1, pl1, ql1, el1, hs0_⟩ := bA (k := 1) rfl hs0_
   obtain ⟨x2, hx2, ax2, bx2, cx2, hs0_⟩ := bE (f := Zb) V4 (fun _ => rfl) (by decide) hs0_
   have gu3 : K8 (fl Zb s0_ ++ [.val (.int .i64 0), .val (.slice none 0 0), .val (.slice none 0 0)]) [.val (.int .i64 0), .val (.slice none 0 0), .val (.slice none 0 0)] (List.length s0_ * 3) = some (fl Zb s0_ ++ [.val (.int .i64 0), .val (.slice none 0 0), .val (.slice none 0 0)]) := Znu (f := Zb) (sz := 3) (fun _ => rfl) rfl rfl
   refine Zkj Zd (by kernel_rfl) [.low, .low, .low, .low, .low, .low, .pass, .bar, .shp, .fill true, .shp, .shp, .fill false] (fun i => i < (n + 2)) [0, 1, 2, 3, 4, 5, 6, 7, 8, 9, 10, 11, 12] [.low, .low, .low, .low, .low, .low, .pass, .bar, .shp, .fill true, .shp, .shp, .fill false] [] (by kernel_rfl) rfl ?_
   simp only [push_cast, Nat.reduceAdd, Nat.reduceSub, Nat.reduceMul, Nat.reduceLeDiff, Nat.reduceLT, Nat.reduceEqDiff, ↓reduceIte, reduceCtorEq, Int.reduceBEq, Int.reduceBNe, Nat.reduceBEq, Int.reduceLE, Int.reduceLT, Int.reduceEq, Int.reduceNe, Int.reduceNeg, Nat.reduceDiv, Nat.reduceMod, Nat.reducePow, Za, pl1, ql1, el1, ax2, bx2, cx2, gu3, hi0, hk0, hN0, hN]
   repeat (with_reducible refine And.intro (by first | omega | exact Xn rfl | exact Y2 | exact Zb7 rfl rfl) ?_)
   have hs0_ := Option.some.inj hs0_; subst hs0_
   refine And.intro rfl (Fit2.of (Xi hU rfl rfl ?_) (by omega))
   simp only [push_cast, Nat.reduceAdd, Nat.reduceSub, Nat.reduceMul, Nat.reduceLeDiff, Nat.reduceLT, Nat.reduceEqDiff, ↓reduceIte, reduceCtorEq, Int.reduceBEq, Int.reduceBNe, Nat.reduceBEq, Int.reduceLE, Int.reduceLT, Int.reduceEq, Int.reduceNe, Int.reduceNeg, Nat.reduceDiv, Nat.reduceMod, Nat.reducePow, Za, pl1, ql1, el1, ax2, bx2, cx2, gu3, hi0, hk0, hN0, hN]
  replace hs0_ := Zu c4 hs0_
  refine Qd ?_
  try simp only [Zk, Zg, ↓reduceIte, Nat.reduceEqDiff]
  have hs0_ := Option.some.inj hs0_; subst hs0_
  refine And.intro (fun h => by cases h) (And.intro rfl (Fit2.of (Xi hU rfl rfl ?_) (by omega)))
  simp only [push_cast, seval, ↓reduceIte, Za, hi0, hk0, hN0, hN]
 try simp only [Zk, Zg, ↓reduceIte, Nat.reduceEqDiff]
 refine Zi [0, 1, 5] [true, true] ?_
 simp only [push_cast, seval, ↓reduceIte]
 refine Zr [0, 1, 5, 35] (Zc Zd [] ?_)
 simp only [push_cast, seval, ↓reduceIte, Za, hi0, hk0, hN0, hN]
 refine Zw (t := (decide (a1 < (z5.length : Int)))) rfl (fun c8 => ?_) (fun c8 => ?_)
 ·replace h := Zv c8 h
  obtain ⟨x6, hx6, ax6, bx6, cx6, h⟩ := bE (f := Zb) V4 (fun _ => rfl) (by decide) h
  have gu7 : K8 (fl Zb z5) [.val (.int .i64 a2.Kind), .sl a2.Words.length (fl (eI .u64) a2.Words), .sl a2.Kids.length (fl Zb a2.Kids)] (Int.toNat a1 * 3) = some (fl Zb (Zav z5 a1 a2)) := (congrArg (fun c => K8 (fl Zb z5) c (Int.toNat a1 * 3)) (show [.val (.int .i64 a2.Kind), .sl a2.Words.length (fl (eI .u64) a2.Words), .sl a2.Kids.length (fl Zb a2.Kids)] = Zb a2 from by simp only [Zb, Ya, eI, eB, eS, eL])).trans (Zfm (f := Zb) (ti := ⟨.bool, 3, 0, [], false⟩) (x := a2) (fun _ => rfl) (Za9 hx6))
  refine Zem Zd (by kernel_rfl) [false, false, false, false, false, false, false, true] [] (by kernel_rfl) ?_
  simp only [push_cast, Nat.reduceAdd, Nat.reduceSub, Nat.reduceMul, Nat.reduceLeDiff, Nat.reduceLT, Nat.reduceEqDiff, ↓reduceIte, reduceCtorEq, Int.reduceBEq, Int.reduceBNe, Nat.reduceBEq, Int.reduceLE, Int.reduceLT, Int.reduceEq, Int.reduceNe, Int.reduceNeg, Nat.reduceDiv, Nat.reduceMod, Nat.reducePow, Za, ax6, bx6, cx6, gu7, hi0, hk0, hN0, hN]
  have h := Option.some.inj h; subst h
  refine Ug (k := 1) (i := i0) (q1 := ⟨false, 25, 3, 1, [.val (.int .i64 a0.Kind), .sl a0.Words.length (fl (eI .u64) a0.Words), .row n (Zav z5 a1 a2).length]⟩) (L3 := [some ⟨true, 25, 3, (Zav z5 a1 a2).length, fl Zb (Zav z5 a1 a2)⟩, none]) (E2 := (⟨43, [], []⟩ : Env)) (n3 := (n + 2)) (.inl rfl) hU rfl [] ?_ ?_
  ·refine Fit2.trans (E' := (⟨43, [], []⟩ : Env)) (O' := (Zy ((O.upd j0_0 none).upd i0 (some ⟨false, 25, 3, 1, [.val (.int .i64 a0.Kind), .sl a0.Words.length (fl (eI .u64) a0.Words), .row n (Zav z5 a1 a2).length]⟩)) n [some ⟨true, 25, 3, (Zav z5 a1 a2).length, fl Zb (Zav z5 a1 a2)⟩, none])) (n' := (n + 2)) (Fit2.of (Xi hU rfl rfl ?_) (by omega)) ?_
   ·simp only [push_cast, Nat.reduceAdd, Nat.reduceSub, Nat.reduceMul, Nat.reduceLeDiff, Nat.reduceLT, Nat.reduceEqDiff, ↓reduceIte, reduceCtorEq, Int.reduceBEq, Int.reduceBNe, Nat.reduceBEq, Int.reduceLE, Int.reduceLT, Int.reduceEq, Int.reduceNe, Int.reduceNeg, Nat.reduceDiv, Nat.reduceMod, Nat.reducePow, Za, ax6, bx6, cx6, gu7, hi0, hk0, hN0, hN]
   refine Un (k := 2) (k' := 2) hU [0, 1] [0, 0] rfl rfl rfl rfl ⟨rfl, rfl⟩ ?_
   simp only [push_cast, seval, ↓reduceIte, Za, hi0, hk0, hN0, hN]
  simp only [push_cast, seval, ↓reduceIte, Za, Try.results133, hi0, hk0, hN0, hN]
 replace h := Zu c8 h
 refine Z0 ?_
 try simp only [Zk, Zg]
 have h := Option.some.inj h; subst h
 refine Ug (k := 1) (i := i0) (q1 := ⟨false, 25, 3, 1, [.val (.int .i64 a0.Kind), .sl a0.Words.length (fl (eI .u64) a0.Words), .row n z5.length]⟩) (L3 := [some ⟨true, 25, 3, z5.length, fl Zb z5⟩, none]) (E2 := (⟨43, [], []⟩ : Env)) (n3 := (n + 2)) (.inl rfl) hU rfl [] ?_ ?_
 ·refine Fit2.trans (E' := (⟨43, [], []⟩ : Env)) (O' := (Zy ((O.upd j0_0 none).upd i0 (some ⟨false, 25, 3, 1, [.val (.int .i64 a0.Kind), .sl a0.Words.length (fl (eI .u64) a0.Words), .row n z5.length]⟩)) n [some ⟨true, 25, 3, z5.length, fl Zb z5⟩, none])) (n' := (n + 2)) (Fit2.of (Xi hU rfl rfl ?_) (by omega)) ?_
  ·simp only [push_cast, seval, ↓reduceIte, Za, hi0, hk0, hN0, hN]
  refine Un (k := 2) (k' := 2) hU [0, 1] [0, 0] rfl rfl rfl rfl ⟨rfl, rfl⟩ ?_
  simp only [push_cast, seval, ↓reduceIte, Za, hi0, hk0, hN0, hN]
 simp only [push_cast, seval, ↓reduceIte, Za, Try.results133, hi0, hk0, hN0, hN]
theorem Ztf {a0 : Int} {r : Bool} {O : Objs} {n : Nat} (h : Zch a0 = some r) : GTo Try.prog 19 [.val (.int .i64 a0)] O n (.val (.bool r)) O n := by
 unfold Zch at h
 refine Xj Zd Try.call19 Try.func19 rfl (Nat.le_of_ble_eq_true rfl) (Nat.le_refl _) fun hU => ?_
 have hN0 : O n = none := hU.fresh _ (Nat.le_refl _)
 have hN : ∀ k, O (n + k) = none := fun k => hU.fresh _ (Nat.le_add_right _ _)
 show W _ _ _ _ ⟨9, [], [(0, .val (.int .i64 a0))]⟩ (Zy O n []) _
 refine Zr [0] (Zc Zd [] ?_)
 simp only [push_cast, seval, ↓reduceIte, Za, hN0, hN]
 refine Zr [2] (Zc Zd [none, none] ?_)
 simp only [push_cast, seval, ↓reduceIte, Za, hN0, hN]
 repeat (with_reducible refine And.intro (by first | (intro h0; simp only [h0, and_self]; done) | (intro h0; simp only [h0, Bool.not_false, Bool.not_true, Bool.true_and, Bool.and_true, true_and, and_true, and_self, imp_self, implies_true, bne_iff_ne, ne_eq, beq_iff_eq]; done) | (intros; simp_all; done) | exact True.intro) ?_)
 refine Z5 ?_
 try simp only [Zk, Zg]
 have h := Option.some.inj h; subst h
 refine Zs (.inr rfl) hU [.val (.bool (cond (decide (2 ≤ a0)) (decide (a0 ≤ 9)) false))] (by omega) ?_
 simp only [push_cast, seval, ↓reduceIte, Za, Try.results19, hN0, hN]
end Go.Proofs.Ytmpkfolcikhofaa
