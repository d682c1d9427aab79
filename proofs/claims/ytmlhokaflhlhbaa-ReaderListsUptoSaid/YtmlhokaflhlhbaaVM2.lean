/- Part VM2 of this seat's mirrors: functions of the seat's program, and the plain functions that they are; each theorem bears its own conditions. -/
import Derived.Test.YtmlhokaflhlhbaaVE
import Derived.Test.YtmlhokaflhlhbaaVM1
namespace Go.Proofs.Ytmlhokaflhlhbaa
open Go.RowKit
set_option linter.unusedVariables false
set_option linter.unusedSimpArgs false
set_option maxRecDepth 100000
set_option maxHeartbeats 4000000
attribute [local push_cast] Q9 Kj Xy Yl Zl Zew Zev Zfj Zfi Zj Ze Zbz Uh Ug onW Z8 Kl Jp Ze0 Zdy Zay Za3 Zax Za2 Zcs Zcp Za1 Zcr Zcq Zaz Zcn U1 evS wok Yj Op.operands Call.operands gop onK onP atK List.all_cons List.all_nil Bool.and_true Bool.true_and Bool.and_self Value.oneCell' List.take_zero List.take_succ_cons List.take_nil List.drop_zero List.drop_succ_cons List.drop_nil List.append_nil Nat.add_zero Nat.zero_add X3 Zo ev Ys Zjz Zem Zel Zer Zep Zeq Zen Zeo Zek Zg4 Zhp Zj0 Gu Jt Gj J9 Zai V0 Va Vf Ue Ub Vd Ud Uc Vc V9 Vb Ve Kk Ua Zb1 Ui Qx Gk Qy Zba Gt Zid Gq bHi bMx Ju Za9 Zk4 Gs Zbg K7 X8 Zhj Zk8 Gg Zlb Js Zl3 Zb4 Zb8 Zb3 Zb7 Ze8 Ze5 Ze3 Zak Zb5 Ze7 Ze6 Zb6 Ze4 Zbl Zg7 Zci Ux Uw pop TK.isAgg Zfd Zfh Zfc Zfg Zcc Zit Ziq Zff Zis Zir Zfe Zip G.under G.unders List.getD_cons_zero List.getD_cons_succ List.set_cons_zero List.set_cons_succ List.map_cons List.map_nil List.toList_toArray Array.toList_append Option.toArray_none Option.toArray_some Array.toList_map Option.map_some Option.map_none Option.bind_some Option.bind_none List.getElem?_cons_zero List.getElem?_cons_succ List.getElem?_nil List.nil_append List.cons_append List.replicate_succ List.replicate_zero List.length_cons List.length_nil and_true true_and and_false false_and Bool.true_eq_false Bool.false_eq_true forall_const false_implies implies_true IntKind.bits if_true if_false ite_true ite_false eq_self true_implies false_or or_false or_true true_or not_true_eq_false not_false_eq_true decide_true decide_false decide_eq_true_eq decide_eq_false_iff_not beq_iff_eq bne_iff_ne ne_eq Bool.not_eq_true Bool.not_eq_false beq_eq_false_iff_ne bne_eq_false_iff_eq beq_self_eq_true bne_self_eq_false Option.some.injEq exists_eq_left' exists_eq_left ge_iff_le gt_iff_lt decide_not Bool.not_true Bool.not_false imp_self Zig cond_true cond_false Zp0 Zpz Bool.not_not Bool.and_false Bool.false_and Bool.or_true Bool.true_or Bool.or_false Bool.false_or Gn Zd9 Zdd Zbw Zac V5 Option.join_some Nat.add_assoc Int.toNat_natCast eI eB eS eL Zg2 V6 Vk Zez Zex Zey Zmf Zn8 V7 Vq Zfp Zfn Zfo Zj8 Zdw Zh9 Zft Zjx Kz Zg3 List.length_append G.agg.injEq G.row.injEq G.ref.injEq G.val.injEq G.sl.injEq G.tup.injEq Value.int.injEq Value.bool.injEq Value.string.injEq List.cons.injEq exists_and_left exists_const List.flatten_cons List.flatten_nil Int.le_refl Nat.le_refl Zda Ki Zbx Bool.not_eq_true' Bool.not_eq_false' Zgx U7 Zjr Zjv Zjq Zju Znu Znq List.size_toArray Zhr Zho G.ren G.rens Zka Zbe Zfs Zeh Zei Zco Zjw Ur G.fn.injEq Za5 Zdc Zgv Znr Zdb Zjt Znt Zns Zjs Zil Zma Option.join_none Y6 Qw undef Zbh Arr.len Arr.put_eq Zao Zan Us Vp Zfm Zfk Zfl onB Zme Zhh Zcm Zbm Zbn Zbo Zbp Zbq Zbr Zal Zas Zaq Uv Vr Zar Zch Zcg Zcf Zce Zn7 Zpj Zj7 Ziw Xe Zj2 Ze9 Zau Uu Zlj Zfv Gr Zbf Gl Zav Zbs Zbt Zbu Zbv Gw Gx Gy Gz G0 Zaa Zab Vg prT Ko Zqs Zjg Zoc Zjh Zqt Zji Zqu Zjj Zqv Zjk Zqw Zjl Zqx Zjm Zqy Zjn Zmq Zfw Zmr Zfx Zms Zfy Zmt Zfz Zmu Zf0 Zmv Zf1 Zmw Zf2 Zmx Zf3 Zmy Zf4 Zmz Zf5 Zm0 Zf6 Zm1 Zf7 Zm2 Zf8 Zm3 Zdm Zm4 Zf9 Zm5 Zga Zm6 Zgb Za4 Zgc Zm7 Zgd Zm8 Zge Zdu Zdn Zm9 Zgf Zna Zgg Znb Zgh Znc Zgi Znd Zgj Zne Zgk Znf Zgl Zng Zgm Znh Zgn Zni Zgo Znj Zgp Znk Zgq Znl Zgr Znm Zgs Znn Zgt Zno Zgu Ziz Zct Zi0 Zcu Zi1 Zcv Zi2 Zcw Zi3 Zcx Zi4 Zcy Zi5 Zcz Zi6 Zc0 Zi7 Zc1 Zi8 Zc2 Zi9 Zc3 Zja Zc4 Zjb Zc5 Zjc Zc6 Zjd Zc7 Zje Zc8 Zjf Zc9 U9 U6 Um Uq Gc Vz Vw Vu U3 J4 J3 Jw Jy J5 Jg Je Jd J0 Zd Xt Xs Xo Xq Xu Xj Xi Xh Xr Vi U8 U5 Ul Up Gb Vy Vv Vt U2 Vh Jb Xz X0 Ja Zm Y8 Y7 Y3 Y4 Y9 Y1 Yy Yx Y5 Zr Xv Qr Qq Qj Qm Qs Qd Qc Qb Qp
theorem Jr  {r : Bool} {O : Objs} {n : Nat} (h : Yo = some r) : GTo Try.prog 22 [] O n (.val (.bool r)) O n := by
 unfold Yo at h
 refine Xf Zc Try.call22 Try.func22 rfl (Nat.le_of_ble_eq_true rfl) (Nat.le_refl _) fun hU => ?_
 have hN0 : O n = none := hU.fresh _ (Nat.le_refl _)
 have hN : ∀ k, O (n + k) = none := fun k => hU.fresh _ (Nat.le_add_right _ _)
 show W _ _ _ _ ⟨32, [], []⟩ (Zx O n []) _
 refine Zn [] (Zb Zc [] ?_)
 simp only [push_cast, seval, ↓reduceIte, Za, hN0, hN]
 refine Zh ?_
 obtain ⟨y3, hy3, h⟩ := bC h
 obtain ⟨y4, hy4, h⟩ := bC h
 refine Zb Zc [] ?_
 simp only [push_cast, seval, ↓reduceIte, Za, hN0, hN]
 refine GCalls.dropL (l' := [none, none]) hU rfl ?_ ((Zhn hy3).then ?_)
 ·simp only [push_cast, seval, ↓reduceIte, Za, hN0, hN]
 simp only [push_cast, seval, ↓reduceIte, Za, hN0, hN]
 refine (Zca hy4).then ?_
 simp only [push_cast, seval, ↓reduceIte, Za, hN0, hN]
 refine Zi [1, 2] [false, false, true] ?_
 simp only [push_cast, seval, ↓reduceIte]
 obtain ⟨z9, hz9, h⟩ := bC h
 refine Gp (E' := ⟨32, [], [(0, .val (.bool z9))]⟩) (O' := (Zx O n [none, none, none])) (n0 := (n + 3)) ?_ ?_
 ·rcases Bool.eq_false_or_eq_true (y4.2 == 0) with c18 | c18
  ·replace hz9 := Zu c18 hz9
   obtain ⟨y14, hy14, hz9⟩ := bC hz9
   rcases Bool.eq_false_or_eq_true (y14 == 1) with c19 | c19
   ·replace hz9 := Zu c19 hz9
    try rw [c19] at c18
    obtain ⟨y15, hy15, hz9⟩ := bC hz9
    rcases Bool.eq_false_or_eq_true (y15 == 1) with c20 | c20
    ·replace hz9 := Zu c20 hz9
     try rw [c20] at c18
     try rw [c20] at c19
     obtain ⟨y16, hy16, hz9⟩ := bC hz9
     rcases Bool.eq_false_or_eq_true (y16 == 7) with c21 | c21
     ·replace hz9 := Zu c21 hz9
      try rw [c21] at c18
      try rw [c21] at c19
      try rw [c21] at c20
      obtain ⟨y17, hy17, hz9⟩ := bC hz9
      refine Zb Zc [some true, some true, some true, some true, some true, some true, some true, some true, some true, some true, some true, some true] ?_
      simp only [push_cast, seval, ↓reduceIte, Za, c18, c19, c20, c21, hN0, hN]
      refine (Z0 hy14).then ?_
      simp only [push_cast, seval, ↓reduceIte, Za, c18, c19, c20, c21, hN0, hN]
      refine (Qi hy15).then ?_
      simp only [push_cast, seval, ↓reduceIte, Za, c18, c19, c20, c21, hN0, hN]
      refine (Q2 hy16).then ?_
      simp only [push_cast, seval, ↓reduceIte, Za, c18, c19, c20, c21, hN0, hN]
      refine (Kc hy17).then ?_
      simp only [push_cast, seval, ↓reduceIte, Za, c18, c19, c20, c21, hN0, hN]
      have hz9 := Option.some.inj hz9; subst hz9
      refine And.intro rfl (Fit2.of (Zw hU rfl rfl ?_) (by omega))
      simp only [push_cast, seval, ↓reduceIte, Za, c18, c19, c20, c21, hN0, hN]
     replace hz9 := Zt c21 hz9
     try rw [c21] at c18
     try rw [c21] at c19
     try rw [c21] at c20
     refine Zb Zc [some true, some true, some true, some true, some true, some true, some true, some true, some true, some false, some false, some false] ?_
     simp only [push_cast, seval, ↓reduceIte, Za, c18, c19, c20, c21, hN0, hN]
     refine (Z0 hy14).then ?_
     simp only [push_cast, seval, ↓reduceIte, Za, c18, c19, c20, c21, hN0, hN]
     refine (Qi hy15).then ?_
     simp only [push_cast, seval, ↓reduceIte, Za, c18, c19, c20, c21, hN0, hN]
     refine (Q2 hy16).then ?_
     simp only [push_cast, seval, ↓reduceIte, Za, c18, c19, c20, c21, hN0, hN]
     have hz9 := Option.some.inj hz9; subst hz9
     refine And.intro rfl (Fit2.of (Zw hU rfl rfl ?_) (by omega))
     simp only [push_cast, seval, ↓reduceIte, Za, c18, c19, c20, c21, hN0, hN]
    replace hz9 := Zt c20 hz9
    try rw [c20] at c18
    try rw [c20] at c19
    refine Zb Zc [some true, some true, some true, some true, some true, some true, some false, some false, some false, some false, some false, some false] ?_
    simp only [push_cast, seval, ↓reduceIte, Za, c18, c19, c20, hN0, hN]
    refine (Z0 hy14).then ?_
    simp only [push_cast, seval, ↓reduceIte, Za, c18, c19, c20, hN0, hN]
    refine (Qi hy15).then ?_
    simp only [push_cast, seval, ↓reduceIte, Za, c18, c19, c20, hN0, hN]
    have hz9 := Option.some.inj hz9; subst hz9
    refine And.intro rfl (Fit2.of (Zw hU rfl rfl ?_) (by omega))
    simp only [push_cast, seval, ↓reduceIte, Za, c18, c19, c20, hN0, hN]
   replace hz9 := Zt c19 hz9
   try rw [c19] at c18
   refine Zb Zc [some true, some true, some true, some false, some false, some false, some false, some false, some false, some false, some false, some false] ?_
   simp only [push_cast, seval, ↓reduceIte, Za, c18, c19, hN0, hN]
   refine (Z0 hy14).then ?_
   simp only [push_cast, seval, ↓reduceIte, Za, c18, c19, hN0, hN]
   have hz9 := Option.some.inj hz9; subst hz9
   refine And.intro rfl (Fit2.of (Zw hU rfl rfl ?_) (by omega))
   simp only [push_cast, seval, ↓reduceIte, Za, c18, c19, hN0, hN]
  replace hz9 := Zt c18 hz9
  refine Zb Zc [some false, some false, some false, some false, some false, some false, some false, some false, some false, some false, some false, some false] ?_
  simp only [push_cast, seval, ↓reduceIte, Za, c18, hN0, hN]
  have hz9 := Option.some.inj hz9; subst hz9
  refine And.intro rfl (Fit2.of (Zw hU rfl rfl ?_) (by omega))
  simp only [push_cast, seval, ↓reduceIte, Za, c18, hN0, hN]
 refine Zq ?_
 try simp only [Zj, Ze]
 have h := Option.some.inj h; subst h
 refine Zk (.inr rfl) hU [.val (.bool z9)] (by omega) ?_
 simp only [push_cast, seval, ↓reduceIte, Za, Try.results22, hN0, hN]
theorem Qh {a0 : Int} {r : Int} {O : Objs} {n : Nat} (h : Z5 a0 = some r) : GTo Try.prog 56 [.val (.int .i64 a0)] O n (.val (.int .i64 r)) O n := by
 unfold Z5 at h
 refine Xf Zc Try.call56 Try.func56 rfl (Nat.le_of_ble_eq_true rfl) (Nat.le_refl _) fun hU => ?_
 have hN0 : O n = none := hU.fresh _ (Nat.le_refl _)
 have hN : ∀ k, O (n + k) = none := fun k => hU.fresh _ (Nat.le_add_right _ _)
 show W _ _ _ _ ⟨16, [], [(0, .val (.int .i64 a0))]⟩ (Zx O n []) _
 refine Zn [0] (Zb Zc [] ?_)
 simp only [push_cast, seval, ↓reduceIte, Za, hN0, hN]
 refine Zh ?_
 refine Zn [3] (Zb Zc [] ?_)
 simp only [push_cast, seval, ↓reduceIte, Za, hN0, hN]
 refine J6 ?_
 refine Zn [3, 4] (Zb Zc [] ?_)
 simp only [push_cast, seval, ↓reduceIte, Za, hN0, hN]
 refine Zs (t := (a0 == 0)) rfl (fun c6 => ?_) (fun c6 => ?_)
 ·replace h := Zu c6 h
  refine Zn [2] (Zb Zc [] ?_)
  simp only [push_cast, seval, ↓reduceIte, Za, hN0, hN]
  refine Zq ?_
  try simp only [Zj, Ze]
  have h := Option.some.inj h; subst h
  refine Zk (.inr rfl) hU [.val (.int .i64 0)] (by omega) ?_
  simp only [push_cast, seval, ↓reduceIte, Za, Try.results56, hN0, hN]
 replace h := Zt c6 h
 refine Zn [3, 6] (Zb Zc [] ?_)
 simp only [push_cast, seval, ↓reduceIte, Za, hN0, hN]
 refine Zs (t := (a0 == 1)) rfl (fun c5 => ?_) (fun c5 => ?_)
 ·replace h := Zu c5 h
  refine Zn [2] (Zb Zc [] ?_)
  simp only [push_cast, seval, ↓reduceIte, Za, hN0, hN]
  refine Zq ?_
  try simp only [Zj, Ze]
  have h := Option.some.inj h; subst h
  refine Zk (.inr rfl) hU [.val (.int .i64 1)] (by omega) ?_
  simp only [push_cast, seval, ↓reduceIte, Za, Try.results56, hN0, hN]
 replace h := Zt c5 h
 refine Zn [3, 8] (Zb Zc [] ?_)
 simp only [push_cast, seval, ↓reduceIte, Za, hN0, hN]
 refine Zs (t := (a0 == 2)) rfl (fun c4 => ?_) (fun c4 => ?_)
 ·replace h := Zu c4 h
  refine Zn [2] (Zb Zc [] ?_)
  simp only [push_cast, seval, ↓reduceIte, Za, hN0, hN]
  refine Zq ?_
  try simp only [Zj, Ze]
  have h := Option.some.inj h; subst h
  refine Zk (.inr rfl) hU [.val (.int .i64 8)] (by omega) ?_
  simp only [push_cast, seval, ↓reduceIte, Za, Try.results56, hN0, hN]
 replace h := Zt c4 h
 refine Zn [3, 10] (Zb Zc [] ?_)
 simp only [push_cast, seval, ↓reduceIte, Za, hN0, hN]
 refine Zs (t := (a0 == 3)) rfl (fun c3 => ?_) (fun c3 => ?_)
 ·replace h := Zu c3 h
  refine Zn [2] (Zb Zc [] ?_)
  simp only [push_cast, seval, ↓reduceIte, Za, hN0, hN]
  refine Zq ?_
  try simp only [Zj, Ze]
  have h := Option.some.inj h; subst h
  refine Zk (.inr rfl) hU [.val (.int .i64 16)] (by omega) ?_
  simp only [push_cast, seval, ↓reduceIte, Za, Try.results56, hN0, hN]
 replace h := Zt c3 h
 refine Zn [3, 12] (Zb Zc [] ?_)
 simp only [push_cast, seval, ↓reduceIte, Za, hN0, hN]
 refine Zs (t := (a0 == 4)) rfl (fun c2 => ?_) (fun c2 => ?_)
 ·replace h := Zu c2 h
  refine Zn [2] (Zb Zc [] ?_)
  simp only [push_cast, seval, ↓reduceIte, Za, hN0, hN]
  refine Zq ?_
  try simp only [Zj, Ze]
  have h := Option.some.inj h; subst h
  refine Zk (.inr rfl) hU [.val (.int .i64 32)] (by omega) ?_
  simp only [push_cast, seval, ↓reduceIte, Za, Try.results56, hN0, hN]
 replace h := Zt c2 h
 refine Zn [14] (Zb Zc [] ?_)
 simp only [push_cast, seval, ↓reduceIte, Za, hN0, hN]
 refine Zs (t := (a0 == 5)) rfl (fun c1 => ?_) (fun c1 => ?_)
 ·replace h := Zu c1 h
  refine Zn [2] (Zb Zc [] ?_)
  simp only [push_cast, seval, ↓reduceIte, Za, hN0, hN]
  refine Zq ?_
  try simp only [Zj, Ze]
  have h := Option.some.inj h; subst h
  refine Zk (.inr rfl) hU [.val (.int .i64 64)] (by omega) ?_
  simp only [push_cast, seval, ↓reduceIte, Za, Try.results56, hN0, hN]
 replace h := Zt c1 h
 refine Z3 ?_
 try simp only [Zj, Ze]
 refine Zi [] [] ?_
 simp only [push_cast, seval, ↓reduceIte]
 refine Zn [2] (Zb Zc [] ?_)
 simp only [push_cast, seval, ↓reduceIte, Za, hN0, hN]
 refine Zq ?_
 try simp only [Zj, Ze]
 have h := Option.some.inj h; subst h
 refine Zk (.inr rfl) hU [.val (.int .i64 (-1))] (by omega) ?_
 simp only [push_cast, seval, ↓reduceIte, Za, Try.results56, hN0, hN]
theorem Zd4 {a0 : Int} {a1 : Int} {r : Int} {O : Objs} {n : Nat} (h : Qa a0 a1 = some r) : GTo Try.prog 57 [.val (.int .i64 a0), .val (.int .i64 a1)] O n (.val (.int .i64 r)) O n := by
 unfold Qa at h
 refine Xf Zc Try.call57 Try.func57 rfl (Nat.le_of_ble_eq_true rfl) (Nat.le_refl _) fun hU => ?_
 have hN0 : O n = none := hU.fresh _ (Nat.le_refl _)
 have hN : ∀ k, O (n + k) = none := fun k => hU.fresh _ (Nat.le_add_right _ _)
 show W _ _ _ _ ⟨31, [], [(0, .val (.int .i64 a0)), (1, .val (.int .i64 a1))]⟩ (Zx O n []) _
 refine Zn [0, 1] (Zb Zc [] ?_)
 simp only [push_cast, seval, ↓reduceIte, Za, hN0, hN]
 refine Zh ?_
 refine Zh ?_
 obtain ⟨y2, hy2, h⟩ := bC h
 refine Zb Zc [none, none, none, none] ?_
 simp only [push_cast, seval, ↓reduceIte, Za, hN0, hN]
 repeat (with_reducible refine And.intro (by first | (intro h0; simp only [h0, and_self]; done) | (intro h0; simp only [h0, Bool.not_false, Bool.not_true, Bool.true_and, Bool.and_true, true_and, and_true, and_self, imp_self, implies_true, bne_iff_ne, ne_eq, beq_iff_eq]; done) | (intros; simp_all; done) | exact True.intro) ?_)
 refine (Qh hy2).then ?_
 simp only [push_cast, seval, ↓reduceIte, Za, hN0, hN]
 repeat (with_reducible refine And.intro (by first | (intro h0; simp only [h0, and_self]; done) | (intro h0; simp only [h0, Bool.not_false, Bool.not_true, Bool.true_and, Bool.and_true, true_and, and_true, and_self, imp_self, implies_true, bne_iff_ne, ne_eq, beq_iff_eq]; done) | (intros; simp_all; done) | exact True.intro) ?_)
 refine Zi [0, 1, 16] [] ?_
 simp only [push_cast, seval, ↓reduceIte]
 refine Zs (t := (cond (cond (decide (y2 < 1)) true (decide (a1 < 0))) true (decide (1099511627776 < a1)))) rfl (fun c14 => ?_) (fun c14 => ?_)
 ·replace h := Zu c14 h
  refine Zn [4] (Zb Zc [] ?_)
  simp only [push_cast, seval, ↓reduceIte, Za, hN0, hN]
  refine Zq ?_
  try simp only [Zj, Ze]
  have h := Option.some.inj h; subst h
  refine Zk (.inr rfl) hU [.val (.int .i64 0)] (by omega) ?_
  simp only [push_cast, seval, ↓reduceIte, Za, Try.results57, hN0, hN]
 replace h := Zt c14 h
 refine Z3 ?_
 try simp only [Zj, Ze]
 refine Zi [0, 1] [] ?_
 simp only [push_cast, seval, ↓reduceIte]
 refine Zh ?_
 obtain ⟨y5, hy5, h⟩ := bC h
 obtain ⟨pu6, h⟩ := bG h
 refine Zb Zc [] ?_
 simp only [push_cast, seval, ↓reduceIte, Za, pu6, hN0, hN]
 refine (Qh hy5).then ?_
 simp only [push_cast, seval, ↓reduceIte, Za, pu6, hN0, hN]
 refine Zi [1, 5] [] ?_
 simp only [push_cast, seval, ↓reduceIte]
 refine Zh ?_
 obtain ⟨pu8, h⟩ := bG h
 refine Zn [1, 5, 23] (Zb Zc [] ?_)
 simp only [push_cast, seval, ↓reduceIte, Za, pu8, hN0, hN]
 refine Zs (t := (decide (0 < (Int.tmod a1 (IntKind.i64.wrap (Int.tdiv 64 y5)))))) rfl (fun c13 => ?_) (fun c13 => ?_)
 ·replace h := Zu c13 h
  obtain ⟨pu10, h⟩ := bG h
  refine Zn [4] (Zb Zc [] ?_)
  simp only [push_cast, seval, ↓reduceIte, Za, pu10, hN0, hN]
  refine Zq ?_
  try simp only [Zj, Ze]
  have h := Option.some.inj h; subst h
  refine Zk (.inr rfl) hU [.val (.int .i64 (IntKind.i64.wrap ((IntKind.i64.wrap (Int.tdiv a1 (IntKind.i64.wrap (Int.tdiv 64 y5)))) + 1)))] (by omega) ?_
  simp only [push_cast, seval, ↓reduceIte, Za, Try.results57, hN0, hN]
 replace h := Zt c13 h
 refine Z3 ?_
 try simp only [Zj, Ze]
 refine Zi [1, 5] [] ?_
 simp only [push_cast, seval, ↓reduceIte]
 obtain ⟨pu12, h⟩ := bG h
 refine Zn [4] (Zb Zc [] ?_)
 simp only [push_cast, seval, ↓reduceIte, Za, pu12, hN0, hN]
 refine Zq ?_
 try simp only [Zj, Ze]
 have h := Option.some.inj h; subst h
 refine Zk (.inr rfl) hU [.val (.int .i64 (IntKind.i64.wrap (Int.tdiv a1 (IntKind.i64.wrap (Int.tdiv 64 y5)))))] (by omega) ?_
 simp only [push_cast, seval, ↓reduceIte, Za, Try.results57, hN0, hN]
theorem Zd3 {a0 : Int} {a1 : Int} {r : Bool} {O : Objs} {n : Nat} (h : X9 a0 a1 = some r) : GTo Try.prog 58 [.val (.int .i64 a0), .val (.int .u64 a1)] O n (.val (.bool r)) O n := by
 unfold X9 at h
 refine Xf Zc Try.call58 Try.func58 rfl (Nat.le_of_ble_eq_true rfl) (Nat.le_refl _) fun hU => ?_
 have hN0 : O n = none := hU.fresh _ (Nat.le_refl _)
 have hN : ∀ k, O (n + k) = none := fun k => hU.fresh _ (Nat.le_add_right _ _)
 show W _ _ _ _ ⟨20, [], [(0, .val (.int .i64 a0)), (1, .val (.int .u64 a1))]⟩ (Zx O n []) _
 refine Zn [0, 1] (Zb Zc [] ?_)
 simp only [push_cast, seval, ↓reduceIte, Za, hN0, hN]
 refine Zh ?_
 obtain ⟨y2, hy2, h⟩ := bC h
 refine Zb Zc [] ?_
 simp only [push_cast, seval, ↓reduceIte, Za, hN0, hN]
 refine (Qh hy2).then ?_
 simp only [push_cast, seval, ↓reduceIte, Za, hN0, hN]
 refine Zi [1, 5] [] ?_
 simp only [push_cast, seval, ↓reduceIte]
 refine Zh ?_
 refine Zn [1, 5, 10] (Zb Zc [] ?_)
 simp only [push_cast, seval, ↓reduceIte, Za, hN0, hN]
 refine Zs (t := (decide (y2 < 0))) rfl (fun c5 => ?_) (fun c5 => ?_)
 ·replace h := Zu c5 h
  refine Zn [4] (Zb Zc [] ?_)
  simp only [push_cast, seval, ↓reduceIte, Za, hN0, hN]
  refine Zq ?_
  try simp only [Zj, Ze]
  have h := Option.some.inj h; subst h
  refine Zk (.inr rfl) hU [.val (.bool false)] (by omega) ?_
  simp only [push_cast, seval, ↓reduceIte, Za, Try.results58, hN0, hN]
 replace h := Zt c5 h
 refine Z3 ?_
 try simp only [Zj, Ze]
 refine Zi [1, 5] [] ?_
 simp only [push_cast, seval, ↓reduceIte]
 refine Zh ?_
 refine Zn [1, 5, 6] (Zb Zc [] ?_)
 simp only [push_cast, seval, ↓reduceIte, Za, hN0, hN]
 refine Zi [1, 5, 6] [] ?_
 simp only [push_cast, seval, ↓reduceIte]
 obtain ⟨z4, hz4, h⟩ := bC h
 refine Zeb (E' := ⟨20, [], [(1, .val (.int .u64 z4))]⟩) (O' := (Zx O n [])) (n0 := n) ?_ ?_
 ·refine Zht hz4 (fun s0_ => ⟨20, [], [(1, .val (.int .u64 s0_.1)), (5, .val (.int .i64 y2)), (6, .val (.int .i64 s0_.2))]⟩) (fun s0_ => (Zx O n [])) (fun z4 => JX 0 n (⟨20, [], [(1, .val (.int .u64 z4))]⟩ : Env) (Zx O n []) n) ?_
  intro s0_ x0_ hs0_
  unfold Ya at hs0_
  try dsimp only
  refine Zh ?_
  refine Zn [1, 5, 6, 13] (Zb Zc [] ?_)
  simp only [push_cast, seval, ↓reduceIte, Za, hN0, hN]
  refine Zs (t := (decide (s0_.2 < y2))) rfl (fun c3 => ?_) (fun c3 => ?_)
  ·replace hs0_ := Zu c3 hs0_
   refine Z3 ?_
   try simp only [Zj, Ze]
   refine Zi [1, 5, 6] [] ?_
   simp only [push_cast, seval, ↓reduceIte]
   refine Zh ?_
   refine J6 ?_
   refine Zb Zc [] ?_
   simp only [push_cast, seval, ↓reduceIte, Za, hN0, hN]
   refine Zi [1, 5, 6] [] ?_
   simp only [push_cast, seval, ↓reduceIte]
   refine Zb Zc [] ?_
   simp only [push_cast, seval, ↓reduceIte, Za, hN0, hN]
   have hs0_ := Option.some.inj hs0_; subst hs0_
   refine And.intro rfl (Fit2.of (Zw hU rfl rfl ?_) (by omega))
   simp only [push_cast, seval, ↓reduceIte, Za, hN0, hN]
  replace hs0_ := Zt c3 hs0_
  refine Zkv ?_
  try simp only [Zj, Ze, ↓reduceIte, Nat.reduceEqDiff]
  have hs0_ := Option.some.inj hs0_; subst hs0_
  refine And.intro (fun h => by cases h) (And.intro rfl (Fit2.of (Zw hU rfl rfl ?_) (by omega)))
  simp only [push_cast, seval, ↓reduceIte, Za, hN0, hN]
 try simp only [Zj, Ze, ↓reduceIte, Nat.reduceEqDiff]
 refine Zi [1] [] ?_
 simp only [push_cast, seval, ↓reduceIte]
 refine Zn [4] (Zb Zc [] ?_)
 simp only [push_cast, seval, ↓reduceIte, Za, hN0, hN]
 refine Zq ?_
 try simp only [Zj, Ze]
 have h := Option.some.inj h; subst h
 refine Zk (.inr rfl) hU [.val (.bool (z4 == 0))] (by omega) ?_
 simp only [push_cast, seval, ↓reduceIte, Za, Try.results58, hN0, hN]
theorem Zfa {a0 : Int} {a1 : (List Int)} {r : ((List Int) × Bool)} {O : Objs} {n : Nat} (h : Qk a0 a1 = some r) : GTo Try.prog 23 [.val (.int .i64 a0), .sl a1.length (fl (eI .u64) a1)] O n (.tup [.sl r.1.length (fl (eI .u64) r.1), .val (.bool r.2)]) O n := by
 unfold Qk at h
 refine Xf Zc Try.call23 Try.func23 rfl (Nat.le_of_ble_eq_true rfl) (Nat.le_refl _) fun hU => ?_
 have hN0 : O n = none := hU.fresh _ (Nat.le_refl _)
 have hN : ∀ k, O (n + k) = none := fun k => hU.fresh _ (Nat.le_add_right _ _)
 show W _ _ _ _ ⟨62, [], [(0, .val (.int .i64 a0)), (1, .sl a1.length (fl (eI .u64) a1))]⟩ (Zx O n []) _
 refine Zn [0, 1] (Zb Zc [] ?_)
 simp only [push_cast, seval, ↓reduceIte, Za, hN0, hN]
 refine Zh ?_
 obtain ⟨y2, hy2, h⟩ := bC h
 refine Zb Zc [] ?_
 simp only [push_cast, seval, ↓reduceIte, Za, hN0, hN]
 refine (Qh hy2).then ?_
 simp only [push_cast, seval, ↓reduceIte, Za, hN0, hN]
 refine Zi [0, 1, 6] [] ?_
 simp only [push_cast, seval, ↓reduceIte]
 refine Zh ?_
 refine Zn [0, 1, 6, 14] (Zb Zc [] ?_)
 simp only [push_cast, seval, ↓reduceIte, Za, hN0, hN]
 refine Zs (t := (decide (y2 < 0))) rfl (fun c21 => ?_) (fun c21 => ?_)
 ·replace h := Zu c21 h
  refine Zn [4, 5] (Zb Zc [] ?_)
  simp only [push_cast, seval, ↓reduceIte, Za, hN0, hN]
  refine Zq ?_
  try simp only [Zj, Ze]
  have h := Option.some.inj h; subst h
  refine Zk (.inr rfl) hU [.val (.slice none 0 0), .val (.bool false)] (by omega) ?_
  simp only [push_cast, seval, ↓reduceIte, Za, Try.results23, hN0, hN]
 replace h := Zt c21 h
 refine Z3 ?_
 try simp only [Zj, Ze]
 refine Zi [0, 1, 6] [] ?_
 simp only [push_cast, seval, ↓reduceIte]
 refine Zh ?_
 obtain ⟨y5, hy5, h⟩ := bC h
 obtain ⟨l6, al6, bl6, cl6, el6, h⟩ := bM2 (c := 8) rfl h
 have nl6 : Int.toNat y5 = List.length l6 := by rw [el6, List.length_replicate]
 have fl6 : (List.replicate (List.length l6) [.val (.int .u64 0)]).flatten = fl (eI .u64) l6 := by rw [← nl6, el6]; exact (Zk1 (f := (eI .u64)) _ _).symm
 clear el6
 refine Zb Zc [] ?_
 simp only [push_cast, seval, ↓reduceIte, Za, al6, bl6, cl6, fl6, nl6, hN0, hN]
 refine (Zd4 hy5).then ?_
 simp only [push_cast, seval, ↓reduceIte, Za, al6, bl6, cl6, fl6, nl6, hN0, hN]
 refine Zpr ⟨62, [], [(0, .val (.int .i64 a0)), (1, .sl a1.length (fl (eI .u64) a1)), (6, .val (.int .i64 y2)), (7, .row n l6.length)]⟩ (Zx O n [some ⟨true, 31, 1, l6.length, fl (eI .u64) l6⟩]) (Zw hU rfl rfl ?_) ?_
 ·simp only [push_cast, seval, ↓reduceIte, Za, al6, bl6, cl6, fl6, nl6, hN0, hN]
 refine Zh ?_
 refine Zn [0, 1, 6, 7, 8] (Zb Zc [] ?_)
 simp only [push_cast, seval, ↓reduceIte, Za, hN0, hN]
 refine Zi [0, 1, 6, 7, 8] [true] ?_
 simp only [push_cast, seval, ↓reduceIte]
 obtain ⟨z20, hz20, h⟩ := bC h
 refine Zr3 (J := (Znw (fun z20 => JR n (⟨62, [], [(4, .val (.slice none 0 0)), (5, .val (.bool false))]⟩ : Env) (Zx O n [none]) (n + 1)) (fun z20 => JX 0 n (⟨62, [], [(7, .row n z20.length)]⟩ : Env) (Zx O n [some ⟨true, 31, 1, z20.length, fl (eI .u64) z20⟩]) (n + 1)))) (z := z20) ?_ fun hw => ?_
 ·refine Zht hz20 (fun s0_ => ⟨62, [], [(0, .val (.int .i64 a0)), (1, .sl a1.length (fl (eI .u64) a1)), (6, .val (.int .i64 y2)), (7, .row n s0_.2.length), (8, .val (.int .i64 s0_.1))]⟩) (fun s0_ => (Zx O n [some ⟨true, 31, 1, s0_.2.length, fl (eI .u64) s0_.2⟩])) (Znw (fun z20 => JR n (⟨62, [], [(4, .val (.slice none 0 0)), (5, .val (.bool false))]⟩ : Env) (Zx O n [none]) (n + 1)) (fun z20 => JX 0 n (⟨62, [], [(7, .row n z20.length)]⟩ : Env) (Zx O n [some ⟨true, 31, 1, z20.length, fl (eI .u64) z20⟩]) (n + 1))) ?_
  intro s0_ x0_ hs0_
  unfold Zv at hs0_
  try dsimp only
  refine Zh ?_
  refine Zn [0, 1, 6, 7, 8, 23] (Zb Zc [] ?_)
  simp only [push_cast, seval, ↓reduceIte, Za, hN0, hN]
  refine Zs (t := (decide (s0_.1 < (a1.length : Int)))) rfl (fun c19 => ?_) (fun c19 => ?_)
  ·replace hs0_ := Zu c19 hs0_
   refine Z3 ?_
   try simp only [Zj, Ze]
   refine Zi [0, 1, 6, 7, 8] [true] ?_
   simp only [push_cast, seval, ↓reduceIte]
   obtain ⟨z7, hz7, hs0_⟩ := bC hs0_
   refine Zsl (J := (Znw (fun z7 => JN n (⟨62, [], [(0, .val (.int .i64 a0)), (1, .sl a1.length (fl (eI .u64) a1)), (6, .val (.int .i64 y2)), (7, .row n z7.length), (8, .val (.int .i64 s0_.1))]⟩ : Env) (Zx O n [some ⟨true, 31, 1, z7.length, fl (eI .u64) z7⟩]) (n + 1)) (fun z7 => JR n (⟨62, [], [(4, .val (.slice none 0 0)), (5, .val (.bool false))]⟩ : Env) (Zx O n [none]) (n + 1)))) (z := z7) ?_ fun hw => ?_
   ·refine J6 ?_
    obtain ⟨x9, hx9, ax9, bx9, cx9, hz7⟩ := bE (f := (eI .u64)) Za4 (fun _ => rfl) (by decide) hz7
    refine Zn [0, 1, 6, 7, 8, 9] (Zb Zc [] ?_)
    simp only [push_cast, Nat.reduceAdd, Nat.reduceSub, Nat.reduceMul, Nat.reduceLeDiff, Nat.reduceLT, Nat.reduceEqDiff, ↓reduceIte, reduceCtorEq, Int.reduceBEq, Int.reduceBNe, Nat.reduceBEq, Int.reduceLE, Int.reduceLT, Int.reduceEq, Int.reduceNe, Int.reduceNeg, Nat.reduceDiv, Nat.reduceMod, Nat.reducePow, Za, ax9, bx9, cx9, hN0, hN]
    refine Zh ?_
    refine Zh ?_
    obtain ⟨y11, hy11, hz7⟩ := bC hz7
    refine Zb Zc [] ?_
    simp only [push_cast, seval, ↓reduceIte, Za, hN0, hN]
    refine (Zd3 hy11).then ?_
    simp only [push_cast, seval, ↓reduceIte, Za, hN0, hN]
    refine Zi [0, 1, 6, 7, 8, 9, 33] [true] ?_
    simp only [push_cast, seval, ↓reduceIte]
    refine Zs (t := (!y11)) rfl (fun c18 => ?_) (fun c18 => ?_)
    ·replace hz7 := Zu c18 hz7
     refine Zn [4, 5] (Zb Zc [] ?_)
     simp only [push_cast, seval, ↓reduceIte, Za, hN0, hN]
     refine Zq ?_
     try simp only [Zj, Ze]
     have hz7 := Option.some.inj hz7; subst hz7
     refine And.intro rfl (Fit2.of (Zw hU rfl rfl ?_) (by omega))
     simp only [push_cast, seval, ↓reduceIte, Za, hN0, hN]
    replace hz7 := Zt c18 hz7
    refine Z3 ?_
    try simp only [Zj, Ze]
    refine Zi [0, 1, 6, 7, 8, 9] [true] ?_
    simp only [push_cast, seval, ↓reduceIte]
    refine Zh ?_
    refine Zn [0, 1, 6, 7, 8, 9, 10] (Zb Zc [] ?_)
    simp only [push_cast, seval, ↓reduceIte, Za, hN0, hN]
    refine Zi [0, 1, 6, 7, 8, 9, 10] [true] ?_
    simp only [push_cast, seval, ↓reduceIte]
    obtain ⟨z13, hz13, hz7⟩ := bC hz7
    refine Zeb (E' := ⟨62, [], [(0, .val (.int .i64 a0)), (1, .sl a1.length (fl (eI .u64) a1)), (6, .val (.int .i64 y2)), (7, .row n s0_.2.length), (8, .val (.int .i64 s0_.1)), (9, .val (.int .u64 z13))]⟩) (O' := (Zx O n [some ⟨true, 31, 1, s0_.2.length, fl (eI .u64) s0_.2⟩])) (n0 := (n + 1)) ?_ ?_
    ·refine Zht hz13 (fun s1_ => ⟨62, [], [(0, .val (.int .i64 a0)), (1, .sl a1.length (fl (eI .u64) a1)), (6, .val (.int .i64 y2)), (7, .row n s0_.2.length), (8, .val (.int .i64 s0_.1)), (9, .val (.int .u64 s1_.1)), (10, .val (.int .i64 s1_.2))]⟩) (fun s1_ => (Zx O n [some ⟨true, 31, 1, s0_.2.length, fl (eI .u64) s0_.2⟩])) (fun z13 => JX 2 n (⟨62, [], [(0, .val (.int .i64 a0)), (1, .sl a1.length (fl (eI .u64) a1)), (6, .val (.int .i64 y2)), (7, .row n s0_.2.length), (8, .val (.int .i64 s0_.1)), (9, .val (.int .u64 z13))]⟩ : Env) (Zx O n [some ⟨true, 31, 1, s0_.2.length, fl (eI .u64) s0_.2⟩]) (n + 1)) ?_
     intro s1_ x1_ hs1_
     unfold Yk at hs1_
     try dsimp only
     refine Zh ?_
     refine Zn [0, 1, 6, 7, 8, 9, 10, 39] (Zb Zc [] ?_)
     simp only [push_cast, seval, ↓reduceIte, Za, hN0, hN]
     refine Zs (t := (decide (s1_.2 < (Int.tmod (IntKind.i64.wrap (s0_.1 * y2)) 64)))) rfl (fun c12 => ?_) (fun c12 => ?_)
     ·replace hs1_ := Zu c12 hs1_
      refine Z3 ?_
      try simp only [Zj, Ze]
      refine Zi [0, 1, 6, 7, 8, 9, 10] [true] ?_
      simp only [push_cast, seval, ↓reduceIte]
      refine Zh ?_
      refine J6 ?_
      refine Zb Zc [] ?_
      simp only [push_cast, seval, ↓reduceIte, Za, hN0, hN]
      refine Zi [0, 1, 6, 7, 8, 9, 10] [true] ?_
      simp only [push_cast, seval, ↓reduceIte]
      refine Zb Zc [] ?_
      simp only [push_cast, seval, ↓reduceIte, Za, hN0, hN]
      have hs1_ := Option.some.inj hs1_; subst hs1_
      refine And.intro rfl (Fit2.of (Zw hU rfl rfl ?_) (by omega))
      simp only [push_cast, seval, ↓reduceIte, Za, hN0, hN]
     replace hs1_ := Zt c12 hs1_
     refine Zkv ?_
     try simp only [Zj, Ze, ↓reduceIte, Nat.reduceEqDiff]
     have hs1_ := Option.some.inj hs1_; subst hs1_
     refine And.intro (fun h => by cases h) (And.intro rfl (Fit2.of (Zw hU rfl rfl ?_) (by omega)))
     simp only [push_cast, seval, ↓reduceIte, Za, hN0, hN]
    try simp only [Zj, Ze, ↓reduceIte, Nat.reduceEqDiff]
    refine Zi [0, 1, 6, 7, 8, 9] [true] ?_
    simp only [push_cast, seval, ↓reduceIte]
    refine Zn [0, 1, 6, 7, 8, 9, 45] (Zb Zc [] ?_)
    simp only [push_cast, seval, ↓reduceIte, Za, hN0, hN]
    refine Zs (t := (decide (0 < y2))) rfl (fun c17 => ?_) (fun c17 => ?_)
    ·replace hz7 := Zu c17 hz7
     obtain ⟨x14, hx14, ax14, bx14, cx14, hz7⟩ := bE (f := (eI .u64)) Za4 (fun _ => rfl) (by decide) hz7
     have gu16 : Km (fl (eI .u64) s0_.2) [.val (.int .u64 (IntKind.u64.wrap (x14 + z13)))] (Int.toNat (IntKind.i64.wrap (Int.tdiv (IntKind.i64.wrap (s0_.1 * y2)) 64)) * 1) = some (fl (eI .u64) (Zd7 s0_.2 (IntKind.i64.wrap (Int.tdiv (IntKind.i64.wrap (s0_.1 * y2)) 64)) (IntKind.u64.wrap (x14 + z13)))) := Zki (f := (eI .u64)) (ti := ⟨.bool, 1, 0, [], false⟩) (x := (IntKind.u64.wrap (x14 + z13))) (fun _ => rfl) (Zeu hx14)
     refine Zb Zc [] ?_
     simp only [push_cast, Nat.reduceAdd, Nat.reduceSub, Nat.reduceMul, Nat.reduceLeDiff, Nat.reduceLT, Nat.reduceEqDiff, ↓reduceIte, reduceCtorEq, Int.reduceBEq, Int.reduceBNe, Nat.reduceBEq, Int.reduceLE, Int.reduceLT, Int.reduceEq, Int.reduceNe, Int.reduceNeg, Nat.reduceDiv, Nat.reduceMod, Nat.reducePow, Za, ax14, bx14, cx14, gu16, hN0, hN]
     have hz7 := Option.some.inj hz7; subst hz7
     refine And.intro rfl (Fit2.of (Zw hU rfl rfl ?_) (by omega))
     simp only [push_cast, Nat.reduceAdd, Nat.reduceSub, Nat.reduceMul, Nat.reduceLeDiff, Nat.reduceLT, Nat.reduceEqDiff, ↓reduceIte, reduceCtorEq, Int.reduceBEq, Int.reduceBNe, Nat.reduceBEq, Int.reduceLE, Int.reduceLT, Int.reduceEq, Int.reduceNe, Int.reduceNeg, Nat.reduceDiv, Nat.reduceMod, Nat.reducePow, Za, ax14, bx14, cx14, gu16, hN0, hN]
    replace hz7 := Zt c17 hz7
    refine Z3 ?_
    try simp only [Zj, Ze]
    have hz7 := Option.some.inj hz7; subst hz7
    refine And.intro rfl (Fit2.of (Zw hU rfl rfl ?_) (by omega))
    simp only [push_cast, seval, ↓reduceIte, Za, hN0, hN]
   rcases z7 with z7 | z7
   ·dsimp only [Znw] at hw hs0_
    refine Gp hw ?_
    refine Zb Zc [] ?_
    simp only [push_cast, seval, ↓reduceIte, Za, hN0, hN]
    have hs0_ := Option.some.inj hs0_; subst hs0_
    refine And.intro rfl (Fit2.of (Zw hU rfl rfl ?_) (by omega))
    simp only [push_cast, seval, ↓reduceIte, Za, hN0, hN]
   dsimp only [Znw] at hw hs0_
   refine Zr2 hw ?_
   try simp only [Zj, Ze]
   have hs0_ := Option.some.inj hs0_; subst hs0_
   refine And.intro (fun h => by cases h) (And.intro rfl (Fit2.of (Zw hU rfl rfl ?_) (by omega)))
   simp only [push_cast, seval, ↓reduceIte, Za, hN0, hN]
  replace hs0_ := Zt c19 hs0_
  refine Zkv ?_
  try simp only [Zj, Ze, ↓reduceIte, Nat.reduceEqDiff]
  have hs0_ := Option.some.inj hs0_; subst hs0_
  refine And.intro (fun h => by cases h) (And.intro rfl (Fit2.of (Zw hU rfl rfl ?_) (by omega)))
  simp only [push_cast, seval, ↓reduceIte, Za, hN0, hN]
 rcases z20 with z20 | z20
 ·dsimp only [Znw] at hw h
  refine Zpq hw ?_
  try simp only [Zj, Ze, ↓reduceIte, Nat.reduceEqDiff]
  have h := Option.some.inj h; subst h
  refine Zk (.inr rfl) hU [.val (.slice none 0 0), .val (.bool false)] (by omega) ?_
  simp only [push_cast, seval, ↓reduceIte, Za, Try.results23, hN0, hN]
 dsimp only [Znw] at hw h
 refine Zeb hw ?_
 try simp only [Zj, Ze, ↓reduceIte, Nat.reduceEqDiff]
 refine Zi [7] [true] ?_
 simp only [push_cast, seval, ↓reduceIte]
 refine Zn [4, 5] (Zb Zc [] ?_)
 simp only [push_cast, seval, ↓reduceIte, Za, hN0, hN]
 refine Zq ?_
 try simp only [Zj, Ze]
 have h := Option.some.inj h; subst h
 refine Zk (.inr rfl) hU [.row n z20.length, .val (.bool true)] (by omega) ?_
 simp only [push_cast, seval, ↓reduceIte, Za, Try.results23, hN0, hN]
theorem Gd {a0 : Int} {a1 : (List Int)} {a2 : Int} {r : Bool} {O : Objs} {n : Nat} (h : Xc a0 a1 a2 = some r) : GTo Try.prog 4 [.val (.int .i64 a0), .sl a1.length (fl (eI .u64) a1), .val (.int .i64 a2)] O n (.val (.bool r)) O n := by
 unfold Xc at h
 refine Xf Zc Try.call4 Try.func4 rfl (Nat.le_of_ble_eq_true rfl) (Nat.le_refl _) fun hU => ?_
 have hN0 : O n = none := hU.fresh _ (Nat.le_refl _)
 have hN : ∀ k, O (n + k) = none := fun k => hU.fresh _ (Nat.le_add_right _ _)
 show W _ _ _ _ ⟨108, [], [(0, .val (.int .i64 a0)), (1, .sl a1.length (fl (eI .u64) a1)), (2, .val (.int .i64 a2))]⟩ (Zx O n []) _
 refine Zn [0, 1, 2] (Zb Zc [] ?_)
 simp only [push_cast, seval, ↓reduceIte, Za, hN0, hN]
 refine Zh ?_
 obtain ⟨y2, hy2, h⟩ := bC h
 refine Zb Zc [] ?_
 simp only [push_cast, seval, ↓reduceIte, Za, hN0, hN]
 refine (Zfa hy2).then ?_
 simp only [push_cast, seval, ↓reduceIte, Za, hN0, hN]
 refine Zi [0, 1, 2, 7, 8] [] ?_
 simp only [push_cast, seval, ↓reduceIte]
 refine Zh ?_
 refine Zn [0, 1, 2, 7, 27] (Zb Zc [none, none, none] ?_)
 simp only [push_cast, seval, ↓reduceIte, Za, hN0, hN]
 repeat (with_reducible refine And.intro (by first | (intro h0; simp only [h0, and_self]; done) | (intro h0; simp only [h0, Bool.not_false, Bool.not_true, Bool.true_and, Bool.and_true, true_and, and_true, and_self, imp_self, implies_true, bne_iff_ne, ne_eq, beq_iff_eq]; done) | (intros; simp_all; done) | exact True.intro) ?_)
 refine Zs (t := (cond (!y2.2) true (decide (300 < (a1.length : Int))))) rfl (fun c49 => ?_) (fun c49 => ?_)
 ·replace h := Zu c49 h
  refine Zh ?_
  obtain ⟨y4, hy4, h⟩ := bC h
  refine Zb Zc [] ?_
  simp only [push_cast, seval, ↓reduceIte, Za, hN0, hN]
  refine (Jr hy4).then ?_
  simp only [push_cast, seval, ↓reduceIte, Za, hN0, hN]
  refine Zi [6] [] ?_
  simp only [push_cast, seval, ↓reduceIte]
  refine Zq ?_
  try simp only [Zj, Ze]
  have h := Option.some.inj h; subst h
  refine Zk (.inr rfl) hU [.val (.bool y4)] (by omega) ?_
  simp only [push_cast, seval, ↓reduceIte, Za, Try.results4, hN0, hN]
 replace h := Zt c49 h
 refine Z3 ?_
 try simp only [Zj, Ze]
 refine Zi [0, 1, 2, 7] [] ?_
 simp only [push_cast, seval, ↓reduceIte]
 refine Zn [0, 1, 2, 7, 9] (Zb Zc [] ?_)
 simp only [push_cast, seval, ↓reduceIte, Za, hN0, hN]
 refine Zh ?_
 obtain ⟨l7, pl7, ql7, el7, h⟩ := bA (k := y2.1.length) rfl h
 simp only [List.length_cons, List.length_nil, Nat.zero_add, Nat.reduceAdd] at pl7 ql7
 have ml7 : 1 + List.length y2.1 = List.length y2.1 + 1 := Nat.add_comm _ _
 simp only [ml7] at pl7 ql7
 obtain ⟨y8, hy8, h⟩ := bC h
 refine Zb Zc [] ?_
 simp only [push_cast, seval, ↓reduceIte, Za, pl7, ql7, el7, ml7, hN0, hN]
 refine GCalls.dropL (l' := [none, none]) hU rfl ?_ ((Zhn hy8).then ?_)
 ·simp only [push_cast, seval, ↓reduceIte, Za, pl7, ql7, el7, ml7, hN0, hN]
 simp only [push_cast, seval, ↓reduceIte, Za, pl7, ql7, el7, ml7, hN0, hN]
 refine Zi [0, 1, 2, 10] [false, false] ?_
 simp only [push_cast, seval, ↓reduceIte]
 refine Zh ?_
 obtain ⟨y10, hy10, h⟩ := bC h
 refine Zb Zc [] ?_
 simp only [push_cast, seval, ↓reduceIte, Za, hN0, hN]
 refine (Zca hy10).then ?_
 simp only [push_cast, seval, ↓reduceIte, Za, hN0, hN]
 refine Zi [0, 1, 2, 11, 12] [false, false, true] ?_
 simp only [push_cast, seval, ↓reduceIte]
 refine Zh ?_
 obtain ⟨z13, hz13, h⟩ := bC h
 refine Gp (E' := ⟨108, [], [(1, .sl a1.length (fl (eI .u64) a1)), (2, .val (.int .i64 a2)), (11, .ref (n + 2) 0), (64, .val (.bool z13))]⟩) (O' := (Zx O n [none, none, some ⟨false, 27, 9, 1, (Zl y10.1)⟩])) (n0 := (n + 3)) ?_ ?_
 ·rcases Bool.eq_false_or_eq_true (y10.2 != 0) with c18 | c18
  ·replace hz13 := Zu c18 hz13
   refine Zb Zc [some false, some false, some false, some false, some false, some false, some false, some false, some false, some false] ?_
   simp only [push_cast, seval, ↓reduceIte, Za, c18, hN0, hN]
   have hz13 := Option.some.inj hz13; subst hz13
   refine And.intro rfl (Fit2.of (Zw hU rfl rfl ?_) (by omega))
   simp only [push_cast, seval, ↓reduceIte, Za, c18, hN0, hN]
  replace hz13 := Zt c18 hz13
  obtain ⟨y16, hy16, hz13⟩ := bC hz13
  rcases Bool.eq_false_or_eq_true (y16 != (IntKind.i64.wrap (2 + a0))) with c19 | c19
  ·replace hz13 := Zu c19 hz13
   try rw [c19] at c18
   refine Zb Zc [some true, some true, some true, some true, some true, some false, some false, some false, some false, some false] ?_
   simp only [push_cast, seval, ↓reduceIte, Za, c18, c19, hN0, hN]
   refine (Z0 hy16).then ?_
   simp only [push_cast, seval, ↓reduceIte, Za, c18, c19, hN0, hN]
   have hz13 := Option.some.inj hz13; subst hz13
   refine And.intro rfl (Fit2.of (Zw hU rfl rfl ?_) (by omega))
   simp only [push_cast, seval, ↓reduceIte, Za, c18, c19, hN0, hN]
  replace hz13 := Zt c19 hz13
  try rw [c19] at c18
  obtain ⟨y17, hy17, hz13⟩ := bC hz13
  refine Zb Zc [some true, some true, some true, some true, some true, some true, some true, some true, some true, some true] ?_
  simp only [push_cast, seval, ↓reduceIte, Za, c18, c19, hN0, hN]
  refine (Z0 hy16).then ?_
  simp only [push_cast, seval, ↓reduceIte, Za, c18, c19, hN0, hN]
  refine (Kc hy17).then ?_
  simp only [push_cast, seval, ↓reduceIte, Za, c18, c19, hN0, hN]
  have hz13 := Option.some.inj hz13; subst hz13
  refine And.intro rfl (Fit2.of (Zw hU rfl rfl ?_) (by omega))
  simp only [push_cast, seval, ↓reduceIte, Za, c18, c19, hN0, hN]
 refine Zs (t := z13) rfl (fun c48 => ?_) (fun c48 => ?_)
 ·replace h := Zu c48 h
  refine Zn [6] (Zb Zc [] ?_)
  simp only [push_cast, seval, ↓reduceIte, Za, hN0, hN]
  refine Zq ?_
  try simp only [Zj, Ze]
  have h := Option.some.inj h; subst h
  refine Zk (.inr rfl) hU [.val (.bool false)] (by omega) ?_
  simp only [push_cast, seval, ↓reduceIte, Za, Try.results4, hN0, hN]
 replace h := Zt c48 h
 refine Z3 ?_
 try simp only [Zj, Ze]
 refine Zi [1, 2, 11] [false, false, true] ?_
 simp only [push_cast, seval, ↓reduceIte]
 refine Zh ?_
 obtain ⟨y21, hy21, h⟩ := bC h
 refine Zb Zc [] ?_
 simp only [push_cast, seval, ↓reduceIte, Za, hN0, hN]
 refine (Zfb hy21).then ?_
 simp only [push_cast, seval, ↓reduceIte, Za, hN0, hN]
 refine Zi [1, 2, 13, 14] [false, false, false, true] ?_
 simp only [push_cast, seval, ↓reduceIte]
 refine Zh ?_
 refine Zn [1, 2, 13, 14, 78] (Zb Zc [none, none, none, none] ?_)
 simp only [push_cast, seval, ↓reduceIte, Za, hN0, hN]
 repeat (with_reducible refine And.intro (by first | (intro h0; simp only [h0, and_self]; done) | (intro h0; simp only [h0, Bool.not_false, Bool.not_true, Bool.true_and, Bool.and_true, true_and, and_true, and_self, imp_self, implies_true, bne_iff_ne, ne_eq, beq_iff_eq]; done) | (intros; simp_all; done) | exact True.intro) ?_)
 refine Zs (t := (cond (decide (a2 < 0)) true (decide ((a1.length : Int) ≤ a2)))) rfl (fun c47 => ?_) (fun c47 => ?_)
 ·replace h := Zu c47 h
  obtain ⟨z24, hz24, h⟩ := bC h
  refine Gp (E' := ⟨108, [], [(6, .val (.bool z24))]⟩) (O' := (Zx O n [none, none, none, none])) (n0 := (n + 4)) ?_ ?_
  ·rcases Bool.eq_false_or_eq_true (y21.2 == 0) with c29 | c29
   ·replace hz24 := Zu c29 hz24
    obtain ⟨y27, hy27, hz24⟩ := bC hz24
    rcases Bool.eq_false_or_eq_true (y27 == 0) with c30 | c30
    ·replace hz24 := Zu c30 hz24
     try rw [c30] at c29
     obtain ⟨y28, hy28, hz24⟩ := bC hz24
     refine Zb Zc [some true, some true, some true, some true] ?_
     simp only [push_cast, seval, ↓reduceIte, Za, c29, c30, hN0, hN]
     refine (Z0 hy27).then ?_
     simp only [push_cast, seval, ↓reduceIte, Za, c29, c30, hN0, hN]
     refine (Jr hy28).then ?_
     simp only [push_cast, seval, ↓reduceIte, Za, c29, c30, hN0, hN]
     have hz24 := Option.some.inj hz24; subst hz24
     refine And.intro rfl (Fit2.of (Zw hU rfl rfl ?_) (by omega))
     simp only [push_cast, seval, ↓reduceIte, Za, c29, c30, hN0, hN]
    replace hz24 := Zt c30 hz24
    try rw [c30] at c29
    refine Zb Zc [some true, some true, some true, some false] ?_
    simp only [push_cast, seval, ↓reduceIte, Za, c29, c30, hN0, hN]
    refine (Z0 hy27).then ?_
    simp only [push_cast, seval, ↓reduceIte, Za, c29, c30, hN0, hN]
    have hz24 := Option.some.inj hz24; subst hz24
    refine And.intro rfl (Fit2.of (Zw hU rfl rfl ?_) (by omega))
    simp only [push_cast, seval, ↓reduceIte, Za, c29, c30, hN0, hN]
   replace hz24 := Zt c29 hz24
   refine Zb Zc [some false, some false, some false, some false] ?_
   simp only [push_cast, seval, ↓reduceIte, Za, c29, hN0, hN]
   have hz24 := Option.some.inj hz24; subst hz24
   refine And.intro rfl (Fit2.of (Zw hU rfl rfl ?_) (by omega))
   simp only [push_cast, seval, ↓reduceIte, Za, c29, hN0, hN]
  refine Zq ?_
  try simp only [Zj, Ze]
  have h := Option.some.inj h; subst h
  refine Zk (.inr rfl) hU [.val (.bool z24)] (by omega) ?_
  simp only [push_cast, seval, ↓reduceIte, Za, Try.results4, hN0, hN]
 replace h := Zt c47 h
 refine Z3 ?_
 try simp only [Zj, Ze]
 refine Zi [1, 2, 13, 14] [false, false, false, true] ?_
 simp only [push_cast, seval, ↓reduceIte]
 obtain ⟨z35, hz35, h⟩ := bC h
 refine Gp (E' := ⟨108, [], [(6, .val (.bool z35))]⟩) (O' := (Zx O n [none, none, none, none])) (n0 := (n + 4)) ?_ ?_
 ·rcases Bool.eq_false_or_eq_true (y21.2 == 0) with c44 | c44
  ·replace hz35 := Zu c44 hz35
   obtain ⟨y40, hy40, hz35⟩ := bC hz35
   rcases Bool.eq_false_or_eq_true (y40 == 10) with c45 | c45
   ·replace hz35 := Zu c45 hz35
    try rw [c45] at c44
    obtain ⟨y41, hy41, hz35⟩ := bC hz35
    obtain ⟨x42, hx42, ax42, bx42, cx42, hz35⟩ := bE (f := (eI .u64)) Za4 (fun _ => rfl) (by decide) hz35
    rcases Bool.eq_false_or_eq_true (y41 == x42) with c46 | c46
    ·replace hz35 := Zu c46 hz35
     try rw [c46] at c44
     try rw [c46] at c45
     obtain ⟨y43, hy43, hz35⟩ := bC hz35
     refine Gf Zc (by kernel_rfl) [some true, some true, some true, some true, some true, some true, some true, some true, some true, some true, some true] (by kernel_rfl) ?_
     simp only [push_cast, Nat.reduceAdd, Nat.reduceSub, Nat.reduceMul, Nat.reduceLeDiff, Nat.reduceLT, Nat.reduceEqDiff, ↓reduceIte, reduceCtorEq, Int.reduceBEq, Int.reduceBNe, Nat.reduceBEq, Int.reduceLE, Int.reduceLT, Int.reduceEq, Int.reduceNe, Int.reduceNeg, Nat.reduceDiv, Nat.reduceMod, Nat.reducePow, Za, c44, c45, ax42, bx42, cx42, c46, hN0, hN]
     refine PCall.of (Z0 hy40) ?_
     simp only [push_cast, Nat.reduceAdd, Nat.reduceSub, Nat.reduceMul, Nat.reduceLeDiff, Nat.reduceLT, Nat.reduceEqDiff, ↓reduceIte, reduceCtorEq, Int.reduceBEq, Int.reduceBNe, Nat.reduceBEq, Int.reduceLE, Int.reduceLT, Int.reduceEq, Int.reduceNe, Int.reduceNeg, Nat.reduceDiv, Nat.reduceMod, Nat.reducePow, Za, c44, c45, ax42, bx42, cx42, c46, hN0, hN]
     refine PCall.of (Q2 hy41) ?_
     simp only [push_cast, Nat.reduceAdd, Nat.reduceSub, Nat.reduceMul, Nat.reduceLeDiff, Nat.reduceLT, Nat.reduceEqDiff, ↓reduceIte, reduceCtorEq, Int.reduceBEq, Int.reduceBNe, Nat.reduceBEq, Int.reduceLE, Int.reduceLT, Int.reduceEq, Int.reduceNe, Int.reduceNeg, Nat.reduceDiv, Nat.reduceMod, Nat.reducePow, Za, c44, c45, ax42, bx42, cx42, c46, hN0, hN]
     refine PCall.of (Jr hy43) ?_
     simp only [push_cast, Nat.reduceAdd, Nat.reduceSub, Nat.reduceMul, Nat.reduceLeDiff, Nat.reduceLT, Nat.reduceEqDiff, ↓reduceIte, reduceCtorEq, Int.reduceBEq, Int.reduceBNe, Nat.reduceBEq, Int.reduceLE, Int.reduceLT, Int.reduceEq, Int.reduceNe, Int.reduceNeg, Nat.reduceDiv, Nat.reduceMod, Nat.reducePow, Za, c44, c45, ax42, bx42, cx42, c46, hN0, hN]
     have hz35 := Option.some.inj hz35; subst hz35
     refine And.intro rfl (Fit2.of (Zw hU rfl rfl ?_) (by omega))
     simp only [push_cast, Nat.reduceAdd, Nat.reduceSub, Nat.reduceMul, Nat.reduceLeDiff, Nat.reduceLT, Nat.reduceEqDiff, ↓reduceIte, reduceCtorEq, Int.reduceBEq, Int.reduceBNe, Nat.reduceBEq, Int.reduceLE, Int.reduceLT, Int.reduceEq, Int.reduceNe, Int.reduceNeg, Nat.reduceDiv, Nat.reduceMod, Nat.reducePow, Za, c44, c45, ax42, bx42, cx42, c46, hN0, hN]
    replace hz35 := Zt c46 hz35
    try rw [c46] at c44
    try rw [c46] at c45
    refine Gf Zc (by kernel_rfl) [some true, some true, some true, some true, some true, some true, some true, some true, some true, some true, some false] (by kernel_rfl) ?_
    simp only [push_cast, Nat.reduceAdd, Nat.reduceSub, Nat.reduceMul, Nat.reduceLeDiff, Nat.reduceLT, Nat.reduceEqDiff, ↓reduceIte, reduceCtorEq, Int.reduceBEq, Int.reduceBNe, Nat.reduceBEq, Int.reduceLE, Int.reduceLT, Int.reduceEq, Int.reduceNe, Int.reduceNeg, Nat.reduceDiv, Nat.reduceMod, Nat.reducePow, Za, c44, c45, ax42, bx42, cx42, c46, hN0, hN]
    refine PCall.of (Z0 hy40) ?_
    simp only [push_cast, Nat.reduceAdd, Nat.reduceSub, Nat.reduceMul, Nat.reduceLeDiff, Nat.reduceLT, Nat.reduceEqDiff, ↓reduceIte, reduceCtorEq, Int.reduceBEq, Int.reduceBNe, Nat.reduceBEq, Int.reduceLE, Int.reduceLT, Int.reduceEq, Int.reduceNe, Int.reduceNeg, Nat.reduceDiv, Nat.reduceMod, Nat.reducePow, Za, c44, c45, ax42, bx42, cx42, c46, hN0, hN]
    refine PCall.of (Q2 hy41) ?_
    simp only [push_cast, Nat.reduceAdd, Nat.reduceSub, Nat.reduceMul, Nat.reduceLeDiff, Nat.reduceLT, Nat.reduceEqDiff, ↓reduceIte, reduceCtorEq, Int.reduceBEq, Int.reduceBNe, Nat.reduceBEq, Int.reduceLE, Int.reduceLT, Int.reduceEq, Int.reduceNe, Int.reduceNeg, Nat.reduceDiv, Nat.reduceMod, Nat.reducePow, Za, c44, c45, ax42, bx42, cx42, c46, hN0, hN]
    have hz35 := Option.some.inj hz35; subst hz35
    refine And.intro rfl (Fit2.of (Zw hU rfl rfl ?_) (by omega))
    simp only [push_cast, Nat.reduceAdd, Nat.reduceSub, Nat.reduceMul, Nat.reduceLeDiff, Nat.reduceLT, Nat.reduceEqDiff, ↓reduceIte, reduceCtorEq, Int.reduceBEq, Int.reduceBNe, Nat.reduceBEq, Int.reduceLE, Int.reduceLT, Int.reduceEq, Int.reduceNe, Int.reduceNeg, Nat.reduceDiv, Nat.reduceMod, Nat.reducePow, Za, c44, c45, ax42, bx42, cx42, c46, hN0, hN]
   replace hz35 := Zt c45 hz35
   try rw [c45] at c44
   refine Gf Zc (by kernel_rfl) [some true, some true, some true, some false, some false, some false, some false, some false, some false, some false, some false] (by kernel_rfl) ?_
   simp only [push_cast, seval, ↓reduceIte, Za, c44, c45, hN0, hN]
   refine PCall.of (Z0 hy40) ?_
   simp only [push_cast, seval, ↓reduceIte, Za, c44, c45, hN0, hN]
   have hz35 := Option.some.inj hz35; subst hz35
   refine And.intro rfl (Fit2.of (Zw hU rfl rfl ?_) (by omega))
   simp only [push_cast, seval, ↓reduceIte, Za, c44, c45, hN0, hN]
  replace hz35 := Zt c44 hz35
  refine Gf Zc (by kernel_rfl) [some false, some false, some false, some false, some false, some false, some false, some false, some false, some false, some false] (by kernel_rfl) ?_
  simp only [push_cast, seval, ↓reduceIte, Za, c44, hN0, hN]
  have hz35 := Option.some.inj hz35; subst hz35
  refine And.intro rfl (Fit2.of (Zw hU rfl rfl ?_) (by omega))
  simp only [push_cast, seval, ↓reduceIte, Za, c44, hN0, hN]
 refine Zq ?_
 try simp only [Zj, Ze]
 have h := Option.some.inj h; subst h
 refine Zk (.inr rfl) hU [.val (.bool z35)] (by omega) ?_
 simp only [push_cast, seval, ↓reduceIte, Za, Try.results4, hN0, hN]
end Go.Proofs.Ytmlhokaflhlhbaa
