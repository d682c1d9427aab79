/- Part RM2 of this seat's mirrors: functions of the seat's program, and the plain functions that they are; each theorem bears its own conditions. -/
import Derived.Test.YtgijkjifiekkmaaRE
import Derived.Test.YtgijkjifiekkmaaRM1
namespace Go.Proofs.Ytgijkjifiekkmaa
open Go.RowKit
set_option linter.unusedVariables false
set_option linter.unusedSimpArgs false
set_option maxRecDepth 100000
set_option maxHeartbeats 4000000
attribute [local push_cast] Zih Zig Zi5 Zi4 Zf Zd Zfw Zbh Zbg onW Z5 Q9 Jh Zdg Zep Zd1 Zd5 Zd0 Zd4 Zgx Zgu Zd3 Zgw Zgv Zd2 Zgs Zca Uh wok Xp Op.operands Call.operands gop onK onP atK List.all_cons List.all_nil Bool.and_true Bool.true_and Bool.and_self Value.oneCell' List.take_zero List.take_succ_cons List.take_nil List.drop_zero List.drop_succ_cons List.drop_nil List.append_nil Nat.add_zero Nat.zero_add Qo Zq ev Y7 Zfr Zh9 Zh8 Zie Zic Zid Zia Zib Zh7 Zcr Zek Zhm Ua Jp G0 Kv Zdf Ky Gu Gz Za9 Za6 Gx Za8 Za7 Gw Za4 Gv Gy Uj Za5 Us Zbj Qz Uu Q0 Gc V7 Zfx Jy U4 Vq Jr Ga Zkq V6 Ur Kw Qm Zft Zks Un Zkv Kh Zlc Zf5 Zf9 Zf4 Zf8 Zis Zip Zin Zdk Zf6 Zir Ziq Zf7 Zio Ut Zen Zgl Zb4 Zb3 Vs TK.isAgg Ziy Zi3 Zix Zi2 Zgd Zlt Zlq Zi1 Zls Zlr Ziz Zlp G.under G.unders List.getD_cons_zero List.getD_cons_succ List.set_cons_zero List.set_cons_succ List.map_cons List.map_nil List.toList_toArray Array.toList_append Option.toArray_none Option.toArray_some Array.toList_map Option.map_some Option.map_none Option.bind_some Option.bind_none List.getElem?_cons_zero List.getElem?_cons_succ List.getElem?_nil List.nil_append List.cons_append List.replicate_succ List.replicate_zero List.length_cons List.length_nil and_true true_and and_false false_and Bool.true_eq_false Bool.false_eq_true forall_const false_implies implies_true IntKind.bits if_true if_false ite_true ite_false eq_self true_implies false_or or_false or_true true_or not_true_eq_false not_false_eq_true decide_true decide_false decide_eq_true_eq decide_eq_false_iff_not beq_iff_eq bne_iff_ne ne_eq Bool.not_eq_true Bool.not_eq_false beq_eq_false_iff_ne bne_eq_false_iff_eq beq_self_eq_true bne_self_eq_false Option.some.injEq exists_eq_left' exists_eq_left ge_iff_le gt_iff_lt decide_not Bool.not_true Bool.not_false imp_self Zle cond_true cond_false Zo5 Zo4 Bool.not_not Bool.and_false Bool.false_and Bool.or_true Bool.true_or Bool.or_false Bool.false_or V2 Zh0 Ks Ke Jl Jk Option.join_some Nat.add_assoc Int.toNat_natCast eI eB eS eL Zeg Ge Zab Zik Zii Zij Zlo Zm3 Gl Zah Zjc Zja Zjb Zht Zba Zh3 Zan Zfm Kf Zhh List.length_append G.agg.injEq G.row.injEq G.ref.injEq G.val.injEq G.sl.injEq G.tup.injEq Value.int.injEq Value.bool.injEq Value.string.injEq List.cons.injEq exists_and_left exists_const List.flatten_cons List.flatten_nil Int.le_refl Nat.le_refl Zg3 J3 Zfh Bool.not_eq_true' Bool.not_eq_false' Zkj Zcl Zmd Zmi Zmc Zmh Zog Zoc List.size_toArray Ze2 Zgn G.ren G.rens Zhv Gq Zje Zh5 Zh6 Zgt Zmj Gj G.fn.injEq Zg5 Zg6 Zki Zod Zg4 Zmg Zof Zoe Zmf Zlk Zne Option.join_none Xn Q5 undef Uv Arr.len Arr.put_eq Gk Zdo Zb0 Zag Zi9 Zi7 Zi8 onB Zln Zfp Zgp Ze7 Ze8 Ze9 Zfa Zfb Zfc Zdl Zds Zdq Zb2 Zai Zdr Zgk Zgj Zgi Zgh Zm2 Zos Zhs Zk1 Ka Zmz Zor Zdt Zb1 Zm4 Zlx Zee Uk Uz Zb7 Zfd Zfe Zff Zfg Zc0 Zc1 Zc2 Zc3 Zc4 Zc5 Zc6 J5 prT Zf2 Zo8 Zl3 Zm7 Zl4 Zo9 Zl5 J0 Zl6 Zpa Zl7 Zpb Zl8 Zpc Zl9 Zpd Zma Zng Zjk Znh Zjl Zni Zjm Znj Zjn Znk Zjo Znl Zjp Znm Zjq Znn Zjr Zno Zjs Znp Zjt Znq Zju Znr Zjv Zns Kb Znt Zjw Zd7 Zjx Znu Zjy Znv Zjz Znw Zj0 Znx Zj1 Zny Zj2 Znz Zj3 Zn0 Zj4 Zn1 Zj5 Zn2 Zj6 Zn3 Zj7 Zcc Zj8 Zn4 Zj9 Zn5 Zka Zn6 Zkb Zn7 Zkc Zn8 Zkd Zn9 Zke Zoa Zkf Zob Zkg Zl1 Zg1 Zl2 Zg2 Zcb U2 Zeb Zea Zdj Zdm Zec Zch Zb8 Zb6 Zd8 Zcm Zcj Zbr Zbx Zco Zao Zal Zaj Zcd Zcn Zck Zbs Zby Zcp Zap Zam Zak Zce V0 Vz Vv Vx V1 Ve Vb Va Vy
theorem Jg  {r : Bool} {O : Objs} {n : Nat} (h : Yp = some r) : GTo Try.prog 18 [] O n (.val (.bool r)) O n := by
 unfold Yp at h
 refine Ql Zc Try.call18 Try.func18 rfl (Nat.le_of_ble_eq_true rfl) (Nat.le_refl _) fun hU => ?_
 have hN0 : O n = none := hU.fresh _ (Nat.le_refl _)
 have hN : ∀ k, O (n + k) = none := fun k => hU.fresh _ (Nat.le_add_right _ _)
 show W _ _ _ _ ⟨32, [], []⟩ (Zm O n []) _
 refine Zk [] (Zb Zc [] ?_)
 simp only [push_cast, seval, ↓reduceIte, Za, hN0, hN]
 refine Zg ?_
 obtain ⟨y2, hy2, h⟩ := bC h
 refine Zb Zc [] ?_
 simp only [push_cast, seval, ↓reduceIte, Za, hN0, hN]
 refine GCalls.dropL (l' := [none, none]) hU rfl ?_ ((K8 hy2).then ?_)
 ·simp only [push_cast, seval, ↓reduceIte, Za, hN0, hN]
 simp only [push_cast, seval, ↓reduceIte, Za, hN0, hN]
 refine Ze [1, 2] [false, false] ?_
 simp only [push_cast, seval, ↓reduceIte]
 refine Zg ?_
 obtain ⟨y4, hy4, h⟩ := bC h
 refine Zb Zc [] ?_
 simp only [push_cast, seval, ↓reduceIte, Za, hN0, hN]
 refine (Km hy4).then ?_
 simp only [push_cast, seval, ↓reduceIte, Za, hN0, hN]
 refine Ze [1, 2, 3, 4] [false, false] ?_
 simp only [push_cast, seval, ↓reduceIte]
 obtain ⟨z7, hz7, h⟩ := bC h
 refine Zha (E' := ⟨32, [], [(0, .val (.bool z7))]⟩) (O' := (Zm O n [none, none, none, none, none])) (n0 := (n + 5)) ?_ ?_
 ·rcases Bool.eq_false_or_eq_true y2.2 with c12 | c12
  ·replace hz7 := Zx c12 hz7
   obtain ⟨y10, hy10, hz7⟩ := bC hz7
   rcases Bool.eq_false_or_eq_true y10 with c13 | c13
   ·replace hz7 := Zx c13 hz7
    try rw [c13] at c12
    rcases Bool.eq_false_or_eq_true (y4.2 == 0) with c14 | c14
    ·replace hz7 := Zx c14 hz7
     try rw [c14] at c12
     try rw [c14] at c13
     obtain ⟨y11, hy11, hz7⟩ := bC hz7
     refine Zb Zc [some true, some true, some true, none, none, some true, some true, some true, some true] ?_
     simp only [push_cast, seval, ↓reduceIte, Za, c12, c13, c14, hN0, hN]
     repeat (with_reducible refine And.intro (by first | (intro h0; simp only [h0, and_self]; done) | (intro h0; simp only [h0, Bool.not_false, Bool.not_true, Bool.true_and, Bool.and_true, true_and, and_true, and_self, imp_self, implies_true, bne_iff_ne, ne_eq, beq_iff_eq]; done) | (intros; simp_all; done) | exact True.intro) ?_)
     refine GCalls.lend (Yf hy10) rfl ?_ ?_
     ·simp only [push_cast, seval, ↓reduceIte, Za, c12, c13, c14, hN0, hN]
     simp only [push_cast, seval, ↓reduceIte, Za, c12, c13, c14, hN0, hN]
     repeat (with_reducible refine And.intro (by first | (intro h0; simp only [h0, and_self]; done) | (intro h0; simp only [h0, Bool.not_false, Bool.not_true, Bool.true_and, Bool.and_true, true_and, and_true, and_self, imp_self, implies_true, bne_iff_ne, ne_eq, beq_iff_eq]; done) | (intros; simp_all; done) | exact True.intro) ?_)
     refine GCalls.lend (Jt hy11) rfl ?_ ?_
     ·simp only [push_cast, seval, ↓reduceIte, Za, c12, c13, c14, hN0, hN]
     simp only [push_cast, seval, ↓reduceIte, Za, c12, c13, c14, hN0, hN]
     repeat (with_reducible refine And.intro (by first | (intro h0; simp only [h0, and_self]; done) | (intro h0; simp only [h0, Bool.not_false, Bool.not_true, Bool.true_and, Bool.and_true, true_and, and_true, and_self, imp_self, implies_true, bne_iff_ne, ne_eq, beq_iff_eq]; done) | (intros; simp_all; done) | exact True.intro) ?_)
     have hz7 := Option.some.inj hz7; subst hz7
     refine And.intro rfl (Fit2.of (Zh hU rfl rfl ?_) (by omega))
     simp only [push_cast, seval, ↓reduceIte, Za, c12, c13, c14, hN0, hN]
    replace hz7 := Zw c14 hz7
    try rw [c14] at c12
    try rw [c14] at c13
    refine Zb Zc [some true, some true, some true, none, none, some false, some false, some false, some false] ?_
    simp only [push_cast, seval, ↓reduceIte, Za, c12, c13, c14, hN0, hN]
    repeat (with_reducible refine And.intro (by first | (intro h0; simp only [h0, and_self]; done) | (intro h0; simp only [h0, Bool.not_false, Bool.not_true, Bool.true_and, Bool.and_true, true_and, and_true, and_self, imp_self, implies_true, bne_iff_ne, ne_eq, beq_iff_eq]; done) | (intros; simp_all; done) | exact True.intro) ?_)
    refine GCalls.lend (Yf hy10) rfl ?_ ?_
    ·simp only [push_cast, seval, ↓reduceIte, Za, c12, c13, c14, hN0, hN]
    simp only [push_cast, seval, ↓reduceIte, Za, c12, c13, c14, hN0, hN]
    repeat (with_reducible refine And.intro (by first | (intro h0; simp only [h0, and_self]; done) | (intro h0; simp only [h0, Bool.not_false, Bool.not_true, Bool.true_and, Bool.and_true, true_and, and_true, and_self, imp_self, implies_true, bne_iff_ne, ne_eq, beq_iff_eq]; done) | (intros; simp_all; done) | exact True.intro) ?_)
    have hz7 := Option.some.inj hz7; subst hz7
    refine And.intro rfl (Fit2.of (Zh hU rfl rfl ?_) (by omega))
    simp only [push_cast, seval, ↓reduceIte, Za, c12, c13, c14, hN0, hN]
   replace hz7 := Zw c13 hz7
   try rw [c13] at c12
   refine Zb Zc [some true, some true, some true, none, none, some false, some false, some false, some false] ?_
   simp only [push_cast, seval, ↓reduceIte, Za, c12, c13, hN0, hN]
   repeat (with_reducible refine And.intro (by first | (intro h0; simp only [h0, and_self]; done) | (intro h0; simp only [h0, Bool.not_false, Bool.not_true, Bool.true_and, Bool.and_true, true_and, and_true, and_self, imp_self, implies_true, bne_iff_ne, ne_eq, beq_iff_eq]; done) | (intros; simp_all; done) | exact True.intro) ?_)
   refine GCalls.lend (Yf hy10) rfl ?_ ?_
   ·simp only [push_cast, seval, ↓reduceIte, Za, c12, c13, hN0, hN]
   simp only [push_cast, seval, ↓reduceIte, Za, c12, c13, hN0, hN]
   repeat (with_reducible refine And.intro (by first | (intro h0; simp only [h0, and_self]; done) | (intro h0; simp only [h0, Bool.not_false, Bool.not_true, Bool.true_and, Bool.and_true, true_and, and_true, and_self, imp_self, implies_true, bne_iff_ne, ne_eq, beq_iff_eq]; done) | (intros; simp_all; done) | exact True.intro) ?_)
   have hz7 := Option.some.inj hz7; subst hz7
   refine And.intro rfl (Fit2.of (Zh hU rfl rfl ?_) (by omega))
   simp only [push_cast, seval, ↓reduceIte, Za, c12, c13, hN0, hN]
  replace hz7 := Zw c12 hz7
  refine Zb Zc [some false, some false, some false, some false, some false, some false, some false, some false, some false] ?_
  simp only [push_cast, seval, ↓reduceIte, Za, c12, hN0, hN]
  have hz7 := Option.some.inj hz7; subst hz7
  refine And.intro rfl (Fit2.of (Zh hU rfl rfl ?_) (by omega))
  simp only [push_cast, seval, ↓reduceIte, Za, c12, hN0, hN]
 refine Z6 ?_
 try simp only [Zf, Zd]
 have h := Option.some.inj h; subst h
 refine Zo (.inr rfl) hU [.val (.bool z7)] (by omega) ?_
 simp only [push_cast, seval, ↓reduceIte, Za, Try.results18, hN0, hN]
theorem Ji {a0 : (List Int)} {r : Bool} {O : Objs} {n : Nat} (h : Yj a0 = some r) : GTo Try.prog 4 [.sl a0.length (fl (eI .u8) a0)] O n (.val (.bool r)) O n := by
 unfold Yj at h
 refine Ql Zc Try.call4 Try.func4 rfl (Nat.le_of_ble_eq_true rfl) (Nat.le_refl _) fun hU => ?_
 have hN0 : O n = none := hU.fresh _ (Nat.le_refl _)
 have hN : ∀ k, O (n + k) = none := fun k => hU.fresh _ (Nat.le_add_right _ _)
 show W _ _ _ _ ⟨45, [], [(0, .sl a0.length (fl (eI .u8) a0))]⟩ (Zm O n []) _
 refine Zk [0] (Zb Zc [] ?_)
 simp only [push_cast, seval, ↓reduceIte, Za, hN0, hN]
 refine Zg ?_
 obtain ⟨y2, hy2, h⟩ := bC h
 refine Zb Zc [] ?_
 simp only [push_cast, seval, ↓reduceIte, Za, hN0, hN]
 refine (Km hy2).then ?_
 simp only [push_cast, seval, ↓reduceIte, Za, hN0, hN]
 refine Ze [0, 3, 4] [] ?_
 simp only [push_cast, seval, ↓reduceIte]
 refine Zg ?_
 obtain ⟨y4, hy4, h⟩ := bC h
 refine Zb Zc [] ?_
 simp only [push_cast, seval, ↓reduceIte, Za, hN0, hN]
 refine (K5 hy4).then ?_
 simp only [push_cast, seval, ↓reduceIte, Za, hN0, hN]
 refine Ze [0, 3, 4, 5, 6] [] ?_
 simp only [push_cast, seval, ↓reduceIte]
 refine Zg ?_
 refine Zg ?_
 obtain ⟨y6, hy6, h⟩ := bC h
 refine Zb Zc [none, none, none] ?_
 simp only [push_cast, seval, ↓reduceIte, Za, hN0, hN]
 repeat (with_reducible refine And.intro (by first | (intro h0; simp only [h0, and_self]; done) | (intro h0; simp only [h0, Bool.not_false, Bool.not_true, Bool.true_and, Bool.and_true, true_and, and_true, and_self, imp_self, implies_true, bne_iff_ne, ne_eq, beq_iff_eq]; done) | (intros; simp_all; done) | exact True.intro) ?_)
 refine (Jt hy6).then ?_
 simp only [push_cast, seval, ↓reduceIte, Za, hN0, hN]
 repeat (with_reducible refine And.intro (by first | (intro h0; simp only [h0, and_self]; done) | (intro h0; simp only [h0, Bool.not_false, Bool.not_true, Bool.true_and, Bool.and_true, true_and, and_true, and_self, imp_self, implies_true, bne_iff_ne, ne_eq, beq_iff_eq]; done) | (intros; simp_all; done) | exact True.intro) ?_)
 refine Ze [0, 3, 4, 27] [] ?_
 simp only [push_cast, seval, ↓reduceIte]
 refine Zs (t := (cond (!y6) true (y2.2 != y4.2))) rfl (fun c21 => ?_) (fun c21 => ?_)
 ·replace h := Zx c21 h
  refine Zk [2] (Zb Zc [] ?_)
  simp only [push_cast, seval, ↓reduceIte, Za, hN0, hN]
  refine Z6 ?_
  try simp only [Zf, Zd]
  have h := Option.some.inj h; subst h
  refine Zo (.inr rfl) hU [.val (.bool false)] (by omega) ?_
  simp only [push_cast, seval, ↓reduceIte, Za, Try.results4, hN0, hN]
 replace h := Zw c21 h
 refine Zt ?_
 try simp only [Zf, Zd]
 refine Ze [0, 3, 4] [] ?_
 simp only [push_cast, seval, ↓reduceIte]
 refine Zg ?_
 refine Zk [0, 3, 29] (Zb Zc [] ?_)
 simp only [push_cast, seval, ↓reduceIte, Za, hN0, hN]
 refine Zs (t := (y2.2 != 0)) rfl (fun c20 => ?_) (fun c20 => ?_)
 ·replace h := Zx c20 h
  refine Zg ?_
  obtain ⟨y8, hy8, h⟩ := bC h
  refine Zb Zc [] ?_
  simp only [push_cast, seval, ↓reduceIte, Za, hN0, hN]
  refine (Jg hy8).then ?_
  simp only [push_cast, seval, ↓reduceIte, Za, hN0, hN]
  refine Ze [2] [] ?_
  simp only [push_cast, seval, ↓reduceIte]
  refine Z6 ?_
  try simp only [Zf, Zd]
  have h := Option.some.inj h; subst h
  refine Zo (.inr rfl) hU [.val (.bool y8)] (by omega) ?_
  simp only [push_cast, seval, ↓reduceIte, Za, Try.results4, hN0, hN]
 replace h := Zw c20 h
 refine Zt ?_
 try simp only [Zf, Zd]
 refine Ze [0, 3] [] ?_
 simp only [push_cast, seval, ↓reduceIte]
 refine Zg ?_
 obtain ⟨y10, hy10, h⟩ := bC h
 refine Zb Zc [] ?_
 simp only [push_cast, seval, ↓reduceIte, Za, hN0, hN]
 refine (K8 hy10).then ?_
 simp only [push_cast, seval, ↓reduceIte, Za, hN0, hN]
 refine Ze [0, 7, 8] [] ?_
 simp only [push_cast, seval, ↓reduceIte]
 obtain ⟨z13, hz13, h⟩ := bC h
 refine Zha (E' := ⟨45, [], [(2, .val (.bool z13))]⟩) (O' := (Zm O n [])) (n0 := n) ?_ ?_
 ·rcases Bool.eq_false_or_eq_true y10.2 with c18 | c18
  ·replace hz13 := Zx c18 hz13
   obtain ⟨y16, hy16, hz13⟩ := bC hz13
   rcases Bool.eq_false_or_eq_true y16 with c19 | c19
   ·replace hz13 := Zx c19 hz13
    try rw [c19] at c18
    obtain ⟨y17, hy17, hz13⟩ := bC hz13
    refine Zb Zc [some true, some true, some true, some true] ?_
    simp only [push_cast, seval, ↓reduceIte, Za, c18, c19, hN0, hN]
    refine (Yf hy16).then ?_
    simp only [push_cast, seval, ↓reduceIte, Za, c18, c19, hN0, hN]
    refine (Jg hy17).then ?_
    simp only [push_cast, seval, ↓reduceIte, Za, c18, c19, hN0, hN]
    have hz13 := Option.some.inj hz13; subst hz13
    refine And.intro rfl (Fit2.of (Zh hU rfl rfl ?_) (by omega))
    simp only [push_cast, seval, ↓reduceIte, Za, c18, c19, hN0, hN]
   replace hz13 := Zw c19 hz13
   try rw [c19] at c18
   refine Zb Zc [some true, some true, some true, some false] ?_
   simp only [push_cast, seval, ↓reduceIte, Za, c18, c19, hN0, hN]
   refine (Yf hy16).then ?_
   simp only [push_cast, seval, ↓reduceIte, Za, c18, c19, hN0, hN]
   have hz13 := Option.some.inj hz13; subst hz13
   refine And.intro rfl (Fit2.of (Zh hU rfl rfl ?_) (by omega))
   simp only [push_cast, seval, ↓reduceIte, Za, c18, c19, hN0, hN]
  replace hz13 := Zw c18 hz13
  refine Zb Zc [some false, some false, some false, some false] ?_
  simp only [push_cast, seval, ↓reduceIte, Za, c18, hN0, hN]
  have hz13 := Option.some.inj hz13; subst hz13
  refine And.intro rfl (Fit2.of (Zh hU rfl rfl ?_) (by omega))
  simp only [push_cast, seval, ↓reduceIte, Za, c18, hN0, hN]
 refine Z6 ?_
 try simp only [Zf, Zd]
 have h := Option.some.inj h; subst h
 refine Zo (.inr rfl) hU [.val (.bool z13)] (by omega) ?_
 simp only [push_cast, seval, ↓reduceIte, Za, Try.results4, hN0, hN]
end Go.Proofs.Ytgijkjifiekkmaa
