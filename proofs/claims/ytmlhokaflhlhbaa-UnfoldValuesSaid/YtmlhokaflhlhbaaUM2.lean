/- Part UM2 of this seat's mirrors: functions of the seat's program, and the plain functions that they are; each theorem bears its own conditions. -/
import Derived.Test.YtmlhokaflhlhbaaUE
import Derived.Test.YtmlhokaflhlhbaaUM1
namespace Go.Proofs.Ytmlhokaflhlhbaa
open Go.RowKit
set_option linter.unusedVariables false
set_option linter.unusedSimpArgs false
set_option maxRecDepth 100000
set_option maxHeartbeats 4000000
attribute [local push_cast] Yj Zz Zp Yn Zj Zln Zlm Zl6 Zl5 Zi Zf Zip Zek Zej onW Y9 Gs U4 Zkw Zkd Zg4 Zg8 Zg3 Zg7 Zjl Zji Zg6 Zjk Zjj Zg5 Zjg Ze8 evS wok Xt Op.operands Call.operands gop onK onP atK List.all_cons List.all_nil Bool.and_true Bool.true_and Bool.and_self Value.oneCell' List.take_zero List.take_succ_cons List.take_nil List.drop_zero List.drop_succ_cons List.drop_nil List.append_nil Nat.add_zero Nat.zero_add Kk Yb ev X3 Zpu Zlg Zlf Zll Zlj Zlk Zlh Zli Zle Zk7 Znv Zpx Zen Gu Zdp Gt Zgo Zb2 Zco Zct Zed Zea Zcr Zec Zeb Zcq Zd8 Zcp Zcs Zbo Zd9 Zhd Zel Ui Zem Uj Zfx Zei Zos bLo bHi bMx Gw Zfv Zr6 Zeh Zfw Zbp Vr Zny Zr9 Zeg Zse Gr Ztp Zit Zix Zis Ziw Zlw Zlt Zlr Zgq Ziu Zlv Zlu Ziv Zls Zfq Zkc Zja Ze1 Ze0 pop TK.isAgg Zlz Zl3 Zly Zl2 Zi3 Zqh Zqe Zl1 Zqg Zqf Zl0 Zqd G.under G.unders List.getD_cons_zero List.getD_cons_succ List.set_cons_zero List.set_cons_succ List.map_cons List.map_nil List.toList_toArray Array.toList_append Option.toArray_none Option.toArray_some Array.toList_map Option.map_some Option.map_none Option.bind_some Option.bind_none List.getElem?_cons_zero List.getElem?_cons_succ List.getElem?_nil List.nil_append List.cons_append List.replicate_succ List.replicate_zero List.length_cons List.length_nil and_true true_and and_false false_and Bool.true_eq_false Bool.false_eq_true forall_const false_implies implies_true IntKind.bits if_true if_false ite_true ite_false eq_self true_implies false_or or_false or_true true_or not_true_eq_false not_false_eq_true decide_true decide_false decide_eq_true_eq decide_eq_false_iff_not beq_iff_eq bne_iff_ne ne_eq Bool.not_eq_true Bool.not_eq_false beq_eq_false_iff_ne bne_eq_false_iff_eq beq_self_eq_true bne_self_eq_false Option.some.injEq exists_eq_left' exists_eq_left ge_iff_le gt_iff_lt decide_not Bool.not_true Bool.not_false imp_self Zpz cond_true cond_false Zyz Zyy Bool.not_not Bool.and_false Bool.false_and Bool.or_true Bool.true_or Bool.or_false Bool.false_or V9 Zbn Zax Gm U3 V6 Option.join_some Nat.add_assoc Int.toNat_natCast eI eB eS eL Zbg Zdq Zcx Zlq Zlo Zlp Zt0 Zws Zdx Zc2 Zmc Zma Zmb Zqc Zhc Zpb Zhq Zop Zbs Znq List.length_append G.agg.injEq G.row.injEq G.ref.injEq G.val.injEq G.sl.injEq G.tup.injEq Value.int.injEq Value.bool.injEq Value.string.injEq List.cons.injEq exists_and_left exists_const List.flatten_cons List.flatten_nil Int.le_refl Nat.le_refl Zd4 K3 Zdi Bool.not_eq_true' Bool.not_eq_false' Znh Zd5 Zrm Zrr Zrl Zrq Zvx Zvt List.size_toArray Zkm Zk3 G.ren G.rens Zoe Zcf Zmf Zlc Zld Zjh Zrs Zca G.fn.injEq Zge Zj5 Zng Zvu Zj4 Zrp Zvw Zvv Zrn Zp5 Zuk Option.join_none Xi K5 undef Zfz Arr.len Arr.put_eq Zdw Zgt Zex Zc1 Zl9 Zl7 Zl8 onB Ztz Znu Zje Zh4 Zh5 Zh6 Zh7 Zh8 Zh9 Zgr Zgw Zgu Zez Zc3 Zgv Zi9 Zi8 Zi7 Zi6 Zwr Zx9 Zqb Zoz Q9 Zp6 Zkg Zgx Zey Zst Zk4 Zef Zfu Za0 Zgb Zia Zib Zic Zid Zgf Zgg Zgh Zgi Zgj Zgk Zgl Zbj prT Zan Zzh Zq9 Zt9 Zra Zzi Zrb Zzj Zrc Zzk Zrd Zzl Zre Zzm Zrf Zzn Zrg Zuv Zmh Zuw Zmi Zux Zmj Zuy Zmk Zuz Zml Zu0 Zmm Zu1 Zmn Zu2 Zmo Zu3 Zmp Zu4 Zmq Zu5 Zmr Zu6 Zms Zu7 Zmt Zu8 Zj1 Zu9 Zmu Zva Zmv Zvb Zmw U9 Zmx Zvc Zmy Zvd Zmz Zbd Zc9 Zve Zm0 Zvf Zm1 Zvg Zj2 Zvh Zm2 Zhr Zm3 Zvi Zm4 Zvj Zm5 Zvk Zm6 Zvl Zm7 Zvm Zm8 Zvn Zm9 Zvo Zna Zvp Znb Zvq Znc Zvr Znd Zvs Zne Zqu Zjm Zqv Zjn Zqw Zjo Zqx Zjp Zqy Zjq Zqz Zjr Zq0 Zjs Zq1 Zjt Zq2 Zju Zq3 Zjv Zq4 Zjw Zq5 Zjx Zq6 Zjy Zq7 Zjz Zq8 Zj0 Q1 Zfe Zfc Zep Zev Zfg Zdb Zc7 Zc5 Zfa Za3 Za2 Zay Zaz Za4 Zam Zag Zaf Za1 Zn Vb Va K6 K8 Vc Kv Kt Ks K9 Zcv Zfd Zfb Zeo Zeu Zff Zda Zc6 Zc4 Ze9 Zcu Gp Z8 Kb Ka J5 J8 Kc Jq Jp Jo J9 Z5 Zk Qq Uy Ux Ur Uv Uz Uf Ue Ud Uw Je Jd Q6 Q8 Jg Qy Qx Qw Jc Vu Vv
theorem Zdv {Yd : (Ze → Zd → Int → Option (Int × Ze))} {Yc : (Ze → Zd → Int → Option (Int × Ze))} {Yg : (Ze → Zd → Int → Option (Int × Ze))} (K1 : ∀ {a0 : Ze} {a1 : Zd} {a2 : Int} {r : (Int × Ze)} {O : Objs} {n : Nat} {i0 : Nat}, i0 < n → O i0 = some ⟨false, 107, 1, 1, [.val (.int .i64 a0.left)]⟩ → Yd a0 a1 a2 = some r → GTo Try.prog 62 [.ref i0 0, .agg (Zj a1), .val (.int .i64 a2)] O n (.val (.int .i64 r.1)) (Z4 (O.upd i0 (some ⟨false, 107, 1, 1, [.val (.int .i64 r.2.left)]⟩)) n []) (n + 0)) (Q7 : ∀ {a0 : Ze} {a1 : Zd} {a2 : Int} {r : (Int × Ze)} {O : Objs} {n : Nat} {i0 : Nat}, i0 < n → O i0 = some ⟨false, 107, 1, 1, [.val (.int .i64 a0.left)]⟩ → Yc a0 a1 a2 = some r → GTo Try.prog 85 [.ref i0 0, .agg (Zj a1), .val (.int .i64 a2)] O n (.val (.int .i64 r.1)) (Z4 (O.upd i0 (some ⟨false, 107, 1, 1, [.val (.int .i64 r.2.left)]⟩)) n []) (n + 0)) (J3 : ∀ {a0 : Ze} {a1 : Zd} {a2 : Int} {r : (Int × Ze)} {O : Objs} {n : Nat} {i0 : Nat}, i0 < n → O i0 = some ⟨false, 107, 1, 1, [.val (.int .i64 a0.left)]⟩ → Yg a0 a1 a2 = some r → GTo Try.prog 86 [.ref i0 0, .agg (Zj a1), .val (.int .i64 a2)] O n (.val (.int .i64 r.1)) (Z4 (O.upd i0 (some ⟨false, 107, 1, 1, [.val (.int .i64 r.2.left)]⟩)) n []) (n + 0)) {a0 : Ze} {a1 : Zd} {a2 : Int} {r : (Int × Ze)} {O : Objs} {n : Nat} {i0 : Nat} (hi0 : i0 < n) (ho0 : O i0 = some ⟨false, 107, 1, 1, [.val (.int .i64 a0.left)]⟩) (h : Xs Yd Yc Yg a0 a1 a2 = some r) : GTo Try.prog 62 [.ref i0 0, .agg (Zj a1), .val (.int .i64 a2)] O n (.val (.int .i64 r.1)) (Z4 (O.upd i0 (some ⟨false, 107, 1, 1, [.val (.int .i64 r.2.left)]⟩)) n []) (n + 0) := by
 unfold Xs at h
 refine Ys Zc Try.call62 Try.func62 rfl (Nat.le_of_ble_eq_true rfl) (by omega) fun hU => ?_
 rw [show Z4 O n [] = Z4 (O.upd i0 (some ⟨false, 107, 1, 1, [.val (.int .i64 a0.left)]⟩)) n [] from by rw [Zj3 (show O i0 = _ from by exact ho0)]]
 have hk0 : ∀ k, i0 < n + k := fun k => by omega
 have hN0 : ∀ o, Objs.upd O i0 o n = none := fun o => Gk hU hi0 _ (Nat.le_refl _)
 have hN : ∀ o k, Objs.upd O i0 o (n + k) = none := fun o k => Gk hU hi0 _ (Nat.le_add_right _ _)
 show W _ _ _ _ ⟨46, [], [(0, .ref i0 0), (1, .agg (Zj a1)), (2, .val (.int .i64 a2))]⟩ (Z4 (O.upd i0 (some ⟨false, 107, 1, 1, [.val (.int .i64 a0.left)]⟩)) n []) _
 refine Zr [0, 2, 4] (Zb Zc [] ?_)
 simp only [push_cast, seval, ↓reduceIte, Za, hi0, hk0, hN0, hN]
 refine Zh ?_
 obtain ⟨z3, hz3, h⟩ := bC h
 refine Qa (E' := ⟨46, [], [(0, .ref i0 0), (2, .val (.int .i64 a2)), (4, .ref n 0), (19, .val (.bool z3))]⟩) (O' := (Z4 (O.upd i0 (some ⟨false, 107, 1, 1, [.val (.int .i64 a0.left)]⟩)) n [some ⟨false, 27, 9, 1, (Zj a1)⟩])) (n0 := (n + 1)) ?_ ?_
 ·obtain ⟨y6, hy6, hz3⟩ := bC hz3
  rcases Bool.eq_false_or_eq_true (decide (a2 < y6)) with c8 | c8
  ·replace hz3 := Zx c8 hz3
   refine J4 Zc (by kernel_rfl) [some false, some false, some false, some false, some false, some false, some false] (by kernel_rfl) ?_
   simp only [push_cast, seval, ↓reduceIte, Za, c8, hi0, hk0, hN0, hN]
   refine PCall.of (Zfk hy6) ?_
   simp only [push_cast, seval, ↓reduceIte, Za, c8, hi0, hk0, hN0, hN]
   have hz3 := Option.some.inj hz3; subst hz3
   refine And.intro rfl (Fit2.of (Yo hU rfl rfl ?_) (by omega))
   simp only [push_cast, seval, ↓reduceIte, Za, c8, hi0, hk0, hN0, hN]
  replace hz3 := Zw c8 hz3
  obtain ⟨y7, hy7, hz3⟩ := bC hz3
  refine J4 Zc (by kernel_rfl) [some true, some true, some true, some true, some true, some true, some true] (by kernel_rfl) ?_
  simp only [push_cast, seval, ↓reduceIte, Za, c8, hi0, hk0, hN0, hN]
  refine PCall.of (Zfk hy6) ?_
  simp only [push_cast, seval, ↓reduceIte, Za, c8, hi0, hk0, hN0, hN]
  refine PCall.of (Zfl hy7) ?_
  simp only [push_cast, seval, ↓reduceIte, Za, c8, hi0, hk0, hN0, hN]
  have hz3 := Option.some.inj hz3; subst hz3
  refine And.intro rfl (Fit2.of (Yo hU rfl rfl ?_) (by omega))
  simp only [push_cast, seval, ↓reduceIte, Za, c8, hi0, hk0, hN0, hN]
 refine Zs (t := z3) rfl (fun c21 => ?_) (fun c21 => ?_)
 ·replace h := Zx c21 h
  refine Zr [6] (Zb Zc [] ?_)
  simp only [push_cast, seval, ↓reduceIte, Za, hi0, hk0, hN0, hN]
  refine Zu ?_
  try simp only [Zi, Zf]
  have h := Option.some.inj h; subst h
  refine Uh (k := 0) (i := i0) (q1 := ⟨false, 107, 1, 1, [.val (.int .i64 a0.left)]⟩) (L3 := [none]) (E2 := (⟨46, [], [(6, .val (.int .i64 3))]⟩ : Env)) (n3 := (n + 1)) (.inr rfl) hU rfl [.val (.int .i64 3)] ?_ ?_
  ·refine Fit2.trans (E' := (⟨46, [], [(6, .val (.int .i64 3))]⟩ : Env)) (O' := (Z4 (O.upd i0 (some ⟨false, 107, 1, 1, [.val (.int .i64 a0.left)]⟩)) n [none])) (n' := (n + 1)) (Fit2.of (Yo hU rfl rfl ?_) (by omega)) ?_
   ·simp only [push_cast, seval, ↓reduceIte, Za, hi0, hk0, hN0, hN]
   refine Vo (k := 1) (k' := 1) hU [0] [0] rfl rfl rfl rfl ⟨rfl, rfl⟩ ?_
   simp only [push_cast, seval, ↓reduceIte, Za, hi0, hk0, hN0, hN]
  simp only [push_cast, seval, ↓reduceIte, Za, Try.results62, hi0, hk0, hN0, hN]
 replace h := Zw c21 h
 refine Zy ?_
 try simp only [Zi, Zf]
 refine Zg [0, 2, 4] [true] ?_
 simp only [push_cast, seval, ↓reduceIte]
 refine Zh ?_
 obtain ⟨y10, hy10, h⟩ := bC h
 refine Zd7 Zc (by kernel_rfl) [false, false, false, false, false, false, false, false, false, true] [] (by kernel_rfl) ?_
 simp only [push_cast, seval, ↓reduceIte, Za, hi0, hk0, hN0, hN]
 refine PCall.of (Zfl hy10) ?_
 simp only [push_cast, seval, ↓reduceIte, Za, hi0, hk0, hN0, hN]
 refine Zg [0, 2, 4] [true] ?_
 simp only [push_cast, seval, ↓reduceIte]
 refine Zh ?_
 refine Zh ?_
 obtain ⟨y12, hy12, h⟩ := bC h
 refine Zb Zc [] ?_
 simp only [push_cast, seval, ↓reduceIte, Za, hi0, hk0, hN0, hN]
 refine (Y2 hy12).then ?_
 simp only [push_cast, seval, ↓reduceIte, Za, hi0, hk0, hN0, hN]
 refine Zg [0, 2, 4, 30] [true] ?_
 simp only [push_cast, seval, ↓reduceIte]
 refine Y8 ?_
 obtain ⟨z13, hz13, h⟩ := bC h
 refine Qa (E' := ⟨46, [], [(0, .ref i0 0), (2, .val (.int .i64 a2)), (4, .ref n 0), (30, .val (.int .i64 y12)), (31, .val (.bool z13))]⟩) (O' := (Z4 (O.upd i0 (some ⟨false, 107, 1, 1, [.val (.int .i64 (IntKind.i64.wrap (a0.left - y10)))]⟩)) n [some ⟨false, 27, 9, 1, (Zj a1)⟩])) (n0 := (n + 1)) ?_ ?_
 ·refine Zr [0, 2, 4, 30, 31] (Zb Zc [] ?_)
  simp only [push_cast, seval, ↓reduceIte, Za, hi0, hk0, hN0, hN]
  refine Zs (t := (y12 == 1)) rfl (fun c14 => ?_) (fun c14 => ?_)
  ·replace hz13 := Zx c14 hz13
   refine Zy ?_
   try simp only [Zi, Zf]
   have hz13 := Option.some.inj hz13; subst hz13
   refine And.intro rfl (Fit2.of (Yo hU rfl rfl ?_) (by omega))
   simp only [push_cast, seval, ↓reduceIte, Za, hi0, hk0, hN0, hN]
  replace hz13 := Zw c14 hz13
  refine Zb Zc [] ?_
  simp only [push_cast, seval, ↓reduceIte, Za, hi0, hk0, hN0, hN]
  have hz13 := Option.some.inj hz13; subst hz13
  refine And.intro rfl (Fit2.of (Yo hU rfl rfl ?_) (by omega))
  simp only [push_cast, seval, ↓reduceIte, Za, hi0, hk0, hN0, hN]
 refine Zs (t := z13) rfl (fun c20 => ?_) (fun c20 => ?_)
 ·replace h := Zx c20 h
  refine Zh ?_
  obtain ⟨y16, hy16, h⟩ := bC h
  refine Zb Zc [] ?_
  simp only [push_cast, seval, ↓reduceIte, Za, hi0, hk0, hN0, hN]
  refine (Q7 (i0 := i0) (by omega) (by simp only [push_cast, seval, ↓reduceIte, Za, Zbg, hi0, hk0, hN0, hN] <;> rfl) hy16).then ?_
  simp only [push_cast, seval, ↓reduceIte, Za, hi0, hk0, hN0, hN]
  refine Zg [6] [false] ?_
  simp only [push_cast, seval, ↓reduceIte]
  refine Zu ?_
  try simp only [Zi, Zf]
  have h := Option.some.inj h; subst h
  refine Uh (k := 0) (i := i0) (q1 := ⟨false, 107, 1, 1, [.val (.int .i64 y16.2.left)]⟩) (L3 := [none]) (E2 := (⟨46, [], [(6, .val (.int .i64 y16.1))]⟩ : Env)) (n3 := (n + 1)) (.inr rfl) hU rfl [.val (.int .i64 y16.1)] ?_ ?_
  ·refine Fit2.trans (E' := (⟨46, [], [(6, .val (.int .i64 y16.1))]⟩ : Env)) (O' := (Z4 (O.upd i0 (some ⟨false, 107, 1, 1, [.val (.int .i64 y16.2.left)]⟩)) n [none])) (n' := (n + 1)) (Fit2.of (Yo hU rfl rfl ?_) (by omega)) ?_
   ·simp only [push_cast, seval, ↓reduceIte, Za, hi0, hk0, hN0, hN]
   refine Vo (k := 1) (k' := 1) hU [0] [0] rfl rfl rfl rfl ⟨rfl, rfl⟩ ?_
   simp only [push_cast, seval, ↓reduceIte, Za, hi0, hk0, hN0, hN]
  simp only [push_cast, seval, ↓reduceIte, Za, Try.results62, hi0, hk0, hN0, hN]
 replace h := Zw c20 h
 refine Zr [0, 2, 4, 39] (Zb Zc [] ?_)
 simp only [push_cast, seval, ↓reduceIte, Za, hi0, hk0, hN0, hN]
 refine Zs (t := (y12 == 9)) rfl (fun c19 => ?_) (fun c19 => ?_)
 ·replace h := Zx c19 h
  refine Zh ?_
  obtain ⟨y18, hy18, h⟩ := bC h
  refine Zb Zc [] ?_
  simp only [push_cast, seval, ↓reduceIte, Za, hi0, hk0, hN0, hN]
  refine (J3 (i0 := i0) (by omega) (by simp only [push_cast, seval, ↓reduceIte, Za, Zbg, hi0, hk0, hN0, hN] <;> rfl) hy18).then ?_
  simp only [push_cast, seval, ↓reduceIte, Za, hi0, hk0, hN0, hN]
  refine Zg [6] [false] ?_
  simp only [push_cast, seval, ↓reduceIte]
  refine Zu ?_
  try simp only [Zi, Zf]
  have h := Option.some.inj h; subst h
  refine Uh (k := 0) (i := i0) (q1 := ⟨false, 107, 1, 1, [.val (.int .i64 y18.2.left)]⟩) (L3 := [none]) (E2 := (⟨46, [], [(6, .val (.int .i64 y18.1))]⟩ : Env)) (n3 := (n + 1)) (.inr rfl) hU rfl [.val (.int .i64 y18.1)] ?_ ?_
  ·refine Fit2.trans (E' := (⟨46, [], [(6, .val (.int .i64 y18.1))]⟩ : Env)) (O' := (Z4 (O.upd i0 (some ⟨false, 107, 1, 1, [.val (.int .i64 y18.2.left)]⟩)) n [none])) (n' := (n + 1)) (Fit2.of (Yo hU rfl rfl ?_) (by omega)) ?_
   ·simp only [push_cast, seval, ↓reduceIte, Za, hi0, hk0, hN0, hN]
   refine Vo (k := 1) (k' := 1) hU [0] [0] rfl rfl rfl rfl ⟨rfl, rfl⟩ ?_
   simp only [push_cast, seval, ↓reduceIte, Za, hi0, hk0, hN0, hN]
  simp only [push_cast, seval, ↓reduceIte, Za, Try.results62, hi0, hk0, hN0, hN]
 replace h := Zw c19 h
 refine Zy ?_
 try simp only [Zi, Zf]
 refine Zg [] [false] ?_
 simp only [push_cast, seval, ↓reduceIte]
 refine Zr [6] (Zb Zc [] ?_)
 simp only [push_cast, seval, ↓reduceIte, Za, hi0, hk0, hN0, hN]
 refine Zu ?_
 try simp only [Zi, Zf]
 have h := Option.some.inj h; subst h
 refine Uh (k := 0) (i := i0) (q1 := ⟨false, 107, 1, 1, [.val (.int .i64 (IntKind.i64.wrap (a0.left - y10)))]⟩) (L3 := [none]) (E2 := (⟨46, [], [(6, .val (.int .i64 0))]⟩ : Env)) (n3 := (n + 1)) (.inr rfl) hU rfl [.val (.int .i64 0)] ?_ ?_
 ·refine Fit2.trans (E' := (⟨46, [], [(6, .val (.int .i64 0))]⟩ : Env)) (O' := (Z4 (O.upd i0 (some ⟨false, 107, 1, 1, [.val (.int .i64 (IntKind.i64.wrap (a0.left - y10)))]⟩)) n [none])) (n' := (n + 1)) (Fit2.of (Yo hU rfl rfl ?_) (by omega)) ?_
  ·simp only [push_cast, seval, ↓reduceIte, Za, hi0, hk0, hN0, hN]
  refine Vo (k := 1) (k' := 1) hU [0] [0] rfl rfl rfl rfl ⟨rfl, rfl⟩ ?_
  simp only [push_cast, seval, ↓reduceIte, Za, hi0, hk0, hN0, hN]
 simp only [push_cast, seval, ↓reduceIte, Za, Try.results62, hi0, hk0, hN0, hN]
theorem Zet {Yd : (Ze → Zd → Int → Option (Int × Ze))} {Yc : (Ze → Zd → Int → Option (Int × Ze))} {Yg : (Ze → Zd → Int → Option (Int × Ze))} (K1 : ∀ {a0 : Ze} {a1 : Zd} {a2 : Int} {r : (Int × Ze)} {O : Objs} {n : Nat} {i0 : Nat}, i0 < n → O i0 = some ⟨false, 107, 1, 1, [.val (.int .i64 a0.left)]⟩ → Yd a0 a1 a2 = some r → GTo Try.prog 62 [.ref i0 0, .agg (Zj a1), .val (.int .i64 a2)] O n (.val (.int .i64 r.1)) (Z4 (O.upd i0 (some ⟨false, 107, 1, 1, [.val (.int .i64 r.2.left)]⟩)) n []) (n + 0)) (Q7 : ∀ {a0 : Ze} {a1 : Zd} {a2 : Int} {r : (Int × Ze)} {O : Objs} {n : Nat} {i0 : Nat}, i0 < n → O i0 = some ⟨false, 107, 1, 1, [.val (.int .i64 a0.left)]⟩ → Yc a0 a1 a2 = some r → GTo Try.prog 85 [.ref i0 0, .agg (Zj a1), .val (.int .i64 a2)] O n (.val (.int .i64 r.1)) (Z4 (O.upd i0 (some ⟨false, 107, 1, 1, [.val (.int .i64 r.2.left)]⟩)) n []) (n + 0)) (J3 : ∀ {a0 : Ze} {a1 : Zd} {a2 : Int} {r : (Int × Ze)} {O : Objs} {n : Nat} {i0 : Nat}, i0 < n → O i0 = some ⟨false, 107, 1, 1, [.val (.int .i64 a0.left)]⟩ → Yg a0 a1 a2 = some r → GTo Try.prog 86 [.ref i0 0, .agg (Zj a1), .val (.int .i64 a2)] O n (.val (.int .i64 r.1)) (Z4 (O.upd i0 (some ⟨false, 107, 1, 1, [.val (.int .i64 r.2.left)]⟩)) n []) (n + 0)) {a0 : Ze} {a1 : Zd} {a2 : Int} {r : (Int × Ze)} {O : Objs} {n : Nat} {i0 : Nat} (hi0 : i0 < n) (ho0 : O i0 = some ⟨false, 107, 1, 1, [.val (.int .i64 a0.left)]⟩) (h : X1 Yd Yc Yg a0 a1 a2 = some r) : GTo Try.prog 85 [.ref i0 0, .agg (Zj a1), .val (.int .i64 a2)] O n (.val (.int .i64 r.1)) (Z4 (O.upd i0 (some ⟨false, 107, 1, 1, [.val (.int .i64 r.2.left)]⟩)) n []) (n + 0) := by
 unfold X1 at h
 refine Ys Zc Try.call85 Try.func85 rfl (Nat.le_of_ble_eq_true rfl) (by omega) fun hU => ?_
 rw [show Z4 O n [] = Z4 (O.upd i0 (some ⟨false, 107, 1, 1, [.val (.int .i64 a0.left)]⟩)) n [] from by rw [Zj3 (show O i0 = _ from by exact ho0)]]
 have hk0 : ∀ k, i0 < n + k := fun k => by omega
 have hN0 : ∀ o, Objs.upd O i0 o n = none := fun o => Gk hU hi0 _ (Nat.le_refl _)
 have hN : ∀ o k, Objs.upd O i0 o (n + k) = none := fun o k => Gk hU hi0 _ (Nat.le_add_right _ _)
 show W _ _ _ _ ⟨33, [], [(0, .ref i0 0), (1, .agg (Zj a1)), (2, .val (.int .i64 a2))]⟩ (Z4 (O.upd i0 (some ⟨false, 107, 1, 1, [.val (.int .i64 a0.left)]⟩)) n []) _
 refine Zr [0, 2, 4] (Zb Zc [] ?_)
 simp only [push_cast, seval, ↓reduceIte, Za, hi0, hk0, hN0, hN]
 refine Zh ?_
 refine Zh ?_
 obtain ⟨y2, hy2, h⟩ := bC h
 refine Zb Zc [] ?_
 simp only [push_cast, seval, ↓reduceIte, Za, hi0, hk0, hN0, hN]
 refine (Y1 hy2).then ?_
 simp only [push_cast, seval, ↓reduceIte, Za, hi0, hk0, hN0, hN]
 refine Zg [0, 2, 4, 12, 13] [true] ?_
 simp only [push_cast, seval, ↓reduceIte]
 refine Zg [0, 2, 4, 12, 13] [true] ?_
 simp only [push_cast, seval, ↓reduceIte]
 obtain ⟨z10, hz10, h⟩ := bC h
 refine Zhs (J := (Uq (fun z10 => JR n (⟨33, [], [(6, .val (.int .i64 z10.1))]⟩ : Env) (Z4 (O.upd i0 (some ⟨false, 107, 1, 1, [.val (.int .i64 z10.2)]⟩)) n [none]) (n + 1)) (fun z10 => JX 0 n (⟨33, [], []⟩ : Env) (Z4 (O.upd i0 (some ⟨false, 107, 1, 1, [.val (.int .i64 z10)]⟩)) n [none]) (n + 1)))) (z := z10) ?_ fun hw => ?_
 ·refine K4 hz10 (fun s0_ => ⟨33, [], [(0, .ref i0 0), (2, .val (.int .i64 a2)), (4, .ref n 0), (12, .val (.int .i64 y2)), (13, .val (.int .i64 s0_.1))]⟩) (fun s0_ => (Z4 (O.upd i0 (some ⟨false, 107, 1, 1, [.val (.int .i64 s0_.2)]⟩)) n [some ⟨false, 27, 9, 1, (Zj a1)⟩])) (Uq (fun z10 => JR n (⟨33, [], [(6, .val (.int .i64 z10.1))]⟩ : Env) (Z4 (O.upd i0 (some ⟨false, 107, 1, 1, [.val (.int .i64 z10.2)]⟩)) n [none]) (n + 1)) (fun z10 => JX 0 n (⟨33, [], []⟩ : Env) (Z4 (O.upd i0 (some ⟨false, 107, 1, 1, [.val (.int .i64 z10)]⟩)) n [none]) (n + 1))) ?_
  intro s0_ x0_ hs0_
  unfold X2 at hs0_
  try dsimp only
  refine Zr [0, 2, 4, 12, 13, 14] (Zb Zc [] ?_)
  simp only [push_cast, seval, ↓reduceIte, Za, hi0, hk0, hN0, hN]
  refine Zh ?_
  refine Zs (t := (decide (s0_.1 < y2))) rfl (fun c9 => ?_) (fun c9 => ?_)
  ·replace hs0_ := Zx c9 hs0_
   refine Zy ?_
   try simp only [Zi, Zf]
   refine Zg [0, 2, 4, 12, 13] [true] ?_
   simp only [push_cast, seval, ↓reduceIte]
   refine Zh ?_
   refine Y8 ?_
   refine Zr [0, 2, 4, 7, 12, 13] (Zb Zc [] ?_)
   simp only [push_cast, seval, ↓reduceIte, Za, hi0, hk0, hN0, hN]
   refine Zh ?_
   obtain ⟨y4, hy4, hs0_⟩ := bC hs0_
   refine Zb Zc [] ?_
   simp only [push_cast, seval, ↓reduceIte, Za, hi0, hk0, hN0, hN]
   refine (Zad hy4).then ?_
   simp only [push_cast, seval, ↓reduceIte, Za, hi0, hk0, hN0, hN]
   refine Zg [0, 2, 4, 8, 9, 12, 13] [true, true] ?_
   simp only [push_cast, seval, ↓reduceIte]
   refine Zh ?_
   refine Zr [0, 2, 4, 8, 9, 12, 13, 23] (Zb Zc [] ?_)
   simp only [push_cast, seval, ↓reduceIte, Za, hi0, hk0, hN0, hN]
   refine Zs (t := (y4.2 != 0)) rfl (fun c8 => ?_) (fun c8 => ?_)
   ·replace hs0_ := Zx c8 hs0_
    refine Zr [6] (Zb Zc [] ?_)
    simp only [push_cast, seval, ↓reduceIte, Za, hi0, hk0, hN0, hN]
    refine Zu ?_
    try simp only [Zi, Zf]
    have hs0_ := Option.some.inj hs0_; subst hs0_
    refine And.intro (fun h => by cases h) (And.intro rfl (Fit2.of (Yo hU rfl rfl ?_) (by omega)))
    simp only [push_cast, seval, ↓reduceIte, Za, hi0, hk0, hN0, hN]
   replace hs0_ := Zw c8 hs0_
   refine Zy ?_
   try simp only [Zi, Zf]
   refine Zg [0, 2, 4, 8, 12, 13] [true, true] ?_
   simp only [push_cast, seval, ↓reduceIte]
   refine Zh ?_
   obtain ⟨y6, hy6, hs0_⟩ := bC hs0_
   refine Zb Zc [] ?_
   simp only [push_cast, seval, ↓reduceIte, Za, hi0, hk0, hN0, hN]
   refine (K1 (i0 := i0) (by omega) (by simp only [push_cast, seval, ↓reduceIte, Za, Zbg, hi0, hk0, hN0, hN] <;> rfl) hy6).then ?_
   simp only [push_cast, seval, ↓reduceIte, Za, hi0, hk0, hN0, hN]
   refine Zg [0, 2, 4, 10, 12, 13] [true, false] ?_
   simp only [push_cast, seval, ↓reduceIte]
   refine Zr [0, 2, 4, 10, 12, 13, 30] (Zb Zc [] ?_)
   simp only [push_cast, seval, ↓reduceIte, Za, hi0, hk0, hN0, hN]
   refine Zs (t := (y6.1 != 0)) rfl (fun c7 => ?_) (fun c7 => ?_)
   ·replace hs0_ := Zx c7 hs0_
    refine Zr [6] (Zb Zc [] ?_)
    simp only [push_cast, seval, ↓reduceIte, Za, hi0, hk0, hN0, hN]
    refine Zu ?_
    try simp only [Zi, Zf]
    have hs0_ := Option.some.inj hs0_; subst hs0_
    refine And.intro (fun h => by cases h) (And.intro rfl (Fit2.of (Yo hU rfl rfl ?_) (by omega)))
    simp only [push_cast, seval, ↓reduceIte, Za, hi0, hk0, hN0, hN]
   replace hs0_ := Zw c7 hs0_
   refine Zy ?_
   try simp only [Zi, Zf]
   refine Zg [0, 2, 4, 12, 13] [true, false] ?_
   simp only [push_cast, seval, ↓reduceIte]
   refine Zb Zc [] ?_
   simp only [push_cast, seval, ↓reduceIte, Za, hi0, hk0, hN0, hN]
   have hs0_ := Option.some.inj hs0_; subst hs0_
   refine And.intro rfl (Fit2.of (Yo hU rfl rfl ?_) (by omega))
   simp only [push_cast, seval, ↓reduceIte, Za, hi0, hk0, hN0, hN]
  replace hs0_ := Zw c9 hs0_
  refine U1 ?_
  try simp only [Zi, Zf, ↓reduceIte, Nat.reduceEqDiff]
  have hs0_ := Option.some.inj hs0_; subst hs0_
  refine And.intro (fun h => by cases h) (And.intro rfl (Fit2.of (Yo hU rfl rfl ?_) (by omega)))
  simp only [push_cast, seval, ↓reduceIte, Za, hi0, hk0, hN0, hN]
 rcases z10 with z10 | z10
 ·dsimp only [Uq] at hw h
  refine Zbx hw ?_
  try simp only [Zi, Zf, ↓reduceIte, Nat.reduceEqDiff]
  have h := Option.some.inj h; subst h
  refine Uh (k := 0) (i := i0) (q1 := ⟨false, 107, 1, 1, [.val (.int .i64 z10.2)]⟩) (L3 := [none]) (E2 := (⟨33, [], [(6, .val (.int .i64 z10.1))]⟩ : Env)) (n3 := (n + 1)) (.inr rfl) hU rfl [.val (.int .i64 z10.1)] ?_ ?_
  ·refine Fit2.trans (E' := (⟨33, [], [(6, .val (.int .i64 z10.1))]⟩ : Env)) (O' := (Z4 (O.upd i0 (some ⟨false, 107, 1, 1, [.val (.int .i64 z10.2)]⟩)) n [none])) (n' := (n + 1)) (Fit2.of (Yo hU rfl rfl ?_) (by omega)) ?_
   ·simp only [push_cast, seval, ↓reduceIte, Za, hi0, hk0, hN0, hN]
   refine Vo (k := 1) (k' := 1) hU [0] [0] rfl rfl rfl rfl ⟨rfl, rfl⟩ ?_
   simp only [push_cast, seval, ↓reduceIte, Za, hi0, hk0, hN0, hN]
  simp only [push_cast, seval, ↓reduceIte, Za, Try.results85, hi0, hk0, hN0, hN]
 dsimp only [Uq] at hw h
 refine Ji hw ?_
 try simp only [Zi, Zf, ↓reduceIte, Nat.reduceEqDiff]
 refine Zg [] [false] ?_
 simp only [push_cast, seval, ↓reduceIte]
 refine Zr [6] (Zb Zc [] ?_)
 simp only [push_cast, seval, ↓reduceIte, Za, hi0, hk0, hN0, hN]
 refine Zu ?_
 try simp only [Zi, Zf]
 have h := Option.some.inj h; subst h
 refine Uh (k := 0) (i := i0) (q1 := ⟨false, 107, 1, 1, [.val (.int .i64 z10)]⟩) (L3 := [none]) (E2 := (⟨33, [], [(6, .val (.int .i64 0))]⟩ : Env)) (n3 := (n + 1)) (.inr rfl) hU rfl [.val (.int .i64 0)] ?_ ?_
 ·refine Fit2.trans (E' := (⟨33, [], [(6, .val (.int .i64 0))]⟩ : Env)) (O' := (Z4 (O.upd i0 (some ⟨false, 107, 1, 1, [.val (.int .i64 z10)]⟩)) n [none])) (n' := (n + 1)) (Fit2.of (Yo hU rfl rfl ?_) (by omega)) ?_
  ·simp only [push_cast, seval, ↓reduceIte, Za, hi0, hk0, hN0, hN]
  refine Vo (k := 1) (k' := 1) hU [0] [0] rfl rfl rfl rfl ⟨rfl, rfl⟩ ?_
  simp only [push_cast, seval, ↓reduceIte, Za, hi0, hk0, hN0, hN]
 simp only [push_cast, seval, ↓reduceIte, Za, Try.results85, hi0, hk0, hN0, hN]
theorem Zcl {Yd : (Ze → Zd → Int → Option (Int × Ze))} {Yc : (Ze → Zd → Int → Option (Int × Ze))} {Yg : (Ze → Zd → Int → Option (Int × Ze))} (K1 : ∀ {a0 : Ze} {a1 : Zd} {a2 : Int} {r : (Int × Ze)} {O : Objs} {n : Nat} {i0 : Nat}, i0 < n → O i0 = some ⟨false, 107, 1, 1, [.val (.int .i64 a0.left)]⟩ → Yd a0 a1 a2 = some r → GTo Try.prog 62 [.ref i0 0, .agg (Zj a1), .val (.int .i64 a2)] O n (.val (.int .i64 r.1)) (Z4 (O.upd i0 (some ⟨false, 107, 1, 1, [.val (.int .i64 r.2.left)]⟩)) n []) (n + 0)) (Q7 : ∀ {a0 : Ze} {a1 : Zd} {a2 : Int} {r : (Int × Ze)} {O : Objs} {n : Nat} {i0 : Nat}, i0 < n → O i0 = some ⟨false, 107, 1, 1, [.val (.int .i64 a0.left)]⟩ → Yc a0 a1 a2 = some r → GTo Try.prog 85 [.ref i0 0, .agg (Zj a1), .val (.int .i64 a2)] O n (.val (.int .i64 r.1)) (Z4 (O.upd i0 (some ⟨false, 107, 1, 1, [.val (.int .i64 r.2.left)]⟩)) n []) (n + 0)) (J3 : ∀ {a0 : Ze} {a1 : Zd} {a2 : Int} {r : (Int × Ze)} {O : Objs} {n : Nat} {i0 : Nat}, i0 < n → O i0 = some ⟨false, 107, 1, 1, [.val (.int .i64 a0.left)]⟩ → Yg a0 a1 a2 = some r → GTo Try.prog 86 [.ref i0 0, .agg (Zj a1), .val (.int .i64 a2)] O n (.val (.int .i64 r.1)) (Z4 (O.upd i0 (some ⟨false, 107, 1, 1, [.val (.int .i64 r.2.left)]⟩)) n []) (n + 0)) {a0 : Ze} {a1 : Zd} {a2 : Int} {r : (Int × Ze)} {O : Objs} {n : Nat} {i0 : Nat} (hi0 : i0 < n) (ho0 : O i0 = some ⟨false, 107, 1, 1, [.val (.int .i64 a0.left)]⟩) (h : Xj Yd Yc Yg a0 a1 a2 = some r) : GTo Try.prog 86 [.ref i0 0, .agg (Zj a1), .val (.int .i64 a2)] O n (.val (.int .i64 r.1)) (Z4 (O.upd i0 (some ⟨false, 107, 1, 1, [.val (.int .i64 r.2.left)]⟩)) n []) (n + 0) := by
 unfold Xj at h
 refine Ys Zc Try.call86 Try.func86 rfl (Nat.le_of_ble_eq_true rfl) (by omega) fun hU => ?_
 rw [show Z4 O n [] = Z4 (O.upd i0 (some ⟨false, 107, 1, 1, [.val (.int .i64 a0.left)]⟩)) n [] from by rw [Zj3 (show O i0 = _ from by exact ho0)]]
 have hk0 : ∀ k, i0 < n + k := fun k => by omega
 have hN0 : ∀ o, Objs.upd O i0 o n = none := fun o => Gk hU hi0 _ (Nat.le_refl _)
 have hN : ∀ o k, Objs.upd O i0 o (n + k) = none := fun o k => Gk hU hi0 _ (Nat.le_add_right _ _)
 show W _ _ _ _ ⟨34, [], [(0, .ref i0 0), (1, .agg (Zj a1)), (2, .val (.int .i64 a2))]⟩ (Z4 (O.upd i0 (some ⟨false, 107, 1, 1, [.val (.int .i64 a0.left)]⟩)) n []) _
 refine Zr [0, 2, 4] (Zb Zc [] ?_)
 simp only [push_cast, seval, ↓reduceIte, Za, hi0, hk0, hN0, hN]
 refine Zh ?_
 refine Zh ?_
 obtain ⟨y2, hy2, h⟩ := bC h
 refine Zb Zc [] ?_
 simp only [push_cast, seval, ↓reduceIte, Za, hi0, hk0, hN0, hN]
 refine (Y1 hy2).then ?_
 simp only [push_cast, seval, ↓reduceIte, Za, hi0, hk0, hN0, hN]
 refine Zg [0, 2, 4, 12, 13] [true] ?_
 simp only [push_cast, seval, ↓reduceIte]
 refine Zg [0, 2, 4, 12, 13] [true] ?_
 simp only [push_cast, seval, ↓reduceIte]
 obtain ⟨z10, hz10, h⟩ := bC h
 refine Zhs (J := (Uq (fun z10 => JR n (⟨34, [], [(6, .val (.int .i64 z10.1))]⟩ : Env) (Z4 (O.upd i0 (some ⟨false, 107, 1, 1, [.val (.int .i64 z10.2)]⟩)) n [none]) (n + 1)) (fun z10 => JX 0 n (⟨34, [], []⟩ : Env) (Z4 (O.upd i0 (some ⟨false, 107, 1, 1, [.val (.int .i64 z10)]⟩)) n [none]) (n + 1)))) (z := z10) ?_ fun hw => ?_
 ·refine K4 hz10 (fun s0_ => ⟨34, [], [(0, .ref i0 0), (2, .val (.int .i64 a2)), (4, .ref n 0), (12, .val (.int .i64 y2)), (13, .val (.int .i64 s0_.1))]⟩) (fun s0_ => (Z4 (O.upd i0 (some ⟨false, 107, 1, 1, [.val (.int .i64 s0_.2)]⟩)) n [some ⟨false, 27, 9, 1, (Zj a1)⟩])) (Uq (fun z10 => JR n (⟨34, [], [(6, .val (.int .i64 z10.1))]⟩ : Env) (Z4 (O.upd i0 (some ⟨false, 107, 1, 1, [.val (.int .i64 z10.2)]⟩)) n [none]) (n + 1)) (fun z10 => JX 0 n (⟨34, [], []⟩ : Env) (Z4 (O.upd i0 (some ⟨false, 107, 1, 1, [.val (.int .i64 z10)]⟩)) n [none]) (n + 1))) ?_
  intro s0_ x0_ hs0_
  unfold Xl at hs0_
  try dsimp only
  refine Zr [0, 2, 4, 12, 13, 14] (Zb Zc [] ?_)
  simp only [push_cast, seval, ↓reduceIte, Za, hi0, hk0, hN0, hN]
  refine Zh ?_
  refine Zs (t := (decide (s0_.1 < y2))) rfl (fun c9 => ?_) (fun c9 => ?_)
  ·replace hs0_ := Zx c9 hs0_
   refine Zy ?_
   try simp only [Zi, Zf]
   refine Zg [0, 2, 4, 12, 13] [true] ?_
   simp only [push_cast, seval, ↓reduceIte]
   refine Zh ?_
   refine Y8 ?_
   refine Zr [0, 2, 4, 7, 12, 13] (Zb Zc [] ?_)
   simp only [push_cast, seval, ↓reduceIte, Za, hi0, hk0, hN0, hN]
   refine Zh ?_
   obtain ⟨y4, hy4, hs0_⟩ := bC hs0_
   refine Zb Zc [] ?_
   simp only [push_cast, seval, ↓reduceIte, Za, hi0, hk0, hN0, hN]
   refine (Zad hy4).then ?_
   simp only [push_cast, seval, ↓reduceIte, Za, hi0, hk0, hN0, hN]
   refine Zg [0, 2, 4, 8, 9, 12, 13] [true, true] ?_
   simp only [push_cast, seval, ↓reduceIte]
   refine Zh ?_
   refine Zr [0, 2, 4, 8, 9, 12, 13, 23] (Zb Zc [] ?_)
   simp only [push_cast, seval, ↓reduceIte, Za, hi0, hk0, hN0, hN]
   refine Zs (t := (y4.2 != 0)) rfl (fun c8 => ?_) (fun c8 => ?_)
   ·replace hs0_ := Zx c8 hs0_
    refine Zr [6] (Zb Zc [] ?_)
    simp only [push_cast, seval, ↓reduceIte, Za, hi0, hk0, hN0, hN]
    refine Zu ?_
    try simp only [Zi, Zf]
    have hs0_ := Option.some.inj hs0_; subst hs0_
    refine And.intro (fun h => by cases h) (And.intro rfl (Fit2.of (Yo hU rfl rfl ?_) (by omega)))
    simp only [push_cast, seval, ↓reduceIte, Za, hi0, hk0, hN0, hN]
   replace hs0_ := Zw c8 hs0_
   refine Zy ?_
   try simp only [Zi, Zf]
   refine Zg [0, 2, 4, 8, 12, 13] [true, true] ?_
   simp only [push_cast, seval, ↓reduceIte]
   refine Zh ?_
   obtain ⟨y6, hy6, hs0_⟩ := bC hs0_
   refine Zb Zc [] ?_
   simp only [push_cast, seval, ↓reduceIte, Za, hi0, hk0, hN0, hN]
   refine (Q7 (i0 := i0) (by omega) (by simp only [push_cast, seval, ↓reduceIte, Za, Zbg, hi0, hk0, hN0, hN] <;> rfl) hy6).then ?_
   simp only [push_cast, seval, ↓reduceIte, Za, hi0, hk0, hN0, hN]
   refine Zg [0, 2, 4, 10, 12, 13] [true, false] ?_
   simp only [push_cast, seval, ↓reduceIte]
   refine Zr [0, 2, 4, 10, 12, 13, 31] (Zb Zc [] ?_)
   simp only [push_cast, seval, ↓reduceIte, Za, hi0, hk0, hN0, hN]
   refine Zs (t := (y6.1 != 0)) rfl (fun c7 => ?_) (fun c7 => ?_)
   ·replace hs0_ := Zx c7 hs0_
    refine Zr [6] (Zb Zc [] ?_)
    simp only [push_cast, seval, ↓reduceIte, Za, hi0, hk0, hN0, hN]
    refine Zu ?_
    try simp only [Zi, Zf]
    have hs0_ := Option.some.inj hs0_; subst hs0_
    refine And.intro (fun h => by cases h) (And.intro rfl (Fit2.of (Yo hU rfl rfl ?_) (by omega)))
    simp only [push_cast, seval, ↓reduceIte, Za, hi0, hk0, hN0, hN]
   replace hs0_ := Zw c7 hs0_
   refine Zy ?_
   try simp only [Zi, Zf]
   refine Zg [0, 2, 4, 12, 13] [true, false] ?_
   simp only [push_cast, seval, ↓reduceIte]
   refine Zb Zc [] ?_
   simp only [push_cast, seval, ↓reduceIte, Za, hi0, hk0, hN0, hN]
   have hs0_ := Option.some.inj hs0_; subst hs0_
   refine And.intro rfl (Fit2.of (Yo hU rfl rfl ?_) (by omega))
   simp only [push_cast, seval, ↓reduceIte, Za, hi0, hk0, hN0, hN]
  replace hs0_ := Zw c9 hs0_
  refine U1 ?_
  try simp only [Zi, Zf, ↓reduceIte, Nat.reduceEqDiff]
  have hs0_ := Option.some.inj hs0_; subst hs0_
  refine And.intro (fun h => by cases h) (And.intro rfl (Fit2.of (Yo hU rfl rfl ?_) (by omega)))
  simp only [push_cast, seval, ↓reduceIte, Za, hi0, hk0, hN0, hN]
 rcases z10 with z10 | z10
 ·dsimp only [Uq] at hw h
  refine Zbx hw ?_
  try simp only [Zi, Zf, ↓reduceIte, Nat.reduceEqDiff]
  have h := Option.some.inj h; subst h
  refine Uh (k := 0) (i := i0) (q1 := ⟨false, 107, 1, 1, [.val (.int .i64 z10.2)]⟩) (L3 := [none]) (E2 := (⟨34, [], [(6, .val (.int .i64 z10.1))]⟩ : Env)) (n3 := (n + 1)) (.inr rfl) hU rfl [.val (.int .i64 z10.1)] ?_ ?_
  ·refine Fit2.trans (E' := (⟨34, [], [(6, .val (.int .i64 z10.1))]⟩ : Env)) (O' := (Z4 (O.upd i0 (some ⟨false, 107, 1, 1, [.val (.int .i64 z10.2)]⟩)) n [none])) (n' := (n + 1)) (Fit2.of (Yo hU rfl rfl ?_) (by omega)) ?_
   ·simp only [push_cast, seval, ↓reduceIte, Za, hi0, hk0, hN0, hN]
   refine Vo (k := 1) (k' := 1) hU [0] [0] rfl rfl rfl rfl ⟨rfl, rfl⟩ ?_
   simp only [push_cast, seval, ↓reduceIte, Za, hi0, hk0, hN0, hN]
  simp only [push_cast, seval, ↓reduceIte, Za, Try.results86, hi0, hk0, hN0, hN]
 dsimp only [Uq] at hw h
 refine Ji hw ?_
 try simp only [Zi, Zf, ↓reduceIte, Nat.reduceEqDiff]
 refine Zg [] [false] ?_
 simp only [push_cast, seval, ↓reduceIte]
 refine Zr [6] (Zb Zc [] ?_)
 simp only [push_cast, seval, ↓reduceIte, Za, hi0, hk0, hN0, hN]
 refine Zu ?_
 try simp only [Zi, Zf]
 have h := Option.some.inj h; subst h
 refine Uh (k := 0) (i := i0) (q1 := ⟨false, 107, 1, 1, [.val (.int .i64 z10)]⟩) (L3 := [none]) (E2 := (⟨34, [], [(6, .val (.int .i64 0))]⟩ : Env)) (n3 := (n + 1)) (.inr rfl) hU rfl [.val (.int .i64 0)] ?_ ?_
 ·refine Fit2.trans (E' := (⟨34, [], [(6, .val (.int .i64 0))]⟩ : Env)) (O' := (Z4 (O.upd i0 (some ⟨false, 107, 1, 1, [.val (.int .i64 z10)]⟩)) n [none])) (n' := (n + 1)) (Fit2.of (Yo hU rfl rfl ?_) (by omega)) ?_
  ·simp only [push_cast, seval, ↓reduceIte, Za, hi0, hk0, hN0, hN]
  refine Vo (k := 1) (k' := 1) hU [0] [0] rfl rfl rfl rfl ⟨rfl, rfl⟩ ?_
  simp only [push_cast, seval, ↓reduceIte, Za, hi0, hk0, hN0, hN]
 simp only [push_cast, seval, ↓reduceIte, Za, Try.results86, hi0, hk0, hN0, hN]
theorem Zcj : ∀ k, (∀ {a0 : Ze} {a1 : Zd} {a2 : Int} {r : (Int × Ze)} {O : Objs} {n : Nat} {i0 : Nat}, i0 < n → O i0 = some ⟨false, 107, 1, 1, [.val (.int .i64 a0.left)]⟩ → (Zq k).1 a0 a1 a2 = some r → GTo Try.prog 62 [.ref i0 0, .agg (Zj a1), .val (.int .i64 a2)] O n (.val (.int .i64 r.1)) (Z4 (O.upd i0 (some ⟨false, 107, 1, 1, [.val (.int .i64 r.2.left)]⟩)) n []) (n + 0)) ∧ (∀ {a0 : Ze} {a1 : Zd} {a2 : Int} {r : (Int × Ze)} {O : Objs} {n : Nat} {i0 : Nat}, i0 < n → O i0 = some ⟨false, 107, 1, 1, [.val (.int .i64 a0.left)]⟩ → (Zq k).2.1 a0 a1 a2 = some r → GTo Try.prog 85 [.ref i0 0, .agg (Zj a1), .val (.int .i64 a2)] O n (.val (.int .i64 r.1)) (Z4 (O.upd i0 (some ⟨false, 107, 1, 1, [.val (.int .i64 r.2.left)]⟩)) n []) (n + 0)) ∧ (∀ {a0 : Ze} {a1 : Zd} {a2 : Int} {r : (Int × Ze)} {O : Objs} {n : Nat} {i0 : Nat}, i0 < n → O i0 = some ⟨false, 107, 1, 1, [.val (.int .i64 a0.left)]⟩ → (Zq k).2.2 a0 a1 a2 = some r → GTo Try.prog 86 [.ref i0 0, .agg (Zj a1), .val (.int .i64 a2)] O n (.val (.int .i64 r.1)) (Z4 (O.upd i0 (some ⟨false, 107, 1, 1, [.val (.int .i64 r.2.left)]⟩)) n []) (n + 0)) := fun k => by
 induction k with
 | zero => exact ⟨@fun a0 a1 a2 r O n i0 hi0 ho0 h => (nomatch (show (none : Option _) = some _ from h)), @fun a0 a1 a2 r O n i0 hi0 ho0 h => (nomatch (show (none : Option _) = some _ from h)), @fun a0 a1 a2 r O n i0 hi0 ho0 h => (nomatch (show (none : Option _) = some _ from h))⟩
 | succ k ih => exact ⟨@fun a0 a1 a2 r O n i0 hi0 ho0 h => Zdv (ih.1) (ih.2.1) (ih.2.2) hi0 ho0 h, @fun a0 a1 a2 r O n i0 hi0 ho0 h => Zet (ih.1) (ih.2.1) (ih.2.2) hi0 ho0 h, @fun a0 a1 a2 r O n i0 hi0 ho0 h => Zcl (ih.1) (ih.2.1) (ih.2.2) hi0 ho0 h⟩
theorem Zer {a0 : Ze} {a1 : Zd} {a2 : Int} {r : (Int × Ze)} {O : Objs} {n : Nat} {i0 : Nat} (hi0 : i0 < n) (ho0 : O i0 = some ⟨false, 107, 1, 1, [.val (.int .i64 a0.left)]⟩) (h : Ua a0 a1 a2 = some r) : GTo Try.prog 62 [.ref i0 0, .agg (Zj a1), .val (.int .i64 a2)] O n (.val (.int .i64 r.1)) (Z4 (O.upd i0 (some ⟨false, 107, 1, 1, [.val (.int .i64 r.2.left)]⟩)) n []) (n + 0) := by
 obtain ⟨k, hk⟩ := Zf1 h
 exact (Zcj k).1 hi0 ho0 hk
theorem Zoa {a0 : (Option Zm)} {a1 : Z0} {r : (Int × Int)} {O : Objs} {n : Nat} (h : U7 a0 a1 = some r) : GTo Try.prog 31 [(gP Zn a0), .agg (Yj a1)] O n (.tup [.val (.int .i64 r.1), .val (.int .i64 r.2)]) O n := by
 unfold U7 at h
 refine Ys Zc Try.call31 Try.func31 rfl (Nat.le_of_ble_eq_true rfl) (Nat.le_refl _) fun hU => ?_
 have hN0 : O n = none := hU.fresh _ (Nat.le_refl _)
 have hN : ∀ k, O (n + k) = none := fun k => hU.fresh _ (Nat.le_add_right _ _)
 show W _ _ _ _ ⟨35, [], [(0, (gP Zn a0)), (1, .agg (Yj a1))]⟩ (Z4 O n []) _
 refine Zr [0, 3] (Zb Zc [] ?_)
 simp only [push_cast, seval, ↓reduceIte, Za, hN0, hN]
 refine Zh ?_
 obtain ⟨y2, hy2, h⟩ := bC h
 refine Zb Zc [] ?_
 simp only [push_cast, seval, ↓reduceIte, Za, hN0, hN]
 refine (Zla hy2).then ?_
 simp only [push_cast, seval, ↓reduceIte, Za, hN0, hN]
 refine Zg [0, 3] [true] ?_
 simp only [push_cast, seval, ↓reduceIte]
 refine Zh ?_
 obtain ⟨y4, hy4, h⟩ := bC h
 refine Zb Zc [] ?_
 simp only [push_cast, seval, ↓reduceIte, Za, hN0, hN]
 refine (Zb9 hy4).then ?_
 simp only [push_cast, seval, ↓reduceIte, Za, hN0, hN]
 refine Zg [3, 6, 7] [true, true] ?_
 simp only [push_cast, seval, ↓reduceIte]
 refine Zh ?_
 refine Zr [3, 6, 7, 18] (Zb Zc [] ?_)
 simp only [push_cast, seval, ↓reduceIte, Za, hN0, hN]
 refine Zs (t := (y4.2 != 0)) rfl (fun c8 => ?_) (fun c8 => ?_)
 ·replace h := Zx c8 h
  refine Zr [4, 5] (Zb Zc [] ?_)
  simp only [push_cast, seval, ↓reduceIte, Za, hN0, hN]
  refine Zu ?_
  try simp only [Zi, Zf]
  have h := Option.some.inj h; subst h
  refine Zl (.inr rfl) hU [.val (.int .i64 0), .val (.int .i64 y4.2)] (by omega) ?_
  simp only [push_cast, seval, ↓reduceIte, Za, Try.results31, hN0, hN]
 replace h := Zw c8 h
 refine Zy ?_
 try simp only [Zi, Zf]
 refine Zg [3, 6] [true, true] ?_
 simp only [push_cast, seval, ↓reduceIte]
 refine Zh ?_
 refine Zb Zc [] ?_
 simp only [push_cast, seval, ↓reduceIte, Za, hN0, hN]
 refine Zg [3, 6, 8] [true, true, true] ?_
 simp only [push_cast, seval, ↓reduceIte]
 refine Zh ?_
 refine Zh ?_
 obtain ⟨y6, hy6, h⟩ := bC h
 refine Zb Zc [] ?_
 simp only [push_cast, seval, ↓reduceIte, Za, hN0, hN]
 refine (Zer (i0 := (n + 2)) (by omega) (by simp only [push_cast, seval, ↓reduceIte, Za, Zbg, hN0, hN] <;> rfl) hy6).then ?_
 simp only [push_cast, seval, ↓reduceIte, Za, hN0, hN]
 refine Zg [3, 8, 9] [true, false, true] ?_
 simp only [push_cast, seval, ↓reduceIte]
 refine Zr [3, 8, 9, 28] (Zb Zc [] ?_)
 simp only [push_cast, seval, ↓reduceIte, Za, hN0, hN]
 refine Zs (t := (y6.1 != 0)) rfl (fun c7 => ?_) (fun c7 => ?_)
 ·replace h := Zx c7 h
  refine Zr [4, 5] (Zb Zc [] ?_)
  simp only [push_cast, seval, ↓reduceIte, Za, hN0, hN]
  refine Zu ?_
  try simp only [Zi, Zf]
  have h := Option.some.inj h; subst h
  refine Zl (.inr rfl) hU [.val (.int .i64 0), .val (.int .i64 y6.1)] (by omega) ?_
  simp only [push_cast, seval, ↓reduceIte, Za, Try.results31, hN0, hN]
 replace h := Zw c7 h
 refine Zy ?_
 try simp only [Zi, Zf]
 refine Zg [3, 8] [true, false, true] ?_
 simp only [push_cast, seval, ↓reduceIte]
 refine Zr [4, 5] (Zb Zc [] ?_)
 simp only [push_cast, seval, ↓reduceIte, Za, hN0, hN]
 refine Zu ?_
 try simp only [Zi, Zf]
 have h := Option.some.inj h; subst h
 refine Zl (.inr rfl) hU [.val (.int .i64 (IntKind.i64.wrap (y2.Weight - y6.2.left))), .val (.int .i64 0)] (by omega) ?_
 simp only [push_cast, seval, ↓reduceIte, Za, Try.results31, hN0, hN]
theorem Zkk {a0 : Zd} {r : Int} {O : Objs} {n : Nat} (h : V4 a0 = some r) : GTo Try.prog 90 [.agg (Zj a0)] O n (.val (.int .i64 r)) O n := by
 unfold V4 at h
 refine Ys Zc Try.call90 Try.func90 rfl (Nat.le_of_ble_eq_true rfl) (Nat.le_refl _) fun hU => ?_
 have hN0 : O n = none := hU.fresh _ (Nat.le_refl _)
 have hN : ∀ k, O (n + k) = none := fun k => hU.fresh _ (Nat.le_add_right _ _)
 show W _ _ _ _ ⟨20, [], [(0, .agg (Zj a0))]⟩ (Z4 O n []) _
 refine Zr [1] (Zb Zc [] ?_)
 simp only [push_cast, seval, ↓reduceIte, Za, hN0, hN]
 refine Zh ?_
 refine Zh ?_
 obtain ⟨y2, hy2, h⟩ := bC h
 refine Zb Zc [] ?_
 simp only [push_cast, seval, ↓reduceIte, Za, hN0, hN]
 refine (Y2 hy2).then ?_
 simp only [push_cast, seval, ↓reduceIte, Za, hN0, hN]
 refine Zg [1, 4] [true] ?_
 simp only [push_cast, seval, ↓reduceIte]
 refine Y8 ?_
 refine Zr [1, 4, 5] (Zb Zc [] ?_)
 simp only [push_cast, seval, ↓reduceIte, Za, hN0, hN]
 refine Zs (t := (y2 == 0)) rfl (fun c11 => ?_) (fun c11 => ?_)
 ·replace h := Zx c11 h
  refine Zr [2] (Zb Zc [] ?_)
  simp only [push_cast, seval, ↓reduceIte, Za, hN0, hN]
  refine Zu ?_
  try simp only [Zi, Zf]
  have h := Option.some.inj h; subst h
  refine Zl (.inr rfl) hU [.val (.int .i64 0)] (by omega) ?_
  simp only [push_cast, seval, ↓reduceIte, Za, Try.results90, hN0, hN]
 replace h := Zw c11 h
 refine Zr [1, 4, 7] (Zb Zc [] ?_)
 simp only [push_cast, seval, ↓reduceIte, Za, hN0, hN]
 refine Zs (t := (y2 == 1)) rfl (fun c10 => ?_) (fun c10 => ?_)
 ·replace h := Zx c10 h
  refine Zh ?_
  obtain ⟨y5, hy5, h⟩ := bC h
  obtain ⟨y6, hy6, h⟩ := bC h
  refine J4 Zc (by kernel_rfl) [] (by kernel_rfl) ?_
  simp only [push_cast, seval, ↓reduceIte, Za, hN0, hN]
  refine PCall.of (K7 hy5) ?_
  simp only [push_cast, seval, ↓reduceIte, Za, hN0, hN]
  refine PCall.of (Y1 hy6) ?_
  simp only [push_cast, seval, ↓reduceIte, Za, hN0, hN]
  refine Zg [2] [false] ?_
  simp only [push_cast, seval, ↓reduceIte]
  refine Zu ?_
  try simp only [Zi, Zf]
  have h := Option.some.inj h; subst h
  refine Zl (.inr rfl) hU [.val (.int .i64 (IntKind.i64.wrap ((IntKind.i64.wrap (1 + y5)) + y6)))] (by omega) ?_
  simp only [push_cast, seval, ↓reduceIte, Za, Try.results90, hN0, hN]
 replace h := Zw c10 h
 refine Zr [1, 15] (Zb Zc [] ?_)
 simp only [push_cast, seval, ↓reduceIte, Za, hN0, hN]
 refine Zs (t := (y2 == 8)) rfl (fun c9 => ?_) (fun c9 => ?_)
 ·replace h := Zx c9 h
  refine Zh ?_
  obtain ⟨y8, hy8, h⟩ := bC h
  refine Zb Zc [] ?_
  simp only [push_cast, seval, ↓reduceIte, Za, hN0, hN]
  refine (Y1 hy8).then ?_
  simp only [push_cast, seval, ↓reduceIte, Za, hN0, hN]
  refine Zg [2] [false] ?_
  simp only [push_cast, seval, ↓reduceIte]
  refine Zu ?_
  try simp only [Zi, Zf]
  have h := Option.some.inj h; subst h
  refine Zl (.inr rfl) hU [.val (.int .i64 (IntKind.i64.wrap (1 + y8)))] (by omega) ?_
  simp only [push_cast, seval, ↓reduceIte, Za, Try.results90, hN0, hN]
 replace h := Zw c9 h
 refine Zy ?_
 try simp only [Zi, Zf]
 refine Zg [] [false] ?_
 simp only [push_cast, seval, ↓reduceIte]
 refine Zr [2] (Zb Zc [] ?_)
 simp only [push_cast, seval, ↓reduceIte, Za, hN0, hN]
 refine Zu ?_
 try simp only [Zi, Zf]
 have h := Option.some.inj h; subst h
 refine Zl (.inr rfl) hU [.val (.int .i64 1)] (by omega) ?_
 simp only [push_cast, seval, ↓reduceIte, Za, Try.results90, hN0, hN]
theorem Zp9 {a0 : Int} {r : Bool} {O : Objs} {n : Nat} (h : Zc0 a0 = some r) : GTo Try.prog 102 [.val (.int .i64 a0)] O n (.val (.bool r)) O n := by
 unfold Zc0 at h
 refine Ys Zc Try.call102 Try.func102 rfl (Nat.le_of_ble_eq_true rfl) (Nat.le_refl _) fun hU => ?_
 have hN0 : O n = none := hU.fresh _ (Nat.le_refl _)
 have hN : ∀ k, O (n + k) = none := fun k => hU.fresh _ (Nat.le_add_right _ _)
 show W _ _ _ _ ⟨9, [], [(0, .val (.int .i64 a0))]⟩ (Z4 O n []) _
 refine Zr [0] (Zb Zc [] ?_)
 simp only [push_cast, seval, ↓reduceIte, Za, hN0, hN]
 refine Zr [2] (Zb Zc [none, none] ?_)
 simp only [push_cast, seval, ↓reduceIte, Za, hN0, hN]
 repeat (with_reducible refine And.intro (by first | (intro h0; simp only [h0, and_self]; done) | (intro h0; simp only [h0, Bool.not_false, Bool.not_true, Bool.true_and, Bool.and_true, true_and, and_true, and_self, imp_self, implies_true, bne_iff_ne, ne_eq, beq_iff_eq]; done) | (intros; simp_all; done) | exact True.intro) ?_)
 refine Zu ?_
 try simp only [Zi, Zf]
 have h := Option.some.inj h; subst h
 refine Zl (.inr rfl) hU [.val (.bool (cond (decide (2 ≤ a0)) (decide (a0 ≤ 9)) false))] (by omega) ?_
 simp only [push_cast, seval, ↓reduceIte, Za, Try.results102, hN0, hN]
theorem Zk9 {a0 : Zd} {r : Bool} {O : Objs} {n : Nat} (h : Un a0 = some r) : GTo Try.prog 91 [.agg (Zj a0)] O n (.val (.bool r)) O n := by
 unfold Un at h
 refine Ys Zc Try.call91 Try.func91 rfl (Nat.le_of_ble_eq_true rfl) (Nat.le_refl _) fun hU => ?_
 have hN0 : O n = none := hU.fresh _ (Nat.le_refl _)
 have hN : ∀ k, O (n + k) = none := fun k => hU.fresh _ (Nat.le_add_right _ _)
 show W _ _ _ _ ⟨11, [], [(0, .agg (Zj a0))]⟩ (Z4 O n []) _
 refine Zr [1] (Zb Zc [] ?_)
 simp only [push_cast, seval, ↓reduceIte, Za, hN0, hN]
 obtain ⟨z4, hz4, h⟩ := bC h
 refine Qa (E' := ⟨11, [], [(2, .val (.bool z4))]⟩) (O' := (Z4 O n [none])) (n0 := (n + 1)) ?_ ?_
 ·obtain ⟨y8, hy8, hz4⟩ := bC hz4
  rcases Bool.eq_false_or_eq_true (y8 == 1) with c11 | c11
  ·replace hz4 := Zx c11 hz4
   refine Zb Zc [some false, some false, some false] ?_
   simp only [push_cast, seval, ↓reduceIte, Za, c11, hN0, hN]
   refine (Y2 hy8).then ?_
   simp only [push_cast, seval, ↓reduceIte, Za, c11, hN0, hN]
   have hz4 := Option.some.inj hz4; subst hz4
   refine And.intro rfl (Fit2.of (Zv hU rfl rfl ?_) (by omega))
   simp only [push_cast, seval, ↓reduceIte, Za, c11, hN0, hN]
  replace hz4 := Zw c11 hz4
  obtain ⟨y9, hy9, hz4⟩ := bC hz4
  obtain ⟨y10, hy10, hz4⟩ := bC hz4
  refine Zb Zc [some true, some true, some true] ?_
  simp only [push_cast, seval, ↓reduceIte, Za, c11, hN0, hN]
  refine (Y2 hy8).then ?_
  simp only [push_cast, seval, ↓reduceIte, Za, c11, hN0, hN]
  refine (Y2 hy9).then ?_
  simp only [push_cast, seval, ↓reduceIte, Za, c11, hN0, hN]
  refine (Zp9 hy10).then ?_
  simp only [push_cast, seval, ↓reduceIte, Za, c11, hN0, hN]
  have hz4 := Option.some.inj hz4; subst hz4
  refine And.intro rfl (Fit2.of (Zv hU rfl rfl ?_) (by omega))
  simp only [push_cast, seval, ↓reduceIte, Za, c11, hN0, hN]
 refine Zu ?_
 try simp only [Zi, Zf]
 have h := Option.some.inj h; subst h
 refine Zl (.inr rfl) hU [.val (.bool z4)] (by omega) ?_
 simp only [push_cast, seval, ↓reduceIte, Za, Try.results91, hN0, hN]
theorem Zhp {a0 : Int} {r : (Int × Bool)} {O : Objs} {n : Nat} (h : Us a0 = some r) : GTo Try.prog 80 [.val (.int .i64 a0)] O n (.tup [.val (.int .i64 r.1), .val (.bool r.2)]) O n := by
 unfold Us at h
 refine Ys Zc Try.call80 Try.func80 rfl (Nat.le_of_ble_eq_true rfl) (Nat.le_refl _) fun hU => ?_
 have hN0 : O n = none := hU.fresh _ (Nat.le_refl _)
 have hN : ∀ k, O (n + k) = none := fun k => hU.fresh _ (Nat.le_add_right _ _)
 show W _ _ _ _ ⟨15, [], [(0, .val (.int .i64 a0))]⟩ (Z4 O n []) _
 refine Zr [0] (Zb Zc [] ?_)
 simp only [push_cast, seval, ↓reduceIte, Za, hN0, hN]
 refine Zh ?_
 obtain ⟨y6, hy6, ey6, h⟩ := bY (f := (eI .i64)) (cs := [.val (.int .i64 0), .val (.int .i64 1), .val (.int .i64 8), .val (.int .i64 16), .val (.int .i64 32), .val (.int .i64 64)]) rfl h
 have g7 := congrArg G.agg ey6
 obtain ⟨y8, hy8, ey8, h⟩ := bY (f := (eI .i64)) (cs := [.val (.int .i64 0), .val (.int .i64 0), .val (.int .i64 0), .val (.int .i64 0), .val (.int .i64 0), .val (.int .i64 0)]) rfl h
 have g9 := congrArg (GObj.mk false 138 6 1) ey8
 have g10 := Znz (f := (eI .i64)) y8 y6 (fun _ => rfl)
 refine Zb Zc [] ?_
 simp only [push_cast, seval, ↓reduceIte, Za, g7, g9, g10, hN0, hN]
 refine Zg [0, 4] [true] ?_
 simp only [push_cast, seval, ↓reduceIte]
 refine Zh ?_
 refine Zr [0, 4, 11] (Zb Zc [none, none] ?_)
 simp only [push_cast, seval, ↓reduceIte, Za, hN0, hN]
 repeat (with_reducible refine And.intro (by first | (intro h0; simp only [h0, and_self]; done) | (intro h0; simp only [h0, Bool.not_false, Bool.not_true, Bool.true_and, Bool.and_true, true_and, and_true, and_self, imp_self, implies_true, bne_iff_ne, ne_eq, beq_iff_eq]; done) | (intros; simp_all; done) | exact True.intro) ?_)
 refine Zs (t := (cond (decide (a0 < 0)) true (decide (6 ≤ a0)))) rfl (fun c13 => ?_) (fun c13 => ?_)
 ·replace h := Zx c13 h
  refine Zr [2, 3] (Zb Zc [] ?_)
  simp only [push_cast, seval, ↓reduceIte, Za, hN0, hN]
  refine Zu ?_
  try simp only [Zi, Zf]
  have h := Option.some.inj h; subst h
  refine Zl (.inr rfl) hU [.val (.int .i64 0), .val (.bool false)] (by omega) ?_
  simp only [push_cast, seval, ↓reduceIte, Za, Try.results80, hN0, hN]
 replace h := Zw c13 h
 refine Zy ?_
 try simp only [Zi, Zf]
 refine Zg [0, 4] [true] ?_
 simp only [push_cast, seval, ↓reduceIte]
 obtain ⟨x12, hx12, ax12, bx12, cx12, h⟩ := bEA (f := (eI .i64)) (b := 6) rfl Zt9 (fun _ => rfl) (by decide) h
 refine Zr [2, 3] (Zb Zc [] ?_)
 simp only [push_cast, Nat.reduceAdd, Nat.reduceSub, Nat.reduceMul, Nat.reduceLeDiff, Nat.reduceLT, Nat.reduceEqDiff, ↓reduceIte, reduceCtorEq, Int.reduceBEq, Int.reduceBNe, Nat.reduceBEq, Int.reduceLE, Int.reduceLT, Int.reduceEq, Int.reduceNe, Int.reduceNeg, Nat.reduceDiv, Nat.reduceMod, Nat.reducePow, Za, ax12, bx12, cx12, hN0, hN]
 refine Zu ?_
 try simp only [Zi, Zf]
 have h := Option.some.inj h; subst h
 refine Zl (.inr rfl) hU [.val (.int .i64 x12), .val (.bool true)] (by omega) ?_
 simp only [push_cast, seval, ↓reduceIte, Za, Try.results80, hN0, hN]
theorem Zsq {a0 : (List Int)} {a1 : Int} {a2 : Int} {r : Int} {O : Objs} {n : Nat} (h : Zb4 a0 a1 a2 = some r) : GTo Try.prog 81 [.sl a0.length (fl (eI .u64) a0), .val (.int .i64 a1), .val (.int .i64 a2)] O n (.val (.int .u64 r)) O n := by
 unfold Zb4 at h
 refine Ys Zc Try.call81 Try.func81 rfl (Nat.le_of_ble_eq_true rfl) (Nat.le_refl _) fun hU => ?_
 have hN0 : O n = none := hU.fresh _ (Nat.le_refl _)
 have hN : ∀ k, O (n + k) = none := fun k => hU.fresh _ (Nat.le_add_right _ _)
 show W _ _ _ _ ⟨45, [], [(0, .sl a0.length (fl (eI .u64) a0)), (1, .val (.int .i64 a1)), (2, .val (.int .i64 a2))]⟩ (Z4 O n []) _
 refine Zr [0, 1, 2] (Zb Zc [] ?_)
 simp only [push_cast, seval, ↓reduceIte, Za, hN0, hN]
 refine Zh ?_
 obtain ⟨y2, hy2, h⟩ := bC h
 refine Zb Zc [] ?_
 simp only [push_cast, seval, ↓reduceIte, Za, hN0, hN]
 refine (Zhp hy2).then ?_
 simp only [push_cast, seval, ↓reduceIte, Za, hN0, hN]
 refine Zg [0, 2, 7] [] ?_
 simp only [push_cast, seval, ↓reduceIte]
 refine Zh ?_
 refine Zr [0, 2, 7, 20] (Zb Zc [none, none] ?_)
 simp only [push_cast, seval, ↓reduceIte, Za, hN0, hN]
 repeat (with_reducible refine And.intro (by first | (intro h0; simp only [h0, and_self]; done) | (intro h0; simp only [h0, Bool.not_false, Bool.not_true, Bool.true_and, Bool.and_true, true_and, and_true, and_self, imp_self, implies_true, bne_iff_ne, ne_eq, beq_iff_eq]; done) | (intros; simp_all; done) | exact True.intro) ?_)
 refine Zs (t := (cond (y2.1 == 0) true (decide (a2 < 0)))) rfl (fun c18 => ?_) (fun c18 => ?_)
 ·replace h := Zx c18 h
  refine Zr [6] (Zb Zc [] ?_)
  simp only [push_cast, seval, ↓reduceIte, Za, hN0, hN]
  refine Zu ?_
  try simp only [Zi, Zf]
  have h := Option.some.inj h; subst h
  refine Zl (.inr rfl) hU [.val (.int .u64 0)] (by omega) ?_
  simp only [push_cast, seval, ↓reduceIte, Za, Try.results81, hN0, hN]
 replace h := Zw c18 h
 refine Zy ?_
 try simp only [Zi, Zf]
 refine Zg [0, 2, 7] [] ?_
 simp only [push_cast, seval, ↓reduceIte]
 obtain ⟨pu4, h⟩ := bG h
 refine Zr [0, 2, 7, 9] (Zb Zc [] ?_)
 simp only [push_cast, seval, ↓reduceIte, Za, pu4, hN0, hN]
 refine Zh ?_
 obtain ⟨pu6, h⟩ := bG h
 refine Zr [0, 2, 7, 9, 28] (Zb Zc [] ?_)
 simp only [push_cast, seval, ↓reduceIte, Za, pu6, hN0, hN]
 refine Zs (t := (decide ((a0.length : Int) ≤ (IntKind.i64.wrap (Int.tdiv a2 (IntKind.i64.wrap (Int.tdiv 64 y2.1))))))) rfl (fun c17 => ?_) (fun c17 => ?_)
 ·replace h := Zx c17 h
  refine Zr [6] (Zb Zc [] ?_)
  simp only [push_cast, seval, ↓reduceIte, Za, hN0, hN]
  refine Zu ?_
  try simp only [Zi, Zf]
  have h := Option.some.inj h; subst h
  refine Zl (.inr rfl) hU [.val (.int .u64 0)] (by omega) ?_
  simp only [push_cast, seval, ↓reduceIte, Za, Try.results81, hN0, hN]
 replace h := Zw c17 h
 refine Zy ?_
 try simp only [Zi, Zf]
 refine Zg [0, 2, 7, 9] [] ?_
 simp only [push_cast, seval, ↓reduceIte]
 obtain ⟨pu12, h⟩ := bG h
 obtain ⟨x13, hx13, ax13, bx13, cx13, h⟩ := bE (f := (eI .u64)) U9 (fun _ => rfl) (by decide) h
 obtain ⟨pu14, h⟩ := bG h
 obtain ⟨pu15, h⟩ := bG h
 obtain ⟨pu16, h⟩ := bG h
 refine Zr [6] (J4 Zc (by kernel_rfl) [] (by kernel_rfl) ?_)
 simp only [push_cast, Nat.reduceAdd, Nat.reduceSub, Nat.reduceMul, Nat.reduceLeDiff, Nat.reduceLT, Nat.reduceEqDiff, ↓reduceIte, reduceCtorEq, Int.reduceBEq, Int.reduceBNe, Nat.reduceBEq, Int.reduceLE, Int.reduceLT, Int.reduceEq, Int.reduceNe, Int.reduceNeg, Nat.reduceDiv, Nat.reduceMod, Nat.reducePow, Za, pu12, ax13, bx13, cx13, pu14, pu15, pu16, hN0, hN]
 refine Zu ?_
 try simp only [Zi, Zf]
 have h := Option.some.inj h; subst h
 refine Zl (.inr rfl) hU [.val (.int .u64 (IntKind.u64.wrap (U0 .u64 (Int.fdiv x13 (2 ^ min (Int.toNat (IntKind.i64.wrap ((Int.tmod a2 (IntKind.i64.wrap (Int.tdiv 64 y2.1))) * y2.1))) 64)) (IntKind.u64.wrap ((IntKind.u64.wrap (1 * 2 ^ min (Int.toNat y2.1) 64)) - 1)))))] (by omega) ?_
 simp only [push_cast, seval, ↓reduceIte, Za, Try.results81, hN0, hN]
theorem Zf7 {a0 : Zd} {r : Int} {O : Objs} {n : Nat} (h : Jl a0 = some r) : GTo Try.prog 59 [.agg (Zj a0)] O n (.val (.int .u64 r)) O n := by
 unfold Jl at h
 refine Ys Zc Try.call59 Try.func59 rfl (Nat.le_of_ble_eq_true rfl) (Nat.le_refl _) fun hU => ?_
 have hN0 : O n = none := hU.fresh _ (Nat.le_refl _)
 have hN : ∀ k, O (n + k) = none := fun k => hU.fresh _ (Nat.le_add_right _ _)
 show W _ _ _ _ ⟨42, [], [(0, .agg (Zj a0))]⟩ (Z4 O n []) _
 refine Zr [1] (Zb Zc [] ?_)
 simp only [push_cast, seval, ↓reduceIte, Za, hN0, hN]
 refine Zh ?_
 obtain ⟨y2, hy2, h⟩ := bC h
 refine Zb Zc [] ?_
 simp only [push_cast, seval, ↓reduceIte, Za, hN0, hN]
 refine (Zhp hy2).then ?_
 simp only [push_cast, seval, ↓reduceIte, Za, hN0, hN]
 refine Zg [1, 3] [true] ?_
 simp only [push_cast, seval, ↓reduceIte]
 refine Zh ?_
 refine Zr [1, 3, 15] (Zb Zc [] ?_)
 simp only [push_cast, seval, ↓reduceIte, Za, hN0, hN]
 refine Zs (t := (y2.1 == 0)) rfl (fun c13 => ?_) (fun c13 => ?_)
 ·replace h := Zx c13 h
  refine Zr [2] (Zb Zc [] ?_)
  simp only [push_cast, seval, ↓reduceIte, Za, hN0, hN]
  refine Zu ?_
  try simp only [Zi, Zf]
  have h := Option.some.inj h; subst h
  refine Zl (.inr rfl) hU [.val (.int .u64 0)] (by omega) ?_
  simp only [push_cast, seval, ↓reduceIte, Za, Try.results59, hN0, hN]
 replace h := Zw c13 h
 refine Zy ?_
 try simp only [Zi, Zf]
 refine Zg [1, 3] [true] ?_
 simp only [push_cast, seval, ↓reduceIte]
 obtain ⟨pu4, h⟩ := bG h
 refine Zr [1, 5] (Zb Zc [] ?_)
 simp only [push_cast, seval, ↓reduceIte, Za, pu4, hN0, hN]
 refine Zh ?_
 obtain ⟨pu7, h⟩ := bG h
 obtain ⟨y8, hy8, h⟩ := bC h
 refine J4 Zc (by kernel_rfl) [] (by kernel_rfl) ?_
 simp only [push_cast, seval, ↓reduceIte, Za, pu7, hN0, hN]
 refine PCall.of (J0 hy8) ?_
 simp only [push_cast, seval, ↓reduceIte, Za, pu7, hN0, hN]
 refine Zg [1, 5, 6] [true] ?_
 simp only [push_cast, seval, ↓reduceIte]
 refine Zh ?_
 obtain ⟨pu11, h⟩ := bG h
 obtain ⟨y12, hy12, h⟩ := bC h
 refine Zcn Zc (by kernel_rfl) [.plain, .pass, .low, .low, .low, .low, .low, .low, .bar, .plain] (fun i => i < (n + 1)) [0, 2, 3, 4, 5, 6, 7, 1, 8, 9] [.plain, .low, .low, .low, .low, .low, .low, .pass, .bar, .plain] [] (by kernel_rfl) rfl ?_
 simp only [push_cast, seval, ↓reduceIte, Za, pu11, hN0, hN]
 repeat (with_reducible refine And.intro (by first | omega | exact Qh rfl | exact Xr | exact Kf rfl | exact Vd rfl rfl) ?_)
 refine GCalls.lend (Zsq hy12) rfl ?_ ?_
 ·simp only [push_cast, seval, ↓reduceIte, Za, pu11, hN0, hN]
 simp only [push_cast, seval, ↓reduceIte, Za, pu11, hN0, hN]
 repeat (with_reducible refine And.intro (by first | omega | exact Qh rfl | exact Xr | exact Kf rfl | exact Vd rfl rfl) ?_)
 refine Zks ⟨42, [], [(2, .val (.int .u64 y12))]⟩ (Z4 O n [none, none]) (Zv hU rfl rfl ?_) ?_
 ·simp only [push_cast, seval, ↓reduceIte, Za, pu11, hN0, hN]
 refine Zu ?_
 try simp only [Zi, Zf]
 have h := Option.some.inj h; subst h
 refine Zl (.inr rfl) hU [.val (.int .u64 y12)] (by omega) ?_
 simp only [push_cast, seval, ↓reduceIte, Za, Try.results59, hN0, hN]
theorem Zb8 {a0 : Zd} {a1 : Int} {r : Int} {O : Objs} {n : Nat} (h : Km a0 a1 = some r) : GTo Try.prog 27 [.agg (Zj a0), .val (.int .i64 a1)] O n (.val (.int .u64 r)) O n := by
 unfold Km at h
 refine Ys Zc Try.call27 Try.func27 rfl (Nat.le_of_ble_eq_true rfl) (Nat.le_refl _) fun hU => ?_
 have hN0 : O n = none := hU.fresh _ (Nat.le_refl _)
 have hN : ∀ k, O (n + k) = none := fun k => hU.fresh _ (Nat.le_add_right _ _)
 show W _ _ _ _ ⟨33, [], [(0, .agg (Zj a0)), (1, .val (.int .i64 a1))]⟩ (Z4 O n []) _
 refine Zr [1, 2] (Zb Zc [] ?_)
 simp only [push_cast, seval, ↓reduceIte, Za, hN0, hN]
 refine Zh ?_
 obtain ⟨z2, hz2, h⟩ := bC h
 refine Qa (E' := ⟨33, [], [(1, .val (.int .i64 a1)), (2, .ref n 0), (14, .val (.bool z2))]⟩) (O' := (Z4 O n [some ⟨false, 27, 9, 1, (Zj a0)⟩])) (n0 := (n + 1)) ?_ ?_
 ·rcases Bool.eq_false_or_eq_true (decide (a1 < 0)) with c5 | c5
  ·replace hz2 := Zx c5 hz2
   refine Zb Zc [some false, some false, some false, some false] ?_
   simp only [push_cast, seval, ↓reduceIte, Za, c5, hN0, hN]
   have hz2 := Option.some.inj hz2; subst hz2
   refine And.intro rfl (Fit2.of (Zv hU rfl rfl ?_) (by omega))
   simp only [push_cast, seval, ↓reduceIte, Za, c5, hN0, hN]
  replace hz2 := Zw c5 hz2
  obtain ⟨y4, hy4, hz2⟩ := bC hz2
  refine Zb Zc [some true, some true, some true, some true] ?_
  simp only [push_cast, seval, ↓reduceIte, Za, c5, hN0, hN]
  refine (K7 hy4).then ?_
  simp only [push_cast, seval, ↓reduceIte, Za, c5, hN0, hN]
  have hz2 := Option.some.inj hz2; subst hz2
  refine And.intro rfl (Fit2.of (Zv hU rfl rfl ?_) (by omega))
  simp only [push_cast, seval, ↓reduceIte, Za, c5, hN0, hN]
 refine Zs (t := z2) rfl (fun c11 => ?_) (fun c11 => ?_)
 ·replace h := Zx c11 h
  refine Zr [4] (Zb Zc [] ?_)
  simp only [push_cast, seval, ↓reduceIte, Za, hN0, hN]
  refine Zu ?_
  try simp only [Zi, Zf]
  have h := Option.some.inj h; subst h
  refine Zl (.inr rfl) hU [.val (.int .u64 0)] (by omega) ?_
  simp only [push_cast, seval, ↓reduceIte, Za, Try.results27, hN0, hN]
 replace h := Zw c11 h
 refine Zy ?_
 try simp only [Zi, Zf]
 refine Zg [1, 2] [true] ?_
 simp only [push_cast, seval, ↓reduceIte]
 refine Zh ?_
 refine Zr [1, 2, 17] (Zb Zc [] ?_)
 simp only [push_cast, seval, ↓reduceIte, Za, hN0, hN]
 refine Zs (t := (a0.kind == 10)) rfl (fun c10 => ?_) (fun c10 => ?_)
 ·replace h := Zx c10 h
  refine Zh ?_
  obtain ⟨y7, hy7, h⟩ := bC h
  refine Zb Zc [] ?_
  simp only [push_cast, seval, ↓reduceIte, Za, hN0, hN]
  refine (Zf7 hy7).then ?_
  simp only [push_cast, seval, ↓reduceIte, Za, hN0, hN]
  refine Zg [4] [false] ?_
  simp only [push_cast, seval, ↓reduceIte]
  refine Zu ?_
  try simp only [Zi, Zf]
  have h := Option.some.inj h; subst h
  refine Zl (.inr rfl) hU [.val (.int .u64 y7)] (by omega) ?_
  simp only [push_cast, seval, ↓reduceIte, Za, Try.results27, hN0, hN]
 replace h := Zw c10 h
 refine Zy ?_
 try simp only [Zi, Zf]
 refine Zg [1, 2] [true] ?_
 simp only [push_cast, seval, ↓reduceIte]
 refine Zh ?_
 obtain ⟨y9, hy9, h⟩ := bC h
 refine Zb Zc [] ?_
 simp only [push_cast, seval, ↓reduceIte, Za, hN0, hN]
 refine (J0 hy9).then ?_
 simp only [push_cast, seval, ↓reduceIte, Za, hN0, hN]
 refine Zg [5] [false] ?_
 simp only [push_cast, seval, ↓reduceIte]
 refine Zr [4] (Zb Zc [] ?_)
 simp only [push_cast, seval, ↓reduceIte, Za, hN0, hN]
 refine Zu ?_
 try simp only [Zi, Zf]
 have h := Option.some.inj h; subst h
 refine Zl (.inr rfl) hU [.val (.int .u64 y9.1)] (by omega) ?_
 simp only [push_cast, seval, ↓reduceIte, Za, Try.results27, hN0, hN]
theorem Zck {Xk : (Zt → Zd → Int → Option (S_api_Tree × Int × Zt))} (Zb7 : ∀ {a0 : Zt} {a1 : Zd} {a2 : Int} {r : (S_api_Tree × Int × Zt)} {O : Objs} {n : Nat} {i0 : Nat}, i0 < n → O i0 = some ⟨false, 112, 1, 1, [.val (.int .i64 a0.left)]⟩ → Xk a0 a1 a2 = some r → GTo Try.prog 68 [.ref i0 0, .agg (Zj a1), .val (.int .i64 a2)] O n (.tup [.agg (Zz r.1), .val (.int .i64 r.2.1)]) (Z4 (O.upd i0 (some ⟨false, 112, 1, 1, [.val (.int .i64 r.2.2.left)]⟩)) n []) (n + 0)) {a0 : Zt} {a1 : Zd} {a2 : Int} {r : (S_api_Tree × Int × Zt)} {O : Objs} {n : Nat} {i0 : Nat} (hi0 : i0 < n) (ho0 : O i0 = some ⟨false, 112, 1, 1, [.val (.int .i64 a0.left)]⟩) (h : Yw Xk a0 a1 a2 = some r) : GTo Try.prog 68 [.ref i0 0, .agg (Zj a1), .val (.int .i64 a2)] O n (.tup [.agg (Zz r.1), .val (.int .i64 r.2.1)]) (Z4 (O.upd i0 (some ⟨false, 112, 1, 1, [.val (.int .i64 r.2.2.left)]⟩)) n []) (n + 0) := by
 unfold Yw at h
 refine Ys Zc Try.call68 Try.func68 rfl (Nat.le_of_ble_eq_true rfl) (by omega) fun hU => ?_
 rw [show Z4 O n [] = Z4 (O.upd i0 (some ⟨false, 112, 1, 1, [.val (.int .i64 a0.left)]⟩)) n [] from by rw [Zj3 (show O i0 = _ from by exact ho0)]]
 have hk0 : ∀ k, i0 < n + k := fun k => by omega
 have hN0 : ∀ o, Objs.upd O i0 o n = none := fun o => Gk hU hi0 _ (Nat.le_refl _)
 have hN : ∀ o k, Objs.upd O i0 o (n + k) = none := fun o k => Gk hU hi0 _ (Nat.le_add_right _ _)
 show W _ _ _ _ ⟨89, [], [(0, .ref i0 0), (1, .agg (Zj a1)), (2, .val (.int .i64 a2))]⟩ (Z4 (O.upd i0 (some ⟨false, 112, 1, 1, [.val (.int .i64 a0.left)]⟩)) n []) _
 refine Zr [0, 2, 4, 6] (Zb Zc [] ?_)
 simp only [push_cast, seval, ↓reduceIte, Za, hi0, hk0, hN0, hN]
 refine Zh ?_
 obtain ⟨y2, hy2, h⟩ := bC h
 refine Zd7 Zc (by kernel_rfl) [false, false, false, false, false, false, false, false, false, true] [] (by kernel_rfl) ?_
 simp only [push_cast, seval, ↓reduceIte, Za, hi0, hk0, hN0, hN]
 refine PCall.of (Zkk hy2) ?_
 simp only [push_cast, seval, ↓reduceIte, Za, hi0, hk0, hN0, hN]
 refine Zg [0, 2, 4, 6] [true, true] ?_
 simp only [push_cast, seval, ↓reduceIte]
 refine Zh ?_
 obtain ⟨z4, hz4, h⟩ := bC h
 refine Qa (E' := ⟨89, [], [(0, .ref i0 0), (2, .val (.int .i64 a2)), (4, .ref n 0), (6, .ref (n + 1) 0), (35, .val (.bool z4))]⟩) (O' := (Z4 (O.upd i0 (some ⟨false, 112, 1, 1, [.val (.int .i64 (IntKind.i64.wrap (a0.left - y2)))]⟩)) n [some ⟨false, 27, 9, 1, (Zj a1)⟩, some ⟨false, 58, 3, 1, [.val (.int .i64 0), .val (.slice none 0 0), .val (.slice none 0 0)]⟩])) (n0 := (n + 2)) ?_ ?_
 ·rcases Bool.eq_false_or_eq_true (decide ((IntKind.i64.wrap (a0.left - y2)) < 0)) with c7 | c7
  ·replace hz4 := Zx c7 hz4
   refine Zb Zc [some false, some false, some false, some false, some false, some false] ?_
   simp only [push_cast, seval, ↓reduceIte, Za, c7, hi0, hk0, hN0, hN]
   have hz4 := Option.some.inj hz4; subst hz4
   refine And.intro rfl (Fit2.of (Yo hU rfl rfl ?_) (by omega))
   simp only [push_cast, seval, ↓reduceIte, Za, c7, hi0, hk0, hN0, hN]
  replace hz4 := Zw c7 hz4
  rcases Bool.eq_false_or_eq_true (a2 == 0) with c8 | c8
  ·replace hz4 := Zx c8 hz4
   try rw [c8] at c7
   obtain ⟨y6, hy6, hz4⟩ := bC hz4
   refine Zb Zc [some true, some true, some true, some true, some true, some true] ?_
   simp only [push_cast, seval, ↓reduceIte, Za, c7, c8, hi0, hk0, hN0, hN]
   refine (Zk9 hy6).then ?_
   simp only [push_cast, seval, ↓reduceIte, Za, c7, c8, hi0, hk0, hN0, hN]
   have hz4 := Option.some.inj hz4; subst hz4
   refine And.intro rfl (Fit2.of (Yo hU rfl rfl ?_) (by omega))
   simp only [push_cast, seval, ↓reduceIte, Za, c7, c8, hi0, hk0, hN0, hN]
  replace hz4 := Zw c8 hz4
  try rw [c8] at c7
  refine Zb Zc [some true, some true, some true, some false, some false, some true] ?_
  simp only [push_cast, seval, ↓reduceIte, Za, c7, c8, hi0, hk0, hN0, hN]
  have hz4 := Option.some.inj hz4; subst hz4
  refine And.intro rfl (Fit2.of (Yo hU rfl rfl ?_) (by omega))
  simp only [push_cast, seval, ↓reduceIte, Za, c7, c8, hi0, hk0, hN0, hN]
 refine Zs (t := z4) rfl (fun c28 => ?_) (fun c28 => ?_)
 ·replace h := Zx c28 h
  refine Zh ?_
  refine Zb Zc [] ?_
  simp only [push_cast, seval, ↓reduceIte, Za, hi0, hk0, hN0, hN]
  refine Zg [6, 7] [false, true] ?_
  simp only [push_cast, seval, ↓reduceIte]
  refine Zu ?_
  try simp only [Zi, Zf]
  have h := Option.some.inj h; subst h
  refine Uh (k := 0) (i := i0) (q1 := ⟨false, 112, 1, 1, [.val (.int .i64 (IntKind.i64.wrap (a0.left - y2)))]⟩) (L3 := [some ⟨false, 58, 3, 1, [.val (.int .i64 0), .val (.slice none 0 0), .val (.slice none 0 0)]⟩, none]) (E2 := (⟨89, [], [(6, .ref n 0), (7, .val (.int .i64 3))]⟩ : Env)) (n3 := (n + 2)) (.inr rfl) hU rfl [.agg [.val (.int .i64 0), .val (.slice none 0 0), .val (.slice none 0 0)], .val (.int .i64 3)] ?_ ?_
  ·refine Fit2.trans (E' := (⟨89, [], [(6, .ref (n + 1) 0), (7, .val (.int .i64 3))]⟩ : Env)) (O' := (Z4 (O.upd i0 (some ⟨false, 112, 1, 1, [.val (.int .i64 (IntKind.i64.wrap (a0.left - y2)))]⟩)) n [none, some ⟨false, 58, 3, 1, [.val (.int .i64 0), .val (.slice none 0 0), .val (.slice none 0 0)]⟩])) (n' := (n + 2)) (Fit2.of (Yo hU rfl rfl ?_) (by omega)) ?_
   ·simp only [push_cast, seval, ↓reduceIte, Za, hi0, hk0, hN0, hN]
   refine Vo (k := 2) (k' := 2) hU [1, 0] [1, 0] rfl rfl rfl rfl ⟨rfl, rfl⟩ ?_
   simp only [push_cast, seval, ↓reduceIte, Za, hi0, hk0, hN0, hN]
  simp only [push_cast, seval, ↓reduceIte, Za, Try.results68, hi0, hk0, hN0, hN]
 replace h := Zw c28 h
 refine Zy ?_
 try simp only [Zi, Zf]
 refine Zg [0, 2, 4, 6] [true, true] ?_
 simp only [push_cast, seval, ↓reduceIte]
 refine Zh ?_
 obtain ⟨y10, hy10, h⟩ := bC h
 refine Zb Zc [] ?_
 simp only [push_cast, seval, ↓reduceIte, Za, hi0, hk0, hN0, hN]
 refine (Y2 hy10).then ?_
 simp only [push_cast, seval, ↓reduceIte, Za, hi0, hk0, hN0, hN]
 refine Zg [0, 2, 4, 6, 8] [true, true, true] ?_
 simp only [push_cast, seval, ↓reduceIte]
 refine Zh ?_
 refine Zh ?_
 obtain ⟨y12, hy12, h⟩ := bC h
 refine Zb Zc [] ?_
 simp only [push_cast, seval, ↓reduceIte, Za, hi0, hk0, hN0, hN]
 refine (K7 hy12).then ?_
 simp only [push_cast, seval, ↓reduceIte, Za, hi0, hk0, hN0, hN]
 refine Zg [0, 2, 4, 6, 8, 41, 42] [true, true, true] ?_
 simp only [push_cast, seval, ↓reduceIte]
 refine Zg [0, 2, 4, 6, 8, 41, 42] [true, true, true] ?_
 simp only [push_cast, seval, ↓reduceIte]
 refine Znl (E' := (⟨89, [], [(0, .ref i0 0), (2, .val (.int .i64 a2)), (4, .ref n 0), (6, .ref (n + 1) 0), (8, .ref (n + 2) 0), (41, .val (.int .i64 y12)), (42, .val (.int .i64 0))]⟩ : Env)) (O' := (Z4 (O.upd i0 (some ⟨false, 112, 1, 1, [.val (.int .i64 (IntKind.i64.wrap (a0.left - y2)))]⟩)) n [some ⟨false, 27, 9, 1, (Zj a1)⟩, some ⟨false, 58, 3, 1, [.val (.int .i64 0), .val (.slice none 0 0), .val (.slice none 0 0)]⟩, some ⟨false, 58, 3, 1, [.val (.int .i64 y10), .row (n + 3) ([] : List Int).length, .val (.slice none 0 0)]⟩, some ⟨true, 31, 1, ([] : List Int).length, fl (eI .u64) ([] : List Int)⟩, none])) (n' := (n + 5)) ?_ ?_
 ·refine Fit2.trans (E' := (⟨89, [], [(0, .ref i0 0), (2, .val (.int .i64 a2)), (4, .ref n 0), (6, .ref (n + 1) 0), (8, .ref (n + 2) 0), (41, .val (.int .i64 y12)), (42, .val (.int .i64 0))]⟩ : Env)) (O' := (Z4 (O.upd i0 (some ⟨false, 112, 1, 1, [.val (.int .i64 (IntKind.i64.wrap (a0.left - y2)))]⟩)) n [some ⟨false, 27, 9, 1, (Zj a1)⟩, some ⟨false, 58, 3, 1, [.val (.int .i64 0), .val (.slice none 0 0), .val (.slice none 0 0)]⟩, some ⟨false, 58, 3, 1, [.val (.int .i64 y10), .val (.slice none 0 0), .val (.slice none 0 0)]⟩])) (n' := (n + 3)) (Fit2.of (Yo hU rfl rfl ?_) (by omega)) ?_
  ·simp only [push_cast, seval, ↓reduceIte, Za, hi0, hk0, hN0, hN]
  refine Fit2.trans (E' := (⟨89, [], [(0, .ref i0 0), (2, .val (.int .i64 a2)), (4, .ref n 0), (6, .ref (n + 1) 0), (8, .ref (n + 2) 0), (41, .val (.int .i64 y12)), (42, .val (.int .i64 0))]⟩ : Env)) (O' := (Z4 (O.upd i0 (some ⟨false, 112, 1, 1, [.val (.int .i64 (IntKind.i64.wrap (a0.left - y2)))]⟩)) n [some ⟨false, 27, 9, 1, (Zj a1)⟩, some ⟨false, 58, 3, 1, [.val (.int .i64 0), .val (.slice none 0 0), .val (.slice none 0 0)]⟩, some ⟨false, 58, 3, 1, [.val (.int .i64 y10), .row (n + 3) 0, .val (.slice none 0 0)]⟩, some ⟨true, 31, 1, 0, []⟩])) (n' := (n + 4)) ?_ ?_
  ·have ha := Zby (ba := n) (E := (⟨89, [], [(0, .ref i0 0), (2, .val (.int .i64 a2)), (4, .ref n 0), (6, .ref (n + 1) 0), (8, .ref (n + 2) 0), (41, .val (.int .i64 y12)), (42, .val (.int .i64 0))]⟩ : Env)) (O := (Z4 (O.upd i0 (some ⟨false, 112, 1, 1, [.val (.int .i64 (IntKind.i64.wrap (a0.left - y2)))]⟩)) n [some ⟨false, 27, 9, 1, [(gP Zn a1.a), .val (.int .i64 a1.kind), .val (.int .i64 a1.segment), .val (.int .i64 a1.at_), .val (.int .i64 a1.words), .val (.int .i64 a1.ptrs), .val (.int .i64 a1.count), .val (.int .i64 a1.code), .val (.int .i64 a1.index)]⟩, some ⟨false, 58, 3, 1, [.val (.int .i64 0), .val (.slice none 0 0), .val (.slice none 0 0)]⟩, some ⟨false, 58, 3, 1, [.val (.int .i64 y10), .val (.slice none 0 0), .val (.slice none 0 0)]⟩])) (n := (n + 3)) (p := (n + 2)) (k := 1) (q := ⟨false, 58, 3, 1, [.val (.int .i64 y10), .val (.slice none 0 0), .val (.slice none 0 0)]⟩) 31 1 (by simp only [V9, Zbn, List.getElem?_cons_zero, List.getElem?_cons_succ, Option.join_some, Xi]) rfl (by omega)
   simp only [U3, V6, Zax, Gm, List.set_cons_zero, List.set_cons_succ, List.cons_append, List.nil_append, List.length_cons, List.length_nil, Nat.zero_add, Nat.reduceAdd, Nat.reduceLT, Nat.add_assoc, Zdi, Zd4, hi0, hk0, hN0, hN] at ha
   exact ha
  refine Fit2.trans (E' := (⟨89, [], [(0, .ref i0 0), (2, .val (.int .i64 a2)), (4, .ref n 0), (6, .ref (n + 1) 0), (8, .ref (n + 2) 0), (41, .val (.int .i64 y12)), (42, .val (.int .i64 0))]⟩ : Env)) (O' := (Z4 (O.upd i0 (some ⟨false, 112, 1, 1, [.val (.int .i64 (IntKind.i64.wrap (a0.left - y2)))]⟩)) n [some ⟨false, 27, 9, 1, (Zj a1)⟩, some ⟨false, 58, 3, 1, [.val (.int .i64 0), .val (.slice none 0 0), .val (.slice none 0 0)]⟩, some ⟨false, 58, 3, 1, [.val (.int .i64 y10), .row (n + 3) ([] : List Int).length, .val (.slice none 0 0)]⟩, some ⟨true, 31, 1, ([] : List Int).length, fl (eI .u64) ([] : List Int)⟩])) (n' := (n + 4)) (Fit2.of (Yo hU rfl rfl ?_) (by omega)) ?_
  ·simp only [push_cast, seval, ↓reduceIte, Za, hi0, hk0, hN0, hN]
  refine Vo (k := 4) (k' := 5) hU [0, 1, 2, 3] [0, 1, 2, 3, 0] rfl rfl rfl rfl ⟨rfl, rfl⟩ ?_
  simp only [push_cast, seval, ↓reduceIte, Za, hi0, hk0, hN0, hN]
 obtain ⟨z16, hz16, h⟩ := bC h
 refine Ji (E' := ⟨89, [], [(0, .ref i0 0), (2, .val (.int .i64 a2)), (4, .ref n 0), (6, .ref (n + 1) 0), (8, .ref (n + 2) 0)]⟩) (O' := (Z4 (O.upd i0 (some ⟨false, 112, 1, 1, [.val (.int .i64 (IntKind.i64.wrap (a0.left - y2)))]⟩)) n [some ⟨false, 27, 9, 1, (Zj a1)⟩, some ⟨false, 58, 3, 1, [.val (.int .i64 0), .val (.slice none 0 0), .val (.slice none 0 0)]⟩, some ⟨false, 58, 3, 1, [.val (.int .i64 y10), .row (n + 3) z16.length, .val (.slice none 0 0)]⟩, some ⟨true, 31, 1, z16.length, fl (eI .u64) z16⟩, none])) (n0 := (n + 5)) ?_ ?_
 ·refine K4 hz16 (fun s0_ => ⟨89, [], [(0, .ref i0 0), (2, .val (.int .i64 a2)), (4, .ref n 0), (6, .ref (n + 1) 0), (8, .ref (n + 2) 0), (41, .val (.int .i64 y12)), (42, .val (.int .i64 s0_.1))]⟩) (fun s0_ => (Z4 (O.upd i0 (some ⟨false, 112, 1, 1, [.val (.int .i64 (IntKind.i64.wrap (a0.left - y2)))]⟩)) n [some ⟨false, 27, 9, 1, (Zj a1)⟩, some ⟨false, 58, 3, 1, [.val (.int .i64 0), .val (.slice none 0 0), .val (.slice none 0 0)]⟩, some ⟨false, 58, 3, 1, [.val (.int .i64 y10), .row (n + 3) s0_.2.length, .val (.slice none 0 0)]⟩, some ⟨true, 31, 1, s0_.2.length, fl (eI .u64) s0_.2⟩, none])) (fun z16 => JX 0 n (⟨89, [], [(0, .ref i0 0), (2, .val (.int .i64 a2)), (4, .ref n 0), (6, .ref (n + 1) 0), (8, .ref (n + 2) 0)]⟩ : Env) (Z4 (O.upd i0 (some ⟨false, 112, 1, 1, [.val (.int .i64 (IntKind.i64.wrap (a0.left - y2)))]⟩)) n [some ⟨false, 27, 9, 1, (Zj a1)⟩, some ⟨false, 58, 3, 1, [.val (.int .i64 0), .val (.slice none 0 0), .val (.slice none 0 0)]⟩, some ⟨false, 58, 3, 1, [.val (.int .i64 y10), .row (n + 3) z16.length, .val (.slice none 0 0)]⟩, some ⟨true, 31, 1, z16.length, fl (eI .u64) z16⟩, none]) (n + 5)) ?_
  intro s0_ x0_ hs0_
  unfold Yt at hs0_
  try dsimp only
  refine Zr [0, 2, 4, 6, 8, 41, 42, 43] (Zb Zc [] ?_)
  simp only [push_cast, seval, ↓reduceIte, Za, hi0, hk0, hN0, hN]
  refine Zh ?_
  refine Zs (t := (decide (s0_.1 < y12))) rfl (fun c15 => ?_) (fun c15 => ?_)
  ·replace hs0_ := Zx c15 hs0_
   refine Zy ?_
   try simp only [Zi, Zf]
   refine Zg [0, 2, 4, 6, 8, 41, 42] [true, true, true, true, false] ?_
   simp only [push_cast, seval, ↓reduceIte]
   refine Zh ?_
   refine Y8 ?_
   refine Zr [0, 2, 4, 6, 8, 9, 41, 42] (Zb Zc [] ?_)
   simp only [push_cast, seval, ↓reduceIte, Za, hi0, hk0, hN0, hN]
   obtain ⟨y13, hy13, hs0_⟩ := bC hs0_
   obtain ⟨l14, pl14, ql14, el14, hs0_⟩ := bA (k := 1) rfl hs0_
   refine Zcn Zc (by kernel_rfl) [.low, .low, .plain, .plain, .plain, .pass, .bar, .plain, .bar] (fun i => i < (n + 5)) [0, 1, 2, 3, 4, 5, 6, 7, 8] [.low, .low, .plain, .plain, .plain, .pass, .bar, .plain, .bar] [] (by kernel_rfl) rfl ?_
   simp only [push_cast, seval, ↓reduceIte, Za, pl14, ql14, el14, hi0, hk0, hN0, hN]
   repeat (with_reducible refine And.intro (by first | omega | exact Qh rfl | exact Xr | exact Kf rfl | exact Vd rfl rfl) ?_)
   first | refine PCallA.of (fun _ _ => Zb8 hy13) ?_ | refine PCall.of (Zb8 hy13) ?_
   simp only [push_cast, seval, ↓reduceIte, Za, pl14, ql14, el14, hi0, hk0, hN0, hN]
   repeat (with_reducible refine And.intro (by first | omega | exact Qh rfl | exact Xr | exact Kf rfl | exact Vd rfl rfl) ?_)
   refine Zks ⟨89, [], [(0, .ref i0 0), (2, .val (.int .i64 a2)), (4, .ref n 0), (6, .ref (n + 1) 0), (8, .ref (n + 2) 0), (41, .val (.int .i64 y12)), (42, .val (.int .i64 s0_.1))]⟩ (Z4 (O.upd i0 (some ⟨false, 112, 1, 1, [.val (.int .i64 (IntKind.i64.wrap (a0.left - y2)))]⟩)) n [some ⟨false, 27, 9, 1, (Zj a1)⟩, some ⟨false, 58, 3, 1, [.val (.int .i64 0), .val (.slice none 0 0), .val (.slice none 0 0)]⟩, some ⟨false, 58, 3, 1, [.val (.int .i64 y10), .row (n + 3) l14.length, .val (.slice none 0 0)]⟩, some ⟨true, 31, 1, l14.length, fl (eI .u64) l14⟩, none, none]) (Yo hU rfl rfl ?_) ?_
   ·simp only [push_cast, seval, ↓reduceIte, Za, pl14, ql14, el14, hi0, hk0, hN0, hN]
   refine Zb Zc [] ?_
   simp only [push_cast, seval, ↓reduceIte, Za, hi0, hk0, hN0, hN]
   have hs0_ := Option.some.inj hs0_; subst hs0_
   refine And.intro rfl (Fit2.of (Yo hU rfl rfl ?_) (by omega))
   simp only [push_cast, seval, ↓reduceIte, Za, hi0, hk0, hN0, hN]
  replace hs0_ := Zw c15 hs0_
  refine U1 ?_
  try simp only [Zi, Zf, ↓reduceIte, Nat.reduceEqDiff]
  have hs0_ := Option.some.inj hs0_; subst hs0_
  refine And.intro (fun h => by cases h) (And.intro rfl (Fit2.of (Yo hU rfl rfl ?_) (by omega)))
  simp only [push_cast, seval, ↓reduceIte, Za, hi0, hk0, hN0, hN]
 try simp only [Zi, Zf, ↓reduceIte, Nat.reduceEqDiff]
 refine Zg [0, 2, 4, 6, 8] [true, true, true, true, false] ?_
 simp only [push_cast, seval, ↓reduceIte]
 refine Zh ?_
 refine Zh ?_
 obtain ⟨y18, hy18, h⟩ := bC h
 refine Zb Zc [] ?_
 simp only [push_cast, seval, ↓reduceIte, Za, hi0, hk0, hN0, hN]
 refine (Y1 hy18).then ?_
 simp only [push_cast, seval, ↓reduceIte, Za, hi0, hk0, hN0, hN]
 refine Zg [0, 2, 4, 6, 8, 55, 56] [true, true, true, true, false] ?_
 simp only [push_cast, seval, ↓reduceIte]
 refine Zg [0, 2, 4, 6, 8, 55, 56] [true, true, true, true, false] ?_
 simp only [push_cast, seval, ↓reduceIte]
 refine Znl (E' := (⟨89, [], [(0, .ref i0 0), (2, .val (.int .i64 a2)), (4, .ref n 0), (6, .ref (n + 1) 0), (8, .ref (n + 2) 0), (55, .val (.int .i64 y18)), (56, .val (.int .i64 0))]⟩ : Env)) (O' := (Z4 (O.upd i0 (some ⟨false, 112, 1, 1, [.val (.int .i64 (IntKind.i64.wrap (a0.left - y2)))]⟩)) n [some ⟨false, 27, 9, 1, (Zj a1)⟩, some ⟨false, 58, 3, 1, [.val (.int .i64 0), .val (.slice none 0 0), .val (.slice none 0 0)]⟩, some ⟨false, 58, 3, 1, [.val (.int .i64 y10), .row (n + 3) z16.length, .row (n + 5) ([] : List S_api_Tree).length]⟩, some ⟨true, 31, 1, z16.length, fl (eI .u64) z16⟩, none, some ⟨true, 58, 3, ([] : List S_api_Tree).length, fl Zk ([] : List S_api_Tree)⟩, none])) (n' := (n + 7)) ?_ ?_
 ·refine Fit2.trans (E' := (⟨89, [], [(0, .ref i0 0), (2, .val (.int .i64 a2)), (4, .ref n 0), (6, .ref (n + 1) 0), (8, .ref (n + 2) 0), (55, .val (.int .i64 y18)), (56, .val (.int .i64 0))]⟩ : Env)) (O' := (Z4 (O.upd i0 (some ⟨false, 112, 1, 1, [.val (.int .i64 (IntKind.i64.wrap (a0.left - y2)))]⟩)) n [some ⟨false, 27, 9, 1, (Zj a1)⟩, some ⟨false, 58, 3, 1, [.val (.int .i64 0), .val (.slice none 0 0), .val (.slice none 0 0)]⟩, some ⟨false, 58, 3, 1, [.val (.int .i64 y10), .row (n + 3) z16.length, .val (.slice none 0 0)]⟩, some ⟨true, 31, 1, z16.length, fl (eI .u64) z16⟩, none])) (n' := (n + 5)) (Fit2.of (Yo hU rfl rfl ?_) (by omega)) ?_
  ·simp only [push_cast, seval, ↓reduceIte, Za, hi0, hk0, hN0, hN]
  refine Fit2.trans (E' := (⟨89, [], [(0, .ref i0 0), (2, .val (.int .i64 a2)), (4, .ref n 0), (6, .ref (n + 1) 0), (8, .ref (n + 2) 0), (55, .val (.int .i64 y18)), (56, .val (.int .i64 0))]⟩ : Env)) (O' := (Z4 (O.upd i0 (some ⟨false, 112, 1, 1, [.val (.int .i64 (IntKind.i64.wrap (a0.left - y2)))]⟩)) n [some ⟨false, 27, 9, 1, (Zj a1)⟩, some ⟨false, 58, 3, 1, [.val (.int .i64 0), .val (.slice none 0 0), .val (.slice none 0 0)]⟩, some ⟨false, 58, 3, 1, [.val (.int .i64 y10), .row (n + 3) z16.length, .row (n + 5) 0]⟩, some ⟨true, 31, 1, z16.length, fl (eI .u64) z16⟩, none, some ⟨true, 58, 3, 0, []⟩])) (n' := (n + 6)) ?_ ?_
  ·have ha := Zby (ba := n) (E := (⟨89, [], [(0, .ref i0 0), (2, .val (.int .i64 a2)), (4, .ref n 0), (6, .ref (n + 1) 0), (8, .ref (n + 2) 0), (55, .val (.int .i64 y18)), (56, .val (.int .i64 0))]⟩ : Env)) (O := (Z4 (O.upd i0 (some ⟨false, 112, 1, 1, [.val (.int .i64 (IntKind.i64.wrap (a0.left - y2)))]⟩)) n [some ⟨false, 27, 9, 1, [(gP Zn a1.a), .val (.int .i64 a1.kind), .val (.int .i64 a1.segment), .val (.int .i64 a1.at_), .val (.int .i64 a1.words), .val (.int .i64 a1.ptrs), .val (.int .i64 a1.count), .val (.int .i64 a1.code), .val (.int .i64 a1.index)]⟩, some ⟨false, 58, 3, 1, [.val (.int .i64 0), .val (.slice none 0 0), .val (.slice none 0 0)]⟩, some ⟨false, 58, 3, 1, [.val (.int .i64 y10), .row (n + 3) z16.length, .val (.slice none 0 0)]⟩, some ⟨true, 31, 1, z16.length, fl (eI .u64) z16⟩, none])) (n := (n + 5)) (p := (n + 2)) (k := 2) (q := ⟨false, 58, 3, 1, [.val (.int .i64 y10), .row (n + 3) z16.length, .val (.slice none 0 0)]⟩) 58 3 (by simp only [V9, Zbn, List.getElem?_cons_zero, List.getElem?_cons_succ, Option.join_some, Xi]) rfl (by omega)
   simp only [U3, V6, Zax, Gm, List.set_cons_zero, List.set_cons_succ, List.cons_append, List.nil_append, List.length_cons, List.length_nil, Nat.zero_add, Nat.reduceAdd, Nat.reduceLT, Nat.add_assoc, Zdi, Zd4, hi0, hk0, hN0, hN] at ha
   exact ha
  refine Fit2.trans (E' := (⟨89, [], [(0, .ref i0 0), (2, .val (.int .i64 a2)), (4, .ref n 0), (6, .ref (n + 1) 0), (8, .ref (n + 2) 0), (55, .val (.int .i64 y18)), (56, .val (.int .i64 0))]⟩ : Env)) (O' := (Z4 (O.upd i0 (some ⟨false, 112, 1, 1, [.val (.int .i64 (IntKind.i64.wrap (a0.left - y2)))]⟩)) n [some ⟨false, 27, 9, 1, (Zj a1)⟩, some ⟨false, 58, 3, 1, [.val (.int .i64 0), .val (.slice none 0 0), .val (.slice none 0 0)]⟩, some ⟨false, 58, 3, 1, [.val (.int .i64 y10), .row (n + 3) z16.length, .row (n + 5) ([] : List S_api_Tree).length]⟩, some ⟨true, 31, 1, z16.length, fl (eI .u64) z16⟩, none, some ⟨true, 58, 3, ([] : List S_api_Tree).length, fl Zk ([] : List S_api_Tree)⟩])) (n' := (n + 6)) (Fit2.of (Yo hU rfl rfl ?_) (by omega)) ?_
  ·simp only [push_cast, seval, ↓reduceIte, Za, hi0, hk0, hN0, hN]
  refine Vo (k := 6) (k' := 7) hU [0, 1, 2, 3, 6, 5] [0, 1, 2, 3, 0, 5, 0] rfl rfl rfl rfl ⟨rfl, rfl⟩ ?_
  simp only [push_cast, seval, ↓reduceIte, Za, hi0, hk0, hN0, hN]
 obtain ⟨z27, hz27, h⟩ := bC h
 refine Zhs (J := (Uq (fun z27 => JR n (⟨89, [], [(6, .ref (n + 1) 0), (7, .val (.int .i64 z27.1))]⟩ : Env) (Z4 (O.upd i0 (some ⟨false, 112, 1, 1, [.val (.int .i64 z27.2)]⟩)) n [none, some ⟨false, 58, 3, 1, [.val (.int .i64 0), .val (.slice none 0 0), .val (.slice none 0 0)]⟩, none, none, none]) (n + 5)) (fun z27 => JX 2 n (⟨89, [], [(6, .ref (n + 1) 0), (8, .ref (n + 2) 0)]⟩ : Env) (Z4 (O.upd i0 (some ⟨false, 112, 1, 1, [.val (.int .i64 z27.2)]⟩)) n [none, some ⟨false, 58, 3, 1, [.val (.int .i64 0), .val (.slice none 0 0), .val (.slice none 0 0)]⟩, some ⟨false, 58, 3, 1, [.val (.int .i64 y10), .row (n + 3) z16.length, .row (n + 5) z27.1.length]⟩, some ⟨true, 31, 1, z16.length, fl (eI .u64) z16⟩, none, some ⟨true, 58, 3, z27.1.length, fl Zk z27.1⟩, none]) (n + 7)))) (z := z27) ?_ fun hw => ?_
 ·refine K4 hz27 (fun s1_ => ⟨89, [], [(0, .ref i0 0), (2, .val (.int .i64 a2)), (4, .ref n 0), (6, .ref (n + 1) 0), (8, .ref (n + 2) 0), (55, .val (.int .i64 y18)), (56, .val (.int .i64 s1_.1))]⟩) (fun s1_ => (Z4 (O.upd i0 (some ⟨false, 112, 1, 1, [.val (.int .i64 s1_.2.2)]⟩)) n [some ⟨false, 27, 9, 1, (Zj a1)⟩, some ⟨false, 58, 3, 1, [.val (.int .i64 0), .val (.slice none 0 0), .val (.slice none 0 0)]⟩, some ⟨false, 58, 3, 1, [.val (.int .i64 y10), .row (n + 3) z16.length, .row (n + 5) s1_.2.1.length]⟩, some ⟨true, 31, 1, z16.length, fl (eI .u64) z16⟩, none, some ⟨true, 58, 3, s1_.2.1.length, fl Zk s1_.2.1⟩, none])) (Uq (fun z27 => JR n (⟨89, [], [(6, .ref (n + 1) 0), (7, .val (.int .i64 z27.1))]⟩ : Env) (Z4 (O.upd i0 (some ⟨false, 112, 1, 1, [.val (.int .i64 z27.2)]⟩)) n [none, some ⟨false, 58, 3, 1, [.val (.int .i64 0), .val (.slice none 0 0), .val (.slice none 0 0)]⟩, none, none, none]) (n + 5)) (fun z27 => JX 2 n (⟨89, [], [(6, .ref (n + 1) 0), (8, .ref (n + 2) 0)]⟩ : Env) (Z4 (O.upd i0 (some ⟨false, 112, 1, 1, [.val (.int .i64 z27.2)]⟩)) n [none, some ⟨false, 58, 3, 1, [.val (.int .i64 0), .val (.slice none 0 0), .val (.slice none 0 0)]⟩, some ⟨false, 58, 3, 1, [.val (.int .i64 y10), .row (n + 3) z16.length, .row (n + 5) z27.1.length]⟩, some ⟨true, 31, 1, z16.length, fl (eI .u64) z16⟩, none, some ⟨true, 58, 3, z27.1.length, fl Zk z27.1⟩, none]) (n + 7))) ?_
  intro s1_ x1_ hs1_
  unfold Yr at hs1_
  try dsimp only
  refine Zr [0, 2, 4, 6, 8, 55, 56, 57] (Zb Zc [] ?_)
  simp only [push_cast, seval, ↓reduceIte, Za, hi0, hk0, hN0, hN]
  refine Zh ?_
  refine Zs (t := (decide (s1_.1 < y18))) rfl (fun c26 => ?_) (fun c26 => ?_)
  ·replace hs1_ := Zx c26 hs1_
   refine Zy ?_
   try simp only [Zi, Zf]
   refine Zg [0, 2, 4, 6, 8, 55, 56] [true, true, true, true, false, true, false] ?_
   simp only [push_cast, seval, ↓reduceIte]
   refine Zh ?_
   refine Y8 ?_
   refine Zr [0, 2, 4, 6, 8, 10, 55, 56] (Zb Zc [] ?_)
   simp only [push_cast, seval, ↓reduceIte, Za, hi0, hk0, hN0, hN]
   refine Zh ?_
   obtain ⟨y20, hy20, hs1_⟩ := bC hs1_
   refine Zb Zc [] ?_
   simp only [push_cast, seval, ↓reduceIte, Za, hi0, hk0, hN0, hN]
   refine (Zad hy20).then ?_
   simp only [push_cast, seval, ↓reduceIte, Za, hi0, hk0, hN0, hN]
   refine Zg [0, 2, 4, 6, 8, 11, 12, 55, 56] [true, true, true, true, false, true, false, true] ?_
   simp only [push_cast, seval, ↓reduceIte]
   refine Zh ?_
   refine Zr [0, 2, 4, 6, 8, 11, 12, 55, 56, 66] (Zb Zc [] ?_)
   simp only [push_cast, seval, ↓reduceIte, Za, hi0, hk0, hN0, hN]
   refine Zs (t := (y20.2 != 0)) rfl (fun c25 => ?_) (fun c25 => ?_)
   ·replace hs1_ := Zx c25 hs1_
    refine Zh ?_
    refine Zb Zc [] ?_
    simp only [push_cast, seval, ↓reduceIte, Za, hi0, hk0, hN0, hN]
    refine Zg [6, 7] [false, true, false, false, false, false, false, false] ?_
    simp only [push_cast, seval, ↓reduceIte]
    refine Zu ?_
    try simp only [Zi, Zf]
    have hs1_ := Option.some.inj hs1_; subst hs1_
    refine And.intro (fun h => by cases h) (And.intro rfl (Fit2.of (Yo hU rfl rfl ?_) (by omega)))
    simp only [push_cast, seval, ↓reduceIte, Za, hi0, hk0, hN0, hN]
   replace hs1_ := Zw c25 hs1_
   refine Zy ?_
   try simp only [Zi, Zf]
   refine Zg [0, 2, 4, 6, 8, 11, 55, 56] [true, true, true, true, false, true, false, true] ?_
   simp only [push_cast, seval, ↓reduceIte]
   refine Zh ?_
   obtain ⟨y22, hy22, hs1_⟩ := bC hs1_
   refine Zb Zc [] ?_
   simp only [push_cast, seval, ↓reduceIte, Za, hi0, hk0, hN0, hN]
   refine (Zb7 (i0 := i0) (by omega) (by simp only [push_cast, seval, ↓reduceIte, Za, Zbg, hi0, hk0, hN0, hN] <;> rfl) hy22).then ?_
   simp only [push_cast, seval, ↓reduceIte, Za, hi0, hk0, hN0, hN]
   refine Zg [0, 2, 4, 6, 8, 12, 13, 55, 56] [true, true, true, true, false, true, false, false, true] ?_
   simp only [push_cast, seval, ↓reduceIte]
   refine Zh ?_
   refine Zr [0, 2, 4, 6, 8, 12, 13, 55, 56, 78] (Zb Zc [] ?_)
   simp only [push_cast, seval, ↓reduceIte, Za, hi0, hk0, hN0, hN]
   refine Zs (t := (y22.2.1 != 0)) rfl (fun c24 => ?_) (fun c24 => ?_)
   ·replace hs1_ := Zx c24 hs1_
    refine Zh ?_
    refine Zb Zc [] ?_
    simp only [push_cast, seval, ↓reduceIte, Za, hi0, hk0, hN0, hN]
    refine Zg [6, 7] [false, true, false, false, false, false, false, false, false] ?_
    simp only [push_cast, seval, ↓reduceIte]
    refine Zu ?_
    try simp only [Zi, Zf]
    have hs1_ := Option.some.inj hs1_; subst hs1_
    refine And.intro (fun h => by cases h) (And.intro rfl (Fit2.of (Yo hU rfl rfl ?_) (by omega)))
    simp only [push_cast, seval, ↓reduceIte, Za, hi0, hk0, hN0, hN]
   replace hs1_ := Zw c24 hs1_
   refine Zy ?_
   try simp only [Zi, Zf]
   refine Zg [0, 2, 4, 6, 8, 13, 55, 56] [true, true, true, true, false, true, false, false, true] ?_
   simp only [push_cast, seval, ↓reduceIte]
   obtain ⟨l23, pl23, ql23, el23, hs1_⟩ := bA (k := 1) rfl hs1_
   refine Zb Zc [] ?_
   simp only [push_cast, seval, ↓reduceIte, Za, pl23, ql23, el23, hi0, hk0, hN0, hN]
   refine Zks ⟨89, [], [(0, .ref i0 0), (2, .val (.int .i64 a2)), (4, .ref n 0), (6, .ref (n + 1) 0), (8, .ref (n + 2) 0), (55, .val (.int .i64 y18)), (56, .val (.int .i64 s1_.1))]⟩ (Z4 (O.upd i0 (some ⟨false, 112, 1, 1, [.val (.int .i64 y22.2.2.left)]⟩)) n [some ⟨false, 27, 9, 1, (Zj a1)⟩, some ⟨false, 58, 3, 1, [.val (.int .i64 0), .val (.slice none 0 0), .val (.slice none 0 0)]⟩, some ⟨false, 58, 3, 1, [.val (.int .i64 y10), .row (n + 3) z16.length, .row (n + 5) l23.length]⟩, some ⟨true, 31, 1, z16.length, fl (eI .u64) z16⟩, none, some ⟨true, 58, 3, l23.length, fl Zk l23⟩, none, none, none, none]) (Yo hU rfl rfl ?_) ?_
   ·simp only [push_cast, seval, ↓reduceIte, Za, pl23, ql23, el23, hi0, hk0, hN0, hN]
   refine Zb Zc [] ?_
   simp only [push_cast, seval, ↓reduceIte, Za, hi0, hk0, hN0, hN]
   have hs1_ := Option.some.inj hs1_; subst hs1_
   refine And.intro rfl (Fit2.of (Yo hU rfl rfl ?_) (by omega))
   simp only [push_cast, seval, ↓reduceIte, Za, hi0, hk0, hN0, hN]
  replace hs1_ := Zw c26 hs1_
  refine U1 ?_
  try simp only [Zi, Zf, ↓reduceIte, Nat.reduceEqDiff]
  have hs1_ := Option.some.inj hs1_; subst hs1_
  refine And.intro (fun h => by cases h) (And.intro rfl (Fit2.of (Yo hU rfl rfl ?_) (by omega)))
  simp only [push_cast, seval, ↓reduceIte, Za, hi0, hk0, hN0, hN]
 rcases z27 with z27 | z27
 ·dsimp only [Uq] at hw h
  refine Zbx hw ?_
  try simp only [Zi, Zf, ↓reduceIte, Nat.reduceEqDiff]
  have h := Option.some.inj h; subst h
  refine Uh (k := 0) (i := i0) (q1 := ⟨false, 112, 1, 1, [.val (.int .i64 z27.2)]⟩) (L3 := [some ⟨false, 58, 3, 1, [.val (.int .i64 0), .val (.slice none 0 0), .val (.slice none 0 0)]⟩, none]) (E2 := (⟨89, [], [(6, .ref n 0), (7, .val (.int .i64 z27.1))]⟩ : Env)) (n3 := (n + 2)) (.inr rfl) hU rfl [.agg [.val (.int .i64 0), .val (.slice none 0 0), .val (.slice none 0 0)], .val (.int .i64 z27.1)] ?_ ?_
  ·refine Fit2.trans (E' := (⟨89, [], [(6, .ref (n + 1) 0), (7, .val (.int .i64 z27.1))]⟩ : Env)) (O' := (Z4 (O.upd i0 (some ⟨false, 112, 1, 1, [.val (.int .i64 z27.2)]⟩)) n [none, some ⟨false, 58, 3, 1, [.val (.int .i64 0), .val (.slice none 0 0), .val (.slice none 0 0)]⟩, none, none, none])) (n' := (n + 5)) (Fit2.of (Yo hU rfl rfl ?_) (by omega)) ?_
   ·simp only [push_cast, seval, ↓reduceIte, Za, hi0, hk0, hN0, hN]
   refine Vo (k := 5) (k' := 2) hU [1, 0, 1, 1, 1] [1, 0] rfl rfl rfl rfl ⟨rfl, rfl⟩ ?_
   simp only [push_cast, seval, ↓reduceIte, Za, hi0, hk0, hN0, hN]
  simp only [push_cast, seval, ↓reduceIte, Za, Try.results68, hi0, hk0, hN0, hN]
 dsimp only [Uq] at hw h
 refine Ji hw ?_
 try simp only [Zi, Zf, ↓reduceIte, Nat.reduceEqDiff]
 refine Zg [6, 8] [false, true, true, true, false, true, false] ?_
 simp only [push_cast, seval, ↓reduceIte]
 refine Zh ?_
 refine Zb Zc [] ?_
 simp only [push_cast, seval, ↓reduceIte, Za, hi0, hk0, hN0, hN]
 refine Zg [6, 7] [false, true, false, true, false, true, false] ?_
 simp only [push_cast, seval, ↓reduceIte]
 refine Zu ?_
 try simp only [Zi, Zf]
 have h := Option.some.inj h; subst h
 refine Uh (k := 0) (i := i0) (q1 := ⟨false, 112, 1, 1, [.val (.int .i64 z27.2)]⟩) (L3 := [some ⟨false, 58, 3, 1, [.val (.int .i64 y10), .row (n + 1) z16.length, .row (n + 2) z27.1.length]⟩, some ⟨true, 31, 1, z16.length, fl (eI .u64) z16⟩, some ⟨true, 58, 3, z27.1.length, fl Zk z27.1⟩, none]) (E2 := (⟨89, [], [(6, .ref n 0), (7, .val (.int .i64 0))]⟩ : Env)) (n3 := (n + 4)) (.inr rfl) hU rfl [.agg [.val (.int .i64 y10), .row (n + 1) z16.length, .row (n + 2) z27.1.length], .val (.int .i64 0)] ?_ ?_
 ·refine Fit2.trans (E' := (⟨89, [], [(6, .ref (n + 1) 0), (7, .val (.int .i64 0))]⟩ : Env)) (O' := (Z4 (O.upd i0 (some ⟨false, 112, 1, 1, [.val (.int .i64 z27.2)]⟩)) n [none, some ⟨false, 58, 3, 1, [.val (.int .i64 y10), .row (n + 3) z16.length, .row (n + 5) z27.1.length]⟩, none, some ⟨true, 31, 1, z16.length, fl (eI .u64) z16⟩, none, some ⟨true, 58, 3, z27.1.length, fl Zk z27.1⟩, none])) (n' := (n + 7)) (Fit2.of (Yo hU rfl rfl ?_) (by omega)) ?_
  ·simp only [push_cast, seval, ↓reduceIte, Za, hi0, hk0, hN0, hN]
  refine Vo (k := 7) (k' := 4) hU [3, 0, 3, 1, 3, 2, 3] [1, 3, 5, 0] rfl rfl rfl rfl ⟨rfl, rfl⟩ ?_
  simp only [push_cast, seval, ↓reduceIte, Za, hi0, hk0, hN0, hN]
 simp only [push_cast, seval, ↓reduceIte, Za, Try.results68, hi0, hk0, hN0, hN]
theorem Zbq : ∀ k, (∀ {a0 : Zt} {a1 : Zd} {a2 : Int} {r : (S_api_Tree × Int × Zt)} {O : Objs} {n : Nat} {i0 : Nat}, i0 < n → O i0 = some ⟨false, 112, 1, 1, [.val (.int .i64 a0.left)]⟩ → (Ya k) a0 a1 a2 = some r → GTo Try.prog 68 [.ref i0 0, .agg (Zj a1), .val (.int .i64 a2)] O n (.tup [.agg (Zz r.1), .val (.int .i64 r.2.1)]) (Z4 (O.upd i0 (some ⟨false, 112, 1, 1, [.val (.int .i64 r.2.2.left)]⟩)) n []) (n + 0)) := fun k => by
 induction k with
 | zero => exact @fun a0 a1 a2 r O n i0 hi0 ho0 h => (nomatch (show (none : Option _) = some _ from h))
 | succ k ih => exact @fun a0 a1 a2 r O n i0 hi0 ho0 h => Zck (ih) hi0 ho0 h
theorem Zdg {a0 : Zt} {a1 : Zd} {a2 : Int} {r : (S_api_Tree × Int × Zt)} {O : Objs} {n : Nat} {i0 : Nat} (hi0 : i0 < n) (ho0 : O i0 = some ⟨false, 112, 1, 1, [.val (.int .i64 a0.left)]⟩) (h : Vk a0 a1 a2 = some r) : GTo Try.prog 68 [.ref i0 0, .agg (Zj a1), .val (.int .i64 a2)] O n (.tup [.agg (Zz r.1), .val (.int .i64 r.2.1)]) (Z4 (O.upd i0 (some ⟨false, 112, 1, 1, [.val (.int .i64 r.2.2.left)]⟩)) n []) (n + 0) := by
 obtain ⟨k, hk⟩ := Zf1 h
 exact (Zbq k) hi0 ho0 hk
theorem Zfj {a0 : Zd} {r : (S_api_Tree × Int)} {O : Objs} {n : Nat} (h : Vj a0 = some r) : GTo Try.prog 43 [.agg (Zj a0)] O n (.tup [.agg (Zz r.1), .val (.int .i64 r.2)]) O n := by
 unfold Vj at h
 refine Ys Zc Try.call43 Try.func43 rfl (Nat.le_of_ble_eq_true rfl) (Nat.le_refl _) fun hU => ?_
 have hN0 : O n = none := hU.fresh _ (Nat.le_refl _)
 have hN : ∀ k, O (n + k) = none := fun k => hU.fresh _ (Nat.le_add_right _ _)
 show W _ _ _ _ ⟨10, [], [(0, .agg (Zj a0))]⟩ (Z4 O n []) _
 refine Zr [1, 2] (Zb Zc [] ?_)
 simp only [push_cast, seval, ↓reduceIte, Za, hN0, hN]
 refine Zh ?_
 refine Zb Zc [] ?_
 simp only [push_cast, seval, ↓reduceIte, Za, hN0, hN]
 refine Zg [1, 2, 4] [true, true, true] ?_
 simp only [push_cast, seval, ↓reduceIte]
 refine Zh ?_
 obtain ⟨y2, hy2, h⟩ := bC h
 refine Zb Zc [] ?_
 simp only [push_cast, seval, ↓reduceIte, Za, hN0, hN]
 refine (Zdg (i0 := (n + 2)) (by omega) (by simp only [push_cast, seval, ↓reduceIte, Za, Zbg, hN0, hN] <;> rfl) hy2).then ?_
 simp only [push_cast, seval, ↓reduceIte, Za, hN0, hN]
 refine Zg [2, 3] [false, true, false] ?_
 simp only [push_cast, seval, ↓reduceIte]
 refine Zu ?_
 try simp only [Zi, Zf]
 have h := Option.some.inj h; subst h
 refine Zl (.inr rfl) hU [.agg (Zz y2.1), .val (.int .i64 y2.2.1)] (by omega) ?_
 simp only [push_cast, seval, ↓reduceIte, Za, Try.results43, hN0, hN]
theorem Zi1 {a0 : (List Int)} {r : (List Int)} {O : Objs} {n : Nat} (h : Vh a0 = some r) : GTo Try.prog 88 [.sl a0.length (fl (eI .u64) a0)] O n (.sl r.length (fl (eI .u64) r)) O n := by
 unfold Vh at h
 refine Ys Zc Try.call88 Try.func88 rfl (Nat.le_of_ble_eq_true rfl) (Nat.le_refl _) fun hU => ?_
 have hN0 : O n = none := hU.fresh _ (Nat.le_refl _)
 have hN : ∀ k, O (n + k) = none := fun k => hU.fresh _ (Nat.le_add_right _ _)
 show W _ _ _ _ ⟨22, [], [(0, .sl a0.length (fl (eI .u64) a0))]⟩ (Z4 O n []) _
 refine Zr [0] (Zb Zc [] ?_)
 simp only [push_cast, seval, ↓reduceIte, Za, hN0, hN]
 refine Zr [0, 3] (Zb Zc [] ?_)
 simp only [push_cast, seval, ↓reduceIte, Za, hN0, hN]
 refine Zh ?_
 refine Zg [0, 3] [] ?_
 simp only [push_cast, seval, ↓reduceIte]
 obtain ⟨z7, hz7, h⟩ := bC h
 refine Ji (E' := ⟨22, [], [(0, .sl a0.length (fl (eI .u64) a0)), (3, .val (.int .i64 z7))]⟩) (O' := (Z4 O n [])) (n0 := n) ?_ ?_
 ·refine K4 hz7 (fun s0_ => ⟨22, [], [(0, .sl a0.length (fl (eI .u64) a0)), (3, .val (.int .i64 s0_))]⟩) (fun s0_ => (Z4 O n [])) (fun z7 => JX 0 n (⟨22, [], [(0, .sl a0.length (fl (eI .u64) a0)), (3, .val (.int .i64 z7))]⟩ : Env) (Z4 O n []) n) ?_
  intro s0_ x0_ hs0_
  unfold Jm at hs0_
  try dsimp only
  refine Zh ?_
  obtain ⟨z2, hz2, hs0_⟩ := bC hs0_
  refine Qa (E' := ⟨22, [], [(0, .sl a0.length (fl (eI .u64) a0)), (3, .val (.int .i64 s0_)), (15, .val (.bool z2))]⟩) (O' := (Z4 O n [])) (n0 := n) ?_ ?_
  ·rcases Bool.eq_false_or_eq_true (decide (0 < s0_)) with c5 | c5
   ·replace hz2 := Zx c5 hz2
    obtain ⟨x4, hx4, ax4, bx4, cx4, hz2⟩ := bE (f := (eI .u64)) U9 (fun _ => rfl) (by decide) hz2
    refine Zb Zc [some true, some true, some true, some true, some true, some true] ?_
    simp only [push_cast, Nat.reduceAdd, Nat.reduceSub, Nat.reduceMul, Nat.reduceLeDiff, Nat.reduceLT, Nat.reduceEqDiff, ↓reduceIte, reduceCtorEq, Int.reduceBEq, Int.reduceBNe, Nat.reduceBEq, Int.reduceLE, Int.reduceLT, Int.reduceEq, Int.reduceNe, Int.reduceNeg, Nat.reduceDiv, Nat.reduceMod, Nat.reducePow, Za, c5, ax4, bx4, cx4, hN0, hN]
    have hz2 := Option.some.inj hz2; subst hz2
    refine And.intro rfl (Fit2.of (Zv hU rfl rfl ?_) (by omega))
    simp only [push_cast, Nat.reduceAdd, Nat.reduceSub, Nat.reduceMul, Nat.reduceLeDiff, Nat.reduceLT, Nat.reduceEqDiff, ↓reduceIte, reduceCtorEq, Int.reduceBEq, Int.reduceBNe, Nat.reduceBEq, Int.reduceLE, Int.reduceLT, Int.reduceEq, Int.reduceNe, Int.reduceNeg, Nat.reduceDiv, Nat.reduceMod, Nat.reducePow, Za, c5, ax4, bx4, cx4, hN0, hN]
   replace hz2 := Zw c5 hz2
   refine Zb Zc [some false, some false, some false, some false, some false, some false] ?_
   simp only [push_cast, seval, ↓reduceIte, Za, c5, hN0, hN]
   have hz2 := Option.some.inj hz2; subst hz2
   refine And.intro rfl (Fit2.of (Zv hU rfl rfl ?_) (by omega))
   simp only [push_cast, seval, ↓reduceIte, Za, c5, hN0, hN]
  refine Zs (t := z2) rfl (fun c6 => ?_) (fun c6 => ?_)
  ·replace hs0_ := Zx c6 hs0_
   refine Zy ?_
   try simp only [Zi, Zf]
   refine Zg [0, 3] [] ?_
   simp only [push_cast, seval, ↓reduceIte]
   refine Y8 ?_
   refine Zb Zc [] ?_
   simp only [push_cast, seval, ↓reduceIte, Za, hN0, hN]
   have hs0_ := Option.some.inj hs0_; subst hs0_
   refine And.intro rfl (Fit2.of (Zv hU rfl rfl ?_) (by omega))
   simp only [push_cast, seval, ↓reduceIte, Za, hN0, hN]
  replace hs0_ := Zw c6 hs0_
  refine U1 ?_
  try simp only [Zi, Zf, ↓reduceIte, Nat.reduceEqDiff]
  have hs0_ := Option.some.inj hs0_; subst hs0_
  refine And.intro (fun h => by cases h) (And.intro rfl (Fit2.of (Zv hU rfl rfl ?_) (by omega)))
  simp only [push_cast, seval, ↓reduceIte, Za, hN0, hN]
 try simp only [Zi, Zf, ↓reduceIte, Nat.reduceEqDiff]
 refine Zg [0, 3] [] ?_
 simp only [push_cast, seval, ↓reduceIte]
 obtain ⟨l9, al9, bl9, cl9, gl9, h⟩ := bS3 (lo := none) (hi := (.i64, z7)) (f := (eI .u64)) rfl rfl Zc9 U9 (fun _ => rfl) h
 refine Zr [2] (Zb Zc [] ?_)
 simp only [push_cast, seval, ↓reduceIte, Za, al9, bl9, cl9, gl9, hN0, hN]
 refine Zu ?_
 try simp only [Zi, Zf]
 have h := Option.some.inj h; subst h
 refine Zl (.inr rfl) hU [.sl l9.length (fl (eI .u64) l9)] (by omega) ?_
 simp only [push_cast, seval, ↓reduceIte, Za, Try.results88, hN0, hN]
theorem Zkj {a0 : (List S_api_Tree)} {r : (List S_api_Tree)} {O : Objs} {n : Nat} (h : V3 a0 = some r) : GTo Try.prog 89 [.sl a0.length (fl Zk a0)] O n (.sl r.length (fl Zk r)) O n := by
 unfold V3 at h
 refine Ys Zc Try.call89 Try.func89 rfl (Nat.le_of_ble_eq_true rfl) (Nat.le_refl _) fun hU => ?_
 have hN0 : O n = none := hU.fresh _ (Nat.le_refl _)
 have hN : ∀ k, O (n + k) = none := fun k => hU.fresh _ (Nat.le_add_right _ _)
 show W _ _ _ _ ⟨23, [], [(0, .sl a0.length (fl Zk a0))]⟩ (Z4 O n []) _
 refine Zr [0] (Zb Zc [] ?_)
 simp only [push_cast, seval, ↓reduceIte, Za, hN0, hN]
 refine Zr [0, 3] (Zb Zc [] ?_)
 simp only [push_cast, seval, ↓reduceIte, Za, hN0, hN]
 refine Zh ?_
 refine Zg [0, 3] [] ?_
 simp only [push_cast, seval, ↓reduceIte]
 obtain ⟨z10, hz10, h⟩ := bC h
 refine Ji (E' := ⟨23, [], [(0, .sl a0.length (fl Zk a0)), (3, .val (.int .i64 z10))]⟩) (O' := (Z4 O n [])) (n0 := n) ?_ ?_
 ·refine K4 hz10 (fun s0_ => ⟨23, [], [(0, .sl a0.length (fl Zk a0)), (3, .val (.int .i64 s0_))]⟩) (fun s0_ => (Z4 O n [])) (fun z10 => JX 0 n (⟨23, [], [(0, .sl a0.length (fl Zk a0)), (3, .val (.int .i64 z10))]⟩ : Env) (Z4 O n []) n) ?_
  intro s0_ x0_ hs0_
  unfold Jz at hs0_
  try dsimp only
  refine Zh ?_
  obtain ⟨z3, hz3, hs0_⟩ := bC hs0_
  refine Qa (E' := ⟨23, [], [(0, .sl a0.length (fl Zk a0)), (3, .val (.int .i64 s0_)), (16, .val (.bool z3))]⟩) (O' := (Z4 O n [])) (n0 := n) ?_ ?_
  ·rcases Bool.eq_false_or_eq_true (decide (0 < s0_)) with c8 | c8
   ·replace hz3 := Zx c8 hz3
    obtain ⟨x6, hx6, ax6, bx6, cx6, hz3⟩ := bE (f := Zk) Zhr (fun _ => rfl) (by decide) hz3
    have g7 := Ztr (f := Zk) (sz := 3) Zt9 (fun _ => rfl) (by decide) (by decide) hx6
    refine Zb Zc [some true, some true, some true, some true, some true, some true, some true] ?_
    simp only [push_cast, Nat.reduceAdd, Nat.reduceSub, Nat.reduceMul, Nat.reduceLeDiff, Nat.reduceLT, Nat.reduceEqDiff, ↓reduceIte, reduceCtorEq, Int.reduceBEq, Int.reduceBNe, Nat.reduceBEq, Int.reduceLE, Int.reduceLT, Int.reduceEq, Int.reduceNe, Int.reduceNeg, Nat.reduceDiv, Nat.reduceMod, Nat.reducePow, Za, c8, ax6, bx6, cx6, g7, hN0, hN]
    have hz3 := Option.some.inj hz3; subst hz3
    refine And.intro rfl (Fit2.of (Zv hU rfl rfl ?_) (by omega))
    simp only [push_cast, Nat.reduceAdd, Nat.reduceSub, Nat.reduceMul, Nat.reduceLeDiff, Nat.reduceLT, Nat.reduceEqDiff, ↓reduceIte, reduceCtorEq, Int.reduceBEq, Int.reduceBNe, Nat.reduceBEq, Int.reduceLE, Int.reduceLT, Int.reduceEq, Int.reduceNe, Int.reduceNeg, Nat.reduceDiv, Nat.reduceMod, Nat.reducePow, Za, c8, ax6, bx6, cx6, g7, hN0, hN]
   replace hz3 := Zw c8 hz3
   refine Zb Zc [some false, some false, some false, some false, some false, some false, some false] ?_
   simp only [push_cast, seval, ↓reduceIte, Za, c8, hN0, hN]
   have hz3 := Option.some.inj hz3; subst hz3
   refine And.intro rfl (Fit2.of (Zv hU rfl rfl ?_) (by omega))
   simp only [push_cast, seval, ↓reduceIte, Za, c8, hN0, hN]
  refine Zs (t := z3) rfl (fun c9 => ?_) (fun c9 => ?_)
  ·replace hs0_ := Zx c9 hs0_
   refine Zy ?_
   try simp only [Zi, Zf]
   refine Zg [0, 3] [] ?_
   simp only [push_cast, seval, ↓reduceIte]
   refine Y8 ?_
   refine Zb Zc [] ?_
   simp only [push_cast, seval, ↓reduceIte, Za, hN0, hN]
   have hs0_ := Option.some.inj hs0_; subst hs0_
   refine And.intro rfl (Fit2.of (Zv hU rfl rfl ?_) (by omega))
   simp only [push_cast, seval, ↓reduceIte, Za, hN0, hN]
  replace hs0_ := Zw c9 hs0_
  refine U1 ?_
  try simp only [Zi, Zf, ↓reduceIte, Nat.reduceEqDiff]
  have hs0_ := Option.some.inj hs0_; subst hs0_
  refine And.intro (fun h => by cases h) (And.intro rfl (Fit2.of (Zv hU rfl rfl ?_) (by omega)))
  simp only [push_cast, seval, ↓reduceIte, Za, hN0, hN]
 try simp only [Zi, Zf, ↓reduceIte, Nat.reduceEqDiff]
 refine Zg [0, 3] [] ?_
 simp only [push_cast, seval, ↓reduceIte]
 obtain ⟨l12, al12, bl12, cl12, gl12, h⟩ := bS3 (lo := none) (hi := (.i64, z10)) (f := Zk) rfl rfl Zj2 Zhr (fun _ => rfl) h
 refine Zr [2] (Zb Zc [] ?_)
 simp only [push_cast, seval, ↓reduceIte, Za, al12, bl12, cl12, gl12, hN0, hN]
 refine Zu ?_
 try simp only [Zi, Zf]
 have h := Option.some.inj h; subst h
 refine Zl (.inr rfl) hU [.sl l12.length (fl Zk l12)] (by omega) ?_
 simp only [push_cast, seval, ↓reduceIte, Za, Try.results89, hN0, hN]
theorem Zox {Gj : (S_api_Tree → Option S_api_Tree)} (Zn9 : ∀ {a0 : S_api_Tree} {r : S_api_Tree} {O : Objs} {n : Nat}, Gj a0 = some r → GTo Try.prog 66 [.agg (Zz a0)] O n (.agg (Zz r)) O n) {a0 : S_api_Tree} {r : S_api_Tree} {O : Objs} {n : Nat} (h : Za6 Gj a0 = some r) : GTo Try.prog 66 [.agg (Zz a0)] O n (.agg (Zz r)) O n := by
 unfold Za6 at h
 refine Ys Zc Try.call66 Try.func66 rfl (Nat.le_of_ble_eq_true rfl) (Nat.le_refl _) fun hU => ?_
 have hN0 : O n = none := hU.fresh _ (Nat.le_refl _)
 have hN : ∀ k, O (n + k) = none := fun k => hU.fresh _ (Nat.le_add_right _ _)
 show W _ _ _ _ ⟨49, [], [(0, .agg (Zz a0))]⟩ (Z4 O n []) _
 refine Zr [1, 2] (Zb Zc [] ?_)
 simp only [push_cast, seval, ↓reduceIte, Za, hN0, hN]
 refine Zh ?_
 refine Zr [1, 2, 10] (Zb Zc [] ?_)
 simp only [push_cast, seval, ↓reduceIte, Za, hN0, hN]
 refine Zs (t := (a0.Kind == 0)) rfl (fun c15 => ?_) (fun c15 => ?_)
 ·replace h := Zx c15 h
  refine Zh ?_
  refine Zb Zc [] ?_
  simp only [push_cast, seval, ↓reduceIte, Za, hN0, hN]
  refine Zg [2] [false, true] ?_
  simp only [push_cast, seval, ↓reduceIte]
  refine Zu ?_
  try simp only [Zi, Zf]
  have h := Option.some.inj h; subst h
  refine Zl (.inr rfl) hU [.agg [.val (.int .i64 0), .val (.slice none 0 0), .val (.slice none 0 0)]] (by omega) ?_
  simp only [push_cast, seval, ↓reduceIte, Za, Try.results66, hN0, hN]
 replace h := Zw c15 h
 refine Zy ?_
 try simp only [Zi, Zf]
 refine Zg [1, 2] [true, true] ?_
 simp only [push_cast, seval, ↓reduceIte]
 refine Zr [1, 2, 3, 4] (J4 Zc (by kernel_rfl) [] (by kernel_rfl) ?_)
 simp only [push_cast, seval, ↓reduceIte, Za, hN0, hN]
 obtain ⟨z1, hz1, h⟩ := bC h
 refine Qa (E' := ⟨49, [], [(1, .ref n 0), (2, .ref (n + 1) 0), (3, .sl z1.1.length (fl (eI .u64) z1.1)), (4, .sl z1.2.length (fl Zk z1.2))]⟩) (O' := (Z4 O n [some ⟨false, 58, 3, 1, (Zz a0)⟩, some ⟨false, 58, 3, 1, [.val (.int .i64 0), .val (.slice none 0 0), .val (.slice none 0 0)]⟩])) (n0 := (n + 2)) ?_ ?_
 ·refine Zr [1, 2, 3, 4, 18] (Zb Zc [] ?_)
  simp only [push_cast, seval, ↓reduceIte, Za, hN0, hN]
  refine Zs (t := (a0.Kind == 1)) rfl (fun c4 => ?_) (fun c4 => ?_)
  ·replace hz1 := Zx c4 hz1
   obtain ⟨y2, hy2, hz1⟩ := bC hz1
   obtain ⟨y3, hy3, hz1⟩ := bC hz1
   refine Zb Zc [] ?_
   simp only [push_cast, seval, ↓reduceIte, Za, hN0, hN]
   refine (Zi1 hy2).then ?_
   simp only [push_cast, seval, ↓reduceIte, Za, hN0, hN]
   refine (Zkj hy3).then ?_
   simp only [push_cast, seval, ↓reduceIte, Za, hN0, hN]
   have hz1 := Option.some.inj hz1; subst hz1
   refine And.intro rfl (Fit2.of (Zv hU rfl rfl ?_) (by omega))
   simp only [push_cast, seval, ↓reduceIte, Za, hN0, hN]
  replace hz1 := Zw c4 hz1
  refine Zy ?_
  try simp only [Zi, Zf]
  have hz1 := Option.some.inj hz1; subst hz1
  refine And.intro rfl (Fit2.of (Zv hU rfl rfl ?_) (by omega))
  simp only [push_cast, seval, ↓reduceIte, Za, hN0, hN]
 refine Zh ?_
 refine Zb Zc [] ?_
 simp only [push_cast, seval, ↓reduceIte, Za, hN0, hN]
 refine Zg [2, 4, 5] [false, true, true] ?_
 simp only [push_cast, seval, ↓reduceIte]
 obtain ⟨z5, hz5, h⟩ := bC h
 refine Qa (E' := ⟨49, [], [(2, .ref (n + 1) 0), (4, .sl z1.2.length (fl Zk z1.2)), (5, .ref (n + 2) 0)]⟩) (O' := (Z4 O n [none, some ⟨false, 58, 3, 1, [.val (.int .i64 0), .val (.slice none 0 0), .val (.slice none 0 0)]⟩, some ⟨false, 58, 3, 1, [.val (.int .i64 a0.Kind), .sl z1.1.length (fl (eI .u64) z1.1), .row (n + 4) z5.length]⟩, none, some ⟨true, 58, 3, z5.length, fl Zk z5⟩, none])) (n0 := (n + 6)) ?_ ?_
 ·refine Zr [2, 4, 5, 29] (Zb Zc [] ?_)
  simp only [push_cast, seval, ↓reduceIte, Za, hN0, hN]
  refine Zs (t := (decide (0 < (z1.2.length : Int)))) rfl (fun c7 => ?_) (fun c7 => ?_)
  ·replace hz5 := Zx c7 hz5
   obtain ⟨l6, al6, bl6, cl6, el6, hz5⟩ := bM2 (c := 56) rfl hz5
   have nl6 : Int.toNat (z1.2.length : Int) = List.length l6 := by rw [el6, List.length_replicate]
   have fl6 : ∀ O O' n, V8 O O' n (List.replicate (List.length l6) [.val (.int .i64 0), .val (.slice none 0 0), .val (.slice none 0 0)]).flatten (fl Zk l6) = True := fun O O' n => by rw [← nl6, el6]; exact eq_true (Zs9 (by simp only [push_cast, seval, ↓reduceIte, Za]) _)
   clear el6
   refine Zb Zc [] ?_
   simp only [push_cast, seval, ↓reduceIte, Za, al6, bl6, cl6, fl6, nl6, hN0, hN]
   have hz5 := Option.some.inj hz5; subst hz5
   refine And.intro rfl ?_
   refine Fit2.trans (E' := (⟨49, [], [(2, .ref (n + 1) 0), (4, .sl z1.2.length (fl Zk z1.2)), (5, .ref (n + 2) 0)]⟩ : Env)) (O' := (Z4 O n [none, some ⟨false, 58, 3, 1, [.val (.int .i64 0), .val (.slice none 0 0), .val (.slice none 0 0)]⟩, some ⟨false, 58, 3, 1, [.val (.int .i64 a0.Kind), .sl z1.1.length (fl (eI .u64) z1.1), .row (n + 3) l6.length]⟩, some ⟨true, 58, 3, l6.length, fl Zk l6⟩])) (n' := (n + 4)) (Fit2.of (Zv hU rfl rfl ?_) (by omega)) ?_
   ·simp only [push_cast, seval, ↓reduceIte, Za, al6, bl6, cl6, fl6, nl6, hN0, hN]
   refine Zg0 (k := 4) (k' := 6) hU [5, 1, 2, 4] [0, 1, 2, 0, 3, 0] rfl rfl rfl rfl ⟨rfl, rfl⟩ ?_
   simp only [push_cast, seval, ↓reduceIte, Za, hN0, hN]
  replace hz5 := Zw c7 hz5
  refine Zy ?_
  try simp only [Zi, Zf]
  have hz5 := Option.some.inj hz5; subst hz5
  refine And.intro rfl ?_
  refine Fit2.trans (E' := (⟨49, [], [(2, .ref (n + 1) 0), (4, .sl z1.2.length (fl Zk z1.2)), (5, .ref (n + 2) 0)]⟩ : Env)) (O' := (Z4 O n [none, some ⟨false, 58, 3, 1, [.val (.int .i64 0), .val (.slice none 0 0), .val (.slice none 0 0)]⟩, some ⟨false, 58, 3, 1, [.val (.int .i64 a0.Kind), .sl z1.1.length (fl (eI .u64) z1.1), .val (.slice none 0 0)]⟩])) (n' := (n + 3)) (Fit2.of (Zv hU rfl rfl ?_) (by omega)) ?_
  ·simp only [push_cast, seval, ↓reduceIte, Za, hN0, hN]
  refine Fit2.trans (E' := (⟨49, [], [(2, .ref (n + 1) 0), (4, .sl z1.2.length (fl Zk z1.2)), (5, .ref (n + 2) 0)]⟩ : Env)) (O' := (Z4 O n [none, some ⟨false, 58, 3, 1, [.val (.int .i64 0), .val (.slice none 0 0), .val (.slice none 0 0)]⟩, some ⟨false, 58, 3, 1, [.val (.int .i64 a0.Kind), .sl z1.1.length (fl (eI .u64) z1.1), .row (n + 3) 0]⟩, some ⟨true, 58, 3, 0, []⟩])) (n' := (n + 4)) ?_ ?_
  ·have ha := Zby (ba := n) (E := (⟨49, [], [(2, .ref (n + 1) 0), (4, .sl z1.2.length (fl Zk z1.2)), (5, .ref (n + 2) 0)]⟩ : Env)) (O := (Z4 O n [none, some ⟨false, 58, 3, 1, [.val (.int .i64 0), .val (.slice none 0 0), .val (.slice none 0 0)]⟩, some ⟨false, 58, 3, 1, [.val (.int .i64 a0.Kind), .sl z1.1.length (fl (eI .u64) z1.1), .val (.slice none 0 0)]⟩])) (n := (n + 3)) (p := (n + 2)) (k := 2) (q := ⟨false, 58, 3, 1, [.val (.int .i64 a0.Kind), .sl z1.1.length (fl (eI .u64) z1.1), .val (.slice none 0 0)]⟩) 58 3 (by simp only [V9, Zbn, List.getElem?_cons_zero, List.getElem?_cons_succ, Option.join_some, Xi]) rfl (by omega)
   simp only [U3, V6, Zax, Gm, List.set_cons_zero, List.set_cons_succ, List.cons_append, List.nil_append, List.length_cons, List.length_nil, Nat.zero_add, Nat.reduceAdd, Nat.reduceLT, Nat.add_assoc] at ha
   exact ha
  refine Fit2.trans (E' := (⟨49, [], [(2, .ref (n + 1) 0), (4, .sl z1.2.length (fl Zk z1.2)), (5, .ref (n + 2) 0)]⟩ : Env)) (O' := (Z4 O n [none, some ⟨false, 58, 3, 1, [.val (.int .i64 0), .val (.slice none 0 0), .val (.slice none 0 0)]⟩, some ⟨false, 58, 3, 1, [.val (.int .i64 a0.Kind), .sl z1.1.length (fl (eI .u64) z1.1), .row (n + 3) ([] : List S_api_Tree).length]⟩, some ⟨true, 58, 3, ([] : List S_api_Tree).length, fl Zk ([] : List S_api_Tree)⟩])) (n' := (n + 4)) (Fit2.of (Zv hU rfl rfl ?_) (by omega)) ?_
  ·simp only [push_cast, seval, ↓reduceIte, Za, hN0, hN]
  refine Zg0 (k := 4) (k' := 6) hU [5, 1, 2, 4] [0, 1, 2, 0, 3, 0] rfl rfl rfl rfl ⟨rfl, rfl⟩ ?_
  simp only [push_cast, seval, ↓reduceIte, Za, hN0, hN]
 refine Zh ?_
 refine Zr [2, 5, 34, 35, 36] (Zb Zc [] ?_)
 simp only [push_cast, seval, ↓reduceIte, Za, hN0, hN]
 refine Zg [2, 5, 34, 35, 36] [false, true, true, false, true, false] ?_
 simp only [push_cast, seval, ↓reduceIte]
 obtain ⟨z14, hz14, h⟩ := bC h
 refine Ji (E' := ⟨49, [], [(2, .ref (n + 1) 0), (5, .ref (n + 2) 0)]⟩) (O' := (Z4 O n [none, some ⟨false, 58, 3, 1, [.val (.int .i64 0), .val (.slice none 0 0), .val (.slice none 0 0)]⟩, some ⟨false, 58, 3, 1, [.val (.int .i64 a0.Kind), .sl z1.1.length (fl (eI .u64) z1.1), .row (n + 4) z14.length]⟩, none, some ⟨true, 58, 3, z14.length, fl Zk z14⟩, none])) (n0 := (n + 6)) ?_ ?_
 ·refine K4 hz14 (fun s0_ => ⟨49, [], [(2, .ref (n + 1) 0), (5, .ref (n + 2) 0), (34, .sl z1.2.length (fl Zk z1.2)), (35, .val (.int .i64 (z1.2.length : Int))), (36, .val (.int .i64 s0_.1))]⟩) (fun s0_ => (Z4 O n [none, some ⟨false, 58, 3, 1, [.val (.int .i64 0), .val (.slice none 0 0), .val (.slice none 0 0)]⟩, some ⟨false, 58, 3, 1, [.val (.int .i64 a0.Kind), .sl z1.1.length (fl (eI .u64) z1.1), .row (n + 4) s0_.2.length]⟩, none, some ⟨true, 58, 3, s0_.2.length, fl Zk s0_.2⟩, none])) (fun z14 => JX 0 n (⟨49, [], [(2, .ref (n + 1) 0), (5, .ref (n + 2) 0)]⟩ : Env) (Z4 O n [none, some ⟨false, 58, 3, 1, [.val (.int .i64 0), .val (.slice none 0 0), .val (.slice none 0 0)]⟩, some ⟨false, 58, 3, 1, [.val (.int .i64 a0.Kind), .sl z1.1.length (fl (eI .u64) z1.1), .row (n + 4) z14.length]⟩, none, some ⟨true, 58, 3, z14.length, fl Zk z14⟩, none]) (n + 6)) ?_
  intro s0_ x0_ hs0_
  unfold Ve at hs0_
  try dsimp only
  refine Zr [2, 5, 34, 35, 36, 37] (Zb Zc [] ?_)
  simp only [push_cast, seval, ↓reduceIte, Za, hN0, hN]
  refine Zh ?_
  refine Zs (t := (decide (s0_.1 < (z1.2.length : Int)))) rfl (fun c13 => ?_) (fun c13 => ?_)
  ·replace hs0_ := Zx c13 hs0_
   refine Zy ?_
   try simp only [Zi, Zf]
   refine Zg [2, 5, 34, 35, 36] [false, true, true, false, true, false] ?_
   simp only [push_cast, seval, ↓reduceIte]
   refine Zh ?_
   refine Y8 ?_
   refine Zh ?_
   obtain ⟨x9, hx9, ax9, bx9, cx9, hs0_⟩ := bE (f := Zk) Zhr (fun _ => rfl) (by decide) hs0_
   refine Zb Zc [] ?_
   simp only [push_cast, Nat.reduceAdd, Nat.reduceSub, Nat.reduceMul, Nat.reduceLeDiff, Nat.reduceLT, Nat.reduceEqDiff, ↓reduceIte, reduceCtorEq, Int.reduceBEq, Int.reduceBNe, Nat.reduceBEq, Int.reduceLE, Int.reduceLT, Int.reduceEq, Int.reduceNe, Int.reduceNeg, Nat.reduceDiv, Nat.reduceMod, Nat.reducePow, Za, ax9, bx9, cx9, hN0, hN]
   refine Zg [2, 5, 6, 7, 34, 35, 36] [false, true, true, false, true, false, true] ?_
   simp only [push_cast, seval, ↓reduceIte]
   obtain ⟨y10, hy10, hs0_⟩ := bC hs0_
   obtain ⟨x11, hx11, ax11, bx11, cx11, hs0_⟩ := bE (f := Zk) Zhr (fun _ => rfl) (by decide) hs0_
   have gu12 : Gb (fl Zk s0_.2) [.val (.int .i64 y10.Kind), .sl y10.Words.length (fl (eI .u64) y10.Words), .sl y10.Kids.length (fl Zk y10.Kids)] (Int.toNat s0_.1 * 3) = some (fl Zk (Zh3 s0_.2 s0_.1 y10)) := (congrArg (fun c => Gb (fl Zk s0_.2) c (Int.toNat s0_.1 * 3)) (show [.val (.int .i64 y10.Kind), .sl y10.Words.length (fl (eI .u64) y10.Words), .sl y10.Kids.length (fl Zk y10.Kids)] = Zk y10 from by simp only [Zk, Qq, eI, eB, eS, eL])).trans (Zpd (f := Zk) (ti := ⟨.bool, 3, 0, [], false⟩) (x := y10) (fun _ => rfl) (Zdo hx11))
   refine Zd7 Zc (by kernel_rfl) [false, false, false, false, false, false, true] [] (by kernel_rfl) ?_
   simp only [push_cast, Nat.reduceAdd, Nat.reduceSub, Nat.reduceMul, Nat.reduceLeDiff, Nat.reduceLT, Nat.reduceEqDiff, ↓reduceIte, reduceCtorEq, Int.reduceBEq, Int.reduceBNe, Nat.reduceBEq, Int.reduceLE, Int.reduceLT, Int.reduceEq, Int.reduceNe, Int.reduceNeg, Nat.reduceDiv, Nat.reduceMod, Nat.reducePow, Za, ax11, bx11, cx11, gu12, hN0, hN]
   refine PCall.of (Zn9 hy10) ?_
   simp only [push_cast, Nat.reduceAdd, Nat.reduceSub, Nat.reduceMul, Nat.reduceLeDiff, Nat.reduceLT, Nat.reduceEqDiff, ↓reduceIte, reduceCtorEq, Int.reduceBEq, Int.reduceBNe, Nat.reduceBEq, Int.reduceLE, Int.reduceLT, Int.reduceEq, Int.reduceNe, Int.reduceNeg, Nat.reduceDiv, Nat.reduceMod, Nat.reducePow, Za, ax11, bx11, cx11, gu12, hN0, hN]
   refine Zg [2, 5, 34, 35, 36] [false, true, true, false, true, false, false] ?_
   simp only [push_cast, seval, ↓reduceIte]
   refine Zb Zc [] ?_
   simp only [push_cast, seval, ↓reduceIte, Za, hN0, hN]
   have hs0_ := Option.some.inj hs0_; subst hs0_
   refine And.intro rfl (Fit2.of (Zv hU rfl rfl ?_) (by omega))
   simp only [push_cast, seval, ↓reduceIte, Za, hN0, hN]
  replace hs0_ := Zw c13 hs0_
  refine U1 ?_
  try simp only [Zi, Zf, ↓reduceIte, Nat.reduceEqDiff]
  have hs0_ := Option.some.inj hs0_; subst hs0_
  refine And.intro (fun h => by cases h) (And.intro rfl (Fit2.of (Zv hU rfl rfl ?_) (by omega)))
  simp only [push_cast, seval, ↓reduceIte, Za, hN0, hN]
 try simp only [Zi, Zf, ↓reduceIte, Nat.reduceEqDiff]
 refine Zg [2, 5] [false, true, true, false, true, false] ?_
 simp only [push_cast, seval, ↓reduceIte]
 refine Zh ?_
 refine Zb Zc [] ?_
 simp only [push_cast, seval, ↓reduceIte, Za, hN0, hN]
 refine Zg [2] [false, true, false, false, true, false] ?_
 simp only [push_cast, seval, ↓reduceIte]
 refine Zu ?_
 try simp only [Zi, Zf]
 have h := Option.some.inj h; subst h
 refine Zl (.inr rfl) hU [.agg [.val (.int .i64 a0.Kind), .sl z1.1.length (fl (eI .u64) z1.1), .row (n + 4) z14.length]] (by omega) ?_
 simp only [push_cast, seval, ↓reduceIte, Za, Try.results66, hN0, hN]
theorem Zk8 : ∀ k, (∀ {a0 : S_api_Tree} {r : S_api_Tree} {O : Objs} {n : Nat}, (Jn k) a0 = some r → GTo Try.prog 66 [.agg (Zz a0)] O n (.agg (Zz r)) O n) := fun k => by
 induction k with
 | zero => exact @fun a0 r O n h => (nomatch (show (none : Option _) = some _ from h))
 | succ k ih => exact @fun a0 r O n h => Zox (ih)  h
theorem Zqa {a0 : S_api_Tree} {r : S_api_Tree} {O : Objs} {n : Nat} (h : Zf2 a0 = some r) : GTo Try.prog 66 [.agg (Zz a0)] O n (.agg (Zz r)) O n := by
 obtain ⟨k, hk⟩ := Zf1 h
 exact (Zk8 k)  hk
theorem Zi2 {a0 : (Option Zm)} {a1 : Z0} {r : (S_api_Tree × Int)} {O : Objs} {n : Nat} (h : Vi a0 a1 = some r) : GTo Try.prog 39 [(gP Zn a0), .agg (Yj a1)] O n (.tup [.agg (Zz r.1), .val (.int .i64 r.2)]) O n := by
 unfold Vi at h
 refine Ys Zc Try.call39 Try.func39 rfl (Nat.le_of_ble_eq_true rfl) (Nat.le_refl _) fun hU => ?_
 have hN0 : O n = none := hU.fresh _ (Nat.le_refl _)
 have hN : ∀ k, O (n + k) = none := fun k => hU.fresh _ (Nat.le_add_right _ _)
 show W _ _ _ _ ⟨38, [], [(0, (gP Zn a0)), (1, .agg (Yj a1))]⟩ (Z4 O n []) _
 refine Zr [0, 3, 4] (Zb Zc [] ?_)
 simp only [push_cast, seval, ↓reduceIte, Za, hN0, hN]
 refine Zh ?_
 refine Zh ?_
 obtain ⟨y2, hy2, h⟩ := bC h
 refine Zb Zc [] ?_
 simp only [push_cast, seval, ↓reduceIte, Za, hN0, hN]
 refine (Zoa hy2).then ?_
 simp only [push_cast, seval, ↓reduceIte, Za, hN0, hN]
 refine Zg [0, 4, 7] [false, true] ?_
 simp only [push_cast, seval, ↓reduceIte]
 refine Zr [0, 4, 7, 18] (Zb Zc [] ?_)
 simp only [push_cast, seval, ↓reduceIte, Za, hN0, hN]
 refine Zs (t := (y2.2 != 0)) rfl (fun c10 => ?_) (fun c10 => ?_)
 ·replace h := Zx c10 h
  refine Zh ?_
  refine Zb Zc [] ?_
  simp only [push_cast, seval, ↓reduceIte, Za, hN0, hN]
  refine Zg [4, 5] [false, true] ?_
  simp only [push_cast, seval, ↓reduceIte]
  refine Zu ?_
  try simp only [Zi, Zf]
  have h := Option.some.inj h; subst h
  refine Zl (.inr rfl) hU [.agg [.val (.int .i64 0), .val (.slice none 0 0), .val (.slice none 0 0)], .val (.int .i64 y2.2)] (by omega) ?_
  simp only [push_cast, seval, ↓reduceIte, Za, Try.results39, hN0, hN]
 replace h := Zw c10 h
 refine Zy ?_
 try simp only [Zi, Zf]
 refine Zg [0, 4] [false, true] ?_
 simp only [push_cast, seval, ↓reduceIte]
 refine Zh ?_
 obtain ⟨y4, hy4, h⟩ := bC h
 refine Zb Zc [] ?_
 simp only [push_cast, seval, ↓reduceIte, Za, hN0, hN]
 refine (Zb9 hy4).then ?_
 simp only [push_cast, seval, ↓reduceIte, Za, hN0, hN]
 refine Zg [4, 8, 9] [false, true, true] ?_
 simp only [push_cast, seval, ↓reduceIte]
 refine Zh ?_
 refine Zr [4, 8, 9, 27] (Zb Zc [] ?_)
 simp only [push_cast, seval, ↓reduceIte, Za, hN0, hN]
 refine Zs (t := (y4.2 != 0)) rfl (fun c9 => ?_) (fun c9 => ?_)
 ·replace h := Zx c9 h
  refine Zh ?_
  refine Zb Zc [] ?_
  simp only [push_cast, seval, ↓reduceIte, Za, hN0, hN]
  refine Zg [4, 5] [false, true, false] ?_
  simp only [push_cast, seval, ↓reduceIte]
  refine Zu ?_
  try simp only [Zi, Zf]
  have h := Option.some.inj h; subst h
  refine Zl (.inr rfl) hU [.agg [.val (.int .i64 0), .val (.slice none 0 0), .val (.slice none 0 0)], .val (.int .i64 y4.2)] (by omega) ?_
  simp only [push_cast, seval, ↓reduceIte, Za, Try.results39, hN0, hN]
 replace h := Zw c9 h
 refine Zy ?_
 try simp only [Zi, Zf]
 refine Zg [4, 8] [false, true, true] ?_
 simp only [push_cast, seval, ↓reduceIte]
 refine Zh ?_
 obtain ⟨y6, hy6, h⟩ := bC h
 refine Zb Zc [] ?_
 simp only [push_cast, seval, ↓reduceIte, Za, hN0, hN]
 refine (Zfj hy6).then ?_
 simp only [push_cast, seval, ↓reduceIte, Za, hN0, hN]
 refine Zg [4, 9, 10] [false, true, false, true] ?_
 simp only [push_cast, seval, ↓reduceIte]
 refine Zh ?_
 obtain ⟨y8, hy8, h⟩ := bC h
 refine Zb Zc [] ?_
 simp only [push_cast, seval, ↓reduceIte, Za, hN0, hN]
 refine (Zqa hy8).then ?_
 simp only [push_cast, seval, ↓reduceIte, Za, hN0, hN]
 refine Zg [4, 5] [false, true, false, false] ?_
 simp only [push_cast, seval, ↓reduceIte]
 refine Zu ?_
 try simp only [Zi, Zf]
 have h := Option.some.inj h; subst h
 refine Zl (.inr rfl) hU [.agg (Zz y8), .val (.int .i64 y6.2)] (by omega) ?_
 simp only [push_cast, seval, ↓reduceIte, Za, Try.results39, hN0, hN]
end Go.Proofs.Ytmlhokaflhlhbaa
