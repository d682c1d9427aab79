/- Part KM5 of this seat's mirrors: functions of the seat's program, and the plain functions that they are; each theorem bears its own conditions. -/
import Derived.Test.YtpfbdlcnfekdkaaKE
import Derived.Test.YtpfbdlcnfekdkaaKM4
namespace Go.Proofs.Ytpfbdlcnfekdkaa
open Go.RowKit
set_option linter.unusedVariables false
set_option linter.unusedSimpArgs false
set_option maxRecDepth 100000
set_option maxHeartbeats 4000000
attribute [local push_cast] Try.results11 Try.results119 Try.results23 Try.results31 Try.results32 Try.results44 Try.results53 Try.results55 Try.results56 Try.results83 Try.results88 Try.results89 Try.results9 Try.results90 Try.results91 vI vB nV sL oR Yy Zd Q9 Xh Zk Zqe Zqd Zre Zrd Xc Ym Zmd Zha Zg9 onW Xx Zds Zcu Zqk Zpc Zkf Zkk Zke Zkj Znm Zni Zki Znl Znk Znj Zkg Zng Zh1 evS wok Q5 Op.operands Call.operands gop onK onP atK List.all_cons List.all_nil Bool.and_true Bool.true_and Bool.and_self Value.oneCell' List.take_zero List.take_succ_cons List.take_nil List.drop_zero List.drop_succ_cons List.drop_nil List.append_nil Nat.add_zero Nat.zero_add U1 Yd ev Jn Zpb Zp4 Zp3 Zp9 Zp7 Zp8 Zp5 Zp6 Zp2 Zti Zub Zx0 Zi0 Zc6 Zil Zdl Zjn Zgb Ze9 Zfe Zg4 Zg0 Zfc Zg3 Zg2 Zg1 Zfb Zgy Zfa Zfd Zd7 Zgz Zls Zhb Zay Zin Zaz Zks Ziz Zve bLo bHi bMx Zc7 Zkr Zzd Ziy Zli Ze6 Gf Zt3 Zzh Zij Zfj Zzk Zc5 Z05 Zmm Zmq Zml Zmp Zqs Zqo Zqm Zjq Zmn Zqr Zqq Zqp Zmo Zqn Zku Zqg Znb Zhu Zht pop TK.isAgg Zq6 Zra Zq5 Zq9 Zm4 Zv2 Zvy Zq8 Zv1 Zv0 Zvz Zq7 Zvx G.under G.unders List.getD_cons_zero List.getD_cons_succ List.set_cons_zero List.set_cons_succ List.map_cons List.map_nil List.toList_toArray Array.toList_append Option.toArray_none Option.toArray_some Array.toList_map Option.map_some Option.map_none Option.bind_some Option.bind_none List.getElem?_cons_zero List.getElem?_cons_succ List.getElem?_nil List.nil_append List.cons_append List.replicate_succ List.replicate_zero List.length_cons List.length_nil and_true true_and and_false false_and Bool.true_eq_false Bool.false_eq_true forall_const false_implies implies_true IntKind.bits if_true if_false ite_true ite_false eq_self true_implies false_or or_false or_true true_or not_true_eq_false not_false_eq_true decide_true decide_false decide_eq_true_eq decide_eq_false_iff_not beq_iff_eq bne_iff_ne ne_eq Bool.not_eq_true Bool.not_eq_false beq_eq_false_iff_ne bne_eq_false_iff_eq beq_self_eq_true bne_self_eq_false Option.some.injEq exists_eq_left' exists_eq_left ge_iff_le gt_iff_lt decide_not Bool.not_true Bool.not_false imp_self Zvg cond_true cond_false Z7u Z7t Bool.not_not Bool.and_false Bool.false_and Bool.or_true Bool.true_or Bool.or_false Bool.false_or Zbq Zgn Zdi Zby Vy Kj Option.join_some Nat.add_assoc Int.toNat_natCast eI eB eS eL K3 Zgq Zfl Zqj Zqh Zqi Z1t Z4j Zgs Zfx Zrn Zrl Zrm Zya Zmb Zu6 Znf Zu5 Zcm Zth List.length_append G.agg.injEq G.row.injEq G.ref.injEq G.val.injEq G.sl.injEq G.tup.injEq Value.int.injEq Value.bool.injEq Value.string.injEq List.cons.injEq exists_and_left exists_const List.flatten_cons List.flatten_nil Int.le_refl Nat.le_refl Zck Qz Ui Bool.not_eq_true' Bool.not_eq_false' Zs6 Zh6 Zxn Zxs Zxm Zxr Z3j Z3e List.size_toArray Zrq Zrr G.ren G.rens Zui Zgi Zrt Zpz Zp0 Znh Zxu Zgg G.fn.injEq Zkl Zod Zs4 Z3f Zoc Zxq Z3i Z3h Z3g Zxp Zvl Z1h Option.join_none Yz Gc undef Zlj Arr.len Arr.put_eq Zgr Zj5 Zhp Zfw Zrk Zri Zrj onB Z1s Zt1 Yv Zjj Zl1 Zl2 Zl3 Zl4 Zl5 Zl6 Zjw Zj9 Zj7 Zhs Zfy Zj8 Zna Zm9 Zm8 Zm7 Z4i Z65 Zx9 Zv5 Kr Zx2 Zqu Zka Zhr Zzy Zry Zix Zlh Zen Zkb Zl7 Zl8 Zl9 Zma Zja Zjb Zjc Zjd Zje Zjf Zjg Zff prT Zdn Z9k Zw9 Z2r Zxa Z9l Zxb Z9m Zxc Z9n Zxd Z9o Zxe Z9p Zxf Z9q Zxg Z2c Zr4 Z2d Zr5 Z2e Zr6 Z2f Zr7 Z2g Zr8 Z2h Zr9 Z2i Zsa Z2j Zsb Z2k Zsc Z2l Zsd Z2m Zse Z2n Zsf Z2o Zsg Z2p Zsh Zlp Zep Zr2 Zlf Z2q Zsi Vo Zsj Z2s Zsk Z2t Zov Z2u Zsl Z2v Zsm Z2w Zsn Z2x Zso Z2y Zsp U2 Zsq Z2z Zsr Z20 Zss Z21 Zst Z22 Zsu Z23 Zsv Z24 Zsw Z25 Zsx Z26 Zsy Z27 Zsz Z28 Zs0 Z29 Zs1 Zwl Znn Zwm Zno Zwn Znp Zwo Znq Zwp Znr Zwq Zns Zwr Znt Zws Znu Zwt Znv Zwu Znw Zwv Znx Zww Zny Zwx Znz Zwy Zn0 Zwz Zn1 Zw0 Zn2 Zw1 Zn3 Zw2 Zn4 Zw3 Zn5 Zw4 Zn6 Zw5 Zn7 Zw6 Zn8 Zw7 Zn9 Zw8 Zoa Zc Yu Zh8 Zh5 Zhe Zhn Zib Zf7 Zf2 Zf0 Zh3 Zat Zas Zai Zao Zau Gm Gl Gk Zar Zh7 Zh4 Zhd Zhm Zia Zf6 Zf1 Zfz Zh2 Zfh Zba Zdg Zdf Zc8 Zdd Zdh Zcj Zcf Zce Zde Zl V7 V6 V1 V4 V8 Vp Vn Vm V5 Zb0 Zfg Zb1 Z3 Kz Ky Ku Kw K0 Ki Kh Kg Kx Zw J4 J3 Jv Jz J5 Jk Ji Jh J0
def Vc (Z9 : (Zf → Zb → Int → Option (Int × Zf))) : Prop := ∀ {a0 : Zf} {a1 : Zb} {a2 : Int} {r : (Int × Zf)} {O : Objs} {n : Nat} {i0 : Nat}, i0 < n → O i0 = some ⟨false, 85, 1, 1, [(vI a0.left)]⟩ → Z9 a0 a1 a2 = some r → GTo Try.prog 55 [.ref i0 0, .agg (Zk a1), (vI a2)] O n ((vI r.1)) (Zr (O.upd i0 (some ⟨false, 85, 1, 1, [(vI r.2.left)]⟩)) n []) (n + 0)
def Vt (Z8 : (Zf → Zb → Int → Option (Int × Zf))) : Prop := ∀ {a0 : Zf} {a1 : Zb} {a2 : Int} {r : (Int × Zf)} {O : Objs} {n : Nat} {i0 : Nat}, i0 < n → O i0 = some ⟨false, 85, 1, 1, [(vI a0.left)]⟩ → Z8 a0 a1 a2 = some r → GTo Try.prog 88 [.ref i0 0, .agg (Zk a1), (vI a2)] O n ((vI r.1)) (Zr (O.upd i0 (some ⟨false, 85, 1, 1, [(vI r.2.left)]⟩)) n []) (n + 0)
def Kf (Ya : (Zf → Zb → Int → Option (Int × Zf))) : Prop := ∀ {a0 : Zf} {a1 : Zb} {a2 : Int} {r : (Int × Zf)} {O : Objs} {n : Nat} {i0 : Nat}, i0 < n → O i0 = some ⟨false, 85, 1, 1, [(vI a0.left)]⟩ → Ya a0 a1 a2 = some r → GTo Try.prog 89 [.ref i0 0, .agg (Zk a1), (vI a2)] O n ((vI r.1)) (Zr (O.upd i0 (some ⟨false, 85, 1, 1, [(vI r.2.left)]⟩)) n []) (n + 0)
theorem Zj2 {Z9 : (Zf → Zb → Int → Option (Int × Zf))} {Z8 : (Zf → Zb → Int → Option (Int × Zf))} {Ya : (Zf → Zb → Int → Option (Int × Zf))} (Gu : Vc Z9) (Vu : Vt Z8) (Uw : Kf Ya) {a0 : Zf} {a1 : Zb} {a2 : Int} {r : (Int × Zf)} {O : Objs} {n : Nat} {i0 : Nat} (hi0 : i0 < n) (ho0 : O i0 = some ⟨false, 85, 1, 1, [(vI a0.left)]⟩) (h : Jc Z9 Z8 Ya a0 a1 a2 = some r) : GTo Try.prog 55 [.ref i0 0, .agg (Zk a1), (vI a2)] O n ((vI r.1)) (Zr (O.upd i0 (some ⟨false, 85, 1, 1, [(vI r.2.left)]⟩)) n []) (n + 0) := by
 unfold Jc at h
 refine Zpw Zv Try.call55 Try.func55 rfl (Nat.le_of_ble_eq_true rfl) (by omega) fun hU => ?_
 rw [show Zr O n [] = Zr (O.upd i0 (some ⟨false, 85, 1, 1, [(vI a0.left)]⟩)) n [] from by rw [Zs3 (show O i0 = _ from by exact ho0)]]
 have hk0 : ∀ k, i0 < n + k := fun k => by omega
 have hN0 : ∀ o, Objs.upd O i0 o n = none := fun o => Kl hU hi0 _ (Nat.le_refl _)
 have hN : ∀ o k, Objs.upd O i0 o (n + k) = none := fun o k => Kl hU hi0 _ (Nat.le_add_right _ _)
 show W _ _ _ _ ⟨46, [], [(0, .ref i0 0), (1, .agg (Zk a1)), (2, (vI a2))]⟩ (Zr (O.upd i0 (some ⟨false, 85, 1, 1, [(vI a0.left)]⟩)) n []) _
 refine U3 [0, 2, 4] hi0 hk0 ?_
 refine Zg ?_
 obtain ⟨z3, hz3, h⟩ := bC h
 refine Xo (E' := ⟨46, [], [(0, .ref i0 0), (2, (vI a2)), (4, .ref n 0), (19, (vB z3))]⟩) (O' := (Zr (O.upd i0 (some ⟨false, 85, 1, 1, [(vI a0.left)]⟩)) n [some ⟨false, 50, 9, 1, (Zk a1)⟩])) (n0 := (n + 1)) ?_ ?_
 ·obtain ⟨y6, hy6, hz3⟩ := bC hz3
  rcases Bool.eq_false_or_eq_true (decide (a2 < y6)) with c8 | c8
  ·replace hz3 := Zo c8 hz3
   refine Q8 Zv (by kernel_rfl) [some false, some false, some false, some false, some false, some false, some false] (by kernel_rfl) ?_
   refine zX3 c8 hi0 hk0 ?_
   refine PCall.of (Zll hy6) ?_
   refine zX3 c8 hi0 hk0 ?_
   have hz3 := Option.some.inj hz3; subst hz3
   refine And.intro rfl (Fit2.of (Z7 hU rfl rfl ?_) (by omega))
   exact Z42 c8 hi0 hk0
  replace hz3 := Zn c8 hz3
  obtain ⟨y7, hy7, hz3⟩ := bC hz3
  refine Q8 Zv (by kernel_rfl) [some true, some true, some true, some true, some true, some true, some true] (by kernel_rfl) ?_
  refine zX3 c8 hi0 hk0 ?_
  refine PCall.of (Zll hy6) ?_
  refine zX3 c8 hi0 hk0 ?_
  refine PCall.of (Zlm hy7) ?_
  refine zX3 c8 hi0 hk0 ?_
  have hz3 := Option.some.inj hz3; subst hz3
  refine And.intro rfl (Fit2.of (Z7 hU rfl rfl ?_) (by omega))
  exact Z42 c8 hi0 hk0
 refine Zm (t := z3) rfl (fun c21 => ?_) (fun c21 => ?_)
 ·replace h := Zo c21 h
  refine U3 [6] hi0 hk0 ?_
  refine zW ?_
  have h := Option.some.inj h; subst h
  refine J9 (k := 0) (i := i0) (q1 := ⟨false, 85, 1, 1, [(vI a0.left)]⟩) (L3 := [none]) (E2 := (⟨46, [], [(6, (vI 3))]⟩ : Env)) (n3 := (n + 1)) (.inr rfl) hU rfl [(vI 3)] ?_ ?_
  ·refine Fit2.trans (E' := (⟨46, [], [(6, (vI 3))]⟩ : Env)) (O' := (Zr (O.upd i0 (some ⟨false, 85, 1, 1, [(vI a0.left)]⟩)) n [none])) (n' := (n + 1)) (Fit2.of (Z7 hU rfl rfl ?_) (by omega)) ?_
   ·exact Qx hi0 hk0
   refine X9 (k := 1) (k' := 1) hU [0] [0] rfl rfl rfl rfl ⟨rfl, rfl⟩ ?_
   exact Qx hi0 hk0
  simp only [push_cast, seval, ↓reduceIte, Zh, Try.results55, hi0, hk0, hN0, hN]
 replace h := Zn c21 h
 refine J6 [0, 2, 4] [true] ?_
 refine Zg ?_
 obtain ⟨y10, hy10, h⟩ := bC h
 refine Ze5 Zv (by kernel_rfl) [false, false, false, false, false, false, false, false, false, true] [] (by kernel_rfl) ?_
 refine zX2 hi0 hk0 ?_
 refine PCall.of (Zlm hy10) ?_
 refine zX2 hi0 hk0 ?_
 refine zDs [0, 2, 4] [true] ?_
 refine Zg ?_
 obtain ⟨y12, hy12, h⟩ := bC h
 refine Jm [] hi0 hk0 ?_
 refine (Xl hy12).then ?_
 refine zX2 hi0 hk0 ?_
 refine zD [0, 2, 4, 30] [true] ?_
 refine Yj ?_
 obtain ⟨z13, hz13, h⟩ := bC h
 refine Xo (E' := ⟨46, [], [(0, .ref i0 0), (2, (vI a2)), (4, .ref n 0), (30, (vI y12)), (31, (vB z13))]⟩) (O' := (Zr (O.upd i0 (some ⟨false, 85, 1, 1, [(vI (IntKind.i64.wrap (a0.left - y10)))]⟩)) n [some ⟨false, 50, 9, 1, (Zk a1)⟩])) (n0 := (n + 1)) ?_ ?_
 ·refine U3 [0, 2, 4, 30, 31] hi0 hk0 ?_
  refine Zm (t := (y12 == 1)) rfl (fun c14 => ?_) (fun c14 => ?_)
  ·replace hz13 := Zo c14 hz13
   refine zK ?_
   have hz13 := Option.some.inj hz13; subst hz13
   refine And.intro rfl (Fit2.of (Z7 hU rfl rfl ?_) (by omega))
   exact Qx hi0 hk0
  replace hz13 := Zn c14 hz13
  refine Jm [] hi0 hk0 ?_
  have hz13 := Option.some.inj hz13; subst hz13
  refine And.intro rfl (Fit2.of (Z7 hU rfl rfl ?_) (by omega))
  exact Qx hi0 hk0
 refine Zm (t := z13) rfl (fun c20 => ?_) (fun c20 => ?_)
 ·replace h := Zo c20 h
  refine Zg ?_
  obtain ⟨y16, hy16, h⟩ := bC h
  refine Jm [] hi0 hk0 ?_
  refine (Vu (i0 := i0) (by omega) (by simp only [push_cast, seval, ↓reduceIte, Zh, K3, hi0, hk0, hN0, hN] <;> rfl) hy16).then ?_
  refine zX2 hi0 hk0 ?_
  refine zD [6] [false] ?_
  refine zW ?_
  have h := Option.some.inj h; subst h
  refine J9 (k := 0) (i := i0) (q1 := ⟨false, 85, 1, 1, [(vI y16.2.left)]⟩) (L3 := [none]) (E2 := (⟨46, [], [(6, (vI y16.1))]⟩ : Env)) (n3 := (n + 1)) (.inr rfl) hU rfl [(vI y16.1)] ?_ ?_
  ·refine Fit2.trans (E' := (⟨46, [], [(6, (vI y16.1))]⟩ : Env)) (O' := (Zr (O.upd i0 (some ⟨false, 85, 1, 1, [(vI y16.2.left)]⟩)) n [none])) (n' := (n + 1)) (Fit2.of (Z7 hU rfl rfl ?_) (by omega)) ?_
   ·exact Qx hi0 hk0
   refine X9 (k := 1) (k' := 1) hU [0] [0] rfl rfl rfl rfl ⟨rfl, rfl⟩ ?_
   exact Qx hi0 hk0
  simp only [push_cast, seval, ↓reduceIte, Zh, Try.results55, hi0, hk0, hN0, hN]
 replace h := Zn c20 h
 refine U3 [0, 2, 4, 39] hi0 hk0 ?_
 refine Zm (t := (y12 == 9)) rfl (fun c19 => ?_) (fun c19 => ?_)
 ·replace h := Zo c19 h
  refine Zg ?_
  obtain ⟨y18, hy18, h⟩ := bC h
  refine Jm [] hi0 hk0 ?_
  refine (Uw (i0 := i0) (by omega) (by simp only [push_cast, seval, ↓reduceIte, Zh, K3, hi0, hk0, hN0, hN] <;> rfl) hy18).then ?_
  refine zX2 hi0 hk0 ?_
  refine zD [6] [false] ?_
  refine zW ?_
  have h := Option.some.inj h; subst h
  refine J9 (k := 0) (i := i0) (q1 := ⟨false, 85, 1, 1, [(vI y18.2.left)]⟩) (L3 := [none]) (E2 := (⟨46, [], [(6, (vI y18.1))]⟩ : Env)) (n3 := (n + 1)) (.inr rfl) hU rfl [(vI y18.1)] ?_ ?_
  ·refine Fit2.trans (E' := (⟨46, [], [(6, (vI y18.1))]⟩ : Env)) (O' := (Zr (O.upd i0 (some ⟨false, 85, 1, 1, [(vI y18.2.left)]⟩)) n [none])) (n' := (n + 1)) (Fit2.of (Z7 hU rfl rfl ?_) (by omega)) ?_
   ·exact Qx hi0 hk0
   refine X9 (k := 1) (k' := 1) hU [0] [0] rfl rfl rfl rfl ⟨rfl, rfl⟩ ?_
   exact Qx hi0 hk0
  simp only [push_cast, seval, ↓reduceIte, Zh, Try.results55, hi0, hk0, hN0, hN]
 replace h := Zn c19 h
 refine J6 [] [false] ?_
 refine U3 [6] hi0 hk0 ?_
 refine zW ?_
 have h := Option.some.inj h; subst h
 refine J9 (k := 0) (i := i0) (q1 := ⟨false, 85, 1, 1, [(vI (IntKind.i64.wrap (a0.left - y10)))]⟩) (L3 := [none]) (E2 := (⟨46, [], [(6, (vI 0))]⟩ : Env)) (n3 := (n + 1)) (.inr rfl) hU rfl [(vI 0)] ?_ ?_
 ·refine Fit2.trans (E' := (⟨46, [], [(6, (vI 0))]⟩ : Env)) (O' := (Zr (O.upd i0 (some ⟨false, 85, 1, 1, [(vI (IntKind.i64.wrap (a0.left - y10)))]⟩)) n [none])) (n' := (n + 1)) (Fit2.of (Z7 hU rfl rfl ?_) (by omega)) ?_
  ·exact Qx hi0 hk0
  refine X9 (k := 1) (k' := 1) hU [0] [0] rfl rfl rfl rfl ⟨rfl, rfl⟩ ?_
  exact Qx hi0 hk0
 simp only [push_cast, seval, ↓reduceIte, Zh, Try.results55, hi0, hk0, hN0, hN]
theorem Zk6 {Z9 : (Zf → Zb → Int → Option (Int × Zf))} {Z8 : (Zf → Zb → Int → Option (Int × Zf))} {Ya : (Zf → Zb → Int → Option (Int × Zf))} (Gu : Vc Z9) (Vu : Vt Z8) (Uw : Kf Ya) {a0 : Zf} {a1 : Zb} {a2 : Int} {r : (Int × Zf)} {O : Objs} {n : Nat} {i0 : Nat} (hi0 : i0 < n) (ho0 : O i0 = some ⟨false, 85, 1, 1, [(vI a0.left)]⟩) (h : Js Z9 Z8 Ya a0 a1 a2 = some r) : GTo Try.prog 88 [.ref i0 0, .agg (Zk a1), (vI a2)] O n ((vI r.1)) (Zr (O.upd i0 (some ⟨false, 85, 1, 1, [(vI r.2.left)]⟩)) n []) (n + 0) := by
 unfold Js at h
 refine Zpw Zv Try.call88 Try.func88 rfl (Nat.le_of_ble_eq_true rfl) (by omega) fun hU => ?_
 rw [show Zr O n [] = Zr (O.upd i0 (some ⟨false, 85, 1, 1, [(vI a0.left)]⟩)) n [] from by rw [Zs3 (show O i0 = _ from by exact ho0)]]
 have hk0 : ∀ k, i0 < n + k := fun k => by omega
 have hN0 : ∀ o, Objs.upd O i0 o n = none := fun o => Kl hU hi0 _ (Nat.le_refl _)
 have hN : ∀ o k, Objs.upd O i0 o (n + k) = none := fun o k => Kl hU hi0 _ (Nat.le_add_right _ _)
 show W _ _ _ _ ⟨33, [], [(0, .ref i0 0), (1, .agg (Zk a1)), (2, (vI a2))]⟩ (Zr (O.upd i0 (some ⟨false, 85, 1, 1, [(vI a0.left)]⟩)) n []) _
 refine U3 [0, 2, 4] hi0 hk0 ?_
 refine Zg ?_
 refine Zg ?_
 obtain ⟨y2, hy2, h⟩ := bC h
 refine Jm [] hi0 hk0 ?_
 refine (Xk hy2).then ?_
 refine zX2 hi0 hk0 ?_
 refine zD [0, 2, 4, 12, 13] [true] ?_
 refine zD [0, 2, 4, 12, 13] [true] ?_
 obtain ⟨z10, hz10, h⟩ := bC h
 refine Ziw (J := (Gn (fun z10 => JR n (⟨33, [], [(6, (vI z10.1))]⟩ : Env) (Zr (O.upd i0 (some ⟨false, 85, 1, 1, [(vI z10.2)]⟩)) n [none]) (n + 1)) (fun z10 => JX 0 n (⟨33, [], []⟩ : Env) (Zr (O.upd i0 (some ⟨false, 85, 1, 1, [(vI z10)]⟩)) n [none]) (n + 1)))) (z := z10) ?_ fun hw => ?_
 ·refine Xm hz10 (fun s0_ => ⟨33, [], [(0, .ref i0 0), (2, (vI a2)), (4, .ref n 0), (12, (vI y2)), (13, (vI s0_.1))]⟩) (fun s0_ => (Zr (O.upd i0 (some ⟨false, 85, 1, 1, [(vI s0_.2)]⟩)) n [some ⟨false, 50, 9, 1, (Zk a1)⟩])) (Gn (fun z10 => JR n (⟨33, [], [(6, (vI z10.1))]⟩ : Env) (Zr (O.upd i0 (some ⟨false, 85, 1, 1, [(vI z10.2)]⟩)) n [none]) (n + 1)) (fun z10 => JX 0 n (⟨33, [], []⟩ : Env) (Zr (O.upd i0 (some ⟨false, 85, 1, 1, [(vI z10)]⟩)) n [none]) (n + 1))) ?_
  intro s0_ x0_ hs0_
  unfold Jt at hs0_
  try dsimp only
  refine U3 [0, 2, 4, 12, 13, 14] hi0 hk0 ?_
  refine Zg ?_
  refine Zm (t := (decide (s0_.1 < y2))) rfl (fun c9 => ?_) (fun c9 => ?_)
  ·replace hs0_ := Zo c9 hs0_
   refine J6 [0, 2, 4, 12, 13] [true] ?_
   refine Zg ?_
   refine Yj ?_
   refine U3 [0, 2, 4, 7, 12, 13] hi0 hk0 ?_
   refine Zg ?_
   obtain ⟨y4, hy4, hs0_⟩ := bC hs0_
   refine Jm [] hi0 hk0 ?_
   refine (Zek hy4).then ?_
   refine zX2 hi0 hk0 ?_
   refine zDs [0, 2, 4, 8, 9, 12, 13] [true, true] ?_
   refine U3 [0, 2, 4, 8, 9, 12, 13, 23] hi0 hk0 ?_
   refine Zm (t := (y4.2 != 0)) rfl (fun c8 => ?_) (fun c8 => ?_)
   ·replace hs0_ := Zo c8 hs0_
    refine U3 [6] hi0 hk0 ?_
    refine zW ?_
    have hs0_ := Option.some.inj hs0_; subst hs0_
    refine And.intro (fun h => by cases h) (And.intro rfl (Fit2.of (Z7 hU rfl rfl ?_) (by omega)))
    exact Qx hi0 hk0
   replace hs0_ := Zn c8 hs0_
   refine J6 [0, 2, 4, 8, 12, 13] [true, true] ?_
   refine Zg ?_
   obtain ⟨y6, hy6, hs0_⟩ := bC hs0_
   refine Jm [] hi0 hk0 ?_
   refine (Gu (i0 := i0) (by omega) (by simp only [push_cast, seval, ↓reduceIte, Zh, K3, hi0, hk0, hN0, hN] <;> rfl) hy6).then ?_
   refine zX2 hi0 hk0 ?_
   refine zD [0, 2, 4, 10, 12, 13] [true, false] ?_
   refine U3 [0, 2, 4, 10, 12, 13, 30] hi0 hk0 ?_
   refine Zm (t := (y6.1 != 0)) rfl (fun c7 => ?_) (fun c7 => ?_)
   ·replace hs0_ := Zo c7 hs0_
    refine U3 [6] hi0 hk0 ?_
    refine zW ?_
    have hs0_ := Option.some.inj hs0_; subst hs0_
    refine And.intro (fun h => by cases h) (And.intro rfl (Fit2.of (Z7 hU rfl rfl ?_) (by omega)))
    exact Qx hi0 hk0
   replace hs0_ := Zn c7 hs0_
   refine J6 [0, 2, 4, 12, 13] [true, false] ?_
   refine Jm [] hi0 hk0 ?_
   have hs0_ := Option.some.inj hs0_; subst hs0_
   refine And.intro rfl (Fit2.of (Z7 hU rfl rfl ?_) (by omega))
   exact Qx hi0 hk0
  replace hs0_ := Zn c9 hs0_
  refine zXt ?_
  have hs0_ := Option.some.inj hs0_; subst hs0_
  refine And.intro (fun h => by cases h) (And.intro rfl (Fit2.of (Z7 hU rfl rfl ?_) (by omega)))
  exact Qx hi0 hk0
 rcases z10 with z10 | z10
 ·dsimp only [Gn] at hw h
  refine Zc0 hw ?_
  try simp only [Xc, Ym, ↓reduceIte, Nat.reduceEqDiff]
  have h := Option.some.inj h; subst h
  refine J9 (k := 0) (i := i0) (q1 := ⟨false, 85, 1, 1, [(vI z10.2)]⟩) (L3 := [none]) (E2 := (⟨33, [], [(6, (vI z10.1))]⟩ : Env)) (n3 := (n + 1)) (.inr rfl) hU rfl [(vI z10.1)] ?_ ?_
  ·refine Fit2.trans (E' := (⟨33, [], [(6, (vI z10.1))]⟩ : Env)) (O' := (Zr (O.upd i0 (some ⟨false, 85, 1, 1, [(vI z10.2)]⟩)) n [none])) (n' := (n + 1)) (Fit2.of (Z7 hU rfl rfl ?_) (by omega)) ?_
   ·exact Qx hi0 hk0
   refine X9 (k := 1) (k' := 1) hU [0] [0] rfl rfl rfl rfl ⟨rfl, rfl⟩ ?_
   exact Qx hi0 hk0
  simp only [push_cast, seval, ↓reduceIte, Zh, Try.results88, hi0, hk0, hN0, hN]
 dsimp only [Gn] at hw h
 refine Y0 hw ?_
 try simp only [Xc, Ym, ↓reduceIte, Nat.reduceEqDiff]
 refine zD [] [false] ?_
 refine U3 [6] hi0 hk0 ?_
 refine zW ?_
 have h := Option.some.inj h; subst h
 refine J9 (k := 0) (i := i0) (q1 := ⟨false, 85, 1, 1, [(vI z10)]⟩) (L3 := [none]) (E2 := (⟨33, [], [(6, (vI 0))]⟩ : Env)) (n3 := (n + 1)) (.inr rfl) hU rfl [(vI 0)] ?_ ?_
 ·refine Fit2.trans (E' := (⟨33, [], [(6, (vI 0))]⟩ : Env)) (O' := (Zr (O.upd i0 (some ⟨false, 85, 1, 1, [(vI z10)]⟩)) n [none])) (n' := (n + 1)) (Fit2.of (Z7 hU rfl rfl ?_) (by omega)) ?_
  ·exact Qx hi0 hk0
  refine X9 (k := 1) (k' := 1) hU [0] [0] rfl rfl rfl rfl ⟨rfl, rfl⟩ ?_
  exact Qx hi0 hk0
 simp only [push_cast, seval, ↓reduceIte, Zh, Try.results88, hi0, hk0, hN0, hN]
theorem Zie {Z9 : (Zf → Zb → Int → Option (Int × Zf))} {Z8 : (Zf → Zb → Int → Option (Int × Zf))} {Ya : (Zf → Zb → Int → Option (Int × Zf))} (Gu : Vc Z9) (Vu : Vt Z8) (Uw : Kf Ya) {a0 : Zf} {a1 : Zb} {a2 : Int} {r : (Int × Zf)} {O : Objs} {n : Nat} {i0 : Nat} (hi0 : i0 < n) (ho0 : O i0 = some ⟨false, 85, 1, 1, [(vI a0.left)]⟩) (h : Qm Z9 Z8 Ya a0 a1 a2 = some r) : GTo Try.prog 89 [.ref i0 0, .agg (Zk a1), (vI a2)] O n ((vI r.1)) (Zr (O.upd i0 (some ⟨false, 85, 1, 1, [(vI r.2.left)]⟩)) n []) (n + 0) := by
 unfold Qm at h
 refine Zpw Zv Try.call89 Try.func89 rfl (Nat.le_of_ble_eq_true rfl) (by omega) fun hU => ?_
 rw [show Zr O n [] = Zr (O.upd i0 (some ⟨false, 85, 1, 1, [(vI a0.left)]⟩)) n [] from by rw [Zs3 (show O i0 = _ from by exact ho0)]]
 have hk0 : ∀ k, i0 < n + k := fun k => by omega
 have hN0 : ∀ o, Objs.upd O i0 o n = none := fun o => Kl hU hi0 _ (Nat.le_refl _)
 have hN : ∀ o k, Objs.upd O i0 o (n + k) = none := fun o k => Kl hU hi0 _ (Nat.le_add_right _ _)
 show W _ _ _ _ ⟨34, [], [(0, .ref i0 0), (1, .agg (Zk a1)), (2, (vI a2))]⟩ (Zr (O.upd i0 (some ⟨false, 85, 1, 1, [(vI a0.left)]⟩)) n []) _
 refine U3 [0, 2, 4] hi0 hk0 ?_
 refine Zg ?_
 refine Zg ?_
 obtain ⟨y2, hy2, h⟩ := bC h
 refine Jm [] hi0 hk0 ?_
 refine (Xk hy2).then ?_
 refine zX2 hi0 hk0 ?_
 refine zD [0, 2, 4, 12, 13] [true] ?_
 refine zD [0, 2, 4, 12, 13] [true] ?_
 obtain ⟨z10, hz10, h⟩ := bC h
 refine Ziw (J := (Gn (fun z10 => JR n (⟨34, [], [(6, (vI z10.1))]⟩ : Env) (Zr (O.upd i0 (some ⟨false, 85, 1, 1, [(vI z10.2)]⟩)) n [none]) (n + 1)) (fun z10 => JX 0 n (⟨34, [], []⟩ : Env) (Zr (O.upd i0 (some ⟨false, 85, 1, 1, [(vI z10)]⟩)) n [none]) (n + 1)))) (z := z10) ?_ fun hw => ?_
 ·refine Xm hz10 (fun s0_ => ⟨34, [], [(0, .ref i0 0), (2, (vI a2)), (4, .ref n 0), (12, (vI y2)), (13, (vI s0_.1))]⟩) (fun s0_ => (Zr (O.upd i0 (some ⟨false, 85, 1, 1, [(vI s0_.2)]⟩)) n [some ⟨false, 50, 9, 1, (Zk a1)⟩])) (Gn (fun z10 => JR n (⟨34, [], [(6, (vI z10.1))]⟩ : Env) (Zr (O.upd i0 (some ⟨false, 85, 1, 1, [(vI z10.2)]⟩)) n [none]) (n + 1)) (fun z10 => JX 0 n (⟨34, [], []⟩ : Env) (Zr (O.upd i0 (some ⟨false, 85, 1, 1, [(vI z10)]⟩)) n [none]) (n + 1))) ?_
  intro s0_ x0_ hs0_
  unfold Qo at hs0_
  try dsimp only
  refine U3 [0, 2, 4, 12, 13, 14] hi0 hk0 ?_
  refine Zg ?_
  refine Zm (t := (decide (s0_.1 < y2))) rfl (fun c9 => ?_) (fun c9 => ?_)
  ·replace hs0_ := Zo c9 hs0_
   refine J6 [0, 2, 4, 12, 13] [true] ?_
   refine Zg ?_
   refine Yj ?_
   refine U3 [0, 2, 4, 7, 12, 13] hi0 hk0 ?_
   refine Zg ?_
   obtain ⟨y4, hy4, hs0_⟩ := bC hs0_
   refine Jm [] hi0 hk0 ?_
   refine (Zek hy4).then ?_
   refine zX2 hi0 hk0 ?_
   refine zDs [0, 2, 4, 8, 9, 12, 13] [true, true] ?_
   refine U3 [0, 2, 4, 8, 9, 12, 13, 23] hi0 hk0 ?_
   refine Zm (t := (y4.2 != 0)) rfl (fun c8 => ?_) (fun c8 => ?_)
   ·replace hs0_ := Zo c8 hs0_
    refine U3 [6] hi0 hk0 ?_
    refine zW ?_
    have hs0_ := Option.some.inj hs0_; subst hs0_
    refine And.intro (fun h => by cases h) (And.intro rfl (Fit2.of (Z7 hU rfl rfl ?_) (by omega)))
    exact Qx hi0 hk0
   replace hs0_ := Zn c8 hs0_
   refine J6 [0, 2, 4, 8, 12, 13] [true, true] ?_
   refine Zg ?_
   obtain ⟨y6, hy6, hs0_⟩ := bC hs0_
   refine Jm [] hi0 hk0 ?_
   refine (Vu (i0 := i0) (by omega) (by simp only [push_cast, seval, ↓reduceIte, Zh, K3, hi0, hk0, hN0, hN] <;> rfl) hy6).then ?_
   refine zX2 hi0 hk0 ?_
   refine zD [0, 2, 4, 10, 12, 13] [true, false] ?_
   refine U3 [0, 2, 4, 10, 12, 13, 31] hi0 hk0 ?_
   refine Zm (t := (y6.1 != 0)) rfl (fun c7 => ?_) (fun c7 => ?_)
   ·replace hs0_ := Zo c7 hs0_
    refine U3 [6] hi0 hk0 ?_
    refine zW ?_
    have hs0_ := Option.some.inj hs0_; subst hs0_
    refine And.intro (fun h => by cases h) (And.intro rfl (Fit2.of (Z7 hU rfl rfl ?_) (by omega)))
    exact Qx hi0 hk0
   replace hs0_ := Zn c7 hs0_
   refine J6 [0, 2, 4, 12, 13] [true, false] ?_
   refine Jm [] hi0 hk0 ?_
   have hs0_ := Option.some.inj hs0_; subst hs0_
   refine And.intro rfl (Fit2.of (Z7 hU rfl rfl ?_) (by omega))
   exact Qx hi0 hk0
  replace hs0_ := Zn c9 hs0_
  refine zXt ?_
  have hs0_ := Option.some.inj hs0_; subst hs0_
  refine And.intro (fun h => by cases h) (And.intro rfl (Fit2.of (Z7 hU rfl rfl ?_) (by omega)))
  exact Qx hi0 hk0
 rcases z10 with z10 | z10
 ·dsimp only [Gn] at hw h
  refine Zc0 hw ?_
  try simp only [Xc, Ym, ↓reduceIte, Nat.reduceEqDiff]
  have h := Option.some.inj h; subst h
  refine J9 (k := 0) (i := i0) (q1 := ⟨false, 85, 1, 1, [(vI z10.2)]⟩) (L3 := [none]) (E2 := (⟨34, [], [(6, (vI z10.1))]⟩ : Env)) (n3 := (n + 1)) (.inr rfl) hU rfl [(vI z10.1)] ?_ ?_
  ·refine Fit2.trans (E' := (⟨34, [], [(6, (vI z10.1))]⟩ : Env)) (O' := (Zr (O.upd i0 (some ⟨false, 85, 1, 1, [(vI z10.2)]⟩)) n [none])) (n' := (n + 1)) (Fit2.of (Z7 hU rfl rfl ?_) (by omega)) ?_
   ·exact Qx hi0 hk0
   refine X9 (k := 1) (k' := 1) hU [0] [0] rfl rfl rfl rfl ⟨rfl, rfl⟩ ?_
   exact Qx hi0 hk0
  simp only [push_cast, seval, ↓reduceIte, Zh, Try.results89, hi0, hk0, hN0, hN]
 dsimp only [Gn] at hw h
 refine Y0 hw ?_
 try simp only [Xc, Ym, ↓reduceIte, Nat.reduceEqDiff]
 refine zD [] [false] ?_
 refine U3 [6] hi0 hk0 ?_
 refine zW ?_
 have h := Option.some.inj h; subst h
 refine J9 (k := 0) (i := i0) (q1 := ⟨false, 85, 1, 1, [(vI z10)]⟩) (L3 := [none]) (E2 := (⟨34, [], [(6, (vI 0))]⟩ : Env)) (n3 := (n + 1)) (.inr rfl) hU rfl [(vI 0)] ?_ ?_
 ·refine Fit2.trans (E' := (⟨34, [], [(6, (vI 0))]⟩ : Env)) (O' := (Zr (O.upd i0 (some ⟨false, 85, 1, 1, [(vI z10)]⟩)) n [none])) (n' := (n + 1)) (Fit2.of (Z7 hU rfl rfl ?_) (by omega)) ?_
  ·exact Qx hi0 hk0
  refine X9 (k := 1) (k' := 1) hU [0] [0] rfl rfl rfl rfl ⟨rfl, rfl⟩ ?_
  exact Qx hi0 hk0
 simp only [push_cast, seval, ↓reduceIte, Zh, Try.results89, hi0, hk0, hN0, hN]
theorem Zic : ∀ k, (Vc ((Zp k).1)) ∧ (Vt ((Zp k).2.1)) ∧ (Kf ((Zp k).2.2)) := fun k => by
 induction k with
 | zero => exact ⟨@fun a0 a1 a2 r O n i0 hi0 ho0 h => (nomatch (show (none : Option _) = some _ from h)), @fun a0 a1 a2 r O n i0 hi0 ho0 h => (nomatch (show (none : Option _) = some _ from h)), @fun a0 a1 a2 r O n i0 hi0 ho0 h => (nomatch (show (none : Option _) = some _ from h))⟩
 | succ k ih => exact ⟨@fun a0 a1 a2 r O n i0 hi0 ho0 h => Zj2 (ih.1) (ih.2.1) (ih.2.2) hi0 ho0 h, @fun a0 a1 a2 r O n i0 hi0 ho0 h => Zk6 (ih.1) (ih.2.1) (ih.2.2) hi0 ho0 h, @fun a0 a1 a2 r O n i0 hi0 ho0 h => Zie (ih.1) (ih.2.1) (ih.2.2) hi0 ho0 h⟩
theorem Zk4 {a0 : Zf} {a1 : Zb} {a2 : Int} {r : (Int × Zf)} {O : Objs} {n : Nat} {i0 : Nat} (hi0 : i0 < n) (ho0 : O i0 = some ⟨false, 85, 1, 1, [(vI a0.left)]⟩) (h : Zbr a0 a1 a2 = some r) : GTo Try.prog 55 [.ref i0 0, .agg (Zk a1), (vI a2)] O n ((vI r.1)) (Zr (O.upd i0 (some ⟨false, 85, 1, 1, [(vI r.2.left)]⟩)) n []) (n + 0) := by
 obtain ⟨k, hk⟩ := Zaj h
 exact (Zic k).1 hi0 ho0 hk
theorem Zvt {a0 : (Option Zj)} {a1 : Ye} {r : (Int × Int)} {O : Objs} {n : Nat} (h : Zdb a0 a1 = some r) : GTo Try.prog 31 [(gP Zl a0), .agg (Yy a1)] O n (.tup [(vI r.1), (vI r.2)]) O n := by
 unfold Zdb at h
 refine zFn Try.call31 Try.func31 fun hU hN0 hN => ?_
 show W _ _ _ _ ⟨35, [], [(0, (gP Zl a0)), (1, .agg (Yy a1))]⟩ (Zr O n []) _
 refine zQ [0, 3] ?_
 refine Zg ?_
 obtain ⟨y2, hy2, h⟩ := bC h
 refine zCd (Zuh hy2) [0, 3] [true] ?_
 refine Zg ?_
 obtain ⟨y4, hy4, h⟩ := bC h
 refine zCd (Zm2 hy4) [3, 6, 7] [true, true] ?_
 refine Zg ?_
 refine zQ [3, 6, 7, 18] ?_
 refine Zm (t := (y4.2 != 0)) rfl (fun c8 => ?_) (fun c8 => ?_)
 ·replace h := Zo c8 h
  refine zQ [4, 5] ?_
  exact Z4 [(vI 0), (vI y4.2)]
 replace h := Zn c8 h
 refine J6 [3, 6] [true, true] ?_
 refine Zg ?_
 refine zRd [3, 6, 8] [true, true, true] ?_
 refine Zg ?_
 refine Zg ?_
 obtain ⟨y6, hy6, h⟩ := bC h
 refine zR ?_
 refine (Zk4 (i0 := (n + 2)) (by omega) (by simp only [push_cast, seval, ↓reduceIte, Zh, K3, hN0, hN] <;> rfl) hy6).then ?_
 refine zS ?_
 refine zD [3, 8, 9] [true, false, true] ?_
 refine zQ [3, 8, 9, 28] ?_
 refine Zm (t := (y6.1 != 0)) rfl (fun c7 => ?_) (fun c7 => ?_)
 ·replace h := Zo c7 h
  refine zQ [4, 5] ?_
  exact Z4 [(vI 0), (vI y6.1)]
 replace h := Zn c7 h
 refine J6 [3, 8] [true, false, true] ?_
 refine zQ [4, 5] ?_
 exact Z4 [(vI (IntKind.i64.wrap (y2.Weight - y6.2.left))), (vI 0)]
theorem Ztq {a0 : Zb} {r : Int} {O : Objs} {n : Nat} (h : Zbg a0 = some r) : GTo Try.prog 90 [.agg (Zk a0)] O n ((vI r)) O n := by
 unfold Zbg at h
 refine zFn Try.call90 Try.func90 fun hU hN0 hN => ?_
 show W _ _ _ _ ⟨20, [], [(0, .agg (Zk a0))]⟩ (Zr O n []) _
 refine zQ [1] ?_
 refine Zg ?_
 refine Zg ?_
 obtain ⟨y2, hy2, h⟩ := bC h
 refine zCd (Xl hy2) [1, 4] [true] ?_
 refine Yj ?_
 refine zQ [1, 4, 5] ?_
 refine Zm (t := (y2 == 0)) rfl (fun c11 => ?_) (fun c11 => ?_)
 ·replace h := Zo c11 h
  refine zQ [2] ?_
  exact Z4 [(vI 0)]
 replace h := Zn c11 h
 refine zQ [1, 4, 7] ?_
 refine Zm (t := (y2 == 1)) rfl (fun c10 => ?_) (fun c10 => ?_)
 ·replace h := Zo c10 h
  refine Zg ?_
  obtain ⟨y5, hy5, h⟩ := bC h
  obtain ⟨y6, hy6, h⟩ := bC h
  refine Q8 Zv (by kernel_rfl) [] (by kernel_rfl) ?_
  refine zS ?_
  refine PCall.of (Zad hy5) ?_
  refine zS ?_
  refine PCall.of (Xk hy6) ?_
  refine zS ?_
  refine zD [2] [false] ?_
  exact Z4 [(vI (IntKind.i64.wrap ((IntKind.i64.wrap (1 + y5)) + y6)))]
 replace h := Zn c10 h
 refine zQ [1, 15] ?_
 refine Zm (t := (y2 == 8)) rfl (fun c9 => ?_) (fun c9 => ?_)
 ·replace h := Zo c9 h
  refine Zg ?_
  obtain ⟨y8, hy8, h⟩ := bC h
  refine zCd (Xk hy8) [2] [false] ?_
  exact Z4 [(vI (IntKind.i64.wrap (1 + y8)))]
 replace h := Zn c9 h
 refine J6 [] [false] ?_
 refine zQ [2] ?_
 exact Z4 [(vI 1)]
theorem Zug {a0 : Zb} {r : Bool} {O : Objs} {n : Nat} (h : Zca a0 = some r) : GTo Try.prog 91 [.agg (Zk a0)] O n ((vB r)) O n := by
 unfold Zca at h
 refine zFn Try.call91 Try.func91 fun hU hN0 hN => ?_
 show W _ _ _ _ ⟨11, [], [(0, .agg (Zk a0))]⟩ (Zr O n []) _
 refine zQ [1] ?_
 obtain ⟨z4, hz4, h⟩ := bC h
 refine Xo (E' := ⟨11, [], [(2, (vB z4))]⟩) (O' := (Zr O n [none])) (n0 := (n + 1)) ?_ ?_
 ·obtain ⟨y8, hy8, hz4⟩ := bC hz4
  rcases Bool.eq_false_or_eq_true (y8 == 1) with c11 | c11
  ·replace hz4 := Zo c11 hz4
   refine K9 [some false, some false, some false] c11 ?_
   refine (Xl hy8).then ?_
   refine zX1 c11 ?_
   exact Kp hz4 c11
  replace hz4 := Zn c11 hz4
  obtain ⟨y9, hy9, hz4⟩ := bC hz4
  obtain ⟨y10, hy10, hz4⟩ := bC hz4
  refine K9 [some true, some true, some true] c11 ?_
  refine (Xl hy8).then ?_
  refine zX1 c11 ?_
  refine (Xl hy9).then ?_
  refine zX1 c11 ?_
  refine (Zqz hy10).then ?_
  refine zX1 c11 ?_
  exact Kp hz4 c11
 exact Z4 [(vB z4)]
theorem Z1p {a0 : (List Int)} {a1 : Int} {a2 : Int} {r : Int} {O : Objs} {n : Nat} (h : Zhf a0 a1 a2 = some r) : GTo Try.prog 119 [(sL (eI .u64) a0), (vI a1), (vI a2)] O n (.val (.int .u64 r)) O n := by
 unfold Zhf at h
 refine zFn Try.call119 Try.func119 fun hU hN0 hN => ?_
 show W _ _ _ _ ⟨45, [], [(0, (sL (eI .u64) a0)), (1, (vI a1)), (2, (vI a2))]⟩ (Zr O n []) _
 refine zQ [0, 1, 2] ?_
 refine Zg ?_
 obtain ⟨y2, hy2, h⟩ := bC h
 refine zCd (Zdc hy2) [0, 2, 7] [] ?_
 refine Zg ?_
 refine zQD [0, 2, 7, 20] [none, none] ?_
 refine Zm (t := (cond (y2.1 == 0) true (decide (a2 < 0)))) rfl (fun c18 => ?_) (fun c18 => ?_)
 ·replace h := Zo c18 h
  refine zQ [6] ?_
  exact Z4 [.val (.int .u64 0)]
 replace h := Zn c18 h
 refine J6 [0, 2, 7] [] ?_
 obtain ⟨pu4, h⟩ := bG h
 refine Zc2 [0, 2, 7, 9] (Z5 Zv [] ?_)
 simp only [push_cast, seval, ↓reduceIte, Zh, pu4, hN0, hN]
 refine Zg ?_
 obtain ⟨pu6, h⟩ := bG h
 refine Zc2 [0, 2, 7, 9, 28] (Z5 Zv [] ?_)
 simp only [push_cast, seval, ↓reduceIte, Zh, pu6, hN0, hN]
 refine Zm (t := (decide ((a0.length : Int) ≤ (IntKind.i64.wrap (Int.tdiv a2 (IntKind.i64.wrap (Int.tdiv 64 y2.1))))))) rfl (fun c17 => ?_) (fun c17 => ?_)
 ·replace h := Zo c17 h
  refine zQ [6] ?_
  exact Z4 [.val (.int .u64 0)]
 replace h := Zn c17 h
 refine J6 [0, 2, 7, 9] [] ?_
 obtain ⟨pu12, h⟩ := bG h
 obtain ⟨x13, hx13, ax13, bx13, cx13, h⟩ := bE (f := (eI .u64)) U2 (fun _ => rfl) (by decide) h
 obtain ⟨pu14, h⟩ := bG h
 obtain ⟨pu15, h⟩ := bG h
 obtain ⟨pu16, h⟩ := bG h
 refine Zc2 [6] (Q8 Zv (by kernel_rfl) [] (by kernel_rfl) ?_)
 refine zF7 pu12 ax13 bx13 cx13 pu14 pu15 pu16 ?_
 exact Z4 [.val (.int .u64 (IntKind.u64.wrap (Zb2 .u64 (Int.fdiv x13 (2 ^ min (Int.toNat (IntKind.i64.wrap ((Int.tmod a2 (IntKind.i64.wrap (Int.tdiv 64 y2.1))) * y2.1))) 64)) (IntKind.u64.wrap ((IntKind.u64.wrap (1 * 2 ^ min (Int.toNat y2.1) 64)) - 1)))))]
theorem Zm1 {a0 : Zb} {r : Int} {O : Objs} {n : Nat} (h : V2 a0 = some r) : GTo Try.prog 83 [.agg (Zk a0)] O n (.val (.int .u64 r)) O n := by
 unfold V2 at h
 refine zFn Try.call83 Try.func83 fun hU hN0 hN => ?_
 show W _ _ _ _ ⟨42, [], [(0, .agg (Zk a0))]⟩ (Zr O n []) _
 refine zQ [1] ?_
 refine Zg ?_
 obtain ⟨y2, hy2, h⟩ := bC h
 refine zCd (Zdc hy2) [1, 3] [true] ?_
 refine Zg ?_
 refine zQ [1, 3, 15] ?_
 refine Zm (t := (y2.1 == 0)) rfl (fun c13 => ?_) (fun c13 => ?_)
 ·replace h := Zo c13 h
  refine zQ [2] ?_
  exact Z4 [.val (.int .u64 0)]
 replace h := Zn c13 h
 refine J6 [1, 3] [true] ?_
 obtain ⟨pu4, h⟩ := bG h
 refine Zc2 [1, 5] (Z5 Zv [] ?_)
 simp only [push_cast, seval, ↓reduceIte, Zh, pu4, hN0, hN]
 refine Zg ?_
 obtain ⟨pu7, h⟩ := bG h
 obtain ⟨y8, hy8, h⟩ := bC h
 refine Q8 Zv (by kernel_rfl) [] (by kernel_rfl) ?_
 simp only [push_cast, seval, ↓reduceIte, Zh, pu7, hN0, hN]
 refine PCall.of (Uv hy8) ?_
 simp only [push_cast, seval, ↓reduceIte, Zh, pu7, hN0, hN]
 refine zDs [1, 5, 6] [true] ?_
 obtain ⟨pu11, h⟩ := bG h
 obtain ⟨y12, hy12, h⟩ := bC h
 refine Zih Zv (by kernel_rfl) [.plain, .pass, .low, .low, .low, .low, .plain, .low, .bar, .plain] (fun i => i < (n + 1)) [0, 2, 3, 4, 5, 6, 7, 1, 8, 9] [.plain, .low, .low, .low, .low, .plain, .low, .pass, .bar, .plain] [] (by kernel_rfl) rfl ?_
 simp only [push_cast, seval, ↓reduceIte, Zh, pu11, hN0, hN]
 refine zO ?_
 refine GCalls.lend (Z1p hy12) rfl ?_ ?_
 ·simp only [push_cast, seval, ↓reduceIte, Zh, pu11, hN0, hN]
 simp only [push_cast, seval, ↓reduceIte, Zh, pu11, hN0, hN]
 refine zO ?_
 refine Zc1 ⟨42, [], [(2, .val (.int .u64 y12))]⟩ (Zr O n [none, none]) (Yq hU rfl rfl ?_) ?_
 ·simp only [push_cast, seval, ↓reduceIte, Zh, pu11, hN0, hN]
 exact Z4 [.val (.int .u64 y12)]
theorem Zhk {a0 : Zb} {a1 : Int} {r : Int} {O : Objs} {n : Nat} (h : Gi a0 a1 = some r) : GTo Try.prog 53 [.agg (Zk a0), (vI a1)] O n (.val (.int .u64 r)) O n := by
 unfold Gi at h
 refine zFn Try.call53 Try.func53 fun hU hN0 hN => ?_
 show W _ _ _ _ ⟨33, [], [(0, .agg (Zk a0)), (1, (vI a1))]⟩ (Zr O n []) _
 refine zQ [1, 2] ?_
 refine Zg ?_
 obtain ⟨z2, hz2, h⟩ := bC h
 refine Xo (E' := ⟨33, [], [(1, (vI a1)), (2, .ref n 0), (14, (vB z2))]⟩) (O' := (Zr O n [some ⟨false, 50, 9, 1, (Zk a0)⟩])) (n0 := (n + 1)) ?_ ?_
 ·rcases Bool.eq_false_or_eq_true (decide (a1 < 0)) with c5 | c5
  ·replace hz2 := Zo c5 hz2
   refine K9 [some false, some false, some false, some false] c5 ?_
   exact Kp hz2 c5
  replace hz2 := Zn c5 hz2
  obtain ⟨y4, hy4, hz2⟩ := bC hz2
  refine K9 [some true, some true, some true, some true] c5 ?_
  refine (Zad hy4).then ?_
  refine zX1 c5 ?_
  exact Kp hz2 c5
 refine Zm (t := z2) rfl (fun c11 => ?_) (fun c11 => ?_)
 ·replace h := Zo c11 h
  refine zQ [4] ?_
  exact Z4 [.val (.int .u64 0)]
 replace h := Zn c11 h
 refine J6 [1, 2] [true] ?_
 refine Zg ?_
 refine zQ [1, 2, 17] ?_
 refine Zm (t := (a0.kind == 10)) rfl (fun c10 => ?_) (fun c10 => ?_)
 ·replace h := Zo c10 h
  refine Zg ?_
  obtain ⟨y7, hy7, h⟩ := bC h
  refine zCd (Zm1 hy7) [4] [false] ?_
  exact Z4 [.val (.int .u64 y7)]
 replace h := Zn c10 h
 refine J6 [1, 2] [true] ?_
 refine Zg ?_
 obtain ⟨y9, hy9, h⟩ := bC h
 refine zCd (Uv hy9) [5] [false] ?_
 refine zQ [4] ?_
 exact Z4 [.val (.int .u64 y9.1)]
def Zcd (Xd : (Zq → Zb → Int → Option (Za × Int × Zq))) : Prop := ∀ {a0 : Zq} {a1 : Zb} {a2 : Int} {r : (Za × Int × Zq)} {O : Objs} {n : Nat} {i0 : Nat}, i0 < n → O i0 = some ⟨false, 88, 1, 1, [(vI a0.left)]⟩ → Xd a0 a1 a2 = some r → GTo Try.prog 56 [.ref i0 0, .agg (Zk a1), (vI a2)] O n (.tup [.agg (Zd r.1), (vI r.2.1)]) (Zr (O.upd i0 (some ⟨false, 88, 1, 1, [(vI r.2.2.left)]⟩)) n []) (n + 0)
theorem Zid {Xd : (Zq → Zb → Int → Option (Za × Int × Zq))} (Zhj : Zcd Xd) {a0 : Zq} {a1 : Zb} {a2 : Int} {r : (Za × Int × Zq)} {O : Objs} {n : Nat} {i0 : Nat} (hi0 : i0 < n) (ho0 : O i0 = some ⟨false, 88, 1, 1, [(vI a0.left)]⟩) (h : Xb Xd a0 a1 a2 = some r) : GTo Try.prog 56 [.ref i0 0, .agg (Zk a1), (vI a2)] O n (.tup [.agg (Zd r.1), (vI r.2.1)]) (Zr (O.upd i0 (some ⟨false, 88, 1, 1, [(vI r.2.2.left)]⟩)) n []) (n + 0) := by
 unfold Xb at h
 refine Zpw Zv Try.call56 Try.func56 rfl (Nat.le_of_ble_eq_true rfl) (by omega) fun hU => ?_
 rw [show Zr O n [] = Zr (O.upd i0 (some ⟨false, 88, 1, 1, [(vI a0.left)]⟩)) n [] from by rw [Zs3 (show O i0 = _ from by exact ho0)]]
 have hk0 : ∀ k, i0 < n + k := fun k => by omega
 have hN0 : ∀ o, Objs.upd O i0 o n = none := fun o => Kl hU hi0 _ (Nat.le_refl _)
 have hN : ∀ o k, Objs.upd O i0 o (n + k) = none := fun o k => Kl hU hi0 _ (Nat.le_add_right _ _)
 show W _ _ _ _ ⟨89, [], [(0, .ref i0 0), (1, .agg (Zk a1)), (2, (vI a2))]⟩ (Zr (O.upd i0 (some ⟨false, 88, 1, 1, [(vI a0.left)]⟩)) n []) _
 refine U3 [0, 2, 4, 6] hi0 hk0 ?_
 refine Zg ?_
 obtain ⟨y2, hy2, h⟩ := bC h
 refine Ze5 Zv (by kernel_rfl) [false, false, false, false, false, false, false, false, false, true] [] (by kernel_rfl) ?_
 refine zX2 hi0 hk0 ?_
 refine PCall.of (Ztq hy2) ?_
 refine zX2 hi0 hk0 ?_
 refine zDs [0, 2, 4, 6] [true, true] ?_
 obtain ⟨z4, hz4, h⟩ := bC h
 refine Xo (E' := ⟨89, [], [(0, .ref i0 0), (2, (vI a2)), (4, .ref n 0), (6, .ref (n + 1) 0), (35, (vB z4))]⟩) (O' := (Zr (O.upd i0 (some ⟨false, 88, 1, 1, [(vI (IntKind.i64.wrap (a0.left - y2)))]⟩)) n [some ⟨false, 50, 9, 1, (Zk a1)⟩, some ⟨false, 29, 3, 1, [(vI 0), nV, nV]⟩])) (n0 := (n + 2)) ?_ ?_
 ·rcases Bool.eq_false_or_eq_true (decide ((IntKind.i64.wrap (a0.left - y2)) < 0)) with c7 | c7
  ·replace hz4 := Zo c7 hz4
   refine Zs7 [some false, some false, some false, some false, some false, some false] c7 hi0 hk0 ?_
   have hz4 := Option.some.inj hz4; subst hz4
   refine And.intro rfl (Fit2.of (Z7 hU rfl rfl ?_) (by omega))
   exact Z42 c7 hi0 hk0
  replace hz4 := Zn c7 hz4
  rcases Bool.eq_false_or_eq_true (a2 == 0) with c8 | c8
  ·replace hz4 := Zo c8 hz4
   try rw [c8] at c7
   obtain ⟨y6, hy6, hz4⟩ := bC hz4
   refine Z3r [some true, some true, some true, some true, some true, some true] c7 c8 hi0 hk0 ?_
   refine (Zug hy6).then ?_
   refine zX4 c7 c8 hi0 hk0 ?_
   have hz4 := Option.some.inj hz4; subst hz4
   refine And.intro rfl (Fit2.of (Z7 hU rfl rfl ?_) (by omega))
   exact Yd4 c7 c8 hi0 hk0
  replace hz4 := Zn c8 hz4
  try rw [c8] at c7
  refine Z3r [some true, some true, some true, some false, some false, some true] c7 c8 hi0 hk0 ?_
  have hz4 := Option.some.inj hz4; subst hz4
  refine And.intro rfl (Fit2.of (Z7 hU rfl rfl ?_) (by omega))
  exact Yd4 c7 c8 hi0 hk0
 refine Zm (t := z4) rfl (fun c28 => ?_) (fun c28 => ?_)
 ·replace h := Zo c28 h
  refine Zg ?_
  refine Jm [] hi0 hk0 ?_
  refine zD [6, 7] [false, true] ?_
  refine zW ?_
  have h := Option.some.inj h; subst h
  refine J9 (k := 0) (i := i0) (q1 := ⟨false, 88, 1, 1, [(vI (IntKind.i64.wrap (a0.left - y2)))]⟩) (L3 := [some ⟨false, 29, 3, 1, [(vI 0), nV, nV]⟩, none]) (E2 := (⟨89, [], [(6, .ref n 0), (7, (vI 3))]⟩ : Env)) (n3 := (n + 2)) (.inr rfl) hU rfl [.agg [(vI 0), nV, nV], (vI 3)] ?_ ?_
  ·refine Fit2.trans (E' := (⟨89, [], [(6, .ref (n + 1) 0), (7, (vI 3))]⟩ : Env)) (O' := (Zr (O.upd i0 (some ⟨false, 88, 1, 1, [(vI (IntKind.i64.wrap (a0.left - y2)))]⟩)) n [none, some ⟨false, 29, 3, 1, [(vI 0), nV, nV]⟩])) (n' := (n + 2)) (Fit2.of (Z7 hU rfl rfl ?_) (by omega)) ?_
   ·exact Qx hi0 hk0
   refine X9 (k := 2) (k' := 2) hU [1, 0] [1, 0] rfl rfl rfl rfl ⟨rfl, rfl⟩ ?_
   exact Qx hi0 hk0
  simp only [push_cast, seval, ↓reduceIte, Zh, Try.results56, hi0, hk0, hN0, hN]
 replace h := Zn c28 h
 refine J6 [0, 2, 4, 6] [true, true] ?_
 refine Zg ?_
 obtain ⟨y10, hy10, h⟩ := bC h
 refine Jm [] hi0 hk0 ?_
 refine (Xl hy10).then ?_
 refine zX2 hi0 hk0 ?_
 refine zDs [0, 2, 4, 6, 8] [true, true, true] ?_
 refine Zg ?_
 obtain ⟨y12, hy12, h⟩ := bC h
 refine Jm [] hi0 hk0 ?_
 refine (Zad hy12).then ?_
 refine zX2 hi0 hk0 ?_
 refine zD [0, 2, 4, 6, 8, 41, 42] [true, true, true] ?_
 refine zD [0, 2, 4, 6, 8, 41, 42] [true, true, true] ?_
 refine Zf9 (E' := (⟨89, [], [(0, .ref i0 0), (2, (vI a2)), (4, .ref n 0), (6, .ref (n + 1) 0), (8, .ref (n + 2) 0), (41, (vI y12)), (42, (vI 0))]⟩ : Env)) (O' := (Zr (O.upd i0 (some ⟨false, 88, 1, 1, [(vI (IntKind.i64.wrap (a0.left - y2)))]⟩)) n [some ⟨false, 50, 9, 1, (Zk a1)⟩, some ⟨false, 29, 3, 1, [(vI 0), nV, nV]⟩, some ⟨false, 29, 3, 1, [(vI y10), .row (n + 3) ([] : List Int).length, nV]⟩, some (oR 63 1 (eI .u64) ([] : List Int)), none])) (n' := (n + 5)) ?_ ?_
 ·refine Fit2.trans (E' := (⟨89, [], [(0, .ref i0 0), (2, (vI a2)), (4, .ref n 0), (6, .ref (n + 1) 0), (8, .ref (n + 2) 0), (41, (vI y12)), (42, (vI 0))]⟩ : Env)) (O' := (Zr (O.upd i0 (some ⟨false, 88, 1, 1, [(vI (IntKind.i64.wrap (a0.left - y2)))]⟩)) n [some ⟨false, 50, 9, 1, (Zk a1)⟩, some ⟨false, 29, 3, 1, [(vI 0), nV, nV]⟩, some ⟨false, 29, 3, 1, [(vI y10), nV, nV]⟩])) (n' := (n + 3)) (Fit2.of (Z7 hU rfl rfl ?_) (by omega)) ?_
  ·exact Qx hi0 hk0
  refine Fit2.trans (Zkn (p := (n + 2)) (k := 1) (q := ⟨false, 29, 3, 1, [(vI y10), nV, nV]⟩) 63 1 (by simp only [Zbq, Zgn, List.getElem?_cons_zero, List.getElem?_cons_succ, Option.join_some, List.length_nil, Yz]) rfl (by omega)) ?_
  simp only [Vy, Kj, Zdi, Zby, List.set_cons_zero, List.set_cons_succ, List.cons_append, List.nil_append, List.length_cons, List.length_nil, Nat.zero_add, Nat.reduceAdd, Nat.reduceLT, Nat.add_assoc, Ui, Zck, hi0, hk0, hN0, hN]
  refine X9 (k := 4) (k' := 5) hU [0, 1, 2, 3] [0, 1, 2, 3, 0] rfl rfl rfl rfl ⟨rfl, rfl⟩ ?_
  exact Qx hi0 hk0
 obtain ⟨z16, hz16, h⟩ := bC h
 refine Y0 (E' := ⟨89, [], [(0, .ref i0 0), (2, (vI a2)), (4, .ref n 0), (6, .ref (n + 1) 0), (8, .ref (n + 2) 0)]⟩) (O' := (Zr (O.upd i0 (some ⟨false, 88, 1, 1, [(vI (IntKind.i64.wrap (a0.left - y2)))]⟩)) n [some ⟨false, 50, 9, 1, (Zk a1)⟩, some ⟨false, 29, 3, 1, [(vI 0), nV, nV]⟩, some ⟨false, 29, 3, 1, [(vI y10), .row (n + 3) z16.length, nV]⟩, some (oR 63 1 (eI .u64) z16), none])) (n0 := (n + 5)) ?_ ?_
 ·refine Xm hz16 (fun s0_ => ⟨89, [], [(0, .ref i0 0), (2, (vI a2)), (4, .ref n 0), (6, .ref (n + 1) 0), (8, .ref (n + 2) 0), (41, (vI y12)), (42, (vI s0_.1))]⟩) (fun s0_ => (Zr (O.upd i0 (some ⟨false, 88, 1, 1, [(vI (IntKind.i64.wrap (a0.left - y2)))]⟩)) n [some ⟨false, 50, 9, 1, (Zk a1)⟩, some ⟨false, 29, 3, 1, [(vI 0), nV, nV]⟩, some ⟨false, 29, 3, 1, [(vI y10), .row (n + 3) s0_.2.length, nV]⟩, some (oR 63 1 (eI .u64) s0_.2), none])) (fun z16 => JX 0 n (⟨89, [], [(0, .ref i0 0), (2, (vI a2)), (4, .ref n 0), (6, .ref (n + 1) 0), (8, .ref (n + 2) 0)]⟩ : Env) (Zr (O.upd i0 (some ⟨false, 88, 1, 1, [(vI (IntKind.i64.wrap (a0.left - y2)))]⟩)) n [some ⟨false, 50, 9, 1, (Zk a1)⟩, some ⟨false, 29, 3, 1, [(vI 0), nV, nV]⟩, some ⟨false, 29, 3, 1, [(vI y10), .row (n + 3) z16.length, nV]⟩, some (oR 63 1 (eI .u64) z16), none]) (n + 5)) ?_
  intro s0_ x0_ hs0_
  unfold Y9 at hs0_
  try dsimp only
  refine U3 [0, 2, 4, 6, 8, 41, 42, 43] hi0 hk0 ?_
  refine Zg ?_
  refine Zm (t := (decide (s0_.1 < y12))) rfl (fun c15 => ?_) (fun c15 => ?_)
  ·replace hs0_ := Zo c15 hs0_
   refine J6 [0, 2, 4, 6, 8, 41, 42] [true, true, true, true, false] ?_
   refine Zg ?_
   refine Yj ?_
   refine U3 [0, 2, 4, 6, 8, 9, 41, 42] hi0 hk0 ?_
   obtain ⟨y13, hy13, hs0_⟩ := bC hs0_
   obtain ⟨l14, pl14, ql14, el14, hs0_⟩ := bA (k := 1) rfl hs0_
   refine Zih Zv (by kernel_rfl) [.low, .low, .plain, .plain, .plain, .pass, .bar, .plain, .bar] (fun i => i < (n + 5)) [0, 1, 2, 3, 4, 5, 6, 7, 8] [.low, .low, .plain, .plain, .plain, .pass, .bar, .plain, .bar] [] (by kernel_rfl) rfl ?_
   refine zX5 pl14 ql14 el14 hi0 hk0 ?_
   refine zO ?_
   first | refine PCallA.of (fun _ _ => Zhk hy13) ?_ | refine PCall.of (Zhk hy13) ?_
   refine zX5 pl14 ql14 el14 hi0 hk0 ?_
   refine zO ?_
   refine Zc1 ⟨89, [], [(0, .ref i0 0), (2, (vI a2)), (4, .ref n 0), (6, .ref (n + 1) 0), (8, .ref (n + 2) 0), (41, (vI y12)), (42, (vI s0_.1))]⟩ (Zr (O.upd i0 (some ⟨false, 88, 1, 1, [(vI (IntKind.i64.wrap (a0.left - y2)))]⟩)) n [some ⟨false, 50, 9, 1, (Zk a1)⟩, some ⟨false, 29, 3, 1, [(vI 0), nV, nV]⟩, some ⟨false, 29, 3, 1, [(vI y10), .row (n + 3) l14.length, nV]⟩, some (oR 63 1 (eI .u64) l14), none, none]) (Z7 hU rfl rfl ?_) ?_
   ·exact Yd5 pl14 ql14 el14 hi0 hk0
   refine Jm [] hi0 hk0 ?_
   have hs0_ := Option.some.inj hs0_; subst hs0_
   refine And.intro rfl (Fit2.of (Z7 hU rfl rfl ?_) (by omega))
   exact Qx hi0 hk0
  replace hs0_ := Zn c15 hs0_
  refine zXt ?_
  have hs0_ := Option.some.inj hs0_; subst hs0_
  refine And.intro (fun h => by cases h) (And.intro rfl (Fit2.of (Z7 hU rfl rfl ?_) (by omega)))
  exact Qx hi0 hk0
 try simp only [Xc, Ym, ↓reduceIte, Nat.reduceEqDiff]
 refine zDs [0, 2, 4, 6, 8] [true, true, true, true, false] ?_
 refine Zg ?_
 obtain ⟨y18, hy18, h⟩ := bC h
 refine Jm [] hi0 hk0 ?_
 refine (Xk hy18).then ?_
 refine zX2 hi0 hk0 ?_
 refine zD [0, 2, 4, 6, 8, 55, 56] [true, true, true, true, false] ?_
 refine zD [0, 2, 4, 6, 8, 55, 56] [true, true, true, true, false] ?_
 refine Zf9 (E' := (⟨89, [], [(0, .ref i0 0), (2, (vI a2)), (4, .ref n 0), (6, .ref (n + 1) 0), (8, .ref (n + 2) 0), (55, (vI y18)), (56, (vI 0))]⟩ : Env)) (O' := (Zr (O.upd i0 (some ⟨false, 88, 1, 1, [(vI (IntKind.i64.wrap (a0.left - y2)))]⟩)) n [some ⟨false, 50, 9, 1, (Zk a1)⟩, some ⟨false, 29, 3, 1, [(vI 0), nV, nV]⟩, some ⟨false, 29, 3, 1, [(vI y10), .row (n + 3) z16.length, .row (n + 5) ([] : List Za).length]⟩, some (oR 63 1 (eI .u64) z16), none, some (oR 29 3 Zc ([] : List Za)), none])) (n' := (n + 7)) ?_ ?_
 ·refine Fit2.trans (E' := (⟨89, [], [(0, .ref i0 0), (2, (vI a2)), (4, .ref n 0), (6, .ref (n + 1) 0), (8, .ref (n + 2) 0), (55, (vI y18)), (56, (vI 0))]⟩ : Env)) (O' := (Zr (O.upd i0 (some ⟨false, 88, 1, 1, [(vI (IntKind.i64.wrap (a0.left - y2)))]⟩)) n [some ⟨false, 50, 9, 1, (Zk a1)⟩, some ⟨false, 29, 3, 1, [(vI 0), nV, nV]⟩, some ⟨false, 29, 3, 1, [(vI y10), .row (n + 3) z16.length, nV]⟩, some (oR 63 1 (eI .u64) z16), none])) (n' := (n + 5)) (Fit2.of (Z7 hU rfl rfl ?_) (by omega)) ?_
  ·exact Qx hi0 hk0
  refine Fit2.trans (Zkn (p := (n + 2)) (k := 2) (q := ⟨false, 29, 3, 1, [(vI y10), .row (n + 3) z16.length, nV]⟩) 29 3 (by simp only [Zbq, Zgn, List.getElem?_cons_zero, List.getElem?_cons_succ, Option.join_some, List.length_nil, Yz]) rfl (by omega)) ?_
  simp only [Vy, Kj, Zdi, Zby, List.set_cons_zero, List.set_cons_succ, List.cons_append, List.nil_append, List.length_cons, List.length_nil, Nat.zero_add, Nat.reduceAdd, Nat.reduceLT, Nat.add_assoc, Ui, Zck, hi0, hk0, hN0, hN]
  refine X9 (k := 6) (k' := 7) hU [0, 1, 2, 3, 6, 5] [0, 1, 2, 3, 0, 5, 0] rfl rfl rfl rfl ⟨rfl, rfl⟩ ?_
  exact Qx hi0 hk0
 obtain ⟨z27, hz27, h⟩ := bC h
 refine Ziw (J := (Gn (fun z27 => JR n (⟨89, [], [(6, .ref (n + 1) 0), (7, (vI z27.1))]⟩ : Env) (Zr (O.upd i0 (some ⟨false, 88, 1, 1, [(vI z27.2)]⟩)) n [none, some ⟨false, 29, 3, 1, [(vI 0), nV, nV]⟩, none, none, none]) (n + 5)) (fun z27 => JX 2 n (⟨89, [], [(6, .ref (n + 1) 0), (8, .ref (n + 2) 0)]⟩ : Env) (Zr (O.upd i0 (some ⟨false, 88, 1, 1, [(vI z27.2)]⟩)) n [none, some ⟨false, 29, 3, 1, [(vI 0), nV, nV]⟩, some ⟨false, 29, 3, 1, [(vI y10), .row (n + 3) z16.length, .row (n + 5) z27.1.length]⟩, some (oR 63 1 (eI .u64) z16), none, some (oR 29 3 Zc z27.1), none]) (n + 7)))) (z := z27) ?_ fun hw => ?_
 ·refine Xm hz27 (fun s1_ => ⟨89, [], [(0, .ref i0 0), (2, (vI a2)), (4, .ref n 0), (6, .ref (n + 1) 0), (8, .ref (n + 2) 0), (55, (vI y18)), (56, (vI s1_.1))]⟩) (fun s1_ => (Zr (O.upd i0 (some ⟨false, 88, 1, 1, [(vI s1_.2.2)]⟩)) n [some ⟨false, 50, 9, 1, (Zk a1)⟩, some ⟨false, 29, 3, 1, [(vI 0), nV, nV]⟩, some ⟨false, 29, 3, 1, [(vI y10), .row (n + 3) z16.length, .row (n + 5) s1_.2.1.length]⟩, some (oR 63 1 (eI .u64) z16), none, some (oR 29 3 Zc s1_.2.1), none])) (Gn (fun z27 => JR n (⟨89, [], [(6, .ref (n + 1) 0), (7, (vI z27.1))]⟩ : Env) (Zr (O.upd i0 (some ⟨false, 88, 1, 1, [(vI z27.2)]⟩)) n [none, some ⟨false, 29, 3, 1, [(vI 0), nV, nV]⟩, none, none, none]) (n + 5)) (fun z27 => JX 2 n (⟨89, [], [(6, .ref (n + 1) 0), (8, .ref (n + 2) 0)]⟩ : Env) (Zr (O.upd i0 (some ⟨false, 88, 1, 1, [(vI z27.2)]⟩)) n [none, some ⟨false, 29, 3, 1, [(vI 0), nV, nV]⟩, some ⟨false, 29, 3, 1, [(vI y10), .row (n + 3) z16.length, .row (n + 5) z27.1.length]⟩, some (oR 63 1 (eI .u64) z16), none, some (oR 29 3 Zc z27.1), none]) (n + 7))) ?_
  intro s1_ x1_ hs1_
  unfold Yx at hs1_
  try dsimp only
  refine U3 [0, 2, 4, 6, 8, 55, 56, 57] hi0 hk0 ?_
  refine Zg ?_
  refine Zm (t := (decide (s1_.1 < y18))) rfl (fun c26 => ?_) (fun c26 => ?_)
  ·replace hs1_ := Zo c26 hs1_
   refine J6 [0, 2, 4, 6, 8, 55, 56] [true, true, true, true, false, true, false] ?_
   refine Zg ?_
   refine Yj ?_
   refine U3 [0, 2, 4, 6, 8, 10, 55, 56] hi0 hk0 ?_
   refine Zg ?_
   obtain ⟨y20, hy20, hs1_⟩ := bC hs1_
   refine Jm [] hi0 hk0 ?_
   refine (Zek hy20).then ?_
   refine zX2 hi0 hk0 ?_
   refine zDs [0, 2, 4, 6, 8, 11, 12, 55, 56] [true, true, true, true, false, true, false, true] ?_
   refine U3 [0, 2, 4, 6, 8, 11, 12, 55, 56, 66] hi0 hk0 ?_
   refine Zm (t := (y20.2 != 0)) rfl (fun c25 => ?_) (fun c25 => ?_)
   ·replace hs1_ := Zo c25 hs1_
    refine Zg ?_
    refine Jm [] hi0 hk0 ?_
    refine zD [6, 7] [false, true, false, false, false, false, false, false] ?_
    refine zW ?_
    have hs1_ := Option.some.inj hs1_; subst hs1_
    refine And.intro (fun h => by cases h) (And.intro rfl (Fit2.of (Z7 hU rfl rfl ?_) (by omega)))
    exact Qx hi0 hk0
   replace hs1_ := Zn c25 hs1_
   refine J6 [0, 2, 4, 6, 8, 11, 55, 56] [true, true, true, true, false, true, false, true] ?_
   refine Zg ?_
   obtain ⟨y22, hy22, hs1_⟩ := bC hs1_
   refine Jm [] hi0 hk0 ?_
   refine (Zhj (i0 := i0) (by omega) (by simp only [push_cast, seval, ↓reduceIte, Zh, K3, hi0, hk0, hN0, hN] <;> rfl) hy22).then ?_
   refine zX2 hi0 hk0 ?_
   refine zDs [0, 2, 4, 6, 8, 12, 13, 55, 56] [true, true, true, true, false, true, false, false, true] ?_
   refine U3 [0, 2, 4, 6, 8, 12, 13, 55, 56, 78] hi0 hk0 ?_
   refine Zm (t := (y22.2.1 != 0)) rfl (fun c24 => ?_) (fun c24 => ?_)
   ·replace hs1_ := Zo c24 hs1_
    refine Zg ?_
    refine Jm [] hi0 hk0 ?_
    refine zD [6, 7] [false, true, false, false, false, false, false, false, false] ?_
    refine zW ?_
    have hs1_ := Option.some.inj hs1_; subst hs1_
    refine And.intro (fun h => by cases h) (And.intro rfl (Fit2.of (Z7 hU rfl rfl ?_) (by omega)))
    exact Qx hi0 hk0
   replace hs1_ := Zn c24 hs1_
   refine J6 [0, 2, 4, 6, 8, 13, 55, 56] [true, true, true, true, false, true, false, false, true] ?_
   obtain ⟨l23, pl23, ql23, el23, hs1_⟩ := bA (k := 1) rfl hs1_
   refine Ybr [] pl23 ql23 el23 hi0 hk0 ?_
   refine Zc1 ⟨89, [], [(0, .ref i0 0), (2, (vI a2)), (4, .ref n 0), (6, .ref (n + 1) 0), (8, .ref (n + 2) 0), (55, (vI y18)), (56, (vI s1_.1))]⟩ (Zr (O.upd i0 (some ⟨false, 88, 1, 1, [(vI y22.2.2.left)]⟩)) n [some ⟨false, 50, 9, 1, (Zk a1)⟩, some ⟨false, 29, 3, 1, [(vI 0), nV, nV]⟩, some ⟨false, 29, 3, 1, [(vI y10), .row (n + 3) z16.length, .row (n + 5) l23.length]⟩, some (oR 63 1 (eI .u64) z16), none, some (oR 29 3 Zc l23), none, none, none, none]) (Z7 hU rfl rfl ?_) ?_
   ·exact Yd5 pl23 ql23 el23 hi0 hk0
   refine Jm [] hi0 hk0 ?_
   have hs1_ := Option.some.inj hs1_; subst hs1_
   refine And.intro rfl (Fit2.of (Z7 hU rfl rfl ?_) (by omega))
   exact Qx hi0 hk0
  replace hs1_ := Zn c26 hs1_
  refine zXt ?_
  have hs1_ := Option.some.inj hs1_; subst hs1_
  refine And.intro (fun h => by cases h) (And.intro rfl (Fit2.of (Z7 hU rfl rfl ?_) (by omega)))
  exact Qx hi0 hk0
 rcases z27 with z27 | z27
 ·dsimp only [Gn] at hw h
  refine Zc0 hw ?_
  try simp only [Xc, Ym, ↓reduceIte, Nat.reduceEqDiff]
  have h := Option.some.inj h; subst h
  refine J9 (k := 0) (i := i0) (q1 := ⟨false, 88, 1, 1, [(vI z27.2)]⟩) (L3 := [some ⟨false, 29, 3, 1, [(vI 0), nV, nV]⟩, none]) (E2 := (⟨89, [], [(6, .ref n 0), (7, (vI z27.1))]⟩ : Env)) (n3 := (n + 2)) (.inr rfl) hU rfl [.agg [(vI 0), nV, nV], (vI z27.1)] ?_ ?_
  ·refine Fit2.trans (E' := (⟨89, [], [(6, .ref (n + 1) 0), (7, (vI z27.1))]⟩ : Env)) (O' := (Zr (O.upd i0 (some ⟨false, 88, 1, 1, [(vI z27.2)]⟩)) n [none, some ⟨false, 29, 3, 1, [(vI 0), nV, nV]⟩, none, none, none])) (n' := (n + 5)) (Fit2.of (Z7 hU rfl rfl ?_) (by omega)) ?_
   ·exact Qx hi0 hk0
   refine X9 (k := 5) (k' := 2) hU [1, 0, 1, 1, 1] [1, 0] rfl rfl rfl rfl ⟨rfl, rfl⟩ ?_
   exact Qx hi0 hk0
  simp only [push_cast, seval, ↓reduceIte, Zh, Try.results56, hi0, hk0, hN0, hN]
 dsimp only [Gn] at hw h
 refine Y0 hw ?_
 try simp only [Xc, Ym, ↓reduceIte, Nat.reduceEqDiff]
 refine zDs [6, 8] [false, true, true, true, false, true, false] ?_
 refine Jm [] hi0 hk0 ?_
 refine zD [6, 7] [false, true, false, true, false, true, false] ?_
 refine zW ?_
 have h := Option.some.inj h; subst h
 refine J9 (k := 0) (i := i0) (q1 := ⟨false, 88, 1, 1, [(vI z27.2)]⟩) (L3 := [some ⟨false, 29, 3, 1, [(vI y10), .row (n + 1) z16.length, .row (n + 2) z27.1.length]⟩, some (oR 63 1 (eI .u64) z16), some (oR 29 3 Zc z27.1), none]) (E2 := (⟨89, [], [(6, .ref n 0), (7, (vI 0))]⟩ : Env)) (n3 := (n + 4)) (.inr rfl) hU rfl [.agg [(vI y10), .row (n + 1) z16.length, .row (n + 2) z27.1.length], (vI 0)] ?_ ?_
 ·refine Fit2.trans (E' := (⟨89, [], [(6, .ref (n + 1) 0), (7, (vI 0))]⟩ : Env)) (O' := (Zr (O.upd i0 (some ⟨false, 88, 1, 1, [(vI z27.2)]⟩)) n [none, some ⟨false, 29, 3, 1, [(vI y10), .row (n + 3) z16.length, .row (n + 5) z27.1.length]⟩, none, some (oR 63 1 (eI .u64) z16), none, some (oR 29 3 Zc z27.1), none])) (n' := (n + 7)) (Fit2.of (Z7 hU rfl rfl ?_) (by omega)) ?_
  ·exact Qx hi0 hk0
  refine X9 (k := 7) (k' := 4) hU [3, 0, 3, 1, 3, 2, 3] [1, 3, 5, 0] rfl rfl rfl rfl ⟨rfl, rfl⟩ ?_
  exact Qx hi0 hk0
 simp only [push_cast, seval, ↓reduceIte, Zh, Try.results56, hi0, hk0, hN0, hN]
theorem Zgo : ∀ k, (Zcd (Yc k)) := fun k => by
 induction k with
 | zero => exact @fun a0 a1 a2 r O n i0 hi0 ho0 h => (nomatch (show (none : Option _) = some _ from h))
 | succ k ih => exact @fun a0 a1 a2 r O n i0 hi0 ho0 h => Zid (ih) hi0 ho0 h
theorem Zi5 {a0 : Zq} {a1 : Zb} {a2 : Int} {r : (Za × Int × Zq)} {O : Objs} {n : Nat} {i0 : Nat} (hi0 : i0 < n) (ho0 : O i0 = some ⟨false, 88, 1, 1, [(vI a0.left)]⟩) (h : Zam a0 a1 a2 = some r) : GTo Try.prog 56 [.ref i0 0, .agg (Zk a1), (vI a2)] O n (.tup [.agg (Zd r.1), (vI r.2.1)]) (Zr (O.upd i0 (some ⟨false, 88, 1, 1, [(vI r.2.2.left)]⟩)) n []) (n + 0) := by
 obtain ⟨k, hk⟩ := Zaj h
 exact (Zgo k) hi0 ho0 hk
theorem Zuf {a0 : Zb} {r : (Za × Int)} {O : Objs} {n : Nat} (h : Zb9 a0 = some r) : GTo Try.prog 32 [.agg (Zk a0)] O n (.tup [.agg (Zd r.1), (vI r.2)]) O n := by
 unfold Zb9 at h
 refine zFn Try.call32 Try.func32 fun hU hN0 hN => ?_
 show W _ _ _ _ ⟨10, [], [(0, .agg (Zk a0))]⟩ (Zr O n []) _
 refine zQ [1, 2] ?_
 refine Zg ?_
 refine zRd [1, 2, 4] [true, true, true] ?_
 refine Zg ?_
 obtain ⟨y2, hy2, h⟩ := bC h
 refine zR ?_
 refine (Zi5 (i0 := (n + 2)) (by omega) (by simp only [push_cast, seval, ↓reduceIte, Zh, K3, hN0, hN] <;> rfl) hy2).then ?_
 refine zS ?_
 refine zD [2, 3] [false, true, false] ?_
 exact Z4 [.agg (Zd y2.1), (vI y2.2.1)]
theorem Y8 {a0 : (Option Zj)} {a1 : Ye} {r : (Za × Int)} {O : Objs} {n : Nat} (h : K5 a0 a1 = some r) : GTo Try.prog 9 [(gP Zl a0), .agg (Yy a1)] O n (.tup [.agg (Zd r.1), (vI r.2)]) O n := by
 unfold K5 at h
 refine zFn Try.call9 Try.func9 fun hU hN0 hN => ?_
 show W _ _ _ _ ⟨38, [], [(0, (gP Zl a0)), (1, .agg (Yy a1))]⟩ (Zr O n []) _
 refine zQ [0, 3, 4] ?_
 refine Zg ?_
 refine Zg ?_
 obtain ⟨y2, hy2, h⟩ := bC h
 refine zCd (Zvt hy2) [0, 4, 7] [false, true] ?_
 refine zQ [0, 4, 7, 18] ?_
 refine Zm (t := (y2.2 != 0)) rfl (fun c10 => ?_) (fun c10 => ?_)
 ·replace h := Zo c10 h
  refine Zg ?_
  refine zRd [4, 5] [false, true] ?_
  exact Z4 [.agg [(vI 0), nV, nV], (vI y2.2)]
 replace h := Zn c10 h
 refine J6 [0, 4] [false, true] ?_
 refine Zg ?_
 obtain ⟨y4, hy4, h⟩ := bC h
 refine zCd (Zm2 hy4) [4, 8, 9] [false, true, true] ?_
 refine Zg ?_
 refine zQ [4, 8, 9, 27] ?_
 refine Zm (t := (y4.2 != 0)) rfl (fun c9 => ?_) (fun c9 => ?_)
 ·replace h := Zo c9 h
  refine Zg ?_
  refine zRd [4, 5] [false, true, false] ?_
  exact Z4 [.agg [(vI 0), nV, nV], (vI y4.2)]
 replace h := Zn c9 h
 refine J6 [4, 8] [false, true, true] ?_
 refine Zg ?_
 obtain ⟨y6, hy6, h⟩ := bC h
 refine zCd (Zuf hy6) [4, 9, 10] [false, true, false, true] ?_
 refine Zg ?_
 obtain ⟨y8, hy8, h⟩ := bC h
 refine zCd (Zk3 hy8) [4, 5] [false, true, false, false] ?_
 exact Z4 [.agg (Zd y8), (vI y6.2)]
theorem Zfv {a0 : (List Int)} {a1 : (List Int)} {r : Bool} {O : Objs} {n : Nat} (h : X8 a0 a1 = some r) : GTo Try.prog 44 [(sL (eI .u64) a0), (sL (eI .u64) a1)] O n ((vB r)) O n := by
 unfold X8 at h
 refine zFn Try.call44 Try.func44 fun hU hN0 hN => ?_
 show W _ _ _ _ ⟨26, [], [(0, (sL (eI .u64) a0)), (1, (sL (eI .u64) a1))]⟩ (Zr O n []) _
 refine zQ [0, 1] ?_
 refine Zg ?_
 refine zQ [0, 1, 10] ?_
 refine Zm (t := ((a0.length : Int) != (a1.length : Int))) rfl (fun c8 => ?_) (fun c8 => ?_)
 ·replace h := Zo c8 h
  refine zQ [4] ?_
  exact Z4 [(vB false)]
 replace h := Zn c8 h
 refine J6 [0, 1] [] ?_
 refine Zg ?_
 refine zQd [0, 1, 12, 13] [0, 1, 12, 13] [] ?_
 obtain ⟨z7, hz7, h⟩ := bC h
 refine Ziw (J := (Gn (fun z7 => JR n (⟨26, [], [(4, (vB false))]⟩ : Env) (Zr O n []) n) (fun z7 => JX 0 n (⟨26, [], []⟩ : Env) (Zr O n []) n))) (z := z7) ?_ fun hw => ?_
 ·refine Xm hz7 (fun s0_ => ⟨26, [], [(0, (sL (eI .u64) a0)), (1, (sL (eI .u64) a1)), (12, (vI (a0.length : Int))), (13, (vI s0_))]⟩) (fun s0_ => (Zr O n [])) (Gn (fun z7 => JR n (⟨26, [], [(4, (vB false))]⟩ : Env) (Zr O n []) n) (fun z7 => JX 0 n (⟨26, [], []⟩ : Env) (Zr O n []) n)) ?_
  intro s0_ x0_ hs0_
  unfold Xn at hs0_
  try dsimp only
  refine zQ [0, 1, 12, 13, 14] ?_
  refine Zg ?_
  refine Zm (t := (decide (s0_ < (a0.length : Int)))) rfl (fun c6 => ?_) (fun c6 => ?_)
  ·replace hs0_ := Zo c6 hs0_
   refine J6 [0, 1, 12, 13] [] ?_
   refine Zg ?_
   refine Yj ?_
   refine zQ [0, 1, 5, 12, 13] ?_
   obtain ⟨x3, hx3, ax3, bx3, cx3, hs0_⟩ := bE (f := (eI .u64)) U2 (fun _ => rfl) (by decide) hs0_
   obtain ⟨x4, hx4, ax4, bx4, cx4, hs0_⟩ := bE (f := (eI .u64)) U2 (fun _ => rfl) (by decide) hs0_
   refine Zc2 [0, 1, 12, 13, 24] (Q8 Zv (by kernel_rfl) [] (by kernel_rfl) ?_)
   refine zF6 ax3 bx3 cx3 ax4 bx4 cx4 ?_
   refine Zm (t := (x3 != x4)) rfl (fun c5 => ?_) (fun c5 => ?_)
   ·replace hs0_ := Zo c5 hs0_
    refine zQ [4] ?_
    refine zW ?_
    exact zEy hs0_
   replace hs0_ := Zn c5 hs0_
   refine J6 [0, 1, 12, 13] [] ?_
   refine zR ?_
   exact zEn hs0_
  replace hs0_ := Zn c6 hs0_
  exact zEx hs0_
 rcases z7 with z7 | z7
 ·dsimp only [Gn] at hw h
  refine Zc0 hw ?_
  try simp only [Xc, Ym, ↓reduceIte, Nat.reduceEqDiff]
  exact Z3o [(vB false)]
 dsimp only [Gn] at hw h
 refine Y0 hw ?_
 try simp only [Xc, Ym, ↓reduceIte, Nat.reduceEqDiff]
 refine zD [] [] ?_
 refine zQ [4] ?_
 exact Z4 [(vB true)]
theorem Zue {a0 : (List Int)} {a1 : Ye} {r : (Za × Int)} {O : Objs} {n : Nat} (h : Zb5 a0 a1 = some r) : GTo Try.prog 23 [(sL (eI .u64) a0), .agg (Yy a1)] O n (.tup [.agg (Zd r.1), (vI r.2)]) O n := by
 unfold Zb5 at h
 refine zFn Try.call23 Try.func23 fun hU hN0 hN => ?_
 show W _ _ _ _ ⟨39, [], [(0, (sL (eI .u64) a0)), (1, .agg (Yy a1))]⟩ (Zr O n []) _
 refine zQ [0, 3, 4] ?_
 obtain ⟨y25, hy25, h⟩ := bC h
 obtain ⟨y49, hy49, h⟩ := bC h
 refine Xo (E' := ⟨39, [], [(0, (sL (eI .u64) a0)), (4, .ref (n + 1) 0), (6, .ref (n + 3) 0), (7, (vI y49.2))]⟩) (O' := (Zr O n [none, some ⟨false, 29, 3, 1, [(vI 0), nV, nV]⟩, none, some ⟨false, 29, 3, 1, (Zd y49.1)⟩])) (n0 := (n + 4)) ?_ ?_
 ·refine Z45 Zv (by kernel_rfl) [.plain, .pass, .pass, .low, .low, .plain, .plain, .plain, .pass, .pass, .plain] (fun i => i < (n + 2)) [0, 3] [1, 2, 4, 5, 6, 7, 8] [9, 10] (.alt 1 (.alt 2 (.seq [4, 5, 6, 7, 8]) (.one 8 (.seq [2, 4, 5, 6, 7]))) (.one 8 (.seq [1, 2, 4, 5, 6, 7]))) [.plain, .low] [] (by kernel_rfl) rfl ?_
  simp (maxSteps := 4000000) only [push_cast, seval, ↓reduceIte, Zh, hN0, hN]
  repeat (with_reducible refine And.intro (by omega) ?_)
  try simp only [push_cast, seval, ↓reduceIte, Zh, hN0, hN]
  refine And.intro ?_ ?_
  ·try simp only [push_cast, seval, ↓reduceIte, Zh, hN0, hN]
   repeat (with_reducible refine And.intro (by first | exact Y1 rfl | exact Yp) ?_)
   try simp only [push_cast, seval, ↓reduceIte, Zh, hN0, hN]
   refine And.intro ?_ ?_
   ·try simp only [push_cast, seval, ↓reduceIte, Zh, hN0, hN]
    repeat (with_reducible refine And.intro (by first | exact Y1 rfl | exact Yp) ?_)
    refine GCalls.dropL (l' := [some ⟨false, 24, 4, 1, (Yy a1)⟩, some ⟨false, 29, 3, 1, [(vI 0), nV, nV]⟩, none]) hU rfl ?_ ((Zdy hy25).then ?_)
    ·exact zSe
    try simp only [push_cast, seval, ↓reduceIte, Zh, hN0, hN]
    repeat (with_reducible refine And.intro (by first | exact Y1 rfl | exact Yp) ?_)
    try simp only [push_cast, seval, ↓reduceIte, Zh, hN0, hN]
    repeat (with_reducible refine And.intro (by first | exact Y1 rfl | exact Yp) ?_)
    first | refine PCallA.of (fun _ _ => Y8 hy49) ?_ | refine PCall.of (Y8 hy49) ?_
    try simp only [push_cast, seval, ↓reduceIte, Zh, hN0, hN]
    repeat (with_reducible refine And.intro (by first | exact Y1 rfl | exact Yp) ?_)
    exact zEf
   try simp only [push_cast, seval, ↓reduceIte, Zh, hN0, hN]
   repeat (with_reducible refine And.intro (by first | exact Y1 rfl | exact Yp) ?_)
   try simp only [push_cast, seval, ↓reduceIte, Zh, hN0, hN]
   repeat (with_reducible refine And.intro (by first | exact Y1 rfl | exact Yp) ?_)
   refine GCalls.dropL (l' := [some ⟨false, 24, 4, 1, (Yy a1)⟩, some ⟨false, 29, 3, 1, [(vI 0), nV, nV]⟩, none, some ⟨false, 29, 3, 1, [(vI 0), nV, nV]⟩]) hU rfl ?_ ((Zdy hy25).then ?_)
   ·exact zSe
   try simp only [push_cast, seval, ↓reduceIte, Zh, hN0, hN]
   repeat (with_reducible refine And.intro (by first | exact Y1 rfl | exact Yp) ?_)
   first | refine PCallA.of (fun _ _ => Y8 hy49) ?_ | refine PCall.of (Y8 hy49) ?_
   try simp only [push_cast, seval, ↓reduceIte, Zh, hN0, hN]
   repeat (with_reducible refine And.intro (by first | exact Y1 rfl | exact Yp) ?_)
   exact zEf
  try simp only [push_cast, seval, ↓reduceIte, Zh, hN0, hN]
  repeat (with_reducible refine And.intro (by first | exact Y1 rfl | exact Yp) ?_)
  try simp only [push_cast, seval, ↓reduceIte, Zh, hN0, hN]
  repeat (with_reducible refine And.intro (by first | exact Y1 rfl | exact Yp) ?_)
  refine GCalls.dropL (l' := [some ⟨false, 24, 4, 1, (Yy a1)⟩, some ⟨false, 29, 3, 1, [(vI 0), nV, nV]⟩, some ⟨false, 29, 3, 1, [(vI 0), nV, nV]⟩, none]) hU rfl ?_ ((Zdy hy25).then ?_)
  ·exact zSe
  try simp only [push_cast, seval, ↓reduceIte, Zh, hN0, hN]
  repeat (with_reducible refine And.intro (by first | exact Y1 rfl | exact Yp) ?_)
  first | refine PCallA.of (fun _ _ => Y8 hy49) ?_ | refine PCall.of (Y8 hy49) ?_
  try simp only [push_cast, seval, ↓reduceIte, Zh, hN0, hN]
  repeat (with_reducible refine And.intro (by first | exact Y1 rfl | exact Yp) ?_)
  refine And.intro rfl ?_
  refine Fit2.trans (E' := (⟨39, [], [(0, (sL (eI .u64) a0)), (4, .ref (n + 1) 0), (6, .ref (n + 2) 0), (7, (vI y49.2))]⟩ : Env)) (O' := (Zr O n [none, some ⟨false, 29, 3, 1, [(vI 0), nV, nV]⟩, some ⟨false, 29, 3, 1, (Zd y49.1)⟩, none])) (n' := (n + 4)) (Fit2.of (Yq hU rfl rfl ?_) (by omega)) ?_
  ·exact zSe
  refine Zit (k := 4) (k' := 4) hU [0, 1, 3, 2] [0, 1, 3, 2] rfl rfl rfl rfl ⟨rfl, rfl⟩ ?_
  exact zSe
 refine Zg ?_
 refine zQ [0, 4, 6, 7, 19] ?_
 refine Zm (t := (y49.2 != 0)) rfl (fun c141 => ?_) (fun c141 => ?_)
 ·replace h := Zo c141 h
  refine Zg ?_
  refine zRd [4, 5] [false, true, false, false] ?_
  exact Z4 [.agg [(vI 0), nV, nV], (vI y49.2)]
 replace h := Zn c141 h
 refine J6 [0, 4, 6] [false, true, false, true] ?_
 refine Zg ?_
 obtain ⟨y134, hy134, h⟩ := bC h
 refine zCd (Zgf hy134) [0, 4, 6, 8, 9] [false, true, false, true] ?_
 refine Zg ?_
 obtain ⟨z136, hz136, h⟩ := bC h
 refine Xo (E' := ⟨39, [], [(4, .ref (n + 1) 0), (6, .ref (n + 3) 0), (36, (vB z136))]⟩) (O' := (Zr O n [none, some ⟨false, 29, 3, 1, [(vI 0), nV, nV]⟩, none, some ⟨false, 29, 3, 1, (Zd y49.1)⟩])) (n0 := (n + 4)) ?_ ?_
 ·rcases Bool.eq_false_or_eq_true y134.2 with c139 | c139
  ·replace hz136 := Zo c139 hz136
   obtain ⟨y138, hy138, hz136⟩ := bC hz136
   refine K9 [some true, some true, some true, some true] c139 ?_
   refine (Zfv hy138).then ?_
   refine zX1 c139 ?_
   exact Kp hz136 c139
  replace hz136 := Zn c139 hz136
  refine K9 [some false, some false, some false, some false] c139 ?_
  exact Kp hz136 c139
 refine Zm (t := z136) rfl (fun c140 => ?_) (fun c140 => ?_)
 ·replace h := Zo c140 h
  refine Zg ?_
  refine zRd [4, 5] [false, true, false, false] ?_
  exact Z4 [.agg [(vI 0), nV, nV], (vI 5)]
 replace h := Zn c140 h
 refine J6 [4, 6] [false, true, false, true] ?_
 refine Zg ?_
 refine zRd [4, 5] [false, true, false, false] ?_
 exact Z4 [.agg (Zd y49.1), (vI 0)]
def Zfs (Jb : (Za → Za → Option Bool)) : Prop := ∀ {a0 : Za} {a1 : Za} {r : Bool} {O : Objs} {n : Nat}, Jb a0 a1 = some r → GTo Try.prog 11 [.agg (Zd a0), .agg (Zd a1)] O n ((vB r)) O n
theorem Zo3 {Jb : (Za → Za → Option Bool)} (Zmz : Zfs Jb) {a0 : Za} {a1 : Za} {r : Bool} {O : Objs} {n : Nat} (h : Ga Jb a0 a1 = some r) : GTo Try.prog 11 [.agg (Zd a0), .agg (Zd a1)] O n ((vB r)) O n := by
 unfold Ga at h
 refine zFn Try.call11 Try.func11 fun hU hN0 hN => ?_
 show W _ _ _ _ ⟨47, [], [(0, .agg (Zd a0)), (1, .agg (Zd a1))]⟩ (Zr O n []) _
 refine zQ [2, 3] ?_
 refine Zg ?_
 obtain ⟨z2, hz2, h⟩ := bC h
 refine Xo (E' := ⟨47, [], [(2, .ref n 0), (3, .ref (n + 1) 0), (27, (vB z2))]⟩) (O' := (Zr O n [some ⟨false, 29, 3, 1, (Zd a0)⟩, some ⟨false, 29, 3, 1, (Zd a1)⟩])) (n0 := (n + 2)) ?_ ?_
 ·rcases Bool.eq_false_or_eq_true (a0.Kind != a1.Kind) with c5 | c5
  ·replace hz2 := Zo c5 hz2
   refine K9 [some false, some false, some false, some false, some false, some false, some false, some false, some false, some false, some false, some false, some false] c5 ?_
   exact Kp hz2 c5
  replace hz2 := Zn c5 hz2
  obtain ⟨y4, hy4, hz2⟩ := bC hz2
  refine K9 [some true, some true, some true, some true, some true, some true, none, none, none, none, none, none, none] c5 ?_
  refine zG ?_
  refine (Zhi hy4).then ?_
  refine zX1 c5 ?_
  refine zG ?_
  exact Kp hz2 c5
 refine Zm (t := z2) rfl (fun c15 => ?_) (fun c15 => ?_)
 ·replace h := Zo c15 h
  refine zQ [4] ?_
  exact Z4 [(vB false)]
 replace h := Zn c15 h
 refine J6 [2, 3] [true, true] ?_
 refine Zg ?_
 refine zQd [2, 3, 5] [2, 3, 5] [true, true] ?_
 obtain ⟨z14, hz14, h⟩ := bC h
 refine Ziw (J := (Gn (fun z14 => JR n (⟨47, [], [(4, (vB false))]⟩ : Env) (Zr O n [none, none]) (n + 2)) (fun z14 => JX 0 n (⟨47, [], []⟩ : Env) (Zr O n [none, none]) (n + 2)))) (z := z14) ?_ fun hw => ?_
 ·refine Xm hz14 (fun s0_ => ⟨47, [], [(2, .ref n 0), (3, .ref (n + 1) 0), (5, (vI s0_))]⟩) (fun s0_ => (Zr O n [some ⟨false, 29, 3, 1, (Zd a0)⟩, some ⟨false, 29, 3, 1, (Zd a1)⟩])) (Gn (fun z14 => JR n (⟨47, [], [(4, (vB false))]⟩ : Env) (Zr O n [none, none]) (n + 2)) (fun z14 => JX 0 n (⟨47, [], []⟩ : Env) (Zr O n [none, none]) (n + 2))) ?_
  intro s0_ x0_ hs0_
  unfold Vg at hs0_
  try dsimp only
  refine Zg ?_
  refine zQ [2, 3, 5, 32] ?_
  refine Zm (t := (decide (s0_ < (a0.Kids.length : Int)))) rfl (fun c13 => ?_) (fun c13 => ?_)
  ·replace hs0_ := Zo c13 hs0_
   refine J6 [2, 3, 5] [true, true] ?_
   refine Zg ?_
   refine Yj ?_
   refine Zg ?_
   obtain ⟨x9, hx9, ax9, bx9, cx9, hs0_⟩ := bE (f := Zc) Vo (fun _ => rfl) (by decide) hs0_
   obtain ⟨x10, hx10, ax10, bx10, cx10, hs0_⟩ := bE (f := Zc) Vo (fun _ => rfl) (by decide) hs0_
   obtain ⟨y11, hy11, hs0_⟩ := bC hs0_
   refine Q8 Zv (by kernel_rfl) [] (by kernel_rfl) ?_
   refine zF6 ax9 bx9 cx9 ax10 bx10 cx10 ?_
   refine PCall.of (Zmz hy11) ?_
   refine zF6 ax9 bx9 cx9 ax10 bx10 cx10 ?_
   refine zD [2, 3, 5, 46] [true, true] ?_
   refine Zm (t := (!y11)) rfl (fun c12 => ?_) (fun c12 => ?_)
   ·replace hs0_ := Zo c12 hs0_
    refine zQ [4] ?_
    refine zW ?_
    exact zEy hs0_
   replace hs0_ := Zn c12 hs0_
   refine J6 [2, 3, 5] [true, true] ?_
   refine zR ?_
   exact zEn hs0_
  replace hs0_ := Zn c13 hs0_
  exact zEx hs0_
 rcases z14 with z14 | z14
 ·dsimp only [Gn] at hw h
  refine Zc0 hw ?_
  try simp only [Xc, Ym, ↓reduceIte, Nat.reduceEqDiff]
  exact Z3o [(vB false)]
 dsimp only [Gn] at hw h
 refine Y0 hw ?_
 try simp only [Xc, Ym, ↓reduceIte, Nat.reduceEqDiff]
 refine zD [] [false, false] ?_
 refine zQ [4] ?_
 exact Z4 [(vB true)]
theorem Zlu : ∀ k, (Zfs (Jo k)) := fun k => by
 induction k with
 | zero => exact @fun a0 a1 r O n h => (nomatch (show (none : Option _) = some _ from h))
 | succ k ih => exact @fun a0 a1 r O n h => Zo3 (ih)  h
theorem K7 {a0 : Za} {a1 : Za} {r : Bool} {O : Objs} {n : Nat} (h : Gg a0 a1 = some r) : GTo Try.prog 11 [.agg (Zd a0), .agg (Zd a1)] O n ((vB r)) O n := by
 obtain ⟨k, hk⟩ := Zaj h
 exact (Zlu k)  hk
end Go.Proofs.Ytpfbdlcnfekdkaa
