/- Part KM1 of this seat's mirrors: functions of the seat's program, and the plain functions that they are; each theorem bears its own conditions. -/
import Derived.Test.YtpfbdlcnfekdkaaKE
namespace Go.Proofs.Ytpfbdlcnfekdkaa
open Go.RowKit
set_option linter.unusedVariables false
set_option linter.unusedSimpArgs false
set_option maxRecDepth 100000
set_option maxHeartbeats 4000000
attribute [local push_cast] Try.results100 Try.results101 Try.results102 Try.results118 Try.results122 Try.results123 Try.results124 Try.results125 Try.results13 Try.results33 Try.results35 Try.results36 Try.results37 Try.results57 Try.results58 Try.results60 Try.results61 Try.results62 Try.results63 Try.results64 Try.results92 Try.results93 Try.results94 Try.results95 Try.results96 Try.results97 Try.results98 Try.results99 vI vB nV sL oR Yy Zd Q9 Xh Zk Zqe Zqd Zre Zrd Xc Ym Zmd Zha Zg9 onW Xx Zds Zcu Zqk Zpc Zkf Zkk Zke Zkj Znm Zni Zki Znl Znk Znj Zkg Zng Zh1 evS wok Q5 Op.operands Call.operands gop onK onP atK List.all_cons List.all_nil Bool.and_true Bool.true_and Bool.and_self Value.oneCell' List.take_zero List.take_succ_cons List.take_nil List.drop_zero List.drop_succ_cons List.drop_nil List.append_nil Nat.add_zero Nat.zero_add U1 Yd ev Jn Zpb Zp4 Zp3 Zp9 Zp7 Zp8 Zp5 Zp6 Zp2 Zti Zub Zx0 Zi0 Zc6 Zil Zdl Zjn Zgb Ze9 Zfe Zg4 Zg0 Zfc Zg3 Zg2 Zg1 Zfb Zgy Zfa Zfd Zd7 Zgz Zls Zhb Zay Zin Zaz Zks Ziz Zve bLo bHi bMx Zc7 Zkr Zzd Ziy Zli Ze6 Gf Zt3 Zzh Zij Zfj Zzk Zc5 Z05 Zmm Zmq Zml Zmp Zqs Zqo Zqm Zjq Zmn Zqr Zqq Zqp Zmo Zqn Zku Zqg Znb Zhu Zht pop TK.isAgg Zq6 Zra Zq5 Zq9 Zm4 Zv2 Zvy Zq8 Zv1 Zv0 Zvz Zq7 Zvx G.under G.unders List.getD_cons_zero List.getD_cons_succ List.set_cons_zero List.set_cons_succ List.map_cons List.map_nil List.toList_toArray Array.toList_append Option.toArray_none Option.toArray_some Array.toList_map Option.map_some Option.map_none Option.bind_some Option.bind_none List.getElem?_cons_zero List.getElem?_cons_succ List.getElem?_nil List.nil_append List.cons_append List.replicate_succ List.replicate_zero List.length_cons List.length_nil and_true true_and and_false false_and Bool.true_eq_false Bool.false_eq_true forall_const false_implies implies_true IntKind.bits if_true if_false ite_true ite_false eq_self true_implies false_or or_false or_true true_or not_true_eq_false not_false_eq_true decide_true decide_false decide_eq_true_eq decide_eq_false_iff_not beq_iff_eq bne_iff_ne ne_eq Bool.not_eq_true Bool.not_eq_false beq_eq_false_iff_ne bne_eq_false_iff_eq beq_self_eq_true bne_self_eq_false Option.some.injEq exists_eq_left' exists_eq_left ge_iff_le gt_iff_lt decide_not Bool.not_true Bool.not_false imp_self Zvg cond_true cond_false Z7u Z7t Bool.not_not Bool.and_false Bool.false_and Bool.or_true Bool.true_or Bool.or_false Bool.false_or Zbq Zgn Zdi Zby Vy Kj Option.join_some Nat.add_assoc Int.toNat_natCast eI eB eS eL K3 Zgq Zfl Zqj Zqh Zqi Z1t Z4j Zgs Zfx Zrn Zrl Zrm Zya Zmb Zu6 Znf Zu5 Zcm Zth List.length_append G.agg.injEq G.row.injEq G.ref.injEq G.val.injEq G.sl.injEq G.tup.injEq Value.int.injEq Value.bool.injEq Value.string.injEq List.cons.injEq exists_and_left exists_const List.flatten_cons List.flatten_nil Int.le_refl Nat.le_refl Zck Qz Ui Bool.not_eq_true' Bool.not_eq_false' Zs6 Zh6 Zxn Zxs Zxm Zxr Z3j Z3e List.size_toArray Zrq Zrr G.ren G.rens Zui Zgi Zrt Zpz Zp0 Znh Zxu Zgg G.fn.injEq Zkl Zod Zs4 Z3f Zoc Zxq Z3i Z3h Z3g Zxp Zvl Z1h Option.join_none Yz Gc undef Zlj Arr.len Arr.put_eq Zgr Zj5 Zhp Zfw Zrk Zri Zrj onB Z1s Zt1 Yv Zjj Zl1 Zl2 Zl3 Zl4 Zl5 Zl6 Zjw Zj9 Zj7 Zhs Zfy Zj8 Zna Zm9 Zm8 Zm7 Z4i Z65 Zx9 Zv5 Kr Zx2 Zqu Zka Zhr Zzy Zry Zix Zlh Zen Zkb Zl7 Zl8 Zl9 Zma Zja Zjb Zjc Zjd Zje Zjf Zjg Zff prT Zdn Z9k Zw9 Z2r Zxa Z9l Zxb Z9m Zxc Z9n Zxd Z9o Zxe Z9p Zxf Z9q Zxg Z2c Zr4 Z2d Zr5 Z2e Zr6 Z2f Zr7 Z2g Zr8 Z2h Zr9 Z2i Zsa Z2j Zsb Z2k Zsc Z2l Zsd Z2m Zse Z2n Zsf Z2o Zsg Z2p Zsh Zlp Zep Zr2 Zlf Z2q Zsi Vo Zsj Z2s Zsk Z2t Zov Z2u Zsl Z2v Zsm Z2w Zsn Z2x Zso Z2y Zsp U2 Zsq Z2z Zsr Z20 Zss Z21 Zst Z22 Zsu Z23 Zsv Z24 Zsw Z25 Zsx Z26 Zsy Z27 Zsz Z28 Zs0 Z29 Zs1 Zwl Znn Zwm Zno Zwn Znp Zwo Znq Zwp Znr Zwq Zns Zwr Znt Zws Znu Zwt Znv Zwu Znw Zwv Znx Zww Zny Zwx Znz Zwy Zn0 Zwz Zn1 Zw0 Zn2 Zw1 Zn3 Zw2 Zn4 Zw3 Zn5 Zw4 Zn6 Zw5 Zn7 Zw6 Zn8 Zw7 Zn9 Zw8 Zoa Zc Yu Zh8 Zh5 Zhe Zhn Zib Zf7 Zf2 Zf0 Zh3 Zat Zas Zai Zao Zau Gm Gl Gk Zar Zh7 Zh4 Zhd Zhm Zia Zf6 Zf1 Zfz Zh2 Zfh Zba Zdg Zdf Zc8 Zdd Zdh Zcj Zcf Zce Zde Zl V7 V6 V1 V4 V8 Vp Vn Vm V5 Zb0 Zfg Zb1 Z3 Kz Ky Ku Kw K0 Ki Kh Kg Kx Zw J4 J3 Jv Jz J5 Jk Ji Jh J0
def Zdx (X2 : (Za → Int → Int → Option Int)) : Prop := ∀ {a0 : Za} {a1 : Int} {a2 : Int} {r : Int} {O : Objs} {n : Nat}, X2 a0 a1 a2 = some r → GTo Try.prog 35 [.agg (Zd a0), (vI a1), (vI a2)] O n ((vI r)) O n
theorem Zk5 {X2 : (Za → Int → Int → Option Int)} (Zjz : Zdx X2) {a0 : Za} {a1 : Int} {a2 : Int} {r : Int} {O : Objs} {n : Nat} (h : Xy X2 a0 a1 a2 = some r) : GTo Try.prog 35 [.agg (Zd a0), (vI a1), (vI a2)] O n ((vI r)) O n := by
 unfold Xy at h
 refine zFn Try.call35 Try.func35 fun hU hN0 hN => ?_
 show W _ _ _ _ ⟨41, [], [(0, .agg (Zd a0)), (1, (vI a1)), (2, (vI a2))]⟩ (Zr O n []) _
 refine zQ [1, 2, 3] ?_
 refine zQ [1, 2, 3] ?_
 refine Zg ?_
 refine zQD [1, 2, 3, 19] [none, none] ?_
 refine Zm (t := (cond (a1 == 0) true (decide ((IntKind.i64.wrap ((IntKind.i64.wrap (a2 - 1)) - (a0.Words.length : Int))) < 0)))) rfl (fun c5 => ?_) (fun c5 => ?_)
 ·replace h := Zo c5 h
  refine zQ [6] ?_
  exact Z4 [(vI (-1))]
 replace h := Zn c5 h
 refine J6 [1, 2, 3] [true] ?_
 refine Zg ?_
 refine zQd [1, 2, 3, 7] [1, 2, 3, 7] [true] ?_
 obtain ⟨z4, hz4, h⟩ := bC h
 refine Y0 (E' := ⟨41, [], [(2, (vI z4))]⟩) (O' := (Zr O n [none])) (n0 := (n + 1)) ?_ ?_
 ·refine Xm hz4 (fun s0_ => ⟨41, [], [(1, (vI a1)), (2, (vI s0_.1)), (3, .ref n 0), (7, (vI s0_.2))]⟩) (fun s0_ => (Zr O n [some ⟨false, 29, 3, 1, (Zd a0)⟩])) (fun z4 => JX 0 n (⟨41, [], [(2, (vI z4))]⟩ : Env) (Zr O n [none]) (n + 1)) ?_
  intro s0_ x0_ hs0_
  unfold Xs at hs0_
  try dsimp only
  refine Zg ?_
  refine zQD [1, 2, 3, 7, 28] [none, none] ?_
  refine Zm (t := (cond (decide (s0_.2 < (a0.Kids.length : Int))) (decide (0 ≤ s0_.1)) false)) rfl (fun c3 => ?_) (fun c3 => ?_)
  ·replace hs0_ := Zo c3 hs0_
   refine J6 [1, 2, 3, 7] [true] ?_
   refine Zg ?_
   refine Yj ?_
   obtain ⟨x1, hx1, ax1, bx1, cx1, hs0_⟩ := bE (f := Zc) Vo (fun _ => rfl) (by decide) hs0_
   obtain ⟨y2, hy2, hs0_⟩ := bC hs0_
   refine Ziv [] ax1 bx1 cx1 ?_
   refine (Zjz hy2).then ?_
   refine zF3 ax1 bx1 cx1 ?_
   refine zD [1, 2, 3, 7] [true] ?_
   refine zR ?_
   exact zEn hs0_
  replace hs0_ := Zn c3 hs0_
  exact zEx hs0_
 try simp only [Xc, Ym, ↓reduceIte, Nat.reduceEqDiff]
 refine zD [2] [false] ?_
 refine zQ [6] ?_
 exact Z4 [(vI z4)]
theorem Zi1 : ∀ k, (Zdx (Yi k)) := fun k => by
 induction k with
 | zero => exact @fun a0 a1 a2 r O n h => (nomatch (show (none : Option _) = some _ from h))
 | succ k ih => exact @fun a0 a1 a2 r O n h => Zk5 (ih)  h
theorem Zlw {a0 : Za} {a1 : Int} {a2 : Int} {r : Int} {O : Objs} {n : Nat} (h : Zb6 a0 a1 a2 = some r) : GTo Try.prog 35 [.agg (Zd a0), (vI a1), (vI a2)] O n ((vI r)) O n := by
 obtain ⟨k, hk⟩ := Zaj h
 exact (Zi1 k)  hk
theorem Zir {a0 : Za} {r : Bool} {O : Objs} {n : Nat} (h : Zcn a0 = some r) : GTo Try.prog 13 [.agg (Zd a0)] O n ((vB r)) O n := by
 unfold Zcn at h
 refine zFn Try.call13 Try.func13 fun hU hN0 hN => ?_
 show W _ _ _ _ ⟨6, [], [(0, .agg (Zd a0))]⟩ (Zr O n []) _
 refine zQ [1] ?_
 refine Zg ?_
 obtain ⟨y2, hy2, h⟩ := bC h
 refine zCd (Zlw hy2) [2] [false] ?_
 exact Z4 [(vB (decide (0 ≤ y2)))]
theorem Zqz {a0 : Int} {r : Bool} {O : Objs} {n : Nat} (h : Zb8 a0 = some r) : GTo Try.prog 93 [(vI a0)] O n ((vB r)) O n := by
 unfold Zb8 at h
 refine zFn Try.call93 Try.func93 fun hU hN0 hN => ?_
 show W _ _ _ _ ⟨9, [], [(0, (vI a0))]⟩ (Zr O n []) _
 refine zQ [0] ?_
 refine zQD [2] [none, none] ?_
 exact Z4 [(vB (cond (decide (2 ≤ a0)) (decide (a0 ≤ 9)) false))]
theorem Zhl {a0 : (List Za)} {r : Bool} {O : Objs} {n : Nat} (h : Gj a0 = some r) : GTo Try.prog 94 [(sL Zc a0)] O n ((vB r)) O n := by
 unfold Gj at h
 refine zFn Try.call94 Try.func94 fun hU hN0 hN => ?_
 show W _ _ _ _ ⟨15, [], [(0, (sL Zc a0))]⟩ (Zr O n []) _
 refine zQ [0] ?_
 refine Zg ?_
 refine zQd [5, 6, 7] [5, 6, 7] [] ?_
 obtain ⟨z5, hz5, h⟩ := bC h
 refine Ziw (J := (Gn (fun z5 => JR n (⟨15, [], [(2, (vB false))]⟩ : Env) (Zr O n []) n) (fun z5 => JX 0 n (⟨15, [], []⟩ : Env) (Zr O n []) n))) (z := z5) ?_ fun hw => ?_
 ·refine Xm hz5 (fun s0_ => ⟨15, [], [(5, (sL Zc a0)), (6, (vI (a0.length : Int))), (7, (vI s0_))]⟩) (fun s0_ => (Zr O n [])) (Gn (fun z5 => JR n (⟨15, [], [(2, (vB false))]⟩ : Env) (Zr O n []) n) (fun z5 => JX 0 n (⟨15, [], []⟩ : Env) (Zr O n []) n)) ?_
  intro s0_ x0_ hs0_
  unfold Vl at hs0_
  try dsimp only
  refine zQ [5, 6, 7, 8] ?_
  refine Zg ?_
  refine Zm (t := (decide (s0_ < (a0.length : Int)))) rfl (fun c4 => ?_) (fun c4 => ?_)
  ·replace hs0_ := Zo c4 hs0_
   refine J6 [5, 6, 7] [] ?_
   refine Zg ?_
   refine Yj ?_
   refine Zg ?_
   obtain ⟨x2, hx2, ax2, bx2, cx2, hs0_⟩ := bE (f := Zc) Vo (fun _ => rfl) (by decide) hs0_
   refine Ziv [] ax2 bx2 cx2 ?_
   refine zD [4, 5, 6, 7] [true] ?_
   refine zQ [5, 6, 7, 13] ?_
   refine Zm (t := (x2.Kind != 1)) rfl (fun c3 => ?_) (fun c3 => ?_)
   ·replace hs0_ := Zo c3 hs0_
    refine zQ [2] ?_
    refine zW ?_
    exact zEy hs0_
   replace hs0_ := Zn c3 hs0_
   refine J6 [5, 6, 7] [false] ?_
   refine zR ?_
   exact zEn hs0_
  replace hs0_ := Zn c4 hs0_
  exact zEx hs0_
 rcases z5 with z5 | z5
 ·dsimp only [Gn] at hw h
  refine Zc0 hw ?_
  try simp only [Xc, Ym, ↓reduceIte, Nat.reduceEqDiff]
  exact Z3o [(vB false)]
 dsimp only [Gn] at hw h
 refine Y0 hw ?_
 try simp only [Xc, Ym, ↓reduceIte, Nat.reduceEqDiff]
 refine zD [] [] ?_
 refine zQ [2] ?_
 exact Z4 [(vB true)]
theorem Zdc {a0 : Int} {r : (Int × Bool)} {O : Objs} {n : Nat} (h : Q1 a0 = some r) : GTo Try.prog 118 [(vI a0)] O n (.tup [(vI r.1), (vB r.2)]) O n := by
 unfold Q1 at h
 refine zFn Try.call118 Try.func118 fun hU hN0 hN => ?_
 show W _ _ _ _ ⟨15, [], [(0, (vI a0))]⟩ (Zr O n []) _
 refine zQ [0] ?_
 refine Zg ?_
 obtain ⟨y6, hy6, ey6, h⟩ := bY (f := (eI .i64)) (cs := [.val (.int .i64 0), .val (.int .i64 1), .val (.int .i64 8), .val (.int .i64 16), .val (.int .i64 32), .val (.int .i64 64)]) rfl h
 have g7 := congrArg G.agg ey6
 obtain ⟨y8, hy8, ey8, h⟩ := bY (f := (eI .i64)) (cs := [.val (.int .i64 0), .val (.int .i64 0), .val (.int .i64 0), .val (.int .i64 0), .val (.int .i64 0), .val (.int .i64 0)]) rfl h
 have g9 := congrArg (GObj.mk false 159 6 1) ey8
 have g10 := Zvf (f := (eI .i64)) y8 y6 (fun _ => rfl)
 refine Zs7 [] g7 g9 g10 ?_
 refine zDs [0, 4] [true] ?_
 refine zQD [0, 4, 11] [none, none] ?_
 refine Zm (t := (cond (decide (a0 < 0)) true (decide (6 ≤ a0)))) rfl (fun c13 => ?_) (fun c13 => ?_)
 ·replace h := Zo c13 h
  refine zQ [2, 3] ?_
  exact Z4 [(vI 0), (vB false)]
 replace h := Zn c13 h
 refine J6 [0, 4] [true] ?_
 obtain ⟨x12, hx12, ax12, bx12, cx12, h⟩ := bEA (f := (eI .i64)) (b := 6) rfl Z2r (fun _ => rfl) (by decide) h
 refine Zc2 [2, 3] (Z5 Zv [] ?_)
 refine zF3 ax12 bx12 cx12 ?_
 exact Z4 [(vI x12), (vB true)]
theorem Zq1 {a0 : Int} {a1 : Int} {r : Bool} {O : Objs} {n : Nat} (h : Zdv a0 a1 = some r) : GTo Try.prog 122 [(vI a0), .val (.int .u64 a1)] O n ((vB r)) O n := by
 unfold Zdv at h
 refine zFn Try.call122 Try.func122 fun hU hN0 hN => ?_
 show W _ _ _ _ ⟨19, [], [(0, (vI a0)), (1, .val (.int .u64 a1))]⟩ (Zr O n []) _
 refine zQ [0, 1] ?_
 refine Zg ?_
 obtain ⟨y2, hy2, h⟩ := bC h
 refine zCd (Zdc hy2) [1, 5, 6] [] ?_
 obtain ⟨z4, hz4, h⟩ := bC h
 refine Xo (E' := ⟨19, [], [(4, (vB z4))]⟩) (O' := (Zr O n [])) (n0 := n) ?_ ?_
 ·rcases Bool.eq_false_or_eq_true y2.2 with c7 | c7
  ·replace hz4 := Zo c7 hz4
   obtain ⟨pu6, hz4⟩ := bG hz4
   refine Z5 Zv [some true, some true, some true, some true] ?_
   simp only [push_cast, seval, ↓reduceIte, Zh, c7, pu6, hN0, hN]
   have hz4 := Option.some.inj hz4; subst hz4
   refine And.intro rfl (Fit2.of (Yq hU rfl rfl ?_) (by omega))
   simp only [push_cast, seval, ↓reduceIte, Zh, c7, pu6, hN0, hN]
  replace hz4 := Zn c7 hz4
  refine K9 [some false, some false, some false, some false] c7 ?_
  exact Kp hz4 c7
 exact Z4 [(vB z4)]
def Zbj (Y3 : (Za → Option Bool)) : Prop := ∀ {a0 : Za} {r : Bool} {O : Objs} {n : Nat}, Y3 a0 = some r → GTo Try.prog 36 [.agg (Zd a0)] O n ((vB r)) O n
def Zbk (Yw : (Za → Int → Option Bool)) : Prop := ∀ {a0 : Za} {a1 : Int} {r : Bool} {O : Objs} {n : Nat}, Yw a0 a1 = some r → GTo Try.prog 60 [.agg (Zd a0), (vI a1)] O n ((vB r)) O n
def Uu (Yg : ((List Za) → Int → Option Bool)) : Prop := ∀ {a0 : (List Za)} {a1 : Int} {r : Bool} {O : Objs} {n : Nat}, Yg a0 a1 = some r → GTo Try.prog 92 [(sL Zc a0), (vI a1)] O n ((vB r)) O n
def Ut (Yn : ((List Za) → Int → Option Bool)) : Prop := ∀ {a0 : (List Za)} {a1 : Int} {r : Bool} {O : Objs} {n : Nat}, Yn a0 a1 = some r → GTo Try.prog 95 [(sL Zc a0), (vI a1)] O n ((vB r)) O n
theorem Zvu {Y3 : (Za → Option Bool)} {Yw : (Za → Int → Option Bool)} {Yg : ((List Za) → Int → Option Bool)} {Yn : ((List Za) → Int → Option Bool)} (Zbl : Zbj Y3) (Zbm : Zbk Yw) (K8 : Uu Yg) (Za5 : Ut Yn) {a0 : Za} {r : Bool} {O : Objs} {n : Nat} (h : Zd4 Y3 Yw Yg Yn a0 = some r) : GTo Try.prog 36 [.agg (Zd a0)] O n ((vB r)) O n := by
 unfold Zd4 at h
 refine zFn Try.call36 Try.func36 fun hU hN0 hN => ?_
 show W _ _ _ _ ⟨18, [], [(0, .agg (Zd a0))]⟩ (Zr O n []) _
 refine zQ [1] ?_
 refine Zg ?_
 refine zQ [1, 5] ?_
 refine Zm (t := (a0.Kind == 10)) rfl (fun c3 => ?_) (fun c3 => ?_)
 ·replace h := Zo c3 h
  refine zQD [2] [none, none, none, none] ?_
  exact Z4 [(vB (cond ((a0.Words.length : Int) == 1) ((a0.Kids.length : Int) == 0) false))]
 replace h := Zn c3 h
 refine J6 [1] [true] ?_
 refine Zg ?_
 obtain ⟨y2, hy2, h⟩ := bC h
 refine zCd (Zbm hy2) [2] [false] ?_
 exact Z4 [(vB y2)]
theorem Zvv {Y3 : (Za → Option Bool)} {Yw : (Za → Int → Option Bool)} {Yg : ((List Za) → Int → Option Bool)} {Yn : ((List Za) → Int → Option Bool)} (Zbl : Zbj Y3) (Zbm : Zbk Yw) (K8 : Uu Yg) (Za5 : Ut Yn) {a0 : Za} {a1 : Int} {r : Bool} {O : Objs} {n : Nat} (h : Zd5 Y3 Yw Yg Yn a0 a1 = some r) : GTo Try.prog 60 [.agg (Zd a0), (vI a1)] O n ((vB r)) O n := by
 unfold Zd5 at h
 refine zFn Try.call60 Try.func60 fun hU hN0 hN => ?_
 show W _ _ _ _ ⟨83, [], [(0, .agg (Zd a0)), (1, (vI a1))]⟩ (Zr O n []) _
 refine zQ [1, 2] ?_
 refine Zg ?_
 refine zQ [1, 2, 7] ?_
 refine Zm (t := (a0.Kind == 0)) rfl (fun c26 => ?_) (fun c26 => ?_)
 ·replace h := Zo c26 h
  refine zQD [4] [none, none, none, none] ?_
  exact Z4 [(vB (cond ((a0.Words.length : Int) == 0) ((a0.Kids.length : Int) == 0) false))]
 replace h := Zn c26 h
 refine J6 [1, 2] [true] ?_
 refine Zg ?_
 refine zQ [1, 2, 19] ?_
 refine Zm (t := (a1 == 0)) rfl (fun c25 => ?_) (fun c25 => ?_)
 ·replace h := Zo c25 h
  refine zQ [4] ?_
  exact Z4 [(vB false)]
 replace h := Zn c25 h
 refine J6 [1, 2] [true] ?_
 refine Zg ?_
 refine zQ [1, 2, 22] ?_
 refine Zm (t := (a0.Kind == 1)) rfl (fun c24 => ?_) (fun c24 => ?_)
 ·replace h := Zo c24 h
  obtain ⟨z2, hz2, h⟩ := bC h
  refine Xo (E' := ⟨83, [], [(4, (vB z2))]⟩) (O' := (Zr O n [none])) (n0 := (n + 1)) ?_ ?_
  ·rcases Bool.eq_false_or_eq_true (decide ((a0.Words.length : Int) < 65536)) with c5 | c5
   ·replace hz2 := Zo c5 hz2
    rcases Bool.eq_false_or_eq_true (decide ((a0.Kids.length : Int) < 65536)) with c6 | c6
    ·replace hz2 := Zo c6 hz2
     try rw [c6] at c5
     obtain ⟨y4, hy4, hz2⟩ := bC hz2
     refine Jm [none, none, none, none, some true, some true, some true, some true, some true] c5 c6 ?_
     refine zG ?_
     refine (K8 hy4).then ?_
     refine zX2 c5 c6 ?_
     refine zG ?_
     exact Z3m hz2 c5 c6
    replace hz2 := Zn c6 hz2
    try rw [c6] at c5
    refine Jm [none, none, none, none, some false, some false, some false, some false, some false] c5 c6 ?_
    refine zG ?_
    exact Z3m hz2 c5 c6
   replace hz2 := Zn c5 hz2
   refine K9 [none, none, none, none, some false, some false, some false, some false, some false] c5 ?_
   refine zG ?_
   exact Kp hz2 c5
  exact Z4 [(vB z2)]
 replace h := Zn c24 h
 refine J6 [1, 2] [true] ?_
 refine Zg ?_
 refine Zg ?_
 obtain ⟨y8, hy8, h⟩ := bC h
 refine zRo [none, none, none, none, none, none, none, none] ?_
 refine zG ?_
 refine zTs (Zqz hy8) ?_
 refine zG ?_
 refine zD [1, 2, 55] [true] ?_
 refine Zm (t := (cond (cond (!y8) true (decide (0 < (a0.Words.length : Int)))) true (decide (1048576 ≤ (a0.Kids.length : Int))))) rfl (fun c23 => ?_) (fun c23 => ?_)
 ·replace h := Zo c23 h
  refine zQ [4] ?_
  exact Z4 [(vB false)]
 replace h := Zn c23 h
 refine J6 [1, 2] [true] ?_
 refine Zg ?_
 refine zQ [1, 2, 57] ?_
 refine Yj ?_
 refine zQ [1, 2, 57, 58] ?_
 refine Zm (t := (a0.Kind == 8)) rfl (fun c22 => ?_) (fun c22 => ?_)
 ·replace h := Zo c22 h
  refine Zg ?_
  obtain ⟨y10, hy10, h⟩ := bC h
  refine zCd (K8 hy10) [4] [false] ?_
  exact Z4 [(vB y10)]
 replace h := Zn c22 h
 refine zQ [1, 2, 65] ?_
 refine Zm (t := (a0.Kind == 9)) rfl (fun c21 => ?_) (fun c21 => ?_)
 ·replace h := Zo c21 h
  obtain ⟨z13, hz13, h⟩ := bC h
  refine Xo (E' := ⟨83, [], [(4, (vB z13))]⟩) (O' := (Zr O n [none])) (n0 := (n + 1)) ?_ ?_
  ·obtain ⟨y16, hy16, hz13⟩ := bC hz13
   rcases Bool.eq_false_or_eq_true y16 with c18 | c18
   ·replace hz13 := Zo c18 hz13
    obtain ⟨y17, hy17, hz13⟩ := bC hz13
    refine K9 [some true, some true, some true, some true, some true] c18 ?_
    refine (Zhl hy16).then ?_
    refine zX1 c18 ?_
    refine (K8 hy17).then ?_
    refine zX1 c18 ?_
    exact Kp hz13 c18
   replace hz13 := Zn c18 hz13
   refine K9 [some false, some false, some false, some false, some false] c18 ?_
   refine (Zhl hy16).then ?_
   refine zX1 c18 ?_
   exact Kp hz13 c18
  exact Z4 [(vB z13)]
 replace h := Zn c21 h
 refine J6 [2] [true] ?_
 refine Zg ?_
 obtain ⟨y20, hy20, h⟩ := bC h
 refine zCd (Za5 hy20) [4] [false] ?_
 exact Z4 [(vB y20)]
theorem Zq4 {Y3 : (Za → Option Bool)} {Yw : (Za → Int → Option Bool)} {Yg : ((List Za) → Int → Option Bool)} {Yn : ((List Za) → Int → Option Bool)} (Zbl : Zbj Y3) (Zbm : Zbk Yw) (K8 : Uu Yg) (Za5 : Ut Yn) {a0 : (List Za)} {a1 : Int} {r : Bool} {O : Objs} {n : Nat} (h : Za9 Y3 Yw Yg Yn a0 a1 = some r) : GTo Try.prog 92 [(sL Zc a0), (vI a1)] O n ((vB r)) O n := by
 unfold Za9 at h
 refine zFn Try.call92 Try.func92 fun hU hN0 hN => ?_
 show W _ _ _ _ ⟨18, [], [(0, (sL Zc a0)), (1, (vI a1))]⟩ (Zr O n []) _
 refine zQ [0, 1] ?_
 refine Zg ?_
 refine zQd [1, 7, 8, 9] [1, 7, 8, 9] [] ?_
 obtain ⟨z7, hz7, h⟩ := bC h
 refine Ziw (J := (Gn (fun z7 => JR n (⟨18, [], [(4, (vB false))]⟩ : Env) (Zr O n []) n) (fun z7 => JX 0 n (⟨18, [], []⟩ : Env) (Zr O n []) n))) (z := z7) ?_ fun hw => ?_
 ·refine Xm hz7 (fun s0_ => ⟨18, [], [(1, (vI a1)), (7, (sL Zc a0)), (8, (vI (a0.length : Int))), (9, (vI s0_))]⟩) (fun s0_ => (Zr O n [])) (Gn (fun z7 => JR n (⟨18, [], [(4, (vB false))]⟩ : Env) (Zr O n []) n) (fun z7 => JX 0 n (⟨18, [], []⟩ : Env) (Zr O n []) n)) ?_
  intro s0_ x0_ hs0_
  unfold Ul at hs0_
  try dsimp only
  refine zQ [1, 7, 8, 9, 10] ?_
  refine Zg ?_
  refine Zm (t := (decide (s0_ < (a0.length : Int)))) rfl (fun c6 => ?_) (fun c6 => ?_)
  ·replace hs0_ := Zo c6 hs0_
   refine J6 [1, 7, 8, 9] [] ?_
   refine Zg ?_
   refine Yj ?_
   refine Zg ?_
   obtain ⟨x2, hx2, ax2, bx2, cx2, hs0_⟩ := bE (f := Zc) Vo (fun _ => rfl) (by decide) hs0_
   refine Ziv [] ax2 bx2 cx2 ?_
   refine zDs [1, 6, 7, 8, 9] [true] ?_
   obtain ⟨y4, hy4, hs0_⟩ := bC hs0_
   refine zCd (Zbm hy4) [1, 7, 8, 9, 16] [false] ?_
   refine Zm (t := (!y4)) rfl (fun c5 => ?_) (fun c5 => ?_)
   ·replace hs0_ := Zo c5 hs0_
    refine zQ [4] ?_
    refine zW ?_
    exact zEy hs0_
   replace hs0_ := Zn c5 hs0_
   refine J6 [1, 7, 8, 9] [false] ?_
   refine zR ?_
   exact zEn hs0_
  replace hs0_ := Zn c6 hs0_
  exact zEx hs0_
 rcases z7 with z7 | z7
 ·dsimp only [Gn] at hw h
  refine Zc0 hw ?_
  try simp only [Xc, Ym, ↓reduceIte, Nat.reduceEqDiff]
  exact Z3o [(vB false)]
 dsimp only [Gn] at hw h
 refine Y0 hw ?_
 try simp only [Xc, Ym, ↓reduceIte, Nat.reduceEqDiff]
 refine zD [] [] ?_
 refine zQ [4] ?_
 exact Z4 [(vB true)]
theorem Zq3 {Y3 : (Za → Option Bool)} {Yw : (Za → Int → Option Bool)} {Yg : ((List Za) → Int → Option Bool)} {Yn : ((List Za) → Int → Option Bool)} (Zbl : Zbj Y3) (Zbm : Zbk Yw) (K8 : Uu Yg) (Za5 : Ut Yn) {a0 : (List Za)} {a1 : Int} {r : Bool} {O : Objs} {n : Nat} (h : Za8 Y3 Yw Yg Yn a0 a1 = some r) : GTo Try.prog 95 [(sL Zc a0), (vI a1)] O n ((vB r)) O n := by
 unfold Za8 at h
 refine zFn Try.call95 Try.func95 fun hU hN0 hN => ?_
 show W _ _ _ _ ⟨31, [], [(0, (sL Zc a0)), (1, (vI a1))]⟩ (Zr O n []) _
 refine zQ [0, 1] ?_
 refine Zg ?_
 refine zQd [1, 7, 8, 9] [1, 7, 8, 9] [] ?_
 obtain ⟨z17, hz17, h⟩ := bC h
 refine Ziw (J := (Gn (fun z17 => JR n (⟨31, [], [(4, (vB false))]⟩ : Env) (Zr O n []) n) (fun z17 => JX 0 n (⟨31, [], []⟩ : Env) (Zr O n []) n))) (z := z17) ?_ fun hw => ?_
 ·refine Xm hz17 (fun s0_ => ⟨31, [], [(1, (vI a1)), (7, (sL Zc a0)), (8, (vI (a0.length : Int))), (9, (vI s0_))]⟩) (fun s0_ => (Zr O n [])) (Gn (fun z17 => JR n (⟨31, [], [(4, (vB false))]⟩ : Env) (Zr O n []) n) (fun z17 => JX 0 n (⟨31, [], []⟩ : Env) (Zr O n []) n)) ?_
  intro s0_ x0_ hs0_
  unfold Uk at hs0_
  try dsimp only
  refine zQ [1, 7, 8, 9, 10] ?_
  refine Zg ?_
  refine Zm (t := (decide (s0_ < (a0.length : Int)))) rfl (fun c16 => ?_) (fun c16 => ?_)
  ·replace hs0_ := Zo c16 hs0_
   refine J6 [1, 7, 8, 9] [] ?_
   refine Zg ?_
   refine Yj ?_
   refine Zg ?_
   obtain ⟨x2, hx2, ax2, bx2, cx2, hs0_⟩ := bE (f := Zc) Vo (fun _ => rfl) (by decide) hs0_
   refine Ziv [] ax2 bx2 cx2 ?_
   refine zD [1, 6, 7, 8, 9] [true] ?_
   obtain ⟨z6, hz6, hs0_⟩ := bC hs0_
   refine Xo (E' := ⟨31, [], [(1, (vI a1)), (7, (sL Zc a0)), (8, (vI (a0.length : Int))), (9, (vI s0_)), (29, (vB z6))]⟩) (O' := (Zr O n [none])) (n0 := (n + 1)) ?_ ?_
   ·rcases Bool.eq_false_or_eq_true (x2.Kind != 10) with c13 | c13
    ·replace hz6 := Zo c13 hz6
     refine K9 [some false, some false, some false, some false, some false, some false, some false, some false, some false, some false] c13 ?_
     exact Kp hz6 c13
    replace hz6 := Zn c13 hz6
    obtain ⟨y10, hy10, hz6⟩ := bC hz6
    rcases Bool.eq_false_or_eq_true y10 with c14 | c14
    ·replace hz6 := Zo c14 hz6
     try rw [c14] at c13
     obtain ⟨x11, hx11, ax11, bx11, cx11, hz6⟩ := bE (f := (eI .u64)) U2 (fun _ => rfl) (by decide) hz6
     obtain ⟨y12, hy12, hz6⟩ := bC hz6
     refine Z3q [some true, some true, some true, some true, some true, some true, some true, some true, some true, some true] c13 c14 ax11 bx11 cx11 ?_
     refine (Zbl hy10).then ?_
     refine zF5 c13 c14 ax11 bx11 cx11 ?_
     refine (Zq1 hy12).then ?_
     refine zF5 c13 c14 ax11 bx11 cx11 ?_
     exact Ybo hz6 c13 c14 ax11 bx11 cx11
    replace hz6 := Zn c14 hz6
    try rw [c14] at c13
    refine Jm [some true, some true, some true, some false, some false, some false, some false, some false, some false, some false] c13 c14 ?_
    refine (Zbl hy10).then ?_
    refine zX2 c13 c14 ?_
    exact Z3m hz6 c13 c14
   refine Zm (t := z6) rfl (fun c15 => ?_) (fun c15 => ?_)
   ·replace hs0_ := Zo c15 hs0_
    refine zQ [4] ?_
    refine zW ?_
    exact zEy hs0_
   replace hs0_ := Zn c15 hs0_
   refine J6 [1, 7, 8, 9] [false] ?_
   refine zR ?_
   exact zEn hs0_
  replace hs0_ := Zn c16 hs0_
  exact zEx hs0_
 rcases z17 with z17 | z17
 ·dsimp only [Gn] at hw h
  refine Zc0 hw ?_
  try simp only [Xc, Ym, ↓reduceIte, Nat.reduceEqDiff]
  exact Z3o [(vB false)]
 dsimp only [Gn] at hw h
 refine Y0 hw ?_
 try simp only [Xc, Ym, ↓reduceIte, Nat.reduceEqDiff]
 refine zD [] [] ?_
 refine zQ [4] ?_
 exact Z4 [(vB true)]
theorem Ztn : ∀ k, (Zbj ((Zt k).1)) ∧ (Zbk ((Zt k).2.1)) ∧ (Uu ((Zt k).2.2.1)) ∧ (Ut ((Zt k).2.2.2)) := fun k => by
 induction k with
 | zero => exact ⟨@fun a0 r O n h => (nomatch (show (none : Option _) = some _ from h)), @fun a0 a1 r O n h => (nomatch (show (none : Option _) = some _ from h)), @fun a0 a1 r O n h => (nomatch (show (none : Option _) = some _ from h)), @fun a0 a1 r O n h => (nomatch (show (none : Option _) = some _ from h))⟩
 | succ k ih => exact ⟨@fun a0 r O n h => Zvu (ih.1) (ih.2.1) (ih.2.2.1) (ih.2.2.2)  h, @fun a0 a1 r O n h => Zvv (ih.1) (ih.2.1) (ih.2.2.1) (ih.2.2.2)  h, @fun a0 a1 r O n h => Zq4 (ih.1) (ih.2.1) (ih.2.2.1) (ih.2.2.2)  h, @fun a0 a1 r O n h => Zq3 (ih.1) (ih.2.1) (ih.2.2.1) (ih.2.2.2)  h⟩
theorem Zx6 {a0 : Za} {r : Bool} {O : Objs} {n : Nat} (h : Zkz a0 = some r) : GTo Try.prog 36 [.agg (Zd a0)] O n ((vB r)) O n := by
 obtain ⟨k, hk⟩ := Zaj h
 exact (Ztn k).1  hk
theorem Zq0 {a0 : (List Int)} {r : (List Int)} {O : Objs} {n : Nat} (h : Zal a0 = some r) : GTo Try.prog 57 [(sL (eI .u64) a0)] O n ((sL (eI .u64) r)) O n := by
 unfold Zal at h
 refine zFn Try.call57 Try.func57 fun hU hN0 hN => ?_
 show W _ _ _ _ ⟨22, [], [(0, (sL (eI .u64) a0))]⟩ (Zr O n []) _
 refine zQ [0] ?_
 refine zQ [0, 3] ?_
 refine Zg ?_
 refine zD [0, 3] [] ?_
 obtain ⟨z7, hz7, h⟩ := bC h
 refine Y0 (E' := ⟨22, [], [(0, (sL (eI .u64) a0)), (3, (vI z7))]⟩) (O' := (Zr O n [])) (n0 := n) ?_ ?_
 ·refine Xm hz7 (fun s0_ => ⟨22, [], [(0, (sL (eI .u64) a0)), (3, (vI s0_))]⟩) (fun s0_ => (Zr O n [])) (fun z7 => JX 0 n (⟨22, [], [(0, (sL (eI .u64) a0)), (3, (vI z7))]⟩ : Env) (Zr O n []) n) ?_
  intro s0_ x0_ hs0_
  unfold V3 at hs0_
  try dsimp only
  refine Zg ?_
  obtain ⟨z2, hz2, hs0_⟩ := bC hs0_
  refine Xo (E' := ⟨22, [], [(0, (sL (eI .u64) a0)), (3, (vI s0_)), (15, (vB z2))]⟩) (O' := (Zr O n [])) (n0 := n) ?_ ?_
  ·rcases Bool.eq_false_or_eq_true (decide (0 < s0_)) with c5 | c5
   ·replace hz2 := Zo c5 hz2
    obtain ⟨x4, hx4, ax4, bx4, cx4, hz2⟩ := bE (f := (eI .u64)) U2 (fun _ => rfl) (by decide) hz2
    refine Z3p [some true, some true, some true, some true, some true, some true] c5 ax4 bx4 cx4 ?_
    exact Z58 hz2 c5 ax4 bx4 cx4
   replace hz2 := Zn c5 hz2
   refine K9 [some false, some false, some false, some false, some false, some false] c5 ?_
   exact Kp hz2 c5
  refine Zm (t := z2) rfl (fun c6 => ?_) (fun c6 => ?_)
  ·replace hs0_ := Zo c6 hs0_
   refine J6 [0, 3] [] ?_
   refine Yj ?_
   refine zR ?_
   exact zEn hs0_
  replace hs0_ := Zn c6 hs0_
  exact zEx hs0_
 try simp only [Xc, Ym, ↓reduceIte, Nat.reduceEqDiff]
 refine zD [0, 3] [] ?_
 obtain ⟨l9, al9, bl9, cl9, gl9, h⟩ := bS3 (lo := none) (hi := (.i64, z7)) (f := (eI .u64)) rfl rfl Zep U2 (fun _ => rfl) h
 refine Yd0 [2] al9 bl9 cl9 gl9 ?_
 exact Z4 [(sL (eI .u64) l9)]
theorem Ztp {a0 : (List Za)} {r : (List Za)} {O : Objs} {n : Nat} (h : Zbf a0 = some r) : GTo Try.prog 58 [(sL Zc a0)] O n ((sL Zc r)) O n := by
 unfold Zbf at h
 refine zFn Try.call58 Try.func58 fun hU hN0 hN => ?_
 show W _ _ _ _ ⟨23, [], [(0, (sL Zc a0))]⟩ (Zr O n []) _
 refine zQ [0] ?_
 refine zQ [0, 3] ?_
 refine Zg ?_
 refine zD [0, 3] [] ?_
 obtain ⟨z10, hz10, h⟩ := bC h
 refine Y0 (E' := ⟨23, [], [(0, (sL Zc a0)), (3, (vI z10))]⟩) (O' := (Zr O n [])) (n0 := n) ?_ ?_
 ·refine Xm hz10 (fun s0_ => ⟨23, [], [(0, (sL Zc a0)), (3, (vI s0_))]⟩) (fun s0_ => (Zr O n [])) (fun z10 => JX 0 n (⟨23, [], [(0, (sL Zc a0)), (3, (vI z10))]⟩ : Env) (Zr O n []) n) ?_
  intro s0_ x0_ hs0_
  unfold Us at hs0_
  try dsimp only
  refine Zg ?_
  obtain ⟨z3, hz3, hs0_⟩ := bC hs0_
  refine Xo (E' := ⟨23, [], [(0, (sL Zc a0)), (3, (vI s0_)), (16, (vB z3))]⟩) (O' := (Zr O n [])) (n0 := n) ?_ ?_
  ·rcases Bool.eq_false_or_eq_true (decide (0 < s0_)) with c8 | c8
   ·replace hz3 := Zo c8 hz3
    obtain ⟨x6, hx6, ax6, bx6, cx6, hz3⟩ := bE (f := Zc) Vo (fun _ => rfl) (by decide) hz3
    have g7 := Z37 (f := Zc) (sz := 3) Z2r (fun _ => rfl) (by decide) (by decide) hx6
    refine Z3q [some true, some true, some true, some true, some true, some true, some true] c8 ax6 bx6 cx6 g7 ?_
    exact Ybo hz3 c8 ax6 bx6 cx6 g7
   replace hz3 := Zn c8 hz3
   refine K9 [some false, some false, some false, some false, some false, some false, some false] c8 ?_
   exact Kp hz3 c8
  refine Zm (t := z3) rfl (fun c9 => ?_) (fun c9 => ?_)
  ·replace hs0_ := Zo c9 hs0_
   refine J6 [0, 3] [] ?_
   refine Yj ?_
   refine zR ?_
   exact zEn hs0_
  replace hs0_ := Zn c9 hs0_
  exact zEx hs0_
 try simp only [Xc, Ym, ↓reduceIte, Nat.reduceEqDiff]
 refine zD [0, 3] [] ?_
 obtain ⟨l12, al12, bl12, cl12, gl12, h⟩ := bS3 (lo := none) (hi := (.i64, z10)) (f := Zc) rfl rfl Zlf Vo (fun _ => rfl) h
 refine Yd0 [2] al12 bl12 cl12 gl12 ?_
 exact Z4 [(sL Zc l12)]
def Zmu (Zaw : (Za → Option Za)) : Prop := ∀ {a0 : Za} {r : Za} {O : Objs} {n : Nat}, Zaw a0 = some r → GTo Try.prog 33 [.agg (Zd a0)] O n (.agg (Zd r)) O n
theorem Zx7 {Zaw : (Za → Option Za)} (Zvs : Zmu Zaw) {a0 : Za} {r : Za} {O : Objs} {n : Nat} (h : Ze7 Zaw a0 = some r) : GTo Try.prog 33 [.agg (Zd a0)] O n (.agg (Zd r)) O n := by
 unfold Ze7 at h
 refine zFn Try.call33 Try.func33 fun hU hN0 hN => ?_
 show W _ _ _ _ ⟨49, [], [(0, .agg (Zd a0))]⟩ (Zr O n []) _
 refine zQ [1, 2] ?_
 refine Zg ?_
 refine zQ [1, 2, 10] ?_
 refine Zm (t := (a0.Kind == 0)) rfl (fun c15 => ?_) (fun c15 => ?_)
 ·replace h := Zo c15 h
  refine Zg ?_
  refine zRd [2] [false, true] ?_
  exact Z4 [.agg [(vI 0), nV, nV]]
 replace h := Zn c15 h
 refine J6 [1, 2] [true, true] ?_
 refine Zc2 [1, 2, 3, 4] (Q8 Zv (by kernel_rfl) [] (by kernel_rfl) ?_)
 refine zS ?_
 obtain ⟨z1, hz1, h⟩ := bC h
 refine Xo (E' := ⟨49, [], [(1, .ref n 0), (2, .ref (n + 1) 0), (3, (sL (eI .u64) z1.1)), (4, (sL Zc z1.2))]⟩) (O' := (Zr O n [some ⟨false, 29, 3, 1, (Zd a0)⟩, some ⟨false, 29, 3, 1, [(vI 0), nV, nV]⟩])) (n0 := (n + 2)) ?_ ?_
 ·refine zQ [1, 2, 3, 4, 18] ?_
  refine Zm (t := (a0.Kind == 1)) rfl (fun c4 => ?_) (fun c4 => ?_)
  ·replace hz1 := Zo c4 hz1
   obtain ⟨y2, hy2, hz1⟩ := bC hz1
   obtain ⟨y3, hy3, hz1⟩ := bC hz1
   refine zC (Zq0 hy2) ?_
   refine zTs (Ztp hy3) ?_
   exact zEn hz1
  replace hz1 := Zn c4 hz1
  refine zK ?_
  exact zEn hz1
 refine Zg ?_
 refine zRd [2, 4, 5] [false, true, true] ?_
 obtain ⟨z5, hz5, h⟩ := bC h
 refine Xo (E' := ⟨49, [], [(2, .ref (n + 1) 0), (4, (sL Zc z1.2)), (5, .ref (n + 2) 0)]⟩) (O' := (Zr O n [none, some ⟨false, 29, 3, 1, [(vI 0), nV, nV]⟩, some ⟨false, 29, 3, 1, [(vI a0.Kind), (sL (eI .u64) z1.1), .row (n + 4) z5.length]⟩, none, some (oR 29 3 Zc z5), none])) (n0 := (n + 6)) ?_ ?_
 ·refine zQ [2, 4, 5, 29] ?_
  refine Zm (t := (decide (0 < (z1.2.length : Int)))) rfl (fun c7 => ?_) (fun c7 => ?_)
  ·replace hz5 := Zo c7 hz5
   obtain ⟨l6, al6, bl6, cl6, el6, hz5⟩ := bM2 (c := 56) rfl hz5
   have nl6 : Int.toNat (z1.2.length : Int) = List.length l6 := by rw [el6, List.length_replicate]
   have fl6 : ∀ O O' n, wkl O O' n (List.replicate (List.length l6) [.val (.int .i64 0), .val (.slice none 0 0), .val (.slice none 0 0)]).flatten (fl Zc l6) = True := fun O O' n => by rw [← nl6, el6]; exact eq_true (Zxt (by simp only [push_cast, seval, ↓reduceIte, Zh]) _)
   clear el6
   refine Z5 Zv [] ?_
   simp only [push_cast, seval, ↓reduceIte, Zh, al6, bl6, cl6, fl6, nl6, hN0, hN]
   have hz5 := Option.some.inj hz5; subst hz5
   refine And.intro rfl ?_
   refine Fit2.trans (E' := (⟨49, [], [(2, .ref (n + 1) 0), (4, (sL Zc z1.2)), (5, .ref (n + 2) 0)]⟩ : Env)) (O' := (Zr O n [none, some ⟨false, 29, 3, 1, [(vI 0), nV, nV]⟩, some ⟨false, 29, 3, 1, [(vI a0.Kind), (sL (eI .u64) z1.1), .row (n + 3) l6.length]⟩, some (oR 29 3 Zc l6)])) (n' := (n + 4)) (Fit2.of (Yq hU rfl rfl ?_) (by omega)) ?_
   ·simp only [push_cast, seval, ↓reduceIte, Zh, al6, bl6, cl6, fl6, nl6, hN0, hN]
   refine Zit (k := 4) (k' := 6) hU [5, 1, 2, 4] [0, 1, 2, 0, 3, 0] rfl rfl rfl rfl ⟨rfl, rfl⟩ ?_
   exact zSe
  replace hz5 := Zn c7 hz5
  refine zK ?_
  have hz5 := Option.some.inj hz5; subst hz5
  refine And.intro rfl ?_
  refine Fit2.trans (E' := (⟨49, [], [(2, .ref (n + 1) 0), (4, (sL Zc z1.2)), (5, .ref (n + 2) 0)]⟩ : Env)) (O' := (Zr O n [none, some ⟨false, 29, 3, 1, [(vI 0), nV, nV]⟩, some ⟨false, 29, 3, 1, [(vI a0.Kind), (sL (eI .u64) z1.1), nV]⟩])) (n' := (n + 3)) (Fit2.of (Yq hU rfl rfl ?_) (by omega)) ?_
  ·exact zSe
  refine Fit2.trans (Zkn (p := (n + 2)) (k := 2) (q := ⟨false, 29, 3, 1, [(vI a0.Kind), (sL (eI .u64) z1.1), nV]⟩) 29 3 (by simp only [Zbq, Zgn, List.getElem?_cons_zero, List.getElem?_cons_succ, Option.join_some, List.length_nil, Yz]) rfl (by omega)) ?_
  simp only [Vy, Kj, Zdi, Zby, List.set_cons_zero, List.set_cons_succ, List.cons_append, List.nil_append, List.length_cons, List.length_nil, Nat.zero_add, Nat.reduceAdd, Nat.reduceLT, Nat.add_assoc]
  refine Zit (k := 4) (k' := 6) hU [5, 1, 2, 4] [0, 1, 2, 0, 3, 0] rfl rfl rfl rfl ⟨rfl, rfl⟩ ?_
  exact zSe
 refine Zg ?_
 refine zQd [2, 5, 34, 35, 36] [2, 5, 34, 35, 36] [false, true, true, false, true, false] ?_
 obtain ⟨z14, hz14, h⟩ := bC h
 refine Y0 (E' := ⟨49, [], [(2, .ref (n + 1) 0), (5, .ref (n + 2) 0)]⟩) (O' := (Zr O n [none, some ⟨false, 29, 3, 1, [(vI 0), nV, nV]⟩, some ⟨false, 29, 3, 1, [(vI a0.Kind), (sL (eI .u64) z1.1), .row (n + 4) z14.length]⟩, none, some (oR 29 3 Zc z14), none])) (n0 := (n + 6)) ?_ ?_
 ·refine Xm hz14 (fun s0_ => ⟨49, [], [(2, .ref (n + 1) 0), (5, .ref (n + 2) 0), (34, (sL Zc z1.2)), (35, (vI (z1.2.length : Int))), (36, (vI s0_.1))]⟩) (fun s0_ => (Zr O n [none, some ⟨false, 29, 3, 1, [(vI 0), nV, nV]⟩, some ⟨false, 29, 3, 1, [(vI a0.Kind), (sL (eI .u64) z1.1), .row (n + 4) s0_.2.length]⟩, none, some (oR 29 3 Zc s0_.2), none])) (fun z14 => JX 0 n (⟨49, [], [(2, .ref (n + 1) 0), (5, .ref (n + 2) 0)]⟩ : Env) (Zr O n [none, some ⟨false, 29, 3, 1, [(vI 0), nV, nV]⟩, some ⟨false, 29, 3, 1, [(vI a0.Kind), (sL (eI .u64) z1.1), .row (n + 4) z14.length]⟩, none, some (oR 29 3 Zc z14), none]) (n + 6)) ?_
  intro s0_ x0_ hs0_
  unfold Zae at hs0_
  try dsimp only
  refine zQ [2, 5, 34, 35, 36, 37] ?_
  refine Zg ?_
  refine Zm (t := (decide (s0_.1 < (z1.2.length : Int)))) rfl (fun c13 => ?_) (fun c13 => ?_)
  ·replace hs0_ := Zo c13 hs0_
   refine J6 [2, 5, 34, 35, 36] [false, true, true, false, true, false] ?_
   refine Zg ?_
   refine Yj ?_
   refine Zg ?_
   obtain ⟨x9, hx9, ax9, bx9, cx9, hs0_⟩ := bE (f := Zc) Vo (fun _ => rfl) (by decide) hs0_
   refine Ziv [] ax9 bx9 cx9 ?_
   refine zD [2, 5, 6, 7, 34, 35, 36] [false, true, true, false, true, false, true] ?_
   obtain ⟨y10, hy10, hs0_⟩ := bC hs0_
   obtain ⟨x11, hx11, ax11, bx11, cx11, hs0_⟩ := bE (f := Zc) Vo (fun _ => rfl) (by decide) hs0_
   have gu12 : Un (fl Zc s0_.2) [.val (.int .i64 y10.Kind), .sl y10.Words.length (fl (eI .u64) y10.Words), .sl y10.Kids.length (fl Zc y10.Kids)] (Int.toNat s0_.1 * 3) = some (fl Zc (Qy s0_.2 s0_.1 y10)) := (congrArg (fun c => Un (fl Zc s0_.2) c (Int.toNat s0_.1 * 3)) (show [.val (.int .i64 y10.Kind), .sl y10.Words.length (fl (eI .u64) y10.Words), .sl y10.Kids.length (fl Zc y10.Kids)] = Zc y10 from by simp only [Zc, Yu, eI, eB, eS, eL])).trans (Zjo (f := Zc) (ti := ⟨.bool, 3, 0, [], false⟩) (x := y10) (fun _ => rfl) (Zd9 hx11))
   refine Ze5 Zv (by kernel_rfl) [false, false, false, false, false, false, true] [] (by kernel_rfl) ?_
   refine zF4 ax11 bx11 cx11 gu12 ?_
   refine PCall.of (Zvs hy10) ?_
   refine zF4 ax11 bx11 cx11 gu12 ?_
   refine zD [2, 5, 34, 35, 36] [false, true, true, false, true, false, false] ?_
   refine zR ?_
   exact zEn hs0_
  replace hs0_ := Zn c13 hs0_
  exact zEx hs0_
 try simp only [Xc, Ym, ↓reduceIte, Nat.reduceEqDiff]
 refine zDs [2, 5] [false, true, true, false, true, false] ?_
 refine zRd [2] [false, true, false, false, true, false] ?_
 exact Z4 [.agg [(vI a0.Kind), (sL (eI .u64) z1.1), .row (n + 4) z14.length]]
theorem Zuc : ∀ k, (Zmu (Ua k)) := fun k => by
 induction k with
 | zero => exact @fun a0 r O n h => (nomatch (show (none : Option _) = some _ from h))
 | succ k ih => exact @fun a0 r O n h => Zx7 (ih)  h
theorem Zk3 {a0 : Za} {r : Za} {O : Objs} {n : Nat} (h : Zfo a0 = some r) : GTo Try.prog 33 [.agg (Zd a0)] O n (.agg (Zd r)) O n := by
 obtain ⟨k, hk⟩ := Zaj h
 exact (Zuc k)  hk
theorem Zzt {a0 : Int} {r : Bool} {O : Objs} {n : Nat} (h : Ziq a0 = some r) : GTo Try.prog 97 [(vI a0)] O n ((vB r)) O n := by
 unfold Ziq at h
 refine zFn Try.call97 Try.func97 fun hU hN0 hN => ?_
 show W _ _ _ _ ⟨9, [], [(0, (vI a0))]⟩ (Zr O n []) _
 refine zQ [0] ?_
 refine zQD [2] [none, none] ?_
 exact Z4 [(vB (cond (decide (2 ≤ a0)) (decide (a0 ≤ 7)) false))]
theorem Zq2 {a0 : Int} {a1 : Int} {r : Int} {O : Objs} {n : Nat} (h : Zdw a0 a1 = some r) : GTo Try.prog 98 [(vI a0), (vI a1)] O n ((vI r)) O n := by
 unfold Zdw at h
 refine zFn Try.call98 Try.func98 fun hU hN0 hN => ?_
 show W _ _ _ _ ⟨27, [], [(0, (vI a0)), (1, (vI a1))]⟩ (Zr O n []) _
 refine zQ [0, 1] ?_
 refine Zg ?_
 obtain ⟨y2, hy2, h⟩ := bC h
 refine zCd (Zdc hy2) [1, 5, 6] [] ?_
 refine Zg ?_
 refine zQD [1, 5, 21] [none, none, none, none] ?_
 refine Zm (t := (cond (cond (!y2.2) true (decide (a1 < 0))) true (decide (1099511627776 < a1)))) rfl (fun c3 => ?_) (fun c3 => ?_)
 ·replace h := Zo c3 h
  refine zQ [4] ?_
  exact Z4 [(vI 0)]
 replace h := Zn c3 h
 refine J6 [1, 5] [] ?_
 refine zQ [4] ?_
 exact Z4 [(vI (IntKind.i64.wrap (Int.tdiv (IntKind.i64.wrap ((IntKind.i64.wrap (a1 * y2.1)) + 63)) 64)))]
theorem Zi4 {a0 : Za} {r : (Int × Int)} {O : Objs} {n : Nat} (h : Za3 a0 = some r) : GTo Try.prog 99 [.agg (Zd a0)] O n (.tup [(vI r.1), (vI r.2)]) O n := by
 unfold Za3 at h
 refine zFn Try.call99 Try.func99 fun hU hN0 hN => ?_
 show W _ _ _ _ ⟨28, [], [(0, .agg (Zd a0))]⟩ (Zr O n []) _
 refine zQ [1] ?_
 refine zQ [1, 4, 5] ?_
 refine Zg ?_
 refine zQd [4, 5, 9, 10, 11] [4, 5, 9, 10, 11] [false] ?_
 obtain ⟨z4, hz4, h⟩ := bC h
 refine Y0 (E' := ⟨28, [], [(4, (vI z4.1)), (5, (vI z4.2))]⟩) (O' := (Zr O n [none])) (n0 := (n + 1)) ?_ ?_
 ·refine Xm hz4 (fun s0_ => ⟨28, [], [(4, (vI s0_.1)), (5, (vI s0_.2.1)), (9, (sL Zc a0.Kids)), (10, (vI (a0.Kids.length : Int))), (11, (vI s0_.2.2))]⟩) (fun s0_ => (Zr O n [none])) (fun z4 => JX 0 n (⟨28, [], [(4, (vI z4.1)), (5, (vI z4.2))]⟩ : Env) (Zr O n [none]) (n + 1)) ?_
  intro s0_ x0_ hs0_
  unfold Zbe at hs0_
  try dsimp only
  refine zQ [4, 5, 9, 10, 11, 12] ?_
  refine Zg ?_
  refine Zm (t := (decide (s0_.2.2 < (a0.Kids.length : Int)))) rfl (fun c3 => ?_) (fun c3 => ?_)
  ·replace hs0_ := Zo c3 hs0_
   refine J6 [4, 5, 9, 10, 11] [false] ?_
   refine Zg ?_
   refine Yj ?_
   refine Zg ?_
   obtain ⟨x2, hx2, ax2, bx2, cx2, hs0_⟩ := bE (f := Zc) Vo (fun _ => rfl) (by decide) hs0_
   refine Ziv [] ax2 bx2 cx2 ?_
   refine zD [4, 5, 7, 9, 10, 11] [false, true] ?_
   refine Q8 Zv (by kernel_rfl) [] (by kernel_rfl) ?_
   refine zS ?_
   refine zD [4, 5, 9, 10, 11] [false, false] ?_
   refine zR ?_
   exact zEn hs0_
  replace hs0_ := Zn c3 hs0_
  exact zEx hs0_
 try simp only [Xc, Ym, ↓reduceIte, Nat.reduceEqDiff]
 refine zD [4, 5] [false] ?_
 refine zQ [2, 3] ?_
 exact Z4 [(vI z4.1), (vI z4.2)]
def Zhg (Ko : (Za → Option Int)) : Prop := ∀ {a0 : Za} {r : Int} {O : Objs} {n : Nat}, Ko a0 = some r → GTo Try.prog 61 [.agg (Zd a0)] O n ((vI r)) O n
def Zge (Qk : ((List Za) → Option Int)) : Prop := ∀ {a0 : (List Za)} {r : Int} {O : Objs} {n : Nat}, Qk a0 = some r → GTo Try.prog 96 [(sL Zc a0)] O n ((vI r)) O n
theorem Zx8 {Ko : (Za → Option Int)} {Qk : ((List Za) → Option Int)} (Zm0 : Zhg Ko) (Zdj : Zge Qk) {a0 : Za} {r : Int} {O : Objs} {n : Nat} (h : Ze8 Ko Qk a0 = some r) : GTo Try.prog 61 [.agg (Zd a0)] O n ((vI r)) O n := by
 unfold Ze8 at h
 refine zFn Try.call61 Try.func61 fun hU hN0 hN => ?_
 show W _ _ _ _ ⟨76, [], [(0, .agg (Zd a0))]⟩ (Zr O n []) _
 refine zQ [1] ?_
 refine Zg ?_
 refine Yj ?_
 refine zQ [1, 8] ?_
 refine Zm (t := (a0.Kind == 1)) rfl (fun c19 => ?_) (fun c19 => ?_)
 ·replace h := Zo c19 h
  refine Zg ?_
  obtain ⟨y2, hy2, h⟩ := bC h
  refine Q8 Zv (by kernel_rfl) [] (by kernel_rfl) ?_
  refine zS ?_
  refine PCall.of (Zdj hy2) ?_
  refine zS ?_
  refine zD [2] [false] ?_
  exact Z4 [(vI (IntKind.i64.wrap ((IntKind.i64.wrap ((a0.Words.length : Int) + (a0.Kids.length : Int))) + y2)))]
 replace h := Zn c19 h
 refine Zg ?_
 obtain ⟨y4, hy4, h⟩ := bC h
 refine zCd (Zzt hy4) [1, 23] [true] ?_
 refine Zm (t := y4) rfl (fun c18 => ?_) (fun c18 => ?_)
 ·replace h := Zo c18 h
  refine Zg ?_
  obtain ⟨y6, hy6, h⟩ := bC h
  refine zCd (Zq2 hy6) [2] [false] ?_
  exact Z4 [(vI y6)]
 replace h := Zn c18 h
 refine zQ [1, 34] ?_
 refine Zm (t := (a0.Kind == 8)) rfl (fun c17 => ?_) (fun c17 => ?_)
 ·replace h := Zo c17 h
  refine Zg ?_
  obtain ⟨y8, hy8, h⟩ := bC h
  refine Q8 Zv (by kernel_rfl) [] (by kernel_rfl) ?_
  refine zS ?_
  refine PCall.of (Zdj hy8) ?_
  refine zS ?_
  refine zD [2] [false] ?_
  exact Z4 [(vI (IntKind.i64.wrap ((a0.Kids.length : Int) + y8)))]
 replace h := Zn c17 h
 refine zQ [1, 45] ?_
 refine Zm (t := (a0.Kind == 9)) rfl (fun c16 => ?_) (fun c16 => ?_)
 ·replace h := Zo c16 h
  refine Zg ?_
  obtain ⟨y10, hy10, h⟩ := bC h
  refine zCd (Zi4 hy10) [1, 3, 4] [true] ?_
  refine zQ [1, 5] ?_
  refine Zg ?_
  refine zQd [5, 63, 64, 65] [5, 63, 64, 65] [false] ?_
  obtain ⟨z15, hz15, h⟩ := bC h
  refine Y0 (E' := ⟨76, [], [(5, (vI z15))]⟩) (O' := (Zr O n [none])) (n0 := (n + 1)) ?_ ?_
  ·refine Xm hz15 (fun s0_ => ⟨76, [], [(5, (vI s0_.1)), (63, (sL Zc a0.Kids)), (64, (vI (a0.Kids.length : Int))), (65, (vI s0_.2))]⟩) (fun s0_ => (Zr O n [none])) (fun z15 => JX 1 n (⟨76, [], [(5, (vI z15))]⟩ : Env) (Zr O n [none]) (n + 1)) ?_
   intro s0_ x0_ hs0_
   unfold Zaf at hs0_
   try dsimp only
   refine zQ [5, 63, 64, 65, 66] ?_
   refine Zg ?_
   refine Zm (t := (decide (s0_.2 < (a0.Kids.length : Int)))) rfl (fun c14 => ?_) (fun c14 => ?_)
   ·replace hs0_ := Zo c14 hs0_
    refine J6 [5, 63, 64, 65] [false] ?_
    refine Zg ?_
    refine Yj ?_
    refine Zg ?_
    obtain ⟨x12, hx12, ax12, bx12, cx12, hs0_⟩ := bE (f := Zc) Vo (fun _ => rfl) (by decide) hs0_
    refine Ziv [] ax12 bx12 cx12 ?_
    refine zD [5, 7, 63, 64, 65] [false, true] ?_
    obtain ⟨y13, hy13, hs0_⟩ := bC hs0_
    refine zCd (Zdj hy13) [5, 63, 64, 65] [false, false] ?_
    refine zR ?_
    exact zEn hs0_
   replace hs0_ := Zn c14 hs0_
   exact zEx hs0_
  try simp only [Xc, Ym, ↓reduceIte, Nat.reduceEqDiff]
  refine zD [5] [false] ?_
  refine zQ [2] ?_
  exact Z4 [(vI z15)]
 replace h := Zn c16 h
 refine J6 [] [false] ?_
 refine zQ [2] ?_
 exact Z4 [(vI 0)]
theorem Zvw {Ko : (Za → Option Int)} {Qk : ((List Za) → Option Int)} (Zm0 : Zhg Ko) (Zdj : Zge Qk) {a0 : (List Za)} {r : Int} {O : Objs} {n : Nat} (h : Zd6 Ko Qk a0 = some r) : GTo Try.prog 96 [(sL Zc a0)] O n ((vI r)) O n := by
 unfold Zd6 at h
 refine zFn Try.call96 Try.func96 fun hU hN0 hN => ?_
 show W _ _ _ _ ⟨18, [], [(0, (sL Zc a0))]⟩ (Zr O n []) _
 refine zQ [0] ?_
 refine zQ [0, 3] ?_
 refine Zg ?_
 refine zQd [3, 6, 7, 8] [3, 6, 7, 8] [] ?_
 obtain ⟨z5, hz5, h⟩ := bC h
 refine Y0 (E' := ⟨18, [], [(3, (vI z5))]⟩) (O' := (Zr O n [])) (n0 := n) ?_ ?_
 ·refine Xm hz5 (fun s0_ => ⟨18, [], [(3, (vI s0_.1)), (6, (sL Zc a0)), (7, (vI (a0.length : Int))), (8, (vI s0_.2))]⟩) (fun s0_ => (Zr O n [])) (fun z5 => JX 0 n (⟨18, [], [(3, (vI z5))]⟩ : Env) (Zr O n []) n) ?_
  intro s0_ x0_ hs0_
  unfold U4 at hs0_
  try dsimp only
  refine zQ [3, 6, 7, 8, 9] ?_
  refine Zg ?_
  refine Zm (t := (decide (s0_.2 < (a0.length : Int)))) rfl (fun c4 => ?_) (fun c4 => ?_)
  ·replace hs0_ := Zo c4 hs0_
   refine J6 [3, 6, 7, 8] [] ?_
   refine Zg ?_
   refine Yj ?_
   refine Zg ?_
   obtain ⟨x2, hx2, ax2, bx2, cx2, hs0_⟩ := bE (f := Zc) Vo (fun _ => rfl) (by decide) hs0_
   refine Ziv [] ax2 bx2 cx2 ?_
   refine zD [3, 5, 6, 7, 8] [true] ?_
   obtain ⟨y3, hy3, hs0_⟩ := bC hs0_
   refine zCd (Zm0 hy3) [3, 6, 7, 8] [false] ?_
   refine zR ?_
   exact zEn hs0_
  replace hs0_ := Zn c4 hs0_
  exact zEx hs0_
 try simp only [Xc, Ym, ↓reduceIte, Nat.reduceEqDiff]
 refine zD [3] [] ?_
 refine zQ [2] ?_
 exact Z4 [(vI z5)]
theorem Zud : ∀ k, (Zhg ((Y6 k).1)) ∧ (Zge ((Y6 k).2)) := fun k => by
 induction k with
 | zero => exact ⟨@fun a0 r O n h => (nomatch (show (none : Option _) = some _ from h)), @fun a0 r O n h => (nomatch (show (none : Option _) = some _ from h))⟩
 | succ k ih => exact ⟨@fun a0 r O n h => Zx8 (ih.1) (ih.2)  h, @fun a0 r O n h => Zvw (ih.1) (ih.2)  h⟩
theorem Zzw {a0 : Za} {r : Int} {O : Objs} {n : Nat} (h : Zmr a0 = some r) : GTo Try.prog 61 [.agg (Zd a0)] O n ((vI r)) O n := by
 obtain ⟨k, hk⟩ := Zaj h
 exact (Zud k).1  hk
theorem Zzu {a0 : Za} {r : Int} {O : Objs} {n : Nat} (h : Zfp a0 = some r) : GTo Try.prog 37 [.agg (Zd a0)] O n ((vI r)) O n := by
 unfold Zfp at h
 refine zFn Try.call37 Try.func37 fun hU hN0 hN => ?_
 show W _ _ _ _ ⟨6, [], [(0, .agg (Zd a0))]⟩ (Zr O n []) _
 refine zQ [1] ?_
 refine Zg ?_
 obtain ⟨y3, hy3, h⟩ := bC h
 obtain ⟨y4, hy4, h⟩ := bC h
 refine zC (Zk3 hy3) ?_
 refine zTs (Zzw hy4) ?_
 refine zD [2] [false] ?_
 exact Z4 [(vI y4)]
theorem Zvr {a0 : Za} {r : Zy} {O : Objs} {n : Nat} (h : Va a0 = some r) : GTo Try.prog 62 [.agg (Zd a0)] O n (.agg (Xh r)) O n := by
 unfold Va at h
 refine zFn Try.call62 Try.func62 fun hU hN0 hN => ?_
 show W _ _ _ _ ⟨38, [], [(0, .agg (Zd a0))]⟩ (Zr O n []) _
 refine zQ [1, 2] ?_
 refine Zg ?_
 refine zQ [1, 2, 6] ?_
 refine Yj ?_
 refine zQ [1, 2, 6, 7] ?_
 refine Zm (t := (a0.Kind == 1)) rfl (fun c4 => ?_) (fun c4 => ?_)
 ·replace h := Zo c4 h
  refine Zg ?_
  refine zRd [2] [false, true] ?_
  exact Z4 [.agg [(vI 1), (vI 0), (vI (a0.Words.length : Int)), (vI (a0.Kids.length : Int)), (vI 0), (vI 0), (vI 0), (vB false)]]
 replace h := Zn c4 h
 refine zQ [1, 2, 16] ?_
 refine Zm (t := (a0.Kind == 9)) rfl (fun c3 => ?_) (fun c3 => ?_)
 ·replace h := Zo c3 h
  refine Zg ?_
  obtain ⟨y2, hy2, h⟩ := bC h
  refine zCd (Zi4 hy2) [1, 2, 3, 4] [true, true] ?_
  refine Zg ?_
  refine zRd [2] [false, true] ?_
  exact Z4 [.agg [(vI 2), (vI 0), (vI 0), (vI 0), (vI 7), (vI (IntKind.i64.wrap ((a0.Kids.length : Int) * (IntKind.i64.wrap (y2.1 + y2.2))))), (vI 0), (vB false)]]
 replace h := Zn c3 h
 refine J6 [1, 2] [true, true] ?_
 refine Zg ?_
 refine zRd [2] [false, true] ?_
 exact Z4 [.agg [(vI 2), (vI 0), (vI 0), (vI 0), (vI (IntKind.i64.wrap (a0.Kind - 2))), (vI (a0.Kids.length : Int)), (vI 0), (vB false)]]
theorem Zzs {a0 : Int} {r : Int} {O : Objs} {n : Nat} (h : Zdu a0 = some r) : GTo Try.prog 100 [(vI a0)] O n ((vI r)) O n := by
 unfold Zdu at h
 refine zFn Try.call100 Try.func100 fun hU hN0 hN => ?_
 show W _ _ _ _ ⟨8, [], [(0, (vI a0))]⟩ (Zr O n []) _
 refine zQ [0] ?_
 refine Zg ?_
 obtain ⟨y6, hy6, ey6, h⟩ := bY (f := (eI .i64)) (cs := [.val (.int .i64 0), .val (.int .i64 1), .val (.int .i64 8), .val (.int .i64 16), .val (.int .i64 32), .val (.int .i64 64), .val (.int .i64 64)]) rfl h
 have g7 := congrArg G.agg ey6
 obtain ⟨y8, hy8, ey8, h⟩ := bY (f := (eI .i64)) (cs := [.val (.int .i64 0), .val (.int .i64 0), .val (.int .i64 0), .val (.int .i64 0), .val (.int .i64 0), .val (.int .i64 0), .val (.int .i64 0)]) rfl h
 have g9 := congrArg (GObj.mk false 149 7 1) ey8
 have g10 := Zvf (f := (eI .i64)) y8 y6 (fun _ => rfl)
 refine Zs7 [] g7 g9 g10 ?_
 refine zD [0, 3] [true] ?_
 obtain ⟨x12, hx12, ax12, bx12, cx12, h⟩ := bEA (f := (eI .i64)) (b := 7) rfl Z2r (fun _ => rfl) (by decide) h
 refine Zc2 [2] (Z5 Zv [] ?_)
 refine zF3 ax12 bx12 cx12 ?_
 exact Z4 [(vI x12)]
theorem Zjy {a0 : Zy} {r : (Int × Bool)} {O : Objs} {n : Nat} (h : Xq a0 = some r) : GTo Try.prog 63 [.agg (Xh a0)] O n (.tup [(vI r.1), (vB r.2)]) O n := by
 unfold Xq at h
 refine zFn Try.call63 Try.func63 fun hU hN0 hN => ?_
 show W _ _ _ _ ⟨57, [], [(0, .agg (Xh a0))]⟩ (Zr O n []) _
 refine zQ [1] ?_
 refine Zg ?_
 refine Yj ?_
 refine zQ [1, 4] ?_
 refine Zm (t := (a0.Kind == 1)) rfl (fun c5 => ?_) (fun c5 => ?_)
 ·replace h := Zo c5 h
  refine zQ [2, 3] ?_
  exact Z4 [(vI (IntKind.i64.wrap (a0.Data + a0.Ptrs))), (vB true)]
 replace h := Zn c5 h
 refine zQD [1, 13] [none, none, none] ?_
 refine Zm (t := (cond (a0.Kind == 2) (a0.Code == 7) false)) rfl (fun c4 => ?_) (fun c4 => ?_)
 ·replace h := Zo c4 h
  refine zQ [2, 3] ?_
  exact Z4 [(vI (IntKind.i64.wrap (a0.Count + 1))), (vB true)]
 replace h := Zn c4 h
 refine zQD [1, 25] [none, none, none, none, none, none, none, none, none, none, none, none] ?_
 refine Zm (t := (cond (cond (cond (cond (a0.Kind == 2) (decide (0 ≤ a0.Code)) false) (decide (a0.Code < 7)) false) (decide (0 ≤ a0.Count)) false) (decide (a0.Count ≤ 536870911)) false)) rfl (fun c3 => ?_) (fun c3 => ?_)
 ·replace h := Zo c3 h
  refine Zg ?_
  obtain ⟨y2, hy2, h⟩ := bC h
  refine Q8 Zv (by kernel_rfl) [] (by kernel_rfl) ?_
  refine zS ?_
  refine PCall.of (Zzs hy2) ?_
  refine zS ?_
  refine zD [2, 3] [false] ?_
  exact Z4 [(vI (IntKind.i64.wrap (Int.tdiv (IntKind.i64.wrap ((IntKind.i64.wrap (a0.Count * y2)) + 63)) 64))), (vB true)]
 replace h := Zn c3 h
 refine J6 [] [false] ?_
 refine zQ [2, 3] ?_
 exact Z4 [(vI 0), (vB false)]
theorem Z4h {a0 : Zy} {r : Int} {O : Objs} {n : Nat} (h : Zjv a0 = some r) : GTo Try.prog 101 [.agg (Xh a0)] O n (.val (.int .u64 r)) O n := by
 unfold Zjv at h
 refine zFn Try.call101 Try.func101 fun hU hN0 hN => ?_
 show W _ _ _ _ ⟨58, [], [(0, .agg (Xh a0))]⟩ (Zr O n []) _
 refine zQ [1] ?_
 refine Zg ?_
 refine zQ [1, 5] ?_
 refine Yj ?_
 refine zQ [1, 5, 6] ?_
 refine Zm (t := (a0.Kind == 1)) rfl (fun c5 => ?_) (fun c5 => ?_)
 ·replace h := Zo c5 h
  refine zQ [2] ?_
  exact Z4 [.val (.int .u64 (IntKind.u64.wrap (Zbw .u64 (IntKind.u64.wrap (Zbw .u64 (IntKind.u64.wrap (IntKind.u32.wrap ((IntKind.u32.wrap a0.Off) * 2 ^ min (Int.toNat 2) 32))) (IntKind.u64.wrap ((IntKind.u64.wrap a0.Data) * 2 ^ min (Int.toNat 32) 64)))) (IntKind.u64.wrap ((IntKind.u64.wrap a0.Ptrs) * 2 ^ min (Int.toNat 48) 64)))))]
 replace h := Zn c5 h
 refine zQ [1, 5, 23] ?_
 refine Zm (t := (a0.Kind == 2)) rfl (fun c4 => ?_) (fun c4 => ?_)
 ·replace h := Zo c4 h
  refine zQ [2] ?_
  exact Z4 [.val (.int .u64 (IntKind.u64.wrap (Zbw .u64 (IntKind.u64.wrap (Zbw .u64 (IntKind.u64.wrap (Zbw .u64 1 (IntKind.u64.wrap (IntKind.u32.wrap ((IntKind.u32.wrap a0.Off) * 2 ^ min (Int.toNat 2) 32))))) (IntKind.u64.wrap ((IntKind.u64.wrap a0.Code) * 2 ^ min (Int.toNat 32) 64)))) (IntKind.u64.wrap ((IntKind.u64.wrap a0.Count) * 2 ^ min (Int.toNat 35) 64)))))]
 replace h := Zn c4 h
 refine zQ [1, 41] ?_
 refine Zm (t := (a0.Kind == 3)) rfl (fun c3 => ?_) (fun c3 => ?_)
 ·replace h := Zo c3 h
  refine zQ [1, 3] ?_
  obtain ⟨z1, hz1, h⟩ := bC h
  refine Xo (E' := ⟨58, [], [(3, .val (.int .u64 z1))]⟩) (O' := (Zr O n [none])) (n0 := (n + 1)) ?_ ?_
  ·refine zQ [3, 54] ?_
   refine Zm (t := a0.Double) rfl (fun c2 => ?_) (fun c2 => ?_)
   ·replace hz1 := Zo c2 hz1
    refine zR ?_
    exact zEn hz1
   replace hz1 := Zn c2 hz1
   refine zK ?_
   exact zEn hz1
  refine zQ [2] ?_
  exact Z4 [.val (.int .u64 z1)]
 replace h := Zn c3 h
 refine J6 [] [false] ?_
 refine zQ [2] ?_
 exact Z4 [.val (.int .u64 0)]
theorem Zo8 {a0 : Int} {r : Int} {O : Objs} {n : Nat} (h : Zef a0 = some r) : GTo Try.prog 123 [.val (.int .u64 a0)] O n ((vI r)) O n := by
 unfold Zef at h
 refine zFn Try.call123 Try.func123 fun hU hN0 hN => ?_
 show W _ _ _ _ ⟨8, [], [(0, .val (.int .u64 a0))]⟩ (Zr O n []) _
 refine zQ [0] ?_
 refine zQ [2] ?_
 exact Z4 [(vI (IntKind.i64.wrap (Int.fdiv (IntKind.i32.wrap (IntKind.u32.wrap a0)) (2 ^ min (Int.toNat 2) 32))))]
theorem Zco {a0 : Int} {a1 : Int} {a2 : Int} {r : Int} {O : Objs} {n : Nat} (h : Qd a0 a1 a2 = some r) : GTo Try.prog 124 [.val (.int .u64 a0), (vI a1), (vI a2)] O n ((vI r)) O n := by
 unfold Qd at h
 refine zFn Try.call124 Try.func124 fun hU hN0 hN => ?_
 show W _ _ _ _ ⟨15, [], [(0, .val (.int .u64 a0)), (1, (vI a1)), (2, (vI a2))]⟩ (Zr O n []) _
 refine zQ [0, 1, 2] ?_
 obtain ⟨pu3, h⟩ := bG h
 obtain ⟨pu4, h⟩ := bG h
 refine Zc2 [6] (Q8 Zv (by kernel_rfl) [] (by kernel_rfl) ?_)
 simp only [push_cast, seval, ↓reduceIte, Zh, pu3, pu4, hN0, hN]
 exact Z4 [(vI (IntKind.i64.wrap (IntKind.u64.wrap (Zb2 .u64 (Int.fdiv a0 (2 ^ min (Int.toNat a1) 64)) (IntKind.u64.wrap ((IntKind.u64.wrap (1 * 2 ^ min (Int.toNat a2) 64)) - 1))))))]
theorem Ud {a0 : Int} {r : Zy} {O : Objs} {n : Nat} (h : Kc a0 = some r) : GTo Try.prog 102 [.val (.int .u64 a0)] O n (.agg (Xh r)) O n := by
 unfold Kc at h
 refine zFn Try.call102 Try.func102 fun hU hN0 hN => ?_
 show W _ _ _ _ ⟨38, [], [(0, .val (.int .u64 a0))]⟩ (Zr O n []) _
 refine zQ [0, 2] ?_
 refine Zg ?_
 refine zQ [0, 2, 4] ?_
 refine Zm (t := (a0 == 0)) rfl (fun c20 => ?_) (fun c20 => ?_)
 ·replace h := Zo c20 h
  refine Zg ?_
  refine zR ?_
  refine Zc1 ⟨38, [], [(2, .ref n 0)]⟩ (Zr O n [some ⟨false, 93, 8, 1, [(vI 0), (vI 0), (vI 0), (vI 0), (vI 0), (vI 0), (vI 0), (vB false)]⟩]) (Yq hU rfl rfl ?_) ?_
  ·exact zSe
  exact Z4 [.agg [(vI 0), (vI 0), (vI 0), (vI 0), (vI 0), (vI 0), (vI 0), (vB false)]]
 replace h := Zn c20 h
 refine zK ?_
 refine Zc1 ⟨38, [], [(0, .val (.int .u64 a0)), (2, .ref n 0)]⟩ (Zr O n [some ⟨false, 93, 8, 1, [(vI 0), (vI 0), (vI 0), (vI 0), (vI 0), (vI 0), (vI 0), (vB false)]⟩]) (Yq hU rfl rfl ?_) ?_
 ·exact zSe
 refine Zg ?_
 refine zQ [0, 2, 7] ?_
 refine Yj ?_
 refine zQ [0, 2, 7, 8] ?_
 refine Zm (t := ((IntKind.u64.wrap (Zb2 .u64 a0 3)) == 0)) rfl (fun c19 => ?_) (fun c19 => ?_)
 ·replace h := Zo c19 h
  refine Zg ?_
  obtain ⟨y4, hy4, h⟩ := bC h
  obtain ⟨y5, hy5, h⟩ := bC h
  obtain ⟨y6, hy6, h⟩ := bC h
  refine zC (Zo8 hy4) ?_
  refine zTs (Zco hy5) ?_
  refine zTs (Zco hy6) ?_
  refine Zc1 ⟨38, [], [(2, .ref n 0)]⟩ (Zr O n [some ⟨false, 93, 8, 1, [(vI 1), (vI y4), (vI y5), (vI y6), (vI 0), (vI 0), (vI 0), (vB false)]⟩]) (Yq hU rfl rfl ?_) ?_
  ·exact zSe
  exact Z4 [.agg [(vI 1), (vI y4), (vI y5), (vI y6), (vI 0), (vI 0), (vI 0), (vB false)]]
 replace h := Zn c19 h
 refine zQ [0, 2, 7, 17] ?_
 refine Zm (t := ((IntKind.u64.wrap (Zb2 .u64 a0 3)) == 1)) rfl (fun c18 => ?_) (fun c18 => ?_)
 ·replace h := Zo c18 h
  refine Zg ?_
  obtain ⟨y10, hy10, h⟩ := bC h
  obtain ⟨y11, hy11, h⟩ := bC h
  obtain ⟨y12, hy12, h⟩ := bC h
  refine zC (Zo8 hy10) ?_
  refine zTs (Zco hy11) ?_
  refine zTs (Zco hy12) ?_
  refine Zc1 ⟨38, [], [(2, .ref n 0)]⟩ (Zr O n [some ⟨false, 93, 8, 1, [(vI 2), (vI y10), (vI 0), (vI 0), (vI y11), (vI y12), (vI 0), (vB false)]⟩]) (Yq hU rfl rfl ?_) ?_
  ·exact zSe
  exact Z4 [.agg [(vI 2), (vI y10), (vI 0), (vI 0), (vI y11), (vI y12), (vI 0), (vB false)]]
 replace h := Zn c18 h
 refine zQ [0, 2, 26] ?_
 refine Zm (t := ((IntKind.u64.wrap (Zb2 .u64 a0 3)) == 2)) rfl (fun c17 => ?_) (fun c17 => ?_)
 ·replace h := Zo c17 h
  refine Zg ?_
  obtain ⟨y15, hy15, h⟩ := bC h
  obtain ⟨y16, hy16, h⟩ := bC h
  refine zC (Zco hy15) ?_
  refine zTs (Zco hy16) ?_
  refine Zc1 ⟨38, [], [(2, .ref n 0)]⟩ (Zr O n [some ⟨false, 93, 8, 1, [(vI 3), (vI y15), (vI 0), (vI 0), (vI 0), (vI 0), (vI y16), (vB ((IntKind.u64.wrap (Zb2 .u64 (Int.fdiv a0 (2 ^ min (Int.toNat 2) 64)) 1)) == 1))]⟩]) (Yq hU rfl rfl ?_) ?_
  ·exact zSe
  exact Z4 [.agg [(vI 3), (vI y15), (vI 0), (vI 0), (vI 0), (vI 0), (vI y16), (vB ((IntKind.u64.wrap (Zb2 .u64 (Int.fdiv a0 (2 ^ min (Int.toNat 2) 64)) 1)) == 1))]]
 replace h := Zn c17 h
 refine zK ?_
 refine Zc1 ⟨38, [], [(2, .ref n 0)]⟩ (Zr O n [some ⟨false, 93, 8, 1, [(vI 0), (vI 0), (vI 0), (vI 0), (vI 0), (vI 0), (vI 0), (vB false)]⟩]) (Yq hU rfl rfl ?_) ?_
 ·exact zSe
 refine Zg ?_
 refine zR ?_
 refine Zc1 ⟨38, [], [(2, .ref n 0)]⟩ (Zr O n [some ⟨false, 93, 8, 1, [(vI 4), (vI 0), (vI 0), (vI 0), (vI 0), (vI 0), (vI 0), (vB false)]⟩]) (Yq hU rfl rfl ?_) ?_
 ·exact zSe
 exact Z4 [.agg [(vI 4), (vI 0), (vI 0), (vI 0), (vI 0), (vI 0), (vI 0), (vB false)]]
theorem Zo7 {a0 : Zy} {r : (Int × Bool)} {O : Objs} {n : Nat} (h : Vb a0 = some r) : GTo Try.prog 64 [.agg (Xh a0)] O n (.tup [.val (.int .u64 r.1), (vB r.2)]) O n := by
 unfold Vb at h
 refine zFn Try.call64 Try.func64 fun hU hN0 hN => ?_
 show W _ _ _ _ ⟨17, [], [(0, .agg (Xh a0))]⟩ (Zr O n []) _
 refine zQ [1] ?_
 refine Zg ?_
 obtain ⟨y2, hy2, h⟩ := bC h
 refine zCd (Z4h hy2) [1, 4] [true] ?_
 obtain ⟨z4, hz4, h⟩ := bC h
 refine Xo (E' := ⟨17, [], [(2, .val (.int .u64 y2)), (3, (vB z4))]⟩) (O' := (Zr O n [none])) (n0 := (n + 1)) ?_ ?_
 ·rcases Bool.eq_false_or_eq_true (a0.Kind != 4) with c7 | c7
  ·replace hz4 := Zo c7 hz4
   obtain ⟨y6, hy6, hz4⟩ := bC hz4
   refine Q8 Zv (by kernel_rfl) [some true, some true, some true, some true] (by kernel_rfl) ?_
   refine zX1 c7 ?_
   refine PCall.of (Ud hy6) ?_
   refine zX1 c7 ?_
   exact Kp hz4 c7
  replace hz4 := Zn c7 hz4
  refine Q8 Zv (by kernel_rfl) [some false, some false, some false, some false] (by kernel_rfl) ?_
  refine zX1 c7 ?_
  exact Kp hz4 c7
 exact Z4 [.val (.int .u64 y2), (vB z4)]
theorem Zzv {a0 : Za} {a1 : Int} {r : Int} {O : Objs} {n : Nat} (h : Zfq a0 a1 = some r) : GTo Try.prog 125 [.agg (Zd a0), (vI a1)] O n (.val (.int .u64 r)) O n := by
 unfold Zfq at h
 refine zFn Try.call125 Try.func125 fun hU hN0 hN => ?_
 show W _ _ _ _ ⟨19, [], [(0, .agg (Zd a0)), (1, (vI a1))]⟩ (Zr O n []) _
 refine zQ [1, 2] ?_
 refine Zg ?_
 refine zQD [1, 2, 13] [none, none, none, none, none] ?_
 refine Zm (t := (cond (decide (a1 < 0)) true (decide ((a0.Words.length : Int) ≤ a1)))) rfl (fun c3 => ?_) (fun c3 => ?_)
 ·replace h := Zo c3 h
  refine zQ [4] ?_
  exact Z4 [.val (.int .u64 0)]
 replace h := Zn c3 h
 refine J6 [1, 2] [true] ?_
 obtain ⟨x2, hx2, ax2, bx2, cx2, h⟩ := bE (f := (eI .u64)) U2 (fun _ => rfl) (by decide) h
 refine Zc2 [4] (Z5 Zv [] ?_)
 refine zF3 ax2 bx2 cx2 ?_
 exact Z4 [.val (.int .u64 x2)]
attribute [local push_cast] Try.results103 Try.results104 Try.results105 Try.results126 Try.results14 Try.results15 Try.results17 Try.results18 Try.results38 Try.results40 Try.results41 Try.results65 Try.results70
theorem Z1q {a0 : Int} {a1 : (List Int)} {r : ((List Int) × Bool)} {O : Objs} {n : Nat} (h : Ze1 a0 a1 = some r) : GTo Try.prog 126 [(vI a0), (sL (eI .u64) a1)] O n (.tup [(sL (eI .u64) r.1), (vB r.2)]) O n := by
 unfold Ze1 at h
 refine zFn Try.call126 Try.func126 fun hU hN0 hN => ?_
 show W _ _ _ _ ⟨68, [], [(0, (vI a0)), (1, (sL (eI .u64) a1))]⟩ (Zr O n []) _
 refine zQ [0, 1] ?_
 refine Zg ?_
 obtain ⟨y2, hy2, h⟩ := bC h
 refine zCd (Zdc hy2) [0, 1, 6, 7] [] ?_
 refine Zg ?_
 refine zQd [0, 1, 6, 7, 19, 20, 21] [0, 1, 6, 7, 19, 20, 21] [] ?_
 obtain ⟨z8, hz8, h⟩ := bC h
 refine Y0 (E' := ⟨68, [], [(0, (vI a0)), (1, (sL (eI .u64) a1)), (6, (vI y2.1)), (7, (vB z8))]⟩) (O' := (Zr O n [])) (n0 := n) ?_ ?_
 ·refine Xm hz8 (fun s0_ => ⟨68, [], [(0, (vI a0)), (1, (sL (eI .u64) a1)), (6, (vI y2.1)), (7, (vB s0_.1)), (19, (sL (eI .u64) a1)), (20, (vI (a1.length : Int))), (21, (vI s0_.2))]⟩) (fun s0_ => (Zr O n [])) (fun z8 => JX 0 n (⟨68, [], [(0, (vI a0)), (1, (sL (eI .u64) a1)), (6, (vI y2.1)), (7, (vB z8))]⟩ : Env) (Zr O n []) n) ?_
  intro s0_ x0_ hs0_
  unfold Zbp at hs0_
  try dsimp only
  refine zQ [0, 1, 6, 7, 19, 20, 21, 22] ?_
  refine Zg ?_
  refine Zm (t := (decide (s0_.2 < (a1.length : Int)))) rfl (fun c7 => ?_) (fun c7 => ?_)
  ·replace hs0_ := Zo c7 hs0_
   refine J6 [0, 1, 6, 7, 19, 20, 21] [] ?_
   refine Zg ?_
   refine Yj ?_
   obtain ⟨x4, hx4, ax4, bx4, cx4, hs0_⟩ := bE (f := (eI .u64)) U2 (fun _ => rfl) (by decide) hs0_
   refine Zc2 [0, 1, 6, 7, 9, 19, 20, 21] (Z5 Zv [] ?_)
   refine zF3 ax4 bx4 cx4 ?_
   rcases Bool.eq_false_or_eq_true s0_.1 with c6 | c6
   ·replace hs0_ := Zo c6 hs0_
    obtain ⟨y5, hy5, hs0_⟩ := bC hs0_
    refine K9 [some true, some true, some true] c6 ?_
    refine (Zq1 hy5).then ?_
    refine zX1 c6 ?_
    refine zD [0, 1, 6, 7, 19, 20, 21] [] ?_
    refine zR ?_
    exact Kp hs0_ c6
   replace hs0_ := Zn c6 hs0_
   refine K9 [some false, some false, some false] c6 ?_
   refine zD [0, 1, 6, 7, 19, 20, 21] [] ?_
   refine zR ?_
   exact zEn hs0_
  replace hs0_ := Zn c7 hs0_
  exact zEx hs0_
 try simp only [Xc, Ym, ↓reduceIte, Nat.reduceEqDiff]
 refine zDs [0, 1, 6, 7] [] ?_
 refine zQ [0, 1, 6, 33] ?_
 refine Zm (t := (!z8)) rfl (fun c26 => ?_) (fun c26 => ?_)
 ·replace h := Zo c26 h
  refine zQ [4, 5] ?_
  exact Z4 [nV, (vB false)]
 replace h := Zn c26 h
 refine J6 [0, 1, 6] [] ?_
 refine Zg ?_
 obtain ⟨y11, hy11, h⟩ := bC h
 obtain ⟨l12, al12, bl12, cl12, el12, h⟩ := bM2 (c := 8) rfl h
 have nl12 : Int.toNat y11 = List.length l12 := by rw [el12, List.length_replicate]
 have fl12 : (List.replicate (List.length l12) [.val (.int .u64 0)]).flatten = fl (eI .u64) l12 := by rw [← nl12, el12]; exact (Zkq (f := (eI .u64)) _ _).symm
 clear el12
 refine Z5 Zv [] ?_
 simp only [push_cast, seval, ↓reduceIte, Zh, al12, bl12, cl12, fl12, nl12, hN0, hN]
 refine (Zq2 hy11).then ?_
 simp only [push_cast, seval, ↓reduceIte, Zh, al12, bl12, cl12, fl12, nl12, hN0, hN]
 refine Zc1 ⟨68, [], [(1, (sL (eI .u64) a1)), (6, (vI y2.1)), (10, .row n l12.length)]⟩ (Zr O n [some (oR 63 1 (eI .u64) l12)]) (Yq hU rfl rfl ?_) ?_
 ·simp only [push_cast, seval, ↓reduceIte, Zh, al12, bl12, cl12, fl12, nl12, hN0, hN]
 refine Zg ?_
 refine zQ [1, 6, 10, 40] ?_
 refine Zm (t := (y2.1 == 0)) rfl (fun c25 => ?_) (fun c25 => ?_)
 ·replace h := Zo c25 h
  refine zQ [4, 5] ?_
  exact Z4 [.row n l12.length, (vB true)]
 replace h := Zn c25 h
 refine J6 [1, 6, 10] [true] ?_
 obtain ⟨pu14, h⟩ := bG h
 refine Zc2 [1, 6, 10, 11] (Z5 Zv [] ?_)
 simp only [push_cast, seval, ↓reduceIte, Zh, pu14, hN0, hN]
 refine Zg ?_
 refine zQd [6, 10, 11, 44, 45, 46] [6, 10, 11, 44, 45, 46] [true] ?_
 obtain ⟨z24, hz24, h⟩ := bC h
 refine Y0 (E' := ⟨68, [], [(10, .row n z24.length)]⟩) (O' := (Zr O n [some (oR 63 1 (eI .u64) z24)])) (n0 := (n + 1)) ?_ ?_
 ·refine Xm hz24 (fun s1_ => ⟨68, [], [(6, (vI y2.1)), (10, .row n s1_.2.length), (11, (vI (IntKind.i64.wrap (Int.tdiv 64 y2.1)))), (44, (sL (eI .u64) a1)), (45, (vI (a1.length : Int))), (46, (vI s1_.1))]⟩) (fun s1_ => (Zr O n [some (oR 63 1 (eI .u64) s1_.2)])) (fun z24 => JX 2 n (⟨68, [], [(10, .row n z24.length)]⟩ : Env) (Zr O n [some (oR 63 1 (eI .u64) z24)]) (n + 1)) ?_
  intro s1_ x1_ hs1_
  unfold Gt at hs1_
  try dsimp only
  refine zQ [6, 10, 11, 44, 45, 46, 47] ?_
  refine Zg ?_
  refine Zm (t := (decide (s1_.1 < (a1.length : Int)))) rfl (fun c23 => ?_) (fun c23 => ?_)
  ·replace hs1_ := Zo c23 hs1_
   refine J6 [6, 10, 11, 44, 45, 46] [true] ?_
   refine Zg ?_
   refine Yj ?_
   obtain ⟨x16, hx16, ax16, bx16, cx16, hs1_⟩ := bE (f := (eI .u64)) U2 (fun _ => rfl) (by decide) hs1_
   refine Zc2 [6, 10, 11, 12, 13, 44, 45, 46] (Z5 Zv [] ?_)
   refine zF3 ax16 bx16 cx16 ?_
   obtain ⟨pu17, hs1_⟩ := bG hs1_
   obtain ⟨x18, hx18, ax18, bx18, cx18, hs1_⟩ := bE (f := (eI .u64)) U2 (fun _ => rfl) (by decide) hs1_
   obtain ⟨pu19, hs1_⟩ := bG hs1_
   obtain ⟨pu20, hs1_⟩ := bG hs1_
   have gu22 : Un (fl (eI .u64) s1_.2) [.val (.int .u64 (IntKind.u64.wrap (Zbw .u64 x18 (IntKind.u64.wrap (x16 * 2 ^ min (Int.toNat (IntKind.i64.wrap ((Int.tmod s1_.1 (IntKind.i64.wrap (Int.tdiv 64 y2.1))) * y2.1))) 64)))))] (Int.toNat (IntKind.i64.wrap (Int.tdiv s1_.1 (IntKind.i64.wrap (Int.tdiv 64 y2.1)))) * 1) = some (fl (eI .u64) (Qy s1_.2 (IntKind.i64.wrap (Int.tdiv s1_.1 (IntKind.i64.wrap (Int.tdiv 64 y2.1)))) (IntKind.u64.wrap (Zbw .u64 x18 (IntKind.u64.wrap (x16 * 2 ^ min (Int.toNat (IntKind.i64.wrap ((Int.tmod s1_.1 (IntKind.i64.wrap (Int.tdiv 64 y2.1))) * y2.1))) 64)))))) := Zjo (f := (eI .u64)) (ti := ⟨.bool, 1, 0, [], false⟩) (x := (IntKind.u64.wrap (Zbw .u64 x18 (IntKind.u64.wrap (x16 * 2 ^ min (Int.toNat (IntKind.i64.wrap ((Int.tmod s1_.1 (IntKind.i64.wrap (Int.tdiv 64 y2.1))) * y2.1))) 64))))) (fun _ => rfl) (Zd9 hx18)
   refine Ze5 Zv (by kernel_rfl) [false, false, false, false, false, false, false, false, false, false, false, false, false, false, false, true] [] (by kernel_rfl) ?_
   refine zF7 pu17 ax18 bx18 cx18 pu19 pu20 gu22 ?_
   refine zD [6, 10, 11, 44, 45, 46] [true] ?_
   refine zR ?_
   exact zEn hs1_
  replace hs1_ := Zn c23 hs1_
  exact zEx hs1_
 try simp only [Xc, Ym, ↓reduceIte, Nat.reduceEqDiff]
 refine zD [10] [true] ?_
 refine zQ [4, 5] ?_
 exact Z4 [.row n z24.length, (vB true)]
theorem Zto {a0 : Za} {r : (List Int)} {O : Objs} {n : Nat} (h : Zbd a0 = some r) : GTo Try.prog 105 [.agg (Zd a0)] O n ((sL (eI .u64) r)) O n := by
 unfold Zbd at h
 refine zFn Try.call105 Try.func105 fun hU hN0 hN => ?_
 show W _ _ _ _ ⟨30, [], [(0, .agg (Zd a0))]⟩ (Zr O n []) _
 refine zQ [1] ?_
 refine zQ [1, 3] ?_
 refine Zg ?_
 refine zQd [1, 3, 9, 10, 11] [1, 3, 9, 10, 11] [true] ?_
 refine Zf9 (E' := (⟨30, [], [(1, .ref n 0), (3, .row (n + 1) ([] : List Int).length), (9, (sL Zc a0.Kids)), (10, (vI (a0.Kids.length : Int))), (11, (vI 0))]⟩ : Env)) (O' := (Zr O n [some ⟨false, 29, 3, 1, (Zd a0)⟩, some (oR 63 1 (eI .u64) ([] : List Int)), none])) (n' := (n + 3)) ?_ ?_
 ·refine Fit2.trans (E' := (⟨30, [], [(1, .ref n 0), (3, nV), (9, (sL Zc a0.Kids)), (10, (vI (a0.Kids.length : Int))), (11, (vI 0))]⟩ : Env)) (O' := (Zr O n [some ⟨false, 29, 3, 1, (Zd a0)⟩])) (n' := (n + 1)) (Fit2.of (Yq hU rfl rfl ?_) (by omega)) ?_
  ·exact zSe
  refine Fit2.trans (Zta 3 63 1 rfl (by omega)) ?_
  simp only [Vy, Kj, Zdi, Zby, List.set_cons_zero, List.set_cons_succ, List.cons_append, List.nil_append, List.length_cons, List.length_nil, Nat.zero_add, Nat.reduceAdd, Nat.reduceLT, Nat.add_assoc]
  refine Fit2.trans (E' := (⟨30, [], [(1, .ref n 0), (3, .row (n + 1) ([] : List Int).length), (9, (sL Zc a0.Kids)), (10, (vI (a0.Kids.length : Int))), (11, (vI 0))]⟩ : Env)) (O' := (Zr O n [some ⟨false, 29, 3, 1, (Zd a0)⟩, some (oR 63 1 (eI .u64) ([] : List Int))])) (n' := (n + 2)) (Fit2.of (Yq hU rfl rfl ?_) (by omega)) ?_
  ·exact zSe
  refine Zit (k := 2) (k' := 3) hU [0, 1] [0, 1, 0] rfl rfl rfl rfl ⟨rfl, rfl⟩ ?_
  exact zSe
 obtain ⟨z6, hz6, h⟩ := bC h
 refine Y0 (E' := ⟨30, [], [(1, .ref n 0), (3, .row (n + 1) z6.length)]⟩) (O' := (Zr O n [some ⟨false, 29, 3, 1, (Zd a0)⟩, some (oR 63 1 (eI .u64) z6), none])) (n0 := (n + 3)) ?_ ?_
 ·refine Xm hz6 (fun s0_ => ⟨30, [], [(1, .ref n 0), (3, .row (n + 1) s0_.2.length), (9, (sL Zc a0.Kids)), (10, (vI (a0.Kids.length : Int))), (11, (vI s0_.1))]⟩) (fun s0_ => (Zr O n [some ⟨false, 29, 3, 1, (Zd a0)⟩, some (oR 63 1 (eI .u64) s0_.2), none])) (fun z6 => JX 0 n (⟨30, [], [(1, .ref n 0), (3, .row (n + 1) z6.length)]⟩ : Env) (Zr O n [some ⟨false, 29, 3, 1, (Zd a0)⟩, some (oR 63 1 (eI .u64) z6), none]) (n + 3)) ?_
  intro s0_ x0_ hs0_
  unfold Uq at hs0_
  try dsimp only
  refine zQ [1, 3, 9, 10, 11, 12] ?_
  refine Zg ?_
  refine Zm (t := (decide (s0_.1 < (a0.Kids.length : Int)))) rfl (fun c5 => ?_) (fun c5 => ?_)
  ·replace hs0_ := Zo c5 hs0_
   refine J6 [1, 3, 9, 10, 11] [true, true, false] ?_
   refine Zg ?_
   refine Yj ?_
   refine Zg ?_
   obtain ⟨x2, hx2, ax2, bx2, cx2, hs0_⟩ := bE (f := Zc) Vo (fun _ => rfl) (by decide) hs0_
   refine Ziv [] ax2 bx2 cx2 ?_
   refine zD [1, 3, 5, 9, 10, 11] [true, true, false, true] ?_
   obtain ⟨y3, hy3, hs0_⟩ := bC hs0_
   obtain ⟨l4, pl4, ql4, el4, hs0_⟩ := bA (k := 1) rfl hs0_
   refine Zs7 [] pl4 ql4 el4 ?_
   refine (Zzv hy3).then ?_
   refine zX3 pl4 ql4 el4 ?_
   refine Zc1 ⟨30, [], [(1, .ref n 0), (3, .row (n + 1) l4.length), (9, (sL Zc a0.Kids)), (10, (vI (a0.Kids.length : Int))), (11, (vI s0_.1))]⟩ (Zr O n [some ⟨false, 29, 3, 1, (Zd a0)⟩, some (oR 63 1 (eI .u64) l4), none, none, none]) (Yq hU rfl rfl ?_) ?_
   ·exact Z42 pl4 ql4 el4
   refine zR ?_
   exact zEn hs0_
  replace hs0_ := Zn c5 hs0_
  exact zEx hs0_
 try simp only [Xc, Ym, ↓reduceIte, Nat.reduceEqDiff]
 refine zD [1, 3] [true, true, false] ?_
 refine Zc1 ⟨30, [], [(1, .ref n 0), (3, (sL (eI .u64) z6))]⟩ (Zr O n [some ⟨false, 29, 3, 1, (Zd a0)⟩, none, none]) (Yq hU rfl rfl ?_) ?_
 ·exact zSe
 refine Zg ?_
 obtain ⟨y8, hy8, h⟩ := bC h
 refine zCd (Z1q hy8) [6] [false, false, false] ?_
 refine zQ [2] ?_
 exact Z4 [(sL (eI .u64) y8.1)]
def Ke (Z6 : (Ze → Int → Za → Option Ze)) : Prop := ∀ {a0 : Ze} {a1 : Int} {a2 : Za} {r : Ze} {O : Objs} {n : Nat} {i0 j0_0 : Nat}, i0 < n → j0_0 < n → i0 ≠ j0_0 → O i0 = some ⟨false, 66, 2, 1, [.row j0_0 a0.words.length, (vI a0.next)]⟩ → O j0_0 = some (oR 63 1 (eI .u64) a0.words) → Z6 a0 a1 a2 = some r → GTo Try.prog 38 [.ref i0 0, (vI a1), .agg (Zd a2)] O n (.tup []) (Zr ((O.upd j0_0 none).upd i0 (some ⟨false, 66, 2, 1, [.row n r.words.length, (vI r.next)]⟩)) n [some (oR 63 1 (eI .u64) r.words)]) (n + 1)
def Jf (Zz : (Ze → Int → Za → Option Ze)) : Prop := ∀ {a0 : Ze} {a1 : Int} {a2 : Za} {r : Ze} {O : Objs} {n : Nat} {i0 j0_0 : Nat}, i0 < n → j0_0 < n → i0 ≠ j0_0 → O i0 = some ⟨false, 66, 2, 1, [.row j0_0 a0.words.length, (vI a0.next)]⟩ → O j0_0 = some (oR 63 1 (eI .u64) a0.words) → Zz a0 a1 a2 = some r → GTo Try.prog 65 [.ref i0 0, (vI a1), .agg (Zd a2)] O n (.tup []) (Zr ((O.upd j0_0 none).upd i0 (some ⟨false, 66, 2, 1, [.row n r.words.length, (vI r.next)]⟩)) n [some (oR 63 1 (eI .u64) r.words)]) (n + 1)
def Q4 (Zu : (Ze → Int → (List Za) → Option Ze)) : Prop := ∀ {a0 : Ze} {a1 : Int} {a2 : (List Za)} {r : Ze} {O : Objs} {n : Nat} {i0 j0_0 : Nat}, i0 < n → j0_0 < n → i0 ≠ j0_0 → O i0 = some ⟨false, 66, 2, 1, [.row j0_0 a0.words.length, (vI a0.next)]⟩ → O j0_0 = some (oR 63 1 (eI .u64) a0.words) → Zu a0 a1 a2 = some r → GTo Try.prog 103 [.ref i0 0, (vI a1), (sL Zc a2)] O n (.tup []) (Zr ((O.upd j0_0 none).upd i0 (some ⟨false, 66, 2, 1, [.row n r.words.length, (vI r.next)]⟩)) n [some (oR 63 1 (eI .u64) r.words)]) (n + 1)
def Jg (Z0 : (Ze → Int → Za → Option Ze)) : Prop := ∀ {a0 : Ze} {a1 : Int} {a2 : Za} {r : Ze} {O : Objs} {n : Nat} {i0 j0_0 : Nat}, i0 < n → j0_0 < n → i0 ≠ j0_0 → O i0 = some ⟨false, 66, 2, 1, [.row j0_0 a0.words.length, (vI a0.next)]⟩ → O j0_0 = some (oR 63 1 (eI .u64) a0.words) → Z0 a0 a1 a2 = some r → GTo Try.prog 104 [.ref i0 0, (vI a1), .agg (Zd a2)] O n (.tup []) (Zr ((O.upd j0_0 none).upd i0 (some ⟨false, 66, 2, 1, [.row n r.words.length, (vI r.next)]⟩)) n [some (oR 63 1 (eI .u64) r.words)]) (n + 1)
theorem Zly {Z6 : (Ze → Int → Za → Option Ze)} {Zz : (Ze → Int → Za → Option Ze)} {Zu : (Ze → Int → (List Za) → Option Ze)} {Z0 : (Ze → Int → Za → Option Ze)} (Uc : Ke Z6) (Vd : Jf Zz) (X3 : Q4 Zu) (Ve : Jg Z0) {a0 : Ze} {a1 : Int} {a2 : Za} {r : Ze} {O : Objs} {n : Nat} {i0 j0_0 : Nat} (hi0 : i0 < n) (Zbc : j0_0 < n) (Vx : i0 ≠ j0_0) (ho0 : O i0 = some ⟨false, 66, 2, 1, [.row j0_0 a0.words.length, (vI a0.next)]⟩) (Gr : O j0_0 = some (oR 63 1 (eI .u64) a0.words)) (h : Qb Z6 Zz Zu Z0 a0 a1 a2 = some r) : GTo Try.prog 38 [.ref i0 0, (vI a1), .agg (Zd a2)] O n (.tup []) (Zr ((O.upd j0_0 none).upd i0 (some ⟨false, 66, 2, 1, [.row n r.words.length, (vI r.next)]⟩)) n [some (oR 63 1 (eI .u64) r.words)]) (n + 1) := by
 unfold Qb at h
 refine Zpw Zv Try.call38 Try.func38 rfl (Nat.le_of_ble_eq_true rfl) (by omega) fun hU => ?_
 have e0 := Zr3 (ba := n) (E := ⟨60, [], Zpb 0 [.ref i0 0, .val (.int .i64 a1), .agg [.val (.int .i64 a2.Kind), .sl a2.Words.length (fl (eI .u64) a2.Words), .sl a2.Kids.length (fl Zc a2.Kids)]]⟩) (O := (Zr O n [])) (n := n) (i := i0) (j := j0_0) (k := 0) (len := a0.words.length) (q := ⟨false, 66, 2, 1, [.row j0_0 a0.words.length, .val (.int .i64 a0.next)]⟩) (qj := ⟨true, 63, 1, a0.words.length, fl (eI .u64) a0.words⟩) (by rw [Qz _ hi0]; first | exact ho0 | exact Yz _ _ _) rfl (by rw [Qz _ Zbc]; exact Gr) Vx (by omega)
 simp only [Ui _ _ Zbc, Ui _ _ hi0, Vy, Kj, Zck, Z0e Vx, List.set_cons_zero, List.set_cons_succ, List.cons_append, List.nil_append, List.length_cons, List.length_nil, Nat.zero_add, Nat.reduceAdd, Nat.add_assoc] at e0
 refine Zf9 e0 ?_
 have hU := (Und.drop hU j0_0)
 have hk0 : ∀ k, i0 < n + k := fun k => by omega
 have hN0 : ∀ o, Objs.upd (O.upd j0_0 none) i0 o n = none := fun o => Kl hU hi0 _ (Nat.le_refl _)
 have hN : ∀ o k, Objs.upd (O.upd j0_0 none) i0 o (n + k) = none := fun o k => Kl hU hi0 _ (Nat.le_add_right _ _)
 show W _ _ _ _ ⟨60, [], [(0, .ref i0 0), (1, (vI a1)), (2, .agg (Zd a2))]⟩ (Zr ((O.upd j0_0 none).upd i0 (some ⟨false, 66, 2, 1, [.row n a0.words.length, (vI a0.next)]⟩)) n [some (oR 63 1 (eI .u64) a0.words)]) _
 refine U3 [0, 1, 5] hi0 hk0 ?_
 refine Zg ?_
 refine U3 [0, 1, 5, 12] hi0 hk0 ?_
 refine Zm (t := (a2.Kind == 0)) rfl (fun c14 => ?_) (fun c14 => ?_)
 ·replace h := Zo c14 h
  refine zW ?_
  have h := Option.some.inj h; subst h
  refine J9 (k := 1) (i := i0) (q1 := ⟨false, 66, 2, 1, [.row n a0.words.length, (vI a0.next)]⟩) (L3 := [some (oR 63 1 (eI .u64) a0.words), none]) (E2 := (⟨60, [], []⟩ : Env)) (n3 := (n + 2)) (.inr rfl) hU rfl [] ?_ ?_
  ·refine Fit2.trans (E' := (⟨60, [], []⟩ : Env)) (O' := (Zr ((O.upd j0_0 none).upd i0 (some ⟨false, 66, 2, 1, [.row n a0.words.length, (vI a0.next)]⟩)) n [some (oR 63 1 (eI .u64) a0.words), none])) (n' := (n + 2)) (Fit2.of (Z7 hU rfl rfl ?_) (by omega)) ?_
   ·exact Qx hi0 hk0
   refine X9 (k := 2) (k' := 2) hU [0, 1] [0, 0] rfl rfl rfl rfl ⟨rfl, rfl⟩ ?_
   exact Qx hi0 hk0
  simp only [push_cast, seval, ↓reduceIte, Zh, Try.results38, hi0, hk0, hN0, hN]
 replace h := Zn c14 h
 refine J6 [0, 1, 5] [true, true] ?_
 refine Zg ?_
 obtain ⟨y2, hy2, h⟩ := bC h
 refine Jm [] hi0 hk0 ?_
 refine (Zvr hy2).then ?_
 refine zX2 hi0 hk0 ?_
 refine zD [0, 1, 5, 6] [true, true, true] ?_
 refine U3 [0, 1, 5, 6, 7] hi0 hk0 ?_
 refine Zg ?_
 obtain ⟨y4, hy4, h⟩ := bC h
 refine Jm [] hi0 hk0 ?_
 refine (Zjy hy4).then ?_
 refine zX2 hi0 hk0 ?_
 refine zDs [0, 1, 5, 6, 7, 8] [true, true, true] ?_
 refine Jm [] hi0 hk0 ?_
 refine zD [0, 1, 5, 6, 7, 8] [true, true, true] ?_
 obtain ⟨z5, hz5, h⟩ := bC h
 refine Xo (E' := ⟨60, [], [(0, .ref i0 0), (1, (vI a1)), (5, .ref (n + 1) 0), (6, .ref (n + 2) 0), (7, (vI a0.next)), (8, (vI y4.1))]⟩) (O' := (Zr ((O.upd j0_0 none).upd i0 (some ⟨false, 66, 2, 1, [.row n a0.words.length, (vI a0.next)]⟩)) n [some (oR 63 1 (eI .u64) a0.words), some ⟨false, 29, 3, 1, (Zd a2)⟩, some ⟨false, 93, 8, 1, [(vI y2.Kind), (vI z5), (vI y2.Data), (vI y2.Ptrs), (vI y2.Code), (vI y2.Count), (vI y2.Segment), (vB y2.Double)]⟩])) (n0 := (n + 3)) ?_ ?_
 ·refine Zc2 [0, 1, 5, 6, 7, 8, 35] (Z5 Zv [none, none] ?_)
  refine zX2 hi0 hk0 ?_
  refine zG ?_
  refine Zm (t := (cond (y2.Kind == 1) (y4.1 == 0) false)) rfl (fun c6 => ?_) (fun c6 => ?_)
  ·replace hz5 := Zo c6 hz5
   refine Jm [] hi0 hk0 ?_
   have hz5 := Option.some.inj hz5; subst hz5
   refine And.intro rfl (Fit2.of (Z7 hU rfl rfl ?_) (by omega))
   exact Qx hi0 hk0
  replace hz5 := Zn c6 hz5
  refine zK ?_
  have hz5 := Option.some.inj hz5; subst hz5
  refine And.intro rfl (Fit2.of (Z7 hU rfl rfl ?_) (by omega))
  exact Qx hi0 hk0
 refine Zg ?_
 obtain ⟨y10, hy10, h⟩ := bC h
 obtain ⟨x11, hx11, ax11, bx11, cx11, h⟩ := bE (f := (eI .u64)) U2 (fun _ => rfl) (by decide) h
 have gu12 : Un (fl (eI .u64) a0.words) [.val (.int .u64 y10.1)] (Int.toNat a1 * 1) = some (fl (eI .u64) (Qy a0.words a1 y10.1)) := Zjo (f := (eI .u64)) (ti := ⟨.bool, 1, 0, [], false⟩) (x := y10.1) (fun _ => rfl) (Zd9 hx11)
 refine Ze5 Zv (by kernel_rfl) [false, false, false, false, false, false, false, false, false, false, false, true] [] (by kernel_rfl) ?_
 refine zF6 ax11 bx11 cx11 gu12 hi0 hk0 ?_
 refine PCall.of (Zo7 hy10) ?_
 refine zF6 ax11 bx11 cx11 gu12 hi0 hk0 ?_
 refine zDs [0, 5, 7, 8] [true, true, false] ?_
 refine Jm [] hi0 hk0 ?_
 refine zD [0, 5, 7] [true, true, false] ?_
 obtain ⟨y13, hy13, h⟩ := bC h
 refine Jm [] hi0 hk0 ?_
 refine (Vd (i0 := i0) (j0_0 := n) (by omega) (by omega) (by omega) (by simp only [push_cast, seval, ↓reduceIte, Zh, K3, hi0, hk0, hN0, hN] <;> rfl) (by simp only [push_cast, seval, ↓reduceIte, Zh, K3, hi0, hk0, hN0, hN] <;> rfl) hy13).then ?_
 refine zX2 hi0 hk0 ?_
 have h := Option.some.inj h; subst h
 refine J9 (k := 1) (i := i0) (q1 := ⟨false, 66, 2, 1, [.row n y13.words.length, (vI y13.next)]⟩) (L3 := [some (oR 63 1 (eI .u64) y13.words), none]) (E2 := (⟨60, [], []⟩ : Env)) (n3 := (n + 2)) (.inl rfl) hU rfl [] ?_ ?_
 ·refine Fit2.trans (E' := (⟨60, [], []⟩ : Env)) (O' := (Zr ((O.upd j0_0 none).upd i0 (some ⟨false, 66, 2, 1, [.row (n + 3) y13.words.length, (vI y13.next)]⟩)) n [none, none, none, some (oR 63 1 (eI .u64) y13.words)])) (n' := (n + 4)) (Fit2.of (Z7 hU rfl rfl ?_) (by omega)) ?_
  ·exact Qx hi0 hk0
  refine X9 (k := 4) (k' := 2) hU [1, 1, 1, 0] [3, 0] rfl rfl rfl rfl ⟨rfl, rfl⟩ ?_
  exact Qx hi0 hk0
 simp only [push_cast, seval, ↓reduceIte, Zh, Try.results38, hi0, hk0, hN0, hN]
theorem Zj0 {Z6 : (Ze → Int → Za → Option Ze)} {Zz : (Ze → Int → Za → Option Ze)} {Zu : (Ze → Int → (List Za) → Option Ze)} {Z0 : (Ze → Int → Za → Option Ze)} (Uc : Ke Z6) (Vd : Jf Zz) (X3 : Q4 Zu) (Ve : Jg Z0) {a0 : Ze} {a1 : Int} {a2 : Za} {r : Ze} {O : Objs} {n : Nat} {i0 j0_0 : Nat} (hi0 : i0 < n) (Zbc : j0_0 < n) (Vx : i0 ≠ j0_0) (ho0 : O i0 = some ⟨false, 66, 2, 1, [.row j0_0 a0.words.length, (vI a0.next)]⟩) (Gr : O j0_0 = some (oR 63 1 (eI .u64) a0.words)) (h : Xp Z6 Zz Zu Z0 a0 a1 a2 = some r) : GTo Try.prog 65 [.ref i0 0, (vI a1), .agg (Zd a2)] O n (.tup []) (Zr ((O.upd j0_0 none).upd i0 (some ⟨false, 66, 2, 1, [.row n r.words.length, (vI r.next)]⟩)) n [some (oR 63 1 (eI .u64) r.words)]) (n + 1) := by
 unfold Xp at h
 refine Zpw Zv Try.call65 Try.func65 rfl (Nat.le_of_ble_eq_true rfl) (by omega) fun hU => ?_
 have e0 := Zr3 (ba := n) (E := ⟨47, [], Zpb 0 [.ref i0 0, .val (.int .i64 a1), .agg [.val (.int .i64 a2.Kind), .sl a2.Words.length (fl (eI .u64) a2.Words), .sl a2.Kids.length (fl Zc a2.Kids)]]⟩) (O := (Zr O n [])) (n := n) (i := i0) (j := j0_0) (k := 0) (len := a0.words.length) (q := ⟨false, 66, 2, 1, [.row j0_0 a0.words.length, .val (.int .i64 a0.next)]⟩) (qj := ⟨true, 63, 1, a0.words.length, fl (eI .u64) a0.words⟩) (by rw [Qz _ hi0]; first | exact ho0 | exact Yz _ _ _) rfl (by rw [Qz _ Zbc]; exact Gr) Vx (by omega)
 simp only [Ui _ _ Zbc, Ui _ _ hi0, Vy, Kj, Zck, Z0e Vx, List.set_cons_zero, List.set_cons_succ, List.cons_append, List.nil_append, List.length_cons, List.length_nil, Nat.zero_add, Nat.reduceAdd, Nat.add_assoc] at e0
 refine Zf9 e0 ?_
 have hU := (Und.drop hU j0_0)
 have hk0 : ∀ k, i0 < n + k := fun k => by omega
 have hN0 : ∀ o, Objs.upd (O.upd j0_0 none) i0 o n = none := fun o => Kl hU hi0 _ (Nat.le_refl _)
 have hN : ∀ o k, Objs.upd (O.upd j0_0 none) i0 o (n + k) = none := fun o k => Kl hU hi0 _ (Nat.le_add_right _ _)
 show W _ _ _ _ ⟨47, [], [(0, .ref i0 0), (1, (vI a1)), (2, .agg (Zd a2))]⟩ (Zr ((O.upd j0_0 none).upd i0 (some ⟨false, 66, 2, 1, [.row n a0.words.length, (vI a0.next)]⟩)) n [some (oR 63 1 (eI .u64) a0.words)]) _
 refine U3 [0, 1, 5] hi0 hk0 ?_
 refine U3 [0, 1, 5, 7] hi0 hk0 ?_
 refine Yj ?_
 refine U3 [0, 1, 5, 7, 17] hi0 hk0 ?_
 refine Zm (t := (a2.Kind == 1)) rfl (fun c11 => ?_) (fun c11 => ?_)
 ·replace h := Zo c11 h
  obtain ⟨pu1, h⟩ := bG h
  have su1 := fun j => Zkv (T := Qw) (j := j) Zep U2 pu1
  have g2 := Zkt (f := (eI .u64)) a0.words a2.Words a1 (fun _ => rfl) pu1.2.1 pu1.2.2
  have mg2 := Nat.mul_one (List.length a2.Words)
  obtain ⟨y3, hy3, h⟩ := bC h
  refine Zih Zv (by kernel_rfl) [.plain, .plain, .plain, .plain, .plain, .plain, .plain, .plain, .plain, .plain, .pass, .plain, .low, .low, .bar] (fun i => i < (n + 2) ∧ ¬ i = n) [0, 1, 2, 3, 4, 5, 6, 7, 8, 9, 12, 13, 10, 11, 14] [.plain, .plain, .plain, .plain, .plain, .plain, .plain, .plain, .plain, .plain, .low, .low, .pass, .plain, .bar] [] (by kernel_rfl) rfl ?_
  simp only [push_cast, seval, ↓reduceIte, Zh, pu1.1, pu1.2.1, pu1.2.2, su1, g2, mg2, hi0, hk0, hN0, hN]
  refine zO ?_
  refine (X3 (i0 := i0) (j0_0 := n) (by omega) (by omega) (by omega) (by simp only [push_cast, seval, ↓reduceIte, Zh, K3, pu1.1, pu1.2.1, pu1.2.2, su1, g2, mg2, hi0, hk0, hN0, hN] <;> rfl) (by simp only [push_cast, seval, ↓reduceIte, Zh, K3, pu1.1, pu1.2.1, pu1.2.2, su1, g2, mg2, hi0, hk0, hN0, hN] <;> rfl) hy3).then ?_
  simp only [push_cast, seval, ↓reduceIte, Zh, pu1.1, pu1.2.1, pu1.2.2, su1, g2, mg2, hi0, hk0, hN0, hN]
  refine zO ?_
  have h := Option.some.inj h; subst h
  refine J9 (k := 1) (i := i0) (q1 := ⟨false, 66, 2, 1, [.row n y3.words.length, (vI y3.next)]⟩) (L3 := [some (oR 63 1 (eI .u64) y3.words), none]) (E2 := (⟨47, [], []⟩ : Env)) (n3 := (n + 2)) (.inl rfl) hU rfl [] ?_ ?_
  ·refine Fit2.trans (E' := (⟨47, [], []⟩ : Env)) (O' := (Zr ((O.upd j0_0 none).upd i0 (some ⟨false, 66, 2, 1, [.row (n + 2) y3.words.length, (vI y3.next)]⟩)) n [none, none, some (oR 63 1 (eI .u64) y3.words)])) (n' := (n + 3)) (Fit2.of (Z7 hU rfl rfl ?_) (by omega)) ?_
   ·simp only [push_cast, seval, ↓reduceIte, Zh, pu1.1, pu1.2.1, pu1.2.2, su1, g2, mg2, hi0, hk0, hN0, hN]
   refine X9 (k := 3) (k' := 2) hU [1, 1, 0] [2, 0] rfl rfl rfl rfl ⟨rfl, rfl⟩ ?_
   exact Qx hi0 hk0
  simp only [push_cast, seval, ↓reduceIte, Zh, Try.results65, hi0, hk0, hN0, hN]
 replace h := Zn c11 h
 refine U3 [0, 1, 5, 7, 34] hi0 hk0 ?_
 refine Zm (t := (a2.Kind == 8)) rfl (fun c10 => ?_) (fun c10 => ?_)
 ·replace h := Zo c10 h
  obtain ⟨y4, hy4, h⟩ := bC h
  refine Jm [] hi0 hk0 ?_
  refine (X3 (i0 := i0) (j0_0 := n) (by omega) (by omega) (by omega) (by simp only [push_cast, seval, ↓reduceIte, Zh, K3, hi0, hk0, hN0, hN] <;> rfl) (by simp only [push_cast, seval, ↓reduceIte, Zh, K3, hi0, hk0, hN0, hN] <;> rfl) hy4).then ?_
  refine zX2 hi0 hk0 ?_
  have h := Option.some.inj h; subst h
  refine J9 (k := 1) (i := i0) (q1 := ⟨false, 66, 2, 1, [.row n y4.words.length, (vI y4.next)]⟩) (L3 := [some (oR 63 1 (eI .u64) y4.words), none]) (E2 := (⟨47, [], []⟩ : Env)) (n3 := (n + 2)) (.inl rfl) hU rfl [] ?_ ?_
  ·refine Fit2.trans (E' := (⟨47, [], []⟩ : Env)) (O' := (Zr ((O.upd j0_0 none).upd i0 (some ⟨false, 66, 2, 1, [.row (n + 2) y4.words.length, (vI y4.next)]⟩)) n [none, none, some (oR 63 1 (eI .u64) y4.words)])) (n' := (n + 3)) (Fit2.of (Z7 hU rfl rfl ?_) (by omega)) ?_
   ·exact Qx hi0 hk0
   refine X9 (k := 3) (k' := 2) hU [1, 1, 0] [2, 0] rfl rfl rfl rfl ⟨rfl, rfl⟩ ?_
   exact Qx hi0 hk0
  simp only [push_cast, seval, ↓reduceIte, Zh, Try.results65, hi0, hk0, hN0, hN]
 replace h := Zn c10 h
 refine U3 [0, 1, 5, 41] hi0 hk0 ?_
 refine Zm (t := (a2.Kind == 9)) rfl (fun c9 => ?_) (fun c9 => ?_)
 ·replace h := Zo c9 h
  obtain ⟨y5, hy5, h⟩ := bC h
  refine Jm [] hi0 hk0 ?_
  refine (Ve (i0 := i0) (j0_0 := n) (by omega) (by omega) (by omega) (by simp only [push_cast, seval, ↓reduceIte, Zh, K3, hi0, hk0, hN0, hN] <;> rfl) (by simp only [push_cast, seval, ↓reduceIte, Zh, K3, hi0, hk0, hN0, hN] <;> rfl) hy5).then ?_
  refine zX2 hi0 hk0 ?_
  have h := Option.some.inj h; subst h
  refine J9 (k := 1) (i := i0) (q1 := ⟨false, 66, 2, 1, [.row n y5.words.length, (vI y5.next)]⟩) (L3 := [some (oR 63 1 (eI .u64) y5.words), none]) (E2 := (⟨47, [], []⟩ : Env)) (n3 := (n + 2)) (.inl rfl) hU rfl [] ?_ ?_
  ·refine Fit2.trans (E' := (⟨47, [], []⟩ : Env)) (O' := (Zr ((O.upd j0_0 none).upd i0 (some ⟨false, 66, 2, 1, [.row (n + 2) y5.words.length, (vI y5.next)]⟩)) n [none, none, some (oR 63 1 (eI .u64) y5.words)])) (n' := (n + 3)) (Fit2.of (Z7 hU rfl rfl ?_) (by omega)) ?_
   ·exact Qx hi0 hk0
   refine X9 (k := 3) (k' := 2) hU [1, 1, 0] [2, 0] rfl rfl rfl rfl ⟨rfl, rfl⟩ ?_
   exact Qx hi0 hk0
  simp only [push_cast, seval, ↓reduceIte, Zh, Try.results65, hi0, hk0, hN0, hN]
 replace h := Zn c9 h
 obtain ⟨pu6, h⟩ := bG h
 have su6 := fun j => Zkv (T := Qw) (j := j) Zep U2 pu6
 obtain ⟨y7, hy7, h⟩ := bC h
 have g8 := Zkt (f := (eI .u64)) a0.words y7 a1 (fun _ => rfl) pu6.2.1 pu6.2.2
 have mg8 := Nat.mul_one (List.length y7)
 refine Ze5 Zv (by kernel_rfl) [false, false, false, false, false, false, false, false, true] [] (by kernel_rfl) ?_
 simp only [push_cast, seval, ↓reduceIte, Zh, pu6.1, pu6.2.1, pu6.2.2, su6, g8, mg8, hi0, hk0, hN0, hN]
 refine PCall.of (Zto hy7) ?_
 simp only [push_cast, seval, ↓reduceIte, Zh, pu6.1, pu6.2.1, pu6.2.2, su6, g8, mg8, hi0, hk0, hN0, hN]
 have h := Option.some.inj h; subst h
 refine J9 (k := 1) (i := i0) (q1 := ⟨false, 66, 2, 1, [.row n (Zji a0.words a1 y7).length, (vI a0.next)]⟩) (L3 := [some (oR 63 1 (eI .u64) (Zji a0.words a1 y7)), none]) (E2 := (⟨47, [], []⟩ : Env)) (n3 := (n + 2)) (.inl rfl) hU rfl [] ?_ ?_
 ·refine Fit2.trans (E' := (⟨47, [], []⟩ : Env)) (O' := (Zr ((O.upd j0_0 none).upd i0 (some ⟨false, 66, 2, 1, [.row n (Zji a0.words a1 y7).length, (vI a0.next)]⟩)) n [some (oR 63 1 (eI .u64) (Zji a0.words a1 y7)), none])) (n' := (n + 2)) (Fit2.of (Z7 hU rfl rfl ?_) (by omega)) ?_
  ·simp only [push_cast, seval, ↓reduceIte, Zh, pu6.1, pu6.2.1, pu6.2.2, su6, g8, mg8, hi0, hk0, hN0, hN]
  refine X9 (k := 2) (k' := 2) hU [0, 1] [0, 0] rfl rfl rfl rfl ⟨rfl, rfl⟩ ?_
  exact Qx hi0 hk0
 simp only [push_cast, seval, ↓reduceIte, Zh, Try.results65, hi0, hk0, hN0, hN]
theorem Zi6 {Z6 : (Ze → Int → Za → Option Ze)} {Zz : (Ze → Int → Za → Option Ze)} {Zu : (Ze → Int → (List Za) → Option Ze)} {Z0 : (Ze → Int → Za → Option Ze)} (Uc : Ke Z6) (Vd : Jf Zz) (X3 : Q4 Zu) (Ve : Jg Z0) {a0 : Ze} {a1 : Int} {a2 : (List Za)} {r : Ze} {O : Objs} {n : Nat} {i0 j0_0 : Nat} (hi0 : i0 < n) (Zbc : j0_0 < n) (Vx : i0 ≠ j0_0) (ho0 : O i0 = some ⟨false, 66, 2, 1, [.row j0_0 a0.words.length, (vI a0.next)]⟩) (Gr : O j0_0 = some (oR 63 1 (eI .u64) a0.words)) (h : J7 Z6 Zz Zu Z0 a0 a1 a2 = some r) : GTo Try.prog 103 [.ref i0 0, (vI a1), (sL Zc a2)] O n (.tup []) (Zr ((O.upd j0_0 none).upd i0 (some ⟨false, 66, 2, 1, [.row n r.words.length, (vI r.next)]⟩)) n [some (oR 63 1 (eI .u64) r.words)]) (n + 1) := by
 unfold J7 at h
 refine Zpw Zv Try.call103 Try.func103 rfl (Nat.le_of_ble_eq_true rfl) (by omega) fun hU => ?_
 have e0 := Zr3 (ba := n) (E := ⟨22, [], Zpb 0 [.ref i0 0, .val (.int .i64 a1), .sl a2.length (fl Zc a2)]⟩) (O := (Zr O n [])) (n := n) (i := i0) (j := j0_0) (k := 0) (len := a0.words.length) (q := ⟨false, 66, 2, 1, [.row j0_0 a0.words.length, .val (.int .i64 a0.next)]⟩) (qj := ⟨true, 63, 1, a0.words.length, fl (eI .u64) a0.words⟩) (by rw [Qz _ hi0]; first | exact ho0 | exact Yz _ _ _) rfl (by rw [Qz _ Zbc]; exact Gr) Vx (by omega)
 simp only [Ui _ _ Zbc, Ui _ _ hi0, Vy, Kj, Zck, Z0e Vx, List.set_cons_zero, List.set_cons_succ, List.cons_append, List.nil_append, List.length_cons, List.length_nil, Nat.zero_add, Nat.reduceAdd, Nat.add_assoc] at e0
 refine Zf9 e0 ?_
 have hU := (Und.drop hU j0_0)
 have hk0 : ∀ k, i0 < n + k := fun k => by omega
 have hN0 : ∀ o, Objs.upd (O.upd j0_0 none) i0 o n = none := fun o => Kl hU hi0 _ (Nat.le_refl _)
 have hN : ∀ o k, Objs.upd (O.upd j0_0 none) i0 o (n + k) = none := fun o k => Kl hU hi0 _ (Nat.le_add_right _ _)
 show W _ _ _ _ ⟨22, [], [(0, .ref i0 0), (1, (vI a1)), (2, (sL Zc a2))]⟩ (Zr ((O.upd j0_0 none).upd i0 (some ⟨false, 66, 2, 1, [.row n a0.words.length, (vI a0.next)]⟩)) n [some (oR 63 1 (eI .u64) a0.words)]) _
 refine U3 [0, 1, 8, 9, 10] hi0 hk0 ?_
 refine zD [0, 1, 8, 9, 10] [true] ?_
 refine Zf9 (E' := (⟨22, [], [(0, .ref i0 0), (1, (vI a1)), (8, (sL Zc a2)), (9, (vI (a2.length : Int))), (10, (vI 0))]⟩ : Env)) (O' := (Zr ((O.upd j0_0 none).upd i0 (some ⟨false, 66, 2, 1, [.row (n + 1) a0.words.length, (vI a0.next)]⟩)) n [none, some (oR 63 1 (eI .u64) a0.words)])) (n' := (n + 2)) ?_ ?_
 ·refine Fit2.trans (E' := (⟨22, [], [(0, .ref i0 0), (1, (vI a1)), (8, (sL Zc a2)), (9, (vI (a2.length : Int))), (10, (vI 0))]⟩ : Env)) (O' := (Zr ((O.upd j0_0 none).upd i0 (some ⟨false, 66, 2, 1, [.row n a0.words.length, (vI a0.next)]⟩)) n [some (oR 63 1 (eI .u64) a0.words)])) (n' := (n + 1)) (Fit2.of (Z7 hU rfl rfl ?_) (by omega)) ?_
  ·exact Qx hi0 hk0
  refine X9 (k := 1) (k' := 2) hU [1] [0, 0] rfl rfl rfl rfl ⟨rfl, rfl⟩ ?_
  exact Qx hi0 hk0
 obtain ⟨z5, hz5, h⟩ := bC h
 refine Y0 (E' := ⟨22, [], []⟩) (O' := (Zr ((O.upd j0_0 none).upd i0 (some ⟨false, 66, 2, 1, [.row (n + 1) z5.1.length, (vI z5.2)]⟩)) n [none, some (oR 63 1 (eI .u64) z5.1)])) (n0 := (n + 2)) ?_ ?_
 ·refine Xm hz5 (fun s0_ => ⟨22, [], [(0, .ref i0 0), (1, (vI a1)), (8, (sL Zc a2)), (9, (vI (a2.length : Int))), (10, (vI s0_.1))]⟩) (fun s0_ => (Zr ((O.upd j0_0 none).upd i0 (some ⟨false, 66, 2, 1, [.row (n + 1) s0_.2.1.length, (vI s0_.2.2)]⟩)) n [none, some (oR 63 1 (eI .u64) s0_.2.1)])) (fun z5 => JX 0 n (⟨22, [], []⟩ : Env) (Zr ((O.upd j0_0 none).upd i0 (some ⟨false, 66, 2, 1, [.row (n + 1) z5.1.length, (vI z5.2)]⟩)) n [none, some (oR 63 1 (eI .u64) z5.1)]) (n + 2)) ?_
  intro s0_ x0_ hs0_
  unfold Q3 at hs0_
  try dsimp only
  refine U3 [0, 1, 8, 9, 10, 11] hi0 hk0 ?_
  refine Zg ?_
  refine Zm (t := (decide (s0_.1 < (a2.length : Int)))) rfl (fun c4 => ?_) (fun c4 => ?_)
  ·replace hs0_ := Zo c4 hs0_
   refine J6 [0, 1, 8, 9, 10] [false, true] ?_
   refine Zg ?_
   refine Yj ?_
   refine Zg ?_
   obtain ⟨x2, hx2, ax2, bx2, cx2, hs0_⟩ := bE (f := Zc) Vo (fun _ => rfl) (by decide) hs0_
   refine Z3q [] ax2 bx2 cx2 hi0 hk0 ?_
   refine zD [0, 1, 6, 7, 8, 9, 10] [false, true, true] ?_
   obtain ⟨y3, hy3, hs0_⟩ := bC hs0_
   refine Jm [] hi0 hk0 ?_
   refine (Uc (i0 := i0) (j0_0 := (n + 1)) (by omega) (by omega) (by omega) (by simp only [push_cast, seval, ↓reduceIte, Zh, K3, hi0, hk0, hN0, hN] <;> rfl) (by simp only [push_cast, seval, ↓reduceIte, Zh, K3, hi0, hk0, hN0, hN] <;> rfl) hy3).then ?_
   refine zX2 hi0 hk0 ?_
   refine zD [0, 1, 8, 9, 10] [false, false, false, true] ?_
   refine Jm [] hi0 hk0 ?_
   have hs0_ := Option.some.inj hs0_; subst hs0_
   refine And.intro rfl ?_
   refine Fit2.trans (E' := (⟨22, [], [(0, .ref i0 0), (1, (vI a1)), (8, (sL Zc a2)), (9, (vI (a2.length : Int))), (10, (vI (IntKind.i64.wrap (s0_.1 + 1))))]⟩ : Env)) (O' := (Zr ((O.upd j0_0 none).upd i0 (some ⟨false, 66, 2, 1, [.row (n + 3) y3.words.length, (vI y3.next)]⟩)) n [none, none, none, some (oR 63 1 (eI .u64) y3.words)])) (n' := (n + 4)) (Fit2.of (Z7 hU rfl rfl ?_) (by omega)) ?_
   ·exact Qx hi0 hk0
   refine X9 (k := 4) (k' := 2) hU [0, 0, 0, 1] [0, 3] rfl rfl rfl rfl ⟨rfl, rfl⟩ ?_
   exact Qx hi0 hk0
  replace hs0_ := Zn c4 hs0_
  refine zXt ?_
  have hs0_ := Option.some.inj hs0_; subst hs0_
  refine And.intro (fun h => by cases h) (And.intro rfl (Fit2.of (Z7 hU rfl rfl ?_) (by omega)))
  exact Qx hi0 hk0
 try simp only [Xc, Ym, ↓reduceIte, Nat.reduceEqDiff]
 have h := Option.some.inj h; subst h
 refine J9 (k := 1) (i := i0) (q1 := ⟨false, 66, 2, 1, [.row n z5.1.length, (vI z5.2)]⟩) (L3 := [some (oR 63 1 (eI .u64) z5.1), none]) (E2 := (⟨22, [], []⟩ : Env)) (n3 := (n + 2)) (.inl rfl) hU rfl [] ?_ ?_
 ·refine Fit2.trans (E' := (⟨22, [], []⟩ : Env)) (O' := (Zr ((O.upd j0_0 none).upd i0 (some ⟨false, 66, 2, 1, [.row (n + 1) z5.1.length, (vI z5.2)]⟩)) n [none, some (oR 63 1 (eI .u64) z5.1)])) (n' := (n + 2)) (Fit2.of (Z7 hU rfl rfl ?_) (by omega)) ?_
  ·exact Qx hi0 hk0
  refine X9 (k := 2) (k' := 2) hU [1, 0] [1, 0] rfl rfl rfl rfl ⟨rfl, rfl⟩ ?_
  exact Qx hi0 hk0
 simp only [push_cast, seval, ↓reduceIte, Zh, Try.results103, hi0, hk0, hN0, hN]
theorem Zj1 {Z6 : (Ze → Int → Za → Option Ze)} {Zz : (Ze → Int → Za → Option Ze)} {Zu : (Ze → Int → (List Za) → Option Ze)} {Z0 : (Ze → Int → Za → Option Ze)} (Uc : Ke Z6) (Vd : Jf Zz) (X3 : Q4 Zu) (Ve : Jg Z0) {a0 : Ze} {a1 : Int} {a2 : Za} {r : Ze} {O : Objs} {n : Nat} {i0 j0_0 : Nat} (hi0 : i0 < n) (Zbc : j0_0 < n) (Vx : i0 ≠ j0_0) (ho0 : O i0 = some ⟨false, 66, 2, 1, [.row j0_0 a0.words.length, (vI a0.next)]⟩) (Gr : O j0_0 = some (oR 63 1 (eI .u64) a0.words)) (h : Ks Z6 Zz Zu Z0 a0 a1 a2 = some r) : GTo Try.prog 104 [.ref i0 0, (vI a1), .agg (Zd a2)] O n (.tup []) (Zr ((O.upd j0_0 none).upd i0 (some ⟨false, 66, 2, 1, [.row n r.words.length, (vI r.next)]⟩)) n [some (oR 63 1 (eI .u64) r.words)]) (n + 1) := by
 unfold Ks at h
 refine Zpw Zv Try.call104 Try.func104 rfl (Nat.le_of_ble_eq_true rfl) (by omega) fun hU => ?_
 have e0 := Zr3 (ba := n) (E := ⟨85, [], Zpb 0 [.ref i0 0, .val (.int .i64 a1), .agg [.val (.int .i64 a2.Kind), .sl a2.Words.length (fl (eI .u64) a2.Words), .sl a2.Kids.length (fl Zc a2.Kids)]]⟩) (O := (Zr O n [])) (n := n) (i := i0) (j := j0_0) (k := 0) (len := a0.words.length) (q := ⟨false, 66, 2, 1, [.row j0_0 a0.words.length, .val (.int .i64 a0.next)]⟩) (qj := ⟨true, 63, 1, a0.words.length, fl (eI .u64) a0.words⟩) (by rw [Qz _ hi0]; first | exact ho0 | exact Yz _ _ _) rfl (by rw [Qz _ Zbc]; exact Gr) Vx (by omega)
 simp only [Ui _ _ Zbc, Ui _ _ hi0, Vy, Kj, Zck, Z0e Vx, List.set_cons_zero, List.set_cons_succ, List.cons_append, List.nil_append, List.length_cons, List.length_nil, Nat.zero_add, Nat.reduceAdd, Nat.add_assoc] at e0
 refine Zf9 e0 ?_
 have hU := (Und.drop hU j0_0)
 have hk0 : ∀ k, i0 < n + k := fun k => by omega
 have hN0 : ∀ o, Objs.upd (O.upd j0_0 none) i0 o n = none := fun o => Kl hU hi0 _ (Nat.le_refl _)
 have hN : ∀ o k, Objs.upd (O.upd j0_0 none) i0 o (n + k) = none := fun o k => Kl hU hi0 _ (Nat.le_add_right _ _)
 show W _ _ _ _ ⟨85, [], [(0, .ref i0 0), (1, (vI a1)), (2, .agg (Zd a2))]⟩ (Zr ((O.upd j0_0 none).upd i0 (some ⟨false, 66, 2, 1, [.row n a0.words.length, (vI a0.next)]⟩)) n [some (oR 63 1 (eI .u64) a0.words)]) _
 refine U3 [0, 1, 5] hi0 hk0 ?_
 refine Zg ?_
 obtain ⟨y2, hy2, h⟩ := bC h
 refine Jm [] hi0 hk0 ?_
 refine (Zi4 hy2).then ?_
 refine zX2 hi0 hk0 ?_
 refine zD [0, 1, 5, 6, 7] [true, true] ?_
 obtain ⟨z3, hz3, h⟩ := bC h
 refine Xo (E' := ⟨85, [], [(0, .ref i0 0), (1, (vI a1)), (5, .ref (n + 1) 0), (6, (vI y2.1)), (7, (vI y2.2))]⟩) (O' := (Zr ((O.upd j0_0 none).upd i0 (some ⟨false, 66, 2, 1, [.row n z3.length, (vI a0.next)]⟩)) n [some (oR 63 1 (eI .u64) z3), some ⟨false, 29, 3, 1, (Zd a2)⟩])) (n0 := (n + 2)) ?_ ?_
 ·refine U3 [0, 1, 5, 6, 7, 20] hi0 hk0 ?_
  refine Zm (t := (decide (0 < (a2.Kids.length : Int)))) rfl (fun c7 => ?_) (fun c7 => ?_)
  ·replace hz3 := Zo c7 hz3
   obtain ⟨y4, hy4, hz3⟩ := bC hz3
   obtain ⟨x5, hx5, ax5, bx5, cx5, hz3⟩ := bE (f := (eI .u64)) U2 (fun _ => rfl) (by decide) hz3
   have gu6 : Un (fl (eI .u64) a0.words) [.val (.int .u64 y4.1)] (Int.toNat a1 * 1) = some (fl (eI .u64) (Qy a0.words a1 y4.1)) := Zjo (f := (eI .u64)) (ti := ⟨.bool, 1, 0, [], false⟩) (x := y4.1) (fun _ => rfl) (Zd9 hx5)
   refine Ze5 Zv (by kernel_rfl) [false, false, false, false, false, false, false, false, false, false, false, false, false, false, false, false, true] [] (by kernel_rfl) ?_
   refine zF6 ax5 bx5 cx5 gu6 hi0 hk0 ?_
   refine PCall.of (Zo7 hy4) ?_
   refine zF6 ax5 bx5 cx5 gu6 hi0 hk0 ?_
   have hz3 := Option.some.inj hz3; subst hz3
   refine And.intro rfl (Fit2.of (Z7 hU rfl rfl ?_) (by omega))
   exact Ydz ax5 bx5 cx5 gu6 hi0 hk0
  replace hz3 := Zn c7 hz3
  refine zK ?_
  have hz3 := Option.some.inj hz3; subst hz3
  refine And.intro rfl (Fit2.of (Z7 hU rfl rfl ?_) (by omega))
  exact Qx hi0 hk0
 refine U3 [0, 1, 5, 6, 7] hi0 hk0 ?_
 refine Zg ?_
 refine U3 [0, 1, 5, 6, 7, 40, 41, 42] hi0 hk0 ?_
 refine zD [0, 1, 5, 6, 7, 40, 41, 42] [true, true] ?_
 obtain ⟨z13, hz13, h⟩ := bC h
 refine Y0 (E' := ⟨85, [], [(0, .ref i0 0), (1, (vI (IntKind.i64.wrap (a1 + 1)))), (5, .ref (n + 1) 0), (6, (vI y2.1)), (7, (vI y2.2))]⟩) (O' := (Zr ((O.upd j0_0 none).upd i0 (some ⟨false, 66, 2, 1, [.row n z13.length, (vI a0.next)]⟩)) n [some (oR 63 1 (eI .u64) z13), some ⟨false, 29, 3, 1, (Zd a2)⟩])) (n0 := (n + 2)) ?_ ?_
 ·refine Xm hz13 (fun s0_ => ⟨85, [], [(0, .ref i0 0), (1, (vI (IntKind.i64.wrap (a1 + 1)))), (5, .ref (n + 1) 0), (6, (vI y2.1)), (7, (vI y2.2)), (40, (sL Zc a2.Kids)), (41, (vI (a2.Kids.length : Int))), (42, (vI s0_.1))]⟩) (fun s0_ => (Zr ((O.upd j0_0 none).upd i0 (some ⟨false, 66, 2, 1, [.row n s0_.2.length, (vI a0.next)]⟩)) n [some (oR 63 1 (eI .u64) s0_.2), some ⟨false, 29, 3, 1, (Zd a2)⟩])) (fun z13 => JX 0 n (⟨85, [], [(0, .ref i0 0), (1, (vI (IntKind.i64.wrap (a1 + 1)))), (5, .ref (n + 1) 0), (6, (vI y2.1)), (7, (vI y2.2))]⟩ : Env) (Zr ((O.upd j0_0 none).upd i0 (some ⟨false, 66, 2, 1, [.row n z13.length, (vI a0.next)]⟩)) n [some (oR 63 1 (eI .u64) z13), some ⟨false, 29, 3, 1, (Zd a2)⟩]) (n + 2)) ?_
  intro s0_ x0_ hs0_
  unfold Jd at hs0_
  try dsimp only
  refine U3 [0, 1, 5, 6, 7, 40, 41, 42, 43] hi0 hk0 ?_
  refine Zg ?_
  refine Zm (t := (decide (s0_.1 < (a2.Kids.length : Int)))) rfl (fun c12 => ?_) (fun c12 => ?_)
  ·replace hs0_ := Zo c12 hs0_
   refine J6 [0, 1, 5, 6, 7, 40, 41, 42] [true, true] ?_
   refine Zg ?_
   refine Yj ?_
   refine Zg ?_
   obtain ⟨x9, hx9, ax9, bx9, cx9, hs0_⟩ := bE (f := Zc) Vo (fun _ => rfl) (by decide) hs0_
   refine Z3q [] ax9 bx9 cx9 hi0 hk0 ?_
   refine zD [0, 1, 5, 6, 7, 8, 9, 40, 41, 42] [true, true, true] ?_
   obtain ⟨pu10, hs0_⟩ := bG hs0_
   have su10 := fun j => Zkv (T := Qw) (j := j) Zep U2 pu10
   have g11 := Zkt (f := (eI .u64)) s0_.2 x9.Words (IntKind.i64.wrap ((IntKind.i64.wrap (a1 + 1)) + (IntKind.i64.wrap (s0_.1 * (IntKind.i64.wrap (y2.1 + y2.2)))))) (fun _ => rfl) pu10.2.1 pu10.2.2
   have mg11 := Nat.mul_one (List.length x9.Words)
   refine Ze5 Zv (by kernel_rfl) [false, false, false, false, false, false, false, false, false, false, false, false, false, false, true] [] (by kernel_rfl) ?_
   simp only [push_cast, seval, ↓reduceIte, Zh, pu10.1, pu10.2.1, pu10.2.2, su10, g11, mg11, hi0, hk0, hN0, hN]
   refine zD [0, 1, 5, 6, 7, 40, 41, 42] [true, true, false] ?_
   refine Jm [] hi0 hk0 ?_
   have hs0_ := Option.some.inj hs0_; subst hs0_
   refine And.intro rfl (Fit2.of (Z7 hU rfl rfl ?_) (by omega))
   exact Qx hi0 hk0
  replace hs0_ := Zn c12 hs0_
  refine zXt ?_
  have hs0_ := Option.some.inj hs0_; subst hs0_
  refine And.intro (fun h => by cases h) (And.intro rfl (Fit2.of (Z7 hU rfl rfl ?_) (by omega)))
  exact Qx hi0 hk0
 try simp only [Xc, Ym, ↓reduceIte, Nat.reduceEqDiff]
 refine zD [0, 1, 5, 6, 7] [true, true] ?_
 refine U3 [0, 1, 6, 7, 64, 65, 66] hi0 hk0 ?_
 refine zD [0, 1, 6, 7, 64, 65, 66] [true, false] ?_
 refine Zf9 (E' := (⟨85, [], [(0, .ref i0 0), (1, (vI (IntKind.i64.wrap (a1 + 1)))), (6, (vI y2.1)), (7, (vI y2.2)), (64, (sL Zc a2.Kids)), (65, (vI (a2.Kids.length : Int))), (66, (vI 0))]⟩ : Env)) (O' := (Zr ((O.upd j0_0 none).upd i0 (some ⟨false, 66, 2, 1, [.row (n + 2) z13.length, (vI a0.next)]⟩)) n [none, none, some (oR 63 1 (eI .u64) z13)])) (n' := (n + 3)) ?_ ?_
 ·refine Fit2.trans (E' := (⟨85, [], [(0, .ref i0 0), (1, (vI (IntKind.i64.wrap (a1 + 1)))), (6, (vI y2.1)), (7, (vI y2.2)), (64, (sL Zc a2.Kids)), (65, (vI (a2.Kids.length : Int))), (66, (vI 0))]⟩ : Env)) (O' := (Zr ((O.upd j0_0 none).upd i0 (some ⟨false, 66, 2, 1, [.row n z13.length, (vI a0.next)]⟩)) n [some (oR 63 1 (eI .u64) z13), none])) (n' := (n + 2)) (Fit2.of (Z7 hU rfl rfl ?_) (by omega)) ?_
  ·exact Qx hi0 hk0
  refine X9 (k := 2) (k' := 3) hU [2, 1] [0, 0, 0] rfl rfl rfl rfl ⟨rfl, rfl⟩ ?_
  exact Qx hi0 hk0
 obtain ⟨z18, hz18, h⟩ := bC h
 refine Y0 (E' := ⟨85, [], []⟩) (O' := (Zr ((O.upd j0_0 none).upd i0 (some ⟨false, 66, 2, 1, [.row (n + 2) z18.1.length, (vI z18.2)]⟩)) n [none, none, some (oR 63 1 (eI .u64) z18.1)])) (n0 := (n + 3)) ?_ ?_
 ·refine Xm hz18 (fun s1_ => ⟨85, [], [(0, .ref i0 0), (1, (vI (IntKind.i64.wrap (a1 + 1)))), (6, (vI y2.1)), (7, (vI y2.2)), (64, (sL Zc a2.Kids)), (65, (vI (a2.Kids.length : Int))), (66, (vI s1_.1))]⟩) (fun s1_ => (Zr ((O.upd j0_0 none).upd i0 (some ⟨false, 66, 2, 1, [.row (n + 2) s1_.2.1.length, (vI s1_.2.2)]⟩)) n [none, none, some (oR 63 1 (eI .u64) s1_.2.1)])) (fun z18 => JX 2 n (⟨85, [], []⟩ : Env) (Zr ((O.upd j0_0 none).upd i0 (some ⟨false, 66, 2, 1, [.row (n + 2) z18.1.length, (vI z18.2)]⟩)) n [none, none, some (oR 63 1 (eI .u64) z18.1)]) (n + 3)) ?_
  intro s1_ x1_ hs1_
  unfold Je at hs1_
  try dsimp only
  refine U3 [0, 1, 6, 7, 64, 65, 66, 67] hi0 hk0 ?_
  refine Zg ?_
  refine Zm (t := (decide (s1_.1 < (a2.Kids.length : Int)))) rfl (fun c17 => ?_) (fun c17 => ?_)
  ·replace hs1_ := Zo c17 hs1_
   refine J6 [0, 1, 6, 7, 64, 65, 66] [false, false, true] ?_
   refine Zg ?_
   refine Yj ?_
   refine Zg ?_
   obtain ⟨x15, hx15, ax15, bx15, cx15, hs1_⟩ := bE (f := Zc) Vo (fun _ => rfl) (by decide) hs1_
   refine Z3q [] ax15 bx15 cx15 hi0 hk0 ?_
   refine zD [0, 1, 6, 7, 10, 11, 64, 65, 66] [false, false, true, true] ?_
   obtain ⟨y16, hy16, hs1_⟩ := bC hs1_
   refine Jm [] hi0 hk0 ?_
   refine (X3 (i0 := i0) (j0_0 := (n + 2)) (by omega) (by omega) (by omega) (by simp only [push_cast, seval, ↓reduceIte, Zh, K3, hi0, hk0, hN0, hN] <;> rfl) (by simp only [push_cast, seval, ↓reduceIte, Zh, K3, hi0, hk0, hN0, hN] <;> rfl) hy16).then ?_
   refine zX2 hi0 hk0 ?_
   refine zD [0, 1, 6, 7, 64, 65, 66] [false, false, false, false, true] ?_
   refine Jm [] hi0 hk0 ?_
   have hs1_ := Option.some.inj hs1_; subst hs1_
   refine And.intro rfl ?_
   refine Fit2.trans (E' := (⟨85, [], [(0, .ref i0 0), (1, (vI (IntKind.i64.wrap (a1 + 1)))), (6, (vI y2.1)), (7, (vI y2.2)), (64, (sL Zc a2.Kids)), (65, (vI (a2.Kids.length : Int))), (66, (vI (IntKind.i64.wrap (s1_.1 + 1))))]⟩ : Env)) (O' := (Zr ((O.upd j0_0 none).upd i0 (some ⟨false, 66, 2, 1, [.row (n + 4) y16.words.length, (vI y16.next)]⟩)) n [none, none, none, none, some (oR 63 1 (eI .u64) y16.words)])) (n' := (n + 5)) (Fit2.of (Z7 hU rfl rfl ?_) (by omega)) ?_
   ·exact Qx hi0 hk0
   refine X9 (k := 5) (k' := 3) hU [1, 1, 1, 1, 2] [0, 0, 4] rfl rfl rfl rfl ⟨rfl, rfl⟩ ?_
   exact Qx hi0 hk0
  replace hs1_ := Zn c17 hs1_
  refine zXt ?_
  have hs1_ := Option.some.inj hs1_; subst hs1_
  refine And.intro (fun h => by cases h) (And.intro rfl (Fit2.of (Z7 hU rfl rfl ?_) (by omega)))
  exact Qx hi0 hk0
 try simp only [Xc, Ym, ↓reduceIte, Nat.reduceEqDiff]
 have h := Option.some.inj h; subst h
 refine J9 (k := 1) (i := i0) (q1 := ⟨false, 66, 2, 1, [.row n z18.1.length, (vI z18.2)]⟩) (L3 := [some (oR 63 1 (eI .u64) z18.1), none]) (E2 := (⟨85, [], []⟩ : Env)) (n3 := (n + 2)) (.inl rfl) hU rfl [] ?_ ?_
 ·refine Fit2.trans (E' := (⟨85, [], []⟩ : Env)) (O' := (Zr ((O.upd j0_0 none).upd i0 (some ⟨false, 66, 2, 1, [.row (n + 2) z18.1.length, (vI z18.2)]⟩)) n [none, none, some (oR 63 1 (eI .u64) z18.1)])) (n' := (n + 3)) (Fit2.of (Z7 hU rfl rfl ?_) (by omega)) ?_
  ·exact Qx hi0 hk0
  refine X9 (k := 3) (k' := 2) hU [1, 1, 0] [2, 0] rfl rfl rfl rfl ⟨rfl, rfl⟩ ?_
  exact Qx hi0 hk0
 simp only [push_cast, seval, ↓reduceIte, Zh, Try.results104, hi0, hk0, hN0, hN]
theorem Zjr : ∀ k, (Ke ((Zi k).1)) ∧ (Jf ((Zi k).2.1)) ∧ (Q4 ((Zi k).2.2.1)) ∧ (Jg ((Zi k).2.2.2)) := fun k => by
 induction k with
 | zero => exact ⟨@fun a0 a1 a2 r O n i0 j0_0 hi0 Zbc Vx ho0 Gr h => (nomatch (show (none : Option _) = some _ from h)), @fun a0 a1 a2 r O n i0 j0_0 hi0 Zbc Vx ho0 Gr h => (nomatch (show (none : Option _) = some _ from h)), @fun a0 a1 a2 r O n i0 j0_0 hi0 Zbc Vx ho0 Gr h => (nomatch (show (none : Option _) = some _ from h)), @fun a0 a1 a2 r O n i0 j0_0 hi0 Zbc Vx ho0 Gr h => (nomatch (show (none : Option _) = some _ from h))⟩
 | succ k ih => exact ⟨@fun a0 a1 a2 r O n i0 j0_0 hi0 Zbc Vx ho0 Gr h => Zly (ih.1) (ih.2.1) (ih.2.2.1) (ih.2.2.2) hi0 Zbc Vx ho0 Gr h, @fun a0 a1 a2 r O n i0 j0_0 hi0 Zbc Vx ho0 Gr h => Zj0 (ih.1) (ih.2.1) (ih.2.2.1) (ih.2.2.2) hi0 Zbc Vx ho0 Gr h, @fun a0 a1 a2 r O n i0 j0_0 hi0 Zbc Vx ho0 Gr h => Zi6 (ih.1) (ih.2.1) (ih.2.2.1) (ih.2.2.2) hi0 Zbc Vx ho0 Gr h, @fun a0 a1 a2 r O n i0 j0_0 hi0 Zbc Vx ho0 Gr h => Zj1 (ih.1) (ih.2.1) (ih.2.2.1) (ih.2.2.2) hi0 Zbc Vx ho0 Gr h⟩
theorem Zmv {a0 : Ze} {a1 : Int} {a2 : Za} {r : Ze} {O : Objs} {n : Nat} {i0 j0_0 : Nat} (hi0 : i0 < n) (Zbc : j0_0 < n) (Vx : i0 ≠ j0_0) (ho0 : O i0 = some ⟨false, 66, 2, 1, [.row j0_0 a0.words.length, (vI a0.next)]⟩) (Gr : O j0_0 = some (oR 63 1 (eI .u64) a0.words)) (h : Zaa a0 a1 a2 = some r) : GTo Try.prog 38 [.ref i0 0, (vI a1), .agg (Zd a2)] O n (.tup []) (Zr ((O.upd j0_0 none).upd i0 (some ⟨false, 66, 2, 1, [.row n r.words.length, (vI r.next)]⟩)) n [some (oR 63 1 (eI .u64) r.words)]) (n + 1) := by
 obtain ⟨k, hk⟩ := Zaj h
 exact (Zjr k).1 hi0 Zbc Vx ho0 Gr hk
theorem Zgf {a0 : Za} {a1 : Int} {r : ((List Int) × Bool)} {O : Objs} {n : Nat} (h : Up a0 a1 = some r) : GTo Try.prog 15 [.agg (Zd a0), (vI a1)] O n (.tup [(sL (eI .u64) r.1), (vB r.2)]) O n := by
 unfold Up at h
 refine zFn Try.call15 Try.func15 fun hU hN0 hN => ?_
 show W _ _ _ _ ⟨35, [], [(0, .agg (Zd a0)), (1, (vI a1))]⟩ (Zr O n []) _
 refine zQ [1, 2] ?_
 refine Zg ?_
 obtain ⟨z2, hz2, h⟩ := bC h
 refine Xo (E' := ⟨35, [], [(1, (vI a1)), (2, .ref n 0), (15, (vB z2))]⟩) (O' := (Zr O n [some ⟨false, 29, 3, 1, (Zd a0)⟩])) (n0 := (n + 1)) ?_ ?_
 ·rcases Bool.eq_false_or_eq_true (a0.Kind == 10) with c5 | c5
  ·replace hz2 := Zo c5 hz2
   refine K9 [some false, some false, some false] c5 ?_
   exact Kp hz2 c5
  replace hz2 := Zn c5 hz2
  obtain ⟨y4, hy4, hz2⟩ := bC hz2
  refine K9 [some true, some true, some true] c5 ?_
  refine (Zx6 hy4).then ?_
  refine zX1 c5 ?_
  exact Kp hz2 c5
 refine Zm (t := z2) rfl (fun c15 => ?_) (fun c15 => ?_)
 ·replace h := Zo c15 h
  refine zQ [4, 5] ?_
  exact Z4 [nV, (vB false)]
 replace h := Zn c15 h
 refine J6 [1, 2] [true] ?_
 refine Zg ?_
 obtain ⟨y7, hy7, h⟩ := bC h
 refine zCd (Zk3 hy7) [1, 2] [true] ?_
 refine Zg ?_
 obtain ⟨y9, hy9, h⟩ := bC h
 refine zCd (Zzu hy9) [1, 2, 6] [true] ?_
 refine Zg ?_
 refine zQD [2, 6, 27] [none, none] ?_
 refine Zm (t := (cond (decide (a1 < (IntKind.i64.wrap (1 + y9)))) true (decide (131072 < (IntKind.i64.wrap (1 + y9)))))) rfl (fun c14 => ?_) (fun c14 => ?_)
 ·replace h := Zo c14 h
  refine zQ [4, 5] ?_
  exact Z4 [nV, (vB false)]
 replace h := Zn c14 h
 refine J6 [2, 6] [true] ?_
 refine Zg ?_
 obtain ⟨l11, al11, bl11, cl11, el11, h⟩ := bM2 (c := 8) rfl h
 have nl11 : Int.toNat (IntKind.i64.wrap (1 + y9)) = List.length l11 := by rw [el11, List.length_replicate]
 have fl11 : (List.replicate (List.length l11) [.val (.int .u64 0)]).flatten = fl (eI .u64) l11 := by rw [← nl11, el11]; exact (Zkq (f := (eI .u64)) _ _).symm
 clear el11
 refine Z5 Zv [] ?_
 simp only [push_cast, seval, ↓reduceIte, Zh, al11, bl11, cl11, fl11, nl11, hN0, hN]
 refine Zc1 ⟨35, [], [(2, .ref n 0), (7, .ref (n + 2) 0)]⟩ (Zr O n [some ⟨false, 29, 3, 1, (Zd y7)⟩, some (oR 63 1 (eI .u64) l11), some ⟨false, 66, 2, 1, [.row (n + 1) l11.length, (vI 1)]⟩]) (Yq hU rfl rfl ?_) ?_
 ·simp only [push_cast, seval, ↓reduceIte, Zh, al11, bl11, cl11, fl11, nl11, hN0, hN]
 refine Zg ?_
 obtain ⟨y13, hy13, h⟩ := bC h
 refine zR ?_
 refine (Zmv (i0 := (n + 2)) (j0_0 := (n + 1)) (by omega) (by omega) (by omega) (by simp only [push_cast, seval, ↓reduceIte, Zh, K3, hN0, hN] <;> rfl) (by simp only [push_cast, seval, ↓reduceIte, Zh, K3, hN0, hN] <;> rfl) hy13).then ?_
 refine zS ?_
 refine zD [7] [false, false, true, true] ?_
 refine zQ [4, 5] ?_
 exact Z4 [.row (n + 3) y13.words.length, (vB true)]
theorem Zhi {a0 : (List Int)} {a1 : (List Int)} {r : Bool} {O : Objs} {n : Nat} (h : Vr a0 a1 = some r) : GTo Try.prog 17 [(sL (eI .u64) a0), (sL (eI .u64) a1)] O n ((vB r)) O n := by
 unfold Vr at h
 refine zFn Try.call17 Try.func17 fun hU hN0 hN => ?_
 show W _ _ _ _ ⟨26, [], [(0, (sL (eI .u64) a0)), (1, (sL (eI .u64) a1))]⟩ (Zr O n []) _
 refine zQ [0, 1] ?_
 refine Zg ?_
 refine zQ [0, 1, 10] ?_
 refine Zm (t := ((a0.length : Int) != (a1.length : Int))) rfl (fun c8 => ?_) (fun c8 => ?_)
 ·replace h := Zo c8 h
  refine zQ [4] ?_
  exact Z4 [(vB false)]
 replace h := Zn c8 h
 refine J6 [0, 1] [] ?_
 refine Zg ?_
 refine zQd [0, 1, 5] [0, 1, 5] [] ?_
 obtain ⟨z7, hz7, h⟩ := bC h
 refine Ziw (J := (Gn (fun z7 => JR n (⟨26, [], [(4, (vB false))]⟩ : Env) (Zr O n []) n) (fun z7 => JX 0 n (⟨26, [], []⟩ : Env) (Zr O n []) n))) (z := z7) ?_ fun hw => ?_
 ·refine Xm hz7 (fun s0_ => ⟨26, [], [(0, (sL (eI .u64) a0)), (1, (sL (eI .u64) a1)), (5, (vI s0_))]⟩) (fun s0_ => (Zr O n [])) (Gn (fun z7 => JR n (⟨26, [], [(4, (vB false))]⟩ : Env) (Zr O n []) n) (fun z7 => JX 0 n (⟨26, [], []⟩ : Env) (Zr O n []) n)) ?_
  intro s0_ x0_ hs0_
  unfold Vj at hs0_
  try dsimp only
  refine Zg ?_
  refine zQ [0, 1, 5, 14] ?_
  refine Zm (t := (decide (s0_ < (a0.length : Int)))) rfl (fun c6 => ?_) (fun c6 => ?_)
  ·replace hs0_ := Zo c6 hs0_
   refine J6 [0, 1, 5] [] ?_
   refine Zg ?_
   refine Yj ?_
   obtain ⟨x3, hx3, ax3, bx3, cx3, hs0_⟩ := bE (f := (eI .u64)) U2 (fun _ => rfl) (by decide) hs0_
   obtain ⟨x4, hx4, ax4, bx4, cx4, hs0_⟩ := bE (f := (eI .u64)) U2 (fun _ => rfl) (by decide) hs0_
   refine Zc2 [0, 1, 5, 25] (Q8 Zv (by kernel_rfl) [] (by kernel_rfl) ?_)
   refine zF6 ax3 bx3 cx3 ax4 bx4 cx4 ?_
   refine Zm (t := (x3 != x4)) rfl (fun c5 => ?_) (fun c5 => ?_)
   ·replace hs0_ := Zo c5 hs0_
    refine zQ [4] ?_
    refine zW ?_
    exact zEy hs0_
   replace hs0_ := Zn c5 hs0_
   refine J6 [0, 1, 5] [] ?_
   refine zR ?_
   exact zEn hs0_
  replace hs0_ := Zn c6 hs0_
  exact zEx hs0_
 rcases z7 with z7 | z7
 ·dsimp only [Gn] at hw h
  refine Zc0 hw ?_
  try simp only [Xc, Ym, ↓reduceIte, Nat.reduceEqDiff]
  exact Z3o [(vB false)]
 dsimp only [Gn] at hw h
 refine Y0 hw ?_
 try simp only [Xc, Ym, ↓reduceIte, Nat.reduceEqDiff]
 refine zD [] [] ?_
 refine zQ [4] ?_
 exact Z4 [(vB true)]
theorem Zac  {r : Bool} {O : Objs} {n : Nat} (h : Qs = some r) : GTo Try.prog 14 [] O n ((vB r)) O n := by
 unfold Qs at h
 refine zFn Try.call14 Try.func14 fun hU hN0 hN => ?_
 show W _ _ _ _ ⟨19, [], []⟩ (Zr O n []) _
 refine zQ [] ?_
 refine Zg ?_
 obtain ⟨y2, hy2, h⟩ := bC h
 refine zR ?_
 refine GCalls.dropL (l' := [none, none, none]) hU rfl ?_ ((Zgf hy2).then ?_)
 ·exact zSe
 refine zS ?_
 refine zD [1, 2] [false, false, false] ?_
 obtain ⟨z4, hz4, h⟩ := bC h
 refine Xo (E' := ⟨19, [], [(0, (vB z4))]⟩) (O' := (Zr O n [none, none, none, none])) (n0 := (n + 4)) ?_ ?_
 ·rcases Bool.eq_false_or_eq_true y2.2 with c7 | c7
  ·replace hz4 := Zo c7 hz4
   obtain ⟨y6, hy6, hz4⟩ := bC hz4
   refine K9 [some true, some true, some true] c7 ?_
   refine GCalls.lend (Zhi hy6) rfl ?_ ?_
   ·exact Yff c7
   refine zX1 c7 ?_
   exact Kp hz4 c7
  replace hz4 := Zn c7 hz4
  refine K9 [some false, some false, some false] c7 ?_
  exact Kp hz4 c7
 exact Z4 [(vB z4)]
theorem Zcz {a0 : Int} {r : Int} {O : Objs} {n : Nat} (h : Qt a0 = some r) : GTo Try.prog 70 [(vI a0)] O n ((vI r)) O n := by
 unfold Qt at h
 refine zFn Try.call70 Try.func70 fun hU hN0 hN => ?_
 show W _ _ _ _ ⟨16, [], [(0, (vI a0))]⟩ (Zr O n []) _
 refine zQ [0] ?_
 refine Zg ?_
 refine zQ [3] ?_
 refine Yj ?_
 refine zQ [3, 4] ?_
 refine Zm (t := (a0 == 0)) rfl (fun c6 => ?_) (fun c6 => ?_)
 ·replace h := Zo c6 h
  refine zQ [2] ?_
  exact Z4 [(vI 0)]
 replace h := Zn c6 h
 refine zQ [3, 6] ?_
 refine Zm (t := (a0 == 1)) rfl (fun c5 => ?_) (fun c5 => ?_)
 ·replace h := Zo c5 h
  refine zQ [2] ?_
  exact Z4 [(vI 1)]
 replace h := Zn c5 h
 refine zQ [3, 8] ?_
 refine Zm (t := (a0 == 2)) rfl (fun c4 => ?_) (fun c4 => ?_)
 ·replace h := Zo c4 h
  refine zQ [2] ?_
  exact Z4 [(vI 8)]
 replace h := Zn c4 h
 refine zQ [3, 10] ?_
 refine Zm (t := (a0 == 3)) rfl (fun c3 => ?_) (fun c3 => ?_)
 ·replace h := Zo c3 h
  refine zQ [2] ?_
  exact Z4 [(vI 16)]
 replace h := Zn c3 h
 refine zQ [3, 12] ?_
 refine Zm (t := (a0 == 4)) rfl (fun c2 => ?_) (fun c2 => ?_)
 ·replace h := Zo c2 h
  refine zQ [2] ?_
  exact Z4 [(vI 32)]
 replace h := Zn c2 h
 refine zQ [14] ?_
 refine Zm (t := (a0 == 5)) rfl (fun c1 => ?_) (fun c1 => ?_)
 ·replace h := Zo c1 h
  refine zQ [2] ?_
  exact Z4 [(vI 64)]
 replace h := Zn c1 h
 refine J6 [] [] ?_
 refine zQ [2] ?_
 exact Z4 [(vI (-1))]
theorem Zhh {a0 : Int} {a1 : Int} {r : Bool} {O : Objs} {n : Nat} (h : Kb a0 a1 = some r) : GTo Try.prog 40 [(vI a0), .val (.int .u64 a1)] O n ((vB r)) O n := by
 unfold Kb at h
 refine zFn Try.call40 Try.func40 fun hU hN0 hN => ?_
 show W _ _ _ _ ⟨20, [], [(0, (vI a0)), (1, .val (.int .u64 a1))]⟩ (Zr O n []) _
 refine zQ [0, 1] ?_
 refine Zg ?_
 obtain ⟨y2, hy2, h⟩ := bC h
 refine zCd (Zcz hy2) [1, 5] [] ?_
 refine Zg ?_
 refine zQ [1, 5, 10] ?_
 refine Zm (t := (decide (y2 < 0))) rfl (fun c5 => ?_) (fun c5 => ?_)
 ·replace h := Zo c5 h
  refine zQ [4] ?_
  exact Z4 [(vB false)]
 replace h := Zn c5 h
 refine J6 [1, 5] [] ?_
 refine Zg ?_
 refine zQd [1, 5, 6] [1, 5, 6] [] ?_
 obtain ⟨z4, hz4, h⟩ := bC h
 refine Y0 (E' := ⟨20, [], [(1, .val (.int .u64 z4))]⟩) (O' := (Zr O n [])) (n0 := n) ?_ ?_
 ·refine Xm hz4 (fun s0_ => ⟨20, [], [(1, .val (.int .u64 s0_.1)), (5, (vI y2)), (6, (vI s0_.2))]⟩) (fun s0_ => (Zr O n [])) (fun z4 => JX 0 n (⟨20, [], [(1, .val (.int .u64 z4))]⟩ : Env) (Zr O n []) n) ?_
  intro s0_ x0_ hs0_
  unfold X0 at hs0_
  try dsimp only
  refine Zg ?_
  refine zQ [1, 5, 6, 13] ?_
  refine Zm (t := (decide (s0_.2 < y2))) rfl (fun c3 => ?_) (fun c3 => ?_)
  ·replace hs0_ := Zo c3 hs0_
   refine J6 [1, 5, 6] [] ?_
   refine Zg ?_
   refine Yj ?_
   refine zRd [1, 5, 6] [] ?_
   refine zR ?_
   exact zEn hs0_
  replace hs0_ := Zn c3 hs0_
  exact zEx hs0_
 try simp only [Xc, Ym, ↓reduceIte, Nat.reduceEqDiff]
 refine zD [1] [] ?_
 refine zQ [4] ?_
 exact Z4 [(vB (z4 == 0))]
def Zer (Qv : (Za → Int → Option Bool)) : Prop := ∀ {a0 : Za} {a1 : Int} {r : Bool} {O : Objs} {n : Nat}, Qv a0 a1 = some r → GTo Try.prog 18 [.agg (Zd a0), (vI a1)] O n ((vB r)) O n
theorem Zm3 {Qv : (Za → Int → Option Bool)} (Zlx : Zer Qv) {a0 : Za} {a1 : Int} {r : Bool} {O : Objs} {n : Nat} (h : Uj Qv a0 a1 = some r) : GTo Try.prog 18 [.agg (Zd a0), (vI a1)] O n ((vB r)) O n := by
 unfold Uj at h
 refine zFn Try.call18 Try.func18 fun hU hN0 hN => ?_
 show W _ _ _ _ ⟨132, [], [(0, .agg (Zd a0)), (1, (vI a1))]⟩ (Zr O n []) _
 refine zQ [1, 2] ?_
 refine Zg ?_
 refine zQ [1, 2, 10] ?_
 refine Zm (t := (a0.Kind == 0)) rfl (fun c32 => ?_) (fun c32 => ?_)
 ·replace h := Zo c32 h
  refine zQD [4] [none, none, none, none] ?_
  exact Z4 [(vB (cond ((a0.Words.length : Int) == 0) ((a0.Kids.length : Int) == 0) false))]
 replace h := Zn c32 h
 refine J6 [1, 2] [true] ?_
 refine Zg ?_
 refine zQ [1, 2, 23] ?_
 refine Zm (t := (a0.Kind == 10)) rfl (fun c31 => ?_) (fun c31 => ?_)
 ·replace h := Zo c31 h
  refine zQD [4] [none, none, none, none] ?_
  exact Z4 [(vB (cond ((a0.Words.length : Int) == 1) ((a0.Kids.length : Int) == 0) false))]
 replace h := Zn c31 h
 refine J6 [1, 2] [true] ?_
 refine Zg ?_
 refine zQD [1, 2, 68] [none, none, none, none, none, none, none, none, none, none, none, none, none, none, none, none, none, none, none, none, none, none] ?_
 refine Zm (t := (cond (cond (cond (cond (cond (decide (a0.Kind < 0)) true (decide (10 < a0.Kind))) true (a1 == 0)) true (decide (65536 ≤ (a0.Words.length : Int)))) true (cond (a0.Kind == 1) (decide (65536 ≤ (a0.Kids.length : Int))) false)) true (decide (1048576 ≤ (a0.Kids.length : Int))))) rfl (fun c30 => ?_) (fun c30 => ?_)
 ·replace h := Zo c30 h
  refine zQ [4] ?_
  exact Z4 [(vB false)]
 replace h := Zn c30 h
 refine J6 [1, 2] [true] ?_
 refine Zg ?_
 refine zQD [1, 2, 77] [none, none, none, none] ?_
 refine Zm (t := (cond (decide (1 < a0.Kind)) (decide (0 < (a0.Words.length : Int))) false)) rfl (fun c29 => ?_) (fun c29 => ?_)
 ·replace h := Zo c29 h
  refine zQ [4] ?_
  exact Z4 [(vB false)]
 replace h := Zn c29 h
 refine J6 [1, 2] [true] ?_
 refine Zg ?_
 refine zQd [1, 2, 5] [1, 2, 5] [true] ?_
 obtain ⟨z28, hz28, h⟩ := bC h
 refine Ziw (J := (Gn (fun z28 => JR n (⟨132, [], [(4, (vB false))]⟩ : Env) (Zr O n [none]) (n + 1)) (fun z28 => JX 0 n (⟨132, [], []⟩ : Env) (Zr O n [none]) (n + 1)))) (z := z28) ?_ fun hw => ?_
 ·refine Xm hz28 (fun s0_ => ⟨132, [], [(1, (vI a1)), (2, .ref n 0), (5, (vI s0_))]⟩) (fun s0_ => (Zr O n [some ⟨false, 29, 3, 1, (Zd a0)⟩])) (Gn (fun z28 => JR n (⟨132, [], [(4, (vB false))]⟩ : Env) (Zr O n [none]) (n + 1)) (fun z28 => JX 0 n (⟨132, [], []⟩ : Env) (Zr O n [none]) (n + 1))) ?_
  intro s0_ x0_ hs0_
  unfold Kt at hs0_
  try dsimp only
  refine Zg ?_
  refine zQ [1, 2, 5, 82] ?_
  refine Zm (t := (decide (s0_ < (a0.Kids.length : Int)))) rfl (fun c27 => ?_) (fun c27 => ?_)
  ·replace hs0_ := Zo c27 hs0_
   refine J6 [1, 2, 5] [true] ?_
   refine Zg ?_
   refine Yj ?_
   refine Zg ?_
   obtain ⟨x2, hx2, ax2, bx2, cx2, hs0_⟩ := bE (f := Zc) Vo (fun _ => rfl) (by decide) hs0_
   refine Ziv [] ax2 bx2 cx2 ?_
   refine zDs [1, 2, 5, 6] [true, true] ?_
   refine Zg ?_
   obtain ⟨y4, hy4, hs0_⟩ := bC hs0_
   refine zCd (Zlx hy4) [1, 2, 5, 6, 94] [true, true] ?_
   refine Zm (t := (!y4)) rfl (fun c26 => ?_) (fun c26 => ?_)
   ·replace hs0_ := Zo c26 hs0_
    refine zQ [4] ?_
    refine zW ?_
    exact zEy hs0_
   replace hs0_ := Zn c26 hs0_
   refine J6 [1, 2, 5, 6] [true, true] ?_
   refine zQD [1, 2, 5, 6, 7] [none, none, none] ?_
   obtain ⟨z9, hz9, hs0_⟩ := bC hs0_
   refine Xo (E' := ⟨132, [], [(1, (vI a1)), (2, .ref n 0), (5, (vI s0_)), (131, (vB z9))]⟩) (O' := (Zr O n [some ⟨false, 29, 3, 1, (Zd a0)⟩, none])) (n0 := (n + 2)) ?_ ?_
   ·rcases Bool.eq_false_or_eq_true ((cond (decide (2 ≤ a0.Kind)) (decide (a0.Kind ≤ 7)) false) != (x2.Kind == 10)) with c18 | c18
    ·replace hz9 := Zo c18 hz9
     refine Q8 Zv (by kernel_rfl) [none, none, none, none, none, none, none, none, some false, some false, some false, some false, some false, some false, some false, some false, some false, some false, some false, some false] (by kernel_rfl) ?_
     refine zX1 c18 ?_
     refine zG ?_
     exact Kp hz9 c18
    replace hz9 := Zn c18 hz9
    rcases Bool.eq_false_or_eq_true (a0.Kind == 9) with c19 | c19
    ·replace hz9 := Zo c19 hz9
     try rw [c19] at c18
     try simp only [Bool.cond_true, Bool.cond_false, Bool.true_bne, Bool.false_bne, Bool.true_beq, Bool.false_beq, Bool.not_eq_true', Bool.not_eq_false'] at c18
     rcases Bool.eq_false_or_eq_true (x2.Kind != 1) with c20 | c20
     ·replace hz9 := Zo c20 hz9
      try rw [c20] at c18
      try rw [c20] at c19
      try simp only [Bool.cond_true, Bool.cond_false, Bool.true_bne, Bool.false_bne, Bool.true_beq, Bool.false_beq, Bool.not_eq_true', Bool.not_eq_false'] at c18
      refine Q8 Zv (by kernel_rfl) [none, none, none, none, none, none, none, none, some false, some false, some false, some false, some false, some false, some false, some false, some false, some false, some false, some false] (by kernel_rfl) ?_
      refine zX3 c18 c19 c20 ?_
      refine zG ?_
      exact Z59 hz9 c18 c19 c20
     replace hz9 := Zn c20 hz9
     try rw [c20] at c18
     try rw [c20] at c19
     try simp only [Bool.cond_true, Bool.cond_false, Bool.true_bne, Bool.false_bne, Bool.true_beq, Bool.false_beq, Bool.not_eq_true', Bool.not_eq_false'] at c18
     rcases Bool.eq_false_or_eq_true (decide (2 ≤ a0.Kind)) with c21 | c21
     ·replace hz9 := Zo c21 hz9
      try rw [c21] at c18
      try rw [c21] at c19
      try rw [c21] at c20
      try simp only [Bool.cond_true, Bool.cond_false, Bool.true_bne, Bool.false_bne, Bool.true_beq, Bool.false_beq, Bool.not_eq_true', Bool.not_eq_false'] at c18
      rcases Bool.eq_false_or_eq_true (decide (a0.Kind ≤ 7)) with c22 | c22
      ·replace hz9 := Zo c22 hz9
       try rw [c22] at c18
       try rw [c22] at c19
       try rw [c22] at c20
       try rw [c22] at c21
       try simp only [Bool.cond_true, Bool.cond_false, Bool.true_bne, Bool.false_bne, Bool.true_beq, Bool.false_beq, Bool.not_eq_true', Bool.not_eq_false'] at c18
       obtain ⟨x14, hx14, ax14, bx14, cx14, hz9⟩ := bE (f := (eI .u64)) U2 (fun _ => rfl) (by decide) hz9
       obtain ⟨y15, hy15, hz9⟩ := bC hz9
       refine Q8 Zv (by kernel_rfl) [none, none, none, none, none, none, none, none, some true, some true, some true, some true, some true, some true, some true, some true, some true, some true, some true, some true] (by kernel_rfl) ?_
       refine zF8 c18 c19 c20 c21 c22 ax14 bx14 cx14 ?_
       refine zG ?_
       refine PCall.of (Zhh hy15) ?_
       refine zF8 c18 c19 c20 c21 c22 ax14 bx14 cx14 ?_
       refine zG ?_
       exact Ydy hz9 c18 c19 c20 c21 c22 ax14 bx14 cx14
      replace hz9 := Zn c22 hz9
      try rw [c22] at c18
      try rw [c22] at c19
      try rw [c22] at c20
      try rw [c22] at c21
      try simp only [Bool.cond_true, Bool.cond_false, Bool.true_bne, Bool.false_bne, Bool.true_beq, Bool.false_beq, Bool.not_eq_true', Bool.not_eq_false'] at c18
      refine Q8 Zv (by kernel_rfl) [none, none, none, none, none, none, none, none, some true, some true, some false, some false, some false, some false, some false, some false, some false, some false, some false, some true] (by kernel_rfl) ?_
      refine zX5 c18 c19 c20 c21 c22 ?_
      refine zG ?_
      exact Ybp hz9 c18 c19 c20 c21 c22
     replace hz9 := Zn c21 hz9
     try rw [c21] at c18
     try rw [c21] at c19
     try rw [c21] at c20
     try simp only [Bool.cond_true, Bool.cond_false, Bool.true_bne, Bool.false_bne, Bool.true_beq, Bool.false_beq, Bool.not_eq_true', Bool.not_eq_false'] at c18
     refine Q8 Zv (by kernel_rfl) [none, none, none, none, none, none, none, none, some true, some true, some false, some false, some false, some false, some false, some false, some false, some false, some false, some true] (by kernel_rfl) ?_
     refine zX4 c18 c19 c20 c21 ?_
     refine zG ?_
     exact Z3n hz9 c18 c19 c20 c21
    replace hz9 := Zn c19 hz9
    try rw [c19] at c18
    try simp only [Bool.cond_true, Bool.cond_false, Bool.true_bne, Bool.false_bne, Bool.true_beq, Bool.false_beq, Bool.not_eq_true', Bool.not_eq_false'] at c18
    rcases Bool.eq_false_or_eq_true (decide (2 ≤ a0.Kind)) with c23 | c23
    ·replace hz9 := Zo c23 hz9
     try rw [c23] at c18
     try rw [c23] at c19
     try simp only [Bool.cond_true, Bool.cond_false, Bool.true_bne, Bool.false_bne, Bool.true_beq, Bool.false_beq, Bool.not_eq_true', Bool.not_eq_false'] at c18
     rcases Bool.eq_false_or_eq_true (decide (a0.Kind ≤ 7)) with c24 | c24
     ·replace hz9 := Zo c24 hz9
      try rw [c24] at c18
      try rw [c24] at c19
      try rw [c24] at c23
      try simp only [Bool.cond_true, Bool.cond_false, Bool.true_bne, Bool.false_bne, Bool.true_beq, Bool.false_beq, Bool.not_eq_true', Bool.not_eq_false'] at c18
      obtain ⟨x16, hx16, ax16, bx16, cx16, hz9⟩ := bE (f := (eI .u64)) U2 (fun _ => rfl) (by decide) hz9
      obtain ⟨y17, hy17, hz9⟩ := bC hz9
      refine Q8 Zv (by kernel_rfl) [none, none, none, none, none, none, none, none, some true, some true, some true, some true, some true, some true, some true, some true, some true, some true, some true, some true] (by kernel_rfl) ?_
      refine zF7 c18 c19 c23 c24 ax16 bx16 cx16 ?_
      refine zG ?_
      refine PCall.of (Zhh hy17) ?_
      refine zF7 c18 c19 c23 c24 ax16 bx16 cx16 ?_
      refine zG ?_
      exact Ydx hz9 c18 c19 c23 c24 ax16 bx16 cx16
     replace hz9 := Zn c24 hz9
     try rw [c24] at c18
     try rw [c24] at c19
     try rw [c24] at c23
     try simp only [Bool.cond_true, Bool.cond_false, Bool.true_bne, Bool.false_bne, Bool.true_beq, Bool.false_beq, Bool.not_eq_true', Bool.not_eq_false'] at c18
     refine Q8 Zv (by kernel_rfl) [none, none, none, none, none, none, none, none, some true, some true, some false, some false, some false, some false, some false, some false, some false, some false, some false, some true] (by kernel_rfl) ?_
     refine zX4 c18 c19 c23 c24 ?_
     refine zG ?_
     exact Z3n hz9 c18 c19 c23 c24
    replace hz9 := Zn c23 hz9
    try rw [c23] at c18
    try rw [c23] at c19
    try simp only [Bool.cond_true, Bool.cond_false, Bool.true_bne, Bool.false_bne, Bool.true_beq, Bool.false_beq, Bool.not_eq_true', Bool.not_eq_false'] at c18
    refine Q8 Zv (by kernel_rfl) [none, none, none, none, none, none, none, none, some true, some true, some false, some false, some false, some false, some false, some false, some false, some false, some false, some true] (by kernel_rfl) ?_
    refine zX3 c18 c19 c23 ?_
    refine zG ?_
    exact Z59 hz9 c18 c19 c23
   refine Zm (t := z9) rfl (fun c25 => ?_) (fun c25 => ?_)
   ·replace hs0_ := Zo c25 hs0_
    refine zQ [4] ?_
    refine zW ?_
    exact zEy hs0_
   replace hs0_ := Zn c25 hs0_
   refine J6 [1, 2, 5] [true, false] ?_
   refine zR ?_
   exact zEn hs0_
  replace hs0_ := Zn c27 hs0_
  exact zEx hs0_
 rcases z28 with z28 | z28
 ·dsimp only [Gn] at hw h
  refine Zc0 hw ?_
  try simp only [Xc, Ym, ↓reduceIte, Nat.reduceEqDiff]
  exact Z3o [(vB false)]
 dsimp only [Gn] at hw h
 refine Y0 hw ?_
 try simp only [Xc, Ym, ↓reduceIte, Nat.reduceEqDiff]
 refine zD [] [false] ?_
 refine zQ [4] ?_
 exact Z4 [(vB true)]
theorem Zky : ∀ k, (Zer (Q6 k)) := fun k => by
 induction k with
 | zero => exact @fun a0 a1 r O n h => (nomatch (show (none : Option _) = some _ from h))
 | succ k ih => exact @fun a0 a1 r O n h => Zm3 (ih)  h
theorem Zoz {a0 : Za} {a1 : Int} {r : Bool} {O : Objs} {n : Nat} (h : Ur a0 a1 = some r) : GTo Try.prog 18 [.agg (Zd a0), (vI a1)] O n ((vB r)) O n := by
 obtain ⟨k, hk⟩ := Zaj h
 exact (Zky k)  hk
theorem Zpm {a0 : (List Int)} {r : (List Int)} {O : Objs} {n : Nat} (h : Gh a0 = some r) : GTo Try.prog 41 [(sL (eI .u64) a0)] O n ((sL (eI .u64) r)) O n := by
 unfold Gh at h
 refine zFn Try.call41 Try.func41 fun hU hN0 hN => ?_
 show W _ _ _ _ ⟨24, [], [(0, (sL (eI .u64) a0))]⟩ (Zr O n []) _
 refine zQ [0] ?_
 refine zQ [0, 3] ?_
 refine Zg ?_
 refine zD [0, 3] [] ?_
 obtain ⟨z7, hz7, h⟩ := bC h
 refine Y0 (E' := ⟨24, [], [(0, (sL (eI .u64) a0)), (3, (vI z7))]⟩) (O' := (Zr O n [])) (n0 := n) ?_ ?_
 ·refine Xm hz7 (fun s0_ => ⟨24, [], [(0, (sL (eI .u64) a0)), (3, (vI s0_))]⟩) (fun s0_ => (Zr O n [])) (fun z7 => JX 0 n (⟨24, [], [(0, (sL (eI .u64) a0)), (3, (vI z7))]⟩ : Env) (Zr O n []) n) ?_
  intro s0_ x0_ hs0_
  unfold Vk at hs0_
  try dsimp only
  refine Zg ?_
  obtain ⟨z2, hz2, hs0_⟩ := bC hs0_
  refine Xo (E' := ⟨24, [], [(0, (sL (eI .u64) a0)), (3, (vI s0_)), (16, (vB z2))]⟩) (O' := (Zr O n [])) (n0 := n) ?_ ?_
  ·rcases Bool.eq_false_or_eq_true (decide (0 < s0_)) with c5 | c5
   ·replace hz2 := Zo c5 hz2
    obtain ⟨x4, hx4, ax4, bx4, cx4, hz2⟩ := bE (f := (eI .u64)) U2 (fun _ => rfl) (by decide) hz2
    refine Z3p [some true, some true, some true, some true, some true, some true] c5 ax4 bx4 cx4 ?_
    exact Z58 hz2 c5 ax4 bx4 cx4
   replace hz2 := Zn c5 hz2
   refine K9 [some false, some false, some false, some false, some false, some false] c5 ?_
   exact Kp hz2 c5
  refine Zm (t := z2) rfl (fun c6 => ?_) (fun c6 => ?_)
  ·replace hs0_ := Zo c6 hs0_
   refine J6 [0, 3] [] ?_
   refine Yj ?_
   refine zR ?_
   exact zEn hs0_
  replace hs0_ := Zn c6 hs0_
  exact zEx hs0_
 try simp only [Xc, Ym, ↓reduceIte, Nat.reduceEqDiff]
 refine zD [0, 3] [] ?_
 refine zQ [0, 3, 4] ?_
 refine Zg ?_
 obtain ⟨l10, al10, bl10, cl10, gl10, h⟩ := bS (lo := none) (hi := (some (.i64, z7))) (f := (eI .u64)) rfl rfl Zep U2 (fun _ => rfl) h
 obtain ⟨l11, pl11, ql11, el11, h⟩ := bA0 (k := l10.length) rfl h
 refine Yd3 [] al10 bl10 cl10 gl10 pl11 ql11 el11 ?_
 refine Zc1 ⟨24, [], [(2, .row n l11.length)]⟩ (Zr O n [some (oR 63 1 (eI .u64) l11)]) (Yq hU rfl rfl ?_) ?_
 ·simp only [push_cast, seval, ↓reduceIte, Zh, al10, bl10, cl10, gl10, pl11, ql11, el11, hN0, hN]
 exact Z4 [.row n l11.length]
end Go.Proofs.Ytpfbdlcnfekdkaa
