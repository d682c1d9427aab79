/- Part KM3 of this seat's mirrors: functions of the seat's program, and the plain functions that they are; each theorem bears its own conditions. -/
import Derived.Test.YtpfbdlcnfekdkaaKE
import Derived.Test.YtpfbdlcnfekdkaaKM1
namespace Go.Proofs.Ytpfbdlcnfekdkaa
open Go.RowKit
set_option linter.unusedVariables false
set_option linter.unusedSimpArgs false
set_option maxRecDepth 100000
set_option maxHeartbeats 4000000
attribute [local push_cast] Try.results16 Try.results19 Try.results20 Try.results39 Try.results4 Try.results42 Try.results43 Try.results66 Try.results67 Try.results68 Try.results69 vI vB nV sL oR Yy Zd Q9 Xh Zk Zqe Zqd Zre Zrd Xc Ym Zmd Zha Zg9 onW Xx Zds Zcu Zqk Zpc Zkf Zkk Zke Zkj Znm Zni Zki Znl Znk Znj Zkg Zng Zh1 evS wok Q5 Op.operands Call.operands gop onK onP atK List.all_cons List.all_nil Bool.and_true Bool.true_and Bool.and_self Value.oneCell' List.take_zero List.take_succ_cons List.take_nil List.drop_zero List.drop_succ_cons List.drop_nil List.append_nil Nat.add_zero Nat.zero_add U1 Yd ev Jn Zpb Zp4 Zp3 Zp9 Zp7 Zp8 Zp5 Zp6 Zp2 Zti Zub Zx0 Zi0 Zc6 Zil Zdl Zjn Zgb Ze9 Zfe Zg4 Zg0 Zfc Zg3 Zg2 Zg1 Zfb Zgy Zfa Zfd Zd7 Zgz Zls Zhb Zay Zin Zaz Zks Ziz Zve bLo bHi bMx Zc7 Zkr Zzd Ziy Zli Ze6 Gf Zt3 Zzh Zij Zfj Zzk Zc5 Z05 Zmm Zmq Zml Zmp Zqs Zqo Zqm Zjq Zmn Zqr Zqq Zqp Zmo Zqn Zku Zqg Znb Zhu Zht pop TK.isAgg Zq6 Zra Zq5 Zq9 Zm4 Zv2 Zvy Zq8 Zv1 Zv0 Zvz Zq7 Zvx G.under G.unders List.getD_cons_zero List.getD_cons_succ List.set_cons_zero List.set_cons_succ List.map_cons List.map_nil List.toList_toArray Array.toList_append Option.toArray_none Option.toArray_some Array.toList_map Option.map_some Option.map_none Option.bind_some Option.bind_none List.getElem?_cons_zero List.getElem?_cons_succ List.getElem?_nil List.nil_append List.cons_append List.replicate_succ List.replicate_zero List.length_cons List.length_nil and_true true_and and_false false_and Bool.true_eq_false Bool.false_eq_true forall_const false_implies implies_true IntKind.bits if_true if_false ite_true ite_false eq_self true_implies false_or or_false or_true true_or not_true_eq_false not_false_eq_true decide_true decide_false decide_eq_true_eq decide_eq_false_iff_not beq_iff_eq bne_iff_ne ne_eq Bool.not_eq_true Bool.not_eq_false beq_eq_false_iff_ne bne_eq_false_iff_eq beq_self_eq_true bne_self_eq_false Option.some.injEq exists_eq_left' exists_eq_left ge_iff_le gt_iff_lt decide_not Bool.not_true Bool.not_false imp_self Zvg cond_true cond_false Z7u Z7t Bool.not_not Bool.and_false Bool.false_and Bool.or_true Bool.true_or Bool.or_false Bool.false_or Zbq Zgn Zdi Zby Vy Kj Option.join_some Nat.add_assoc Int.toNat_natCast eI eB eS eL K3 Zgq Zfl Zqj Zqh Zqi Z1t Z4j Zgs Zfx Zrn Zrl Zrm Zya Zmb Zu6 Znf Zu5 Zcm Zth List.length_append G.agg.injEq G.row.injEq G.ref.injEq G.val.injEq G.sl.injEq G.tup.injEq Value.int.injEq Value.bool.injEq Value.string.injEq List.cons.injEq exists_and_left exists_const List.flatten_cons List.flatten_nil Int.le_refl Nat.le_refl Zck Qz Ui Bool.not_eq_true' Bool.not_eq_false' Zs6 Zh6 Zxn Zxs Zxm Zxr Z3j Z3e List.size_toArray Zrq Zrr G.ren G.rens Zui Zgi Zrt Zpz Zp0 Znh Zxu Zgg G.fn.injEq Zkl Zod Zs4 Z3f Zoc Zxq Z3i Z3h Z3g Zxp Zvl Z1h Option.join_none Yz Gc undef Zlj Arr.len Arr.put_eq Zgr Zj5 Zhp Zfw Zrk Zri Zrj onB Z1s Zt1 Yv Zjj Zl1 Zl2 Zl3 Zl4 Zl5 Zl6 Zjw Zj9 Zj7 Zhs Zfy Zj8 Zna Zm9 Zm8 Zm7 Z4i Z65 Zx9 Zv5 Kr Zx2 Zqu Zka Zhr Zzy Zry Zix Zlh Zen Zkb Zl7 Zl8 Zl9 Zma Zja Zjb Zjc Zjd Zje Zjf Zjg Zff prT Zdn Z9k Zw9 Z2r Zxa Z9l Zxb Z9m Zxc Z9n Zxd Z9o Zxe Z9p Zxf Z9q Zxg Z2c Zr4 Z2d Zr5 Z2e Zr6 Z2f Zr7 Z2g Zr8 Z2h Zr9 Z2i Zsa Z2j Zsb Z2k Zsc Z2l Zsd Z2m Zse Z2n Zsf Z2o Zsg Z2p Zsh Zlp Zep Zr2 Zlf Z2q Zsi Vo Zsj Z2s Zsk Z2t Zov Z2u Zsl Z2v Zsm Z2w Zsn Z2x Zso Z2y Zsp U2 Zsq Z2z Zsr Z20 Zss Z21 Zst Z22 Zsu Z23 Zsv Z24 Zsw Z25 Zsx Z26 Zsy Z27 Zsz Z28 Zs0 Z29 Zs1 Zwl Znn Zwm Zno Zwn Znp Zwo Znq Zwp Znr Zwq Zns Zwr Znt Zws Znu Zwt Znv Zwu Znw Zwv Znx Zww Zny Zwx Znz Zwy Zn0 Zwz Zn1 Zw0 Zn2 Zw1 Zn3 Zw2 Zn4 Zw3 Zn5 Zw4 Zn6 Zw5 Zn7 Zw6 Zn8 Zw7 Zn9 Zw8 Zoa Zc Yu Zh8 Zh5 Zhe Zhn Zib Zf7 Zf2 Zf0 Zh3 Zat Zas Zai Zao Zau Gm Gl Gk Zar Zh7 Zh4 Zhd Zhm Zia Zf6 Zf1 Zfz Zh2 Zfh Zba Zdg Zdf Zc8 Zdd Zdh Zcj Zcf Zce Zde Zl V7 V6 V1 V4 V8 Vp Vn Vm V5 Zb0 Zfg Zb1 Z3 Kz Ky Ku Kw K0 Ki Kh Kg Kx Zw J4 J3 Jv Jz J5 Jk Ji Jh J0
def Zfr (Ja : (Za → Option Za)) : Prop := ∀ {a0 : Za} {r : Za} {O : Objs} {n : Nat}, Ja a0 = some r → GTo Try.prog 19 [.agg (Zd a0)] O n (.agg (Zd r)) O n
theorem Zo2 {Ja : (Za → Option Za)} (Zmy : Zfr Ja) {a0 : Za} {r : Za} {O : Objs} {n : Nat} (h : U9 Ja a0 = some r) : GTo Try.prog 19 [.agg (Zd a0)] O n (.agg (Zd r)) O n := by
 unfold U9 at h
 refine zFn Try.call19 Try.func19 fun hU hN0 hN => ?_
 show W _ _ _ _ ⟨53, [], [(0, .agg (Zd a0))]⟩ (Zr O n []) _
 refine zQ [1, 2] ?_
 refine Zg ?_
 refine zQ [1, 2, 10] ?_
 refine Zm (t := (a0.Kind == 0)) rfl (fun c19 => ?_) (fun c19 => ?_)
 ·replace h := Zo c19 h
  refine Zg ?_
  refine zRd [2] [false, true] ?_
  exact Z4 [.agg [(vI 0), nV, nV]]
 replace h := Zn c19 h
 refine J6 [1, 2] [true, true] ?_
 refine zQ [1, 2, 3] ?_
 refine zQ [1, 2, 3, 4] ?_
 refine Zg ?_
 refine zQd [1, 2, 3, 4, 5] [1, 2, 3, 4, 5] [true, true] ?_
 refine Zf9 (E' := (⟨53, [], [(1, .ref n 0), (2, .ref (n + 1) 0), (3, .row (n + 2) ([] : List Za).length), (4, (vI 0)), (5, (vI 0))]⟩ : Env)) (O' := (Zr O n [some ⟨false, 29, 3, 1, (Zd a0)⟩, some ⟨false, 29, 3, 1, [(vI 0), nV, nV]⟩, some (oR 29 3 Zc ([] : List Za)), none])) (n' := (n + 4)) ?_ ?_
 ·refine Fit2.trans (E' := (⟨53, [], [(1, .ref n 0), (2, .ref (n + 1) 0), (3, nV), (4, (vI 0)), (5, (vI 0))]⟩ : Env)) (O' := (Zr O n [some ⟨false, 29, 3, 1, (Zd a0)⟩, some ⟨false, 29, 3, 1, [(vI 0), nV, nV]⟩])) (n' := (n + 2)) (Fit2.of (Yq hU rfl rfl ?_) (by omega)) ?_
  ·exact zSe
  refine Fit2.trans (Zta 3 29 3 rfl (by omega)) ?_
  simp only [Vy, Kj, Zdi, Zby, List.set_cons_zero, List.set_cons_succ, List.cons_append, List.nil_append, List.length_cons, List.length_nil, Nat.zero_add, Nat.reduceAdd, Nat.reduceLT, Nat.add_assoc]
  refine Fit2.trans (E' := (⟨53, [], [(1, .ref n 0), (2, .ref (n + 1) 0), (3, .row (n + 2) ([] : List Za).length), (4, (vI 0)), (5, (vI 0))]⟩ : Env)) (O' := (Zr O n [some ⟨false, 29, 3, 1, (Zd a0)⟩, some ⟨false, 29, 3, 1, [(vI 0), nV, nV]⟩, some (oR 29 3 Zc ([] : List Za))])) (n' := (n + 3)) (Fit2.of (Yq hU rfl rfl ?_) (by omega)) ?_
  ·exact zSe
  refine Zit (k := 3) (k' := 4) hU [0, 1, 2] [0, 1, 2, 0] rfl rfl rfl rfl ⟨rfl, rfl⟩ ?_
  exact zSe
 obtain ⟨z10, hz10, h⟩ := bC h
 refine Y0 (E' := ⟨53, [], [(1, .ref n 0), (2, .ref (n + 1) 0), (3, .row (n + 2) z10.2.length), (4, (vI z10.1))]⟩) (O' := (Zr O n [some ⟨false, 29, 3, 1, (Zd a0)⟩, some ⟨false, 29, 3, 1, [(vI 0), nV, nV]⟩, some (oR 29 3 Zc z10.2), none])) (n0 := (n + 4)) ?_ ?_
 ·refine Xm hz10 (fun s0_ => ⟨53, [], [(1, .ref n 0), (2, .ref (n + 1) 0), (3, .row (n + 2) s0_.2.2.length), (4, (vI s0_.1)), (5, (vI s0_.2.1))]⟩) (fun s0_ => (Zr O n [some ⟨false, 29, 3, 1, (Zd a0)⟩, some ⟨false, 29, 3, 1, [(vI 0), nV, nV]⟩, some (oR 29 3 Zc s0_.2.2), none])) (fun z10 => JX 0 n (⟨53, [], [(1, .ref n 0), (2, .ref (n + 1) 0), (3, .row (n + 2) z10.2.length), (4, (vI z10.1))]⟩ : Env) (Zr O n [some ⟨false, 29, 3, 1, (Zd a0)⟩, some ⟨false, 29, 3, 1, [(vI 0), nV, nV]⟩, some (oR 29 3 Zc z10.2), none]) (n + 4)) ?_
  intro s0_ x0_ hs0_
  unfold Qn at hs0_
  try dsimp only
  refine Zg ?_
  refine zQ [1, 2, 3, 4, 5, 16] ?_
  refine Zm (t := (decide (s0_.2.1 < (a0.Kids.length : Int)))) rfl (fun c9 => ?_) (fun c9 => ?_)
  ·replace hs0_ := Zo c9 hs0_
   refine J6 [1, 2, 3, 4, 5] [true, true, true, false] ?_
   obtain ⟨z1, hz1, hs0_⟩ := bC hs0_
   refine Xo (E' := ⟨53, [], [(1, .ref n 0), (2, .ref (n + 1) 0), (3, .row (n + 2) z1.2.length), (4, (vI z1.1)), (5, (vI s0_.2.1))]⟩) (O' := (Zr O n [some ⟨false, 29, 3, 1, (Zd a0)⟩, some ⟨false, 29, 3, 1, [(vI 0), nV, nV]⟩, some (oR 29 3 Zc z1.2), none, none, none])) (n0 := (n + 6)) ?_ ?_
   ·refine Yj ?_
    refine Zg ?_
    obtain ⟨x4, hx4, ax4, bx4, cx4, hz1⟩ := bE (f := Zc) Vo (fun _ => rfl) (by decide) hz1
    obtain ⟨y5, hy5, hz1⟩ := bC hz1
    refine Ziv [] ax4 bx4 cx4 ?_
    refine (Zmy hy5).then ?_
    refine zF3 ax4 bx4 cx4 ?_
    refine zDs [1, 2, 3, 4, 5, 6] [true, true, true, false, true] ?_
    obtain ⟨l7, pl7, ql7, el7, hz1⟩ := bA (k := 1) rfl hz1
    refine Zs7 [] pl7 ql7 el7 ?_
    refine Zc1 ⟨53, [], [(1, .ref n 0), (2, .ref (n + 1) 0), (3, .row (n + 2) l7.length), (4, (vI s0_.1)), (5, (vI s0_.2.1)), (6, .ref (n + 4) 0)]⟩ (Zr O n [some ⟨false, 29, 3, 1, (Zd a0)⟩, some ⟨false, 29, 3, 1, [(vI 0), nV, nV]⟩, some (oR 29 3 Zc l7), none, some ⟨false, 29, 3, 1, (Zd y5)⟩, none]) (Yq hU rfl rfl ?_) ?_
    ·exact Z42 pl7 ql7 el7
    refine zQ [1, 2, 3, 4, 5, 31] ?_
    refine Zm (t := (y5.Kind != 0)) rfl (fun c8 => ?_) (fun c8 => ?_)
    ·replace hz1 := Zo c8 hz1
     refine zR ?_
     exact zEn hz1
    replace hz1 := Zn c8 hz1
    refine zK ?_
    exact zEn hz1
   refine zR ?_
   exact zEn hs0_
  replace hs0_ := Zn c9 hs0_
  exact zEx hs0_
 try simp only [Xc, Ym, ↓reduceIte, Nat.reduceEqDiff]
 refine zDs [1, 2, 3, 4] [true, true, true, false] ?_
 refine zQ [1, 2, 3, 4, 36] ?_
 refine Zm (t := (a0.Kind == 1)) rfl (fun c18 => ?_) (fun c18 => ?_)
 ·replace h := Zo c18 h
  refine Zc1 ⟨53, [], [(1, .ref n 0), (2, .ref (n + 1) 0), (3, (sL Zc z10.2)), (4, (vI z10.1))]⟩ (Zr O n [some ⟨false, 29, 3, 1, (Zd a0)⟩, some ⟨false, 29, 3, 1, [(vI 0), nV, nV]⟩, none, none]) (Yq hU rfl rfl ?_) ?_
  ·exact zSe
  refine Zg ?_
  obtain ⟨y14, hy14, h⟩ := bC h
  obtain ⟨l15, al15, bl15, cl15, gl15, h⟩ := bS (lo := none) (hi := (some (.i64, z10.1))) (f := Zc) rfl rfl Zlf Vo (fun _ => rfl) h
  refine Ze5 Zv (by kernel_rfl) [false, false, false, false, false, false, false, true] [] (by kernel_rfl) ?_
  refine zX4 al15 bl15 cl15 gl15 ?_
  refine PCall.of (Zpm hy14) ?_
  refine zX4 al15 bl15 cl15 gl15 ?_
  refine zD [2] [false, true, false, false] ?_
  exact Z4 [.agg [(vI 1), (sL (eI .u64) y14), (sL Zc l15)]]
 replace h := Zn c18 h
 refine J6 [1, 2, 3] [true, true, true, false] ?_
 refine zQ [1, 2, 3, 7] ?_
 refine Zg ?_
 obtain ⟨l17, pl17, ql17, el17, h⟩ := bA0 (k := a0.Words.length) rfl h
 refine Zs7 [] pl17 ql17 el17 ?_
 refine Zc1 ⟨53, [], [(1, .ref n 0), (2, .ref (n + 1) 0), (3, .row (n + 2) z10.2.length), (7, .row (n + 4) l17.length)]⟩ (Zr O n [some ⟨false, 29, 3, 1, (Zd a0)⟩, some ⟨false, 29, 3, 1, [(vI 0), nV, nV]⟩, some (oR 29 3 Zc z10.2), none, some (oR 63 1 (eI .u64) l17)]) (Yq hU rfl rfl ?_) ?_
 ·exact Z42 pl17 ql17 el17
 refine Zg ?_
 refine zRd [2] [false, true, true, false, true] ?_
 exact Z4 [.agg [(vI a0.Kind), .row (n + 4) l17.length, .row (n + 2) z10.2.length]]
theorem Zlt : ∀ k, (Zfr (Xj k)) := fun k => by
 induction k with
 | zero => exact @fun a0 r O n h => (nomatch (show (none : Option _) = some _ from h))
 | succ k ih => exact @fun a0 r O n h => Zo2 (ih)  h
theorem Zpl {a0 : Za} {r : Za} {O : Objs} {n : Nat} (h : Zbv a0 = some r) : GTo Try.prog 19 [.agg (Zd a0)] O n (.agg (Zd r)) O n := by
 obtain ⟨k, hk⟩ := Zaj h
 exact (Zlt k)  hk
theorem Zpk {a0 : Int} {a1 : Int} {r : Int} {O : Objs} {n : Nat} (h : Vq a0 a1 = some r) : GTo Try.prog 42 [(vI a0), (vI a1)] O n ((vI r)) O n := by
 unfold Vq at h
 refine zFn Try.call42 Try.func42 fun hU hN0 hN => ?_
 show W _ _ _ _ ⟨31, [], [(0, (vI a0)), (1, (vI a1))]⟩ (Zr O n []) _
 refine zQ [0, 1] ?_
 refine Zg ?_
 refine Zg ?_
 obtain ⟨y2, hy2, h⟩ := bC h
 refine zRo [none, none, none, none] ?_
 refine zG ?_
 refine zTs (Zcz hy2) ?_
 refine zG ?_
 refine zD [0, 1, 16] [] ?_
 refine Zm (t := (cond (cond (decide (y2 < 1)) true (decide (a1 < 0))) true (decide (1099511627776 < a1)))) rfl (fun c14 => ?_) (fun c14 => ?_)
 ·replace h := Zo c14 h
  refine zQ [4] ?_
  exact Z4 [(vI 0)]
 replace h := Zn c14 h
 refine J6 [0, 1] [] ?_
 refine Zg ?_
 obtain ⟨y5, hy5, h⟩ := bC h
 obtain ⟨pu6, h⟩ := bG h
 refine Z5 Zv [] ?_
 simp only [push_cast, seval, ↓reduceIte, Zh, pu6, hN0, hN]
 refine (Zcz hy5).then ?_
 simp only [push_cast, seval, ↓reduceIte, Zh, pu6, hN0, hN]
 refine zDs [1, 5] [] ?_
 obtain ⟨pu8, h⟩ := bG h
 refine Zc2 [1, 5, 23] (Z5 Zv [] ?_)
 simp only [push_cast, seval, ↓reduceIte, Zh, pu8, hN0, hN]
 refine Zm (t := (decide (0 < (Int.tmod a1 (IntKind.i64.wrap (Int.tdiv 64 y5)))))) rfl (fun c13 => ?_) (fun c13 => ?_)
 ·replace h := Zo c13 h
  obtain ⟨pu10, h⟩ := bG h
  refine Zc2 [4] (Z5 Zv [] ?_)
  simp only [push_cast, seval, ↓reduceIte, Zh, pu10, hN0, hN]
  exact Z4 [(vI (IntKind.i64.wrap ((IntKind.i64.wrap (Int.tdiv a1 (IntKind.i64.wrap (Int.tdiv 64 y5)))) + 1)))]
 replace h := Zn c13 h
 refine J6 [1, 5] [] ?_
 obtain ⟨pu12, h⟩ := bG h
 refine Zc2 [4] (Z5 Zv [] ?_)
 simp only [push_cast, seval, ↓reduceIte, Zh, pu12, hN0, hN]
 exact Z4 [(vI (IntKind.i64.wrap (Int.tdiv a1 (IntKind.i64.wrap (Int.tdiv 64 y5)))))]
theorem Zgm {a0 : Za} {r : (Int × Int)} {O : Objs} {n : Nat} (h : Jp a0 = some r) : GTo Try.prog 43 [.agg (Zd a0)] O n (.tup [(vI r.1), (vI r.2)]) O n := by
 unfold Jp at h
 refine zFn Try.call43 Try.func43 fun hU hN0 hN => ?_
 show W _ _ _ _ ⟨48, [], [(0, .agg (Zd a0))]⟩ (Zr O n []) _
 refine zQ [1] ?_
 refine zQ [1, 4, 5] ?_
 refine Zg ?_
 refine zQd [1, 4, 5, 6] [1, 4, 5, 6] [true] ?_
 obtain ⟨z18, hz18, h⟩ := bC h
 refine Y0 (E' := ⟨48, [], [(4, (vI z18.1)), (5, (vI z18.2))]⟩) (O' := (Zr O n [none])) (n0 := (n + 1)) ?_ ?_
 ·refine Xm hz18 (fun s0_ => ⟨48, [], [(1, .ref n 0), (4, (vI s0_.1)), (5, (vI s0_.2.1)), (6, (vI s0_.2.2))]⟩) (fun s0_ => (Zr O n [some ⟨false, 29, 3, 1, (Zd a0)⟩])) (fun z18 => JX 0 n (⟨48, [], [(4, (vI z18.1)), (5, (vI z18.2))]⟩ : Env) (Zr O n [none]) (n + 1)) ?_
  intro s0_ x0_ hs0_
  unfold Kv at hs0_
  try dsimp only
  refine Zg ?_
  refine zQ [1, 4, 5, 6, 11] ?_
  refine Zm (t := (decide (s0_.2.2 < (a0.Kids.length : Int)))) rfl (fun c17 => ?_) (fun c17 => ?_)
  ·replace hs0_ := Zo c17 hs0_
   refine J6 [1, 4, 5, 6] [true] ?_
   obtain ⟨z1, hz1, hs0_⟩ := bC hs0_
   refine Xo (E' := ⟨48, [], [(1, .ref n 0), (4, (vI z1.1)), (5, (vI z1.2)), (6, (vI s0_.2.2))]⟩) (O' := (Zr O n [some ⟨false, 29, 3, 1, (Zd a0)⟩])) (n0 := (n + 1)) ?_ ?_
   ·refine Yj ?_
    obtain ⟨z2, hz2, hz1⟩ := bC hz1
    refine Xo (E' := ⟨48, [], [(1, .ref n 0), (4, (vI z2)), (5, (vI s0_.2.1)), (6, (vI s0_.2.2))]⟩) (O' := (Zr O n [some ⟨false, 29, 3, 1, (Zd a0)⟩])) (n0 := (n + 1)) ?_ ?_
    ·obtain ⟨x5, hx5, ax5, bx5, cx5, hz2⟩ := bE (f := Zc) Vo (fun _ => rfl) (by decide) hz2
     have g6 := Zev (f := Zc) (off := 1) (sz := 3) Zlp (fun _ => rfl) (by decide) (by decide) hx5
     refine Zc2 [1, 4, 5, 6, 22] (Z5 Zv [] ?_)
     refine zF4 ax5 bx5 cx5 g6 ?_
     refine Zm (t := (decide (s0_.1 < (x5.Words.length : Int)))) rfl (fun c9 => ?_) (fun c9 => ?_)
     ·replace hz2 := Zo c9 hz2
      obtain ⟨x7, hx7, ax7, bx7, cx7, hz2⟩ := bE (f := Zc) Vo (fun _ => rfl) (by decide) hz2
      have g8 := Zev (f := Zc) (off := 1) (sz := 3) Zlp (fun _ => rfl) (by decide) (by decide) hx7
      refine Z3p [] ax7 bx7 cx7 g8 ?_
      exact Z58 hz2 ax7 bx7 cx7 g8
     replace hz2 := Zn c9 hz2
     refine zK ?_
     exact zEn hz2
    obtain ⟨x12, hx12, ax12, bx12, cx12, hz1⟩ := bE (f := Zc) Vo (fun _ => rfl) (by decide) hz1
    have g13 := Zev (f := Zc) (off := 2) (sz := 3) Zr2 (fun _ => rfl) (by decide) (by decide) hx12
    refine Zc2 [1, 4, 5, 6, 38] (Z5 Zv [] ?_)
    refine zF4 ax12 bx12 cx12 g13 ?_
    refine Zm (t := (decide (s0_.2.1 < (x12.Kids.length : Int)))) rfl (fun c16 => ?_) (fun c16 => ?_)
    ·replace hz1 := Zo c16 hz1
     obtain ⟨x14, hx14, ax14, bx14, cx14, hz1⟩ := bE (f := Zc) Vo (fun _ => rfl) (by decide) hz1
     have g15 := Zev (f := Zc) (off := 2) (sz := 3) Zr2 (fun _ => rfl) (by decide) (by decide) hx14
     refine Z3p [] ax14 bx14 cx14 g15 ?_
     exact Z58 hz1 ax14 bx14 cx14 g15
    replace hz1 := Zn c16 hz1
    refine zK ?_
    exact zEn hz1
   refine zR ?_
   exact zEn hs0_
  replace hs0_ := Zn c17 hs0_
  exact zEx hs0_
 try simp only [Xc, Ym, ↓reduceIte, Nat.reduceEqDiff]
 refine zD [4, 5] [false] ?_
 refine zQ [2, 3] ?_
 exact Z4 [(vI z18.1), (vI z18.2)]
def Zft (Y2 : (Za → Option Int)) : Prop := ∀ {a0 : Za} {r : Int} {O : Objs} {n : Nat}, Y2 a0 = some r → GTo Try.prog 20 [.agg (Zd a0)] O n ((vI r)) O n
theorem Zo4 {Y2 : (Za → Option Int)} (Zfu : Zft Y2) {a0 : Za} {r : Int} {O : Objs} {n : Nat} (h : Gb Y2 a0 = some r) : GTo Try.prog 20 [.agg (Zd a0)] O n ((vI r)) O n := by
 unfold Gb at h
 refine zFn Try.call20 Try.func20 fun hU hN0 hN => ?_
 show W _ _ _ _ ⟨101, [], [(0, .agg (Zd a0))]⟩ (Zr O n []) _
 refine zQ [1] ?_
 refine zQ [1, 3] ?_
 obtain ⟨z1, hz1, h⟩ := bC h
 refine Ycl (J := (Gn (fun z1 => JN n (⟨101, [], [(1, .ref n 0), (3, (vI z1))]⟩ : Env) (Zr O n [some ⟨false, 29, 3, 1, (Zd a0)⟩]) (n + 1)) (fun z1 => JR n (⟨101, [], [(2, (vI z1))]⟩ : Env) (Zr O n [none]) (n + 1)))) (z := z1) ?_ fun hw => ?_
 ·refine zQ [1, 3, 10] ?_
  refine Yj ?_
  refine zQ [1, 3, 10, 11] ?_
  refine Zm (t := (a0.Kind == 1)) rfl (fun c27 => ?_) (fun c27 => ?_)
  ·replace hz1 := Zo c27 hz1
   refine zR ?_
   exact zEn hz1
  replace hz1 := Zn c27 hz1
  refine zQ [1, 3, 10, 20] ?_
  refine Zm (t := (a0.Kind == 8)) rfl (fun c26 => ?_) (fun c26 => ?_)
  ·replace hz1 := Zo c26 hz1
   refine zR ?_
   exact zEn hz1
  replace hz1 := Zn c26 hz1
  obtain ⟨z2, hz2, hz1⟩ := bC hz1
  refine Xo (E' := ⟨101, [], [(1, .ref n 0), (3, (vI 0)), (10, (vI a0.Kind)), (25, (vB z2))]⟩) (O' := (Zr O n [some ⟨false, 29, 3, 1, (Zd a0)⟩])) (n0 := (n + 1)) ?_ ?_
  ·refine zQ [1, 3, 10, 25] ?_
   refine Zm (t := (a0.Kind == 2)) rfl (fun c7 => ?_) (fun c7 => ?_)
   ·replace hz2 := Zo c7 hz2
    refine zK ?_
    exact zEn hz2
   replace hz2 := Zn c7 hz2
   refine zQ [1, 3, 10, 25] ?_
   refine Zm (t := (a0.Kind == 3)) rfl (fun c6 => ?_) (fun c6 => ?_)
   ·replace hz2 := Zo c6 hz2
    refine zK ?_
    exact zEn hz2
   replace hz2 := Zn c6 hz2
   refine zQ [1, 3, 10, 25] ?_
   refine Zm (t := (a0.Kind == 4)) rfl (fun c5 => ?_) (fun c5 => ?_)
   ·replace hz2 := Zo c5 hz2
    refine zK ?_
    exact zEn hz2
   replace hz2 := Zn c5 hz2
   refine zQ [1, 3, 10, 25] ?_
   refine Zm (t := (a0.Kind == 5)) rfl (fun c4 => ?_) (fun c4 => ?_)
   ·replace hz2 := Zo c4 hz2
    refine zK ?_
    exact zEn hz2
   replace hz2 := Zn c4 hz2
   refine zQ [1, 3, 10, 25] ?_
   refine Zm (t := (a0.Kind == 6)) rfl (fun c3 => ?_) (fun c3 => ?_)
   ·replace hz2 := Zo c3 hz2
    refine zK ?_
    exact zEn hz2
   replace hz2 := Zn c3 hz2
   refine zR ?_
   exact zEn hz2
  refine Zm (t := z2) rfl (fun c25 => ?_) (fun c25 => ?_)
  ·replace hz1 := Zo c25 hz1
   refine Zg ?_
   obtain ⟨y9, hy9, hz1⟩ := bC hz1
   refine zCd (Zpk hy9) [2] [false] ?_
   refine zW ?_
   exact zEn hz1
  replace hz1 := Zn c25 hz1
  refine zQ [1, 3, 39] ?_
  refine Zm (t := (a0.Kind == 9)) rfl (fun c24 => ?_) (fun c24 => ?_)
  ·replace hz1 := Zo c24 hz1
   refine Zg ?_
   obtain ⟨y11, hy11, hz1⟩ := bC hz1
   refine zCd (Zgm hy11) [1, 4, 5] [true] ?_
   refine zQ [1, 3] ?_
   refine Zg ?_
   refine zQd [1, 3, 6] [1, 3, 6] [true] ?_
   obtain ⟨z23, hz23, hz1⟩ := bC hz1
   refine Y0 (E' := ⟨101, [], [(3, (vI z23))]⟩) (O' := (Zr O n [none])) (n0 := (n + 1)) ?_ ?_
   ·refine Xm hz23 (fun s0_ => ⟨101, [], [(1, .ref n 0), (3, (vI s0_.1)), (6, (vI s0_.2))]⟩) (fun s0_ => (Zr O n [some ⟨false, 29, 3, 1, (Zd a0)⟩])) (fun z23 => JX 1 n (⟨101, [], [(3, (vI z23))]⟩ : Env) (Zr O n [none]) (n + 1)) ?_
    intro s0_ x0_ hs0_
    unfold Vh at hs0_
    try dsimp only
    refine Zg ?_
    refine zQ [1, 3, 6, 58] ?_
    refine Zm (t := (decide (s0_.2 < (a0.Kids.length : Int)))) rfl (fun c22 => ?_) (fun c22 => ?_)
    ·replace hs0_ := Zo c22 hs0_
     refine J6 [1, 3, 6] [true] ?_
     refine Zg ?_
     refine Yj ?_
     refine zQd [1, 3, 6, 7] [1, 3, 6, 7] [true] ?_
     obtain ⟨z21, hz21, hs0_⟩ := bC hs0_
     refine Y0 (E' := ⟨101, [], [(1, .ref n 0), (3, (vI z21)), (6, (vI s0_.2))]⟩) (O' := (Zr O n [some ⟨false, 29, 3, 1, (Zd a0)⟩])) (n0 := (n + 1)) ?_ ?_
     ·refine Xm hz21 (fun s1_ => ⟨101, [], [(1, .ref n 0), (3, (vI s1_.1)), (6, (vI s0_.2)), (7, (vI s1_.2))]⟩) (fun s1_ => (Zr O n [some ⟨false, 29, 3, 1, (Zd a0)⟩])) (fun z21 => JX 3 n (⟨101, [], [(1, .ref n 0), (3, (vI z21)), (6, (vI s0_.2))]⟩ : Env) (Zr O n [some ⟨false, 29, 3, 1, (Zd a0)⟩]) (n + 1)) ?_
      intro s1_ x1_ hs1_
      unfold Vi at hs1_
      try dsimp only
      refine Zg ?_
      obtain ⟨x14, hx14, ax14, bx14, cx14, hs1_⟩ := bE (f := Zc) Vo (fun _ => rfl) (by decide) hs1_
      have g15 := Zev (f := Zc) (off := 2) (sz := 3) Zr2 (fun _ => rfl) (by decide) (by decide) hx14
      refine Zc2 [1, 3, 6, 7, 69] (Z5 Zv [] ?_)
      refine zF4 ax14 bx14 cx14 g15 ?_
      refine Zm (t := (decide (s1_.2 < (x14.Kids.length : Int)))) rfl (fun c20 => ?_) (fun c20 => ?_)
      ·replace hs1_ := Zo c20 hs1_
       refine J6 [1, 3, 6, 7] [true] ?_
       refine Zg ?_
       refine Yj ?_
       obtain ⟨x16, hx16, ax16, bx16, cx16, hs1_⟩ := bE (f := Zc) Vo (fun _ => rfl) (by decide) hs1_
       have g17 := Zev (f := Zc) (off := 2) (sz := 3) Zr2 (fun _ => rfl) (by decide) (by decide) hx16
       obtain ⟨x18, hx18, ax18, bx18, cx18, hs1_⟩ := bE (f := Zc) Vo (fun _ => rfl) (by decide) hs1_
       obtain ⟨y19, hy19, hs1_⟩ := bC hs1_
       refine Yd1 [] ax16 bx16 cx16 g17 ax18 bx18 cx18 ?_
       refine (Zfu hy19).then ?_
       refine zF7 ax16 bx16 cx16 g17 ax18 bx18 cx18 ?_
       refine zD [1, 3, 6, 7] [true] ?_
       refine zR ?_
       exact zEn hs1_
      replace hs1_ := Zn c20 hs1_
      exact zEx hs1_
     try simp only [Xc, Ym, ↓reduceIte, Nat.reduceEqDiff]
     refine zD [1, 3, 6] [true] ?_
     refine zR ?_
     exact zEn hs0_
    replace hs0_ := Zn c22 hs0_
    exact zEx hs0_
   try simp only [Xc, Ym, ↓reduceIte, Nat.reduceEqDiff]
   refine zD [3] [false] ?_
   refine zQ [2] ?_
   refine zW ?_
   exact zEn hz1
  replace hz1 := Zn c24 hz1
  refine zK ?_
  exact zEn hz1
 rcases z1 with z1 | z1
 ·dsimp only [Gn] at hw h
  refine Xo hw ?_
  refine Zg ?_
  refine zQd [1, 3, 8] [1, 3, 8] [true] ?_
  obtain ⟨z31, hz31, h⟩ := bC h
  refine Y0 (E' := ⟨101, [], [(3, (vI z31))]⟩) (O' := (Zr O n [none])) (n0 := (n + 1)) ?_ ?_
  ·refine Xm hz31 (fun s2_ => ⟨101, [], [(1, .ref n 0), (3, (vI s2_.1)), (8, (vI s2_.2))]⟩) (fun s2_ => (Zr O n [some ⟨false, 29, 3, 1, (Zd a0)⟩])) (fun z31 => JX 5 n (⟨101, [], [(3, (vI z31))]⟩ : Env) (Zr O n [none]) (n + 1)) ?_
   intro s2_ x2_ hs2_
   unfold Jr at hs2_
   try dsimp only
   refine Zg ?_
   refine zQ [1, 3, 8, 89] ?_
   refine Zm (t := (decide (s2_.2 < (a0.Kids.length : Int)))) rfl (fun c30 => ?_) (fun c30 => ?_)
   ·replace hs2_ := Zo c30 hs2_
    refine J6 [1, 3, 8] [true] ?_
    refine Zg ?_
    refine Yj ?_
    obtain ⟨x28, hx28, ax28, bx28, cx28, hs2_⟩ := bE (f := Zc) Vo (fun _ => rfl) (by decide) hs2_
    obtain ⟨y29, hy29, hs2_⟩ := bC hs2_
    refine Ziv [] ax28 bx28 cx28 ?_
    refine (Zfu hy29).then ?_
    refine zF3 ax28 bx28 cx28 ?_
    refine zD [1, 3, 8] [true] ?_
    refine zR ?_
    exact zEn hs2_
   replace hs2_ := Zn c30 hs2_
   exact zEx hs2_
  try simp only [Xc, Ym, ↓reduceIte, Nat.reduceEqDiff]
  refine zD [3] [false] ?_
  refine zQ [2] ?_
  exact Z4 [(vI z31)]
 dsimp only [Gn] at hw h
 refine Ybv hw ?_
 try simp only [Xc, Ym]
 exact Z3o [(vI z1)]
theorem Zlv : ∀ k, (Zft (Xa k)) := fun k => by
 induction k with
 | zero => exact @fun a0 r O n h => (nomatch (show (none : Option _) = some _ from h))
 | succ k ih => exact @fun a0 r O n h => Zo4 (ih)  h
theorem Jq {a0 : Za} {r : Int} {O : Objs} {n : Nat} (h : Vs a0 = some r) : GTo Try.prog 20 [.agg (Zd a0)] O n ((vI r)) O n := by
 obtain ⟨k, hk⟩ := Zaj h
 exact (Zlv k)  hk
end Go.Proofs.Ytpfbdlcnfekdkaa
