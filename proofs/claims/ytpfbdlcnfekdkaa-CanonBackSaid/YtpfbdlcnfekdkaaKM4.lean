/- Part KM4 of this seat's mirrors: functions of the seat's program, and the plain functions that they are; each theorem bears its own conditions. -/
import Derived.Test.YtpfbdlcnfekdkaaKE
import Derived.Test.YtpfbdlcnfekdkaaKM3
namespace Go.Proofs.Ytpfbdlcnfekdkaa
open Go.RowKit
set_option linter.unusedVariables false
set_option linter.unusedSimpArgs false
set_option maxRecDepth 100000
set_option maxHeartbeats 4000000
attribute [local push_cast] Try.results10 Try.results115 Try.results116 Try.results117 Try.results120 Try.results121 Try.results134 Try.results135 Try.results136 Try.results137 Try.results21 Try.results22 Try.results27 Try.results28 Try.results34 Try.results49 Try.results50 Try.results51 Try.results52 Try.results54 Try.results59 Try.results81 Try.results82 Try.results84 Try.results85 Try.results86 Try.results87 vI vB nV sL oR Yy Zd Q9 Xh Zk Zqe Zqd Zre Zrd Xc Ym Zmd Zha Zg9 onW Xx Zds Zcu Zqk Zpc Zkf Zkk Zke Zkj Znm Zni Zki Znl Znk Znj Zkg Zng Zh1 evS wok Q5 Op.operands Call.operands gop onK onP atK List.all_cons List.all_nil Bool.and_true Bool.true_and Bool.and_self Value.oneCell' List.take_zero List.take_succ_cons List.take_nil List.drop_zero List.drop_succ_cons List.drop_nil List.append_nil Nat.add_zero Nat.zero_add U1 Yd ev Jn Zpb Zp4 Zp3 Zp9 Zp7 Zp8 Zp5 Zp6 Zp2 Zti Zub Zx0 Zi0 Zc6 Zil Zdl Zjn Zgb Ze9 Zfe Zg4 Zg0 Zfc Zg3 Zg2 Zg1 Zfb Zgy Zfa Zfd Zd7 Zgz Zls Zhb Zay Zin Zaz Zks Ziz Zve bLo bHi bMx Zc7 Zkr Zzd Ziy Zli Ze6 Gf Zt3 Zzh Zij Zfj Zzk Zc5 Z05 Zmm Zmq Zml Zmp Zqs Zqo Zqm Zjq Zmn Zqr Zqq Zqp Zmo Zqn Zku Zqg Znb Zhu Zht pop TK.isAgg Zq6 Zra Zq5 Zq9 Zm4 Zv2 Zvy Zq8 Zv1 Zv0 Zvz Zq7 Zvx G.under G.unders List.getD_cons_zero List.getD_cons_succ List.set_cons_zero List.set_cons_succ List.map_cons List.map_nil List.toList_toArray Array.toList_append Option.toArray_none Option.toArray_some Array.toList_map Option.map_some Option.map_none Option.bind_some Option.bind_none List.getElem?_cons_zero List.getElem?_cons_succ List.getElem?_nil List.nil_append List.cons_append List.replicate_succ List.replicate_zero List.length_cons List.length_nil and_true true_and and_false false_and Bool.true_eq_false Bool.false_eq_true forall_const false_implies implies_true IntKind.bits if_true if_false ite_true ite_false eq_self true_implies false_or or_false or_true true_or not_true_eq_false not_false_eq_true decide_true decide_false decide_eq_true_eq decide_eq_false_iff_not beq_iff_eq bne_iff_ne ne_eq Bool.not_eq_true Bool.not_eq_false beq_eq_false_iff_ne bne_eq_false_iff_eq beq_self_eq_true bne_self_eq_false Option.some.injEq exists_eq_left' exists_eq_left ge_iff_le gt_iff_lt decide_not Bool.not_true Bool.not_false imp_self Zvg cond_true cond_false Z7u Z7t Bool.not_not Bool.and_false Bool.false_and Bool.or_true Bool.true_or Bool.or_false Bool.false_or Zbq Zgn Zdi Zby Vy Kj Option.join_some Nat.add_assoc Int.toNat_natCast eI eB eS eL K3 Zgq Zfl Zqj Zqh Zqi Z1t Z4j Zgs Zfx Zrn Zrl Zrm Zya Zmb Zu6 Znf Zu5 Zcm Zth List.length_append G.agg.injEq G.row.injEq G.ref.injEq G.val.injEq G.sl.injEq G.tup.injEq Value.int.injEq Value.bool.injEq Value.string.injEq List.cons.injEq exists_and_left exists_const List.flatten_cons List.flatten_nil Int.le_refl Nat.le_refl Zck Qz Ui Bool.not_eq_true' Bool.not_eq_false' Zs6 Zh6 Zxn Zxs Zxm Zxr Z3j Z3e List.size_toArray Zrq Zrr G.ren G.rens Zui Zgi Zrt Zpz Zp0 Znh Zxu Zgg G.fn.injEq Zkl Zod Zs4 Z3f Zoc Zxq Z3i Z3h Z3g Zxp Zvl Z1h Option.join_none Yz Gc undef Zlj Arr.len Arr.put_eq Zgr Zj5 Zhp Zfw Zrk Zri Zrj onB Z1s Zt1 Yv Zjj Zl1 Zl2 Zl3 Zl4 Zl5 Zl6 Zjw Zj9 Zj7 Zhs Zfy Zj8 Zna Zm9 Zm8 Zm7 Z4i Z65 Zx9 Zv5 Kr Zx2 Zqu Zka Zhr Zzy Zry Zix Zlh Zen Zkb Zl7 Zl8 Zl9 Zma Zja Zjb Zjc Zjd Zje Zjf Zjg Zff prT Zdn Z9k Zw9 Z2r Zxa Z9l Zxb Z9m Zxc Z9n Zxd Z9o Zxe Z9p Zxf Z9q Zxg Z2c Zr4 Z2d Zr5 Z2e Zr6 Z2f Zr7 Z2g Zr8 Z2h Zr9 Z2i Zsa Z2j Zsb Z2k Zsc Z2l Zsd Z2m Zse Z2n Zsf Z2o Zsg Z2p Zsh Zlp Zep Zr2 Zlf Z2q Zsi Vo Zsj Z2s Zsk Z2t Zov Z2u Zsl Z2v Zsm Z2w Zsn Z2x Zso Z2y Zsp U2 Zsq Z2z Zsr Z20 Zss Z21 Zst Z22 Zsu Z23 Zsv Z24 Zsw Z25 Zsx Z26 Zsy Z27 Zsz Z28 Zs0 Z29 Zs1 Zwl Znn Zwm Zno Zwn Znp Zwo Znq Zwp Znr Zwq Zns Zwr Znt Zws Znu Zwt Znv Zwu Znw Zwv Znx Zww Zny Zwx Znz Zwy Zn0 Zwz Zn1 Zw0 Zn2 Zw1 Zn3 Zw2 Zn4 Zw3 Zn5 Zw4 Zn6 Zw5 Zn7 Zw6 Zn8 Zw7 Zn9 Zw8 Zoa Zc Yu Zh8 Zh5 Zhe Zhn Zib Zf7 Zf2 Zf0 Zh3 Zat Zas Zai Zao Zau Gm Gl Gk Zar Zh7 Zh4 Zhd Zhm Zia Zf6 Zf1 Zfz Zh2 Zfh Zba Zdg Zdf Zc8 Zdd Zdh Zcj Zcf Zce Zde Zl V7 V6 V1 V4 V8 Vp Vn Vm V5 Zb0 Zfg Zb1 Z3 Kz Ky Ku Kw K0 Ki Kh Kg Kx Zw J4 J3 Jv Jz J5 Jk Ji Jh J0
def Zei (Qe : (Za → Option Za)) : Prop := ∀ {a0 : Za} {r : Za} {O : Objs} {n : Nat}, Qe a0 = some r → GTo Try.prog 22 [.agg (Zd a0)] O n (.agg (Zd r)) O n
theorem Zlz {Qe : (Za → Option Za)} (Zk0 : Zei Qe) {a0 : Za} {r : Za} {O : Objs} {n : Nat} (h : Vz Qe a0 = some r) : GTo Try.prog 22 [.agg (Zd a0)] O n (.agg (Zd r)) O n := by
 unfold Vz at h
 refine zFn Try.call22 Try.func22 fun hU hN0 hN => ?_
 show W _ _ _ _ ⟨63, [], [(0, .agg (Zd a0))]⟩ (Zr O n []) _
 refine zQ [1, 2] ?_
 refine Zg ?_
 refine zRd [1, 2, 3] [true, true, true] ?_
 refine Zg ?_
 obtain ⟨y2, hy2, h⟩ := bC h
 refine zCd (Zgm hy2) [1, 2, 3, 4, 5] [true, true, true] ?_
 refine Zg ?_
 refine zQd [1, 2, 3, 4, 5, 6] [1, 2, 3, 4, 5, 6] [true, true, true] ?_
 refine Zf9 (E' := (⟨63, [], [(1, .ref n 0), (2, .ref (n + 1) 0), (3, .ref (n + 2) 0), (4, (vI y2.1)), (5, (vI y2.2)), (6, (vI 0))]⟩ : Env)) (O' := (Zr O n [some ⟨false, 29, 3, 1, (Zd a0)⟩, some ⟨false, 29, 3, 1, [(vI 0), nV, nV]⟩, some ⟨false, 29, 3, 1, [(vI a0.Kind), (sL (eI .u64) a0.Words), .row (n + 3) ([] : List Za).length]⟩, some (oR 29 3 Zc ([] : List Za)), none])) (n' := (n + 5)) ?_ ?_
 ·refine Fit2.trans (E' := (⟨63, [], [(1, .ref n 0), (2, .ref (n + 1) 0), (3, .ref (n + 2) 0), (4, (vI y2.1)), (5, (vI y2.2)), (6, (vI 0))]⟩ : Env)) (O' := (Zr O n [some ⟨false, 29, 3, 1, (Zd a0)⟩, some ⟨false, 29, 3, 1, [(vI 0), nV, nV]⟩, some ⟨false, 29, 3, 1, [(vI a0.Kind), (sL (eI .u64) a0.Words), nV]⟩])) (n' := (n + 3)) (Fit2.of (Yq hU rfl rfl ?_) (by omega)) ?_
  ·exact zSe
  refine Fit2.trans (Zkn (p := (n + 2)) (k := 2) (q := ⟨false, 29, 3, 1, [(vI a0.Kind), (sL (eI .u64) a0.Words), nV]⟩) 29 3 (by simp only [Zbq, Zgn, List.getElem?_cons_zero, List.getElem?_cons_succ, Option.join_some, List.length_nil, Yz]) rfl (by omega)) ?_
  simp only [Vy, Kj, Zdi, Zby, List.set_cons_zero, List.set_cons_succ, List.cons_append, List.nil_append, List.length_cons, List.length_nil, Nat.zero_add, Nat.reduceAdd, Nat.reduceLT, Nat.add_assoc]
  refine Zit (k := 4) (k' := 5) hU [0, 1, 2, 3] [0, 1, 2, 3, 0] rfl rfl rfl rfl ⟨rfl, rfl⟩ ?_
  exact zSe
 obtain ⟨z20, hz20, h⟩ := bC h
 refine Y0 (E' := ⟨63, [], [(2, .ref (n + 1) 0), (3, .ref (n + 2) 0)]⟩) (O' := (Zr O n [none, some ⟨false, 29, 3, 1, [(vI 0), nV, nV]⟩, some ⟨false, 29, 3, 1, [(vI a0.Kind), (sL (eI .u64) a0.Words), .row (n + 3) z20.length]⟩, some (oR 29 3 Zc z20), none])) (n0 := (n + 5)) ?_ ?_
 ·refine Xm hz20 (fun s0_ => ⟨63, [], [(1, .ref n 0), (2, .ref (n + 1) 0), (3, .ref (n + 2) 0), (4, (vI y2.1)), (5, (vI y2.2)), (6, (vI s0_.1))]⟩) (fun s0_ => (Zr O n [some ⟨false, 29, 3, 1, (Zd a0)⟩, some ⟨false, 29, 3, 1, [(vI 0), nV, nV]⟩, some ⟨false, 29, 3, 1, [(vI a0.Kind), (sL (eI .u64) a0.Words), .row (n + 3) s0_.2.length]⟩, some (oR 29 3 Zc s0_.2), none])) (fun z20 => JX 0 n (⟨63, [], [(2, .ref (n + 1) 0), (3, .ref (n + 2) 0)]⟩ : Env) (Zr O n [none, some ⟨false, 29, 3, 1, [(vI 0), nV, nV]⟩, some ⟨false, 29, 3, 1, [(vI a0.Kind), (sL (eI .u64) a0.Words), .row (n + 3) z20.length]⟩, some (oR 29 3 Zc z20), none]) (n + 5)) ?_
  intro s0_ x0_ hs0_
  unfold J8 at hs0_
  try dsimp only
  refine Zg ?_
  refine zQ [1, 2, 3, 4, 5, 6, 22] ?_
  refine Zm (t := (decide (s0_.1 < (a0.Kids.length : Int)))) rfl (fun c19 => ?_) (fun c19 => ?_)
  ·replace hs0_ := Zo c19 hs0_
   refine J6 [1, 2, 3, 4, 5, 6] [true, true, true, true, false] ?_
   refine Zg ?_
   refine Yj ?_
   refine Zg ?_
   obtain ⟨x5, hx5, ax5, bx5, cx5, hs0_⟩ := bE (f := Zc) Vo (fun _ => rfl) (by decide) hs0_
   obtain ⟨y6, hy6, hs0_⟩ := bC hs0_
   refine Ziv [] ax5 bx5 cx5 ?_
   refine (Zk0 hy6).then ?_
   refine zF3 ax5 bx5 cx5 ?_
   refine zD [1, 2, 3, 4, 5, 6, 7] [true, true, true, true, false, true] ?_
   obtain ⟨z7, hz7, hs0_⟩ := bC hs0_
   refine Xo (E' := ⟨63, [], [(1, .ref n 0), (2, .ref (n + 1) 0), (3, .ref (n + 2) 0), (4, (vI y2.1)), (5, (vI y2.2)), (6, (vI s0_.1)), (7, .ref (n + 5) 0)]⟩) (O' := (Zr O n [some ⟨false, 29, 3, 1, (Zd a0)⟩, some ⟨false, 29, 3, 1, [(vI 0), nV, nV]⟩, some ⟨false, 29, 3, 1, [(vI a0.Kind), (sL (eI .u64) a0.Words), .row (n + 3) s0_.2.length]⟩, some (oR 29 3 Zc s0_.2), none, some ⟨false, 29, 3, 1, [(vI y6.Kind), (sL (eI .u64) z7.1), (sL Zc z7.2)]⟩, none, none])) (n0 := (n + 8)) ?_ ?_
   ·refine zQ [1, 2, 3, 4, 5, 6, 7, 33] ?_
    refine Zm (t := (a0.Kind == 9)) rfl (fun c17 => ?_) (fun c17 => ?_)
    ·replace hz7 := Zo c17 hz7
     refine Zg ?_
     obtain ⟨l11, pl11, ql11, el11, hz7⟩ := bA (k := y6.Words.length) rfl hz7
     simp only [List.length_cons, List.length_nil, Nat.zero_add, Nat.reduceAdd] at pl11 ql11
     obtain ⟨pu12, hz7⟩ := bG hz7
     have fu12 : (List.replicate (Int.toNat (IntKind.i64.wrap (y2.1 - (y6.Words.length : Int)))) [.val (.int .u64 0)]).flatten = fl (eI .u64) (List.replicate (Int.toNat (IntKind.i64.wrap (y2.1 - (y6.Words.length : Int)))) (0 : Int)) := (Zkq (f := (eI .u64)) _ _).symm
     have mu12 : List.length (List.replicate (Int.toNat (IntKind.i64.wrap (y2.1 - (y6.Words.length : Int)))) (0 : Int)) = (Int.toNat (IntKind.i64.wrap (y2.1 - (y6.Words.length : Int)))) := List.length_replicate
     obtain ⟨l13, pl13, ql13, el13, hz7⟩ := bA (k := (Int.toNat (IntKind.i64.wrap (y2.1 - (y6.Words.length : Int))))) List.length_replicate hz7
     try simp only [el11, List.length_append, List.length_nil, Nat.zero_add, Nat.add_assoc] at pl13 ql13
     refine Zih Zv (by kernel_rfl) [.pass, .low, .low, .pass, .plain, .low, .low, .low, .low, .bar, .plain, .bar] (fun i => i < (n + 6)) [1, 2, 4, 5, 6, 7, 8, 0, 3, 9, 10, 11] [.low, .low, .plain, .low, .low, .low, .low, .pass, .pass, .bar, .plain, .bar] [] (by kernel_rfl) rfl ?_
     simp only [push_cast, seval, ↓reduceIte, Zh, pl11, ql11, el11, pu12, fu12, mu12, pl13, ql13, el13, List.append_assoc, hN0, hN]
     refine zO ?_
     refine Zc1 ⟨63, [], [(1, .ref n 0), (2, .ref (n + 1) 0), (3, .ref (n + 2) 0), (4, (vI y2.1)), (5, (vI y2.2)), (6, (vI s0_.1)), (7, .ref (n + 5) 0)]⟩ (Zr O n [some ⟨false, 29, 3, 1, (Zd a0)⟩, some ⟨false, 29, 3, 1, [(vI 0), nV, nV]⟩, some ⟨false, 29, 3, 1, [(vI a0.Kind), (sL (eI .u64) a0.Words), .row (n + 3) s0_.2.length]⟩, some (oR 29 3 Zc s0_.2), none, some ⟨false, 29, 3, 1, [(vI y6.Kind), .row (n + 6) l13.length, (sL Zc y6.Kids)]⟩, some (oR 63 1 (eI .u64) l13)]) (Yq hU rfl rfl ?_) ?_
     ·simp only [push_cast, seval, ↓reduceIte, Zh, pl11, ql11, el11, pu12, fu12, mu12, pl13, ql13, el13, List.append_assoc, hN0, hN]
     obtain ⟨l14, pl14, ql14, el14, hz7⟩ := bA (k := y6.Kids.length) rfl hz7
     simp only [List.length_cons, List.length_nil, Nat.zero_add, Nat.reduceAdd] at pl14 ql14
     obtain ⟨pu15, hz7⟩ := bG hz7
     have fu15 : ∀ O O' n, wkl O O' n (List.replicate (Int.toNat (IntKind.i64.wrap (y2.2 - (y6.Kids.length : Int)))) [.val (.int .i64 0), .val (.slice none 0 0), .val (.slice none 0 0)]).flatten (fl Zc (List.replicate (Int.toNat (IntKind.i64.wrap (y2.2 - (y6.Kids.length : Int)))) (⟨(0 : Int), ([] : (List Int)), ([] : (List Za))⟩ : Za))) = True := fun O O' n => eq_true (Zxt (by simp only [push_cast, seval, ↓reduceIte, Zh]) _)
     have mu15 : List.length (List.replicate (Int.toNat (IntKind.i64.wrap (y2.2 - (y6.Kids.length : Int)))) (⟨(0 : Int), ([] : (List Int)), ([] : (List Za))⟩ : Za)) = (Int.toNat (IntKind.i64.wrap (y2.2 - (y6.Kids.length : Int)))) := List.length_replicate
     obtain ⟨l16, pl16, ql16, el16, hz7⟩ := bA (k := (Int.toNat (IntKind.i64.wrap (y2.2 - (y6.Kids.length : Int))))) List.length_replicate hz7
     try simp only [el14, List.length_append, List.length_nil, Nat.zero_add, Nat.add_assoc] at pl16 ql16
     refine Zih Zv (by kernel_rfl) [.pass, .low, .low, .pass, .plain, .low, .low, .low, .low, .bar, .plain, .bar] (fun i => i < (n + 7)) [1, 2, 4, 5, 6, 7, 8, 0, 3, 9, 10, 11] [.low, .low, .plain, .low, .low, .low, .low, .pass, .pass, .bar, .plain, .bar] [] (by kernel_rfl) rfl ?_
     simp only [push_cast, seval, ↓reduceIte, Zh, pl14, ql14, el14, pu15, fu15, mu15, pl16, ql16, el16, List.append_assoc, hN0, hN]
     refine zO ?_
     have hz7 := Option.some.inj hz7; subst hz7
     refine And.intro rfl (Fit2.of (Yq hU rfl rfl ?_) (by omega))
     simp only [push_cast, seval, ↓reduceIte, Zh, pl14, ql14, el14, pu15, fu15, mu15, pl16, ql16, el16, List.append_assoc, hN0, hN]
    replace hz7 := Zn c17 hz7
    refine zK ?_
    exact zEn hz7
   obtain ⟨l18, pl18, ql18, el18, hs0_⟩ := bA (k := 1) rfl hs0_
   refine Zs7 [] pl18 ql18 el18 ?_
   refine Zc1 ⟨63, [], [(1, .ref n 0), (2, .ref (n + 1) 0), (3, .ref (n + 2) 0), (4, (vI y2.1)), (5, (vI y2.2)), (6, (vI s0_.1))]⟩ (Zr O n [some ⟨false, 29, 3, 1, (Zd a0)⟩, some ⟨false, 29, 3, 1, [(vI 0), nV, nV]⟩, some ⟨false, 29, 3, 1, [(vI a0.Kind), (sL (eI .u64) a0.Words), .row (n + 3) l18.length]⟩, some (oR 29 3 Zc l18), none, none, none, none, none]) (Yq hU rfl rfl ?_) ?_
   ·exact Z42 pl18 ql18 el18
   refine zR ?_
   exact zEn hs0_
  replace hs0_ := Zn c19 hs0_
  exact zEx hs0_
 try simp only [Xc, Ym, ↓reduceIte, Nat.reduceEqDiff]
 refine zDs [2, 3] [false, true, true, true, false] ?_
 refine zRd [2] [false, true, false, true, false] ?_
 exact Z4 [.agg [(vI a0.Kind), (sL (eI .u64) a0.Words), .row (n + 3) z20.length]]
theorem Zjs : ∀ k, (Zei (Qr k)) := fun k => by
 induction k with
 | zero => exact @fun a0 r O n h => (nomatch (show (none : Option _) = some _ from h))
 | succ k ih => exact @fun a0 r O n h => Zlz (ih)  h
theorem Zmw {a0 : Za} {r : Za} {O : Objs} {n : Nat} (h : Zcv a0 = some r) : GTo Try.prog 22 [.agg (Zd a0)] O n (.agg (Zd r)) O n := by
 obtain ⟨k, hk⟩ := Zaj h
 exact (Zjs k)  hk
def Zej (Qf : (Za → Option Int)) : Prop := ∀ {a0 : Za} {r : Int} {O : Objs} {n : Nat}, Qf a0 = some r → GTo Try.prog 21 [.agg (Zd a0)] O n ((vI r)) O n
theorem Zl0 {Qf : (Za → Option Int)} (Zk1 : Zej Qf) {a0 : Za} {r : Int} {O : Objs} {n : Nat} (h : V0 Qf a0 = some r) : GTo Try.prog 21 [.agg (Zd a0)] O n ((vI r)) O n := by
 unfold V0 at h
 refine zFn Try.call21 Try.func21 fun hU hN0 hN => ?_
 show W _ _ _ _ ⟨42, [], [(0, .agg (Zd a0))]⟩ (Zr O n []) _
 refine zQ [1] ?_
 refine Zg ?_
 refine zQ [1, 7] ?_
 refine Zm (t := (a0.Kind == 0)) rfl (fun c11 => ?_) (fun c11 => ?_)
 ·replace h := Zo c11 h
  refine zQ [2] ?_
  exact Z4 [(vI 0)]
 replace h := Zn c11 h
 refine J6 [1] [true] ?_
 refine zQ [1, 3] ?_
 obtain ⟨z1, hz1, h⟩ := bC h
 refine Xo (E' := ⟨42, [], [(1, .ref n 0), (3, (vI z1))]⟩) (O' := (Zr O n [some ⟨false, 29, 3, 1, (Zd a0)⟩])) (n0 := (n + 1)) ?_ ?_
 ·refine zQ [1, 3, 10] ?_
  refine Zm (t := (a0.Kind == 1)) rfl (fun c2 => ?_) (fun c2 => ?_)
  ·replace hz1 := Zo c2 hz1
   refine zR ?_
   exact zEn hz1
  replace hz1 := Zn c2 hz1
  refine zK ?_
  exact zEn hz1
 refine Zg ?_
 refine zQd [1, 3, 4] [1, 3, 4] [true] ?_
 obtain ⟨z10, hz10, h⟩ := bC h
 refine Y0 (E' := ⟨42, [], [(3, (vI z10))]⟩) (O' := (Zr O n [none])) (n0 := (n + 1)) ?_ ?_
 ·refine Xm hz10 (fun s0_ => ⟨42, [], [(1, .ref n 0), (3, (vI s0_.1)), (4, (vI s0_.2))]⟩) (fun s0_ => (Zr O n [some ⟨false, 29, 3, 1, (Zd a0)⟩])) (fun z10 => JX 0 n (⟨42, [], [(3, (vI z10))]⟩ : Env) (Zr O n [none]) (n + 1)) ?_
  intro s0_ x0_ hs0_
  unfold X4 at hs0_
  try dsimp only
  refine Zg ?_
  refine zQ [1, 3, 4, 20] ?_
  refine Zm (t := (decide (s0_.2 < (a0.Kids.length : Int)))) rfl (fun c9 => ?_) (fun c9 => ?_)
  ·replace hs0_ := Zo c9 hs0_
   refine J6 [1, 3, 4] [true] ?_
   obtain ⟨z3, hz3, hs0_⟩ := bC hs0_
   refine Xo (E' := ⟨42, [], [(1, .ref n 0), (3, (vI z3)), (4, (vI s0_.2))]⟩) (O' := (Zr O n [some ⟨false, 29, 3, 1, (Zd a0)⟩])) (n0 := (n + 1)) ?_ ?_
   ·refine Yj ?_
    refine Zg ?_
    obtain ⟨x6, hx6, ax6, bx6, cx6, hz3⟩ := bE (f := Zc) Vo (fun _ => rfl) (by decide) hz3
    obtain ⟨y7, hy7, hz3⟩ := bC hz3
    refine Ziv [] ax6 bx6 cx6 ?_
    refine (Zk1 hy7).then ?_
    refine zF3 ax6 bx6 cx6 ?_
    refine zD [1, 3, 4] [true] ?_
    refine zQD [1, 3, 4, 38] [none, none, none] ?_
    refine Zm (t := (cond (a0.Kind == 1) true (a0.Kind == 8))) rfl (fun c8 => ?_) (fun c8 => ?_)
    ·replace hz3 := Zo c8 hz3
     refine zR ?_
     exact zEn hz3
    replace hz3 := Zn c8 hz3
    refine zK ?_
    exact zEn hz3
   refine zR ?_
   exact zEn hs0_
  replace hs0_ := Zn c9 hs0_
  exact zEx hs0_
 try simp only [Xc, Ym, ↓reduceIte, Nat.reduceEqDiff]
 refine zD [3] [false] ?_
 refine zQ [2] ?_
 exact Z4 [(vI z10)]
theorem Zjt : ∀ k, (Zej (Xz k)) := fun k => by
 induction k with
 | zero => exact @fun a0 r O n h => (nomatch (show (none : Option _) = some _ from h))
 | succ k ih => exact @fun a0 r O n h => Zl0 (ih)  h
theorem Zmx {a0 : Za} {r : Int} {O : Objs} {n : Nat} (h : Zcx a0 = some r) : GTo Try.prog 21 [.agg (Zd a0)] O n ((vI r)) O n := by
 obtain ⟨k, hk⟩ := Zaj h
 exact (Zjt k)  hk
theorem Zav {a0 r : List Int} {O : Objs} {n : Nat} (h : Xg a0 = some r) : GTo Try.prog 59 [(sL (eI .u64) a0)] O n (.row n r.length) (Zr O n [some (oR 63 1 (eI .u64) r)]) (n + 1) := by
 have h1 := Z3x h
 have h2 := Z3y h
 have h3 := Zy5 h
 rw [List.nil_append] at h3
 subst h3
 simp only [List.length_nil, Nat.zero_add] at h1 h2
 clear h
 refine zFn Try.call59 Try.func59 fun hU hN0 hN => ?_
 show W _ _ _ _ ⟨8, [], [(0, (sL (eI .u64) r))]⟩ (Zr O n []) _
 refine zQ [0] ?_
 refine Ybt 0 r.length (fl (eI .u64) r) rfl (Nat.le_of_ble_eq_true rfl) (Yr Uf _) fun A c hA => ?_
 refine zQ [0, 4] ?_
 cases A with
 | none =>
  obtain rfl : r = [] := List.eq_nil_of_length_eq_zero (hA rfl)
  refine Zm (t := true) rfl (fun _ => ?_) (fun hc => by cases hc)
  refine zQ [2] ?_
  refine zW ?_
  refine Z75 (k := 1) (L3 := [some ⟨true, 63, 1, 0, []⟩]) (E2 := ⟨8, [], [(2, .row n 0), (2, nV)]⟩) (n3 := (n + 1)) (.inr rfl) hU rfl [.row n 0] ?_ ?_
  ·have ha := Zta (ba := n) (E := ⟨8, [], [(2, .val (.slice none 0 0))]⟩) (O := (Zr O n [])) (n := n) 2 63 1 rfl (by omega)
   simp only [Kj] at ha
   exact ha
  simp only [push_cast, seval, ↓reduceIte, Zh, Try.results59, hN0, hN]
 | some A =>
  refine Zm (t := false) rfl (fun hc => by cases hc) (fun _ => ?_)
  refine zK ?_
  refine And.intro rfl (And.intro (Nat.le_of_ble_eq_true rfl) ?_)
  refine Zg ?_
  refine Z5 Zv [] ?_
  simp only [push_cast, seval, ↓reduceIte, Zh, h1, h2, hN0, hN]
  refine zW ?_
  refine Z74 (.inr rfl) hU rfl [.row n r.length] (by omega) ?_
  simp only [push_cast, seval, ↓reduceIte, Zh, Try.results59, hN0, hN]
theorem Ze2 {a0 r : List Int} {O : Objs} {n : Nat} (h : Xg a0 = some r) : GTo Try.prog 59 [(sL (eI .u64) a0)] O n ((sL (eI .u64) r)) O n := by
 refine GTo.freeze (Zav h) fun hU => ?_
 have hN0 : O n = none := hU.fresh _ (Nat.le_refl _)
 have hN : ∀ k, O (n + k) = none := fun k => hU.fresh _ (Nat.le_add_right _ _)
 exact zSe
theorem Zvq {a0 : (List (List Int))} {r : (List (List Int))} {O : Objs} {n : Nat} (h : Zda a0 = some r) : GTo Try.prog 34 [(sL (eL (eI .u64)) a0)] O n ((sL (eL (eI .u64)) r)) O n := by
 unfold Zda at h
 refine zFn Try.call34 Try.func34 fun hU hN0 hN => ?_
 show W _ _ _ _ ⟨23, [], [(0, (sL (eL (eI .u64)) a0))]⟩ (Zr O n []) _
 refine zQ [0] ?_
 refine Zg ?_
 obtain ⟨l2, al2, bl2, cl2, el2, h⟩ := bM2 (c := 24) rfl h
 have nl2 : Int.toNat (a0.length : Int) = List.length l2 := by rw [el2, List.length_replicate]
 have fl2 : ∀ O O' n, wkl O O' n (List.replicate (List.length l2) [G.val (.slice none 0 0)]).flatten (fl (eL (eI .u64)) l2) = True := fun O O' n => by rw [← nl2, el2]; exact eq_true (Z3k _ _)
 clear el2
 refine Z5 Zv [] ?_
 simp only [push_cast, seval, ↓reduceIte, Zh, al2, bl2, cl2, fl2, nl2, hN0, hN]
 refine Zc1 ⟨23, [], [(0, (sL (eL (eI .u64)) a0)), (3, .row n l2.length)]⟩ (Zr O n [some (oR 26 1 (eL (eI .u64)) l2)]) (Yq hU rfl rfl ?_) ?_
 ·simp only [push_cast, seval, ↓reduceIte, Zh, al2, bl2, cl2, fl2, nl2, hN0, hN]
 refine Zg ?_
 refine zQd [3, 9, 10, 11] [3, 9, 10, 11] [true] ?_
 obtain ⟨z9, hz9, h⟩ := bC h
 refine Y0 (E' := ⟨23, [], [(3, .row n z9.length)]⟩) (O' := (Zr O n [some (oR 26 1 (eL (eI .u64)) z9)])) (n0 := (n + 1)) ?_ ?_
 ·refine Xm hz9 (fun s0_ => ⟨23, [], [(3, .row n s0_.2.length), (9, (sL (eL (eI .u64)) a0)), (10, (vI (a0.length : Int))), (11, (vI s0_.1))]⟩) (fun s0_ => (Zr O n [some (oR 26 1 (eL (eI .u64)) s0_.2)])) (fun z9 => JX 0 n (⟨23, [], [(3, .row n z9.length)]⟩ : Env) (Zr O n [some (oR 26 1 (eL (eI .u64)) z9)]) (n + 1)) ?_
  intro s0_ x0_ hs0_
  unfold Ue at hs0_
  try dsimp only
  refine zQ [3, 9, 10, 11, 12] ?_
  refine Zg ?_
  refine Zm (t := (decide (s0_.1 < (a0.length : Int)))) rfl (fun c8 => ?_) (fun c8 => ?_)
  ·replace hs0_ := Zo c8 hs0_
   refine J6 [3, 9, 10, 11] [true] ?_
   refine Zg ?_
   refine Yj ?_
   obtain ⟨x4, hx4, ax4, bx4, cx4, hs0_⟩ := bE (f := (eL (eI .u64))) Zlp (fun _ => rfl) (by decide) hs0_
   refine Zc2 [3, 4, 5, 9, 10, 11] (Z5 Zv [] ?_)
   refine zF3 ax4 bx4 cx4 ?_
   obtain ⟨y5, hy5, hs0_⟩ := bC hs0_
   obtain ⟨x6, hx6, ax6, bx6, cx6, hs0_⟩ := bE (f := (eL (eI .u64))) Zlp (fun _ => rfl) (by decide) hs0_
   have gu7 : Un (fl (eL (eI .u64)) s0_.2) [.sl y5.length (fl (eI .u64) y5)] (Int.toNat s0_.1 * 1) = some (fl (eL (eI .u64)) (Qy s0_.2 s0_.1 y5)) := Zjo (f := (eL (eI .u64))) (ti := ⟨.bool, 1, 0, [], false⟩) (x := y5) (fun _ => rfl) (Zd9 hx6)
   refine Z3p [] ax6 bx6 cx6 gu7 ?_
   refine (Ze2 hy5).then ?_
   refine zF4 ax6 bx6 cx6 gu7 ?_
   refine zD [3, 9, 10, 11] [true] ?_
   refine zR ?_
   exact zEn hs0_
  replace hs0_ := Zn c8 hs0_
  exact zEx hs0_
 try simp only [Xc, Ym, ↓reduceIte, Nat.reduceEqDiff]
 refine zD [3] [true] ?_
 refine zQ [2] ?_
 exact Z4 [.row n z9.length]
theorem Zdy {a0 : (List (List Int))} {r : (Option Zj)} {O : Objs} {n : Nat} (h : Zez a0 = some r) : GTo Try.prog 10 [(sL (eL (eI .u64)) a0)] O n ((gP Zl r)) O n := by
 unfold Zez at h
 refine zFn Try.call10 Try.func10 fun hU hN0 hN => ?_
 show W _ _ _ _ ⟨7, [], [(0, (sL (eL (eI .u64)) a0))]⟩ (Zr O n []) _
 refine zQ [0] ?_
 refine Zg ?_
 obtain ⟨y2, hy2, h⟩ := bC h
 refine zCd (Zvq hy2) [2] [true] ?_
 exact Z4 [.ref n 0]
theorem Zcp {a0 : Int} {a1 : Int} {r : Int} {O : Objs} {n : Nat} (h : U5 a0 a1 = some r) : GTo Try.prog 85 [(vI a0), (vI a1)] O n ((vI r)) O n := by
 unfold U5 at h
 refine zFn Try.call85 Try.func85 fun hU hN0 hN => ?_
 show W _ _ _ _ ⟨9, [], [(0, (vI a0)), (1, (vI a1))]⟩ (Zr O n []) _
 refine zQ [0, 1] ?_
 refine zQ [4] ?_
 exact Z4 [(vI (if a1 < (if a0 < 0 then 0 else a0) then a1 else (if a0 < 0 then 0 else a0)))]
theorem Zuh {a0 : Ye} {r : Ye} {O : Objs} {n : Nat} (h : Zeg a0 = some r) : GTo Try.prog 54 [.agg (Yy a0)] O n (.agg (Yy r)) O n := by
 unfold Zeg at h
 refine zFn Try.call54 Try.func54 fun hU hN0 hN => ?_
 show W _ _ _ _ ⟨16, [], [(0, .agg (Yy a0))]⟩ (Zr O n []) _
 refine zQ [1, 2] ?_
 refine Zg ?_
 obtain ⟨y5, hy5, h⟩ := bC h
 obtain ⟨y6, hy6, h⟩ := bC h
 obtain ⟨y7, hy7, h⟩ := bC h
 obtain ⟨y8, hy8, h⟩ := bC h
 refine Ze5 Zv (by kernel_rfl) [false, false, false, false, false, false, false, false, false, false, false, false, false, true] [] (by kernel_rfl) ?_
 refine zS ?_
 refine PCall.of (Zcp hy5) ?_
 refine zS ?_
 refine PCall.of (Zcp hy6) ?_
 refine zS ?_
 refine PCall.of (Zcp hy7) ?_
 refine zS ?_
 refine PCall.of (Zcp hy8) ?_
 refine zS ?_
 refine zD [2] [false, true] ?_
 exact Z4 [.agg [(vI y5), (vI y6), (vI y7), (vI y8)]]
theorem Zpj {a0 : (Option Zj)} {r : Int} {O : Objs} {n : Nat} (h : Zbu a0 = some r) : GTo Try.prog 137 [(gP Zl a0)] O n ((vI r)) O n := by
 unfold Zbu at h
 refine zFn Try.call137 Try.func137 fun hU hN0 hN => ?_
 show W _ _ _ _ ⟨10, [], [(0, (gP Zl a0))]⟩ (Zr O n []) _
 refine zQ [0] ?_
 refine Zg ?_
 have g2 := Z01 (f := Zl) (t := 33) Zov a0
 refine Yfe [0, 4] g2 ?_
 refine Zm (t := (Option.isNone a0)) rfl (fun c5 => ?_) (fun c5 => ?_)
 ·replace h := Zo c5 h
  refine zQ [2] ?_
  exact Z4 [(vI 0)]
 replace h := Zn c5 h
 refine J6 [0] [] ?_
 obtain ⟨x4, hx4, h⟩ := bC h
 refine Zc2 [2] (Z5 Zv [] ?_)
 simp only [push_cast, seval, ↓reduceIte, Zh, hx4, hN0, hN]
 exact Z4 [(vI (x4.segments.length : Int))]
theorem Jy {a0 : (Option Zj)} {a1 : Int} {r : Bool} {O : Objs} {n : Nat} (h : Kk a0 a1 = some r) : GTo Try.prog 135 [(gP Zl a0), (vI a1)] O n ((vB r)) O n := by
 unfold Kk at h
 refine zFn Try.call135 Try.func135 fun hU hN0 hN => ?_
 show W _ _ _ _ ⟨13, [], [(0, (gP Zl a0)), (1, (vI a1))]⟩ (Zr O n []) _
 refine zQ [0, 1] ?_
 obtain ⟨z2, hz2, h⟩ := bC h
 refine Xo (E' := ⟨13, [], [(4, (vB z2))]⟩) (O' := (Zr O n [])) (n0 := n) ?_ ?_
 ·rcases Bool.eq_false_or_eq_true (decide (0 ≤ a1)) with c5 | c5
  ·replace hz2 := Zo c5 hz2
   obtain ⟨y4, hy4, hz2⟩ := bC hz2
   refine K9 [some true, some true, some true, some true] c5 ?_
   refine (Zpj hy4).then ?_
   refine zX1 c5 ?_
   exact Kp hz2 c5
  replace hz2 := Zn c5 hz2
  refine K9 [some false, some false, some false, some false] c5 ?_
  exact Kp hz2 c5
 exact Z4 [(vB z2)]
theorem Zcy {a0 : (Option Zj)} {a1 : Int} {r : Int} {O : Objs} {n : Nat} (h : K4 a0 a1 = some r) : GTo Try.prog 136 [(gP Zl a0), (vI a1)] O n ((vI r)) O n := by
 unfold K4 at h
 refine zFn Try.call136 Try.func136 fun hU hN0 hN => ?_
 show W _ _ _ _ ⟨17, [], [(0, (gP Zl a0)), (1, (vI a1))]⟩ (Zr O n []) _
 refine zQ [0, 1] ?_
 refine Zg ?_
 refine Zg ?_
 obtain ⟨y2, hy2, h⟩ := bC h
 refine zCd (Jy hy2) [0, 1, 8] [] ?_
 refine Zm (t := (!y2)) rfl (fun c7 => ?_) (fun c7 => ?_)
 ·replace h := Zo c7 h
  refine zQ [4] ?_
  exact Z4 [(vI 0)]
 replace h := Zn c7 h
 refine J6 [0, 1] [] ?_
 obtain ⟨x5, hx5, h⟩ := bC h
 obtain ⟨x6, hx6, ax6, bx6, cx6, h⟩ := bE (f := (eL (eI .u64))) Zlp (fun _ => rfl) (by decide) h
 refine Zc2 [4] (Z5 Zv [] ?_)
 refine zF4 hx5 ax6 bx6 cx6 ?_
 exact Z4 [(vI (x6.length : Int))]
theorem Zdp {a0 : (Option Zj)} {a1 : Int} {a2 : Int} {a3 : Int} {r : Bool} {O : Objs} {n : Nat} (h : Ka a0 a1 a2 a3 = some r) : GTo Try.prog 120 [(gP Zl a0), (vI a1), (vI a2), (vI a3)] O n ((vB r)) O n := by
 unfold Ka at h
 refine zFn Try.call120 Try.func120 fun hU hN0 hN => ?_
 show W _ _ _ _ ⟨36, [], [(0, (gP Zl a0)), (1, (vI a1)), (2, (vI a2)), (3, (vI a3))]⟩ (Zr O n []) _
 refine zQ [0, 1, 2, 3] ?_
 obtain ⟨z4, hz4, h⟩ := bC h
 refine Xo (E' := ⟨36, [], [(8, (vB z4))]⟩) (O' := (Zr O n [])) (n0 := n) ?_ ?_
 ·obtain ⟨y8, hy8, hz4⟩ := bC hz4
  rcases Bool.eq_false_or_eq_true y8 with c11 | c11
  ·replace hz4 := Zo c11 hz4
   rcases Bool.eq_false_or_eq_true (decide (0 ≤ a2)) with c12 | c12
   ·replace hz4 := Zo c12 hz4
    try rw [c12] at c11
    rcases Bool.eq_false_or_eq_true (decide (0 ≤ a3)) with c13 | c13
    ·replace hz4 := Zo c13 hz4
     try rw [c13] at c11
     try rw [c13] at c12
     obtain ⟨y9, hy9, hz4⟩ := bC hz4
     rcases Bool.eq_false_or_eq_true (decide (a3 ≤ y9)) with c14 | c14
     ·replace hz4 := Zo c14 hz4
      try rw [c14] at c11
      try rw [c14] at c12
      try rw [c14] at c13
      obtain ⟨y10, hy10, hz4⟩ := bC hz4
      refine Z3r [none, none, none, none, some true, some true, some true, some true, some true, some true, some true, some true, some true, some true, some true, some true] c11 c12 c13 c14 ?_
      refine zG ?_
      refine (Jy hy8).then ?_
      refine zX4 c11 c12 c13 c14 ?_
      refine zG ?_
      refine (Zcy hy9).then ?_
      refine zX4 c11 c12 c13 c14 ?_
      refine zG ?_
      refine (Zcy hy10).then ?_
      refine zX4 c11 c12 c13 c14 ?_
      refine zG ?_
      exact Z3n hz4 c11 c12 c13 c14
     replace hz4 := Zn c14 hz4
     try rw [c14] at c11
     try rw [c14] at c12
     try rw [c14] at c13
     refine Z3r [none, none, none, none, some true, some true, some true, some true, some true, some false, some false, some false, some false, some false, some false, some false] c11 c12 c13 c14 ?_
     refine zG ?_
     refine (Jy hy8).then ?_
     refine zX4 c11 c12 c13 c14 ?_
     refine zG ?_
     refine (Zcy hy9).then ?_
     refine zX4 c11 c12 c13 c14 ?_
     refine zG ?_
     exact Z3n hz4 c11 c12 c13 c14
    replace hz4 := Zn c13 hz4
    try rw [c13] at c11
    try rw [c13] at c12
    refine Zs7 [none, none, none, none, some false, some false, some false, some false, some false, some false, some false, some false, some false, some false, some false, some false] c11 c12 c13 ?_
    refine zG ?_
    refine (Jy hy8).then ?_
    refine zX3 c11 c12 c13 ?_
    refine zG ?_
    exact Z59 hz4 c11 c12 c13
   replace hz4 := Zn c12 hz4
   try rw [c12] at c11
   refine Jm [none, none, none, none, some false, some false, some false, some false, some false, some false, some false, some false, some false, some false, some false, some false] c11 c12 ?_
   refine zG ?_
   refine (Jy hy8).then ?_
   refine zX2 c11 c12 ?_
   refine zG ?_
   exact Z3m hz4 c11 c12
  replace hz4 := Zn c11 hz4
  refine K9 [none, none, none, none, some false, some false, some false, some false, some false, some false, some false, some false, some false, some false, some false, some false] c11 ?_
  refine zG ?_
  refine (Jy hy8).then ?_
  refine zX1 c11 ?_
  refine zG ?_
  exact Kp hz4 c11
 exact Z4 [(vB z4)]
theorem Uv {a0 : (Option Zj)} {a1 : Int} {a2 : Int} {r : (Int × Bool)} {O : Objs} {n : Nat} (h : Qi a0 a1 a2 = some r) : GTo Try.prog 84 [(gP Zl a0), (vI a1), (vI a2)] O n (.tup [.val (.int .u64 r.1), (vB r.2)]) O n := by
 unfold Qi at h
 refine zFn Try.call84 Try.func84 fun hU hN0 hN => ?_
 show W _ _ _ _ ⟨23, [], [(0, (gP Zl a0)), (1, (vI a1)), (2, (vI a2))]⟩ (Zr O n []) _
 refine zQ [0, 1, 2] ?_
 refine Zg ?_
 refine Zg ?_
 obtain ⟨y2, hy2, h⟩ := bC h
 refine zCd (Zdp hy2) [0, 1, 2, 12] [] ?_
 refine Zm (t := (!y2)) rfl (fun c9 => ?_) (fun c9 => ?_)
 ·replace h := Zo c9 h
  refine zQ [6, 7] ?_
  exact Z4 [.val (.int .u64 0), (vB false)]
 replace h := Zn c9 h
 refine J6 [0, 1, 2] [] ?_
 obtain ⟨x6, hx6, h⟩ := bC h
 obtain ⟨x7, hx7, ax7, bx7, cx7, h⟩ := bE (f := (eL (eI .u64))) Zlp (fun _ => rfl) (by decide) h
 obtain ⟨x8, hx8, ax8, bx8, cx8, h⟩ := bE (f := (eI .u64)) U2 (fun _ => rfl) (by decide) h
 refine Zc2 [6, 7] (Z5 Zv [] ?_)
 refine zF7 hx6 ax7 bx7 cx7 ax8 bx8 cx8 ?_
 exact Z4 [.val (.int .u64 x8), (vB true)]
theorem Zoy {a0 : (Option Zj)} {a1 : Int} {a2 : Int} {a3 : Int} {r : ((List Int) × Bool)} {O : Objs} {n : Nat} (h : Uo a0 a1 a2 a3 = some r) : GTo Try.prog 134 [(gP Zl a0), (vI a1), (vI a2), (vI a3)] O n (.tup [(sL (eI .u64) r.1), (vB r.2)]) O n := by
 unfold Uo at h
 refine zFn Try.call134 Try.func134 fun hU hN0 hN => ?_
 show W _ _ _ _ ⟨29, [], [(0, (gP Zl a0)), (1, (vI a1)), (2, (vI a2)), (3, (vI a3))]⟩ (Zr O n []) _
 refine zQ [0, 1, 2, 3] ?_
 refine Zg ?_
 refine Zg ?_
 obtain ⟨y2, hy2, h⟩ := bC h
 refine zCd (Zdp hy2) [0, 1, 2, 3, 15] [] ?_
 refine Zm (t := (!y2)) rfl (fun c11 => ?_) (fun c11 => ?_)
 ·replace h := Zo c11 h
  refine zQ [8, 9] ?_
  exact Z4 [nV, (vB false)]
 replace h := Zn c11 h
 refine J6 [0, 1, 2, 3] [] ?_
 refine Zg ?_
 obtain ⟨x7, hx7, h⟩ := bC h
 obtain ⟨x8, hx8, ax8, bx8, cx8, h⟩ := bE (f := (eL (eI .u64))) Zlp (fun _ => rfl) (by decide) h
 obtain ⟨l9, al9, bl9, cl9, gl9, h⟩ := bS (lo := (some (.i64, a2))) (hi := (some (.i64, (IntKind.i64.wrap (a2 + a3))))) (f := (eI .u64)) rfl rfl Zep U2 (fun _ => rfl) h
 obtain ⟨y10, hy10, h⟩ := bC h
 refine Yd2 [] hx7 ax8 bx8 cx8 al9 bl9 cl9 gl9 ?_
 refine (Zav  hy10).then ?_
 refine zF8 hx7 ax8 bx8 cx8 al9 bl9 cl9 gl9 ?_
 refine zD [8, 9] [true] ?_
 exact Z4 [.row n y10.length, (vB true)]
theorem Zi3 {a0 : (Option Zj)} {a1 : Zy} {a2 : Int} {a3 : Int} {r : (Xf × Int)} {O : Objs} {n : Nat} (h : Za0 a0 a1 a2 a3 = some r) : GTo Try.prog 117 [(gP Zl a0), .agg (Xh a1), (vI a2), (vI a3)] O n (.tup [.agg (Q9 r.1), (vI r.2)]) O n := by
 unfold Za0 at h
 refine zFn Try.call117 Try.func117 fun hU hN0 hN => ?_
 show W _ _ _ _ ⟨36, [], [(0, (gP Zl a0)), (1, .agg (Xh a1)), (2, (vI a2)), (3, (vI a3))]⟩ (Zr O n []) _
 refine zQ [0, 2, 3, 5, 8] ?_
 refine Zg ?_
 refine zQ [0, 2, 3, 5, 8, 14] ?_
 refine Zm (t := (a1.Kind == 4)) rfl (fun c7 => ?_) (fun c7 => ?_)
 ·replace h := Zo c7 h
  refine Zg ?_
  refine zRd [8, 9] [false, true] ?_
  exact Z4 [.agg [(vI 0), (vI 0), (vI 0), (vI 0), (vI 0), (vI 0), (vI 0), (vB false), (vI 0), (vI 0)], (vI 9)]
 replace h := Zn c7 h
 refine J6 [0, 2, 3, 5, 8] [true, true] ?_
 refine Zg ?_
 obtain ⟨y2, hy2, h⟩ := bC h
 refine zCd (Zjy hy2) [0, 2, 3, 5, 8, 10, 11] [true, true] ?_
 refine Zg ?_
 refine zQ [0, 2, 3, 5, 8, 10, 22] ?_
 refine Zm (t := (!y2.2)) rfl (fun c6 => ?_) (fun c6 => ?_)
 ·replace h := Zo c6 h
  refine Zg ?_
  refine zRd [8, 9] [false, true] ?_
  exact Z4 [.agg [(vI 0), (vI 0), (vI 0), (vI 0), (vI 0), (vI 0), (vI 0), (vB false), (vI 0), (vI 0)], (vI 8)]
 replace h := Zn c6 h
 refine J6 [0, 2, 3, 5, 8, 10] [true, true] ?_
 refine Zg ?_
 refine Zg ?_
 obtain ⟨y4, hy4, h⟩ := bC h
 refine zCd (Zdp hy4) [2, 3, 5, 8, 29] [true, true] ?_
 refine Zm (t := (!y4)) rfl (fun c5 => ?_) (fun c5 => ?_)
 ·replace h := Zo c5 h
  refine Zg ?_
  refine zRd [8, 9] [false, true] ?_
  exact Z4 [.agg [(vI 0), (vI 0), (vI 0), (vI 0), (vI 0), (vI 0), (vI 0), (vB false), (vI 0), (vI 0)], (vI 7)]
 replace h := Zn c5 h
 refine J6 [2, 3, 5, 8] [true, true] ?_
 refine Zg ?_
 refine zRd [2, 3, 5, 8] [true, true] ?_
 refine Zg ?_
 refine zRd [8, 9] [false, true] ?_
 exact Z4 [.agg [(vI a1.Kind), (vI 0), (vI a1.Data), (vI a1.Ptrs), (vI a1.Code), (vI a1.Count), (vI a1.Segment), (vB a1.Double), (vI a2), (vI a3)], (vI 0)]
theorem Zx4 {a0 : (Option Zj)} {a1 : Int} {a2 : Int} {r : (Xf × Int)} {O : Objs} {n : Nat} (h : Zed a0 a1 a2 = some r) : GTo Try.prog 115 [(gP Zl a0), (vI a1), (vI a2)] O n (.tup [.agg (Q9 r.1), (vI r.2)]) O n := by
 unfold Zed at h
 refine zFn Try.call115 Try.func115 fun hU hN0 hN => ?_
 show W _ _ _ _ ⟨56, [], [(0, (gP Zl a0)), (1, (vI a1)), (2, (vI a2))]⟩ (Zr O n []) _
 refine zQ [0, 1, 2, 6] ?_
 refine Zg ?_
 obtain ⟨y2, hy2, h⟩ := bC h
 refine zCd (Zoy hy2) [0, 6, 8, 9] [true] ?_
 refine Zg ?_
 refine zQ [0, 6, 8, 20] ?_
 refine Zm (t := (!y2.2)) rfl (fun c11 => ?_) (fun c11 => ?_)
 ·replace h := Zo c11 h
  refine Zg ?_
  refine zRd [6, 7] [true] ?_
  exact Z4 [.agg [(vI 0), (vI 0), (vI 0), (vI 0), (vI 0), (vI 0), (vI 0), (vB false), (vI 0), (vI 0)], (vI 7)]
 replace h := Zn c11 h
 refine J6 [0, 6, 8] [true] ?_
 obtain ⟨x3, hx3, ax3, bx3, cx3, h⟩ := bE (f := (eI .u64)) U2 (fun _ => rfl) (by decide) h
 obtain ⟨y4, hy4, h⟩ := bC h
 obtain ⟨x5, hx5, ax5, bx5, cx5, h⟩ := bE (f := (eI .u64)) U2 (fun _ => rfl) (by decide) h
 obtain ⟨y6, hy6, h⟩ := bC h
 refine Xo (E' := ⟨56, [], [(0, (gP Zl a0)), (6, .ref n 0), (10, .ref (n + 1) 0), (11, .ref (n + 2) 0)]⟩) (O' := (Zr O n [some ⟨false, 120, 10, 1, [(vI 0), (vI 0), (vI 0), (vI 0), (vI 0), (vI 0), (vI 0), (vB false), (vI 0), (vI 0)]⟩, some ⟨false, 93, 8, 1, (Xh y4)⟩, some ⟨false, 93, 8, 1, (Xh y6)⟩])) (n0 := (n + 3)) ?_ ?_
 ·refine Z95 Zv (by kernel_rfl) [.low, .low, .low, .low, .low, .low, .low, .low, .pass, .pass, .pass, .pass] (fun i => i < (n + 1)) 8 9 [0, 1, 2, 3, 4, 5, 6, 7] [10, 11] [.low, .low, .low, .low, .low, .low, .low, .low] [.pass, .pass, .pass, .pass] [.pass, .pass, .pass, .pass] [] (by kernel_rfl) rfl rfl rfl ?_
  refine zF6 ax3 bx3 cx3 ax5 bx5 cx5 ?_
  repeat (with_reducible refine And.intro (by omega) ?_)
  first | refine PCallA.of (fun _ _ => Ud hy4) ?_ | refine PCall.of (Ud hy4) ?_
  refine zF6 ax3 bx3 cx3 ax5 bx5 cx5 ?_
  repeat (with_reducible refine And.intro (by omega) ?_)
  first | refine PCallA.of (fun _ _ => Ud hy6) ?_ | refine PCall.of (Ud hy6) ?_
  refine zF6 ax3 bx3 cx3 ax5 bx5 cx5 ?_
  repeat (with_reducible refine And.intro (by omega) ?_)
  refine And.intro ?_ ?_
  ·refine zF6 ax3 bx3 cx3 ax5 bx5 cx5 ?_
   repeat (with_reducible refine And.intro (by first | exact Y1 rfl | exact Yp) ?_)
   exact Ydw ax3 bx3 cx3 ax5 bx5 cx5
  refine zF6 ax3 bx3 cx3 ax5 bx5 cx5 ?_
  repeat (with_reducible refine And.intro (by first | exact Y1 rfl | exact Yp) ?_)
  refine And.intro rfl ?_
  refine Fit2.trans (E' := (⟨56, [], [(0, (gP Zl a0)), (6, .ref n 0), (10, .ref (n + 2) 0), (11, .ref (n + 1) 0)]⟩ : Env)) (O' := (Zr O n [some ⟨false, 120, 10, 1, [(vI 0), (vI 0), (vI 0), (vI 0), (vI 0), (vI 0), (vI 0), (vB false), (vI 0), (vI 0)]⟩, some ⟨false, 93, 8, 1, (Xh y6)⟩, some ⟨false, 93, 8, 1, (Xh y4)⟩])) (n' := (n + 3)) (Fit2.of (Yq hU rfl rfl ?_) (by omega)) ?_
  ·exact Ydz ax3 bx3 cx3 ax5 bx5 cx5
  refine Zit (k := 3) (k' := 3) hU [0, 2, 1] [0, 2, 1] rfl rfl rfl rfl ⟨rfl, rfl⟩ ?_
  exact zSe
 refine Zg ?_
 refine zQD [0, 6, 10, 11, 36] [none, none] ?_
 refine Zm (t := (cond (y4.Kind != 3) true y4.Double)) rfl (fun c10 => ?_) (fun c10 => ?_)
 ·replace h := Zo c10 h
  refine Zg ?_
  refine zRd [6, 7] [true, false, false] ?_
  exact Z4 [.agg [(vI 0), (vI 0), (vI 0), (vI 0), (vI 0), (vI 0), (vI 0), (vB false), (vI 0), (vI 0)], (vI 8)]
 replace h := Zn c10 h
 refine J6 [0, 6, 10, 11] [true, true, true] ?_
 refine Zg ?_
 refine zQD [0, 6, 10, 11, 45] [none, none, none] ?_
 refine Zm (t := (cond (y6.Kind != 4) (y6.Off != 0) false)) rfl (fun c9 => ?_) (fun c9 => ?_)
 ·replace h := Zo c9 h
  refine Zg ?_
  refine zRd [6, 7] [true, false, false] ?_
  exact Z4 [.agg [(vI 0), (vI 0), (vI 0), (vI 0), (vI 0), (vI 0), (vI 0), (vB false), (vI 0), (vI 0)], (vI 8)]
 replace h := Zn c9 h
 refine J6 [0, 6, 10, 11] [true, true, true] ?_
 refine Zg ?_
 obtain ⟨y8, hy8, h⟩ := bC h
 refine zCd (Zi3 hy8) [6, 7] [true, false, false] ?_
 exact Z4 [.agg (Q9 y8.1), (vI y8.2)]
theorem Zx5 {a0 : (Option Zj)} {a1 : Int} {a2 : Int} {r : (Xf × Int)} {O : Objs} {n : Nat} (h : Zee a0 a1 a2 = some r) : GTo Try.prog 116 [(gP Zl a0), (vI a1), (vI a2)] O n (.tup [.agg (Q9 r.1), (vI r.2)]) O n := by
 unfold Zee at h
 refine zFn Try.call116 Try.func116 fun hU hN0 hN => ?_
 show W _ _ _ _ ⟨34, [], [(0, (gP Zl a0)), (1, (vI a1)), (2, (vI a2))]⟩ (Zr O n []) _
 refine zQ [0, 1, 2, 6] ?_
 refine Zg ?_
 obtain ⟨y2, hy2, h⟩ := bC h
 refine zCd (Uv hy2) [0, 1, 2, 6, 8, 9] [true] ?_
 refine Zg ?_
 refine zQ [0, 1, 2, 6, 8, 19] ?_
 refine Zm (t := (!y2.2)) rfl (fun c7 => ?_) (fun c7 => ?_)
 ·replace h := Zo c7 h
  refine Zg ?_
  refine zRd [6, 7] [true] ?_
  exact Z4 [.agg [(vI 0), (vI 0), (vI 0), (vI 0), (vI 0), (vI 0), (vI 0), (vB false), (vI 0), (vI 0)], (vI 7)]
 replace h := Zn c7 h
 refine J6 [0, 1, 2, 6, 8] [true] ?_
 refine Zg ?_
 obtain ⟨y4, hy4, h⟩ := bC h
 refine zCd (Ud hy4) [0, 1, 2, 6, 10] [true, true] ?_
 refine Zg ?_
 obtain ⟨y6, hy6, h⟩ := bC h
 refine zCd (Zi3 hy6) [6, 7] [true, false] ?_
 exact Z4 [.agg (Q9 y6.1), (vI y6.2)]
theorem Zx3 {a0 : (Option Zj)} {a1 : Int} {a2 : Int} {r : (Xf × Int)} {O : Objs} {n : Nat} (h : Zec a0 a1 a2 = some r) : GTo Try.prog 81 [(gP Zl a0), (vI a1), (vI a2)] O n (.tup [.agg (Q9 r.1), (vI r.2)]) O n := by
 unfold Zec at h
 refine zFn Try.call81 Try.func81 fun hU hN0 hN => ?_
 show W _ _ _ _ ⟨67, [], [(0, (gP Zl a0)), (1, (vI a1)), (2, (vI a2))]⟩ (Zr O n []) _
 refine zQ [0, 1, 2, 6] ?_
 refine Zg ?_
 obtain ⟨y2, hy2, h⟩ := bC h
 refine zCd (Uv hy2) [0, 1, 2, 6, 8, 9] [true] ?_
 refine Zg ?_
 refine zQ [0, 1, 2, 6, 8, 19] ?_
 refine Zm (t := (!y2.2)) rfl (fun c14 => ?_) (fun c14 => ?_)
 ·replace h := Zo c14 h
  refine Zg ?_
  refine zRd [6, 7] [true] ?_
  exact Z4 [.agg [(vI 0), (vI 0), (vI 0), (vI 0), (vI 0), (vI 0), (vI 0), (vB false), (vI 0), (vI 0)], (vI 7)]
 replace h := Zn c14 h
 refine J6 [0, 1, 2, 6, 8] [true] ?_
 refine Zg ?_
 obtain ⟨y4, hy4, h⟩ := bC h
 refine zCd (Ud hy4) [0, 1, 2, 6, 10] [true, true] ?_
 refine Zg ?_
 refine Yj ?_
 refine zQ [0, 1, 2, 6, 10, 23] ?_
 refine Zm (t := (y4.Kind == 0)) rfl (fun c13 => ?_) (fun c13 => ?_)
 ·replace h := Zo c13 h
  refine Zg ?_
  refine zRd [6, 7] [true, false] ?_
  exact Z4 [.agg [(vI 0), (vI 0), (vI 0), (vI 0), (vI 0), (vI 0), (vI 0), (vB false), (vI 0), (vI 0)], (vI 0)]
 replace h := Zn c13 h
 refine zQD [0, 1, 2, 6, 10, 28] [none, none] ?_
 refine Zm (t := (cond (y4.Kind == 3) y4.Double false)) rfl (fun c12 => ?_) (fun c12 => ?_)
 ·replace h := Zo c12 h
  refine Zg ?_
  obtain ⟨y6, hy6, h⟩ := bC h
  refine zCd (Zx4 hy6) [6, 7] [true, false] ?_
  exact Z4 [.agg (Q9 y6.1), (vI y6.2)]
 replace h := Zn c12 h
 refine zQ [0, 1, 2, 6, 10, 44] ?_
 refine Zm (t := (y4.Kind == 3)) rfl (fun c11 => ?_) (fun c11 => ?_)
 ·replace h := Zo c11 h
  refine Zg ?_
  obtain ⟨y8, hy8, h⟩ := bC h
  refine zCd (Zx5 hy8) [6, 7] [true, false] ?_
  exact Z4 [.agg (Q9 y8.1), (vI y8.2)]
 replace h := Zn c11 h
 refine J6 [0, 1, 2, 6, 10] [true, true] ?_
 refine Zg ?_
 obtain ⟨y10, hy10, h⟩ := bC h
 refine zCd (Zi3 hy10) [6, 7] [true, false] ?_
 exact Z4 [.agg (Q9 y10.1), (vI y10.2)]
theorem Zo1 {a0 : Zb} {r : (Zb × Int)} {O : Objs} {n : Nat} (h : Za2 a0 = some r) : GTo Try.prog 82 [.agg (Zk a0)] O n (.tup [.agg (Zk r.1), (vI r.2)]) O n := by
 unfold Za2 at h
 refine zFn Try.call82 Try.func82 fun hU hN0 hN => ?_
 show W _ _ _ _ ⟨56, [], [(0, .agg (Zk a0))]⟩ (Zr O n []) _
 refine zQ [1, 2] ?_
 refine Zg ?_
 obtain ⟨y2, hy2, h⟩ := bC h
 refine zCd (Uv hy2) [1, 2, 4] [true, true] ?_
 refine Zg ?_
 obtain ⟨y4, hy4, h⟩ := bC h
 refine zCd (Ud hy4) [1, 2, 6] [true, true, true] ?_
 refine Zg ?_
 refine zQD [1, 2, 6, 44] [none, none, none, none, none, none, none, none, none, none, none, none, none, none, none, none, none] ?_
 refine Zm (t := (cond (cond (cond (y4.Kind != 0) (y4.Kind != 1) false) true (decide (y4.Off < 0))) true (decide (a0.count < (IntKind.i64.wrap (y4.Off * (IntKind.i64.wrap (y4.Data + y4.Ptrs)))))))) rfl (fun c5 => ?_) (fun c5 => ?_)
 ·replace h := Zo c5 h
  refine Zg ?_
  refine zRd [2, 3] [false, true, false] ?_
  exact Z4 [.agg [.val (.pointer none), (vI 0), (vI 0), (vI 0), (vI 0), (vI 0), (vI 0), (vI 0), (vI 0)], (vI 8)]
 replace h := Zn c5 h
 refine J6 [1, 2, 6] [true, true, true] ?_
 refine Zg ?_
 refine Zih Zv (by kernel_rfl) [.plain, .plain, .low, .low, .low, .low, .plain, .pass, .plain, .pass, .plain, .bar] (fun i => i ≠ n + 0) [0, 1, 2, 3, 4, 5, 6, 7, 8, 9, 10, 11] [.plain, .plain, .low, .low, .low, .low, .plain, .pass, .plain, .pass, .plain, .bar] [] (by kernel_rfl) rfl ?_
 refine zS ?_
 refine zO ?_
 refine zDs [1, 2] [true, true, false] ?_
 refine zRd [2, 3] [false, true, false] ?_
 exact Z4 [.agg [(gP Zl a0.a), (vI a0.kind), (vI a0.segment), (vI a0.at_), (vI y4.Data), (vI y4.Ptrs), (vI y4.Off), (vI a0.code), (vI a0.index)], (vI 0)]
theorem Zk2 {a0 : (Option Zj)} {a1 : Int} {a2 : Int} {r : (Zb × Int)} {O : Objs} {n : Nat} (h : Zb7 a0 a1 a2 = some r) : GTo Try.prog 49 [(gP Zl a0), (vI a1), (vI a2)] O n (.tup [.agg (Zk r.1), (vI r.2)]) O n := by
 unfold Zb7 at h
 refine zFn Try.call49 Try.func49 fun hU hN0 hN => ?_
 show W _ _ _ _ ⟨66, [], [(0, (gP Zl a0)), (1, (vI a1)), (2, (vI a2))]⟩ (Zr O n []) _
 refine zQ [0, 1, 2, 6] ?_
 refine Zg ?_
 obtain ⟨y2, hy2, h⟩ := bC h
 refine zCd (Zx3 hy2) [0, 6, 8, 9] [true, true] ?_
 refine Zg ?_
 refine zQD [0, 6, 8, 9, 25] [none, none, none, none] ?_
 refine Zm (t := (cond (y2.2 != 0) true (y2.1.P.Kind == 0))) rfl (fun c7 => ?_) (fun c7 => ?_)
 ·replace h := Zo c7 h
  refine Zg ?_
  refine zRd [6, 7] [true, false] ?_
  exact Z4 [.agg [.val (.pointer none), (vI 0), (vI 0), (vI 0), (vI 0), (vI 0), (vI 0), (vI 0), (vI 0)], (vI y2.2)]
 replace h := Zn c7 h
 refine J6 [0, 6, 8] [true, true] ?_
 refine Zg ?_
 refine zRd [6, 8, 10] [true, true, true] ?_
 refine Zg ?_
 refine zQ [6, 8, 10, 37] ?_
 refine Zm (t := (y2.1.P.Kind == 1)) rfl (fun c6 => ?_) (fun c6 => ?_)
 ·replace h := Zo c6 h
  refine Zg ?_
  refine Zih Zv (by kernel_rfl) [.low, .low, .low, .low, .low, .low, .plain, .pass, .plain, .pass, .plain, .bar] (fun i => i ≠ n + 2) [0, 1, 2, 3, 4, 5, 6, 7, 8, 9, 10, 11] [.low, .low, .low, .low, .low, .low, .plain, .pass, .plain, .pass, .plain, .bar] [] (by kernel_rfl) rfl ?_
  refine zS ?_
  refine zO ?_
  refine zDs [6, 10] [true, false, true] ?_
  refine zRd [6, 7] [true, false, false] ?_
  exact Z4 [.agg [(gP Zl a0), (vI 1), (vI y2.1.Segment), (vI y2.1.At), (vI y2.1.P.Data), (vI y2.1.P.Ptrs), (vI 0), (vI 0), (vI 0)], (vI 0)]
 replace h := Zn c6 h
 refine J6 [6, 8, 10] [true, true, true] ?_
 refine Zg ?_
 refine Zih Zv (by kernel_rfl) [.plain, .plain, .plain, .plain, .low, .low, .low, .plain, .pass, .plain, .bar] (fun i => i ≠ n + 2) [0, 1, 2, 3, 4, 5, 6, 7, 8, 9, 10] [.plain, .plain, .plain, .plain, .low, .low, .low, .plain, .pass, .plain, .bar] [] (by kernel_rfl) rfl ?_
 refine zS ?_
 refine zO ?_
 refine zDs [6, 8, 10] [true, true, true] ?_
 refine zQ [6, 10, 60] ?_
 refine Zm (t := (y2.1.P.Code == 7)) rfl (fun c5 => ?_) (fun c5 => ?_)
 ·replace h := Zo c5 h
  refine Zg ?_
  obtain ⟨y4, hy4, h⟩ := bC h
  refine zCd (Zo1 hy4) [6, 7] [true, false, false] ?_
  exact Z4 [.agg (Zk y4.1), (vI y4.2)]
 replace h := Zn c5 h
 refine J6 [6, 10] [true, false, true] ?_
 refine Zg ?_
 refine zRd [6, 7] [true, false, false] ?_
 exact Z4 [.agg [(gP Zl a0), (vI (IntKind.i64.wrap (y2.1.P.Code + 2))), (vI y2.1.Segment), (vI y2.1.At), (vI 0), (vI 0), (vI y2.1.P.Count), (vI 0), (vI 0)], (vI 0)]
theorem Zm2 {a0 : (Option Zj)} {r : (Zb × Int)} {O : Objs} {n : Nat} (h : Zbo a0 = some r) : GTo Try.prog 27 [(gP Zl a0)] O n (.tup [.agg (Zk r.1), (vI r.2)]) O n := by
 unfold Zbo at h
 refine zFn Try.call27 Try.func27 fun hU hN0 hN => ?_
 show W _ _ _ _ ⟨8, [], [(0, (gP Zl a0))]⟩ (Zr O n []) _
 refine zQ [0, 2] ?_
 refine Zg ?_
 obtain ⟨y2, hy2, h⟩ := bC h
 refine zCd (Zk2 hy2) [2, 3] [true] ?_
 exact Z4 [.agg (Zk y2.1), (vI y2.2)]
theorem Xl {a0 : Zb} {r : Int} {O : Objs} {n : Nat} (h : Yl a0 = some r) : GTo Try.prog 51 [.agg (Zk a0)] O n ((vI r)) O n := by
 unfold Yl at h
 refine zFn Try.call51 Try.func51 fun hU hN0 hN => ?_
 show W _ _ _ _ ⟨5, [], [(0, .agg (Zk a0))]⟩ (Zr O n []) _
 refine zQ [1] ?_
 refine zQ [2] ?_
 exact Z4 [(vI a0.kind)]
theorem Xk {a0 : Zb} {r : Int} {O : Objs} {n : Nat} (h : Yt a0 = some r) : GTo Try.prog 50 [.agg (Zk a0)] O n ((vI r)) O n := by
 unfold Yt at h
 refine zFn Try.call50 Try.func50 fun hU hN0 hN => ?_
 show W _ _ _ _ ⟨10, [], [(0, .agg (Zk a0))]⟩ (Zr O n []) _
 refine zQ [1] ?_
 refine Zg ?_
 refine zQ [1, 5] ?_
 refine Zm (t := (a0.kind == 1)) rfl (fun c1 => ?_) (fun c1 => ?_)
 ·replace h := Zo c1 h
  refine zQ [2] ?_
  exact Z4 [(vI a0.ptrs)]
 replace h := Zn c1 h
 refine J6 [1] [true] ?_
 refine zQ [2] ?_
 exact Z4 [(vI a0.count)]
theorem Zll {a0 : Zb} {r : Int} {O : Objs} {n : Nat} (h : Zcb a0 = some r) : GTo Try.prog 86 [.agg (Zk a0)] O n ((vI r)) O n := by
 unfold Zcb at h
 refine zFn Try.call86 Try.func86 fun hU hN0 hN => ?_
 show W _ _ _ _ ⟨16, [], [(0, .agg (Zk a0))]⟩ (Zr O n []) _
 refine zQ [1] ?_
 refine Zg ?_
 refine Yj ?_
 refine Zg ?_
 obtain ⟨y2, hy2, h⟩ := bC h
 refine zCd (Xl hy2) [1, 3] [true] ?_
 refine Zm (t := (y2 == 0)) rfl (fun c12 => ?_) (fun c12 => ?_)
 ·replace h := Zo c12 h
  refine zQ [2] ?_
  exact Z4 [(vI 0)]
 replace h := Zn c12 h
 obtain ⟨z5, hz5, h⟩ := bC h
 refine Xo (E' := ⟨16, [], [(7, (vB z5))]⟩) (O' := (Zr O n [none])) (n0 := (n + 1)) ?_ ?_
 ·obtain ⟨y8, hy8, hz5⟩ := bC hz5
  rcases Bool.eq_false_or_eq_true (y8 == 9) with c10 | c10
  ·replace hz5 := Zo c10 hz5
   obtain ⟨y9, hy9, hz5⟩ := bC hz5
   refine K9 [some true, some true, some true] c10 ?_
   refine (Xl hy8).then ?_
   refine zX1 c10 ?_
   refine (Xk hy9).then ?_
   refine zX1 c10 ?_
   exact Kp hz5 c10
  replace hz5 := Zn c10 hz5
  refine K9 [some false, some false, some false] c10 ?_
  refine (Xl hy8).then ?_
  refine zX1 c10 ?_
  exact Kp hz5 c10
 refine Zm (t := z5) rfl (fun c11 => ?_) (fun c11 => ?_)
 ·replace h := Zo c11 h
  refine zQ [2] ?_
  exact Z4 [(vI 2)]
 replace h := Zn c11 h
 refine J6 [] [false] ?_
 refine zQ [2] ?_
 exact Z4 [(vI 1)]
theorem Zad {a0 : Zb} {r : Int} {O : Objs} {n : Nat} (h : Qu a0 = some r) : GTo Try.prog 52 [.agg (Zk a0)] O n ((vI r)) O n := by
 unfold Qu at h
 refine zFn Try.call52 Try.func52 fun hU hN0 hN => ?_
 show W _ _ _ _ ⟨11, [], [(0, .agg (Zk a0))]⟩ (Zr O n []) _
 refine zQ [1] ?_
 refine Zg ?_
 refine zQ [1, 4] ?_
 refine Yj ?_
 refine zQ [1, 4, 5] ?_
 refine Zm (t := (a0.kind == 1)) rfl (fun c2 => ?_) (fun c2 => ?_)
 ·replace h := Zo c2 h
  refine zQ [2] ?_
  exact Z4 [(vI a0.words)]
 replace h := Zn c2 h
 refine zQ [9] ?_
 refine Zm (t := (a0.kind == 10)) rfl (fun c1 => ?_) (fun c1 => ?_)
 ·replace h := Zo c1 h
  refine zQ [2] ?_
  exact Z4 [(vI 1)]
 replace h := Zn c1 h
 refine J6 [] [false] ?_
 refine zQ [2] ?_
 exact Z4 [(vI 0)]
theorem Zo0 {a0 : Zb} {r : (Int × Int)} {O : Objs} {n : Nat} (h : Za1 a0 = some r) : GTo Try.prog 121 [.agg (Zk a0)] O n (.tup [(vI r.1), (vI r.2)]) O n := by
 unfold Za1 at h
 refine zFn Try.call121 Try.func121 fun hU hN0 hN => ?_
 show W _ _ _ _ ⟨11, [], [(0, .agg (Zk a0))]⟩ (Zr O n []) _
 refine zQ [1] ?_
 refine Zg ?_
 refine zQ [1, 6] ?_
 refine Zm (t := (a0.kind != 9)) rfl (fun c1 => ?_) (fun c1 => ?_)
 ·replace h := Zo c1 h
  refine zQ [2, 3] ?_
  exact Z4 [(vI 0), (vI 0)]
 replace h := Zn c1 h
 refine J6 [1] [true] ?_
 refine Zc2 [2, 3] (Q8 Zv (by kernel_rfl) [] (by kernel_rfl) ?_)
 refine zS ?_
 exact Z4 [(vI a0.words), (vI a0.ptrs)]
theorem Zlm {a0 : Zb} {r : Int} {O : Objs} {n : Nat} (h : Zan a0 = some r) : GTo Try.prog 87 [.agg (Zk a0)] O n ((vI r)) O n := by
 unfold Zan at h
 refine zFn Try.call87 Try.func87 fun hU hN0 hN => ?_
 show W _ _ _ _ ⟨35, [], [(0, .agg (Zk a0))]⟩ (Zr O n []) _
 refine zQ [1] ?_
 refine Zg ?_
 refine Zg ?_
 obtain ⟨y2, hy2, h⟩ := bC h
 refine zCd (Xl hy2) [1, 6] [true] ?_
 refine Yj ?_
 refine zQ [1, 6, 7] ?_
 refine Zm (t := (y2 == 0)) rfl (fun c15 => ?_) (fun c15 => ?_)
 ·replace h := Zo c15 h
  refine zQ [2] ?_
  exact Z4 [(vI 0)]
 replace h := Zn c15 h
 refine zQ [1, 6, 9] ?_
 refine Zm (t := (y2 == 1)) rfl (fun c14 => ?_) (fun c14 => ?_)
 ·replace h := Zo c14 h
  refine Zg ?_
  obtain ⟨y5, hy5, h⟩ := bC h
  obtain ⟨y6, hy6, h⟩ := bC h
  refine Q8 Zv (by kernel_rfl) [] (by kernel_rfl) ?_
  refine zS ?_
  refine PCall.of (Zad hy5) ?_
  refine zS ?_
  refine PCall.of (Xk hy6) ?_
  refine zS ?_
  refine zD [2] [false] ?_
  exact Z4 [(vI (IntKind.i64.wrap ((IntKind.i64.wrap (1 + y5)) + y6)))]
 replace h := Zn c14 h
 refine zQ [1, 17] ?_
 refine Zm (t := (y2 == 9)) rfl (fun c13 => ?_) (fun c13 => ?_)
 ·replace h := Zo c13 h
  refine Zg ?_
  obtain ⟨y8, hy8, h⟩ := bC h
  refine zCd (Zo0 hy8) [1, 3, 4] [true] ?_
  refine Zg ?_
  obtain ⟨y10, hy10, h⟩ := bC h
  refine zCd (Xk hy10) [2] [false] ?_
  exact Z4 [(vI (IntKind.i64.wrap (1 + (IntKind.i64.wrap (y10 * (IntKind.i64.wrap ((IntKind.i64.wrap (1 + y8.1)) + y8.2)))))))]
 replace h := Zn c13 h
 refine J6 [1] [true] ?_
 refine Zg ?_
 obtain ⟨y12, hy12, h⟩ := bC h
 refine zCd (Xk hy12) [2] [false] ?_
 exact Z4 [(vI (IntKind.i64.wrap (1 + y12)))]
theorem Zek {a0 : Zb} {a1 : Int} {r : (Zb × Int)} {O : Objs} {n : Nat} (h : Jx a0 a1 = some r) : GTo Try.prog 28 [.agg (Zk a0), (vI a1)] O n (.tup [.agg (Zk r.1), (vI r.2)]) O n := by
 unfold Jx at h
 refine zFn Try.call28 Try.func28 fun hU hN0 hN => ?_
 show W _ _ _ _ ⟨81, [], [(0, .agg (Zk a0)), (1, (vI a1))]⟩ (Zr O n []) _
 refine zQ [1, 2, 4] ?_
 refine Zg ?_
 obtain ⟨z2, hz2, h⟩ := bC h
 refine Xo (E' := ⟨81, [], [(1, (vI a1)), (2, .ref n 0), (4, .ref (n + 1) 0), (14, (vB z2))]⟩) (O' := (Zr O n [some ⟨false, 50, 9, 1, (Zk a0)⟩, some ⟨false, 50, 9, 1, [.val (.pointer none), (vI 0), (vI 0), (vI 0), (vI 0), (vI 0), (vI 0), (vI 0), (vI 0)]⟩])) (n0 := (n + 2)) ?_ ?_
 ·rcases Bool.eq_false_or_eq_true (decide (a1 < 0)) with c5 | c5
  ·replace hz2 := Zo c5 hz2
   refine K9 [some false, some false, some false, some false] c5 ?_
   exact Kp hz2 c5
  replace hz2 := Zn c5 hz2
  obtain ⟨y4, hy4, hz2⟩ := bC hz2
  refine K9 [some true, some true, some true, some true] c5 ?_
  refine (Xk hy4).then ?_
  refine zX1 c5 ?_
  exact Kp hz2 c5
 refine Zm (t := z2) rfl (fun c13 => ?_) (fun c13 => ?_)
 ·replace h := Zo c13 h
  refine Zg ?_
  refine zRd [4, 5] [false, true] ?_
  exact Z4 [.agg [.val (.pointer none), (vI 0), (vI 0), (vI 0), (vI 0), (vI 0), (vI 0), (vI 0), (vI 0)], (vI 0)]
 replace h := Zn c13 h
 refine J6 [1, 2, 4] [true, true] ?_
 refine Zg ?_
 refine zQ [1, 2, 4, 17] ?_
 refine Yj ?_
 refine zQ [1, 2, 4, 17, 18] ?_
 refine Zm (t := (a0.kind == 1)) rfl (fun c12 => ?_) (fun c12 => ?_)
 ·replace h := Zo c12 h
  refine Zg ?_
  obtain ⟨y7, hy7, h⟩ := bC h
  refine zCd (Zk2 hy7) [4, 5] [false, true] ?_
  exact Z4 [.agg (Zk y7.1), (vI y7.2)]
 replace h := Zn c12 h
 refine zQ [1, 2, 4, 17, 34] ?_
 refine Zm (t := (a0.kind == 8)) rfl (fun c11 => ?_) (fun c11 => ?_)
 ·replace h := Zo c11 h
  refine Zg ?_
  obtain ⟨y9, hy9, h⟩ := bC h
  refine zCd (Zk2 hy9) [4, 5] [false, true] ?_
  exact Z4 [.agg (Zk y9.1), (vI y9.2)]
 replace h := Zn c11 h
 refine zQ [1, 2, 4, 47] ?_
 refine Zm (t := (a0.kind == 9)) rfl (fun c10 => ?_) (fun c10 => ?_)
 ·replace h := Zo c10 h
  refine zQ [2, 4, 6] ?_
  refine Zg ?_
  refine zRd [4, 5] [false, true] ?_
  exact Z4 [.agg [(gP Zl a0.a), (vI 1), (vI a0.segment), (vI (IntKind.i64.wrap ((IntKind.i64.wrap (a0.at_ + 1)) + (IntKind.i64.wrap (a1 * (IntKind.i64.wrap (a0.words + a0.ptrs))))))), (vI a0.words), (vI a0.ptrs), (vI 0), (vI 0), (vI 0)], (vI 0)]
 replace h := Zn c10 h
 refine J6 [1, 2, 4] [true, true] ?_
 refine Zg ?_
 refine zRd [4, 5] [false, true] ?_
 exact Z4 [.agg [(gP Zl a0.a), (vI 10), (vI a0.segment), (vI a0.at_), (vI 0), (vI 0), (vI 0), (vI (IntKind.i64.wrap (a0.kind - 2))), (vI a1)], (vI 0)]
end Go.Proofs.Ytpfbdlcnfekdkaa
