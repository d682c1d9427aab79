/- Part IM3 of this seat's mirrors: functions of the seat's program, and the plain functions that they are; each theorem bears its own conditions. -/
import Derived.Test.YtgffgbdnbjbmoaaIE
import Derived.Test.YtgffgbdnbjbmoaaIM1
namespace Go.Proofs.Ytgffgbdnbjbmoaa
open Go.RowKit
set_option linter.unusedVariables false
set_option linter.unusedSimpArgs false
set_option maxRecDepth 100000
set_option maxHeartbeats 4000000
attribute [local push_cast] Try.results14 Try.results17 Try.results19 Try.results20 Try.results21 Try.results22 Try.results30 Try.results31 Try.results5 Try.results51 Try.results52 Try.results6 Try.results7 vI vB nV sL oR Za1 Zct Ug Z3 X2 Zc Zne Znd Zof Zoe Xs Yy Zj2 Zfv Zfu onW Yz Gi Uj Zj3 Zj4 Zh3 Zh7 Zh2 Zh6 Zla Zk6 Zh5 Zk9 Zk8 Zk7 Zh4 Zk4 Zgg evS wok Xk Op.operands Call.operands gop onK onP atK List.all_cons List.all_nil Bool.and_true Bool.true_and Bool.and_self Value.oneCell' List.take_zero List.take_succ_cons List.take_nil List.drop_zero List.drop_succ_cons List.drop_nil List.append_nil Nat.add_zero Nat.zero_add Jl Zw ev Xq Zfs Zm5 Zm4 Zna Zm8 Zm9 Zm6 Zm7 Zm3 Zj0 Zlv Zqr Zdx Zab Zdb Gl Zho Zbw Zdh Zdm Zfn Zfj Zdk Zfm Zfl Zfk Zdj Zfh Zdi Zdl Zcu Zfi Ze2 Zfw Uk Zeq Ul Zft Zds Znj bLo bHi bMx Zac Zfr Zrz Zdq Ze7 Zbr K5 Zme Zr2 Zeo Zcb Zr5 Zaa Zuj Zke Zki Zkd Zkh Zn0 Znw Znu Zhq Zkf Znz Zny Znx Zkg Znv Zdv Zir Zkt Zge Zgd pop TK.isAgg Zn9 Zod Zn8 Zoc Zko Zsh Zsd Zob Zsg Zsf Zse Zoa Zsc G.under G.unders List.getD_cons_zero List.getD_cons_succ List.set_cons_zero List.set_cons_succ List.map_cons List.map_nil List.toList_toArray Array.toList_append Option.toArray_none Option.toArray_some Array.toList_map Option.map_some Option.map_none Option.bind_some Option.bind_none List.getElem?_cons_zero List.getElem?_cons_succ List.getElem?_nil List.nil_append List.cons_append List.replicate_succ List.replicate_zero List.length_cons List.length_nil and_true true_and and_false false_and Bool.true_eq_false Bool.false_eq_true forall_const false_implies implies_true IntKind.bits if_true if_false ite_true ite_false eq_self true_implies false_or or_false or_true true_or not_true_eq_false not_false_eq_true decide_true decide_false decide_eq_true_eq decide_eq_false_iff_not beq_iff_eq bne_iff_ne ne_eq Bool.not_eq_true Bool.not_eq_false beq_eq_false_iff_ne bne_eq_false_iff_eq beq_self_eq_true bne_self_eq_false Option.some.injEq exists_eq_left' exists_eq_left ge_iff_le gt_iff_lt decide_not Bool.not_true Bool.not_false imp_self Zr4 cond_true cond_false Zz3 Zz2 Bool.not_not Bool.and_false Bool.false_and Bool.or_true Bool.true_or Bool.or_false Bool.false_or Ur Zgq Zaq G8 Qy X9 Option.join_some Nat.add_assoc Int.toNat_natCast eI eB eS eL Q1 Zep Zdt Zni Zng Znh Zuv Zwa Zeu Zd8 Zoo Zom Zon Zrd Zfo Zql Zg6 Zmu Zen Zrx List.length_append G.agg.injEq G.row.injEq G.ref.injEq G.val.injEq G.sl.injEq G.tup.injEq Value.int.injEq Value.bool.injEq Value.string.injEq List.cons.injEq exists_and_left exists_const List.flatten_cons List.flatten_nil Int.le_refl Nat.le_refl Gg Y4 Qi Bool.not_eq_true' Bool.not_eq_false' Zp6 Zej Ztc Ztg Ztb Ztf Zx3 Zxy List.size_toArray Ziv Zkv G.ren G.rens Zl1 Zb3 Zos Zm0 Zm1 Zk5 Zth U6 G.fn.injEq Zg7 Zls Zp5 Zxz Zlr Zte Zx2 Zx1 Zx0 Ztd Zr9 Zvz Option.join_none Yd Vw undef Ze9 Arr.len Arr.put_eq Zet Zhu Zga Zd7 Zol Zoj Zok onB Zuu Zmd Zk1 Zhj Zjb Zjc Zjd Zje Zjf Zjg Zhr Zhx Zhv Zgc Zd9 Zhw Zks Zkr Zkq Zkp Zv9 Zyu Zrc Zog Q8 Zq5 Zis Zhy Zgb Zsi Zk3 Zdp Ze6 Zat Zg4 Zjh Zji Zjj Zjk Zg9 Zha Zhb Zhc Zhd Zhe Zhf Za2 prT Zae Z0l Zs1 Ziw Zs2 Z0m Zs3 Z0n Zs4 Z0o Zs5 Z0p Zs6 Z0q Zs7 Z0r Zs8 Zwl Zox Zwm Zoy Zwn Zoz Zwo Zo0 Zwp Zo1 Zwq Zo2 Zwr Zo3 Zws Zo4 Zwt Zo5 Zwu Zo6 Zwv Zo7 Zww Zo8 Zwx Zo9 Zwy Zpa Zin Zi7 Zwz Zpb Zw0 Zpc Zw1 Zpd Zw2 Zi8 Zw3 Zpe Zw4 Zpf Zw5 Zpg Zio Zph Zw6 Zpi Zw7 Zi9 Zw8 Zpj Zw9 Zpk Zxa Zpl Zxb Zpm Zxc Zpn Zxd Zpo Zxe Zpp Zxf Zpq Zxg Zpr Zxh Zps Zxi Zpt Zxj Zpu Zlb Zpv Zxk Zpw Zxl Zpx Zxm Zpy Zxn Zpz Zxo Zp0 Zxp Zp1 Zxq Zp2 Zsn Zlc Zso Zld Zsp Zle Zsq Zlf Zsr Zlg Zss Zlh Zst Zli Zsu Zlj Zsv Zlk Zsw Zll Zsx Zlm Zsy Zln Zsz Zlo Zgn Zgl Zf3 Zf8 Zgp Zeh Zee Zec Zgj Zb6 Zb5 Zbx Zb2 Zb7 Zbm Zbf Zbe Zb4 Zg V9 V8 V2 V6 Ua Vm Vh Vg V7 Zdo Zgm Zgk Zf2 Zf7 Zgo Zeg Zed Zeb Zgi Zdn Za4 Zs Vp Vn K7 Ve Vt Kx Ku Ks Vj Zb Zm K0 Kz Kp Kr K1 Ke Kb Ka Kw Vq Vo K8 Vf Vu Ky Kv Kt Vk Zp Kg Kf J3 J9 Kh Jv Js Jr Kc Z4 Jo G3 Gz Gp Gs G5 Gf Ga U8 Gx Za3 Uh Ui G0 Gy Gn Gr G4 Ge U9 U7 Gw
theorem Zl0  {r : Zj} {O : Objs} {n : Nat}  (h : Zar = some r) : GTo Try.prog 14 [] O n (.ref n 0) (Zn O n [some ⟨false, 79, 2, 1, [.row (n + 1) r.classes.length, .row (n + 2) r.places.length]⟩, some (oR 82 10 Zb r.classes), some (oR 3 1 (eI .i64) r.places)]) (n + 3) := by
 unfold Zar at h
 refine zFn Try.call14 Try.func14 fun hU hN0 hN => ?_
 show W _ _ _ _ ⟨3, [], []⟩ (Zn O n []) _
 refine zQ [] ?_
 refine zQ [0] ?_
 refine zW ?_
 obtain rfl := sI h
 refine Zqj (k := 3) (L3 := [some ⟨false, 79, 2, 1, [.row (n + 1) ([] : List Zd).length, .row (n + 2) ([] : List Int).length]⟩, some (oR 82 10 Zb ([] : List Zd)), some (oR 3 1 (eI .i64) ([] : List Int)), none]) (E2 := (⟨3, [], [(0, .ref n 0)]⟩ : Env)) (n3 := (n + 4)) (.inr rfl) hU rfl [.ref n 0] ?_ ?_
 ·refine Fit2.trans (E' := (⟨3, [], [(0, .ref n 0)]⟩ : Env)) (O' := (Zn O n [some ⟨false, 79, 2, 1, [nV, nV]⟩])) (n' := (n + 1)) (Fit2.of (X7 hU rfl rfl ?_) (by omega)) ?_
  ·exact zSe
  refine Fit2.trans (Zjn (p := n) (k := 0) (q := ⟨false, 79, 2, 1, [nV, nV]⟩) 82 10 (by simp only [Ur, Zgq, List.getElem?_cons_zero, List.getElem?_cons_succ, Option.join_some, List.length_nil, Yd]) rfl (by omega)) ?_
  simp only [Qy, X9, Zaq, G8, List.set_cons_zero, List.set_cons_succ, List.cons_append, List.nil_append, List.length_cons, List.length_nil, Nat.zero_add, Nat.reduceAdd, Nat.reduceLT, Nat.add_assoc]
  refine Fit2.trans (Zjn (p := n) (k := 1) (q := ⟨false, 79, 2, 1, [.row (n + 1) ([] : List Zd).length, nV]⟩) 3 1 (by simp only [Ur, Zgq, List.getElem?_cons_zero, List.getElem?_cons_succ, Option.join_some, List.length_nil, Yd]) rfl (by omega)) ?_
  simp only [Qy, X9, Zaq, G8, List.set_cons_zero, List.set_cons_succ, List.cons_append, List.nil_append, List.length_cons, List.length_nil, Nat.zero_add, Nat.reduceAdd, Nat.reduceLT, Nat.add_assoc]
  refine Zoq (k := 3) (k' := 4) hU [0, 1, 2] [0, 1, 2, 0] rfl rfl rfl rfl ⟨rfl, rfl⟩ ?_
  exact zSe
 simp only [push_cast, seval, ↓reduceIte, Zi, Try.results14, hN0, hN]
theorem Zd3 {a0 : Zj} {a1 : Za} {r : ((List Int) × Int × Zj)} {O : Objs} {n : Nat} {i0 j0_0 j0_1 : Nat} (hi0 : i0 < n) (Zij : j0_0 < n) (Zik : j0_1 < n) (Zdz : i0 ≠ j0_0) (Za8 : i0 ≠ j0_1) (Za7 : j0_0 ≠ j0_1) (ho0 : O i0 = some ⟨false, 79, 2, 1, [.row j0_0 a0.classes.length, .row j0_1 a0.places.length]⟩) (Zj8 : O j0_0 = some (oR 82 10 Zb a0.classes)) (Zj9 : O j0_1 = some (oR 3 1 (eI .i64) a0.places)) (h : Qs a0 a1 = some r) : GTo Try.prog 21 [.ref i0 0, .agg (Zc a1)] O n (.tup [(sL (eI .i64) r.1), (vI r.2.1)]) (Zn (((O.upd j0_0 none).upd j0_1 none).upd i0 (some ⟨false, 79, 2, 1, [.row n r.2.2.classes.length, .row (n + 1) r.2.2.places.length]⟩)) n [some (oR 82 10 Zb r.2.2.classes), some (oR 3 1 (eI .i64) r.2.2.places)]) (n + 2) := by
 unfold Qs at h
 refine Zgw Zy Try.call21 Try.func21 rfl (Nat.le_of_ble_eq_true rfl) (by omega) fun hU => ?_
 have e0 := Zcp (ba := n) (E := ⟨73, [], Zfs 0 [.ref i0 0, .agg [(gP Zg a1.a), .val (.int .i64 a1.kind), .val (.int .i64 a1.segment), .val (.int .i64 a1.at_), .val (.int .i64 a1.words), .val (.int .i64 a1.ptrs), .val (.int .i64 a1.count), .val (.int .i64 a1.code), .val (.int .i64 a1.index)]]⟩) (O := (Zn O n [])) (n := n) (i := i0) (j := j0_0) (k := 0) (len := a0.classes.length) (q := ⟨false, 79, 2, 1, [.row j0_0 a0.classes.length, .row j0_1 a0.places.length]⟩) (qj := ⟨true, 82, 10, a0.classes.length, fl Zb a0.classes⟩) (by rw [Y4 _ hi0]; first | exact ho0 | exact Yd _ _ _) rfl (by rw [Y4 _ Zij]; exact Zj8) Zdz (by omega)
 simp only [Qi _ _ Zij, Qi _ _ hi0, Qy, X9, Gg, Zh9 Zdz, List.set_cons_zero, List.set_cons_succ, List.cons_append, List.nil_append, List.length_cons, List.length_nil, Nat.zero_add, Nat.reduceAdd, Nat.add_assoc] at e0
 refine Zbv e0 ?_
 have e1 := Zcp (ba := n) (E := ⟨73, [], Zfs 0 [.ref i0 0, .agg [(gP Zg a1.a), .val (.int .i64 a1.kind), .val (.int .i64 a1.segment), .val (.int .i64 a1.at_), .val (.int .i64 a1.words), .val (.int .i64 a1.ptrs), .val (.int .i64 a1.count), .val (.int .i64 a1.code), .val (.int .i64 a1.index)]]⟩) (O := (Zn ((O.upd j0_0 none).upd i0 (some ⟨false, 79, 2, 1, [.row n a0.classes.length, .row j0_1 a0.places.length]⟩)) n [some ⟨true, 82, 10, a0.classes.length, fl Zb a0.classes⟩])) (n := (n + 1)) (i := i0) (j := j0_1) (k := 1) (len := a0.places.length) (q := ⟨false, 79, 2, 1, [.row n a0.classes.length, .row j0_1 a0.places.length]⟩) (qj := ⟨true, 3, 1, a0.places.length, fl (eI .i64) a0.places⟩) (by rw [Y4 _ hi0]; first | exact ho0 | exact Yd _ _ _) rfl (by rw [Y4 _ Zik, Yx _ _ (Ne.symm Za8), Yx _ _ (Ne.symm Za7)]; exact Zj9) Za8 (by omega)
 simp only [Qi _ _ Zik, Qi _ _ hi0, Qy, X9, Gg, Zh9 Za8, List.set_cons_zero, List.set_cons_succ, List.cons_append, List.nil_append, List.length_cons, List.length_nil, Nat.zero_add, Nat.reduceAdd, Nat.add_assoc] at e1
 refine Zbv e1 ?_
 have hU := (Und.drop (Und.drop hU j0_0) j0_1)
 have hk0 : ∀ k, i0 < n + k := fun k => by omega
 have hN0 : ∀ o, Objs.upd ((O.upd j0_0 none).upd j0_1 none) i0 o n = none := fun o => X1 hU hi0 _ (Nat.le_refl _)
 have hN : ∀ o k, Objs.upd ((O.upd j0_0 none).upd j0_1 none) i0 o (n + k) = none := fun o k => X1 hU hi0 _ (Nat.le_add_right _ _)
 show W _ _ _ _ ⟨73, [], [(0, .ref i0 0), (1, .agg (Zc a1))]⟩ (Zn (((O.upd j0_0 none).upd j0_1 none).upd i0 (some ⟨false, 79, 2, 1, [.row n a0.classes.length, .row (n + 1) a0.places.length]⟩)) n [some (oR 82 10 Zb a0.classes), some (oR 3 1 (eI .i64) a0.places)]) _
 refine X5 [0, 3] hi0 hk0 ?_
 refine Zh ?_
 refine Zh ?_
 refine X4 [some false, some false, some false] hi0 hk0 ?_
 refine zD [0, 3, 22] [true, true, true] ?_
 refine Zo (t := false) rfl (fun hc => by cases hc) (fun _ => ?_)
 refine K4 [0, 3] [true, true, true] ?_
 refine X5 [0, 3, 6] hi0 hk0 ?_
 refine Zh ?_
 refine Zh ?_
 obtain ⟨y2, hy2, h⟩ := bC h
 refine X4 [] hi0 hk0 ?_
 refine (Qe hy2).then ?_
 refine zX2 hi0 hk0 ?_
 refine zD [0, 3, 6, 24, 25] [true, true, true] ?_
 refine zD [0, 3, 6, 24, 25] [true, true, true] ?_
 refine Zbv (E' := (⟨73, [], [(0, .ref i0 0), (3, .ref (n + 2) 0), (6, .row (n + 3) ([] : List Zd).length), (24, (vI y2)), (25, (vI 0))]⟩ : Env)) (O' := (Zn (((O.upd j0_0 none).upd j0_1 none).upd i0 (some ⟨false, 79, 2, 1, [.row n a0.classes.length, .row (n + 1) a0.places.length]⟩)) n [some (oR 82 10 Zb a0.classes), some (oR 3 1 (eI .i64) a0.places), some ⟨false, 35, 9, 1, (Zc a1)⟩, some (oR 82 10 Zb ([] : List Zd)), none])) (n' := (n + 5)) ?_ ?_
 ·refine Fit2.trans (E' := (⟨73, [], [(0, .ref i0 0), (3, .ref (n + 2) 0), (6, nV), (24, (vI y2)), (25, (vI 0))]⟩ : Env)) (O' := (Zn (((O.upd j0_0 none).upd j0_1 none).upd i0 (some ⟨false, 79, 2, 1, [.row n a0.classes.length, .row (n + 1) a0.places.length]⟩)) n [some (oR 82 10 Zb a0.classes), some (oR 3 1 (eI .i64) a0.places), some ⟨false, 35, 9, 1, (Zc a1)⟩])) (n' := (n + 3)) (Fit2.of (Zq hU rfl rfl ?_) (by omega)) ?_
  ·exact Yq hi0 hk0
  refine Fit2.trans (Zel 6 82 10 rfl (by omega)) ?_
  simp only [Qy, X9, Zaq, G8, List.set_cons_zero, List.set_cons_succ, List.cons_append, List.nil_append, List.length_cons, List.length_nil, Nat.zero_add, Nat.reduceAdd, Nat.reduceLT, Nat.add_assoc, Qi, hi0, hk0, hN0, hN]
  refine Fit2.trans (E' := (⟨73, [], [(0, .ref i0 0), (3, .ref (n + 2) 0), (6, .row (n + 3) ([] : List Zd).length), (24, (vI y2)), (25, (vI 0))]⟩ : Env)) (O' := (Zn (((O.upd j0_0 none).upd j0_1 none).upd i0 (some ⟨false, 79, 2, 1, [.row n a0.classes.length, .row (n + 1) a0.places.length]⟩)) n [some (oR 82 10 Zb a0.classes), some (oR 3 1 (eI .i64) a0.places), some ⟨false, 35, 9, 1, (Zc a1)⟩, some (oR 82 10 Zb ([] : List Zd))])) (n' := (n + 4)) (Fit2.of (Zq hU rfl rfl ?_) (by omega)) ?_
  ·exact Yq hi0 hk0
  refine Y0 (k := 4) (k' := 5) hU [0, 1, 2, 3] [0, 1, 2, 3, 0] rfl rfl rfl rfl ⟨rfl, rfl⟩ ?_
  exact Yq hi0 hk0
 obtain ⟨z11, hz11, h⟩ := bC h
 refine Zcs (J := (K3 (fun z11 => JR n (⟨73, [], [(4, nV), (5, (vI z11))]⟩ : Env) (Zn (((O.upd j0_0 none).upd j0_1 none).upd i0 (some ⟨false, 79, 2, 1, [.row n a0.classes.length, .row (n + 1) a0.places.length]⟩)) n [some (oR 82 10 Zb a0.classes), some (oR 3 1 (eI .i64) a0.places), none]) (n + 3)) (fun z11 => JX 0 n (⟨73, [], [(0, .ref i0 0), (6, .row (n + 3) z11.length)]⟩ : Env) (Zn (((O.upd j0_0 none).upd j0_1 none).upd i0 (some ⟨false, 79, 2, 1, [.row n a0.classes.length, .row (n + 1) a0.places.length]⟩)) n [some (oR 82 10 Zb a0.classes), some (oR 3 1 (eI .i64) a0.places), none, some (oR 82 10 Zb z11), none]) (n + 5)))) (z := z11) ?_ fun hw => ?_
 ·refine Jy hz11 (fun s0_ => ⟨73, [], [(0, .ref i0 0), (3, .ref (n + 2) 0), (6, .row (n + 3) s0_.2.length), (24, (vI y2)), (25, (vI s0_.1))]⟩) (fun s0_ => (Zn (((O.upd j0_0 none).upd j0_1 none).upd i0 (some ⟨false, 79, 2, 1, [.row n a0.classes.length, .row (n + 1) a0.places.length]⟩)) n [some (oR 82 10 Zb a0.classes), some (oR 3 1 (eI .i64) a0.places), some ⟨false, 35, 9, 1, (Zc a1)⟩, some (oR 82 10 Zb s0_.2), none])) (K3 (fun z11 => JR n (⟨73, [], [(4, nV), (5, (vI z11))]⟩ : Env) (Zn (((O.upd j0_0 none).upd j0_1 none).upd i0 (some ⟨false, 79, 2, 1, [.row n a0.classes.length, .row (n + 1) a0.places.length]⟩)) n [some (oR 82 10 Zb a0.classes), some (oR 3 1 (eI .i64) a0.places), none]) (n + 3)) (fun z11 => JX 0 n (⟨73, [], [(0, .ref i0 0), (6, .row (n + 3) z11.length)]⟩ : Env) (Zn (((O.upd j0_0 none).upd j0_1 none).upd i0 (some ⟨false, 79, 2, 1, [.row n a0.classes.length, .row (n + 1) a0.places.length]⟩)) n [some (oR 82 10 Zb a0.classes), some (oR 3 1 (eI .i64) a0.places), none, some (oR 82 10 Zb z11), none]) (n + 5))) ?_
  intro s0_ x0_ hs0_
  unfold Xd at hs0_
  try dsimp only
  refine X5 [0, 3, 6, 24, 25, 26] hi0 hk0 ?_
  refine Zh ?_
  refine Zo (t := (decide (s0_.1 < y2))) rfl (fun c10 => ?_) (fun c10 => ?_)
  ·replace hs0_ := Zu c10 hs0_
   refine K4 [0, 3, 6, 24, 25] [true, true, true, true, false] ?_
   refine Zh ?_
   refine X6 ?_
   refine X5 [0, 3, 6, 7, 24, 25] hi0 hk0 ?_
   refine Zh ?_
   obtain ⟨y4, hy4, hs0_⟩ := bC hs0_
   refine X4 [] hi0 hk0 ?_
   refine (Qo hy4).then ?_
   refine zX2 hi0 hk0 ?_
   refine zDs [0, 3, 6, 8, 9, 24, 25] [true, true, true, true, false, true] ?_
   refine X5 [0, 3, 6, 8, 9, 24, 25, 35] hi0 hk0 ?_
   refine Zo (t := (y4.2 != 0)) rfl (fun c9 => ?_) (fun c9 => ?_)
   ·replace hs0_ := Zu c9 hs0_
    refine X5 [4, 5] hi0 hk0 ?_
    refine zW ?_
    obtain rfl := sI hs0_
    refine And.intro (fun h => by cases h) (And.intro rfl (Fit2.of (Zq hU rfl rfl ?_) (by omega)))
    exact Yq hi0 hk0
   replace hs0_ := Zt c9 hs0_
   refine K4 [0, 3, 6, 8, 24, 25] [true, true, true, true, false, true] ?_
   refine Zh ?_
   obtain ⟨y6, hy6, hs0_⟩ := bC hs0_
   refine X4 [] hi0 hk0 ?_
   refine (Zfb hy6).then ?_
   refine zX2 hi0 hk0 ?_
   refine zDs [0, 3, 6, 8, 9, 10, 24, 25] [true, true, true, true, false, true] ?_
   refine X5 [0, 3, 6, 8, 9, 10, 24, 25, 43] hi0 hk0 ?_
   refine Zo (t := (y6.2 != 0)) rfl (fun c8 => ?_) (fun c8 => ?_)
   ·replace hs0_ := Zu c8 hs0_
    refine X5 [4, 5] hi0 hk0 ?_
    refine zW ?_
    obtain rfl := sI hs0_
    refine And.intro (fun h => by cases h) (And.intro rfl (Fit2.of (Zq hU rfl rfl ?_) (by omega)))
    exact Yq hi0 hk0
   replace hs0_ := Zt c8 hs0_
   refine K4 [0, 3, 6, 8, 10, 24, 25] [true, true, true, true, false, true] ?_
   obtain ⟨l7, pl7, ql7, el7, hs0_⟩ := bA (k := 1) rfl hs0_
   refine Zzx [] pl7 ql7 el7 hi0 hk0 ?_
   refine Zbp ⟨73, [], [(0, .ref i0 0), (3, .ref (n + 2) 0), (6, .row (n + 3) l7.length), (24, (vI y2)), (25, (vI s0_.1))]⟩ (Zn (((O.upd j0_0 none).upd j0_1 none).upd i0 (some ⟨false, 79, 2, 1, [.row n a0.classes.length, .row (n + 1) a0.places.length]⟩)) n [some (oR 82 10 Zb a0.classes), some (oR 3 1 (eI .i64) a0.places), some ⟨false, 35, 9, 1, (Zc a1)⟩, some (oR 82 10 Zb l7), none, none, none]) (Zq hU rfl rfl ?_) ?_
   ·exact Z0z pl7 ql7 el7 hi0 hk0
   refine X4 [] hi0 hk0 ?_
   obtain rfl := sI hs0_
   refine And.intro rfl (Fit2.of (Zq hU rfl rfl ?_) (by omega))
   exact Yq hi0 hk0
  replace hs0_ := Zt c10 hs0_
  refine zXt ?_
  obtain rfl := sI hs0_
  refine And.intro (fun h => by cases h) (And.intro rfl (Fit2.of (Zq hU rfl rfl ?_) (by omega)))
  exact Yq hi0 hk0
 rcases z11 with z11 | z11
 ·dsimp only [K3] at hw h
  refine Ut hw ?_
  try simp only [Xs, Yy, ↓reduceIte, Nat.reduceEqDiff]
  obtain rfl := sI h
  refine Xr (k := 2) (i := i0) (q1 := ⟨false, 79, 2, 1, [.row n a0.classes.length, .row (n + 1) a0.places.length]⟩) (L3 := [some (oR 82 10 Zb a0.classes), some (oR 3 1 (eI .i64) a0.places), none]) (E2 := (⟨73, [], [(4, nV), (5, (vI z11))]⟩ : Env)) (n3 := (n + 3)) (.inr rfl) hU rfl [nV, (vI z11)] ?_ ?_
  ·refine Fit2.trans (E' := (⟨73, [], [(4, nV), (5, (vI z11))]⟩ : Env)) (O' := (Zn (((O.upd j0_0 none).upd j0_1 none).upd i0 (some ⟨false, 79, 2, 1, [.row n a0.classes.length, .row (n + 1) a0.places.length]⟩)) n [some (oR 82 10 Zb a0.classes), some (oR 3 1 (eI .i64) a0.places), none])) (n' := (n + 3)) (Fit2.of (Zq hU rfl rfl ?_) (by omega)) ?_
   ·exact Yq hi0 hk0
   refine Y0 (k := 3) (k' := 3) hU [0, 1, 2] [0, 1, 0] rfl rfl rfl rfl ⟨rfl, rfl⟩ ?_
   exact Yq hi0 hk0
  simp only [push_cast, seval, ↓reduceIte, Zi, Try.results21, hi0, hk0, hN0, hN]
 dsimp only [K3] at hw h
 refine Qz hw ?_
 try simp only [Xs, Yy, ↓reduceIte, Nat.reduceEqDiff]
 refine zD [0, 6] [true, true, false, true, false] ?_
 refine X5 [0, 6, 11] hi0 hk0 ?_
 refine Zh ?_
 refine X5 [0, 11, 52, 53, 54] hi0 hk0 ?_
 refine zD [0, 11, 52, 53, 54] [true, true, false, true, false] ?_
 refine Zbv (E' := (⟨73, [], [(0, .ref i0 0), (11, .row (n + 5) ([] : List Int).length), (52, .row (n + 3) z11.length), (53, (vI (z11.length : Int))), (54, (vI 0))]⟩ : Env)) (O' := (Zn (((O.upd j0_0 none).upd j0_1 none).upd i0 (some ⟨false, 79, 2, 1, [.row (n + 6) a0.classes.length, .row (n + 7) a0.places.length]⟩)) n [none, none, none, some (oR 82 10 Zb z11), none, some (oR 3 1 (eI .i64) ([] : List Int)), some (oR 82 10 Zb a0.classes), some (oR 3 1 (eI .i64) a0.places)])) (n' := (n + 8)) ?_ ?_
 ·refine Fit2.trans (E' := (⟨73, [], [(0, .ref i0 0), (11, nV), (52, .row (n + 3) z11.length), (53, (vI (z11.length : Int))), (54, (vI 0))]⟩ : Env)) (O' := (Zn (((O.upd j0_0 none).upd j0_1 none).upd i0 (some ⟨false, 79, 2, 1, [.row n a0.classes.length, .row (n + 1) a0.places.length]⟩)) n [some (oR 82 10 Zb a0.classes), some (oR 3 1 (eI .i64) a0.places), none, some (oR 82 10 Zb z11), none])) (n' := (n + 5)) (Fit2.of (Zq hU rfl rfl ?_) (by omega)) ?_
  ·exact Yq hi0 hk0
  refine Fit2.trans (Zel 11 3 1 rfl (by omega)) ?_
  simp only [Qy, X9, Zaq, G8, List.set_cons_zero, List.set_cons_succ, List.cons_append, List.nil_append, List.length_cons, List.length_nil, Nat.zero_add, Nat.reduceAdd, Nat.reduceLT, Nat.add_assoc, Qi, hi0, hk0, hN0, hN]
  refine Fit2.trans (E' := (⟨73, [], [(0, .ref i0 0), (11, .row (n + 5) ([] : List Int).length), (52, .row (n + 3) z11.length), (53, (vI (z11.length : Int))), (54, (vI 0))]⟩ : Env)) (O' := (Zn (((O.upd j0_0 none).upd j0_1 none).upd i0 (some ⟨false, 79, 2, 1, [.row n a0.classes.length, .row (n + 1) a0.places.length]⟩)) n [some (oR 82 10 Zb a0.classes), some (oR 3 1 (eI .i64) a0.places), none, some (oR 82 10 Zb z11), none, some (oR 3 1 (eI .i64) ([] : List Int))])) (n' := (n + 6)) (Fit2.of (Zq hU rfl rfl ?_) (by omega)) ?_
  ·exact Yq hi0 hk0
  refine Y0 (k := 6) (k' := 8) hU [6, 7, 4, 3, 4, 5] [0, 0, 0, 3, 0, 5, 0, 1] rfl rfl rfl rfl ⟨rfl, rfl⟩ ?_
  exact Yq hi0 hk0
 obtain ⟨z19, hz19, h⟩ := bC h
 refine Zcs (J := (K3 (fun z19 => JR n (⟨73, [], [(4, nV), (5, (vI z19.1))]⟩ : Env) (Zn (((O.upd j0_0 none).upd j0_1 none).upd i0 (some ⟨false, 79, 2, 1, [.row (n + 5) z19.2.1.length, .row (n + 6) z19.2.2.length]⟩)) n [none, none, none, none, none, some (oR 82 10 Zb z19.2.1), some (oR 3 1 (eI .i64) z19.2.2)]) (n + 7)) (fun z19 => JX 2 n (⟨73, [], [(11, .row (n + 5) z19.1.length)]⟩ : Env) (Zn (((O.upd j0_0 none).upd j0_1 none).upd i0 (some ⟨false, 79, 2, 1, [.row (n + 6) z19.2.1.length, .row (n + 7) z19.2.2.length]⟩)) n [none, none, none, none, none, some (oR 3 1 (eI .i64) z19.1), some (oR 82 10 Zb z19.2.1), some (oR 3 1 (eI .i64) z19.2.2)]) (n + 8)))) (z := z19) ?_ fun hw => ?_
 ·refine Jy hz19 (fun s1_ => ⟨73, [], [(0, .ref i0 0), (11, .row (n + 5) s1_.2.1.length), (52, .row (n + 3) z11.length), (53, (vI (z11.length : Int))), (54, (vI s1_.1))]⟩) (fun s1_ => (Zn (((O.upd j0_0 none).upd j0_1 none).upd i0 (some ⟨false, 79, 2, 1, [.row (n + 6) s1_.2.2.1.length, .row (n + 7) s1_.2.2.2.length]⟩)) n [none, none, none, some (oR 82 10 Zb z11), none, some (oR 3 1 (eI .i64) s1_.2.1), some (oR 82 10 Zb s1_.2.2.1), some (oR 3 1 (eI .i64) s1_.2.2.2)])) (K3 (fun z19 => JR n (⟨73, [], [(4, nV), (5, (vI z19.1))]⟩ : Env) (Zn (((O.upd j0_0 none).upd j0_1 none).upd i0 (some ⟨false, 79, 2, 1, [.row (n + 5) z19.2.1.length, .row (n + 6) z19.2.2.length]⟩)) n [none, none, none, none, none, some (oR 82 10 Zb z19.2.1), some (oR 3 1 (eI .i64) z19.2.2)]) (n + 7)) (fun z19 => JX 2 n (⟨73, [], [(11, .row (n + 5) z19.1.length)]⟩ : Env) (Zn (((O.upd j0_0 none).upd j0_1 none).upd i0 (some ⟨false, 79, 2, 1, [.row (n + 6) z19.2.1.length, .row (n + 7) z19.2.2.length]⟩)) n [none, none, none, none, none, some (oR 3 1 (eI .i64) z19.1), some (oR 82 10 Zb z19.2.1), some (oR 3 1 (eI .i64) z19.2.2)]) (n + 8))) ?_
  intro s1_ x1_ hs1_
  unfold Xe at hs1_
  try dsimp only
  refine X5 [0, 11, 52, 53, 54, 55] hi0 hk0 ?_
  refine Zh ?_
  refine Zo (t := (decide (s1_.1 < (z11.length : Int)))) rfl (fun c18 => ?_) (fun c18 => ?_)
  ·replace hs1_ := Zu c18 hs1_
   refine K4 [0, 11, 52, 53, 54] [false, false, false, true, false, true, true, true] ?_
   refine Zh ?_
   refine X6 ?_
   refine Zh ?_
   obtain ⟨x13, hx13, ax13, bx13, cx13, hs1_⟩ := bE (f := Zb) Zlb (fun _ => rfl) (by decide) hs1_
   refine Zzw [] ax13 bx13 cx13 hi0 hk0 ?_
   refine zDs [0, 11, 13, 52, 53, 54] [false, false, false, true, false, true, true, true, true] ?_
   obtain ⟨y15, hy15, hs1_⟩ := bC hs1_
   refine X4 [] hi0 hk0 ?_
   refine (Zdf (i0 := i0) (j0_0 := (n + 6)) (j0_1 := (n + 7)) (by omega) (by omega) (by omega) (by omega) (by omega) (by omega) (by simp only [push_cast, seval, ↓reduceIte, Zi, Q1, hi0, hk0, hN0, hN] <;> rfl) (by simp only [push_cast, seval, ↓reduceIte, Zi, Q1, hi0, hk0, hN0, hN] <;> rfl) (by simp only [push_cast, seval, ↓reduceIte, Zi, Q1, hi0, hk0, hN0, hN] <;> rfl) hy15).then ?_
   refine zX2 hi0 hk0 ?_
   refine zDs [0, 11, 14, 15, 52, 53, 54] [false, false, false, true, false, true, false, false, false, true, true] ?_
   refine X5 [0, 11, 14, 15, 52, 53, 54, 65] hi0 hk0 ?_
   refine Zo (t := (y15.2.1 != 0)) rfl (fun c17 => ?_) (fun c17 => ?_)
   ·replace hs1_ := Zu c17 hs1_
    refine X5 [4, 5] hi0 hk0 ?_
    refine zW ?_
    obtain rfl := sI hs1_
    refine And.intro (fun h => by cases h) (And.intro rfl ?_)
    refine Fit2.trans (E' := (⟨73, [], [(4, nV), (5, (vI y15.2.1))]⟩ : Env)) (O' := (Zn (((O.upd j0_0 none).upd j0_1 none).upd i0 (some ⟨false, 79, 2, 1, [.row (n + 9) y15.2.2.classes.length, .row (n + 10) y15.2.2.places.length]⟩)) n [none, none, none, none, none, none, none, none, none, some (oR 82 10 Zb y15.2.2.classes), some (oR 3 1 (eI .i64) y15.2.2.places)])) (n' := (n + 11)) (Fit2.of (Zq hU rfl rfl ?_) (by omega)) ?_
    ·exact Yq hi0 hk0
    refine Y0 (k := 11) (k' := 7) hU [4, 4, 4, 4, 4, 4, 4, 4, 4, 5, 6] [0, 0, 0, 0, 0, 9, 10] rfl rfl rfl rfl ⟨rfl, rfl⟩ ?_
    exact Yq hi0 hk0
   replace hs1_ := Zt c17 hs1_
   refine K4 [0, 11, 14, 52, 53, 54] [false, false, false, true, false, true, false, false, false, true, true] ?_
   obtain ⟨l16, pl16, ql16, el16, hs1_⟩ := bA (k := 1) rfl hs1_
   refine Zzx [] pl16 ql16 el16 hi0 hk0 ?_
   refine Zbp ⟨73, [], [(0, .ref i0 0), (11, .row (n + 5) l16.length), (52, .row (n + 3) z11.length), (53, (vI (z11.length : Int))), (54, (vI s1_.1))]⟩ (Zn (((O.upd j0_0 none).upd j0_1 none).upd i0 (some ⟨false, 79, 2, 1, [.row (n + 9) y15.2.2.classes.length, .row (n + 10) y15.2.2.places.length]⟩)) n [none, none, none, some (oR 82 10 Zb z11), none, some (oR 3 1 (eI .i64) l16), none, none, none, some (oR 82 10 Zb y15.2.2.classes), some (oR 3 1 (eI .i64) y15.2.2.places), none]) (Zq hU rfl rfl ?_) ?_
   ·exact Z0z pl16 ql16 el16 hi0 hk0
   refine X4 [] hi0 hk0 ?_
   obtain rfl := sI hs1_
   refine And.intro rfl ?_
   refine Fit2.trans (E' := (⟨73, [], [(0, .ref i0 0), (11, .row (n + 5) l16.length), (52, .row (n + 3) z11.length), (53, (vI (z11.length : Int))), (54, (vI (IntKind.i64.wrap (s1_.1 + 1))))]⟩ : Env)) (O' := (Zn (((O.upd j0_0 none).upd j0_1 none).upd i0 (some ⟨false, 79, 2, 1, [.row (n + 9) y15.2.2.classes.length, .row (n + 10) y15.2.2.places.length]⟩)) n [none, none, none, some (oR 82 10 Zb z11), none, some (oR 3 1 (eI .i64) l16), none, none, none, some (oR 82 10 Zb y15.2.2.classes), some (oR 3 1 (eI .i64) y15.2.2.places), none])) (n' := (n + 12)) (Fit2.of (Zq hU rfl rfl ?_) (by omega)) ?_
   ·exact Yq hi0 hk0
   refine Y0 (k := 12) (k' := 8) hU [4, 4, 4, 3, 4, 5, 4, 4, 4, 6, 7, 4] [0, 0, 0, 3, 0, 5, 9, 10] rfl rfl rfl rfl ⟨rfl, rfl⟩ ?_
   exact Yq hi0 hk0
  replace hs1_ := Zt c18 hs1_
  refine zXt ?_
  obtain rfl := sI hs1_
  refine And.intro (fun h => by cases h) (And.intro rfl (Fit2.of (Zq hU rfl rfl ?_) (by omega)))
  exact Yq hi0 hk0
 rcases z19 with z19 | z19
 ·dsimp only [K3] at hw h
  refine Ut hw ?_
  try simp only [Xs, Yy, ↓reduceIte, Nat.reduceEqDiff]
  obtain rfl := sI h
  refine Xr (k := 2) (i := i0) (q1 := ⟨false, 79, 2, 1, [.row n z19.2.1.length, .row (n + 1) z19.2.2.length]⟩) (L3 := [some (oR 82 10 Zb z19.2.1), some (oR 3 1 (eI .i64) z19.2.2), none]) (E2 := (⟨73, [], [(4, nV), (5, (vI z19.1))]⟩ : Env)) (n3 := (n + 3)) (.inr rfl) hU rfl [nV, (vI z19.1)] ?_ ?_
  ·refine Fit2.trans (E' := (⟨73, [], [(4, nV), (5, (vI z19.1))]⟩ : Env)) (O' := (Zn (((O.upd j0_0 none).upd j0_1 none).upd i0 (some ⟨false, 79, 2, 1, [.row (n + 5) z19.2.1.length, .row (n + 6) z19.2.2.length]⟩)) n [none, none, none, none, none, some (oR 82 10 Zb z19.2.1), some (oR 3 1 (eI .i64) z19.2.2)])) (n' := (n + 7)) (Fit2.of (Zq hU rfl rfl ?_) (by omega)) ?_
   ·exact Yq hi0 hk0
   refine Y0 (k := 7) (k' := 3) hU [2, 2, 2, 2, 2, 0, 1] [5, 6, 0] rfl rfl rfl rfl ⟨rfl, rfl⟩ ?_
   exact Yq hi0 hk0
  simp only [push_cast, seval, ↓reduceIte, Zi, Try.results21, hi0, hk0, hN0, hN]
 dsimp only [K3] at hw h
 refine Qz hw ?_
 try simp only [Xs, Yy, ↓reduceIte, Nat.reduceEqDiff]
 refine zD [11] [false, false, false, false, false, true, true, true] ?_
 refine X5 [4, 5] hi0 hk0 ?_
 refine zW ?_
 obtain rfl := sI h
 refine Xr (k := 2) (i := i0) (q1 := ⟨false, 79, 2, 1, [.row n z19.2.1.length, .row (n + 1) z19.2.2.length]⟩) (L3 := [some (oR 82 10 Zb z19.2.1), some (oR 3 1 (eI .i64) z19.2.2), some (oR 3 1 (eI .i64) z19.1), none]) (E2 := (⟨73, [], [(4, .row (n + 2) z19.1.length), (5, (vI 0))]⟩ : Env)) (n3 := (n + 4)) (.inr rfl) hU rfl [.row (n + 2) z19.1.length, (vI 0)] ?_ ?_
 ·refine Fit2.trans (E' := (⟨73, [], [(4, .row (n + 5) z19.1.length), (5, (vI 0))]⟩ : Env)) (O' := (Zn (((O.upd j0_0 none).upd j0_1 none).upd i0 (some ⟨false, 79, 2, 1, [.row (n + 6) z19.2.1.length, .row (n + 7) z19.2.2.length]⟩)) n [none, none, none, none, none, some (oR 3 1 (eI .i64) z19.1), some (oR 82 10 Zb z19.2.1), some (oR 3 1 (eI .i64) z19.2.2)])) (n' := (n + 8)) (Fit2.of (Zq hU rfl rfl ?_) (by omega)) ?_
  ·exact Yq hi0 hk0
  refine Y0 (k := 8) (k' := 4) hU [3, 3, 3, 3, 3, 2, 0, 1] [6, 7, 5, 0] rfl rfl rfl rfl ⟨rfl, rfl⟩ ?_
  exact Yq hi0 hk0
 simp only [push_cast, seval, ↓reduceIte, Zi, Try.results21, hi0, hk0, hN0, hN]
theorem U4 {a0 : (List Int)} {a1 : (List Int)} {r : Bool} {O : Objs} {n : Nat} (h : X8 a0 a1 = some r) : GTo Try.prog 22 [(sL (eI .i64) a0), (sL (eI .i64) a1)] O n ((vB r)) O n := by
 unfold X8 at h
 refine zFn Try.call22 Try.func22 fun hU hN0 hN => ?_
 show W _ _ _ _ ⟨26, [], [(0, (sL (eI .i64) a0)), (1, (sL (eI .i64) a1))]⟩ (Zn O n []) _
 refine zQ [0, 1] ?_
 refine Zh ?_
 refine zQ [0, 1, 10] ?_
 refine Zo (t := ((a0.length : Int) != (a1.length : Int))) rfl (fun c8 => ?_) (fun c8 => ?_)
 ·replace h := Zu c8 h
  refine zQ [4] ?_
  exact Yi [(vB false)]
 replace h := Zt c8 h
 refine K4 [0, 1] [] ?_
 refine Zh ?_
 refine zQd [0, 1, 5] [0, 1, 5] [] ?_
 obtain ⟨z7, hz7, h⟩ := bC h
 refine Zcs (J := (K3 (fun z7 => JR n (⟨26, [], [(4, (vB false))]⟩ : Env) (Zn O n []) n) (fun z7 => JX 0 n (⟨26, [], []⟩ : Env) (Zn O n []) n))) (z := z7) ?_ fun hw => ?_
 ·refine Jy hz7 (fun s0_ => ⟨26, [], [(0, (sL (eI .i64) a0)), (1, (sL (eI .i64) a1)), (5, (vI s0_))]⟩) (fun s0_ => (Zn O n [])) (K3 (fun z7 => JR n (⟨26, [], [(4, (vB false))]⟩ : Env) (Zn O n []) n) (fun z7 => JX 0 n (⟨26, [], []⟩ : Env) (Zn O n []) n)) ?_
  intro s0_ x0_ hs0_
  unfold Qf at hs0_
  try dsimp only
  refine Zh ?_
  refine zQ [0, 1, 5, 14] ?_
  refine Zo (t := (decide (s0_ < (a0.length : Int)))) rfl (fun c6 => ?_) (fun c6 => ?_)
  ·replace hs0_ := Zu c6 hs0_
   refine K4 [0, 1, 5] [] ?_
   refine Zh ?_
   refine X6 ?_
   obtain ⟨x3, hx3, ax3, bx3, cx3, hs0_⟩ := bE (f := (eI .i64)) Ziw (fun _ => rfl) (by decide) hs0_
   obtain ⟨x4, hx4, ax4, bx4, cx4, hs0_⟩ := bE (f := (eI .i64)) Ziw (fun _ => rfl) (by decide) hs0_
   refine G9 [0, 1, 5, 25] (G7 Zy (by kernel_rfl) [] (by kernel_rfl) ?_)
   refine zF6 ax3 bx3 cx3 ax4 bx4 cx4 ?_
   refine Zo (t := (x3 != x4)) rfl (fun c5 => ?_) (fun c5 => ?_)
   ·replace hs0_ := Zu c5 hs0_
    refine zQ [4] ?_
    refine zW ?_
    exact zEy hs0_
   replace hs0_ := Zt c5 hs0_
   refine K4 [0, 1, 5] [] ?_
   refine zR ?_
   exact zEn hs0_
  replace hs0_ := Zt c6 hs0_
  exact zEx hs0_
 rcases z7 with z7 | z7
 ·dsimp only [K3] at hw h
  refine Ut hw ?_
  try simp only [Xs, Yy, ↓reduceIte, Nat.reduceEqDiff]
  exact Zza [(vB false)]
 dsimp only [K3] at hw h
 refine Qz hw ?_
 try simp only [Xs, Yy, ↓reduceIte, Nat.reduceEqDiff]
 refine zD [] [] ?_
 refine zQ [4] ?_
 exact Yi [(vB true)]
theorem Ze4  {r : Bool} {O : Objs} {n : Nat} (h : Q5 = some r) : GTo Try.prog 19 [] O n ((vB r)) O n := by
 unfold Q5 at h
 refine zFn Try.call19 Try.func19 fun hU hN0 hN => ?_
 show W _ _ _ _ ⟨25, [], []⟩ (Zn O n []) _
 refine zQ [] ?_
 refine Zh ?_
 obtain ⟨y2, hy2, h⟩ := bC h
 refine zR ?_
 refine (Zl0  hy2).then ?_
 refine zS ?_
 refine zDs [1] [true, true, true] ?_
 obtain ⟨y5, hy5, h⟩ := bC h
 obtain ⟨y6, hy6, h⟩ := bC h
 refine zR ?_
 refine GCalls.dropL (l' := [some ⟨false, 79, 2, 1, [.row (n + 1) y2.classes.length, .row (n + 2) y2.places.length]⟩, some (oR 82 10 Zb y2.classes), some (oR 3 1 (eI .i64) y2.places), none, none]) hU rfl ?_ ((J7 hy5).then ?_)
 ·exact zSe
 refine zS ?_
 refine (Zd3 (i0 := n) (j0_0 := (n + 1)) (j0_1 := (n + 2)) (by omega) (by omega) (by omega) (by omega) (by omega) (by omega) (by simp only [push_cast, seval, ↓reduceIte, Zi, Q1, hN0, hN] <;> rfl) (by simp only [push_cast, seval, ↓reduceIte, Zi, Q1, hN0, hN] <;> rfl) (by simp only [push_cast, seval, ↓reduceIte, Zi, Q1, hN0, hN] <;> rfl) hy6).then ?_
 refine zS ?_
 refine zD [1, 2, 3] [true, false, false, false, false, true, true] ?_
 obtain ⟨z9, hz9, h⟩ := bC h
 refine Zaz (E' := ⟨25, [], [(0, (vB z9))]⟩) (O' := (Zn O n [none, none, none, none, none, none, none, none])) (n0 := (n + 8)) ?_ ?_
 ·rcases Bool.eq_false_or_eq_true (y6.2.1 == 0) with c14 | c14
  ·replace hz9 := Zu c14 hz9
   obtain ⟨y12, hy12, hz9⟩ := bC hz9
   rcases Bool.eq_false_or_eq_true y12 with c15 | c15
   ·replace hz9 := Zu c15 hz9
    try rw [c15] at c14
    obtain ⟨y13, hy13, hz9⟩ := bC hz9
    refine X4 [some true, some true, some true, some true, some true, some true] c14 c15 ?_
    refine GCalls.lend (U4 hy12) rfl ?_ ?_
    ·exact Yq c14 c15
    refine zX2 c14 c15 ?_
    refine GCalls.lend (V5 hy13) rfl ?_ ?_
    ·exact Yq c14 c15
    refine zX2 c14 c15 ?_
    exact Zt4 hz9 c14 c15
   replace hz9 := Zt c15 hz9
   try rw [c15] at c14
   refine X4 [some true, some true, some true, some false, some false, some false] c14 c15 ?_
   refine GCalls.lend (U4 hy12) rfl ?_ ?_
   ·exact Yq c14 c15
   refine zX2 c14 c15 ?_
   exact Zt4 hz9 c14 c15
  replace hz9 := Zt c14 hz9
  refine Zcr [some false, some false, some false, some false, some false, some false] c14 ?_
  exact Zcq hz9 c14
 exact Yi [(vB z9)]
theorem Zbz {a0 : Int} {r : Bool} {O : Objs} {n : Nat} (h : Qn a0 = some r) : GTo Try.prog 6 [.val (.int .u64 a0)] O n ((vB r)) O n := by
 unfold Qn at h
 refine zFn Try.call6 Try.func6 fun hU hN0 hN => ?_
 show W _ _ _ _ ⟨60, [], [(0, .val (.int .u64 a0))]⟩ (Zn O n []) _
 refine zQ [0] ?_
 refine zQ [0, 3] ?_
 refine Zh ?_
 obtain ⟨y3, hy3, h⟩ := bC h
 obtain ⟨y4, hy4, h⟩ := bC h
 refine zR ?_
 refine GCalls.dropL (l' := [none, none]) hU rfl ?_ ((J7 hy3).then ?_)
 ·exact zSe
 refine zS ?_
 refine zTs (Zcf hy4) ?_
 refine zDs [0, 3, 5] [false, false] ?_
 obtain ⟨y7, hy7, h⟩ := bC h
 obtain ⟨y8, hy8, h⟩ := bC h
 refine zR ?_
 refine GCalls.dropL (l' := [none, none, none, none]) hU rfl ?_ ((J7 hy7).then ?_)
 ·exact zSe
 refine zS ?_
 refine zTs (U5 hy8) ?_
 refine zDs [3, 5, 6, 7] [false, false, false, false] ?_
 obtain ⟨y11, hy11, h⟩ := bC h
 obtain ⟨y12, hy12, h⟩ := bC h
 refine zR ?_
 refine GCalls.dropL (l' := [none, none, none, none, none, none]) hU rfl ?_ ((J7 hy11).then ?_)
 ·exact zSe
 refine zS ?_
 refine zTs (U5 hy12) ?_
 refine zD [3, 5, 6, 7, 8, 9] [false, false, false, false, false, false] ?_
 obtain ⟨z15, hz15, h⟩ := bC h
 refine Zaz (E' := ⟨60, [], [(2, (vB z15))]⟩) (O' := (Zn O n [none, none, none, none, none, none])) (n0 := (n + 6)) ?_ ?_
 ·rcases Bool.eq_false_or_eq_true (y4.2 == 1) with c20 | c20
  ·replace hz15 := Zu c20 hz15
   rcases Bool.eq_false_or_eq_true (y8.2 == 1) with c21 | c21
   ·replace hz15 := Zu c21 hz15
    try rw [c21] at c20
    rcases Bool.eq_false_or_eq_true (y12.2 == 0) with c22 | c22
    ·replace hz15 := Zu c22 hz15
     try rw [c22] at c20
     try rw [c22] at c21
     obtain ⟨y18, hy18, hz15⟩ := bC hz15
     rcases Bool.eq_false_or_eq_true ((IntKind.i64.wrap ((IntKind.i64.wrap ((y8.1.length : Int) + (y12.1.length : Int))) + y18)) == 0) with c23 | c23
     ·replace hz15 := Zu c23 hz15
      try rw [c23] at c20
      try rw [c23] at c21
      try rw [c23] at c22
      obtain ⟨y19, hy19, hz15⟩ := bC hz15
      refine Zt6 [none, none, none, none, some true, some true, some true, some true, some true, some true, some true, some true, some true, some true] c20 c21 c22 c23 ?_
      refine zG ?_
      refine GCalls.argsW ?_ ((V5 hy18).then ?_)
      ·exact Z2p c20 c21 c22 c23
      refine zX4 c20 c21 c22 c23 ?_
      refine zG ?_
      refine (Ze4 hy19).then ?_
      refine zX4 c20 c21 c22 c23 ?_
      refine zG ?_
      exact Zt5 hz15 c20 c21 c22 c23
     replace hz15 := Zt c23 hz15
     try rw [c23] at c20
     try rw [c23] at c21
     try rw [c23] at c22
     refine Zt6 [none, none, none, none, some true, some true, some true, some true, some true, some true, some true, some true, some true, some false] c20 c21 c22 c23 ?_
     refine zG ?_
     refine GCalls.argsW ?_ ((V5 hy18).then ?_)
     ·exact Z2p c20 c21 c22 c23
     refine zX4 c20 c21 c22 c23 ?_
     refine zG ?_
     exact Zt5 hz15 c20 c21 c22 c23
    replace hz15 := Zt c22 hz15
    try rw [c22] at c20
    try rw [c22] at c21
    refine Zro [none, none, none, none, some false, some false, some false, some false, some false, some false, some false, some false, some false, some false] c20 c21 c22 ?_
    refine zG ?_
    exact Zzv hz15 c20 c21 c22
   replace hz15 := Zt c21 hz15
   try rw [c21] at c20
   refine X4 [none, none, none, none, some false, some false, some false, some false, some false, some false, some false, some false, some false, some false] c20 c21 ?_
   refine zG ?_
   exact Zt4 hz15 c20 c21
  replace hz15 := Zt c20 hz15
  refine Zcr [none, none, none, none, some false, some false, some false, some false, some false, some false, some false, some false, some false, some false] c20 ?_
  refine zG ?_
  exact Zcq hz15 c20
 exact Yi [(vB z15)]
attribute [local push_cast] Try.results23 Try.results24 Try.results35 Try.results36 Try.results37 Try.results38 Try.results39 Try.results40 Try.results57 Try.results58 Try.results59 Try.results60 Try.results61 Try.results70 Try.results71 Try.results72
end Go.Proofs.Ytgffgbdnbjbmoaa
