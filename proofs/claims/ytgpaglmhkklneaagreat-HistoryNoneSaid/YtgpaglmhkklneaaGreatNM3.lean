/- Part NM3 of this seat's mirrors: functions of the seat's program, and the plain functions that they are; each theorem bears its own conditions. -/
import Derived.Test.YtgpaglmhkklneaaGreatNE
import Derived.Test.YtgpaglmhkklneaaGreatNM1
namespace Go.Proofs.YtgpaglmhkklneaaGreat
open Go.RowKit
set_option linter.unusedVariables false
set_option linter.unusedSimpArgs false
set_option maxRecDepth 100000
set_option maxHeartbeats 4000000
attribute [local push_cast] vI vB nV sL oR Zg5 Zk Zer Xk Zl Zdp V6 Zwo Zwn Zxs Zxr Qg Xm Zsf Zm3 Zm2 onW Qw Zfz Zet Zsg Zsh Zqb Zqf Zqa Zqe Zt1 Ztx Zqd Zt0 Ztz Zty Zqc Ztv Znq evS wok J7 Op.operands Call.operands gop onK onP atK List.all_cons List.all_nil Bool.and_true Bool.true_and Bool.and_self Value.oneCell' List.take_zero List.take_succ_cons List.take_nil List.drop_zero List.drop_succ_cons List.drop_nil List.append_nil Nat.add_zero Nat.zero_add Gs Yz ev Ki Zaa Zwf Zwe Zwk Zwi Zwj Zwg Zwh Zwd Zsd Zuw Zz1 Zle Zgt Zkq Zf1 Zpo Zi6 Zk2 Zk7 Zmw Zms Zk5 Zmv Zmu Zmt Zk4 Zmq Zk3 Zk6 Zj8 Zmr Zma Zm4 Zeu Zl3 Zev Zm1 Zla Zwt bLo bHi bMx Zgu Zm0 Z1b Zk9 Zmi Ziw Zce Zvl Z1e Zl1 Zjn Z1k Zgs Z4m Zsn Zsr Zsm Zsq Zxc Zw8 Zw6 Zpr Zso Zxb Zxa Zw9 Zsp Zw0 Zw3 Zwz Zw2 Z1q Z1n Z1m Zw1 Z1o Z1p Zw7 Zlc gone Ztg Zno Znn pop TK.isAgg Zxl Zxp Zxk Zxo Zs9 Z1y Z1u Zxn Z1x Z1w Z1v Zxm Z1t G.under G.unders List.getD_cons_zero List.getD_cons_succ List.set_cons_zero List.set_cons_succ List.map_cons List.map_nil List.toList_toArray Array.toList_append Option.toArray_none Option.toArray_some Array.toList_map Option.map_some Option.map_none Option.bind_some Option.bind_none List.getElem?_cons_zero List.getElem?_cons_succ List.getElem?_nil List.nil_append List.cons_append List.replicate_succ List.replicate_zero List.length_cons List.length_nil and_true true_and and_false false_and Bool.true_eq_false Bool.false_eq_true forall_const false_implies implies_true IntKind.bits if_true if_false ite_true ite_false eq_self true_implies false_or or_false or_true true_or not_true_eq_false not_false_eq_true decide_true decide_false decide_eq_true_eq decide_eq_false_iff_not beq_iff_eq bne_iff_ne ne_eq Bool.not_eq_true Bool.not_eq_false beq_eq_false_iff_ne bne_eq_false_iff_eq beq_self_eq_true bne_self_eq_false Option.some.injEq exists_eq_left' exists_eq_left ge_iff_le gt_iff_lt decide_not Bool.not_true Bool.not_false imp_self Z1i cond_true cond_false Yap Yao Bool.not_not Bool.and_false Bool.false_and Bool.or_true Bool.true_or Bool.or_false Bool.false_or Kg Vb Vr Ko Yq Yc Option.join_some Nat.add_assoc Int.toNat_natCast eI eB eS eL Ym Zl2 Zlb Zws Zwq Zwr Z4x Z6k Zl5 Zln Zx1 Zxz Zx0 Z0h Zmx Zzv Zoz Zv6 Zjm Zv9 List.length_append G.agg.injEq G.row.injEq G.ref.injEq G.val.injEq G.sl.injEq G.tup.injEq Value.int.injEq Value.bool.injEq Value.string.injEq List.cons.injEq exists_and_left exists_const List.flatten_cons List.flatten_nil Int.le_refl Nat.le_refl Xb Z7 Z6 Bool.not_eq_true' Bool.not_eq_false' Zzk Zo5 Z21 Z25 Z20 Z24 Z8k Z8f List.size_toArray Zq7 Zti G.ren G.rens Zu4 Zjg Zx5 Zwa Zwb Ztw Z26 Zbr G.fn.injEq Zup Zuq Zzj Z8g Zuo Z23 Z8j Z8i Z8h Z22 Z1r Z57 Option.join_none Z3 U8 undef Zmk Arr.len Arr.put_eq Zl4 Zp3 Znk Zlm Zxy Zxw Zxx onB Z4w Zvk Ztq Zpj Zrl Zrm Zrn Zro Zrp Zrq Zpw Zp6 Zp4 Znm Zlo Zp5 Ztf Zte Ztd Ztc Z6j Z9e Z0g Zxt Zb8 Z0b Zps Zp7 Znl Z1z Zts Zk8 Zmh Zhm Zov Zrr Zrs Zrt Zru Zo6 Zo7 Zo8 Zo9 Zpa Zpb Zpc Zhu prT Zi7 Ya7 Z2q Z7p Z2r Ya8 Z2s Ya9 Z2t Yba Z2u Ybb Z2v Ybc Z2w Ybd Z2x Z68 Zyc Z69 Zyd Z7a Zye Z7b Zyf Z7c Zyg Z7d Zyh Z7e Zyi Z7f Zyj Z7g Zyk Z7h Zyl Z7i Zym Z7j Zrk Z0t Zhn Z7k Zyn Gt Zyo Z7l Zyp Z7m Zyq Z7n Zyr Z7o Zys Zlu Zyt Z7q Zyu Z7r Zyv Z7s Zyw Z7t Zyx Zkx Zyy Z7u Zyz Zvw Zy0 Z7v Zo4 Z7w Zy1 Z7x Zy2 Z7y Zy3 Zqw Zy4 Z7z Zy5 Zij Zy6 Z70 Zy7 Z71 Zy8 Z72 Zy9 Z73 Zza Z74 Zzb Z75 Zzc Z76 Zzd Z77 Zze Z17 Zt3 Z18 Zt4 Z19 Zt5 Z2a Zt6 Z2b Zt7 Z2c Zt8 Z2d Zt9 Z2e Zua Z2f Zub Z2g Zuc Z2h Zud Z2i Zue Z2j Zuf Z2k Zug Z2l Zuh Z2m Zui Z2n Zuj Z2o Zuk Z2p Zul Za Yh Zny Znw Zna Znh Zn0 Zlx Zls Zlq Znu Zgj Zgh Zf5 Zgb Zgl Zfx Zfs Zfq Zge Zg Ze Zi Zf Y3 Yk Xc Zdf Zdb Zch Zcs Zdk Zb2 Zbx Zbt Zc4 Zed Zea Zd1 Zd4 Zeg Zc8 Zc0 Zcx Zd7 Zim Zil Zh0 Zh7 Zin Zhg Zhc Zhb Zik Znx Znv Zm9 Zng Znz Zlw Zlr Zlp Znt Ye Zgi Zgg Zf4 Zga Zgk Zfw Zfr Zfp Zgd Yv Zdg Zdc Zci Zct Zdl Zb3 Zby Zbu Zc5 Yn Zb6 Zb5 Zbo Zbq Zb7 Za4 Za3 Za2 Zb0 Zal Zak Zab Zag Zam Gr Gq Gp Zai Yu Zde Zda Zcg Zcr Zdj Zb1 Zbw Zbs Zc3 Y1 Zec Zd9 Zd0 Zd3 Zef Zc7 Zcz Zcw Zd6 Yp Zdh Zdd Zcj Zcu Zdm Zb4 Zbz Zbv Zc6 Yx Zee Zeb Zd2 Zd5 Zeh Zc9 Zc1 Zcy Zd8 X5
theorem Zxi {a0 : Zb} {a1 : Int} {r : Int} {O : Objs} {n : Nat} (h : Zgz a0 a1 = some r) : GTo Tryz.prog 86 [.agg (Zl a0), (vI a1)] O n (.val (.int .u64 r)) O n := by
 unfold Zgz at h
 refine fn0 Zu Tryz.call86 Tryz.func86 rfl fun hU hN0 hN => ?_
 show W _ _ _ _ ⟨19, [], [(0, .agg (Zl a0)), (1, (vI a1))]⟩ (Zy O n []) _
 refine zQ [1, 2] ?_
 refine Zo ?_
 refine zQD [1, 2, 13] [none, none, none, none, none] ?_
 refine Zv (t := (cond (decide (a1 < 0)) true (decide ((a0.Words.length : Int) ≤ a1)))) rfl (fun c3 => ?_) (fun c3 => ?_)
 ·replace h := Zx c3 h
  refine zQ [4] ?_
  refine zW ?_
  obtain rfl := sI h
  refine Zz (.inr rfl) hU [.val (.int .u64 0)] (by omega) ?_
  simp only [push_cast, seval, ↓reduceIte, Zd, Tryz.results86, hN0, hN]
 replace h := Zw c3 h
 refine Gu [1, 2] [true] ?_
 obtain ⟨x2, hx2, ax2, bx2, cx2, h⟩ := bE (f := (eI .u64)) Zkx (fun _ => rfl) (by decide) h
 refine Zn2 [4] (Y2 Zu [] ?_)
 refine zF3 ax2 bx2 cx2 ?_
 refine zW ?_
 obtain rfl := sI h
 refine Zz (.inr rfl) hU [.val (.int .u64 x2)] (by omega) ?_
 simp only [push_cast, seval, ↓reduceIte, Zd, Tryz.results86, hN0, hN]
theorem Zf8 {a0 : Int} {r : Bool} {O : Objs} {n : Nat} (h : U2 a0 = some r) : GTo Tryz.prog 87 [(vI a0)] O n ((vB r)) O n := by
 unfold U2 at h
 refine fn0 Zu Tryz.call87 Tryz.func87 rfl fun hU hN0 hN => ?_
 show W _ _ _ _ ⟨9, [], [(0, (vI a0))]⟩ (Zy O n []) _
 refine zQ [0] ?_
 refine zQD [2] [none, none] ?_
 refine zW ?_
 obtain rfl := sI h
 refine Zz (.inr rfl) hU [(vB (cond (decide (a0 < 0)) true (decide (65534 < a0))))] (by omega) ?_
 simp only [push_cast, seval, ↓reduceIte, Zd, Tryz.results87, hN0, hN]
theorem Z0f {a0 : Int} {a1 : Int} {a2 : Int} {r : Int} {O : Objs} {n : Nat} (h : Zf6 a0 a1 a2 = some r) : GTo Tryz.prog 89 [.val (.int .u64 a0), .val (.int .u64 a1), .val (.int .u8 a2)] O n (.val (.int .u64 r)) O n := by
 unfold Zf6 at h
 refine fn0 Zu Tryz.call89 Tryz.func89 rfl fun hU hN0 hN => ?_
 show W _ _ _ _ ⟨17, [], [(0, .val (.int .u64 a0)), (1, .val (.int .u64 a1)), (2, .val (.int .u8 a2))]⟩ (Zy O n []) _
 refine zQ [0, 1, 2] ?_
 refine Zo ?_
 obtain ⟨y2, hy2, h⟩ := bC h
 refine zCd (Zkf hy2) [0, 1, 7] [] ?_
 refine zQ [6] ?_
 refine zW ?_
 obtain rfl := sI h
 refine Zz (.inr rfl) hU [.val (.int .u64 (IntKind.u64.wrap (Zsv .u64 (IntKind.u64.wrap (Zvm .u64 a0 y2)) (IntKind.u64.wrap (Ze1 .u64 a1 y2)))))] (by omega) ?_
 simp only [push_cast, seval, ↓reduceIte, Zd, Tryz.results89, hN0, hN]
theorem Zpx {a0 : Zb} {a1 : Int} {a2 : Int} {r : Zb} {O : Objs} {n : Nat} {i0 j0_0 j0_1 : Nat} (hi0 : i0 < n) (Q0 : j0_0 < n) (Vh : j0_1 < n) (Xv : i0 ≠ j0_0) (X2 : i0 ≠ j0_1) (X1 : j0_0 ≠ j0_1) (ho0 : O i0 = some ⟨false, 25, 3, 1, [(vI a0.Kind), .row j0_1 a0.Words.length, .row j0_0 a0.Kids.length]⟩) (Ji : O j0_0 = some (oR 25 3 Za a0.Kids)) (Un : O j0_1 = some (oR 46 1 (eI .u64) a0.Words)) (h : Zbb a0 a1 a2 = some r) : GTo Tryz.prog 88 [.ref i0 0, (vI a1), .val (.int .u64 a2)] O n (.tup []) (Zy (((O.upd j0_0 none).upd j0_1 none).upd i0 (some ⟨false, 25, 3, 1, [(vI r.Kind), .row (n + 1) r.Words.length, .row n r.Kids.length]⟩)) n [some (oR 25 3 Za r.Kids), some (oR 46 1 (eI .u64) r.Words)]) (n + 2) := by
 unfold Zbb at h
 refine Zez Zu Tryz.call88 Tryz.func88 rfl (Nat.le_of_ble_eq_true rfl) (by omega) fun hU => ?_
 have e0 := Xx (ba := n) (E := ⟨40, [], Zaa 0 [.ref i0 0, .val (.int .i64 a1), .val (.int .u64 a2)]⟩) (O := (Zy O n [])) (n := n) (i := i0) (j := j0_0) (k := 2) (len := a0.Kids.length) (q := ⟨false, 25, 3, 1, [.val (.int .i64 a0.Kind), .row j0_1 a0.Words.length, .row j0_0 a0.Kids.length]⟩) (qj := ⟨true, 25, 3, a0.Kids.length, fl Za a0.Kids⟩) (by rw [Z7 _ hi0]; first | exact ho0 | exact Z3 _ _ _) rfl (by rw [Z7 _ Q0]; exact Ji) Xv (by omega)
 simp only [Z6 _ _ Q0, Z6 _ _ hi0, Yq, Yc, Xb, Jy Xv, List.set_cons_zero, List.set_cons_succ, List.cons_append, List.nil_append, List.length_cons, List.length_nil, Nat.zero_add, Nat.reduceAdd, Nat.add_assoc] at e0
 refine Qi e0 ?_
 have e1 := Xx (ba := n) (E := ⟨40, [], Zaa 0 [.ref i0 0, .val (.int .i64 a1), .val (.int .u64 a2)]⟩) (O := (Zy ((O.upd j0_0 none).upd i0 (some ⟨false, 25, 3, 1, [.val (.int .i64 a0.Kind), .row j0_1 a0.Words.length, .row n a0.Kids.length]⟩)) n [some ⟨true, 25, 3, a0.Kids.length, fl Za a0.Kids⟩])) (n := (n + 1)) (i := i0) (j := j0_1) (k := 1) (len := a0.Words.length) (q := ⟨false, 25, 3, 1, [.val (.int .i64 a0.Kind), .row j0_1 a0.Words.length, .row n a0.Kids.length]⟩) (qj := ⟨true, 46, 1, a0.Words.length, fl (eI .u64) a0.Words⟩) (by rw [Z7 _ hi0]; first | exact ho0 | exact Z3 _ _ _) rfl (by rw [Z7 _ Vh, Yo _ _ (Ne.symm X2), Yo _ _ (Ne.symm X1)]; exact Un) X2 (by omega)
 simp only [Z6 _ _ Vh, Z6 _ _ hi0, Yq, Yc, Xb, Jy X2, List.set_cons_zero, List.set_cons_succ, List.cons_append, List.nil_append, List.length_cons, List.length_nil, Nat.zero_add, Nat.reduceAdd, Nat.add_assoc] at e1
 refine Qi e1 ?_
 have hU := (Und.drop (Und.drop hU j0_0) j0_1)
 have hk0 : ∀ k, i0 < n + k := fun k => by omega
 have hN0 : ∀ o, Objs.upd ((O.upd j0_0 none).upd j0_1 none) i0 o n = none := fun o => Xt hU hi0 _ (Nat.le_refl _)
 have hN : ∀ o k, Objs.upd ((O.upd j0_0 none).upd j0_1 none) i0 o (n + k) = none := fun o k => Xt hU hi0 _ (Nat.le_add_right _ _)
 show W _ _ _ _ ⟨40, [], [(0, .ref i0 0), (1, (vI a1)), (2, .val (.int .u64 a2))]⟩ (Zy (((O.upd j0_0 none).upd j0_1 none).upd i0 (some ⟨false, 25, 3, 1, [(vI a0.Kind), .row (n + 1) a0.Words.length, .row n a0.Kids.length]⟩)) n [some (oR 25 3 Za a0.Kids), some (oR 46 1 (eI .u64) a0.Words)]) _
 refine Zo ?_
 refine zD [0, 1, 2] [true, true] ?_
 obtain ⟨z3, hz3, h⟩ := bC h
 refine Qb (E' := ⟨40, [], [(0, .ref i0 0), (1, (vI a1)), (2, .val (.int .u64 a2))]⟩) (O' := (Zy (((O.upd j0_0 none).upd j0_1 none).upd i0 (some ⟨false, 25, 3, 1, [(vI a0.Kind), .row (n + 1) z3.length, .row n a0.Kids.length]⟩)) n [some (oR 25 3 Za a0.Kids), some (oR 46 1 (eI .u64) z3)])) (n0 := (n + 2)) ?_ ?_
 ·refine Q4 hz3 (fun s0_ => ⟨40, [], [(0, .ref i0 0), (1, (vI a1)), (2, .val (.int .u64 a2))]⟩) (fun s0_ => (Zy (((O.upd j0_0 none).upd j0_1 none).upd i0 (some ⟨false, 25, 3, 1, [(vI a0.Kind), .row (n + 1) s0_.length, .row n a0.Kids.length]⟩)) n [some (oR 25 3 Za a0.Kids), some (oR 46 1 (eI .u64) s0_)])) (fun z3 => JX 0 n (⟨40, [], [(0, .ref i0 0), (1, (vI a1)), (2, .val (.int .u64 a2))]⟩ : Env) (Zy (((O.upd j0_0 none).upd j0_1 none).upd i0 (some ⟨false, 25, 3, 1, [(vI a0.Kind), .row (n + 1) z3.length, .row n a0.Kids.length]⟩)) n [some (oR 25 3 Za a0.Kids), some (oR 46 1 (eI .u64) z3)]) (n + 2)) ?_
  intro s0_ x0_ hs0_
  unfold Uo at hs0_
  try dsimp only
  refine Zo ?_
  refine Zn2 [0, 1, 2, 16] (Y2 Zu [none, none] ?_)
  refine zX2 hi0 hk0 ?_
  refine zG ?_
  refine Zv (t := (cond (decide ((s0_.length : Int) ≤ a1)) (a2 != 0) false)) rfl (fun c2 => ?_) (fun c2 => ?_)
  ·replace hs0_ := Zx c2 hs0_
   refine Gu [0, 1, 2] [true, true] ?_
   refine Xh ?_
   obtain ⟨l1, pl1, ql1, el1, hs0_⟩ := bA (k := 1) rfl hs0_
   refine Zuu [] pl1 ql1 el1 hi0 hk0 ?_
   obtain rfl := sI hs0_
   refine And.intro rfl (Fit2.of (Z9 hU rfl rfl ?_) (by omega))
   exact Ybh pl1 ql1 el1 hi0 hk0
  replace hs0_ := Zw c2 hs0_
  refine zXt ?_
  obtain rfl := sI hs0_
  refine And.intro (fun h => by cases h) (And.intro rfl (Fit2.of (Z9 hU rfl rfl ?_) (by omega)))
  exact X3 hi0 hk0
 try simp only [Qg, Xm, ↓reduceIte, Nat.reduceEqDiff]
 refine zD [0, 1, 2] [true, true] ?_
 refine Vq [0, 1, 2, 32] hi0 hk0 ?_
 refine Zv (t := (decide (a1 < (z3.length : Int)))) rfl (fun c6 => ?_) (fun c6 => ?_)
 ·replace h := Zx c6 h
  obtain ⟨x4, hx4, ax4, bx4, cx4, h⟩ := bE (f := (eI .u64)) Zkx (fun _ => rfl) (by decide) h
  have gu5 : Kh (fl (eI .u64) z3) [.val (.int .u64 a2)] (Int.toNat a1 * 1) = some (fl (eI .u64) (Zhe z3 a1 a2)) := Zpp (f := (eI .u64)) (ti := ⟨.bool, 1, 0, [], false⟩) (x := a2) (fun _ => rfl) (Zhx hx4)
  refine Z8o [] ax4 bx4 cx4 gu5 hi0 hk0 ?_
  obtain rfl := sI h
  refine X0 (k := 2) (i := i0) (q1 := ⟨false, 25, 3, 1, [(vI a0.Kind), .row (n + 1) (Zhe z3 a1 a2).length, .row n a0.Kids.length]⟩) (L3 := [some (oR 25 3 Za a0.Kids), some (oR 46 1 (eI .u64) (Zhe z3 a1 a2)), none]) (E2 := (⟨40, [], []⟩ : Env)) (n3 := (n + 3)) (.inl rfl) hU rfl [] ?_ ?_
  ·refine Fit2.trans (E' := (⟨40, [], []⟩ : Env)) (O' := (Zy (((O.upd j0_0 none).upd j0_1 none).upd i0 (some ⟨false, 25, 3, 1, [(vI a0.Kind), .row (n + 1) (Zhe z3 a1 a2).length, .row n a0.Kids.length]⟩)) n [some (oR 25 3 Za a0.Kids), some (oR 46 1 (eI .u64) (Zhe z3 a1 a2))])) (n' := (n + 2)) (Fit2.of (Z9 hU rfl rfl ?_) (by omega)) ?_
   ·exact Z9z ax4 bx4 cx4 gu5 hi0 hk0
   refine Y9 (k := 2) (k' := 3) hU [0, 1] [0, 1, 0] rfl rfl rfl rfl ⟨rfl, rfl⟩ ?_
   exact X3 hi0 hk0
  simp only [push_cast, seval, ↓reduceIte, Zd, Tryz.results88, hi0, hk0, hN0, hN]
 replace h := Zw c6 h
 refine zK ?_
 obtain rfl := sI h
 refine X0 (k := 2) (i := i0) (q1 := ⟨false, 25, 3, 1, [(vI a0.Kind), .row (n + 1) z3.length, .row n a0.Kids.length]⟩) (L3 := [some (oR 25 3 Za a0.Kids), some (oR 46 1 (eI .u64) z3), none]) (E2 := (⟨40, [], []⟩ : Env)) (n3 := (n + 3)) (.inl rfl) hU rfl [] ?_ ?_
 ·refine Fit2.trans (E' := (⟨40, [], []⟩ : Env)) (O' := (Zy (((O.upd j0_0 none).upd j0_1 none).upd i0 (some ⟨false, 25, 3, 1, [(vI a0.Kind), .row (n + 1) z3.length, .row n a0.Kids.length]⟩)) n [some (oR 25 3 Za a0.Kids), some (oR 46 1 (eI .u64) z3)])) (n' := (n + 2)) (Fit2.of (Z9 hU rfl rfl ?_) (by omega)) ?_
  ·exact X3 hi0 hk0
  refine Y9 (k := 2) (k' := 3) hU [0, 1] [0, 1, 0] rfl rfl rfl rfl ⟨rfl, rfl⟩ ?_
  exact X3 hi0 hk0
 simp only [push_cast, seval, ↓reduceIte, Zd, Tryz.results88, hi0, hk0, hN0, hN]
theorem Zqq {a0 : Zb} {a1 : Int} {r : Zb} {O : Objs} {n : Nat} (h : Zh1 a0 a1 = some r) : GTo Tryz.prog 90 [.agg (Zl a0), (vI a1)] O n (.agg (Zl r)) O n := by
 unfold Zh1 at h
 refine fn0 Zu Tryz.call90 Tryz.func90 rfl fun hU hN0 hN => ?_
 show W _ _ _ _ ⟨20, [], [(0, .agg (Zl a0)), (1, (vI a1))]⟩ (Zy O n []) _
 refine zQ [1, 2, 4] ?_
 refine Zo ?_
 refine zQD [1, 2, 4, 13] [none, none, none, none, none] ?_
 refine Zv (t := (cond (decide (a1 < 0)) true (decide ((a0.Kids.length : Int) ≤ a1)))) rfl (fun c3 => ?_) (fun c3 => ?_)
 ·replace h := Zx c3 h
  refine Zo ?_
  refine zRd [4] [false, true] ?_
  refine zW ?_
  obtain rfl := sI h
  refine Zz (.inr rfl) hU [.agg [(vI 0), nV, nV]] (by omega) ?_
  simp only [push_cast, seval, ↓reduceIte, Zd, Tryz.results90, hN0, hN]
 replace h := Zw c3 h
 refine Gu [1, 2, 4] [true, true] ?_
 refine Zo ?_
 obtain ⟨x2, hx2, ax2, bx2, cx2, h⟩ := bE (f := Za) Gt (fun _ => rfl) (by decide) h
 refine Ze4 [] ax2 bx2 cx2 ?_
 refine zD [4] [false, true] ?_
 refine zW ?_
 obtain rfl := sI h
 refine Zz (.inr rfl) hU [.agg (Zl x2)] (by omega) ?_
 simp only [push_cast, seval, ↓reduceIte, Zd, Tryz.results90, hN0, hN]
theorem Zq3 {a0 : Zb} {a1 : Int} {a2 : Zb} {r : Zb} {O : Objs} {n : Nat} {i0 j0_0 : Nat} (hi0 : i0 < n) (Q0 : j0_0 < n) (Xv : i0 ≠ j0_0) (ho0 : O i0 = some ⟨false, 25, 3, 1, [(vI a0.Kind), (sL (eI .u64) a0.Words), .row j0_0 a0.Kids.length]⟩) (Ji : O j0_0 = some (oR 25 3 Za a0.Kids)) (h : Zcl a0 a1 a2 = some r) : GTo Tryz.prog 91 [.ref i0 0, (vI a1), .agg (Zl a2)] O n (.tup []) (Zy ((O.upd j0_0 none).upd i0 (some ⟨false, 25, 3, 1, [(vI r.Kind), (sL (eI .u64) r.Words), .row n r.Kids.length]⟩)) n [some (oR 25 3 Za r.Kids)]) (n + 1) := by
 unfold Zcl at h
 refine Zez Zu Tryz.call91 Tryz.func91 rfl (Nat.le_of_ble_eq_true rfl) (by omega) fun hU => ?_
 have e0 := Xx (ba := n) (E := ⟨43, [], Zaa 0 [.ref i0 0, .val (.int .i64 a1), .agg [.val (.int .i64 a2.Kind), .sl a2.Words.length (fl (eI .u64) a2.Words), .sl a2.Kids.length (fl Za a2.Kids)]]⟩) (O := (Zy O n [])) (n := n) (i := i0) (j := j0_0) (k := 2) (len := a0.Kids.length) (q := ⟨false, 25, 3, 1, [.val (.int .i64 a0.Kind), .sl a0.Words.length (fl (eI .u64) a0.Words), .row j0_0 a0.Kids.length]⟩) (qj := ⟨true, 25, 3, a0.Kids.length, fl Za a0.Kids⟩) (by rw [Z7 _ hi0]; first | exact ho0 | exact Z3 _ _ _) rfl (by rw [Z7 _ Q0]; exact Ji) Xv (by omega)
 simp only [Z6 _ _ Q0, Z6 _ _ hi0, Yq, Yc, Xb, Jy Xv, List.set_cons_zero, List.set_cons_succ, List.cons_append, List.nil_append, List.length_cons, List.length_nil, Nat.zero_add, Nat.reduceAdd, Nat.add_assoc] at e0
 refine Qi e0 ?_
 have hU := (Und.drop hU j0_0)
 have hk0 : ∀ k, i0 < n + k := fun k => by omega
 have hN0 : ∀ o, Objs.upd (O.upd j0_0 none) i0 o n = none := fun o => Xt hU hi0 _ (Nat.le_refl _)
 have hN : ∀ o k, Objs.upd (O.upd j0_0 none) i0 o (n + k) = none := fun o k => Xt hU hi0 _ (Nat.le_add_right _ _)
 show W _ _ _ _ ⟨43, [], [(0, .ref i0 0), (1, (vI a1)), (2, .agg (Zl a2))]⟩ (Zy ((O.upd j0_0 none).upd i0 (some ⟨false, 25, 3, 1, [(vI a0.Kind), (sL (eI .u64) a0.Words), .row n a0.Kids.length]⟩)) n [some (oR 25 3 Za a0.Kids)]) _
 refine Vq [0, 1, 5] hi0 hk0 ?_
 refine Zo ?_
 refine zD [0, 1, 5] [true, true] ?_
 obtain ⟨z5, hz5, h⟩ := bC h
 refine Qb (E' := ⟨43, [], [(0, .ref i0 0), (1, (vI a1)), (5, .ref (n + 1) 0)]⟩) (O' := (Zy ((O.upd j0_0 none).upd i0 (some ⟨false, 25, 3, 1, [(vI a0.Kind), (sL (eI .u64) a0.Words), .row n z5.length]⟩)) n [some (oR 25 3 Za z5), some ⟨false, 25, 3, 1, (Zl a2)⟩])) (n0 := (n + 2)) ?_ ?_
 ·refine Q4 hz5 (fun s0_ => ⟨43, [], [(0, .ref i0 0), (1, (vI a1)), (5, .ref (n + 1) 0)]⟩) (fun s0_ => (Zy ((O.upd j0_0 none).upd i0 (some ⟨false, 25, 3, 1, [(vI a0.Kind), (sL (eI .u64) a0.Words), .row n s0_.length]⟩)) n [some (oR 25 3 Za s0_), some ⟨false, 25, 3, 1, (Zl a2)⟩])) (fun z5 => JX 0 n (⟨43, [], [(0, .ref i0 0), (1, (vI a1)), (5, .ref (n + 1) 0)]⟩ : Env) (Zy ((O.upd j0_0 none).upd i0 (some ⟨false, 25, 3, 1, [(vI a0.Kind), (sL (eI .u64) a0.Words), .row n z5.length]⟩)) n [some (oR 25 3 Za z5), some ⟨false, 25, 3, 1, (Zl a2)⟩]) (n + 2)) ?_
  intro s0_ x0_ hs0_
  unfold U9 at hs0_
  try dsimp only
  refine Zo ?_
  refine Zn2 [0, 1, 5, 17] (Y2 Zu [none, none, none] ?_)
  refine zX2 hi0 hk0 ?_
  refine zG ?_
  refine Zv (t := (cond (decide ((s0_.length : Int) ≤ a1)) (a2.Kind != 0) false)) rfl (fun c4 => ?_) (fun c4 => ?_)
  ·replace hs0_ := Zx c4 hs0_
   refine Gu [0, 1, 5] [true, true] ?_
   refine Xh ?_
   obtain ⟨l1, pl1, ql1, el1, hs0_⟩ := bA (k := 1) rfl hs0_
   obtain ⟨x2, hx2, ax2, bx2, cx2, hs0_⟩ := bE (f := Za) Gt (fun _ => rfl) (by decide) hs0_
   have gu3 : Kh (fl Za s0_ ++ [.val (.int .i64 0), .val (.slice none 0 0), .val (.slice none 0 0)]) [.val (.int .i64 0), .val (.slice none 0 0), .val (.slice none 0 0)] (List.length s0_ * 3) = some (fl Za s0_ ++ [.val (.int .i64 0), .val (.slice none 0 0), .val (.slice none 0 0)]) := Zao (f := Za) (sz := 3) (fun _ => rfl) rfl rfl
   refine Vs Zu (by kernel_rfl) [.plain, .low, .low, .low, .plain, .low, .pass, .bar, .shp, .fill true, .shp, .shp, .fill false] (fun i => i < (n + 2)) [0, 1, 2, 3, 4, 5, 6, 7, 8, 9, 10, 11, 12] [.plain, .low, .low, .low, .plain, .low, .pass, .bar, .shp, .fill true, .shp, .shp, .fill false] [] (by kernel_rfl) rfl ?_
   refine zF9 pl1 ql1 el1 ax2 bx2 cx2 gu3 hi0 hk0 ?_
   refine zO ?_
   obtain rfl := sI hs0_
   refine And.intro rfl (Fit2.of (Z9 hU rfl rfl ?_) (by omega))
   exact Zzl pl1 ql1 el1 ax2 bx2 cx2 gu3 hi0 hk0
  replace hs0_ := Zw c4 hs0_
  refine zXt ?_
  obtain rfl := sI hs0_
  refine And.intro (fun h => by cases h) (And.intro rfl (Fit2.of (Z9 hU rfl rfl ?_) (by omega)))
  exact X3 hi0 hk0
 try simp only [Qg, Xm, ↓reduceIte, Nat.reduceEqDiff]
 refine zD [0, 1, 5] [true, true] ?_
 refine Vq [0, 1, 5, 35] hi0 hk0 ?_
 refine Zv (t := (decide (a1 < (z5.length : Int)))) rfl (fun c8 => ?_) (fun c8 => ?_)
 ·replace h := Zx c8 h
  obtain ⟨x6, hx6, ax6, bx6, cx6, h⟩ := bE (f := Za) Gt (fun _ => rfl) (by decide) h
  have gu7 : Kh (fl Za z5) [.val (.int .i64 a2.Kind), .sl a2.Words.length (fl (eI .u64) a2.Words), .sl a2.Kids.length (fl Za a2.Kids)] (Int.toNat a1 * 3) = some (fl Za (Zhe z5 a1 a2)) := (congrArg (fun c => Kh (fl Za z5) c (Int.toNat a1 * 3)) (show [.val (.int .i64 a2.Kind), .sl a2.Words.length (fl (eI .u64) a2.Words), .sl a2.Kids.length (fl Za a2.Kids)] = Za a2 from by simp only [Za, Yh, eI, eB, eS, eL])).trans (Zpp (f := Za) (ti := ⟨.bool, 3, 0, [], false⟩) (x := a2) (fun _ => rfl) (Zhx hx6))
  refine Zj7 Zu (by kernel_rfl) [false, false, false, false, false, false, false, true] [] (by kernel_rfl) ?_
  refine zF6 ax6 bx6 cx6 gu7 hi0 hk0 ?_
  obtain rfl := sI h
  refine X0 (k := 1) (i := i0) (q1 := ⟨false, 25, 3, 1, [(vI a0.Kind), (sL (eI .u64) a0.Words), .row n (Zhe z5 a1 a2).length]⟩) (L3 := [some (oR 25 3 Za (Zhe z5 a1 a2)), none]) (E2 := (⟨43, [], []⟩ : Env)) (n3 := (n + 2)) (.inl rfl) hU rfl [] ?_ ?_
  ·refine Fit2.trans (E' := (⟨43, [], []⟩ : Env)) (O' := (Zy ((O.upd j0_0 none).upd i0 (some ⟨false, 25, 3, 1, [(vI a0.Kind), (sL (eI .u64) a0.Words), .row n (Zhe z5 a1 a2).length]⟩)) n [some (oR 25 3 Za (Zhe z5 a1 a2)), none])) (n' := (n + 2)) (Fit2.of (Z9 hU rfl rfl ?_) (by omega)) ?_
   ·exact Z9z ax6 bx6 cx6 gu7 hi0 hk0
   refine Y9 (k := 2) (k' := 2) hU [0, 1] [0, 0] rfl rfl rfl rfl ⟨rfl, rfl⟩ ?_
   exact X3 hi0 hk0
  simp only [push_cast, seval, ↓reduceIte, Zd, Tryz.results91, hi0, hk0, hN0, hN]
 replace h := Zw c8 h
 refine zK ?_
 obtain rfl := sI h
 refine X0 (k := 1) (i := i0) (q1 := ⟨false, 25, 3, 1, [(vI a0.Kind), (sL (eI .u64) a0.Words), .row n z5.length]⟩) (L3 := [some (oR 25 3 Za z5), none]) (E2 := (⟨43, [], []⟩ : Env)) (n3 := (n + 2)) (.inl rfl) hU rfl [] ?_ ?_
 ·refine Fit2.trans (E' := (⟨43, [], []⟩ : Env)) (O' := (Zy ((O.upd j0_0 none).upd i0 (some ⟨false, 25, 3, 1, [(vI a0.Kind), (sL (eI .u64) a0.Words), .row n z5.length]⟩)) n [some (oR 25 3 Za z5), none])) (n' := (n + 2)) (Fit2.of (Z9 hU rfl rfl ?_) (by omega)) ?_
  ·exact X3 hi0 hk0
  refine Y9 (k := 2) (k' := 2) hU [0, 1] [0, 0] rfl rfl rfl rfl ⟨rfl, rfl⟩ ?_
  exact X3 hi0 hk0
 simp only [push_cast, seval, ↓reduceIte, Zd, Tryz.results91, hi0, hk0, hN0, hN]
def U3 (Y7 : (Zc → Zb → Option (Zb × Bool))) : Prop := ∀ {a0 : Zc} {a1 : Zb} {r : (Zb × Bool)} {O : Objs} {n : Nat}, Y7 a0 a1 = some r → GTo Tryz.prog 41 [.agg (Zk a0), .agg (Zl a1)] O n (.tup [.agg (Zl r.1), (vB r.2)]) O n
def Ke (Yj : (Zc → Zb → Option (Zb × Bool))) : Prop := ∀ {a0 : Zc} {a1 : Zb} {r : (Zb × Bool)} {O : Objs} {n : Nat}, Yj a0 a1 = some r → GTo Tryz.prog 60 [.agg (Zk a0), .agg (Zl a1)] O n (.tup [.agg (Zl r.1), (vB r.2)]) O n
def U4 (Xl : (Zc → Zb → Option (Zb × Bool))) : Prop := ∀ {a0 : Zc} {a1 : Zb} {r : (Zb × Bool)} {O : Objs} {n : Nat}, Xl a0 a1 = some r → GTo Tryz.prog 61 [.agg (Zk a0), .agg (Zl a1)] O n (.tup [.agg (Zl r.1), (vB r.2)]) O n
def Jm (Z8 : (Zh → Zj → Option (Bool × Zh))) : Prop := ∀ {a0 : Zh} {a1 : Zj} {r : (Bool × Zh)} {O : Objs} {n : Nat} {i0 j0_0 : Nat}, i0 < n → j0_0 < n → i0 ≠ j0_0 → O i0 = some ⟨false, 132, 2, 1, [(sL Za a0.left), .row j0_0 a0.out.length]⟩ → O j0_0 = some (oR 25 3 Za a0.out) → Z8 a0 a1 = some r → GTo Tryz.prog 92 [.ref i0 0, .agg (Xk a1)] O n ((vB r.1)) (Zy ((O.upd j0_0 none).upd i0 (some ⟨false, 132, 2, 1, [(sL Za r.2.left), .row n r.2.out.length]⟩)) n [some (oR 25 3 Za r.2.out)]) (n + 1)
def Qs (Z4 : (Zh → Zc → Option (Bool × Zh))) : Prop := ∀ {a0 : Zh} {a1 : Zc} {r : (Bool × Zh)} {O : Objs} {n : Nat} {i0 j0_0 : Nat}, i0 < n → j0_0 < n → i0 ≠ j0_0 → O i0 = some ⟨false, 132, 2, 1, [(sL Za a0.left), .row j0_0 a0.out.length]⟩ → O j0_0 = some (oR 25 3 Za a0.out) → Z4 a0 a1 = some r → GTo Tryz.prog 102 [.ref i0 0, .agg (Zk a1)] O n ((vB r.1)) (Zy ((O.upd j0_0 none).upd i0 (some ⟨false, 132, 2, 1, [(sL Za r.2.left), .row n r.2.out.length]⟩)) n [some (oR 25 3 Za r.2.out)]) (n + 1)
theorem Zs1 {Y7 : (Zc → Zb → Option (Zb × Bool))} {Yj : (Zc → Zb → Option (Zb × Bool))} {Xl : (Zc → Zb → Option (Zb × Bool))} {Z8 : (Zh → Zj → Option (Bool × Zh))} {Z4 : (Zh → Zc → Option (Bool × Zh))} (Ky : U3 Y7) (Vn : Ke Yj) (Zbf : U4 Xl) (Kv : Jm Z8) (Jn : Qs Z4) {a0 : Zc} {a1 : Zb} {r : (Zb × Bool)} {O : Objs} {n : Nat} (h : U6 Y7 Yj Xl Z8 Z4 a0 a1 = some r) : GTo Tryz.prog 41 [.agg (Zk a0), .agg (Zl a1)] O n (.tup [.agg (Zl r.1), (vB r.2)]) O n := by
 unfold U6 at h
 refine fn0 Zu Tryz.call41 Tryz.func41 rfl fun hU hN0 hN => ?_
 show W _ _ _ _ ⟨34, [], [(0, .agg (Zk a0)), (1, .agg (Zl a1))]⟩ (Zy O n []) _
 refine zQ [2, 3, 4] ?_
 refine Zo ?_
 refine zQ [2, 3, 4, 7] ?_
 refine Xh ?_
 refine zQ [2, 3, 4, 7, 8] ?_
 refine Zv (t := (a0.Kind == 0)) rfl (fun c10 => ?_) (fun c10 => ?_)
 ·replace h := Zx c10 h
  refine Zo ?_
  refine zRd [4, 5] [false, false, true] ?_
  refine zW ?_
  obtain rfl := sI h
  refine Zz (.inr rfl) hU [.agg (Zl a1), (vB true)] (by omega) ?_
  simp only [push_cast, seval, ↓reduceIte, Zd, Tryz.results41, hN0, hN]
 replace h := Zw c10 h
 refine zQ [2, 3, 4, 7, 11] ?_
 refine Zv (t := (a0.Kind == 1)) rfl (fun c9 => ?_) (fun c9 => ?_)
 ·replace h := Zx c9 h
  refine Zo ?_
  obtain ⟨y2, hy2, h⟩ := bC h
  refine Zj7 Zu (by kernel_rfl) [false, false, false, false, false, false, true, false] [] (by kernel_rfl) ?_
  refine zS ?_
  refine PCall.of (Zu1 hy2) ?_
  refine zS ?_
  refine zD [4, 5] [false, false, true] ?_
  refine zW ?_
  obtain rfl := sI h
  refine Zz (.inr rfl) hU [.agg (Zl a0.New), (vB y2)] (by omega) ?_
  simp only [push_cast, seval, ↓reduceIte, Zd, Tryz.results41, hN0, hN]
 replace h := Zw c9 h
 refine zQ [2, 3, 4, 7, 19] ?_
 refine Zv (t := (a0.Kind == 2)) rfl (fun c8 => ?_) (fun c8 => ?_)
 ·replace h := Zx c8 h
  refine Zo ?_
  obtain ⟨y4, hy4, h⟩ := bC h
  refine zCd (Vn hy4) [4, 5] [false, false, true] ?_
  refine zW ?_
  obtain rfl := sI h
  refine Zz (.inr rfl) hU [.agg (Zl y4.1), (vB y4.2)] (by omega) ?_
  simp only [push_cast, seval, ↓reduceIte, Zd, Tryz.results41, hN0, hN]
 replace h := Zw c8 h
 refine zQ [2, 3, 4, 26] ?_
 refine Zv (t := (a0.Kind == 3)) rfl (fun c7 => ?_) (fun c7 => ?_)
 ·replace h := Zx c7 h
  refine Zo ?_
  obtain ⟨y6, hy6, h⟩ := bC h
  refine zCd (Zbf hy6) [4, 5] [false, false, true] ?_
  refine zW ?_
  obtain rfl := sI h
  refine Zz (.inr rfl) hU [.agg (Zl y6.1), (vB y6.2)] (by omega) ?_
  simp only [push_cast, seval, ↓reduceIte, Zd, Tryz.results41, hN0, hN]
 replace h := Zw c7 h
 refine Gu [4] [false, false, true] ?_
 refine Zo ?_
 refine zRd [4, 5] [false, false, true] ?_
 refine zW ?_
 obtain rfl := sI h
 refine Zz (.inr rfl) hU [.agg [(vI 0), nV, nV], (vB false)] (by omega) ?_
 simp only [push_cast, seval, ↓reduceIte, Zd, Tryz.results41, hN0, hN]
theorem Zmd {Y7 : (Zc → Zb → Option (Zb × Bool))} {Yj : (Zc → Zb → Option (Zb × Bool))} {Xl : (Zc → Zb → Option (Zb × Bool))} {Z8 : (Zh → Zj → Option (Bool × Zh))} {Z4 : (Zh → Zc → Option (Bool × Zh))} (Ky : U3 Y7) (Vn : Ke Yj) (Zbf : U4 Xl) (Kv : Jm Z8) (Jn : Qs Z4) {a0 : Zc} {a1 : Zb} {r : (Zb × Bool)} {O : Objs} {n : Nat} (h : Vu Y7 Yj Xl Z8 Z4 a0 a1 = some r) : GTo Tryz.prog 60 [.agg (Zk a0), .agg (Zl a1)] O n (.tup [.agg (Zl r.1), (vB r.2)]) O n := by
 unfold Vu at h
 refine fn0 Zu Tryz.call60 Tryz.func60 rfl fun hU hN0 hN => ?_
 show W _ _ _ _ ⟨92, [], [(0, .agg (Zk a0)), (1, .agg (Zl a1))]⟩ (Zy O n []) _
 refine zQ [2, 3, 4] ?_
 refine Zo ?_
 refine zQ [2, 3, 4, 16] ?_
 refine Zv (t := (a1.Kind != 1)) rfl (fun c138 => ?_) (fun c138 => ?_)
 ·replace h := Zx c138 h
  refine Zo ?_
  refine zRd [4, 5] [false, false, true] ?_
  refine zW ?_
  obtain rfl := sI h
  refine Zz (.inr rfl) hU [.agg [(vI 0), nV, nV], (vB false)] (by omega) ?_
  simp only [push_cast, seval, ↓reduceIte, Zd, Tryz.results60, hN0, hN]
 replace h := Zw c138 h
 refine Gu [2, 3, 4] [true, true, true] ?_
 obtain ⟨y25, hy25, h⟩ := bC h
 obtain ⟨y61, hy61, h⟩ := bC h
 refine X4 (E' := ⟨92, [], [(2, .ref n 0), (3, .ref (n + 1) 0), (4, .ref (n + 2) 0), (6, .ref (n + 5) 0)]⟩) (O' := (Zy O n [some ⟨false, 30, 11, 1, (Zk a0)⟩, some ⟨false, 25, 3, 1, (Zl a1)⟩, some ⟨false, 25, 3, 1, [(vI 0), nV, nV]⟩, some (oR 46 1 (eI .u64) y25), some (oR 25 3 Za y61), some ⟨false, 25, 3, 1, [(vI 1), .row (n + 3) y25.length, .row (n + 4) y61.length]⟩])) (n0 := (n + 6)) ?_ ?_
 ·refine Z8s Zu (by kernel_rfl) [.low, .low, .pass, .low, .low, .pass, .plain, .pass, .pass] (fun i => i < (n + 3)) [0, 1, 3, 4] [2, 5, 6, 7] [8] (.alt 2 (.alt 5 (.seq [6, 7]) (.one 7 (.seq [5, 6]))) (.one 7 (.seq [2, 5, 6]))) [.low, .low, .low, .low] [] (by kernel_rfl) rfl ?_
  simp (maxSteps := 4000000) only [push_cast, seval, ↓reduceIte, Zd, hN0, hN]
  repeat (with_reducible refine And.intro (by omega) ?_)
  try simp only [push_cast, seval, ↓reduceIte, Zd, hN0, hN]
  refine And.intro ?_ ?_
  ·try simp only [push_cast, seval, ↓reduceIte, Zd, hN0, hN]
   repeat (with_reducible refine And.intro (by first | exact Ud rfl | exact K5) ?_)
   refine (Zap hy25).then ?_
   try simp only [push_cast, seval, ↓reduceIte, Zd, hN0, hN]
   repeat (with_reducible refine And.intro (by first | exact Ud rfl | exact K5) ?_)
   try simp only [push_cast, seval, ↓reduceIte, Zd, hN0, hN]
   refine And.intro ?_ ?_
   ·try simp only [push_cast, seval, ↓reduceIte, Zd, hN0, hN]
    repeat (with_reducible refine And.intro (by first | exact Ud rfl | exact K5) ?_)
    refine (Kj hy61).then ?_
    try simp only [push_cast, seval, ↓reduceIte, Zd, hN0, hN]
    repeat (with_reducible refine And.intro (by first | exact Ud rfl | exact K5) ?_)
    try simp only [push_cast, seval, ↓reduceIte, Zd, hN0, hN]
    repeat (with_reducible refine And.intro (by first | exact Ud rfl | exact K5) ?_)
    exact zEf
   try simp only [push_cast, seval, ↓reduceIte, Zd, hN0, hN]
   repeat (with_reducible refine And.intro (by first | exact Ud rfl | exact K5) ?_)
   try simp only [push_cast, seval, ↓reduceIte, Zd, hN0, hN]
   repeat (with_reducible refine And.intro (by first | exact Ud rfl | exact K5) ?_)
   refine (Kj hy61).then ?_
   try simp only [push_cast, seval, ↓reduceIte, Zd, hN0, hN]
   repeat (with_reducible refine And.intro (by first | exact Ud rfl | exact K5) ?_)
   refine And.intro rfl ?_
   refine Fit2.trans (E' := (⟨92, [], [(2, .ref n 0), (3, .ref (n + 1) 0), (4, .ref (n + 2) 0), (6, .ref (n + 4) 0)]⟩ : Env)) (O' := (Zy O n [some ⟨false, 30, 11, 1, (Zk a0)⟩, some ⟨false, 25, 3, 1, (Zl a1)⟩, some ⟨false, 25, 3, 1, [(vI 0), nV, nV]⟩, some (oR 46 1 (eI .u64) y25), some ⟨false, 25, 3, 1, [(vI 1), .row (n + 3) y25.length, .row (n + 5) y61.length]⟩, some (oR 25 3 Za y61)])) (n' := (n + 6)) (Fit2.of (Xi hU rfl rfl ?_) (by omega)) ?_
   ·exact zSe
   refine K2 (k := 6) (k' := 6) hU [0, 1, 2, 3, 5, 4] [0, 1, 2, 3, 5, 4] rfl rfl rfl rfl ⟨rfl, rfl⟩ ?_
   exact zSe
  try simp only [push_cast, seval, ↓reduceIte, Zd, hN0, hN]
  repeat (with_reducible refine And.intro (by first | exact Ud rfl | exact K5) ?_)
  try simp only [push_cast, seval, ↓reduceIte, Zd, hN0, hN]
  repeat (with_reducible refine And.intro (by first | exact Ud rfl | exact K5) ?_)
  refine (Zap hy25).then ?_
  try simp only [push_cast, seval, ↓reduceIte, Zd, hN0, hN]
  repeat (with_reducible refine And.intro (by first | exact Ud rfl | exact K5) ?_)
  refine (Kj hy61).then ?_
  try simp only [push_cast, seval, ↓reduceIte, Zd, hN0, hN]
  repeat (with_reducible refine And.intro (by first | exact Ud rfl | exact K5) ?_)
  refine And.intro rfl ?_
  refine Fit2.trans (E' := (⟨92, [], [(2, .ref n 0), (3, .ref (n + 1) 0), (4, .ref (n + 2) 0), (6, .ref (n + 3) 0)]⟩ : Env)) (O' := (Zy O n [some ⟨false, 30, 11, 1, (Zk a0)⟩, some ⟨false, 25, 3, 1, (Zl a1)⟩, some ⟨false, 25, 3, 1, [(vI 0), nV, nV]⟩, some ⟨false, 25, 3, 1, [(vI 1), .row (n + 4) y25.length, .row (n + 5) y61.length]⟩, some (oR 46 1 (eI .u64) y25), some (oR 25 3 Za y61)])) (n' := (n + 6)) (Fit2.of (Xi hU rfl rfl ?_) (by omega)) ?_
  ·exact zSe
  refine K2 (k := 6) (k' := 6) hU [0, 1, 2, 5, 3, 4] [0, 1, 2, 4, 5, 3] rfl rfl rfl rfl ⟨rfl, rfl⟩ ?_
  exact zSe
 refine Zo ?_
 refine zQd [2, 3, 4, 6, 26, 27, 28] [2, 3, 4, 6, 26, 27, 28] [true, true, true, true, true, true] ?_
 refine Qi (E' := (⟨92, [], [(2, .ref n 0), (3, .ref (n + 1) 0), (4, .ref (n + 2) 0), (6, .ref (n + 5) 0), (26, (sL Zg a0.Words)), (27, (vI (a0.Words.length : Int))), (28, (vI 0))]⟩ : Env)) (O' := (Zy O n [some ⟨false, 30, 11, 1, (Zk a0)⟩, some ⟨false, 25, 3, 1, (Zl a1)⟩, some ⟨false, 25, 3, 1, [(vI 0), nV, nV]⟩, none, none, some ⟨false, 25, 3, 1, [(vI 1), .row (n + 6) y25.length, .row (n + 7) y61.length]⟩, some (oR 46 1 (eI .u64) y25), some (oR 25 3 Za y61), none])) (n' := (n + 9)) ?_ ?_
 ·refine Fit2.trans (E' := (⟨92, [], [(2, .ref n 0), (3, .ref (n + 1) 0), (4, .ref (n + 2) 0), (6, .ref (n + 5) 0), (26, (sL Zg a0.Words)), (27, (vI (a0.Words.length : Int))), (28, (vI 0))]⟩ : Env)) (O' := (Zy O n [some ⟨false, 30, 11, 1, (Zk a0)⟩, some ⟨false, 25, 3, 1, (Zl a1)⟩, some ⟨false, 25, 3, 1, [(vI 0), nV, nV]⟩, some (oR 46 1 (eI .u64) y25), some (oR 25 3 Za y61), some ⟨false, 25, 3, 1, [(vI 1), .row (n + 3) y25.length, .row (n + 4) y61.length]⟩])) (n' := (n + 6)) (Fit2.of (Xi hU rfl rfl ?_) (by omega)) ?_
  ·exact zSe
  refine K2 (k := 6) (k' := 9) hU [0, 1, 2, 6, 7, 5] [0, 1, 2, 0, 0, 5, 3, 4, 0] rfl rfl rfl rfl ⟨rfl, rfl⟩ ?_
  exact zSe
 obtain ⟨z125, hz125, h⟩ := bC h
 refine Zhs (J := (Vy (fun z125 => JR n (⟨92, [], [(4, .ref (n + 2) 0), (5, (vB false))]⟩ : Env) (Zy O n [none, none, some ⟨false, 25, 3, 1, [(vI 0), nV, nV]⟩, none, none, none]) (n + 6)) (fun z125 => JX 0 n (⟨92, [], [(2, .ref n 0), (3, .ref (n + 1) 0), (4, .ref (n + 2) 0), (6, .ref (n + 5) 0)]⟩ : Env) (Zy O n [some ⟨false, 30, 11, 1, (Zk a0)⟩, some ⟨false, 25, 3, 1, (Zl a1)⟩, some ⟨false, 25, 3, 1, [(vI 0), nV, nV]⟩, none, none, some ⟨false, 25, 3, 1, [(vI z125.1), .row (n + 6) z125.2.1.length, .row (n + 7) z125.2.2.length]⟩, some (oR 46 1 (eI .u64) z125.2.1), some (oR 25 3 Za z125.2.2), none]) (n + 9)))) (z := z125) ?_ fun hw => ?_
 ·refine Q4 hz125 (fun s0_ => ⟨92, [], [(2, .ref n 0), (3, .ref (n + 1) 0), (4, .ref (n + 2) 0), (6, .ref (n + 5) 0), (26, (sL Zg a0.Words)), (27, (vI (a0.Words.length : Int))), (28, (vI s0_.1))]⟩) (fun s0_ => (Zy O n [some ⟨false, 30, 11, 1, (Zk a0)⟩, some ⟨false, 25, 3, 1, (Zl a1)⟩, some ⟨false, 25, 3, 1, [(vI 0), nV, nV]⟩, none, none, some ⟨false, 25, 3, 1, [(vI s0_.2.1), .row (n + 6) s0_.2.2.1.length, .row (n + 7) s0_.2.2.2.length]⟩, some (oR 46 1 (eI .u64) s0_.2.2.1), some (oR 25 3 Za s0_.2.2.2), none])) (Vy (fun z125 => JR n (⟨92, [], [(4, .ref (n + 2) 0), (5, (vB false))]⟩ : Env) (Zy O n [none, none, some ⟨false, 25, 3, 1, [(vI 0), nV, nV]⟩, none, none, none]) (n + 6)) (fun z125 => JX 0 n (⟨92, [], [(2, .ref n 0), (3, .ref (n + 1) 0), (4, .ref (n + 2) 0), (6, .ref (n + 5) 0)]⟩ : Env) (Zy O n [some ⟨false, 30, 11, 1, (Zk a0)⟩, some ⟨false, 25, 3, 1, (Zl a1)⟩, some ⟨false, 25, 3, 1, [(vI 0), nV, nV]⟩, none, none, some ⟨false, 25, 3, 1, [(vI z125.1), .row (n + 6) z125.2.1.length, .row (n + 7) z125.2.2.length]⟩, some (oR 46 1 (eI .u64) z125.2.1), some (oR 25 3 Za z125.2.2), none]) (n + 9))) ?_
  intro s0_ x0_ hs0_
  unfold Je at hs0_
  try dsimp only
  refine zQ [2, 3, 4, 6, 26, 27, 28, 29] ?_
  refine Zo ?_
  refine Zv (t := (decide (s0_.1 < (a0.Words.length : Int)))) rfl (fun c124 => ?_) (fun c124 => ?_)
  ·replace hs0_ := Zx c124 hs0_
   refine Gu [2, 3, 4, 6, 26, 27, 28] [true, true, true, false, false, true, true, true, false] ?_
   refine Zo ?_
   refine Xh ?_
   refine Zo ?_
   obtain ⟨x110, hx110, ax110, bx110, cx110, hs0_⟩ := bE (f := Zg) Zvw (fun _ => rfl) (by decide) hs0_
   refine Ze4 [] ax110 bx110 cx110 ?_
   refine zDs [2, 3, 4, 6, 8, 26, 27, 28] [true, true, true, false, false, true, true, true, false, true] ?_
   obtain ⟨y112, hy112, hs0_⟩ := bC hs0_
   refine zCd (Zxi hy112) [2, 3, 4, 6, 8, 9, 26, 27, 28] [true, true, true, false, false, true, true, true, false, true] ?_
   refine Zo ?_
   obtain ⟨z115, hz115, hs0_⟩ := bC hs0_
   refine X4 (E' := ⟨92, [], [(2, .ref n 0), (3, .ref (n + 1) 0), (4, .ref (n + 2) 0), (6, .ref (n + 5) 0), (8, .ref (n + 9) 0), (9, .val (.int .u64 y112)), (26, (sL Zg a0.Words)), (27, (vI (a0.Words.length : Int))), (28, (vI s0_.1)), (49, (vB z115))]⟩) (O' := (Zy O n [some ⟨false, 30, 11, 1, (Zk a0)⟩, some ⟨false, 25, 3, 1, (Zl a1)⟩, some ⟨false, 25, 3, 1, [(vI 0), nV, nV]⟩, none, none, some ⟨false, 25, 3, 1, [(vI s0_.2.1), .row (n + 6) s0_.2.2.1.length, .row (n + 7) s0_.2.2.2.length]⟩, some (oR 46 1 (eI .u64) s0_.2.2.1), some (oR 25 3 Za s0_.2.2.2), none, some ⟨false, 48, 4, 1, (Zdp x110)⟩])) (n0 := (n + 10)) ?_ ?_
   ·obtain ⟨y118, hy118, hz115⟩ := bC hz115
    rcases Bool.eq_false_or_eq_true y118 with c120 | c120
    ·replace hz115 := Zx c120 hz115
     refine Ze7 Zu (by kernel_rfl) [some false, some false, some false, some false, some false, some false, some false, some false, some false] (by kernel_rfl) ?_
     refine zX1 c120 ?_
     refine PCall.of (Zf8 hy118) ?_
     refine zX1 c120 ?_
     exact Ux hz115 c120
    replace hz115 := Zw c120 hz115
    obtain ⟨y119, hy119, hz115⟩ := bC hz115
    refine Ze7 Zu (by kernel_rfl) [some true, some true, some true, some true, some true, some true, some true, some true, some true] (by kernel_rfl) ?_
    refine zX1 c120 ?_
    refine PCall.of (Zf8 hy118) ?_
    refine zX1 c120 ?_
    refine PCall.of (Zkf hy119) ?_
    refine zX1 c120 ?_
    exact Ux hz115 c120
   refine Zv (t := z115) rfl (fun c123 => ?_) (fun c123 => ?_)
   ·replace hs0_ := Zx c123 hs0_
    refine Zo ?_
    refine zRd [4, 5] [false, false, true, false, false, false, false, false, false, false] ?_
    refine zW ?_
    exact zEy hs0_
   replace hs0_ := Zw c123 hs0_
   refine Gu [2, 3, 4, 6, 8, 9, 26, 27, 28] [true, true, true, false, false, true, true, true, false, true] ?_
   obtain ⟨y121, hy121, hs0_⟩ := bC hs0_
   obtain ⟨y122, hy122, hs0_⟩ := bC hs0_
   refine Zj7 Zu (by kernel_rfl) [false, false, false, false, false, false, false, false, true] [] (by kernel_rfl) ?_
   refine zS ?_
   refine PCall.of (Z0f hy121) ?_
   refine zS ?_
   refine (Zpx (i0 := (n + 5)) (j0_0 := (n + 7)) (j0_1 := (n + 6)) (by omega) (by omega) (by omega) (by omega) (by omega) (by omega) (by simp only [push_cast, seval, ↓reduceIte, Zd, Ym, hN0, hN] <;> rfl) (by simp only [push_cast, seval, ↓reduceIte, Zd, Ym, hN0, hN] <;> rfl) (by simp only [push_cast, seval, ↓reduceIte, Zd, Ym, hN0, hN] <;> rfl) hy122).then ?_
   refine zS ?_
   refine zD [2, 3, 4, 6, 26, 27, 28] [true, true, true, false, false, true, false, false, false, false, true, true] ?_
   refine zR ?_
   obtain rfl := sI hs0_
   refine And.intro rfl ?_
   refine Fit2.trans (E' := (⟨92, [], [(2, .ref n 0), (3, .ref (n + 1) 0), (4, .ref (n + 2) 0), (6, .ref (n + 5) 0), (26, (sL Zg a0.Words)), (27, (vI (a0.Words.length : Int))), (28, (vI (IntKind.i64.wrap (s0_.1 + 1))))]⟩ : Env)) (O' := (Zy O n [some ⟨false, 30, 11, 1, (Zk a0)⟩, some ⟨false, 25, 3, 1, (Zl a1)⟩, some ⟨false, 25, 3, 1, [(vI 0), nV, nV]⟩, none, none, some ⟨false, 25, 3, 1, [(vI y122.Kind), .row (n + 11) y122.Words.length, .row (n + 10) y122.Kids.length]⟩, none, none, none, none, some (oR 25 3 Za y122.Kids), some (oR 46 1 (eI .u64) y122.Words)])) (n' := (n + 12)) (Fit2.of (Xi hU rfl rfl ?_) (by omega)) ?_
   ·exact zSe
   refine K2 (k := 12) (k' := 9) hU [0, 1, 2, 8, 8, 5, 8, 8, 8, 8, 7, 6] [0, 1, 2, 0, 0, 5, 11, 10, 0] rfl rfl rfl rfl ⟨rfl, rfl⟩ ?_
   exact zSe
  replace hs0_ := Zw c124 hs0_
  exact zEx hs0_
 rcases z125 with z125 | z125
 ·dsimp only [Vy] at hw h
  refine Zcb hw ?_
  try simp only [Qg, Xm, ↓reduceIte, Nat.reduceEqDiff]
  obtain rfl := sI h
  refine Zz (.inr rfl) hU [.agg [(vI 0), nV, nV], (vB false)] (by omega) ?_
  simp only [push_cast, seval, ↓reduceIte, Zd, Tryz.results60, hN0, hN]
 dsimp only [Vy] at hw h
 refine Qb hw ?_
 try simp only [Qg, Xm, ↓reduceIte, Nat.reduceEqDiff]
 refine zDs [2, 3, 4, 6] [true, true, true, false, false, true, true, true, false] ?_
 refine zQd [3, 4, 6, 62, 63, 64] [3, 4, 6, 62, 63, 64] [false, true, true, false, false, true, true, true, false] ?_
 refine Qi (E' := (⟨92, [], [(3, .ref (n + 1) 0), (4, .ref (n + 2) 0), (6, .ref (n + 5) 0), (62, (sL Zi a0.Kids)), (63, (vI (a0.Kids.length : Int))), (64, (vI 0))]⟩ : Env)) (O' := (Zy O n [none, some ⟨false, 25, 3, 1, (Zl a1)⟩, some ⟨false, 25, 3, 1, [(vI 0), nV, nV]⟩, none, none, some ⟨false, 25, 3, 1, [(vI z125.1), (sL (eI .u64) z125.2.1), .row (n + 9) z125.2.2.length]⟩, none, none, none, some (oR 25 3 Za z125.2.2), none])) (n' := (n + 11)) ?_ ?_
 ·refine Fit2.trans (E' := (⟨92, [], [(3, .ref (n + 1) 0), (4, .ref (n + 2) 0), (6, .ref (n + 5) 0), (62, (sL Zi a0.Kids)), (63, (vI (a0.Kids.length : Int))), (64, (vI 0))]⟩ : Env)) (O' := (Zy O n [none, some ⟨false, 25, 3, 1, (Zl a1)⟩, some ⟨false, 25, 3, 1, [(vI 0), nV, nV]⟩, none, none, some ⟨false, 25, 3, 1, [(vI z125.1), (sL (eI .u64) z125.2.1), .row (n + 7) z125.2.2.length]⟩, none, some (oR 25 3 Za z125.2.2), none])) (n' := (n + 9)) (Fit2.of (Xi hU rfl rfl ?_) (by omega)) ?_
  ·exact zSe
  refine K2 (k := 9) (k' := 11) hU [10, 1, 2, 10, 10, 5, 10, 9, 10] [0, 1, 2, 0, 0, 5, 0, 0, 0, 7, 0] rfl rfl rfl rfl ⟨rfl, rfl⟩ ?_
  exact zSe
 obtain ⟨z137, hz137, h⟩ := bC h
 refine Zhs (J := (Vy (fun z137 => JR n (⟨92, [], [(4, .ref (n + 2) 0), (5, (vB false))]⟩ : Env) (Zy O n [none, none, some ⟨false, 25, 3, 1, [(vI 0), nV, nV]⟩, none, none, none, none, none, none]) (n + 9)) (fun z137 => JX 2 n (⟨92, [], [(4, .ref (n + 2) 0), (6, .ref (n + 5) 0)]⟩ : Env) (Zy O n [none, none, some ⟨false, 25, 3, 1, [(vI 0), nV, nV]⟩, none, none, some ⟨false, 25, 3, 1, [(vI z137.1), (sL (eI .u64) z137.2.1), .row (n + 9) z137.2.2.length]⟩, none, none, none, some (oR 25 3 Za z137.2.2), none]) (n + 11)))) (z := z137) ?_ fun hw => ?_
 ·refine Q4 hz137 (fun s1_ => ⟨92, [], [(3, .ref (n + 1) 0), (4, .ref (n + 2) 0), (6, .ref (n + 5) 0), (62, (sL Zi a0.Kids)), (63, (vI (a0.Kids.length : Int))), (64, (vI s1_.1))]⟩) (fun s1_ => (Zy O n [none, some ⟨false, 25, 3, 1, (Zl a1)⟩, some ⟨false, 25, 3, 1, [(vI 0), nV, nV]⟩, none, none, some ⟨false, 25, 3, 1, [(vI s1_.2.1), (sL (eI .u64) s1_.2.2.1), .row (n + 9) s1_.2.2.2.length]⟩, none, none, none, some (oR 25 3 Za s1_.2.2.2), none])) (Vy (fun z137 => JR n (⟨92, [], [(4, .ref (n + 2) 0), (5, (vB false))]⟩ : Env) (Zy O n [none, none, some ⟨false, 25, 3, 1, [(vI 0), nV, nV]⟩, none, none, none, none, none, none]) (n + 9)) (fun z137 => JX 2 n (⟨92, [], [(4, .ref (n + 2) 0), (6, .ref (n + 5) 0)]⟩ : Env) (Zy O n [none, none, some ⟨false, 25, 3, 1, [(vI 0), nV, nV]⟩, none, none, some ⟨false, 25, 3, 1, [(vI z137.1), (sL (eI .u64) z137.2.1), .row (n + 9) z137.2.2.length]⟩, none, none, none, some (oR 25 3 Za z137.2.2), none]) (n + 11))) ?_
  intro s1_ x1_ hs1_
  unfold Qo at hs1_
  try dsimp only
  refine zQ [3, 4, 6, 62, 63, 64, 65] ?_
  refine Zo ?_
  refine Zv (t := (decide (s1_.1 < (a0.Kids.length : Int)))) rfl (fun c136 => ?_) (fun c136 => ?_)
  ·replace hs1_ := Zx c136 hs1_
   refine Gu [3, 4, 6, 62, 63, 64] [false, true, true, false, false, true, false, false, false, true, false] ?_
   refine Zo ?_
   refine Xh ?_
   refine Zo ?_
   obtain ⟨x127, hx127, ax127, bx127, cx127, hs1_⟩ := bE (f := Zi) Zqw (fun _ => rfl) (by decide) hs1_
   refine Ze4 [] ax127 bx127 cx127 ?_
   refine zDs [3, 4, 6, 11, 62, 63, 64] [false, true, true, false, false, true, false, false, false, true, false, true] ?_
   obtain ⟨y130, hy130, hs1_⟩ := bC hs1_
   obtain ⟨y131, hy131, hs1_⟩ := bC hs1_
   refine Vs Zu (by kernel_rfl) [.low, .low, .low, .low, .low, .low, .low, .plain, .plain, .plain, .pass, .bar, .plain] (fun i => i < (n + 12)) [0, 1, 2, 3, 4, 5, 6, 7, 8, 9, 10, 11, 12] [.low, .low, .low, .low, .low, .low, .low, .plain, .plain, .plain, .pass, .bar, .plain] [] (by kernel_rfl) rfl ?_
   refine zS ?_
   refine zO ?_
   first | refine PCallA.of (fun _ _ => Zqq hy130) ?_ | refine PCall.of (Zqq hy130) ?_
   refine zS ?_
   refine zO ?_
   first | refine PCallA.of (fun _ _ => Ky hy131) ?_ | refine PCall.of (Ky hy131) ?_
   refine zS ?_
   refine zO ?_
   refine zDs [3, 4, 6, 11, 12, 13, 62, 63, 64] [false, true, true, false, false, true, false, false, false, true, false, true, true] ?_
   refine Zo ?_
   obtain ⟨y133, hy133, hs1_⟩ := bC hs1_
   refine zRo [none, none] ?_
   refine zG ?_
   refine zTs (Zf8 hy133) ?_
   refine zG ?_
   refine zD [3, 4, 6, 11, 12, 62, 63, 64, 84] [false, true, true, false, false, true, false, false, false, true, false, true, true] ?_
   refine Zv (t := (cond y133 true (!y131.2))) rfl (fun c135 => ?_) (fun c135 => ?_)
   ·replace hs1_ := Zx c135 hs1_
    refine Zo ?_
    refine zRd [4, 5] [false, false, true, false, false, false, false, false, false, false, false, false, false] ?_
    refine zW ?_
    exact zEy hs1_
   replace hs1_ := Zw c135 hs1_
   refine Gu [3, 4, 6, 11, 12, 62, 63, 64] [false, true, true, false, false, true, false, false, false, true, false, true, true] ?_
   obtain ⟨y134, hy134, hs1_⟩ := bC hs1_
   refine zR ?_
   refine (Zq3 (i0 := (n + 5)) (j0_0 := (n + 9)) (by omega) (by omega) (by omega) (by simp only [push_cast, seval, ↓reduceIte, Zd, Ym, hN0, hN] <;> rfl) (by simp only [push_cast, seval, ↓reduceIte, Zd, Ym, hN0, hN] <;> rfl) hy134).then ?_
   refine zS ?_
   refine zD [3, 4, 6, 62, 63, 64] [false, true, true, false, false, true, false, false, false, false, false, false, false, true] ?_
   refine zR ?_
   obtain rfl := sI hs1_
   refine And.intro rfl ?_
   refine Fit2.trans (E' := (⟨92, [], [(3, .ref (n + 1) 0), (4, .ref (n + 2) 0), (6, .ref (n + 5) 0), (62, (sL Zi a0.Kids)), (63, (vI (a0.Kids.length : Int))), (64, (vI (IntKind.i64.wrap (s1_.1 + 1))))]⟩ : Env)) (O' := (Zy O n [none, some ⟨false, 25, 3, 1, (Zl a1)⟩, some ⟨false, 25, 3, 1, [(vI 0), nV, nV]⟩, none, none, some ⟨false, 25, 3, 1, [(vI y134.Kind), (sL (eI .u64) y134.Words), .row (n + 13) y134.Kids.length]⟩, none, none, none, none, none, none, none, some (oR 25 3 Za y134.Kids)])) (n' := (n + 14)) (Fit2.of (Xi hU rfl rfl ?_) (by omega)) ?_
   ·exact zSe
   refine K2 (k := 14) (k' := 11) hU [10, 1, 2, 10, 10, 5, 10, 10, 10, 10, 10, 10, 10, 9] [0, 1, 2, 0, 0, 5, 0, 0, 0, 13, 0] rfl rfl rfl rfl ⟨rfl, rfl⟩ ?_
   exact zSe
  replace hs1_ := Zw c136 hs1_
  exact zEx hs1_
 rcases z137 with z137 | z137
 ·dsimp only [Vy] at hw h
  refine Zcb hw ?_
  try simp only [Qg, Xm, ↓reduceIte, Nat.reduceEqDiff]
  obtain rfl := sI h
  refine Zz (.inr rfl) hU [.agg [(vI 0), nV, nV], (vB false)] (by omega) ?_
  simp only [push_cast, seval, ↓reduceIte, Zd, Tryz.results60, hN0, hN]
 dsimp only [Vy] at hw h
 refine Qb hw ?_
 try simp only [Qg, Xm, ↓reduceIte, Nat.reduceEqDiff]
 refine zDs [4, 6] [false, false, true, false, false, true, false, false, false, true, false] ?_
 refine zRd [4, 5] [false, false, true, false, false, false, false, false, false, true, false] ?_
 refine zW ?_
 obtain rfl := sI h
 refine Zz (.inr rfl) hU [.agg [(vI z137.1), (sL (eI .u64) z137.2.1), .row (n + 9) z137.2.2.length], (vB true)] (by omega) ?_
 simp only [push_cast, seval, ↓reduceIte, Zd, Tryz.results60, hN0, hN]
theorem Zs2 {Y7 : (Zc → Zb → Option (Zb × Bool))} {Yj : (Zc → Zb → Option (Zb × Bool))} {Xl : (Zc → Zb → Option (Zb × Bool))} {Z8 : (Zh → Zj → Option (Bool × Zh))} {Z4 : (Zh → Zc → Option (Bool × Zh))} (Ky : U3 Y7) (Vn : Ke Yj) (Zbf : U4 Xl) (Kv : Jm Z8) (Jn : Qs Z4) {a0 : Zc} {a1 : Zb} {r : (Zb × Bool)} {O : Objs} {n : Nat} (h : Zdn Y7 Yj Xl Z8 Z4 a0 a1 = some r) : GTo Tryz.prog 61 [.agg (Zk a0), .agg (Zl a1)] O n (.tup [.agg (Zl r.1), (vB r.2)]) O n := by
 unfold Zdn at h
 refine fn0 Zu Tryz.call61 Tryz.func61 rfl fun hU hN0 hN => ?_
 show W _ _ _ _ ⟨45, [], [(0, .agg (Zk a0)), (1, .agg (Zl a1))]⟩ (Zy O n []) _
 refine zQ [2, 3, 4] ?_
 refine Zo ?_
 obtain ⟨z2, hz2, h⟩ := bC h
 refine X4 (E' := ⟨45, [], [(2, .ref n 0), (3, .ref (n + 1) 0), (4, .ref (n + 2) 0), (19, (vB z2))]⟩) (O' := (Zy O n [some ⟨false, 30, 11, 1, (Zk a0)⟩, some ⟨false, 25, 3, 1, (Zl a1)⟩, some ⟨false, 25, 3, 1, [(vI 0), nV, nV]⟩])) (n0 := (n + 3)) ?_ ?_
 ·rcases Bool.eq_false_or_eq_true (a1.Kind != a0.List_) with c5 | c5
  ·replace hz2 := Zx c5 hz2
   refine Zan [some false, some false, some false, some false] c5 ?_
   exact Ux hz2 c5
  replace hz2 := Zw c5 hz2
  obtain ⟨y4, hy4, hz2⟩ := bC hz2
  refine Zan [some true, some true, some true, some true] c5 ?_
  refine (Zke hy4).then ?_
  refine zX1 c5 ?_
  exact Ux hz2 c5
 refine Zv (t := z2) rfl (fun c13 => ?_) (fun c13 => ?_)
 ·replace h := Zx c13 h
  refine Zo ?_
  refine zRd [4, 5] [false, false, true] ?_
  refine zW ?_
  obtain rfl := sI h
  refine Zz (.inr rfl) hU [.agg [(vI 0), nV, nV], (vB false)] (by omega) ?_
  simp only [push_cast, seval, ↓reduceIte, Zd, Tryz.results61, hN0, hN]
 replace h := Zw c13 h
 refine Gu [2, 3, 4] [true, true, true] ?_
 refine Zo ?_
 refine zRd [2, 3, 4, 6] [true, true, true, true] ?_
 refine Zo ?_
 refine zQd [3, 4, 6, 25, 26, 27] [3, 4, 6, 25, 26, 27] [false, true, true, true] ?_
 refine Qi (E' := (⟨45, [], [(3, .ref (n + 1) 0), (4, .ref (n + 2) 0), (6, .ref (n + 3) 0), (25, (sL Zf a0.Ops)), (26, (vI (a0.Ops.length : Int))), (27, (vI 0))]⟩ : Env)) (O' := (Zy O n [none, some ⟨false, 25, 3, 1, (Zl a1)⟩, some ⟨false, 25, 3, 1, [(vI 0), nV, nV]⟩, some ⟨false, 132, 2, 1, [(sL Za a1.Kids), .row (n + 4) ([] : List Zb).length]⟩, some (oR 25 3 Za ([] : List Zb)), none])) (n' := (n + 6)) ?_ ?_
 ·refine Fit2.trans (E' := (⟨45, [], [(3, .ref (n + 1) 0), (4, .ref (n + 2) 0), (6, .ref (n + 3) 0), (25, (sL Zf a0.Ops)), (26, (vI (a0.Ops.length : Int))), (27, (vI 0))]⟩ : Env)) (O' := (Zy O n [none, some ⟨false, 25, 3, 1, (Zl a1)⟩, some ⟨false, 25, 3, 1, [(vI 0), nV, nV]⟩, some ⟨false, 132, 2, 1, [(sL Za a1.Kids), nV]⟩])) (n' := (n + 4)) (Fit2.of (Xi hU rfl rfl ?_) (by omega)) ?_
  ·exact zSe
  refine Fit2.trans (Kp (p := (n + 3)) (k := 1) (q := ⟨false, 132, 2, 1, [(sL Za a1.Kids), nV]⟩) 25 3 (by simp only [Kg, Vb, List.getElem?_cons_zero, List.getElem?_cons_succ, Option.join_some, List.length_nil, Z3]) rfl (by omega)) ?_
  simp only [Yq, Yc, Vr, Ko, List.set_cons_zero, List.set_cons_succ, List.cons_append, List.nil_append, List.length_cons, List.length_nil, Nat.zero_add, Nat.reduceAdd, Nat.reduceLT, Nat.add_assoc]
  refine K2 (k := 5) (k' := 6) hU [5, 1, 2, 3, 4] [0, 1, 2, 3, 4, 0] rfl rfl rfl rfl ⟨rfl, rfl⟩ ?_
  exact zSe
 obtain ⟨z12, hz12, h⟩ := bC h
 refine Zhs (J := (Vy (fun z12 => JR n (⟨45, [], [(4, .ref (n + 2) 0), (5, (vB false))]⟩ : Env) (Zy O n [none, none, some ⟨false, 25, 3, 1, [(vI 0), nV, nV]⟩, none]) (n + 4)) (fun z12 => JX 0 n (⟨45, [], [(3, .ref (n + 1) 0), (4, .ref (n + 2) 0), (6, .ref (n + 3) 0)]⟩ : Env) (Zy O n [none, some ⟨false, 25, 3, 1, (Zl a1)⟩, some ⟨false, 25, 3, 1, [(vI 0), nV, nV]⟩, some ⟨false, 132, 2, 1, [(sL Za z12.1), .row (n + 4) z12.2.length]⟩, some (oR 25 3 Za z12.2), none]) (n + 6)))) (z := z12) ?_ fun hw => ?_
 ·refine Q4 hz12 (fun s0_ => ⟨45, [], [(3, .ref (n + 1) 0), (4, .ref (n + 2) 0), (6, .ref (n + 3) 0), (25, (sL Zf a0.Ops)), (26, (vI (a0.Ops.length : Int))), (27, (vI s0_.1))]⟩) (fun s0_ => (Zy O n [none, some ⟨false, 25, 3, 1, (Zl a1)⟩, some ⟨false, 25, 3, 1, [(vI 0), nV, nV]⟩, some ⟨false, 132, 2, 1, [(sL Za s0_.2.1), .row (n + 4) s0_.2.2.length]⟩, some (oR 25 3 Za s0_.2.2), none])) (Vy (fun z12 => JR n (⟨45, [], [(4, .ref (n + 2) 0), (5, (vB false))]⟩ : Env) (Zy O n [none, none, some ⟨false, 25, 3, 1, [(vI 0), nV, nV]⟩, none]) (n + 4)) (fun z12 => JX 0 n (⟨45, [], [(3, .ref (n + 1) 0), (4, .ref (n + 2) 0), (6, .ref (n + 3) 0)]⟩ : Env) (Zy O n [none, some ⟨false, 25, 3, 1, (Zl a1)⟩, some ⟨false, 25, 3, 1, [(vI 0), nV, nV]⟩, some ⟨false, 132, 2, 1, [(sL Za z12.1), .row (n + 4) z12.2.length]⟩, some (oR 25 3 Za z12.2), none]) (n + 6))) ?_
  intro s0_ x0_ hs0_
  unfold Kx at hs0_
  try dsimp only
  refine zQ [3, 4, 6, 25, 26, 27, 28] ?_
  refine Zo ?_
  refine Zv (t := (decide (s0_.1 < (a0.Ops.length : Int)))) rfl (fun c11 => ?_) (fun c11 => ?_)
  ·replace hs0_ := Zx c11 hs0_
   refine Gu [3, 4, 6, 25, 26, 27] [false, true, true, true, true, false] ?_
   refine Zo ?_
   refine Xh ?_
   refine Zo ?_
   obtain ⟨x7, hx7, ax7, bx7, cx7, hs0_⟩ := bE (f := Zf) Zij (fun _ => rfl) (by decide) hs0_
   refine Ze4 [] ax7 bx7 cx7 ?_
   refine zDs [3, 4, 6, 8, 25, 26, 27] [false, true, true, true, true, false, true] ?_
   obtain ⟨y9, hy9, hs0_⟩ := bC hs0_
   refine zR ?_
   refine (Kv (i0 := (n + 3)) (j0_0 := (n + 4)) (by omega) (by omega) (by omega) (by simp only [push_cast, seval, ↓reduceIte, Zd, Ym, hN0, hN] <;> rfl) (by simp only [push_cast, seval, ↓reduceIte, Zd, Ym, hN0, hN] <;> rfl) hy9).then ?_
   refine zS ?_
   refine zD [3, 4, 6, 25, 26, 27, 33] [false, true, true, true, false, false, false, true] ?_
   refine Zv (t := (!y9.1)) rfl (fun c10 => ?_) (fun c10 => ?_)
   ·replace hs0_ := Zx c10 hs0_
    refine Zo ?_
    refine zRd [4, 5] [false, false, true, false, false, false, false, false] ?_
    refine zW ?_
    exact zEy hs0_
   replace hs0_ := Zw c10 hs0_
   refine Gu [3, 4, 6, 25, 26, 27] [false, true, true, true, false, false, false, true] ?_
   refine zR ?_
   obtain rfl := sI hs0_
   refine And.intro rfl ?_
   refine Fit2.trans (E' := (⟨45, [], [(3, .ref (n + 1) 0), (4, .ref (n + 2) 0), (6, .ref (n + 3) 0), (25, (sL Zf a0.Ops)), (26, (vI (a0.Ops.length : Int))), (27, (vI (IntKind.i64.wrap (s0_.1 + 1))))]⟩ : Env)) (O' := (Zy O n [none, some ⟨false, 25, 3, 1, (Zl a1)⟩, some ⟨false, 25, 3, 1, [(vI 0), nV, nV]⟩, some ⟨false, 132, 2, 1, [(sL Za y9.2.left), .row (n + 7) y9.2.out.length]⟩, none, none, none, some (oR 25 3 Za y9.2.out)])) (n' := (n + 8)) (Fit2.of (Xi hU rfl rfl ?_) (by omega)) ?_
   ·exact zSe
   refine K2 (k := 8) (k' := 6) hU [5, 1, 2, 3, 5, 5, 5, 4] [0, 1, 2, 3, 7, 0] rfl rfl rfl rfl ⟨rfl, rfl⟩ ?_
   exact zSe
  replace hs0_ := Zw c11 hs0_
  exact zEx hs0_
 rcases z12 with z12 | z12
 ·dsimp only [Vy] at hw h
  refine Zcb hw ?_
  try simp only [Qg, Xm, ↓reduceIte, Nat.reduceEqDiff]
  obtain rfl := sI h
  refine Zz (.inr rfl) hU [.agg [(vI 0), nV, nV], (vB false)] (by omega) ?_
  simp only [push_cast, seval, ↓reduceIte, Zd, Tryz.results61, hN0, hN]
 dsimp only [Vy] at hw h
 refine Qb hw ?_
 try simp only [Qg, Xm, ↓reduceIte, Nat.reduceEqDiff]
 refine zDs [3, 4, 6] [false, true, true, true, true, false] ?_
 refine Vs Zu (by kernel_rfl) [.plain, .plain, .plain, .plain, .plain, .low, .low, .low, .low, .pass, .plain] (fun i => i ≠ n + 2) [0, 1, 2, 3, 4, 5, 6, 7, 8, 9, 10] [.plain, .plain, .plain, .plain, .plain, .low, .low, .low, .low, .pass, .plain] [] (by kernel_rfl) rfl ?_
 refine zS ?_
 refine zO ?_
 refine zD [4, 5] [false, false, true, false, true, false] ?_
 refine zW ?_
 obtain rfl := sI h
 refine Zz (.inr rfl) hU [.agg [(vI a1.Kind), nV, .row (n + 4) z12.2.length], (vB ((z12.1.length : Int) == 0))] (by omega) ?_
 simp only [push_cast, seval, ↓reduceIte, Zd, Tryz.results61, hN0, hN]
theorem Zk0 {Y7 : (Zc → Zb → Option (Zb × Bool))} {Yj : (Zc → Zb → Option (Zb × Bool))} {Xl : (Zc → Zb → Option (Zb × Bool))} {Z8 : (Zh → Zj → Option (Bool × Zh))} {Z4 : (Zh → Zc → Option (Bool × Zh))} (Ky : U3 Y7) (Vn : Ke Yj) (Zbf : U4 Xl) (Kv : Jm Z8) (Jn : Qs Z4) {a0 : Zh} {a1 : Zj} {r : (Bool × Zh)} {O : Objs} {n : Nat} {i0 j0_0 : Nat} (hi0 : i0 < n) (Q0 : j0_0 < n) (Xv : i0 ≠ j0_0) (ho0 : O i0 = some ⟨false, 132, 2, 1, [(sL Za a0.left), .row j0_0 a0.out.length]⟩) (Ji : O j0_0 = some (oR 25 3 Za a0.out)) (h : V4 Y7 Yj Xl Z8 Z4 a0 a1 = some r) : GTo Tryz.prog 92 [.ref i0 0, .agg (Xk a1)] O n ((vB r.1)) (Zy ((O.upd j0_0 none).upd i0 (some ⟨false, 132, 2, 1, [(sL Za r.2.left), .row n r.2.out.length]⟩)) n [some (oR 25 3 Za r.2.out)]) (n + 1) := by
 unfold V4 at h
 refine Zez Zu Tryz.call92 Tryz.func92 rfl (Nat.le_of_ble_eq_true rfl) (by omega) fun hU => ?_
 have e0 := Xx (ba := n) (E := ⟨99, [], Zaa 0 [.ref i0 0, .agg [.val (.int .i64 a1.Kind), .val (.int .i64 a1.N), .sl a1.L.length (fl Za a1.L), .val (.int .i64 a1.E.Kind), .val (.int .i64 a1.E.Old.Kind), .sl a1.E.Old.Words.length (fl (eI .u64) a1.E.Old.Words), .sl a1.E.Old.Kids.length (fl Za a1.E.Old.Kids), .val (.int .i64 a1.E.New.Kind), .sl a1.E.New.Words.length (fl (eI .u64) a1.E.New.Words), .sl a1.E.New.Kids.length (fl Za a1.E.New.Kids), .sl a1.E.Words.length (fl Zg a1.E.Words), .sl a1.E.Kids.length (fl Zi a1.E.Kids), .val (.int .i64 a1.E.List_), .sl a1.E.Ops.length (fl Zf a1.E.Ops)]]⟩) (O := (Zy O n [])) (n := n) (i := i0) (j := j0_0) (k := 1) (len := a0.out.length) (q := ⟨false, 132, 2, 1, [.sl a0.left.length (fl Za a0.left), .row j0_0 a0.out.length]⟩) (qj := ⟨true, 25, 3, a0.out.length, fl Za a0.out⟩) (by rw [Z7 _ hi0]; first | exact ho0 | exact Z3 _ _ _) rfl (by rw [Z7 _ Q0]; exact Ji) Xv (by omega)
 simp only [Z6 _ _ Q0, Z6 _ _ hi0, Yq, Yc, Xb, Jy Xv, List.set_cons_zero, List.set_cons_succ, List.cons_append, List.nil_append, List.length_cons, List.length_nil, Nat.zero_add, Nat.reduceAdd, Nat.add_assoc] at e0
 refine Qi e0 ?_
 have hU := (Und.drop hU j0_0)
 have hk0 : ∀ k, i0 < n + k := fun k => by omega
 have hN0 : ∀ o, Objs.upd (O.upd j0_0 none) i0 o n = none := fun o => Xt hU hi0 _ (Nat.le_refl _)
 have hN : ∀ o k, Objs.upd (O.upd j0_0 none) i0 o (n + k) = none := fun o k => Xt hU hi0 _ (Nat.le_add_right _ _)
 show W _ _ _ _ ⟨99, [], [(0, .ref i0 0), (1, .agg (Xk a1))]⟩ (Zy ((O.upd j0_0 none).upd i0 (some ⟨false, 132, 2, 1, [(sL Za a0.left), .row n a0.out.length]⟩)) n [some (oR 25 3 Za a0.out)]) _
 refine Vq [0, 3] hi0 hk0 ?_
 refine Zo ?_
 refine Vq [0, 3, 7] hi0 hk0 ?_
 refine Xh ?_
 refine Vq [0, 3, 7, 8] hi0 hk0 ?_
 refine Zv (t := (a1.Kind == 0)) rfl (fun c28 => ?_) (fun c28 => ?_)
 ·replace h := Zx c28 h
  refine Zo ?_
  obtain ⟨z1, hz1, h⟩ := bC h
  refine X4 (E' := ⟨99, [], [(0, .ref i0 0), (3, .ref (n + 1) 0), (22, (vB z1))]⟩) (O' := (Zy ((O.upd j0_0 none).upd i0 (some ⟨false, 132, 2, 1, [(sL Za a0.left), .row n a0.out.length]⟩)) n [some (oR 25 3 Za a0.out), some ⟨false, 61, 14, 1, (Xk a1)⟩])) (n0 := (n + 2)) ?_ ?_
  ·rcases Bool.eq_false_or_eq_true (decide (a1.N < 0)) with c2 | c2
   ·replace hz1 := Zx c2 hz1
    refine Ze7 Zu (by kernel_rfl) [some false, some false, some false, some false, some false, some false, some false, some false] (by kernel_rfl) ?_
    refine zX3 c2 hi0 hk0 ?_
    obtain rfl := sI hz1
    refine And.intro rfl (Fit2.of (Z9 hU rfl rfl ?_) (by omega))
    exact Zzm c2 hi0 hk0
   replace hz1 := Zw c2 hz1
   refine Ze7 Zu (by kernel_rfl) [some true, some true, some true, some true, some true, some true, some true, some true] (by kernel_rfl) ?_
   refine zX3 c2 hi0 hk0 ?_
   obtain rfl := sI hz1
   refine And.intro rfl (Fit2.of (Z9 hU rfl rfl ?_) (by omega))
   exact Zzm c2 hi0 hk0
  refine Zv (t := z1) rfl (fun c9 => ?_) (fun c9 => ?_)
  ·replace h := Zx c9 h
   refine Vq [4] hi0 hk0 ?_
   refine zW ?_
   obtain rfl := sI h
   refine X0 (k := 1) (i := i0) (q1 := ⟨false, 132, 2, 1, [(sL Za a0.left), .row n a0.out.length]⟩) (L3 := [some (oR 25 3 Za a0.out), none]) (E2 := (⟨99, [], [(4, (vB false))]⟩ : Env)) (n3 := (n + 2)) (.inr rfl) hU rfl [(vB false)] ?_ ?_
   ·refine Fit2.trans (E' := (⟨99, [], [(4, (vB false))]⟩ : Env)) (O' := (Zy ((O.upd j0_0 none).upd i0 (some ⟨false, 132, 2, 1, [(sL Za a0.left), .row n a0.out.length]⟩)) n [some (oR 25 3 Za a0.out), none])) (n' := (n + 2)) (Fit2.of (Z9 hU rfl rfl ?_) (by omega)) ?_
    ·exact X3 hi0 hk0
    refine Y9 (k := 2) (k' := 2) hU [0, 1] [0, 0] rfl rfl rfl rfl ⟨rfl, rfl⟩ ?_
    exact X3 hi0 hk0
   simp only [push_cast, seval, ↓reduceIte, Zd, Tryz.results92, hi0, hk0, hN0, hN]
  replace h := Zw c9 h
  refine Gu [0, 3] [true, true] ?_
  refine Zo ?_
  obtain ⟨l5, al5, bl5, cl5, gl5, h⟩ := bS (lo := none) (hi := (some (.i64, a1.N))) (f := Za) rfl rfl Zhn Gt (fun _ => rfl) h
  obtain ⟨l6, pl6, ql6, el6, h⟩ := bA (k := l5.length) rfl h
  refine Vs Zu (by kernel_rfl) [.plain, .plain, .plain, .plain, .plain, .plain, .plain, .plain, .plain, .plain, .plain, .plain, .pass, .plain, .plain, .bar] (fun i => i ≠ n + 0) [0, 1, 2, 3, 4, 5, 6, 7, 8, 9, 10, 11, 12, 13, 14, 15] [.plain, .plain, .plain, .plain, .plain, .plain, .plain, .plain, .plain, .plain, .plain, .plain, .pass, .plain, .plain, .bar] [] (by kernel_rfl) rfl ?_
  simp only [push_cast, seval, ↓reduceIte, Zd, al5, bl5, cl5, gl5, pl6, ql6, el6, hi0, hk0, hN0, hN]
  refine zO ?_
  refine Zhh ⟨99, [], [(0, .ref i0 0), (3, .ref (n + 1) 0)]⟩ (Zy ((O.upd j0_0 none).upd i0 (some ⟨false, 132, 2, 1, [(sL Za a0.left), .row n l6.length]⟩)) n [some (oR 25 3 Za l6), some ⟨false, 61, 14, 1, (Xk a1)⟩]) (Z9 hU rfl rfl ?_) ?_
  ·simp only [push_cast, seval, ↓reduceIte, Zd, al5, bl5, cl5, gl5, pl6, ql6, el6, hi0, hk0, hN0, hN]
  refine Zo ?_
  obtain ⟨l8, al8, bl8, cl8, gl8, h⟩ := bS (lo := (some (.i64, a1.N))) (hi := none) (f := Za) rfl rfl Zhn Gt (fun _ => rfl) h
  refine Zj7 Zu (by kernel_rfl) [false, false, false, false, false, false, false, false, false, false, true] [] (by kernel_rfl) ?_
  refine zX6 al8 bl8 cl8 gl8 hi0 hk0 ?_
  refine zD [] [true, false] ?_
  refine Vq [4] hi0 hk0 ?_
  refine zW ?_
  obtain rfl := sI h
  refine X0 (k := 1) (i := i0) (q1 := ⟨false, 132, 2, 1, [(sL Za l8), .row n l6.length]⟩) (L3 := [some (oR 25 3 Za l6), none]) (E2 := (⟨99, [], [(4, (vB true))]⟩ : Env)) (n3 := (n + 2)) (.inr rfl) hU rfl [(vB true)] ?_ ?_
  ·refine Fit2.trans (E' := (⟨99, [], [(4, (vB true))]⟩ : Env)) (O' := (Zy ((O.upd j0_0 none).upd i0 (some ⟨false, 132, 2, 1, [(sL Za l8), .row n l6.length]⟩)) n [some (oR 25 3 Za l6), none])) (n' := (n + 2)) (Fit2.of (Z9 hU rfl rfl ?_) (by omega)) ?_
   ·exact X3 hi0 hk0
   refine Y9 (k := 2) (k' := 2) hU [0, 1] [0, 0] rfl rfl rfl rfl ⟨rfl, rfl⟩ ?_
   exact X3 hi0 hk0
  simp only [push_cast, seval, ↓reduceIte, Zd, Tryz.results92, hi0, hk0, hN0, hN]
 replace h := Zw c28 h
 refine Vq [0, 3, 7, 48] hi0 hk0 ?_
 refine Zv (t := (a1.Kind == 1)) rfl (fun c27 => ?_) (fun c27 => ?_)
 ·replace h := Zx c27 h
  refine Vq [0, 3, 5] hi0 hk0 ?_
  refine Zo ?_
  obtain ⟨z12, hz12, h⟩ := bC h
  refine X4 (E' := ⟨99, [], [(0, .ref i0 0), (5, (vI (a1.L.length : Int))), (71, (vB z12))]⟩) (O' := (Zy ((O.upd j0_0 none).upd i0 (some ⟨false, 132, 2, 1, [(sL Za a0.left), .row n a0.out.length]⟩)) n [some (oR 25 3 Za a0.out), none])) (n0 := (n + 2)) ?_ ?_
  ·rcases Bool.eq_false_or_eq_true (decide ((a0.left.length : Int) < (a1.L.length : Int))) with c17 | c17
   ·replace hz12 := Zx c17 hz12
    refine Ze7 Zu (by kernel_rfl) [some false, some false, some false, some false, some false, some false, some false, some false, some false, some false] (by kernel_rfl) ?_
    refine zX3 c17 hi0 hk0 ?_
    obtain rfl := sI hz12
    refine And.intro rfl (Fit2.of (Z9 hU rfl rfl ?_) (by omega))
    exact Zzm c17 hi0 hk0
   replace hz12 := Zw c17 hz12
   obtain ⟨l15, al15, bl15, cl15, gl15, hz12⟩ := bS (lo := none) (hi := (some (.i64, (a1.L.length : Int)))) (f := Za) rfl rfl Zhn Gt (fun _ => rfl) hz12
   obtain ⟨y16, hy16, hz12⟩ := bC hz12
   refine Ze7 Zu (by kernel_rfl) [some true, some true, some true, some true, some true, some true, some true, some true, some true, some true] (by kernel_rfl) ?_
   simp only [push_cast, seval, ↓reduceIte, Zd, c17, al15, bl15, cl15, gl15, hi0, hk0, hN0, hN]
   refine PCall.of (K4 hy16) ?_
   simp only [push_cast, seval, ↓reduceIte, Zd, c17, al15, bl15, cl15, gl15, hi0, hk0, hN0, hN]
   obtain rfl := sI hz12
   refine And.intro rfl (Fit2.of (Z9 hU rfl rfl ?_) (by omega))
   simp only [push_cast, seval, ↓reduceIte, Zd, c17, al15, bl15, cl15, gl15, hi0, hk0, hN0, hN]
  refine Zv (t := z12) rfl (fun c20 => ?_) (fun c20 => ?_)
  ·replace h := Zx c20 h
   refine Vq [4] hi0 hk0 ?_
   refine zW ?_
   obtain rfl := sI h
   refine X0 (k := 1) (i := i0) (q1 := ⟨false, 132, 2, 1, [(sL Za a0.left), .row n a0.out.length]⟩) (L3 := [some (oR 25 3 Za a0.out), none]) (E2 := (⟨99, [], [(4, (vB false))]⟩ : Env)) (n3 := (n + 2)) (.inr rfl) hU rfl [(vB false)] ?_ ?_
   ·refine Fit2.trans (E' := (⟨99, [], [(4, (vB false))]⟩ : Env)) (O' := (Zy ((O.upd j0_0 none).upd i0 (some ⟨false, 132, 2, 1, [(sL Za a0.left), .row n a0.out.length]⟩)) n [some (oR 25 3 Za a0.out), none])) (n' := (n + 2)) (Fit2.of (Z9 hU rfl rfl ?_) (by omega)) ?_
    ·exact X3 hi0 hk0
    refine Y9 (k := 2) (k' := 2) hU [0, 1] [0, 0] rfl rfl rfl rfl ⟨rfl, rfl⟩ ?_
    exact X3 hi0 hk0
   simp only [push_cast, seval, ↓reduceIte, Zd, Tryz.results92, hi0, hk0, hN0, hN]
  replace h := Zw c20 h
  refine Gu [0, 5] [true, false] ?_
  refine Zo ?_
  obtain ⟨l19, al19, bl19, cl19, gl19, h⟩ := bS (lo := (some (.i64, (a1.L.length : Int)))) (hi := none) (f := Za) rfl rfl Zhn Gt (fun _ => rfl) h
  refine Z00 [] al19 bl19 cl19 gl19 hi0 hk0 ?_
  refine zD [] [true, false] ?_
  refine Vq [4] hi0 hk0 ?_
  refine zW ?_
  obtain rfl := sI h
  refine X0 (k := 1) (i := i0) (q1 := ⟨false, 132, 2, 1, [(sL Za l19), .row n a0.out.length]⟩) (L3 := [some (oR 25 3 Za a0.out), none]) (E2 := (⟨99, [], [(4, (vB true))]⟩ : Env)) (n3 := (n + 2)) (.inr rfl) hU rfl [(vB true)] ?_ ?_
  ·refine Fit2.trans (E' := (⟨99, [], [(4, (vB true))]⟩ : Env)) (O' := (Zy ((O.upd j0_0 none).upd i0 (some ⟨false, 132, 2, 1, [(sL Za l19), .row n a0.out.length]⟩)) n [some (oR 25 3 Za a0.out), none])) (n' := (n + 2)) (Fit2.of (Z9 hU rfl rfl ?_) (by omega)) ?_
   ·exact X3 hi0 hk0
   refine Y9 (k := 2) (k' := 2) hU [0, 1] [0, 0] rfl rfl rfl rfl ⟨rfl, rfl⟩ ?_
   exact X3 hi0 hk0
  simp only [push_cast, seval, ↓reduceIte, Zd, Tryz.results92, hi0, hk0, hN0, hN]
 replace h := Zw c27 h
 refine Vq [0, 3, 7, 81] hi0 hk0 ?_
 refine Zv (t := (a1.Kind == 2)) rfl (fun c26 => ?_) (fun c26 => ?_)
 ·replace h := Zx c26 h
  refine Zo ?_
  obtain ⟨l22, pl22, ql22, el22, h⟩ := bA (k := a1.L.length) rfl h
  refine Vs Zu (by kernel_rfl) [.plain, .plain, .plain, .plain, .plain, .plain, .plain, .pass, .plain, .plain, .bar] (fun i => i ≠ n + 0) [0, 1, 2, 3, 4, 5, 6, 7, 8, 9, 10] [.plain, .plain, .plain, .plain, .plain, .plain, .plain, .pass, .plain, .plain, .bar] [] (by kernel_rfl) rfl ?_
  refine zX5 pl22 ql22 el22 hi0 hk0 ?_
  refine zO ?_
  refine Zhh ⟨99, [], []⟩ (Zy ((O.upd j0_0 none).upd i0 (some ⟨false, 132, 2, 1, [(sL Za a0.left), .row n l22.length]⟩)) n [some (oR 25 3 Za l22), none]) (Z9 hU rfl rfl ?_) ?_
  ·exact Ybh pl22 ql22 el22 hi0 hk0
  refine Vq [4] hi0 hk0 ?_
  refine zW ?_
  obtain rfl := sI h
  refine X0 (k := 1) (i := i0) (q1 := ⟨false, 132, 2, 1, [(sL Za a0.left), .row n l22.length]⟩) (L3 := [some (oR 25 3 Za l22), none]) (E2 := (⟨99, [], [(4, (vB true))]⟩ : Env)) (n3 := (n + 2)) (.inr rfl) hU rfl [(vB true)] ?_ ?_
  ·refine Fit2.trans (E' := (⟨99, [], [(4, (vB true))]⟩ : Env)) (O' := (Zy ((O.upd j0_0 none).upd i0 (some ⟨false, 132, 2, 1, [(sL Za a0.left), .row n l22.length]⟩)) n [some (oR 25 3 Za l22), none])) (n' := (n + 2)) (Fit2.of (Z9 hU rfl rfl ?_) (by omega)) ?_
   ·exact X3 hi0 hk0
   refine Y9 (k := 2) (k' := 2) hU [0, 1] [0, 0] rfl rfl rfl rfl ⟨rfl, rfl⟩ ?_
   exact X3 hi0 hk0
  simp only [push_cast, seval, ↓reduceIte, Zd, Tryz.results92, hi0, hk0, hN0, hN]
 replace h := Zw c26 h
 refine Vq [0, 3, 93] hi0 hk0 ?_
 refine Zv (t := (a1.Kind == 3)) rfl (fun c25 => ?_) (fun c25 => ?_)
 ·replace h := Zx c25 h
  refine Zo ?_
  obtain ⟨y24, hy24, h⟩ := bC h
  refine Vp [] hi0 hk0 ?_
  refine (Jn (i0 := i0) (j0_0 := n) (by omega) (by omega) (by omega) (by simp only [push_cast, seval, ↓reduceIte, Zd, Ym, hi0, hk0, hN0, hN] <;> rfl) (by simp only [push_cast, seval, ↓reduceIte, Zd, Ym, hi0, hk0, hN0, hN] <;> rfl) hy24).then ?_
  refine zX2 hi0 hk0 ?_
  refine zD [4] [false, false, true] ?_
  refine zW ?_
  obtain rfl := sI h
  refine X0 (k := 1) (i := i0) (q1 := ⟨false, 132, 2, 1, [(sL Za y24.2.left), .row n y24.2.out.length]⟩) (L3 := [some (oR 25 3 Za y24.2.out), none]) (E2 := (⟨99, [], [(4, (vB y24.1))]⟩ : Env)) (n3 := (n + 2)) (.inr rfl) hU rfl [(vB y24.1)] ?_ ?_
  ·refine Fit2.trans (E' := (⟨99, [], [(4, (vB y24.1))]⟩ : Env)) (O' := (Zy ((O.upd j0_0 none).upd i0 (some ⟨false, 132, 2, 1, [(sL Za y24.2.left), .row (n + 2) y24.2.out.length]⟩)) n [none, none, some (oR 25 3 Za y24.2.out)])) (n' := (n + 3)) (Fit2.of (Z9 hU rfl rfl ?_) (by omega)) ?_
   ·exact X3 hi0 hk0
   refine Y9 (k := 3) (k' := 2) hU [1, 1, 0] [2, 0] rfl rfl rfl rfl ⟨rfl, rfl⟩ ?_
   exact X3 hi0 hk0
  simp only [push_cast, seval, ↓reduceIte, Zd, Tryz.results92, hi0, hk0, hN0, hN]
 replace h := Zw c25 h
 refine Gu [] [true, false] ?_
 refine Vq [4] hi0 hk0 ?_
 refine zW ?_
 obtain rfl := sI h
 refine X0 (k := 1) (i := i0) (q1 := ⟨false, 132, 2, 1, [(sL Za a0.left), .row n a0.out.length]⟩) (L3 := [some (oR 25 3 Za a0.out), none]) (E2 := (⟨99, [], [(4, (vB false))]⟩ : Env)) (n3 := (n + 2)) (.inr rfl) hU rfl [(vB false)] ?_ ?_
 ·refine Fit2.trans (E' := (⟨99, [], [(4, (vB false))]⟩ : Env)) (O' := (Zy ((O.upd j0_0 none).upd i0 (some ⟨false, 132, 2, 1, [(sL Za a0.left), .row n a0.out.length]⟩)) n [some (oR 25 3 Za a0.out), none])) (n' := (n + 2)) (Fit2.of (Z9 hU rfl rfl ?_) (by omega)) ?_
  ·exact X3 hi0 hk0
  refine Y9 (k := 2) (k' := 2) hU [0, 1] [0, 0] rfl rfl rfl rfl ⟨rfl, rfl⟩ ?_
  exact X3 hi0 hk0
 simp only [push_cast, seval, ↓reduceIte, Zd, Tryz.results92, hi0, hk0, hN0, hN]
theorem Zjd {Y7 : (Zc → Zb → Option (Zb × Bool))} {Yj : (Zc → Zb → Option (Zb × Bool))} {Xl : (Zc → Zb → Option (Zb × Bool))} {Z8 : (Zh → Zj → Option (Bool × Zh))} {Z4 : (Zh → Zc → Option (Bool × Zh))} (Ky : U3 Y7) (Vn : Ke Yj) (Zbf : U4 Xl) (Kv : Jm Z8) (Jn : Qs Z4) {a0 : Zh} {a1 : Zc} {r : (Bool × Zh)} {O : Objs} {n : Nat} {i0 j0_0 : Nat} (hi0 : i0 < n) (Q0 : j0_0 < n) (Xv : i0 ≠ j0_0) (ho0 : O i0 = some ⟨false, 132, 2, 1, [(sL Za a0.left), .row j0_0 a0.out.length]⟩) (Ji : O j0_0 = some (oR 25 3 Za a0.out)) (h : Kq Y7 Yj Xl Z8 Z4 a0 a1 = some r) : GTo Tryz.prog 102 [.ref i0 0, .agg (Zk a1)] O n ((vB r.1)) (Zy ((O.upd j0_0 none).upd i0 (some ⟨false, 132, 2, 1, [(sL Za r.2.left), .row n r.2.out.length]⟩)) n [some (oR 25 3 Za r.2.out)]) (n + 1) := by
 unfold Kq at h
 refine Zez Zu Tryz.call102 Tryz.func102 rfl (Nat.le_of_ble_eq_true rfl) (by omega) fun hU => ?_
 have e0 := Xx (ba := n) (E := ⟨44, [], Zaa 0 [.ref i0 0, .agg [.val (.int .i64 a1.Kind), .val (.int .i64 a1.Old.Kind), .sl a1.Old.Words.length (fl (eI .u64) a1.Old.Words), .sl a1.Old.Kids.length (fl Za a1.Old.Kids), .val (.int .i64 a1.New.Kind), .sl a1.New.Words.length (fl (eI .u64) a1.New.Words), .sl a1.New.Kids.length (fl Za a1.New.Kids), .sl a1.Words.length (fl Zg a1.Words), .sl a1.Kids.length (fl Zi a1.Kids), .val (.int .i64 a1.List_), .sl a1.Ops.length (fl Zf a1.Ops)]]⟩) (O := (Zy O n [])) (n := n) (i := i0) (j := j0_0) (k := 1) (len := a0.out.length) (q := ⟨false, 132, 2, 1, [.sl a0.left.length (fl Za a0.left), .row j0_0 a0.out.length]⟩) (qj := ⟨true, 25, 3, a0.out.length, fl Za a0.out⟩) (by rw [Z7 _ hi0]; first | exact ho0 | exact Z3 _ _ _) rfl (by rw [Z7 _ Q0]; exact Ji) Xv (by omega)
 simp only [Z6 _ _ Q0, Z6 _ _ hi0, Yq, Yc, Xb, Jy Xv, List.set_cons_zero, List.set_cons_succ, List.cons_append, List.nil_append, List.length_cons, List.length_nil, Nat.zero_add, Nat.reduceAdd, Nat.add_assoc] at e0
 refine Qi e0 ?_
 have hU := (Und.drop hU j0_0)
 have hk0 : ∀ k, i0 < n + k := fun k => by omega
 have hN0 : ∀ o, Objs.upd (O.upd j0_0 none) i0 o n = none := fun o => Xt hU hi0 _ (Nat.le_refl _)
 have hN : ∀ o k, Objs.upd (O.upd j0_0 none) i0 o (n + k) = none := fun o k => Xt hU hi0 _ (Nat.le_add_right _ _)
 show W _ _ _ _ ⟨44, [], [(0, .ref i0 0), (1, .agg (Zk a1))]⟩ (Zy ((O.upd j0_0 none).upd i0 (some ⟨false, 132, 2, 1, [(sL Za a0.left), .row n a0.out.length]⟩)) n [some (oR 25 3 Za a0.out)]) _
 refine Vq [0, 3] hi0 hk0 ?_
 refine Zo ?_
 refine Vq [0, 3, 12] hi0 hk0 ?_
 refine Zv (t := ((a0.left.length : Int) == 0)) rfl (fun c13 => ?_) (fun c13 => ?_)
 ·replace h := Zx c13 h
  refine Vq [4] hi0 hk0 ?_
  refine zW ?_
  obtain rfl := sI h
  refine X0 (k := 1) (i := i0) (q1 := ⟨false, 132, 2, 1, [(sL Za a0.left), .row n a0.out.length]⟩) (L3 := [some (oR 25 3 Za a0.out), none]) (E2 := (⟨44, [], [(4, (vB false))]⟩ : Env)) (n3 := (n + 2)) (.inr rfl) hU rfl [(vB false)] ?_ ?_
  ·refine Fit2.trans (E' := (⟨44, [], [(4, (vB false))]⟩ : Env)) (O' := (Zy ((O.upd j0_0 none).upd i0 (some ⟨false, 132, 2, 1, [(sL Za a0.left), .row n a0.out.length]⟩)) n [some (oR 25 3 Za a0.out), none])) (n' := (n + 2)) (Fit2.of (Z9 hU rfl rfl ?_) (by omega)) ?_
   ·exact X3 hi0 hk0
   refine Y9 (k := 2) (k' := 2) hU [0, 1] [0, 0] rfl rfl rfl rfl ⟨rfl, rfl⟩ ?_
   exact X3 hi0 hk0
  simp only [push_cast, seval, ↓reduceIte, Zd, Tryz.results102, hi0, hk0, hN0, hN]
 replace h := Zw c13 h
 refine Gu [0, 3] [true, true] ?_
 refine Zo ?_
 obtain ⟨x3, hx3, ax3, bx3, cx3, h⟩ := bE (f := Za) Gt (fun _ => rfl) (by decide) h
 obtain ⟨y4, hy4, h⟩ := bC h
 refine Vs Zu (by kernel_rfl) [.low, .plain, .low, .low, .low, .low, .low, .low, .plain, .plain, .plain, .pass, .bar, .plain] (fun i => i < (n + 2)) [0, 1, 2, 3, 4, 5, 6, 7, 8, 9, 10, 11, 12, 13] [.low, .plain, .low, .low, .low, .low, .low, .low, .plain, .plain, .plain, .pass, .bar, .plain] [] (by kernel_rfl) rfl ?_
 refine zF5 ax3 bx3 cx3 hi0 hk0 ?_
 refine zO ?_
 first | refine PCallA.of (fun _ _ => Ky hy4) ?_ | refine PCall.of (Ky hy4) ?_
 refine zF5 ax3 bx3 cx3 hi0 hk0 ?_
 refine zO ?_
 refine zDs [0, 5, 6] [true, false, true] ?_
 obtain ⟨l8, pl8, ql8, el8, h⟩ := bA (k := 1) rfl h
 obtain ⟨x9, hx9, ax9, bx9, cx9, h⟩ := bE (f := Za) Gt (fun _ => rfl) (by decide) h
 have gu10 : Kh (fl Za a0.out ++ [.val (.int .i64 0), .val (.slice none 0 0), .val (.slice none 0 0)]) [.val (.int .i64 y4.1.Kind), .sl y4.1.Words.length (fl (eI .u64) y4.1.Words), .sl y4.1.Kids.length (fl Za y4.1.Kids)] (List.length a0.out * 3) = some (fl Za a0.out ++ [.val (.int .i64 y4.1.Kind), .sl y4.1.Words.length (fl (eI .u64) y4.1.Words), .sl y4.1.Kids.length (fl Za y4.1.Kids)]) := Zao (f := Za) (sz := 3) (fun _ => rfl) rfl rfl
 refine Vs Zu (by kernel_rfl) [.plain, .low, .low, .low, .low, .low, .pass, .bar, .shp, .fill true, .shp, .shp, .fill false] (fun i => i < (n + 3)) [0, 1, 2, 3, 4, 5, 6, 7, 8, 9, 10, 11, 12] [.plain, .low, .low, .low, .low, .low, .pass, .bar, .shp, .fill true, .shp, .shp, .fill false] [] (by kernel_rfl) rfl ?_
 refine zF9 pl8 ql8 el8 ax9 bx9 cx9 gu10 hi0 hk0 ?_
 refine zO ?_
 refine Zhh ⟨44, [], [(0, .ref i0 0), (6, (vB y4.2))]⟩ (Zy ((O.upd j0_0 none).upd i0 (some ⟨false, 132, 2, 1, [(sL Za a0.left), .row n (a0.out ++ [y4.1]).length]⟩)) n [some (oR 25 3 Za (a0.out ++ [y4.1])), none, none, none]) (Z9 hU rfl rfl ?_) ?_
 ·exact Zzl pl8 ql8 el8 ax9 bx9 cx9 gu10 hi0 hk0
 refine Zo ?_
 obtain ⟨l12, al12, bl12, cl12, gl12, h⟩ := bS (lo := (some (.i64, 1))) (hi := none) (f := Za) rfl rfl Zhn Gt (fun _ => rfl) h
 refine Z00 [] al12 bl12 cl12 gl12 hi0 hk0 ?_
 refine zD [6] [true, false, false, false] ?_
 refine Vq [4] hi0 hk0 ?_
 refine zW ?_
 obtain rfl := sI h
 refine X0 (k := 1) (i := i0) (q1 := ⟨false, 132, 2, 1, [(sL Za l12), .row n (a0.out ++ [y4.1]).length]⟩) (L3 := [some (oR 25 3 Za (a0.out ++ [y4.1])), none]) (E2 := (⟨44, [], [(4, (vB y4.2))]⟩ : Env)) (n3 := (n + 2)) (.inr rfl) hU rfl [(vB y4.2)] ?_ ?_
 ·refine Fit2.trans (E' := (⟨44, [], [(4, (vB y4.2))]⟩ : Env)) (O' := (Zy ((O.upd j0_0 none).upd i0 (some ⟨false, 132, 2, 1, [(sL Za l12), .row n (a0.out ++ [y4.1]).length]⟩)) n [some (oR 25 3 Za (a0.out ++ [y4.1])), none, none, none])) (n' := (n + 4)) (Fit2.of (Z9 hU rfl rfl ?_) (by omega)) ?_
  ·exact X3 hi0 hk0
  refine Y9 (k := 4) (k' := 2) hU [0, 1, 1, 1] [0, 0] rfl rfl rfl rfl ⟨rfl, rfl⟩ ?_
  exact X3 hi0 hk0
 simp only [push_cast, seval, ↓reduceIte, Zd, Tryz.results102, hi0, hk0, hN0, hN]
theorem Zpt : ∀ k, (U3 ((Zq k).1)) ∧ (Ke ((Zq k).2.1)) ∧ (U4 ((Zq k).2.2.1)) ∧ (Jm ((Zq k).2.2.2.1)) ∧ (Qs ((Zq k).2.2.2.2)) := fun k => by
 induction k with
 | zero => exact ⟨@fun a0 a1 r O n h => (nomatch (show (none : Option _) = some _ from h)), @fun a0 a1 r O n h => (nomatch (show (none : Option _) = some _ from h)), @fun a0 a1 r O n h => (nomatch (show (none : Option _) = some _ from h)), @fun a0 a1 r O n i0 j0_0 hi0 Q0 Xv ho0 Ji h => (nomatch (show (none : Option _) = some _ from h)), @fun a0 a1 r O n i0 j0_0 hi0 Q0 Xv ho0 Ji h => (nomatch (show (none : Option _) = some _ from h))⟩
 | succ k ih => exact ⟨@fun a0 a1 r O n h => Zs1 (ih.1) (ih.2.1) (ih.2.2.1) (ih.2.2.2.1) (ih.2.2.2.2)  h, @fun a0 a1 r O n h => Zmd (ih.1) (ih.2.1) (ih.2.2.1) (ih.2.2.2.1) (ih.2.2.2.2)  h, @fun a0 a1 r O n h => Zs2 (ih.1) (ih.2.1) (ih.2.2.1) (ih.2.2.2.1) (ih.2.2.2.2)  h, @fun a0 a1 r O n i0 j0_0 hi0 Q0 Xv ho0 Ji h => Zk0 (ih.1) (ih.2.1) (ih.2.2.1) (ih.2.2.2.1) (ih.2.2.2.2) hi0 Q0 Xv ho0 Ji h, @fun a0 a1 r O n i0 j0_0 hi0 Q0 Xv ho0 Ji h => Zjd (ih.1) (ih.2.1) (ih.2.2.1) (ih.2.2.2.1) (ih.2.2.2.2) hi0 Q0 Xv ho0 Ji h⟩
theorem Zuz {a0 : Zc} {a1 : Zb} {r : (Zb × Bool)} {O : Objs} {n : Nat} (h : Zka a0 a1 = some r) : GTo Tryz.prog 41 [.agg (Zk a0), .agg (Zl a1)] O n (.tup [.agg (Zl r.1), (vB r.2)]) O n := by
 obtain ⟨k, hk⟩ := Zel h
 exact (Zpt k).1  hk
theorem Zmn {a0 : Zc} {a1 : Zb} {r : (Zb × Bool)} {O : Objs} {n : Nat} (h : Zfh a0 a1 = some r) : GTo Tryz.prog 26 [.agg (Zk a0), .agg (Zl a1)] O n (.tup [.agg (Zl r.1), (vB r.2)]) O n := by
 unfold Zfh at h
 refine fn0 Zu Tryz.call26 Tryz.func26 rfl fun hU hN0 hN => ?_
 show W _ _ _ _ ⟨19, [], [(0, .agg (Zk a0)), (1, .agg (Zl a1))]⟩ (Zy O n []) _
 refine zQ [2, 3, 4] ?_
 refine Zo ?_
 obtain ⟨y2, hy2, h⟩ := bC h
 refine zCd (Zuz hy2) [4, 6, 7] [false, false, true, true] ?_
 refine Zo ?_
 refine zQ [4, 6, 15] ?_
 refine Zv (t := (!y2.2)) rfl (fun c5 => ?_) (fun c5 => ?_)
 ·replace h := Zx c5 h
  refine Zo ?_
  refine zRd [4, 5] [false, false, true, false] ?_
  refine zW ?_
  obtain rfl := sI h
  refine Zz (.inr rfl) hU [.agg [(vI 0), nV, nV], (vB false)] (by omega) ?_
  simp only [push_cast, seval, ↓reduceIte, Zd, Tryz.results26, hN0, hN]
 replace h := Zw c5 h
 refine Gu [4, 6] [false, false, true, true] ?_
 refine Zo ?_
 obtain ⟨y4, hy4, h⟩ := bC h
 refine zCd (Gf hy4) [4, 5] [false, false, true, false] ?_
 refine zW ?_
 obtain rfl := sI h
 refine Zz (.inr rfl) hU [.agg (Zl y4), (vB true)] (by omega) ?_
 simp only [push_cast, seval, ↓reduceIte, Zd, Tryz.results26, hN0, hN]
theorem Zaf {a0 : Zn} {a1 : Zc} {r : (Int × Zn)} {O : Objs} {n : Nat} {i0 j0_0 j0_1 : Nat} (hi0 : i0 < n) (Q0 : j0_0 < n) (Vh : j0_1 < n) (Xv : i0 ≠ j0_0) (X2 : i0 ≠ j0_1) (X1 : j0_0 ≠ j0_1) (ho0 : O i0 = some ⟨false, 51, 5, 1, [(vI a0.now.Kind), (sL (eI .u64) a0.now.Words), (sL Za a0.now.Kids), .row j0_0 a0.done.length, .row j0_1 a0.back.length]⟩) (Ji : O j0_0 = some (oR 30 11 Ze a0.done)) (Un : O j0_1 = some (oR 30 11 Ze a0.back)) (h : Qu a0 a1 = some r) : GTo Tryz.prog 17 [.ref i0 0, .agg (Zk a1)] O n ((vI r.1)) (Zy (((O.upd j0_0 none).upd j0_1 none).upd i0 (some ⟨false, 51, 5, 1, [(vI r.2.now.Kind), (sL (eI .u64) r.2.now.Words), (sL Za r.2.now.Kids), .row n r.2.done.length, .row (n + 1) r.2.back.length]⟩)) n [some (oR 30 11 Ze r.2.done), some (oR 30 11 Ze r.2.back)]) (n + 2) := by
 unfold Qu at h
 refine Zez Zu Tryz.call17 Tryz.func17 rfl (Nat.le_of_ble_eq_true rfl) (by omega) fun hU => ?_
 have e0 := Xx (ba := n) (E := ⟨25, [], Zaa 0 [.ref i0 0, .agg [.val (.int .i64 a1.Kind), .val (.int .i64 a1.Old.Kind), .sl a1.Old.Words.length (fl (eI .u64) a1.Old.Words), .sl a1.Old.Kids.length (fl Za a1.Old.Kids), .val (.int .i64 a1.New.Kind), .sl a1.New.Words.length (fl (eI .u64) a1.New.Words), .sl a1.New.Kids.length (fl Za a1.New.Kids), .sl a1.Words.length (fl Zg a1.Words), .sl a1.Kids.length (fl Zi a1.Kids), .val (.int .i64 a1.List_), .sl a1.Ops.length (fl Zf a1.Ops)]]⟩) (O := (Zy O n [])) (n := n) (i := i0) (j := j0_0) (k := 3) (len := a0.done.length) (q := ⟨false, 51, 5, 1, [.val (.int .i64 a0.now.Kind), .sl a0.now.Words.length (fl (eI .u64) a0.now.Words), .sl a0.now.Kids.length (fl Za a0.now.Kids), .row j0_0 a0.done.length, .row j0_1 a0.back.length]⟩) (qj := ⟨true, 30, 11, a0.done.length, fl Ze a0.done⟩) (by rw [Z7 _ hi0]; first | exact ho0 | exact Z3 _ _ _) rfl (by rw [Z7 _ Q0]; exact Ji) Xv (by omega)
 simp only [Z6 _ _ Q0, Z6 _ _ hi0, Yq, Yc, Xb, Jy Xv, List.set_cons_zero, List.set_cons_succ, List.cons_append, List.nil_append, List.length_cons, List.length_nil, Nat.zero_add, Nat.reduceAdd, Nat.add_assoc] at e0
 refine Qi e0 ?_
 have e1 := Xx (ba := n) (E := ⟨25, [], Zaa 0 [.ref i0 0, .agg [.val (.int .i64 a1.Kind), .val (.int .i64 a1.Old.Kind), .sl a1.Old.Words.length (fl (eI .u64) a1.Old.Words), .sl a1.Old.Kids.length (fl Za a1.Old.Kids), .val (.int .i64 a1.New.Kind), .sl a1.New.Words.length (fl (eI .u64) a1.New.Words), .sl a1.New.Kids.length (fl Za a1.New.Kids), .sl a1.Words.length (fl Zg a1.Words), .sl a1.Kids.length (fl Zi a1.Kids), .val (.int .i64 a1.List_), .sl a1.Ops.length (fl Zf a1.Ops)]]⟩) (O := (Zy ((O.upd j0_0 none).upd i0 (some ⟨false, 51, 5, 1, [.val (.int .i64 a0.now.Kind), .sl a0.now.Words.length (fl (eI .u64) a0.now.Words), .sl a0.now.Kids.length (fl Za a0.now.Kids), .row n a0.done.length, .row j0_1 a0.back.length]⟩)) n [some ⟨true, 30, 11, a0.done.length, fl Ze a0.done⟩])) (n := (n + 1)) (i := i0) (j := j0_1) (k := 4) (len := a0.back.length) (q := ⟨false, 51, 5, 1, [.val (.int .i64 a0.now.Kind), .sl a0.now.Words.length (fl (eI .u64) a0.now.Words), .sl a0.now.Kids.length (fl Za a0.now.Kids), .row n a0.done.length, .row j0_1 a0.back.length]⟩) (qj := ⟨true, 30, 11, a0.back.length, fl Ze a0.back⟩) (by rw [Z7 _ hi0]; first | exact ho0 | exact Z3 _ _ _) rfl (by rw [Z7 _ Vh, Yo _ _ (Ne.symm X2), Yo _ _ (Ne.symm X1)]; exact Un) X2 (by omega)
 simp only [Z6 _ _ Vh, Z6 _ _ hi0, Yq, Yc, Xb, Jy X2, List.set_cons_zero, List.set_cons_succ, List.cons_append, List.nil_append, List.length_cons, List.length_nil, Nat.zero_add, Nat.reduceAdd, Nat.add_assoc] at e1
 refine Qi e1 ?_
 have hU := (Und.drop (Und.drop hU j0_0) j0_1)
 have hk0 : ∀ k, i0 < n + k := fun k => by omega
 have hN0 : ∀ o, Objs.upd ((O.upd j0_0 none).upd j0_1 none) i0 o n = none := fun o => Xt hU hi0 _ (Nat.le_refl _)
 have hN : ∀ o k, Objs.upd ((O.upd j0_0 none).upd j0_1 none) i0 o (n + k) = none := fun o k => Xt hU hi0 _ (Nat.le_add_right _ _)
 show W _ _ _ _ ⟨25, [], [(0, .ref i0 0), (1, .agg (Zk a1))]⟩ (Zy (((O.upd j0_0 none).upd j0_1 none).upd i0 (some ⟨false, 51, 5, 1, [(vI a0.now.Kind), (sL (eI .u64) a0.now.Words), (sL Za a0.now.Kids), .row n a0.done.length, .row (n + 1) a0.back.length]⟩)) n [some (oR 30 11 Ze a0.done), some (oR 30 11 Ze a0.back)]) _
 refine Vq [0, 3] hi0 hk0 ?_
 refine Zo ?_
 obtain ⟨y2, hy2, h⟩ := bC h
 refine Vs Zu (by kernel_rfl) [.low, .plain, .low, .low, .low, .low, .plain, .plain, .plain, .pass, .bar, .plain] (fun i => i < (n + 3)) [0, 1, 2, 3, 4, 5, 6, 7, 8, 9, 10, 11] [.low, .plain, .low, .low, .low, .low, .plain, .plain, .plain, .pass, .bar, .plain] [] (by kernel_rfl) rfl ?_
 refine zX2 hi0 hk0 ?_
 refine zO ?_
 first | refine PCallA.of (fun _ _ => Zmn hy2) ?_ | refine PCall.of (Zmn hy2) ?_
 refine zX2 hi0 hk0 ?_
 refine zO ?_
 refine zDs [0, 5, 6] [true, true, false, true] ?_
 refine Vq [0, 5, 17] hi0 hk0 ?_
 refine Zv (t := (!y2.2)) rfl (fun c6 => ?_) (fun c6 => ?_)
 ·replace h := Zx c6 h
  refine Vq [4] hi0 hk0 ?_
  refine zW ?_
  obtain rfl := sI h
  refine X0 (k := 2) (i := i0) (q1 := ⟨false, 51, 5, 1, [(vI a0.now.Kind), (sL (eI .u64) a0.now.Words), (sL Za a0.now.Kids), .row n a0.done.length, .row (n + 1) a0.back.length]⟩) (L3 := [some (oR 30 11 Ze a0.done), some (oR 30 11 Ze a0.back), none]) (E2 := (⟨25, [], [(4, (vI 13))]⟩ : Env)) (n3 := (n + 3)) (.inr rfl) hU rfl [(vI 13)] ?_ ?_
  ·refine Fit2.trans (E' := (⟨25, [], [(4, (vI 13))]⟩ : Env)) (O' := (Zy (((O.upd j0_0 none).upd j0_1 none).upd i0 (some ⟨false, 51, 5, 1, [(vI a0.now.Kind), (sL (eI .u64) a0.now.Words), (sL Za a0.now.Kids), .row n a0.done.length, .row (n + 1) a0.back.length]⟩)) n [some (oR 30 11 Ze a0.done), some (oR 30 11 Ze a0.back), none, none])) (n' := (n + 4)) (Fit2.of (Z9 hU rfl rfl ?_) (by omega)) ?_
   ·exact X3 hi0 hk0
   refine Y9 (k := 4) (k' := 3) hU [0, 1, 2, 2] [0, 1, 0] rfl rfl rfl rfl ⟨rfl, rfl⟩ ?_
   exact X3 hi0 hk0
  simp only [push_cast, seval, ↓reduceIte, Zd, Tryz.results17, hi0, hk0, hN0, hN]
 replace h := Zw c6 h
 refine Gu [0, 5] [true, true, false, true] ?_
 refine Zo ?_
 refine Zo ?_
 obtain ⟨y4, hy4, h⟩ := bC h
 refine Vp [] hi0 hk0 ?_
 refine (Zgo hy4).then ?_
 refine zX2 hi0 hk0 ?_
 refine zD [0, 5, 20] [true, true, false, true] ?_
 refine Zv (t := (!y4)) rfl (fun c5 => ?_) (fun c5 => ?_)
 ·replace h := Zx c5 h
  refine Vq [4] hi0 hk0 ?_
  refine zW ?_
  obtain rfl := sI h
  refine X0 (k := 2) (i := i0) (q1 := ⟨false, 51, 5, 1, [(vI a0.now.Kind), (sL (eI .u64) a0.now.Words), (sL Za a0.now.Kids), .row n a0.done.length, .row (n + 1) a0.back.length]⟩) (L3 := [some (oR 30 11 Ze a0.done), some (oR 30 11 Ze a0.back), none]) (E2 := (⟨25, [], [(4, (vI 3))]⟩ : Env)) (n3 := (n + 3)) (.inr rfl) hU rfl [(vI 3)] ?_ ?_
  ·refine Fit2.trans (E' := (⟨25, [], [(4, (vI 3))]⟩ : Env)) (O' := (Zy (((O.upd j0_0 none).upd j0_1 none).upd i0 (some ⟨false, 51, 5, 1, [(vI a0.now.Kind), (sL (eI .u64) a0.now.Words), (sL Za a0.now.Kids), .row n a0.done.length, .row (n + 1) a0.back.length]⟩)) n [some (oR 30 11 Ze a0.done), some (oR 30 11 Ze a0.back), none, none])) (n' := (n + 4)) (Fit2.of (Z9 hU rfl rfl ?_) (by omega)) ?_
   ·exact X3 hi0 hk0
   refine Y9 (k := 4) (k' := 3) hU [0, 1, 2, 2] [0, 1, 0] rfl rfl rfl rfl ⟨rfl, rfl⟩ ?_
   exact X3 hi0 hk0
  simp only [push_cast, seval, ↓reduceIte, Zd, Tryz.results17, hi0, hk0, hN0, hN]
 replace h := Zw c5 h
 refine Gu [0, 5] [true, true, false, true] ?_
 refine Zo ?_
 refine Vp [] hi0 hk0 ?_
 refine zD [] [true, true, false, false] ?_
 refine Vq [4] hi0 hk0 ?_
 refine zW ?_
 obtain rfl := sI h
 refine X0 (k := 2) (i := i0) (q1 := ⟨false, 51, 5, 1, [(vI y2.1.Kind), (sL (eI .u64) y2.1.Words), (sL Za y2.1.Kids), .row n a0.done.length, .row (n + 1) a0.back.length]⟩) (L3 := [some (oR 30 11 Ze a0.done), some (oR 30 11 Ze a0.back), none]) (E2 := (⟨25, [], [(4, (vI 0))]⟩ : Env)) (n3 := (n + 3)) (.inr rfl) hU rfl [(vI 0)] ?_ ?_
 ·refine Fit2.trans (E' := (⟨25, [], [(4, (vI 0))]⟩ : Env)) (O' := (Zy (((O.upd j0_0 none).upd j0_1 none).upd i0 (some ⟨false, 51, 5, 1, [(vI y2.1.Kind), (sL (eI .u64) y2.1.Words), (sL Za y2.1.Kids), .row n a0.done.length, .row (n + 1) a0.back.length]⟩)) n [some (oR 30 11 Ze a0.done), some (oR 30 11 Ze a0.back), none, none])) (n' := (n + 4)) (Fit2.of (Z9 hU rfl rfl ?_) (by omega)) ?_
  ·exact X3 hi0 hk0
  refine Y9 (k := 4) (k' := 3) hU [0, 1, 2, 2] [0, 1, 0] rfl rfl rfl rfl ⟨rfl, rfl⟩ ?_
  exact X3 hi0 hk0
 simp only [push_cast, seval, ↓reduceIte, Zd, Tryz.results17, hi0, hk0, hN0, hN]
theorem Zbi {a0 r : List Zs} {O : Objs} {n : Nat} (h : Q2 a0 = some r) : GTo Tryz.prog 27 [(sL Zg a0)] O n (.row n r.length) (Zy O n [some (oR 48 4 Zg r)]) (n + 1) := by
 have h1 := Zv1 h
 have h2 := Zv2 h
 have h3 := Zra h
 rw [List.nil_append] at h3
 subst h3
 simp only [List.length_nil, Nat.zero_add] at h1 h2
 clear h
 refine Zez Zu Tryz.call27 Tryz.func27 rfl (Nat.le_of_ble_eq_true rfl) (by omega) fun hU => ?_
 have hN0 : O n = none := hU.fresh _ (Nat.le_refl _)
 have hN : ∀ k, O (n + k) = none := fun k => hU.fresh _ (Nat.le_add_right _ _)
 show W _ _ _ _ ⟨8, [], [(0, (sL Zg r))]⟩ (Zy O n []) _
 refine zQ [0] ?_
 refine Z02 0 r.length (fl Zg r) rfl (Nat.le_of_ble_eq_true rfl) (Z5 Yy _) fun A c hA => ?_
 refine zQ [0, 4] ?_
 cases A with
 | none =>
  obtain rfl : r = [] := List.eq_nil_of_length_eq_zero (hA rfl)
  refine Zv (t := true) rfl (fun _ => ?_) (fun hc => by cases hc)
  refine zQ [2] ?_
  refine zW ?_
  refine Zn6 (k := 1) (L3 := [some ⟨true, 48, 4, 0, []⟩]) (E2 := ⟨8, [], [(2, .row n 0), (2, nV)]⟩) (n3 := (n + 1)) (.inr rfl) hU rfl [.row n 0] ?_ ?_
  ·have ha := Zpe (ba := n) (E := ⟨8, [], [(2, .val (.slice none 0 0))]⟩) (O := (Zy O n [])) (n := n) 2 48 4 rfl (by omega)
   simp only [Yc] at ha
   exact ha
  simp only [push_cast, seval, ↓reduceIte, Zd, Tryz.results27, hN0, hN]
 | some A =>
  refine Zv (t := false) rfl (fun hc => by cases hc) (fun _ => ?_)
  refine zK ?_
  refine And.intro rfl (And.intro (Nat.le_of_ble_eq_true rfl) ?_)
  refine Zo ?_
  refine Y2 Zu [] ?_
  simp only [push_cast, seval, ↓reduceIte, Zd, h1, h2, hN0, hN]
  refine zW ?_
  refine Zr8 (.inr rfl) hU rfl [.row n r.length] (by omega) ?_
  simp only [push_cast, seval, ↓reduceIte, Zd, Tryz.results27, hN0, hN]
theorem Vm {a0 : Zt} {r : Zt} {O : Objs} {n : Nat} {i0 j0_0 j0_1 j0_2 : Nat} (hi0 : i0 < n) (Q0 : j0_0 < n) (Vh : j0_1 < n) (Zix : j0_2 < n) (Xv : i0 ≠ j0_0) (X2 : i0 ≠ j0_1) (Zav : i0 ≠ j0_2) (X1 : j0_0 ≠ j0_1) (Zat : j0_0 ≠ j0_2) (Zau : j0_1 ≠ j0_2) (ho0 : O i0 = some ⟨false, 81, 4, 1, [.row j0_2 a0.out.length, (vI a0.kept), .row j0_0 a0.gone.length, .row j0_1 a0.come.length]⟩) (Ji : O j0_0 = some (oR 25 3 Za a0.gone)) (Un : O j0_1 = some (oR 25 3 Za a0.come)) (Zj9 : O j0_2 = some (oR 61 14 Zf a0.out)) (h : X7 a0 = some r) : GTo Tryz.prog 45 [.ref i0 0] O n (.tup []) (Zy ((((O.upd j0_0 none).upd j0_1 none).upd j0_2 none).upd i0 (some ⟨false, 81, 4, 1, [.row (n + 2) r.out.length, (vI r.kept), .row n r.gone.length, .row (n + 1) r.come.length]⟩)) n [some (oR 25 3 Za r.gone), some (oR 25 3 Za r.come), some (oR 61 14 Zf r.out)]) (n + 3) := by
 unfold X7 at h
 refine Zez Zu Tryz.call45 Tryz.func45 rfl (Nat.le_of_ble_eq_true rfl) (by omega) fun hU => ?_
 have e0 := Xx (ba := n) (E := ⟨73, [], Zaa 0 [.ref i0 0]⟩) (O := (Zy O n [])) (n := n) (i := i0) (j := j0_0) (k := 2) (len := a0.gone.length) (q := ⟨false, 81, 4, 1, [.row j0_2 a0.out.length, .val (.int .i64 a0.kept), .row j0_0 a0.gone.length, .row j0_1 a0.come.length]⟩) (qj := ⟨true, 25, 3, a0.gone.length, fl Za a0.gone⟩) (by rw [Z7 _ hi0]; first | exact ho0 | exact Z3 _ _ _) rfl (by rw [Z7 _ Q0]; exact Ji) Xv (by omega)
 simp only [Z6 _ _ Q0, Z6 _ _ hi0, Yq, Yc, Xb, Jy Xv, List.set_cons_zero, List.set_cons_succ, List.cons_append, List.nil_append, List.length_cons, List.length_nil, Nat.zero_add, Nat.reduceAdd, Nat.add_assoc] at e0
 refine Qi e0 ?_
 have e1 := Xx (ba := n) (E := ⟨73, [], Zaa 0 [.ref i0 0]⟩) (O := (Zy ((O.upd j0_0 none).upd i0 (some ⟨false, 81, 4, 1, [.row j0_2 a0.out.length, .val (.int .i64 a0.kept), .row n a0.gone.length, .row j0_1 a0.come.length]⟩)) n [some ⟨true, 25, 3, a0.gone.length, fl Za a0.gone⟩])) (n := (n + 1)) (i := i0) (j := j0_1) (k := 3) (len := a0.come.length) (q := ⟨false, 81, 4, 1, [.row j0_2 a0.out.length, .val (.int .i64 a0.kept), .row n a0.gone.length, .row j0_1 a0.come.length]⟩) (qj := ⟨true, 25, 3, a0.come.length, fl Za a0.come⟩) (by rw [Z7 _ hi0]; first | exact ho0 | exact Z3 _ _ _) rfl (by rw [Z7 _ Vh, Yo _ _ (Ne.symm X2), Yo _ _ (Ne.symm X1)]; exact Un) X2 (by omega)
 simp only [Z6 _ _ Vh, Z6 _ _ hi0, Yq, Yc, Xb, Jy X2, List.set_cons_zero, List.set_cons_succ, List.cons_append, List.nil_append, List.length_cons, List.length_nil, Nat.zero_add, Nat.reduceAdd, Nat.add_assoc] at e1
 refine Qi e1 ?_
 have e2 := Xx (ba := n) (E := ⟨73, [], Zaa 0 [.ref i0 0]⟩) (O := (Zy (((O.upd j0_0 none).upd j0_1 none).upd i0 (some ⟨false, 81, 4, 1, [.row j0_2 a0.out.length, .val (.int .i64 a0.kept), .row n a0.gone.length, .row (n + 1) a0.come.length]⟩)) n [some ⟨true, 25, 3, a0.gone.length, fl Za a0.gone⟩, some ⟨true, 25, 3, a0.come.length, fl Za a0.come⟩])) (n := (n + 2)) (i := i0) (j := j0_2) (k := 0) (len := a0.out.length) (q := ⟨false, 81, 4, 1, [.row j0_2 a0.out.length, .val (.int .i64 a0.kept), .row n a0.gone.length, .row (n + 1) a0.come.length]⟩) (qj := ⟨true, 61, 14, a0.out.length, fl Zf a0.out⟩) (by rw [Z7 _ hi0]; first | exact ho0 | exact Z3 _ _ _) rfl (by rw [Z7 _ Zix, Yo _ _ (Ne.symm Zav), Yo _ _ (Ne.symm Zau), Yo _ _ (Ne.symm Zat)]; exact Zj9) Zav (by omega)
 simp only [Z6 _ _ Zix, Z6 _ _ hi0, Yq, Yc, Xb, Jy Zav, List.set_cons_zero, List.set_cons_succ, List.cons_append, List.nil_append, List.length_cons, List.length_nil, Nat.zero_add, Nat.reduceAdd, Nat.add_assoc] at e2
 refine Qi e2 ?_
 have hU := (Und.drop (Und.drop (Und.drop hU j0_0) j0_1) j0_2)
 have hk0 : ∀ k, i0 < n + k := fun k => by omega
 have hN0 : ∀ o, Objs.upd (((O.upd j0_0 none).upd j0_1 none).upd j0_2 none) i0 o n = none := fun o => Xt hU hi0 _ (Nat.le_refl _)
 have hN : ∀ o k, Objs.upd (((O.upd j0_0 none).upd j0_1 none).upd j0_2 none) i0 o (n + k) = none := fun o k => Xt hU hi0 _ (Nat.le_add_right _ _)
 show W _ _ _ _ ⟨73, [], [(0, .ref i0 0)]⟩ (Zy ((((O.upd j0_0 none).upd j0_1 none).upd j0_2 none).upd i0 (some ⟨false, 81, 4, 1, [.row (n + 2) a0.out.length, (vI a0.kept), .row n a0.gone.length, .row (n + 1) a0.come.length]⟩)) n [some (oR 25 3 Za a0.gone), some (oR 25 3 Za a0.come), some (oR 61 14 Zf a0.out)]) _
 obtain ⟨z1, hz1, h⟩ := bC h
 refine X4 (E' := ⟨73, [], [(0, .ref i0 0)]⟩) (O' := (Zy ((((O.upd j0_0 none).upd j0_1 none).upd j0_2 none).upd i0 (some ⟨false, 81, 4, 1, [.row (n + 2) z1.length, (vI a0.kept), .row n a0.gone.length, .row (n + 1) a0.come.length]⟩)) n [some (oR 25 3 Za a0.gone), some (oR 25 3 Za a0.come), some (oR 61 14 Zf z1), none])) (n0 := (n + 4)) ?_ ?_
 ·refine Vq [0, 6] hi0 hk0 ?_
  refine Zv (t := (decide (0 < a0.kept))) rfl (fun c5 => ?_) (fun c5 => ?_)
  ·replace hz1 := Zx c5 hz1
   obtain ⟨l2, pl2, ql2, el2, hz1⟩ := bA (k := 1) rfl hz1
   obtain ⟨x3, hx3, ax3, bx3, cx3, hz1⟩ := bE (f := Zf) Zij (fun _ => rfl) (by decide) hz1
   have gu4 : Kh (fl Zf a0.out ++ [.val (.int .i64 0), .val (.int .i64 0), .val (.slice none 0 0), .val (.int .i64 0), .val (.int .i64 0), .val (.slice none 0 0), .val (.slice none 0 0), .val (.int .i64 0), .val (.slice none 0 0), .val (.slice none 0 0), .val (.slice none 0 0), .val (.slice none 0 0), .val (.int .i64 0), .val (.slice none 0 0)]) [.val (.int .i64 0), .val (.int .i64 a0.kept), .val (.slice none 0 0), .val (.int .i64 0), .val (.int .i64 0), .val (.slice none 0 0), .val (.slice none 0 0), .val (.int .i64 0), .val (.slice none 0 0), .val (.slice none 0 0), .val (.slice none 0 0), .val (.slice none 0 0), .val (.int .i64 0), .val (.slice none 0 0)] (List.length a0.out * 14) = some (fl Zf a0.out ++ [.val (.int .i64 0), .val (.int .i64 a0.kept), .val (.slice none 0 0), .val (.int .i64 0), .val (.int .i64 0), .val (.slice none 0 0), .val (.slice none 0 0), .val (.int .i64 0), .val (.slice none 0 0), .val (.slice none 0 0), .val (.slice none 0 0), .val (.slice none 0 0), .val (.int .i64 0), .val (.slice none 0 0)]) := Zao (f := Zf) (sz := 14) (fun _ => rfl) rfl rfl
   refine Vs Zu (by kernel_rfl) [.plain, .low, .low, .low, .plain, .low, .low, .low, .plain, .low, .pass, .bar, .shp, .fill true, .shp, .shp, .fill false] (fun i => i < (n + 3)) [0, 1, 2, 3, 4, 5, 6, 7, 8, 9, 10, 11, 12, 13, 14, 15, 16] [.plain, .low, .low, .low, .plain, .low, .low, .low, .plain, .low, .pass, .bar, .shp, .fill true, .shp, .shp, .fill false] [] (by kernel_rfl) rfl ?_
   refine zF9 pl2 ql2 el2 ax3 bx3 cx3 gu4 hi0 hk0 ?_
   refine zO ?_
   obtain rfl := sI hz1
   refine And.intro rfl (Fit2.of (Z9 hU rfl rfl ?_) (by omega))
   exact Zzl pl2 ql2 el2 ax3 bx3 cx3 gu4 hi0 hk0
  replace hz1 := Zw c5 hz1
  refine zK ?_
  obtain rfl := sI hz1
  refine And.intro rfl (Fit2.of (Z9 hU rfl rfl ?_) (by omega))
  exact X3 hi0 hk0
 obtain ⟨z6, hz6, h⟩ := bC h
 refine X4 (E' := ⟨73, [], [(0, .ref i0 0)]⟩) (O' := (Zy ((((O.upd j0_0 none).upd j0_1 none).upd j0_2 none).upd i0 (some ⟨false, 81, 4, 1, [.row (n + 2) z6.1.length, (vI a0.kept), (sL Za z6.2), .row (n + 1) a0.come.length]⟩)) n [none, some (oR 25 3 Za a0.come), some (oR 61 14 Zf z6.1), none, none])) (n0 := (n + 5)) ?_ ?_
 ·refine Vq [0, 27] hi0 hk0 ?_
  refine Zv (t := (decide (0 < (a0.gone.length : Int)))) rfl (fun c12 => ?_) (fun c12 => ?_)
  ·replace hz6 := Zx c12 hz6
   refine Zhh ⟨73, [], [(0, .ref i0 0)]⟩ (Zy ((((O.upd j0_0 none).upd j0_1 none).upd j0_2 none).upd i0 (some ⟨false, 81, 4, 1, [.row (n + 2) z1.length, (vI a0.kept), (sL Za a0.gone), .row (n + 1) a0.come.length]⟩)) n [none, some (oR 25 3 Za a0.come), some (oR 61 14 Zf z1), none]) (Z9 hU rfl rfl ?_) ?_
   ·exact X3 hi0 hk0
   obtain ⟨l9, pl9, ql9, el9, hz6⟩ := bA (k := 1) rfl hz6
   obtain ⟨x10, hx10, ax10, bx10, cx10, hz6⟩ := bE (f := Zf) Zij (fun _ => rfl) (by decide) hz6
   have gu11 : Kh (fl Zf z1 ++ [.val (.int .i64 0), .val (.int .i64 0), .val (.slice none 0 0), .val (.int .i64 0), .val (.int .i64 0), .val (.slice none 0 0), .val (.slice none 0 0), .val (.int .i64 0), .val (.slice none 0 0), .val (.slice none 0 0), .val (.slice none 0 0), .val (.slice none 0 0), .val (.int .i64 0), .val (.slice none 0 0)]) [.val (.int .i64 1), .val (.int .i64 0), .sl a0.gone.length (fl Za a0.gone), .val (.int .i64 0), .val (.int .i64 0), .val (.slice none 0 0), .val (.slice none 0 0), .val (.int .i64 0), .val (.slice none 0 0), .val (.slice none 0 0), .val (.slice none 0 0), .val (.slice none 0 0), .val (.int .i64 0), .val (.slice none 0 0)] (List.length z1 * 14) = some (fl Zf z1 ++ [.val (.int .i64 1), .val (.int .i64 0), .sl a0.gone.length (fl Za a0.gone), .val (.int .i64 0), .val (.int .i64 0), .val (.slice none 0 0), .val (.slice none 0 0), .val (.int .i64 0), .val (.slice none 0 0), .val (.slice none 0 0), .val (.slice none 0 0), .val (.slice none 0 0), .val (.int .i64 0), .val (.slice none 0 0)]) := Zao (f := Zf) (sz := 14) (fun _ => rfl) rfl rfl
   refine Vs Zu (by kernel_rfl) [.plain, .low, .low, .low, .plain, .low, .low, .low, .plain, .low, .pass, .bar, .shp, .fill true, .shp, .shp, .fill false] (fun i => i < (n + 4)) [0, 1, 2, 3, 4, 5, 6, 7, 8, 9, 10, 11, 12, 13, 14, 15, 16] [.plain, .low, .low, .low, .plain, .low, .low, .low, .plain, .low, .pass, .bar, .shp, .fill true, .shp, .shp, .fill false] [] (by kernel_rfl) rfl ?_
   refine zF9 pl9 ql9 el9 ax10 bx10 cx10 gu11 hi0 hk0 ?_
   refine zO ?_
   obtain rfl := sI hz6
   refine And.intro rfl (Fit2.of (Z9 hU rfl rfl ?_) (by omega))
   exact Zzl pl9 ql9 el9 ax10 bx10 cx10 gu11 hi0 hk0
  replace hz6 := Zw c12 hz6
  refine zK ?_
  obtain rfl := sI hz6
  refine And.intro rfl (Fit2.of (Z9 hU rfl rfl ?_) (by omega))
  exact X3 hi0 hk0
 obtain ⟨z13, hz13, h⟩ := bC h
 refine X4 (E' := ⟨73, [], [(0, .ref i0 0)]⟩) (O' := (Zy ((((O.upd j0_0 none).upd j0_1 none).upd j0_2 none).upd i0 (some ⟨false, 81, 4, 1, [.row (n + 2) z13.1.length, (vI a0.kept), (sL Za z6.2), (sL Za z13.2)]⟩)) n [none, none, some (oR 61 14 Zf z13.1), none, none, none])) (n0 := (n + 6)) ?_ ?_
 ·refine Vq [0, 48] hi0 hk0 ?_
  refine Zv (t := (decide (0 < (a0.come.length : Int)))) rfl (fun c19 => ?_) (fun c19 => ?_)
  ·replace hz13 := Zx c19 hz13
   refine Zhh ⟨73, [], [(0, .ref i0 0)]⟩ (Zy ((((O.upd j0_0 none).upd j0_1 none).upd j0_2 none).upd i0 (some ⟨false, 81, 4, 1, [.row (n + 2) z6.1.length, (vI a0.kept), (sL Za z6.2), (sL Za a0.come)]⟩)) n [none, none, some (oR 61 14 Zf z6.1), none, none]) (Z9 hU rfl rfl ?_) ?_
   ·exact X3 hi0 hk0
   obtain ⟨l16, pl16, ql16, el16, hz13⟩ := bA (k := 1) rfl hz13
   obtain ⟨x17, hx17, ax17, bx17, cx17, hz13⟩ := bE (f := Zf) Zij (fun _ => rfl) (by decide) hz13
   have gu18 : Kh (fl Zf z6.1 ++ [.val (.int .i64 0), .val (.int .i64 0), .val (.slice none 0 0), .val (.int .i64 0), .val (.int .i64 0), .val (.slice none 0 0), .val (.slice none 0 0), .val (.int .i64 0), .val (.slice none 0 0), .val (.slice none 0 0), .val (.slice none 0 0), .val (.slice none 0 0), .val (.int .i64 0), .val (.slice none 0 0)]) [.val (.int .i64 2), .val (.int .i64 0), .sl a0.come.length (fl Za a0.come), .val (.int .i64 0), .val (.int .i64 0), .val (.slice none 0 0), .val (.slice none 0 0), .val (.int .i64 0), .val (.slice none 0 0), .val (.slice none 0 0), .val (.slice none 0 0), .val (.slice none 0 0), .val (.int .i64 0), .val (.slice none 0 0)] (List.length z6.1 * 14) = some (fl Zf z6.1 ++ [.val (.int .i64 2), .val (.int .i64 0), .sl a0.come.length (fl Za a0.come), .val (.int .i64 0), .val (.int .i64 0), .val (.slice none 0 0), .val (.slice none 0 0), .val (.int .i64 0), .val (.slice none 0 0), .val (.slice none 0 0), .val (.slice none 0 0), .val (.slice none 0 0), .val (.int .i64 0), .val (.slice none 0 0)]) := Zao (f := Zf) (sz := 14) (fun _ => rfl) rfl rfl
   refine Vs Zu (by kernel_rfl) [.plain, .low, .low, .low, .plain, .low, .low, .low, .plain, .low, .pass, .bar, .shp, .fill true, .shp, .shp, .fill false] (fun i => i < (n + 5)) [0, 1, 2, 3, 4, 5, 6, 7, 8, 9, 10, 11, 12, 13, 14, 15, 16] [.plain, .low, .low, .low, .plain, .low, .low, .low, .plain, .low, .pass, .bar, .shp, .fill true, .shp, .shp, .fill false] [] (by kernel_rfl) rfl ?_
   refine zF9 pl16 ql16 el16 ax17 bx17 cx17 gu18 hi0 hk0 ?_
   refine zO ?_
   obtain rfl := sI hz13
   refine And.intro rfl (Fit2.of (Z9 hU rfl rfl ?_) (by omega))
   exact Zzl pl16 ql16 el16 ax17 bx17 cx17 gu18 hi0 hk0
  replace hz13 := Zw c19 hz13
  refine zK ?_
  obtain rfl := sI hz13
  refine And.intro rfl (Fit2.of (Z9 hU rfl rfl ?_) (by omega))
  exact X3 hi0 hk0
 refine Vp [] hi0 hk0 ?_
 obtain rfl := sI h
 refine X0 (k := 3) (i := i0) (q1 := ⟨false, 81, 4, 1, [.row (n + 2) z13.1.length, (vI 0), .row n ([] : List Zb).length, .row (n + 1) ([] : List Zb).length]⟩) (L3 := [some (oR 25 3 Za ([] : List Zb)), some (oR 25 3 Za ([] : List Zb)), some (oR 61 14 Zf z13.1), none]) (E2 := (⟨73, [], []⟩ : Env)) (n3 := (n + 4)) (.inl rfl) hU rfl [] ?_ ?_
 ·refine Fit2.trans (E' := (⟨73, [], []⟩ : Env)) (O' := (Zy ((((O.upd j0_0 none).upd j0_1 none).upd j0_2 none).upd i0 (some ⟨false, 81, 4, 1, [.row (n + 2) z13.1.length, (vI 0), nV, nV]⟩)) n [none, none, some (oR 61 14 Zf z13.1), none, none, none])) (n' := (n + 6)) (Fit2.of (Z9 hU rfl rfl ?_) (by omega)) ?_
  ·exact X3 hi0 hk0
  refine Fit2.trans (Kp (p := i0) (k := 2) (q := ⟨false, 81, 4, 1, [.row (n + 2) z13.1.length, (vI 0), nV, nV]⟩) 25 3 (by simp only [Kg, Vb, List.getElem?_cons_zero, List.getElem?_cons_succ, Option.join_some, List.length_nil, Z3, Z7, hi0, hk0, hN0, hN]) rfl (by omega)) ?_
  simp only [Yq, Yc, Vr, Ko, List.set_cons_zero, List.set_cons_succ, List.cons_append, List.nil_append, List.length_cons, List.length_nil, Nat.zero_add, Nat.reduceAdd, Nat.reduceLT, Nat.add_assoc, Z6, Xb, hi0, hk0, hN0, hN]
  refine Fit2.trans (Kp (p := i0) (k := 3) (q := ⟨false, 81, 4, 1, [.row (n + 2) z13.1.length, (vI 0), .row (n + 6) ([] : List Zb).length, nV]⟩) 25 3 (by simp only [Kg, Vb, List.getElem?_cons_zero, List.getElem?_cons_succ, Option.join_some, List.length_nil, Z3, Z7, hi0, hk0, hN0, hN]) rfl (by omega)) ?_
  simp only [Yq, Yc, Vr, Ko, List.set_cons_zero, List.set_cons_succ, List.cons_append, List.nil_append, List.length_cons, List.length_nil, Nat.zero_add, Nat.reduceAdd, Nat.reduceLT, Nat.add_assoc, Z6, Xb, hi0, hk0, hN0, hN]
  refine Y9 (k := 8) (k' := 4) hU [3, 3, 2, 3, 3, 3, 0, 1] [6, 7, 2, 0] rfl rfl rfl rfl ⟨rfl, rfl⟩ ?_
  exact X3 hi0 hk0
 simp only [push_cast, seval, ↓reduceIte, Zd, Tryz.results45, hi0, hk0, hN0, hN]
theorem Zf0 {a0 : Zt} {a1 : Int} {r : Zt} {O : Objs} {n : Nat} {i0 j0_0 j0_1 j0_2 : Nat} (hi0 : i0 < n) (Q0 : j0_0 < n) (Vh : j0_1 < n) (Zix : j0_2 < n) (Xv : i0 ≠ j0_0) (X2 : i0 ≠ j0_1) (Zav : i0 ≠ j0_2) (X1 : j0_0 ≠ j0_1) (Zat : j0_0 ≠ j0_2) (Zau : j0_1 ≠ j0_2) (ho0 : O i0 = some ⟨false, 81, 4, 1, [.row j0_2 a0.out.length, (vI a0.kept), .row j0_0 a0.gone.length, .row j0_1 a0.come.length]⟩) (Ji : O j0_0 = some (oR 25 3 Za a0.gone)) (Un : O j0_1 = some (oR 25 3 Za a0.come)) (Zj9 : O j0_2 = some (oR 61 14 Zf a0.out)) (h : Kc a0 a1 = some r) : GTo Tryz.prog 42 [.ref i0 0, (vI a1)] O n (.tup []) (Zy ((((O.upd j0_0 none).upd j0_1 none).upd j0_2 none).upd i0 (some ⟨false, 81, 4, 1, [.row (n + 2) r.out.length, (vI r.kept), .row n r.gone.length, .row (n + 1) r.come.length]⟩)) n [some (oR 25 3 Za r.gone), some (oR 25 3 Za r.come), some (oR 61 14 Zf r.out)]) (n + 3) := by
 unfold Kc at h
 refine Zez Zu Tryz.call42 Tryz.func42 rfl (Nat.le_of_ble_eq_true rfl) (by omega) fun hU => ?_
 have e0 := Xx (ba := n) (E := ⟨19, [], Zaa 0 [.ref i0 0, .val (.int .i64 a1)]⟩) (O := (Zy O n [])) (n := n) (i := i0) (j := j0_0) (k := 2) (len := a0.gone.length) (q := ⟨false, 81, 4, 1, [.row j0_2 a0.out.length, .val (.int .i64 a0.kept), .row j0_0 a0.gone.length, .row j0_1 a0.come.length]⟩) (qj := ⟨true, 25, 3, a0.gone.length, fl Za a0.gone⟩) (by rw [Z7 _ hi0]; first | exact ho0 | exact Z3 _ _ _) rfl (by rw [Z7 _ Q0]; exact Ji) Xv (by omega)
 simp only [Z6 _ _ Q0, Z6 _ _ hi0, Yq, Yc, Xb, Jy Xv, List.set_cons_zero, List.set_cons_succ, List.cons_append, List.nil_append, List.length_cons, List.length_nil, Nat.zero_add, Nat.reduceAdd, Nat.add_assoc] at e0
 refine Qi e0 ?_
 have e1 := Xx (ba := n) (E := ⟨19, [], Zaa 0 [.ref i0 0, .val (.int .i64 a1)]⟩) (O := (Zy ((O.upd j0_0 none).upd i0 (some ⟨false, 81, 4, 1, [.row j0_2 a0.out.length, .val (.int .i64 a0.kept), .row n a0.gone.length, .row j0_1 a0.come.length]⟩)) n [some ⟨true, 25, 3, a0.gone.length, fl Za a0.gone⟩])) (n := (n + 1)) (i := i0) (j := j0_1) (k := 3) (len := a0.come.length) (q := ⟨false, 81, 4, 1, [.row j0_2 a0.out.length, .val (.int .i64 a0.kept), .row n a0.gone.length, .row j0_1 a0.come.length]⟩) (qj := ⟨true, 25, 3, a0.come.length, fl Za a0.come⟩) (by rw [Z7 _ hi0]; first | exact ho0 | exact Z3 _ _ _) rfl (by rw [Z7 _ Vh, Yo _ _ (Ne.symm X2), Yo _ _ (Ne.symm X1)]; exact Un) X2 (by omega)
 simp only [Z6 _ _ Vh, Z6 _ _ hi0, Yq, Yc, Xb, Jy X2, List.set_cons_zero, List.set_cons_succ, List.cons_append, List.nil_append, List.length_cons, List.length_nil, Nat.zero_add, Nat.reduceAdd, Nat.add_assoc] at e1
 refine Qi e1 ?_
 have e2 := Xx (ba := n) (E := ⟨19, [], Zaa 0 [.ref i0 0, .val (.int .i64 a1)]⟩) (O := (Zy (((O.upd j0_0 none).upd j0_1 none).upd i0 (some ⟨false, 81, 4, 1, [.row j0_2 a0.out.length, .val (.int .i64 a0.kept), .row n a0.gone.length, .row (n + 1) a0.come.length]⟩)) n [some ⟨true, 25, 3, a0.gone.length, fl Za a0.gone⟩, some ⟨true, 25, 3, a0.come.length, fl Za a0.come⟩])) (n := (n + 2)) (i := i0) (j := j0_2) (k := 0) (len := a0.out.length) (q := ⟨false, 81, 4, 1, [.row j0_2 a0.out.length, .val (.int .i64 a0.kept), .row n a0.gone.length, .row (n + 1) a0.come.length]⟩) (qj := ⟨true, 61, 14, a0.out.length, fl Zf a0.out⟩) (by rw [Z7 _ hi0]; first | exact ho0 | exact Z3 _ _ _) rfl (by rw [Z7 _ Zix, Yo _ _ (Ne.symm Zav), Yo _ _ (Ne.symm Zau), Yo _ _ (Ne.symm Zat)]; exact Zj9) Zav (by omega)
 simp only [Z6 _ _ Zix, Z6 _ _ hi0, Yq, Yc, Xb, Jy Zav, List.set_cons_zero, List.set_cons_succ, List.cons_append, List.nil_append, List.length_cons, List.length_nil, Nat.zero_add, Nat.reduceAdd, Nat.add_assoc] at e2
 refine Qi e2 ?_
 have hU := (Und.drop (Und.drop (Und.drop hU j0_0) j0_1) j0_2)
 have hk0 : ∀ k, i0 < n + k := fun k => by omega
 have hN0 : ∀ o, Objs.upd (((O.upd j0_0 none).upd j0_1 none).upd j0_2 none) i0 o n = none := fun o => Xt hU hi0 _ (Nat.le_refl _)
 have hN : ∀ o k, Objs.upd (((O.upd j0_0 none).upd j0_1 none).upd j0_2 none) i0 o (n + k) = none := fun o k => Xt hU hi0 _ (Nat.le_add_right _ _)
 show W _ _ _ _ ⟨19, [], [(0, .ref i0 0), (1, (vI a1))]⟩ (Zy ((((O.upd j0_0 none).upd j0_1 none).upd j0_2 none).upd i0 (some ⟨false, 81, 4, 1, [.row (n + 2) a0.out.length, (vI a0.kept), .row n a0.gone.length, .row (n + 1) a0.come.length]⟩)) n [some (oR 25 3 Za a0.gone), some (oR 25 3 Za a0.come), some (oR 61 14 Zf a0.out)]) _
 obtain ⟨z1, hz1, h⟩ := bC h
 refine X4 (E' := ⟨19, [], [(0, .ref i0 0), (1, (vI a1))]⟩) (O' := (Zy ((((O.upd j0_0 none).upd j0_1 none).upd j0_2 none).upd i0 (some ⟨false, 81, 4, 1, [.row (n + 6) z1.1.length, (vI z1.2.2.2), .row (n + 7) z1.2.1.length, .row (n + 8) z1.2.2.1.length]⟩)) n [none, none, none, none, none, none, some (oR 61 14 Zf z1.1), some (oR 25 3 Za z1.2.1), some (oR 25 3 Za z1.2.2.1)])) (n0 := (n + 9)) ?_ ?_
 ·refine Vq [0, 1, 8] hi0 hk0 ?_
  refine Zv (t := (a0.kept == 0)) rfl (fun c3 => ?_) (fun c3 => ?_)
  ·replace hz1 := Zx c3 hz1
   obtain ⟨y2, hy2, hz1⟩ := bC hz1
   refine Vp [] hi0 hk0 ?_
   refine (Vm (i0 := i0) (j0_0 := n) (j0_1 := (n + 1)) (j0_2 := (n + 2)) (by omega) (by omega) (by omega) (by omega) (by omega) (by omega) (by omega) (by omega) (by omega) (by omega) (by simp only [push_cast, seval, ↓reduceIte, Zd, Ym, hi0, hk0, hN0, hN] <;> rfl) (by simp only [push_cast, seval, ↓reduceIte, Zd, Ym, hi0, hk0, hN0, hN] <;> rfl) (by simp only [push_cast, seval, ↓reduceIte, Zd, Ym, hi0, hk0, hN0, hN] <;> rfl) (by simp only [push_cast, seval, ↓reduceIte, Zd, Ym, hi0, hk0, hN0, hN] <;> rfl) hy2).then ?_
   refine zX2 hi0 hk0 ?_
   obtain rfl := sI hz1
   refine And.intro rfl ?_
   refine Fit2.trans (E' := (⟨19, [], [(0, .ref i0 0), (1, (vI a1))]⟩ : Env)) (O' := (Zy ((((O.upd j0_0 none).upd j0_1 none).upd j0_2 none).upd i0 (some ⟨false, 81, 4, 1, [.row (n + 5) y2.out.length, (vI y2.kept), .row (n + 3) y2.gone.length, .row (n + 4) y2.come.length]⟩)) n [none, none, none, some (oR 25 3 Za y2.gone), some (oR 25 3 Za y2.come), some (oR 61 14 Zf y2.out)])) (n' := (n + 6)) (Fit2.of (Z9 hU rfl rfl ?_) (by omega)) ?_
   ·exact X3 hi0 hk0
   refine Y9 (k := 6) (k' := 9) hU [5, 5, 5, 7, 8, 6] [0, 0, 0, 0, 0, 0, 5, 3, 4] rfl rfl rfl rfl ⟨rfl, rfl⟩ ?_
   exact X3 hi0 hk0
  replace hz1 := Zw c3 hz1
  refine zK ?_
  obtain rfl := sI hz1
  refine And.intro rfl ?_
  refine Fit2.trans (E' := (⟨19, [], [(0, .ref i0 0), (1, (vI a1))]⟩ : Env)) (O' := (Zy ((((O.upd j0_0 none).upd j0_1 none).upd j0_2 none).upd i0 (some ⟨false, 81, 4, 1, [.row (n + 2) a0.out.length, (vI a0.kept), .row n a0.gone.length, .row (n + 1) a0.come.length]⟩)) n [some (oR 25 3 Za a0.gone), some (oR 25 3 Za a0.come), some (oR 61 14 Zf a0.out)])) (n' := (n + 3)) (Fit2.of (Z9 hU rfl rfl ?_) (by omega)) ?_
  ·exact X3 hi0 hk0
  refine Y9 (k := 3) (k' := 9) hU [7, 8, 6] [0, 0, 0, 0, 0, 0, 2, 0, 1] rfl rfl rfl rfl ⟨rfl, rfl⟩ ?_
  exact X3 hi0 hk0
 refine Vp [] hi0 hk0 ?_
 obtain rfl := sI h
 refine X0 (k := 3) (i := i0) (q1 := ⟨false, 81, 4, 1, [.row (n + 2) z1.1.length, (vI (IntKind.i64.wrap (z1.2.2.2 + a1))), .row n z1.2.1.length, .row (n + 1) z1.2.2.1.length]⟩) (L3 := [some (oR 25 3 Za z1.2.1), some (oR 25 3 Za z1.2.2.1), some (oR 61 14 Zf z1.1), none]) (E2 := (⟨19, [], []⟩ : Env)) (n3 := (n + 4)) (.inl rfl) hU rfl [] ?_ ?_
 ·refine Fit2.trans (E' := (⟨19, [], []⟩ : Env)) (O' := (Zy ((((O.upd j0_0 none).upd j0_1 none).upd j0_2 none).upd i0 (some ⟨false, 81, 4, 1, [.row (n + 6) z1.1.length, (vI (IntKind.i64.wrap (z1.2.2.2 + a1))), .row (n + 7) z1.2.1.length, .row (n + 8) z1.2.2.1.length]⟩)) n [none, none, none, none, none, none, some (oR 61 14 Zf z1.1), some (oR 25 3 Za z1.2.1), some (oR 25 3 Za z1.2.2.1)])) (n' := (n + 9)) (Fit2.of (Z9 hU rfl rfl ?_) (by omega)) ?_
  ·exact X3 hi0 hk0
  refine Y9 (k := 9) (k' := 4) hU [3, 3, 3, 3, 3, 3, 2, 0, 1] [7, 8, 6, 0] rfl rfl rfl rfl ⟨rfl, rfl⟩ ?_
  exact X3 hi0 hk0
 simp only [push_cast, seval, ↓reduceIte, Zd, Tryz.results42, hi0, hk0, hN0, hN]
theorem Zip {a0 : Zt} {a2 : (List Zb)} {r : Zt} {O : Objs} {n : Nat} {i0 j0_0 j0_1 j0_2 : Nat} (hi0 : i0 < n) (Q0 : j0_0 < n) (Vh : j0_1 < n) (Zix : j0_2 < n) (Xv : i0 ≠ j0_0) (X2 : i0 ≠ j0_1) (Zav : i0 ≠ j0_2) (X1 : j0_0 ≠ j0_1) (Zat : j0_0 ≠ j0_2) (Zau : j0_1 ≠ j0_2) (ho0 : O i0 = some ⟨false, 81, 4, 1, [.row j0_2 a0.out.length, (vI a0.kept), .row j0_0 a0.gone.length, .row j0_1 a0.come.length]⟩) (Ji : O j0_0 = some (oR 25 3 Za a0.gone)) (Un : O j0_1 = some (oR 25 3 Za a0.come)) (Zj9 : O j0_2 = some (oR 61 14 Zf a0.out)) (h : Jv a0 a2 = some r) : GTo Tryz.prog 43 [.ref i0 0, .ref i0 2, (sL Za a2)] O n (.tup []) (Zy ((((O.upd j0_0 none).upd j0_1 none).upd j0_2 none).upd i0 (some ⟨false, 81, 4, 1, [.row (n + 2) r.out.length, (vI r.kept), .row n r.gone.length, .row (n + 1) r.come.length]⟩)) n [some (oR 25 3 Za r.gone), some (oR 25 3 Za r.come), some (oR 61 14 Zf r.out)]) (n + 3) := by
 unfold Jv at h
 refine Zez Zu Tryz.call43 Tryz.func43 rfl (Nat.le_of_ble_eq_true rfl) (by omega) fun hU => ?_
 have e0 := Xx (ba := n) (E := ⟨32, [], Zaa 0 [.ref i0 0, .ref i0 2, .sl a2.length (fl Za a2)]⟩) (O := (Zy O n [])) (n := n) (i := i0) (j := j0_0) (k := 2) (len := a0.gone.length) (q := ⟨false, 81, 4, 1, [.row j0_2 a0.out.length, .val (.int .i64 a0.kept), .row j0_0 a0.gone.length, .row j0_1 a0.come.length]⟩) (qj := ⟨true, 25, 3, a0.gone.length, fl Za a0.gone⟩) (by rw [Z7 _ hi0]; first | exact ho0 | exact Z3 _ _ _) rfl (by rw [Z7 _ Q0]; exact Ji) Xv (by omega)
 simp only [Z6 _ _ Q0, Z6 _ _ hi0, Yq, Yc, Xb, Jy Xv, List.set_cons_zero, List.set_cons_succ, List.cons_append, List.nil_append, List.length_cons, List.length_nil, Nat.zero_add, Nat.reduceAdd, Nat.add_assoc] at e0
 refine Qi e0 ?_
 have e1 := Xx (ba := n) (E := ⟨32, [], Zaa 0 [.ref i0 0, .ref i0 2, .sl a2.length (fl Za a2)]⟩) (O := (Zy ((O.upd j0_0 none).upd i0 (some ⟨false, 81, 4, 1, [.row j0_2 a0.out.length, .val (.int .i64 a0.kept), .row n a0.gone.length, .row j0_1 a0.come.length]⟩)) n [some ⟨true, 25, 3, a0.gone.length, fl Za a0.gone⟩])) (n := (n + 1)) (i := i0) (j := j0_1) (k := 3) (len := a0.come.length) (q := ⟨false, 81, 4, 1, [.row j0_2 a0.out.length, .val (.int .i64 a0.kept), .row n a0.gone.length, .row j0_1 a0.come.length]⟩) (qj := ⟨true, 25, 3, a0.come.length, fl Za a0.come⟩) (by rw [Z7 _ hi0]; first | exact ho0 | exact Z3 _ _ _) rfl (by rw [Z7 _ Vh, Yo _ _ (Ne.symm X2), Yo _ _ (Ne.symm X1)]; exact Un) X2 (by omega)
 simp only [Z6 _ _ Vh, Z6 _ _ hi0, Yq, Yc, Xb, Jy X2, List.set_cons_zero, List.set_cons_succ, List.cons_append, List.nil_append, List.length_cons, List.length_nil, Nat.zero_add, Nat.reduceAdd, Nat.add_assoc] at e1
 refine Qi e1 ?_
 have e2 := Xx (ba := n) (E := ⟨32, [], Zaa 0 [.ref i0 0, .ref i0 2, .sl a2.length (fl Za a2)]⟩) (O := (Zy (((O.upd j0_0 none).upd j0_1 none).upd i0 (some ⟨false, 81, 4, 1, [.row j0_2 a0.out.length, .val (.int .i64 a0.kept), .row n a0.gone.length, .row (n + 1) a0.come.length]⟩)) n [some ⟨true, 25, 3, a0.gone.length, fl Za a0.gone⟩, some ⟨true, 25, 3, a0.come.length, fl Za a0.come⟩])) (n := (n + 2)) (i := i0) (j := j0_2) (k := 0) (len := a0.out.length) (q := ⟨false, 81, 4, 1, [.row j0_2 a0.out.length, .val (.int .i64 a0.kept), .row n a0.gone.length, .row (n + 1) a0.come.length]⟩) (qj := ⟨true, 61, 14, a0.out.length, fl Zf a0.out⟩) (by rw [Z7 _ hi0]; first | exact ho0 | exact Z3 _ _ _) rfl (by rw [Z7 _ Zix, Yo _ _ (Ne.symm Zav), Yo _ _ (Ne.symm Zau), Yo _ _ (Ne.symm Zat)]; exact Zj9) Zav (by omega)
 simp only [Z6 _ _ Zix, Z6 _ _ hi0, Yq, Yc, Xb, Jy Zav, List.set_cons_zero, List.set_cons_succ, List.cons_append, List.nil_append, List.length_cons, List.length_nil, Nat.zero_add, Nat.reduceAdd, Nat.add_assoc] at e2
 refine Qi e2 ?_
 have hU := (Und.drop (Und.drop (Und.drop hU j0_0) j0_1) j0_2)
 have hk0 : ∀ k, i0 < n + k := fun k => by omega
 have hN0 : ∀ o, Objs.upd (((O.upd j0_0 none).upd j0_1 none).upd j0_2 none) i0 o n = none := fun o => Xt hU hi0 _ (Nat.le_refl _)
 have hN : ∀ o k, Objs.upd (((O.upd j0_0 none).upd j0_1 none).upd j0_2 none) i0 o (n + k) = none := fun o k => Xt hU hi0 _ (Nat.le_add_right _ _)
 show W _ _ _ _ ⟨32, [], [(0, .ref i0 0), (1, .ref i0 2), (2, (sL Za a2))]⟩ (Zy ((((O.upd j0_0 none).upd j0_1 none).upd j0_2 none).upd i0 (some ⟨false, 81, 4, 1, [.row (n + 2) a0.out.length, (vI a0.kept), .row n a0.gone.length, .row (n + 1) a0.come.length]⟩)) n [some (oR 25 3 Za a0.gone), some (oR 25 3 Za a0.come), some (oR 61 14 Zf a0.out)]) _
 obtain ⟨z1, hz1, h⟩ := bC h
 refine X4 (E' := ⟨32, [], [(1, .ref i0 2), (2, (sL Za a2))]⟩) (O' := (Zy ((((O.upd j0_0 none).upd j0_1 none).upd j0_2 none).upd i0 (some ⟨false, 81, 4, 1, [.row (n + 6) z1.1.length, (vI z1.2.2.2), .row (n + 7) z1.2.1.length, .row (n + 8) z1.2.2.1.length]⟩)) n [none, none, none, none, none, none, some (oR 61 14 Zf z1.1), some (oR 25 3 Za z1.2.1), some (oR 25 3 Za z1.2.2.1)])) (n0 := (n + 9)) ?_ ?_
 ·refine Vq [0, 1, 2, 12] hi0 hk0 ?_
  refine Zv (t := (decide (0 < a0.kept))) rfl (fun c3 => ?_) (fun c3 => ?_)
  ·replace hz1 := Zx c3 hz1
   obtain ⟨y2, hy2, hz1⟩ := bC hz1
   refine Vp [] hi0 hk0 ?_
   refine (Vm (i0 := i0) (j0_0 := n) (j0_1 := (n + 1)) (j0_2 := (n + 2)) (by omega) (by omega) (by omega) (by omega) (by omega) (by omega) (by omega) (by omega) (by omega) (by omega) (by simp only [push_cast, seval, ↓reduceIte, Zd, Ym, hi0, hk0, hN0, hN] <;> rfl) (by simp only [push_cast, seval, ↓reduceIte, Zd, Ym, hi0, hk0, hN0, hN] <;> rfl) (by simp only [push_cast, seval, ↓reduceIte, Zd, Ym, hi0, hk0, hN0, hN] <;> rfl) (by simp only [push_cast, seval, ↓reduceIte, Zd, Ym, hi0, hk0, hN0, hN] <;> rfl) hy2).then ?_
   refine zX2 hi0 hk0 ?_
   obtain rfl := sI hz1
   refine And.intro rfl ?_
   refine Fit2.trans (E' := (⟨32, [], [(1, .ref i0 2), (2, (sL Za a2))]⟩ : Env)) (O' := (Zy ((((O.upd j0_0 none).upd j0_1 none).upd j0_2 none).upd i0 (some ⟨false, 81, 4, 1, [.row (n + 5) y2.out.length, (vI y2.kept), .row (n + 3) y2.gone.length, .row (n + 4) y2.come.length]⟩)) n [none, none, none, some (oR 25 3 Za y2.gone), some (oR 25 3 Za y2.come), some (oR 61 14 Zf y2.out)])) (n' := (n + 6)) (Fit2.of (Z9 hU rfl rfl ?_) (by omega)) ?_
   ·exact X3 hi0 hk0
   refine Y9 (k := 6) (k' := 9) hU [5, 5, 5, 7, 8, 6] [0, 0, 0, 0, 0, 0, 5, 3, 4] rfl rfl rfl rfl ⟨rfl, rfl⟩ ?_
   exact X3 hi0 hk0
  replace hz1 := Zw c3 hz1
  refine zK ?_
  obtain rfl := sI hz1
  refine And.intro rfl ?_
  refine Fit2.trans (E' := (⟨32, [], [(1, .ref i0 2), (2, (sL Za a2))]⟩ : Env)) (O' := (Zy ((((O.upd j0_0 none).upd j0_1 none).upd j0_2 none).upd i0 (some ⟨false, 81, 4, 1, [.row (n + 2) a0.out.length, (vI a0.kept), .row n a0.gone.length, .row (n + 1) a0.come.length]⟩)) n [some (oR 25 3 Za a0.gone), some (oR 25 3 Za a0.come), some (oR 61 14 Zf a0.out)])) (n' := (n + 3)) (Fit2.of (Z9 hU rfl rfl ?_) (by omega)) ?_
  ·exact X3 hi0 hk0
  refine Y9 (k := 3) (k' := 9) hU [7, 8, 6] [0, 0, 0, 0, 0, 0, 2, 0, 1] rfl rfl rfl rfl ⟨rfl, rfl⟩ ?_
  exact X3 hi0 hk0
 refine Vq [1, 15, 16, 17] hi0 hk0 ?_
 refine zD [1, 15, 16, 17] [false, false, false, false, false, false, true, true, true] ?_
 obtain ⟨z11, hz11, h⟩ := bC h
 refine Qb (E' := ⟨32, [], []⟩) (O' := (Zy ((((O.upd j0_0 none).upd j0_1 none).upd j0_2 none).upd i0 (some ⟨false, 81, 4, 1, [.row (n + 6) z1.1.length, (vI z1.2.2.2), .row (n + 7) z11.length, .row (n + 8) z1.2.2.1.length]⟩)) n [none, none, none, none, none, none, some (oR 61 14 Zf z1.1), some (oR 25 3 Za z11), some (oR 25 3 Za z1.2.2.1)])) (n0 := (n + 9)) ?_ ?_
 ·refine Q4 hz11 (fun s0_ => ⟨32, [], [(1, .ref i0 2), (15, (sL Za a2)), (16, (vI (a2.length : Int))), (17, (vI s0_.1))]⟩) (fun s0_ => (Zy ((((O.upd j0_0 none).upd j0_1 none).upd j0_2 none).upd i0 (some ⟨false, 81, 4, 1, [.row (n + 6) z1.1.length, (vI z1.2.2.2), .row (n + 7) s0_.2.length, .row (n + 8) z1.2.2.1.length]⟩)) n [none, none, none, none, none, none, some (oR 61 14 Zf z1.1), some (oR 25 3 Za s0_.2), some (oR 25 3 Za z1.2.2.1)])) (fun z11 => JX 0 n (⟨32, [], []⟩ : Env) (Zy ((((O.upd j0_0 none).upd j0_1 none).upd j0_2 none).upd i0 (some ⟨false, 81, 4, 1, [.row (n + 6) z1.1.length, (vI z1.2.2.2), .row (n + 7) z11.length, .row (n + 8) z1.2.2.1.length]⟩)) n [none, none, none, none, none, none, some (oR 61 14 Zf z1.1), some (oR 25 3 Za z11), some (oR 25 3 Za z1.2.2.1)]) (n + 9)) ?_
  intro s0_ x0_ hs0_
  unfold Q6 at hs0_
  try dsimp only
  refine Vq [1, 15, 16, 17, 18] hi0 hk0 ?_
  refine Zo ?_
  refine Zv (t := (decide (s0_.1 < (a2.length : Int)))) rfl (fun c10 => ?_) (fun c10 => ?_)
  ·replace hs0_ := Zx c10 hs0_
   refine Gu [1, 15, 16, 17] [false, false, false, false, false, false, true, true, true] ?_
   refine Zo ?_
   refine Xh ?_
   refine Zo ?_
   obtain ⟨x5, hx5, ax5, bx5, cx5, hs0_⟩ := bE (f := Za) Gt (fun _ => rfl) (by decide) hs0_
   refine Z4a [] ax5 bx5 cx5 hi0 hk0 ?_
   refine zD [1, 7, 15, 16, 17] [false, false, false, false, false, false, true, true, true, true] ?_
   obtain ⟨y6, hy6, hs0_⟩ := bC hs0_
   obtain ⟨l7, pl7, ql7, el7, hs0_⟩ := bA (k := 1) rfl hs0_
   obtain ⟨x8, hx8, ax8, bx8, cx8, hs0_⟩ := bE (f := Za) Gt (fun _ => rfl) (by decide) hs0_
   have gu9 : Kh (fl Za s0_.2 ++ [.val (.int .i64 0), .val (.slice none 0 0), .val (.slice none 0 0)]) [.val (.int .i64 y6.Kind), .sl y6.Words.length (fl (eI .u64) y6.Words), .sl y6.Kids.length (fl Za y6.Kids)] (List.length s0_.2 * 3) = some (fl Za s0_.2 ++ [.val (.int .i64 y6.Kind), .sl y6.Words.length (fl (eI .u64) y6.Words), .sl y6.Kids.length (fl Za y6.Kids)]) := Zao (f := Za) (sz := 3) (fun _ => rfl) rfl rfl
   refine Vs Zu (by kernel_rfl) [.plain, .low, .low, .low, .low, .low, .pass, .bar, .shp, .fill true, .shp, .fill false] (fun i => i < (n + 10)) [0, 1, 2, 3, 4, 5, 6, 7, 8, 9, 10, 11] [.plain, .low, .low, .low, .low, .low, .pass, .bar, .shp, .fill true, .shp, .fill false] [] (by kernel_rfl) rfl ?_
   refine zF9 pl7 ql7 el7 ax8 bx8 cx8 gu9 hi0 hk0 ?_
   refine zO ?_
   first | refine PCallA.of (fun _ _ => Gf hy6) ?_ | refine PCall.of (Gf hy6) ?_
   refine zF9 pl7 ql7 el7 ax8 bx8 cx8 gu9 hi0 hk0 ?_
   refine zO ?_
   refine Zhh ⟨32, [], [(1, .ref i0 2), (15, (sL Za a2)), (16, (vI (a2.length : Int))), (17, (vI s0_.1))]⟩ (Zy ((((O.upd j0_0 none).upd j0_1 none).upd j0_2 none).upd i0 (some ⟨false, 81, 4, 1, [.row (n + 6) z1.1.length, (vI z1.2.2.2), .row (n + 7) (s0_.2 ++ [y6]).length, .row (n + 8) z1.2.2.1.length]⟩)) n [none, none, none, none, none, none, some (oR 61 14 Zf z1.1), some (oR 25 3 Za (s0_.2 ++ [y6])), some (oR 25 3 Za z1.2.2.1), none, none]) (Z9 hU rfl rfl ?_) ?_
   ·exact Zzl pl7 ql7 el7 ax8 bx8 cx8 gu9 hi0 hk0
   refine Vp [] hi0 hk0 ?_
   obtain rfl := sI hs0_
   refine And.intro rfl (Fit2.of (Z9 hU rfl rfl ?_) (by omega))
   exact X3 hi0 hk0
  replace hs0_ := Zw c10 hs0_
  refine zXt ?_
  obtain rfl := sI hs0_
  refine And.intro (fun h => by cases h) (And.intro rfl (Fit2.of (Z9 hU rfl rfl ?_) (by omega)))
  exact X3 hi0 hk0
 try simp only [Qg, Xm, ↓reduceIte, Nat.reduceEqDiff]
 obtain rfl := sI h
 refine X0 (k := 3) (i := i0) (q1 := ⟨false, 81, 4, 1, [.row (n + 2) z1.1.length, (vI z1.2.2.2), .row n z11.length, .row (n + 1) z1.2.2.1.length]⟩) (L3 := [some (oR 25 3 Za z11), some (oR 25 3 Za z1.2.2.1), some (oR 61 14 Zf z1.1), none]) (E2 := (⟨32, [], []⟩ : Env)) (n3 := (n + 4)) (.inl rfl) hU rfl [] ?_ ?_
 ·refine Fit2.trans (E' := (⟨32, [], []⟩ : Env)) (O' := (Zy ((((O.upd j0_0 none).upd j0_1 none).upd j0_2 none).upd i0 (some ⟨false, 81, 4, 1, [.row (n + 6) z1.1.length, (vI z1.2.2.2), .row (n + 7) z11.length, .row (n + 8) z1.2.2.1.length]⟩)) n [none, none, none, none, none, none, some (oR 61 14 Zf z1.1), some (oR 25 3 Za z11), some (oR 25 3 Za z1.2.2.1)])) (n' := (n + 9)) (Fit2.of (Z9 hU rfl rfl ?_) (by omega)) ?_
  ·exact X3 hi0 hk0
  refine Y9 (k := 9) (k' := 4) hU [3, 3, 3, 3, 3, 3, 2, 0, 1] [7, 8, 6, 0] rfl rfl rfl rfl ⟨rfl, rfl⟩ ?_
  exact X3 hi0 hk0
 simp only [push_cast, seval, ↓reduceIte, Zd, Tryz.results43, hi0, hk0, hN0, hN]
theorem Ziq {a0 : Zt} {a2 : (List Zb)} {r : Zt} {O : Objs} {n : Nat} {i0 j0_0 j0_1 j0_2 : Nat} (hi0 : i0 < n) (Q0 : j0_0 < n) (Vh : j0_1 < n) (Zix : j0_2 < n) (Xv : i0 ≠ j0_0) (X2 : i0 ≠ j0_1) (Zav : i0 ≠ j0_2) (X1 : j0_0 ≠ j0_1) (Zat : j0_0 ≠ j0_2) (Zau : j0_1 ≠ j0_2) (ho0 : O i0 = some ⟨false, 81, 4, 1, [.row j0_2 a0.out.length, (vI a0.kept), .row j0_0 a0.gone.length, .row j0_1 a0.come.length]⟩) (Ji : O j0_0 = some (oR 25 3 Za a0.gone)) (Un : O j0_1 = some (oR 25 3 Za a0.come)) (Zj9 : O j0_2 = some (oR 61 14 Zf a0.out)) (h : Jw a0 a2 = some r) : GTo Tryz.prog 43 [.ref i0 0, .ref i0 3, (sL Za a2)] O n (.tup []) (Zy ((((O.upd j0_0 none).upd j0_1 none).upd j0_2 none).upd i0 (some ⟨false, 81, 4, 1, [.row (n + 2) r.out.length, (vI r.kept), .row n r.gone.length, .row (n + 1) r.come.length]⟩)) n [some (oR 25 3 Za r.gone), some (oR 25 3 Za r.come), some (oR 61 14 Zf r.out)]) (n + 3) := by
 unfold Jw at h
 refine Zez Zu Tryz.call43 Tryz.func43 rfl (Nat.le_of_ble_eq_true rfl) (by omega) fun hU => ?_
 have e0 := Xx (ba := n) (E := ⟨32, [], Zaa 0 [.ref i0 0, .ref i0 3, .sl a2.length (fl Za a2)]⟩) (O := (Zy O n [])) (n := n) (i := i0) (j := j0_0) (k := 2) (len := a0.gone.length) (q := ⟨false, 81, 4, 1, [.row j0_2 a0.out.length, .val (.int .i64 a0.kept), .row j0_0 a0.gone.length, .row j0_1 a0.come.length]⟩) (qj := ⟨true, 25, 3, a0.gone.length, fl Za a0.gone⟩) (by rw [Z7 _ hi0]; first | exact ho0 | exact Z3 _ _ _) rfl (by rw [Z7 _ Q0]; exact Ji) Xv (by omega)
 simp only [Z6 _ _ Q0, Z6 _ _ hi0, Yq, Yc, Xb, Jy Xv, List.set_cons_zero, List.set_cons_succ, List.cons_append, List.nil_append, List.length_cons, List.length_nil, Nat.zero_add, Nat.reduceAdd, Nat.add_assoc] at e0
 refine Qi e0 ?_
 have e1 := Xx (ba := n) (E := ⟨32, [], Zaa 0 [.ref i0 0, .ref i0 3, .sl a2.length (fl Za a2)]⟩) (O := (Zy ((O.upd j0_0 none).upd i0 (some ⟨false, 81, 4, 1, [.row j0_2 a0.out.length, .val (.int .i64 a0.kept), .row n a0.gone.length, .row j0_1 a0.come.length]⟩)) n [some ⟨true, 25, 3, a0.gone.length, fl Za a0.gone⟩])) (n := (n + 1)) (i := i0) (j := j0_1) (k := 3) (len := a0.come.length) (q := ⟨false, 81, 4, 1, [.row j0_2 a0.out.length, .val (.int .i64 a0.kept), .row n a0.gone.length, .row j0_1 a0.come.length]⟩) (qj := ⟨true, 25, 3, a0.come.length, fl Za a0.come⟩) (by rw [Z7 _ hi0]; first | exact ho0 | exact Z3 _ _ _) rfl (by rw [Z7 _ Vh, Yo _ _ (Ne.symm X2), Yo _ _ (Ne.symm X1)]; exact Un) X2 (by omega)
 simp only [Z6 _ _ Vh, Z6 _ _ hi0, Yq, Yc, Xb, Jy X2, List.set_cons_zero, List.set_cons_succ, List.cons_append, List.nil_append, List.length_cons, List.length_nil, Nat.zero_add, Nat.reduceAdd, Nat.add_assoc] at e1
 refine Qi e1 ?_
 have e2 := Xx (ba := n) (E := ⟨32, [], Zaa 0 [.ref i0 0, .ref i0 3, .sl a2.length (fl Za a2)]⟩) (O := (Zy (((O.upd j0_0 none).upd j0_1 none).upd i0 (some ⟨false, 81, 4, 1, [.row j0_2 a0.out.length, .val (.int .i64 a0.kept), .row n a0.gone.length, .row (n + 1) a0.come.length]⟩)) n [some ⟨true, 25, 3, a0.gone.length, fl Za a0.gone⟩, some ⟨true, 25, 3, a0.come.length, fl Za a0.come⟩])) (n := (n + 2)) (i := i0) (j := j0_2) (k := 0) (len := a0.out.length) (q := ⟨false, 81, 4, 1, [.row j0_2 a0.out.length, .val (.int .i64 a0.kept), .row n a0.gone.length, .row (n + 1) a0.come.length]⟩) (qj := ⟨true, 61, 14, a0.out.length, fl Zf a0.out⟩) (by rw [Z7 _ hi0]; first | exact ho0 | exact Z3 _ _ _) rfl (by rw [Z7 _ Zix, Yo _ _ (Ne.symm Zav), Yo _ _ (Ne.symm Zau), Yo _ _ (Ne.symm Zat)]; exact Zj9) Zav (by omega)
 simp only [Z6 _ _ Zix, Z6 _ _ hi0, Yq, Yc, Xb, Jy Zav, List.set_cons_zero, List.set_cons_succ, List.cons_append, List.nil_append, List.length_cons, List.length_nil, Nat.zero_add, Nat.reduceAdd, Nat.add_assoc] at e2
 refine Qi e2 ?_
 have hU := (Und.drop (Und.drop (Und.drop hU j0_0) j0_1) j0_2)
 have hk0 : ∀ k, i0 < n + k := fun k => by omega
 have hN0 : ∀ o, Objs.upd (((O.upd j0_0 none).upd j0_1 none).upd j0_2 none) i0 o n = none := fun o => Xt hU hi0 _ (Nat.le_refl _)
 have hN : ∀ o k, Objs.upd (((O.upd j0_0 none).upd j0_1 none).upd j0_2 none) i0 o (n + k) = none := fun o k => Xt hU hi0 _ (Nat.le_add_right _ _)
 show W _ _ _ _ ⟨32, [], [(0, .ref i0 0), (1, .ref i0 3), (2, (sL Za a2))]⟩ (Zy ((((O.upd j0_0 none).upd j0_1 none).upd j0_2 none).upd i0 (some ⟨false, 81, 4, 1, [.row (n + 2) a0.out.length, (vI a0.kept), .row n a0.gone.length, .row (n + 1) a0.come.length]⟩)) n [some (oR 25 3 Za a0.gone), some (oR 25 3 Za a0.come), some (oR 61 14 Zf a0.out)]) _
 obtain ⟨z1, hz1, h⟩ := bC h
 refine X4 (E' := ⟨32, [], [(1, .ref i0 3), (2, (sL Za a2))]⟩) (O' := (Zy ((((O.upd j0_0 none).upd j0_1 none).upd j0_2 none).upd i0 (some ⟨false, 81, 4, 1, [.row (n + 6) z1.1.length, (vI z1.2.2.2), .row (n + 7) z1.2.1.length, .row (n + 8) z1.2.2.1.length]⟩)) n [none, none, none, none, none, none, some (oR 61 14 Zf z1.1), some (oR 25 3 Za z1.2.1), some (oR 25 3 Za z1.2.2.1)])) (n0 := (n + 9)) ?_ ?_
 ·refine Vq [0, 1, 2, 12] hi0 hk0 ?_
  refine Zv (t := (decide (0 < a0.kept))) rfl (fun c3 => ?_) (fun c3 => ?_)
  ·replace hz1 := Zx c3 hz1
   obtain ⟨y2, hy2, hz1⟩ := bC hz1
   refine Vp [] hi0 hk0 ?_
   refine (Vm (i0 := i0) (j0_0 := n) (j0_1 := (n + 1)) (j0_2 := (n + 2)) (by omega) (by omega) (by omega) (by omega) (by omega) (by omega) (by omega) (by omega) (by omega) (by omega) (by simp only [push_cast, seval, ↓reduceIte, Zd, Ym, hi0, hk0, hN0, hN] <;> rfl) (by simp only [push_cast, seval, ↓reduceIte, Zd, Ym, hi0, hk0, hN0, hN] <;> rfl) (by simp only [push_cast, seval, ↓reduceIte, Zd, Ym, hi0, hk0, hN0, hN] <;> rfl) (by simp only [push_cast, seval, ↓reduceIte, Zd, Ym, hi0, hk0, hN0, hN] <;> rfl) hy2).then ?_
   refine zX2 hi0 hk0 ?_
   obtain rfl := sI hz1
   refine And.intro rfl ?_
   refine Fit2.trans (E' := (⟨32, [], [(1, .ref i0 3), (2, (sL Za a2))]⟩ : Env)) (O' := (Zy ((((O.upd j0_0 none).upd j0_1 none).upd j0_2 none).upd i0 (some ⟨false, 81, 4, 1, [.row (n + 5) y2.out.length, (vI y2.kept), .row (n + 3) y2.gone.length, .row (n + 4) y2.come.length]⟩)) n [none, none, none, some (oR 25 3 Za y2.gone), some (oR 25 3 Za y2.come), some (oR 61 14 Zf y2.out)])) (n' := (n + 6)) (Fit2.of (Z9 hU rfl rfl ?_) (by omega)) ?_
   ·exact X3 hi0 hk0
   refine Y9 (k := 6) (k' := 9) hU [5, 5, 5, 7, 8, 6] [0, 0, 0, 0, 0, 0, 5, 3, 4] rfl rfl rfl rfl ⟨rfl, rfl⟩ ?_
   exact X3 hi0 hk0
  replace hz1 := Zw c3 hz1
  refine zK ?_
  obtain rfl := sI hz1
  refine And.intro rfl ?_
  refine Fit2.trans (E' := (⟨32, [], [(1, .ref i0 3), (2, (sL Za a2))]⟩ : Env)) (O' := (Zy ((((O.upd j0_0 none).upd j0_1 none).upd j0_2 none).upd i0 (some ⟨false, 81, 4, 1, [.row (n + 2) a0.out.length, (vI a0.kept), .row n a0.gone.length, .row (n + 1) a0.come.length]⟩)) n [some (oR 25 3 Za a0.gone), some (oR 25 3 Za a0.come), some (oR 61 14 Zf a0.out)])) (n' := (n + 3)) (Fit2.of (Z9 hU rfl rfl ?_) (by omega)) ?_
  ·exact X3 hi0 hk0
  refine Y9 (k := 3) (k' := 9) hU [7, 8, 6] [0, 0, 0, 0, 0, 0, 2, 0, 1] rfl rfl rfl rfl ⟨rfl, rfl⟩ ?_
  exact X3 hi0 hk0
 refine Vq [1, 15, 16, 17] hi0 hk0 ?_
 refine zD [1, 15, 16, 17] [false, false, false, false, false, false, true, true, true] ?_
 obtain ⟨z11, hz11, h⟩ := bC h
 refine Qb (E' := ⟨32, [], []⟩) (O' := (Zy ((((O.upd j0_0 none).upd j0_1 none).upd j0_2 none).upd i0 (some ⟨false, 81, 4, 1, [.row (n + 6) z1.1.length, (vI z1.2.2.2), .row (n + 7) z1.2.1.length, .row (n + 8) z11.length]⟩)) n [none, none, none, none, none, none, some (oR 61 14 Zf z1.1), some (oR 25 3 Za z1.2.1), some (oR 25 3 Za z11)])) (n0 := (n + 9)) ?_ ?_
 ·refine Q4 hz11 (fun s0_ => ⟨32, [], [(1, .ref i0 3), (15, (sL Za a2)), (16, (vI (a2.length : Int))), (17, (vI s0_.1))]⟩) (fun s0_ => (Zy ((((O.upd j0_0 none).upd j0_1 none).upd j0_2 none).upd i0 (some ⟨false, 81, 4, 1, [.row (n + 6) z1.1.length, (vI z1.2.2.2), .row (n + 7) z1.2.1.length, .row (n + 8) s0_.2.length]⟩)) n [none, none, none, none, none, none, some (oR 61 14 Zf z1.1), some (oR 25 3 Za z1.2.1), some (oR 25 3 Za s0_.2)])) (fun z11 => JX 0 n (⟨32, [], []⟩ : Env) (Zy ((((O.upd j0_0 none).upd j0_1 none).upd j0_2 none).upd i0 (some ⟨false, 81, 4, 1, [.row (n + 6) z1.1.length, (vI z1.2.2.2), .row (n + 7) z1.2.1.length, .row (n + 8) z11.length]⟩)) n [none, none, none, none, none, none, some (oR 61 14 Zf z1.1), some (oR 25 3 Za z1.2.1), some (oR 25 3 Za z11)]) (n + 9)) ?_
  intro s0_ x0_ hs0_
  unfold Q7 at hs0_
  try dsimp only
  refine Vq [1, 15, 16, 17, 18] hi0 hk0 ?_
  refine Zo ?_
  refine Zv (t := (decide (s0_.1 < (a2.length : Int)))) rfl (fun c10 => ?_) (fun c10 => ?_)
  ·replace hs0_ := Zx c10 hs0_
   refine Gu [1, 15, 16, 17] [false, false, false, false, false, false, true, true, true] ?_
   refine Zo ?_
   refine Xh ?_
   refine Zo ?_
   obtain ⟨x5, hx5, ax5, bx5, cx5, hs0_⟩ := bE (f := Za) Gt (fun _ => rfl) (by decide) hs0_
   refine Z4a [] ax5 bx5 cx5 hi0 hk0 ?_
   refine zD [1, 7, 15, 16, 17] [false, false, false, false, false, false, true, true, true, true] ?_
   obtain ⟨y6, hy6, hs0_⟩ := bC hs0_
   obtain ⟨l7, pl7, ql7, el7, hs0_⟩ := bA (k := 1) rfl hs0_
   obtain ⟨x8, hx8, ax8, bx8, cx8, hs0_⟩ := bE (f := Za) Gt (fun _ => rfl) (by decide) hs0_
   have gu9 : Kh (fl Za s0_.2 ++ [.val (.int .i64 0), .val (.slice none 0 0), .val (.slice none 0 0)]) [.val (.int .i64 y6.Kind), .sl y6.Words.length (fl (eI .u64) y6.Words), .sl y6.Kids.length (fl Za y6.Kids)] (List.length s0_.2 * 3) = some (fl Za s0_.2 ++ [.val (.int .i64 y6.Kind), .sl y6.Words.length (fl (eI .u64) y6.Words), .sl y6.Kids.length (fl Za y6.Kids)]) := Zao (f := Za) (sz := 3) (fun _ => rfl) rfl rfl
   refine Vs Zu (by kernel_rfl) [.plain, .low, .low, .low, .low, .low, .pass, .bar, .shp, .fill true, .shp, .fill false] (fun i => i < (n + 10)) [0, 1, 2, 3, 4, 5, 6, 7, 8, 9, 10, 11] [.plain, .low, .low, .low, .low, .low, .pass, .bar, .shp, .fill true, .shp, .fill false] [] (by kernel_rfl) rfl ?_
   refine zF9 pl7 ql7 el7 ax8 bx8 cx8 gu9 hi0 hk0 ?_
   refine zO ?_
   first | refine PCallA.of (fun _ _ => Gf hy6) ?_ | refine PCall.of (Gf hy6) ?_
   refine zF9 pl7 ql7 el7 ax8 bx8 cx8 gu9 hi0 hk0 ?_
   refine zO ?_
   refine Zhh ⟨32, [], [(1, .ref i0 3), (15, (sL Za a2)), (16, (vI (a2.length : Int))), (17, (vI s0_.1))]⟩ (Zy ((((O.upd j0_0 none).upd j0_1 none).upd j0_2 none).upd i0 (some ⟨false, 81, 4, 1, [.row (n + 6) z1.1.length, (vI z1.2.2.2), .row (n + 7) z1.2.1.length, .row (n + 8) (s0_.2 ++ [y6]).length]⟩)) n [none, none, none, none, none, none, some (oR 61 14 Zf z1.1), some (oR 25 3 Za z1.2.1), some (oR 25 3 Za (s0_.2 ++ [y6])), none, none]) (Z9 hU rfl rfl ?_) ?_
   ·exact Zzl pl7 ql7 el7 ax8 bx8 cx8 gu9 hi0 hk0
   refine Vp [] hi0 hk0 ?_
   obtain rfl := sI hs0_
   refine And.intro rfl (Fit2.of (Z9 hU rfl rfl ?_) (by omega))
   exact X3 hi0 hk0
  replace hs0_ := Zw c10 hs0_
  refine zXt ?_
  obtain rfl := sI hs0_
  refine And.intro (fun h => by cases h) (And.intro rfl (Fit2.of (Z9 hU rfl rfl ?_) (by omega)))
  exact X3 hi0 hk0
 try simp only [Qg, Xm, ↓reduceIte, Nat.reduceEqDiff]
 obtain rfl := sI h
 refine X0 (k := 3) (i := i0) (q1 := ⟨false, 81, 4, 1, [.row (n + 2) z1.1.length, (vI z1.2.2.2), .row n z1.2.1.length, .row (n + 1) z11.length]⟩) (L3 := [some (oR 25 3 Za z1.2.1), some (oR 25 3 Za z11), some (oR 61 14 Zf z1.1), none]) (E2 := (⟨32, [], []⟩ : Env)) (n3 := (n + 4)) (.inl rfl) hU rfl [] ?_ ?_
 ·refine Fit2.trans (E' := (⟨32, [], []⟩ : Env)) (O' := (Zy ((((O.upd j0_0 none).upd j0_1 none).upd j0_2 none).upd i0 (some ⟨false, 81, 4, 1, [.row (n + 6) z1.1.length, (vI z1.2.2.2), .row (n + 7) z1.2.1.length, .row (n + 8) z11.length]⟩)) n [none, none, none, none, none, none, some (oR 61 14 Zf z1.1), some (oR 25 3 Za z1.2.1), some (oR 25 3 Za z11)])) (n' := (n + 9)) (Fit2.of (Z9 hU rfl rfl ?_) (by omega)) ?_
  ·exact X3 hi0 hk0
  refine Y9 (k := 9) (k' := 4) hU [3, 3, 3, 3, 3, 3, 2, 0, 1] [7, 8, 6, 0] rfl rfl rfl rfl ⟨rfl, rfl⟩ ?_
  exact X3 hi0 hk0
 simp only [push_cast, seval, ↓reduceIte, Zd, Tryz.results43, hi0, hk0, hN0, hN]
theorem Zsz {a0 : Int} {a1 : Zc} {r : Bool} {O : Objs} {n : Nat} (h : Zep a0 a1 = some r) : GTo Tryz.prog 62 [(vI a0), .agg (Zk a1)] O n ((vB r)) O n := by
 unfold Zep at h
 refine fn0 Zu Tryz.call62 Tryz.func62 rfl fun hU hN0 hN => ?_
 show W _ _ _ _ ⟨27, [], [(0, (vI a0)), (1, .agg (Zk a1))]⟩ (Zy O n []) _
 refine zQ [0, 3] ?_
 refine zQD [4] [none, none, none, none, none, none, none, none, none, none, none, none, none, none, none, none, none] ?_
 refine zW ?_
 obtain rfl := sI h
 refine Zz (.inr rfl) hU [(vB (cond (a1.Kind == 0) true (cond (cond (a0 == 9) (a1.Kind == 2) false) ((IntKind.i64.wrap ((a1.Words.length : Int) + (a1.Kids.length : Int))) == 0) false)))] (by omega) ?_
 simp only [push_cast, seval, ↓reduceIte, Zd, Tryz.results62, hN0, hN]
theorem Zjc {a0 : Zt} {a1 : Int} {a2 : Zc} {r : Zt} {O : Objs} {n : Nat} {i0 j0_0 j0_1 j0_2 : Nat} (hi0 : i0 < n) (Q0 : j0_0 < n) (Vh : j0_1 < n) (Zix : j0_2 < n) (Xv : i0 ≠ j0_0) (X2 : i0 ≠ j0_1) (Zav : i0 ≠ j0_2) (X1 : j0_0 ≠ j0_1) (Zat : j0_0 ≠ j0_2) (Zau : j0_1 ≠ j0_2) (ho0 : O i0 = some ⟨false, 81, 4, 1, [.row j0_2 a0.out.length, (vI a0.kept), .row j0_0 a0.gone.length, .row j0_1 a0.come.length]⟩) (Ji : O j0_0 = some (oR 25 3 Za a0.gone)) (Un : O j0_1 = some (oR 25 3 Za a0.come)) (Zj9 : O j0_2 = some (oR 61 14 Zf a0.out)) (h : Kb a0 a1 a2 = some r) : GTo Tryz.prog 44 [.ref i0 0, (vI a1), .agg (Zk a2)] O n (.tup []) (Zy ((((O.upd j0_0 none).upd j0_1 none).upd j0_2 none).upd i0 (some ⟨false, 81, 4, 1, [.row (n + 2) r.out.length, (vI r.kept), .row n r.gone.length, .row (n + 1) r.come.length]⟩)) n [some (oR 25 3 Za r.gone), some (oR 25 3 Za r.come), some (oR 61 14 Zf r.out)]) (n + 3) := by
 unfold Kb at h
 refine Zez Zu Tryz.call44 Tryz.func44 rfl (Nat.le_of_ble_eq_true rfl) (by omega) fun hU => ?_
 have e0 := Xx (ba := n) (E := ⟨25, [], Zaa 0 [.ref i0 0, .val (.int .i64 a1), .agg [.val (.int .i64 a2.Kind), .val (.int .i64 a2.Old.Kind), .sl a2.Old.Words.length (fl (eI .u64) a2.Old.Words), .sl a2.Old.Kids.length (fl Za a2.Old.Kids), .val (.int .i64 a2.New.Kind), .sl a2.New.Words.length (fl (eI .u64) a2.New.Words), .sl a2.New.Kids.length (fl Za a2.New.Kids), .sl a2.Words.length (fl Zg a2.Words), .sl a2.Kids.length (fl Zi a2.Kids), .val (.int .i64 a2.List_), .sl a2.Ops.length (fl Zf a2.Ops)]]⟩) (O := (Zy O n [])) (n := n) (i := i0) (j := j0_0) (k := 2) (len := a0.gone.length) (q := ⟨false, 81, 4, 1, [.row j0_2 a0.out.length, .val (.int .i64 a0.kept), .row j0_0 a0.gone.length, .row j0_1 a0.come.length]⟩) (qj := ⟨true, 25, 3, a0.gone.length, fl Za a0.gone⟩) (by rw [Z7 _ hi0]; first | exact ho0 | exact Z3 _ _ _) rfl (by rw [Z7 _ Q0]; exact Ji) Xv (by omega)
 simp only [Z6 _ _ Q0, Z6 _ _ hi0, Yq, Yc, Xb, Jy Xv, List.set_cons_zero, List.set_cons_succ, List.cons_append, List.nil_append, List.length_cons, List.length_nil, Nat.zero_add, Nat.reduceAdd, Nat.add_assoc] at e0
 refine Qi e0 ?_
 have e1 := Xx (ba := n) (E := ⟨25, [], Zaa 0 [.ref i0 0, .val (.int .i64 a1), .agg [.val (.int .i64 a2.Kind), .val (.int .i64 a2.Old.Kind), .sl a2.Old.Words.length (fl (eI .u64) a2.Old.Words), .sl a2.Old.Kids.length (fl Za a2.Old.Kids), .val (.int .i64 a2.New.Kind), .sl a2.New.Words.length (fl (eI .u64) a2.New.Words), .sl a2.New.Kids.length (fl Za a2.New.Kids), .sl a2.Words.length (fl Zg a2.Words), .sl a2.Kids.length (fl Zi a2.Kids), .val (.int .i64 a2.List_), .sl a2.Ops.length (fl Zf a2.Ops)]]⟩) (O := (Zy ((O.upd j0_0 none).upd i0 (some ⟨false, 81, 4, 1, [.row j0_2 a0.out.length, .val (.int .i64 a0.kept), .row n a0.gone.length, .row j0_1 a0.come.length]⟩)) n [some ⟨true, 25, 3, a0.gone.length, fl Za a0.gone⟩])) (n := (n + 1)) (i := i0) (j := j0_1) (k := 3) (len := a0.come.length) (q := ⟨false, 81, 4, 1, [.row j0_2 a0.out.length, .val (.int .i64 a0.kept), .row n a0.gone.length, .row j0_1 a0.come.length]⟩) (qj := ⟨true, 25, 3, a0.come.length, fl Za a0.come⟩) (by rw [Z7 _ hi0]; first | exact ho0 | exact Z3 _ _ _) rfl (by rw [Z7 _ Vh, Yo _ _ (Ne.symm X2), Yo _ _ (Ne.symm X1)]; exact Un) X2 (by omega)
 simp only [Z6 _ _ Vh, Z6 _ _ hi0, Yq, Yc, Xb, Jy X2, List.set_cons_zero, List.set_cons_succ, List.cons_append, List.nil_append, List.length_cons, List.length_nil, Nat.zero_add, Nat.reduceAdd, Nat.add_assoc] at e1
 refine Qi e1 ?_
 have e2 := Xx (ba := n) (E := ⟨25, [], Zaa 0 [.ref i0 0, .val (.int .i64 a1), .agg [.val (.int .i64 a2.Kind), .val (.int .i64 a2.Old.Kind), .sl a2.Old.Words.length (fl (eI .u64) a2.Old.Words), .sl a2.Old.Kids.length (fl Za a2.Old.Kids), .val (.int .i64 a2.New.Kind), .sl a2.New.Words.length (fl (eI .u64) a2.New.Words), .sl a2.New.Kids.length (fl Za a2.New.Kids), .sl a2.Words.length (fl Zg a2.Words), .sl a2.Kids.length (fl Zi a2.Kids), .val (.int .i64 a2.List_), .sl a2.Ops.length (fl Zf a2.Ops)]]⟩) (O := (Zy (((O.upd j0_0 none).upd j0_1 none).upd i0 (some ⟨false, 81, 4, 1, [.row j0_2 a0.out.length, .val (.int .i64 a0.kept), .row n a0.gone.length, .row (n + 1) a0.come.length]⟩)) n [some ⟨true, 25, 3, a0.gone.length, fl Za a0.gone⟩, some ⟨true, 25, 3, a0.come.length, fl Za a0.come⟩])) (n := (n + 2)) (i := i0) (j := j0_2) (k := 0) (len := a0.out.length) (q := ⟨false, 81, 4, 1, [.row j0_2 a0.out.length, .val (.int .i64 a0.kept), .row n a0.gone.length, .row (n + 1) a0.come.length]⟩) (qj := ⟨true, 61, 14, a0.out.length, fl Zf a0.out⟩) (by rw [Z7 _ hi0]; first | exact ho0 | exact Z3 _ _ _) rfl (by rw [Z7 _ Zix, Yo _ _ (Ne.symm Zav), Yo _ _ (Ne.symm Zau), Yo _ _ (Ne.symm Zat)]; exact Zj9) Zav (by omega)
 simp only [Z6 _ _ Zix, Z6 _ _ hi0, Yq, Yc, Xb, Jy Zav, List.set_cons_zero, List.set_cons_succ, List.cons_append, List.nil_append, List.length_cons, List.length_nil, Nat.zero_add, Nat.reduceAdd, Nat.add_assoc] at e2
 refine Qi e2 ?_
 have hU := (Und.drop (Und.drop (Und.drop hU j0_0) j0_1) j0_2)
 have hk0 : ∀ k, i0 < n + k := fun k => by omega
 have hN0 : ∀ o, Objs.upd (((O.upd j0_0 none).upd j0_1 none).upd j0_2 none) i0 o n = none := fun o => Xt hU hi0 _ (Nat.le_refl _)
 have hN : ∀ o k, Objs.upd (((O.upd j0_0 none).upd j0_1 none).upd j0_2 none) i0 o (n + k) = none := fun o k => Xt hU hi0 _ (Nat.le_add_right _ _)
 show W _ _ _ _ ⟨25, [], [(0, .ref i0 0), (1, (vI a1)), (2, .agg (Zk a2))]⟩ (Zy ((((O.upd j0_0 none).upd j0_1 none).upd j0_2 none).upd i0 (some ⟨false, 81, 4, 1, [.row (n + 2) a0.out.length, (vI a0.kept), .row n a0.gone.length, .row (n + 1) a0.come.length]⟩)) n [some (oR 25 3 Za a0.gone), some (oR 25 3 Za a0.come), some (oR 61 14 Zf a0.out)]) _
 refine Vq [0, 1, 5] hi0 hk0 ?_
 refine Zo ?_
 refine Zo ?_
 obtain ⟨y2, hy2, h⟩ := bC h
 refine Vp [] hi0 hk0 ?_
 refine (Zsz hy2).then ?_
 refine zX2 hi0 hk0 ?_
 refine zD [0, 5, 8] [true, true, true, true] ?_
 refine Zv (t := y2) rfl (fun c10 => ?_) (fun c10 => ?_)
 ·replace h := Zx c10 h
  refine Zo ?_
  obtain ⟨y4, hy4, h⟩ := bC h
  refine Vp [] hi0 hk0 ?_
  refine (Zf0 (i0 := i0) (j0_0 := n) (j0_1 := (n + 1)) (j0_2 := (n + 2)) (by omega) (by omega) (by omega) (by omega) (by omega) (by omega) (by omega) (by omega) (by omega) (by omega) (by simp only [push_cast, seval, ↓reduceIte, Zd, Ym, hi0, hk0, hN0, hN] <;> rfl) (by simp only [push_cast, seval, ↓reduceIte, Zd, Ym, hi0, hk0, hN0, hN] <;> rfl) (by simp only [push_cast, seval, ↓reduceIte, Zd, Ym, hi0, hk0, hN0, hN] <;> rfl) (by simp only [push_cast, seval, ↓reduceIte, Zd, Ym, hi0, hk0, hN0, hN] <;> rfl) hy4).then ?_
  refine zX2 hi0 hk0 ?_
  refine zD [] [false, false, false, false, true, true, true] ?_
  refine zW ?_
  obtain rfl := sI h
  refine X0 (k := 3) (i := i0) (q1 := ⟨false, 81, 4, 1, [.row (n + 2) y4.out.length, (vI y4.kept), .row n y4.gone.length, .row (n + 1) y4.come.length]⟩) (L3 := [some (oR 25 3 Za y4.gone), some (oR 25 3 Za y4.come), some (oR 61 14 Zf y4.out), none]) (E2 := (⟨25, [], []⟩ : Env)) (n3 := (n + 4)) (.inr rfl) hU rfl [] ?_ ?_
  ·refine Fit2.trans (E' := (⟨25, [], []⟩ : Env)) (O' := (Zy ((((O.upd j0_0 none).upd j0_1 none).upd j0_2 none).upd i0 (some ⟨false, 81, 4, 1, [.row (n + 6) y4.out.length, (vI y4.kept), .row (n + 4) y4.gone.length, .row (n + 5) y4.come.length]⟩)) n [none, none, none, none, some (oR 25 3 Za y4.gone), some (oR 25 3 Za y4.come), some (oR 61 14 Zf y4.out)])) (n' := (n + 7)) (Fit2.of (Z9 hU rfl rfl ?_) (by omega)) ?_
   ·exact X3 hi0 hk0
   refine Y9 (k := 7) (k' := 4) hU [3, 3, 3, 3, 0, 1, 2] [4, 5, 6, 0] rfl rfl rfl rfl ⟨rfl, rfl⟩ ?_
   exact X3 hi0 hk0
  simp only [push_cast, seval, ↓reduceIte, Zd, Tryz.results44, hi0, hk0, hN0, hN]
 replace h := Zw c10 h
 refine Gu [0, 5] [true, true, true, true] ?_
 refine Zo ?_
 obtain ⟨y6, hy6, h⟩ := bC h
 refine Vp [] hi0 hk0 ?_
 refine (Vm (i0 := i0) (j0_0 := n) (j0_1 := (n + 1)) (j0_2 := (n + 2)) (by omega) (by omega) (by omega) (by omega) (by omega) (by omega) (by omega) (by omega) (by omega) (by omega) (by simp only [push_cast, seval, ↓reduceIte, Zd, Ym, hi0, hk0, hN0, hN] <;> rfl) (by simp only [push_cast, seval, ↓reduceIte, Zd, Ym, hi0, hk0, hN0, hN] <;> rfl) (by simp only [push_cast, seval, ↓reduceIte, Zd, Ym, hi0, hk0, hN0, hN] <;> rfl) (by simp only [push_cast, seval, ↓reduceIte, Zd, Ym, hi0, hk0, hN0, hN] <;> rfl) hy6).then ?_
 refine zX2 hi0 hk0 ?_
 refine zD [0, 5] [false, false, false, true, true, true, true] ?_
 obtain ⟨l7, pl7, ql7, el7, h⟩ := bA (k := 1) rfl h
 obtain ⟨x8, hx8, ax8, bx8, cx8, h⟩ := bE (f := Zf) Zij (fun _ => rfl) (by decide) h
 have gu9 : Kh (fl Zf y6.out ++ [.val (.int .i64 0), .val (.int .i64 0), .val (.slice none 0 0), .val (.int .i64 0), .val (.int .i64 0), .val (.slice none 0 0), .val (.slice none 0 0), .val (.int .i64 0), .val (.slice none 0 0), .val (.slice none 0 0), .val (.slice none 0 0), .val (.slice none 0 0), .val (.int .i64 0), .val (.slice none 0 0)]) [.val (.int .i64 3), .val (.int .i64 0), .val (.slice none 0 0), .val (.int .i64 a2.Kind), .val (.int .i64 a2.Old.Kind), .sl a2.Old.Words.length (fl (eI .u64) a2.Old.Words), .sl a2.Old.Kids.length (fl Za a2.Old.Kids), .val (.int .i64 a2.New.Kind), .sl a2.New.Words.length (fl (eI .u64) a2.New.Words), .sl a2.New.Kids.length (fl Za a2.New.Kids), .sl a2.Words.length (fl Zg a2.Words), .sl a2.Kids.length (fl Zi a2.Kids), .val (.int .i64 a2.List_), .sl a2.Ops.length (fl Zf a2.Ops)] (List.length y6.out * 14) = some (fl Zf y6.out ++ [.val (.int .i64 3), .val (.int .i64 0), .val (.slice none 0 0), .val (.int .i64 a2.Kind), .val (.int .i64 a2.Old.Kind), .sl a2.Old.Words.length (fl (eI .u64) a2.Old.Words), .sl a2.Old.Kids.length (fl Za a2.Old.Kids), .val (.int .i64 a2.New.Kind), .sl a2.New.Words.length (fl (eI .u64) a2.New.Words), .sl a2.New.Kids.length (fl Za a2.New.Kids), .sl a2.Words.length (fl Zg a2.Words), .sl a2.Kids.length (fl Zi a2.Kids), .val (.int .i64 a2.List_), .sl a2.Ops.length (fl Zf a2.Ops)]) := Zao (f := Zf) (sz := 14) (fun _ => rfl) rfl rfl
 refine Vs Zu (by kernel_rfl) [.plain, .low, .low, .low, .low, .plain, .low, .pass, .bar, .shp, .fill true, .shp, .shp, .fill false] (fun i => i < (n + 7)) [0, 1, 2, 3, 4, 5, 6, 7, 8, 9, 10, 11, 12, 13] [.plain, .low, .low, .low, .low, .plain, .low, .pass, .bar, .shp, .fill true, .shp, .shp, .fill false] [] (by kernel_rfl) rfl ?_
 refine zF9 pl7 ql7 el7 ax8 bx8 cx8 gu9 hi0 hk0 ?_
 refine zO ?_
 obtain rfl := sI h
 refine X0 (k := 3) (i := i0) (q1 := ⟨false, 81, 4, 1, [.row (n + 2) (y6.out ++ [(⟨3, 0, ([] : (List Zb)), a2⟩ : Zj)]).length, (vI y6.kept), .row n y6.gone.length, .row (n + 1) y6.come.length]⟩) (L3 := [some (oR 25 3 Za y6.gone), some (oR 25 3 Za y6.come), some (oR 61 14 Zf (y6.out ++ [(⟨3, 0, ([] : (List Zb)), a2⟩ : Zj)])), none]) (E2 := (⟨25, [], []⟩ : Env)) (n3 := (n + 4)) (.inl rfl) hU rfl [] ?_ ?_
 ·refine Fit2.trans (E' := (⟨25, [], []⟩ : Env)) (O' := (Zy ((((O.upd j0_0 none).upd j0_1 none).upd j0_2 none).upd i0 (some ⟨false, 81, 4, 1, [.row (n + 6) (y6.out ++ [(⟨3, 0, ([] : (List Zb)), a2⟩ : Zj)]).length, (vI y6.kept), .row (n + 4) y6.gone.length, .row (n + 5) y6.come.length]⟩)) n [none, none, none, none, some (oR 25 3 Za y6.gone), some (oR 25 3 Za y6.come), some (oR 61 14 Zf (y6.out ++ [(⟨3, 0, ([] : (List Zb)), a2⟩ : Zj)])), none])) (n' := (n + 8)) (Fit2.of (Z9 hU rfl rfl ?_) (by omega)) ?_
  ·exact Zzl pl7 ql7 el7 ax8 bx8 cx8 gu9 hi0 hk0
  refine Y9 (k := 8) (k' := 4) hU [3, 3, 3, 3, 0, 1, 2, 3] [4, 5, 6, 0] rfl rfl rfl rfl ⟨rfl, rfl⟩ ?_
  exact X3 hi0 hk0
 simp only [push_cast, seval, ↓reduceIte, Zd, Tryz.results44, hi0, hk0, hN0, hN]
def Zf7 (Qf : (Zc → Option Zc)) : Prop := ∀ {a0 : Zc} {r : Zc} {O : Objs} {n : Nat}, Qf a0 = some r → GTo Tryz.prog 18 [.agg (Zk a0)] O n (.agg (Zk r)) O n
def Zg9 (Vd : (Int → (List Zj) → Option (List Zj))) : Prop := ∀ {a0 : Int} {a1 : (List Zj)} {r : (List Zj)} {O : Objs} {n : Nat}, Vd a0 a1 = some r → GTo Tryz.prog 28 [(vI a0), (sL Zf a1)] O n ((sL Zf r)) O n
theorem Zq5 {Qf : (Zc → Option Zc)} {Vd : (Int → (List Zj) → Option (List Zj))} (Zdu : Zf7 Qf) (Zkt : Zg9 Vd) {a0 : Zc} {r : Zc} {O : Objs} {n : Nat} (h : Zej Qf Vd a0 = some r) : GTo Tryz.prog 18 [.agg (Zk a0)] O n (.agg (Zk r)) O n := by
 unfold Zej at h
 refine fn0 Zu Tryz.call18 Tryz.func18 rfl fun hU hN0 hN => ?_
 show W _ _ _ _ ⟨54, [], [(0, .agg (Zk a0))]⟩ (Zy O n []) _
 refine zQ [1, 2] ?_
 refine Zo ?_
 refine zQ [1, 2, 7] ?_
 refine Xh ?_
 refine zQ [1, 2, 7, 8] ?_
 refine Zv (t := (a0.Kind == 1)) rfl (fun c17 => ?_) (fun c17 => ?_)
 ·replace h := Zx c17 h
  refine Zo ?_
  obtain ⟨y3, hy3, h⟩ := bC h
  obtain ⟨y4, hy4, h⟩ := bC h
  refine Zj7 Zu (by kernel_rfl) [false, false, false, false, false, false, false, true] [] (by kernel_rfl) ?_
  refine zS ?_
  refine PCall.of (Gf hy3) ?_
  refine zS ?_
  refine PCall.of (Gf hy4) ?_
  refine zS ?_
  refine zD [2] [false, true] ?_
  refine zW ?_
  obtain rfl := sI h
  refine Zz (.inr rfl) hU [.agg [(vI 1), (vI y3.Kind), (sL (eI .u64) y3.Words), (sL Za y3.Kids), (vI y4.Kind), (sL (eI .u64) y4.Words), (sL Za y4.Kids), nV, nV, (vI 0), nV]] (by omega) ?_
  simp only [push_cast, seval, ↓reduceIte, Zd, Tryz.results18, hN0, hN]
 replace h := Zw c17 h
 refine zQ [1, 2, 7, 17] ?_
 refine Zv (t := (a0.Kind == 2)) rfl (fun c16 => ?_) (fun c16 => ?_)
 ·replace h := Zx c16 h
  refine Zo ?_
  obtain ⟨y6, hy6, h⟩ := bC h
  refine zR ?_
  refine (Zbi  hy6).then ?_
  refine zS ?_
  refine zDs [1, 2, 3] [true, true, true, true] ?_
  refine zQd [2, 3, 24, 25, 26] [2, 3, 24, 25, 26] [false, true, true, true] ?_
  refine Qi (E' := (⟨54, [], [(2, .ref (n + 1) 0), (3, .ref (n + 3) 0), (24, (sL Zi a0.Kids)), (25, (vI (a0.Kids.length : Int))), (26, (vI 0))]⟩ : Env)) (O' := (Zy O n [none, some ⟨false, 30, 11, 1, [(vI 0), (vI 0), nV, nV, (vI 0), nV, nV, nV, nV, (vI 0), nV]⟩, some (oR 48 4 Zg y6), some ⟨false, 30, 11, 1, [(vI 2), (vI 0), nV, nV, (vI 0), nV, nV, .row (n + 2) y6.length, .row (n + 4) ([] : List Zp).length, (vI 0), nV]⟩, some (oR 59 12 Zi ([] : List Zp)), none])) (n' := (n + 6)) ?_ ?_
  ·refine Fit2.trans (E' := (⟨54, [], [(2, .ref (n + 1) 0), (3, .ref (n + 3) 0), (24, (sL Zi a0.Kids)), (25, (vI (a0.Kids.length : Int))), (26, (vI 0))]⟩ : Env)) (O' := (Zy O n [none, some ⟨false, 30, 11, 1, [(vI 0), (vI 0), nV, nV, (vI 0), nV, nV, nV, nV, (vI 0), nV]⟩, some (oR 48 4 Zg y6), some ⟨false, 30, 11, 1, [(vI 2), (vI 0), nV, nV, (vI 0), nV, nV, .row (n + 2) y6.length, nV, (vI 0), nV]⟩])) (n' := (n + 4)) (Fit2.of (Xi hU rfl rfl ?_) (by omega)) ?_
   ·exact zSe
   refine Fit2.trans (Kp (p := (n + 3)) (k := 8) (q := ⟨false, 30, 11, 1, [(vI 2), (vI 0), nV, nV, (vI 0), nV, nV, .row (n + 2) y6.length, nV, (vI 0), nV]⟩) 59 12 (by simp only [Kg, Vb, List.getElem?_cons_zero, List.getElem?_cons_succ, Option.join_some, List.length_nil, Z3]) rfl (by omega)) ?_
   simp only [Yq, Yc, Vr, Ko, List.set_cons_zero, List.set_cons_succ, List.cons_append, List.nil_append, List.length_cons, List.length_nil, Nat.zero_add, Nat.reduceAdd, Nat.reduceLT, Nat.add_assoc]
   refine K2 (k := 5) (k' := 6) hU [5, 1, 2, 3, 4] [0, 1, 2, 3, 4, 0] rfl rfl rfl rfl ⟨rfl, rfl⟩ ?_
   exact zSe
  obtain ⟨z12, hz12, h⟩ := bC h
  refine Qb (E' := ⟨54, [], [(2, .ref (n + 1) 0), (3, .ref (n + 3) 0)]⟩) (O' := (Zy O n [none, some ⟨false, 30, 11, 1, [(vI 0), (vI 0), nV, nV, (vI 0), nV, nV, nV, nV, (vI 0), nV]⟩, some (oR 48 4 Zg y6), some ⟨false, 30, 11, 1, [(vI 2), (vI 0), nV, nV, (vI 0), nV, nV, .row (n + 2) y6.length, .row (n + 4) z12.length, (vI 0), nV]⟩, some (oR 59 12 Zi z12), none])) (n0 := (n + 6)) ?_ ?_
  ·refine Q4 hz12 (fun s0_ => ⟨54, [], [(2, .ref (n + 1) 0), (3, .ref (n + 3) 0), (24, (sL Zi a0.Kids)), (25, (vI (a0.Kids.length : Int))), (26, (vI s0_.1))]⟩) (fun s0_ => (Zy O n [none, some ⟨false, 30, 11, 1, [(vI 0), (vI 0), nV, nV, (vI 0), nV, nV, nV, nV, (vI 0), nV]⟩, some (oR 48 4 Zg y6), some ⟨false, 30, 11, 1, [(vI 2), (vI 0), nV, nV, (vI 0), nV, nV, .row (n + 2) y6.length, .row (n + 4) s0_.2.length, (vI 0), nV]⟩, some (oR 59 12 Zi s0_.2), none])) (fun z12 => JX 1 n (⟨54, [], [(2, .ref (n + 1) 0), (3, .ref (n + 3) 0)]⟩ : Env) (Zy O n [none, some ⟨false, 30, 11, 1, [(vI 0), (vI 0), nV, nV, (vI 0), nV, nV, nV, nV, (vI 0), nV]⟩, some (oR 48 4 Zg y6), some ⟨false, 30, 11, 1, [(vI 2), (vI 0), nV, nV, (vI 0), nV, nV, .row (n + 2) y6.length, .row (n + 4) z12.length, (vI 0), nV]⟩, some (oR 59 12 Zi z12), none]) (n + 6)) ?_
   intro s0_ x0_ hs0_
   unfold Gz at hs0_
   try dsimp only
   refine zQ [2, 3, 24, 25, 26, 27] ?_
   refine Zo ?_
   refine Zv (t := (decide (s0_.1 < (a0.Kids.length : Int)))) rfl (fun c11 => ?_) (fun c11 => ?_)
   ·replace hs0_ := Zx c11 hs0_
    refine Gu [2, 3, 24, 25, 26] [false, true, true, true, true, false] ?_
    refine Zo ?_
    refine Xh ?_
    refine Zo ?_
    obtain ⟨x8, hx8, ax8, bx8, cx8, hs0_⟩ := bE (f := Zi) Zqw (fun _ => rfl) (by decide) hs0_
    refine Ze4 [] ax8 bx8 cx8 ?_
    refine zD [2, 3, 5, 24, 25, 26] [false, true, true, true, true, false, true] ?_
    obtain ⟨y9, hy9, hs0_⟩ := bC hs0_
    obtain ⟨l10, pl10, ql10, el10, hs0_⟩ := bA (k := 1) rfl hs0_
    refine Vs Zu (by kernel_rfl) [.low, .low, .plain, .plain, .plain, .plain, .plain, .plain, .pass, .bar, .plain, .bar] (fun i => i < (n + 7)) [0, 1, 2, 3, 4, 5, 6, 7, 8, 9, 10, 11] [.low, .low, .plain, .plain, .plain, .plain, .plain, .plain, .pass, .bar, .plain, .bar] [] (by kernel_rfl) rfl ?_
    refine zX3 pl10 ql10 el10 ?_
    refine zO ?_
    first | refine PCallA.of (fun _ _ => Zdu hy9) ?_ | refine PCall.of (Zdu hy9) ?_
    refine zX3 pl10 ql10 el10 ?_
    refine zO ?_
    refine Zhh ⟨54, [], [(2, .ref (n + 1) 0), (3, .ref (n + 3) 0), (24, (sL Zi a0.Kids)), (25, (vI (a0.Kids.length : Int))), (26, (vI s0_.1))]⟩ (Zy O n [none, some ⟨false, 30, 11, 1, [(vI 0), (vI 0), nV, nV, (vI 0), nV, nV, nV, nV, (vI 0), nV]⟩, some (oR 48 4 Zg y6), some ⟨false, 30, 11, 1, [(vI 2), (vI 0), nV, nV, (vI 0), nV, nV, .row (n + 2) y6.length, .row (n + 4) l10.length, (vI 0), nV]⟩, some (oR 59 12 Zi l10), none, none, none]) (Xi hU rfl rfl ?_) ?_
    ·exact Zzm pl10 ql10 el10
    refine zR ?_
    exact zEn hs0_
   replace hs0_ := Zw c11 hs0_
   exact zEx hs0_
  try simp only [Qg, Xm, ↓reduceIte, Nat.reduceEqDiff]
  refine zDs [2, 3] [false, true, true, true, true, false] ?_
  refine zRd [2] [false, true, true, false, true, false] ?_
  refine zW ?_
  obtain rfl := sI h
  refine Zz (.inr rfl) hU [.agg [(vI 2), (vI 0), nV, nV, (vI 0), nV, nV, .row (n + 2) y6.length, .row (n + 4) z12.length, (vI 0), nV]] (by omega) ?_
  simp only [push_cast, seval, ↓reduceIte, Zd, Tryz.results18, hN0, hN]
 replace h := Zw c16 h
 refine zQ [1, 2, 43] ?_
 refine Zv (t := (a0.Kind == 3)) rfl (fun c15 => ?_) (fun c15 => ?_)
 ·replace h := Zx c15 h
  refine Zo ?_
  obtain ⟨y14, hy14, h⟩ := bC h
  refine Zj7 Zu (by kernel_rfl) [false, false, false, false, false, false, false, false, true] [] (by kernel_rfl) ?_
  refine zS ?_
  refine PCall.of (Zkt hy14) ?_
  refine zS ?_
  refine zD [2] [false, true] ?_
  refine zW ?_
  obtain rfl := sI h
  refine Zz (.inr rfl) hU [.agg [(vI 3), (vI 0), nV, nV, (vI 0), nV, nV, nV, nV, (vI a0.List_), (sL Zf y14)]] (by omega) ?_
  simp only [push_cast, seval, ↓reduceIte, Zd, Tryz.results18, hN0, hN]
 replace h := Zw c15 h
 refine Gu [2] [false, true] ?_
 refine Zo ?_
 refine zRd [2] [false, true] ?_
 refine zW ?_
 obtain rfl := sI h
 refine Zz (.inr rfl) hU [.agg [(vI 0), (vI 0), nV, nV, (vI 0), nV, nV, nV, nV, (vI 0), nV]] (by omega) ?_
 simp only [push_cast, seval, ↓reduceIte, Zd, Tryz.results18, hN0, hN]
theorem Zs5 {Qf : (Zc → Option Zc)} {Vd : (Int → (List Zj) → Option (List Zj))} (Zdu : Zf7 Qf) (Zkt : Zg9 Vd) {a0 : Int} {a1 : (List Zj)} {r : (List Zj)} {O : Objs} {n : Nat} (h : Zdo Qf Vd a0 a1 = some r) : GTo Tryz.prog 28 [(vI a0), (sL Zf a1)] O n ((sL Zf r)) O n := by
 unfold Zdo at h
 refine fn0 Zu Tryz.call28 Tryz.func28 rfl fun hU hN0 hN => ?_
 show W _ _ _ _ ⟨44, [], [(0, (vI a0)), (1, (sL Zf a1))]⟩ (Zy O n []) _
 refine zQ [0, 1] ?_
 refine zQ [0, 1, 5] ?_
 refine Zo ?_
 refine zQd [0, 5, 8, 9, 10] [0, 5, 8, 9, 10] [true] ?_
 refine Qi (E' := (⟨44, [], [(0, (vI a0)), (5, .ref n 0), (8, (sL Zf a1)), (9, (vI (a1.length : Int))), (10, (vI 0))]⟩ : Env)) (O' := (Zy O n [some ⟨false, 81, 4, 1, [.row (n + 1) ([] : List Zj).length, (vI 0), .row (n + 2) ([] : List Zb).length, .row (n + 3) ([] : List Zb).length]⟩, some (oR 61 14 Zf ([] : List Zj)), some (oR 25 3 Za ([] : List Zb)), some (oR 25 3 Za ([] : List Zb)), none])) (n' := (n + 5)) ?_ ?_
 ·refine Fit2.trans (E' := (⟨44, [], [(0, (vI a0)), (5, .ref n 0), (8, (sL Zf a1)), (9, (vI (a1.length : Int))), (10, (vI 0))]⟩ : Env)) (O' := (Zy O n [some ⟨false, 81, 4, 1, [nV, (vI 0), nV, nV]⟩])) (n' := (n + 1)) (Fit2.of (Xi hU rfl rfl ?_) (by omega)) ?_
  ·exact zSe
  refine Fit2.trans (Kp (p := n) (k := 0) (q := ⟨false, 81, 4, 1, [nV, (vI 0), nV, nV]⟩) 61 14 (by simp only [Kg, Vb, List.getElem?_cons_zero, List.getElem?_cons_succ, Option.join_some, List.length_nil, Z3]) rfl (by omega)) ?_
  simp only [Yq, Yc, Vr, Ko, List.set_cons_zero, List.set_cons_succ, List.cons_append, List.nil_append, List.length_cons, List.length_nil, Nat.zero_add, Nat.reduceAdd, Nat.reduceLT, Nat.add_assoc]
  refine Fit2.trans (Kp (p := n) (k := 2) (q := ⟨false, 81, 4, 1, [.row (n + 1) ([] : List Zj).length, (vI 0), nV, nV]⟩) 25 3 (by simp only [Kg, Vb, List.getElem?_cons_zero, List.getElem?_cons_succ, Option.join_some, List.length_nil, Z3]) rfl (by omega)) ?_
  simp only [Yq, Yc, Vr, Ko, List.set_cons_zero, List.set_cons_succ, List.cons_append, List.nil_append, List.length_cons, List.length_nil, Nat.zero_add, Nat.reduceAdd, Nat.reduceLT, Nat.add_assoc]
  refine Fit2.trans (Kp (p := n) (k := 3) (q := ⟨false, 81, 4, 1, [.row (n + 1) ([] : List Zj).length, (vI 0), .row (n + 2) ([] : List Zb).length, nV]⟩) 25 3 (by simp only [Kg, Vb, List.getElem?_cons_zero, List.getElem?_cons_succ, Option.join_some, List.length_nil, Z3]) rfl (by omega)) ?_
  simp only [Yq, Yc, Vr, Ko, List.set_cons_zero, List.set_cons_succ, List.cons_append, List.nil_append, List.length_cons, List.length_nil, Nat.zero_add, Nat.reduceAdd, Nat.reduceLT, Nat.add_assoc]
  refine K2 (k := 4) (k' := 5) hU [0, 1, 2, 3] [0, 1, 2, 3, 0] rfl rfl rfl rfl ⟨rfl, rfl⟩ ?_
  exact zSe
 obtain ⟨z14, hz14, h⟩ := bC h
 refine Qb (E' := ⟨44, [], [(5, .ref n 0)]⟩) (O' := (Zy O n [some ⟨false, 81, 4, 1, [.row (n + 1) z14.2.1.length, (vI z14.1), .row (n + 2) z14.2.2.1.length, .row (n + 3) z14.2.2.2.length]⟩, some (oR 61 14 Zf z14.2.1), some (oR 25 3 Za z14.2.2.1), some (oR 25 3 Za z14.2.2.2), none])) (n0 := (n + 5)) ?_ ?_
 ·refine Q4 hz14 (fun s0_ => ⟨44, [], [(0, (vI a0)), (5, .ref n 0), (8, (sL Zf a1)), (9, (vI (a1.length : Int))), (10, (vI s0_.1))]⟩) (fun s0_ => (Zy O n [some ⟨false, 81, 4, 1, [.row (n + 1) s0_.2.2.1.length, (vI s0_.2.1), .row (n + 2) s0_.2.2.2.1.length, .row (n + 3) s0_.2.2.2.2.length]⟩, some (oR 61 14 Zf s0_.2.2.1), some (oR 25 3 Za s0_.2.2.2.1), some (oR 25 3 Za s0_.2.2.2.2), none])) (fun z14 => JX 0 n (⟨44, [], [(5, .ref n 0)]⟩ : Env) (Zy O n [some ⟨false, 81, 4, 1, [.row (n + 1) z14.2.1.length, (vI z14.1), .row (n + 2) z14.2.2.1.length, .row (n + 3) z14.2.2.2.length]⟩, some (oR 61 14 Zf z14.2.1), some (oR 25 3 Za z14.2.2.1), some (oR 25 3 Za z14.2.2.2), none]) (n + 5)) ?_
  intro s0_ x0_ hs0_
  unfold Vz at hs0_
  try dsimp only
  refine zQ [0, 5, 8, 9, 10, 11] ?_
  refine Zo ?_
  refine Zv (t := (decide (s0_.1 < (a1.length : Int)))) rfl (fun c13 => ?_) (fun c13 => ?_)
  ·replace hs0_ := Zx c13 hs0_
   refine Gu [0, 5, 8, 9, 10] [true, true, true, true, false] ?_
   obtain ⟨z1, hz1, hs0_⟩ := bC hs0_
   refine X4 (E' := ⟨44, [], [(0, (vI a0)), (5, .ref n 0), (8, (sL Zf a1)), (9, (vI (a1.length : Int))), (10, (vI s0_.1))]⟩) (O' := (Zy O n [some ⟨false, 81, 4, 1, [.row (n + 9) z1.2.1.length, (vI z1.1), .row (n + 10) z1.2.2.1.length, .row (n + 11) z1.2.2.2.length]⟩, none, none, none, none, none, none, none, none, some (oR 61 14 Zf z1.2.1), some (oR 25 3 Za z1.2.2.1), some (oR 25 3 Za z1.2.2.2), none])) (n0 := (n + 13)) ?_ ?_
   ·refine Xh ?_
    refine Zo ?_
    obtain ⟨x3, hx3, ax3, bx3, cx3, hz1⟩ := bE (f := Zf) Zij (fun _ => rfl) (by decide) hz1
    refine Ze4 [] ax3 bx3 cx3 ?_
    refine zD [0, 5, 7, 8, 9, 10] [true, true, true, true, false, true] ?_
    refine zQ [0, 5, 7, 8, 9, 10, 15] ?_
    refine Xh ?_
    refine zQ [0, 5, 7, 8, 9, 10, 15, 16] ?_
    refine Zv (t := (x3.Kind == 0)) rfl (fun c12 => ?_) (fun c12 => ?_)
    ·replace hz1 := Zx c12 hz1
     obtain ⟨y4, hy4, hz1⟩ := bC hz1
     refine zR ?_
     refine (Zf0 (i0 := n) (j0_0 := (n + 2)) (j0_1 := (n + 3)) (j0_2 := (n + 1)) (by omega) (by omega) (by omega) (by omega) (by omega) (by omega) (by omega) (by omega) (by omega) (by omega) (by simp only [push_cast, seval, ↓reduceIte, Zd, Ym, hN0, hN] <;> rfl) (by simp only [push_cast, seval, ↓reduceIte, Zd, Ym, hN0, hN] <;> rfl) (by simp only [push_cast, seval, ↓reduceIte, Zd, Ym, hN0, hN] <;> rfl) (by simp only [push_cast, seval, ↓reduceIte, Zd, Ym, hN0, hN] <;> rfl) hy4).then ?_
     refine zS ?_
     obtain rfl := sI hz1
     refine And.intro rfl ?_
     refine Fit2.trans (E' := (⟨44, [], [(0, (vI a0)), (5, .ref n 0), (8, (sL Zf a1)), (9, (vI (a1.length : Int))), (10, (vI s0_.1))]⟩ : Env)) (O' := (Zy O n [some ⟨false, 81, 4, 1, [.row (n + 8) y4.out.length, (vI y4.kept), .row (n + 6) y4.gone.length, .row (n + 7) y4.come.length]⟩, none, none, none, none, none, some (oR 25 3 Za y4.gone), some (oR 25 3 Za y4.come), some (oR 61 14 Zf y4.out)])) (n' := (n + 9)) (Fit2.of (Xi hU rfl rfl ?_) (by omega)) ?_
     ·exact zSe
     refine K2 (k := 9) (k' := 13) hU [0, 12, 12, 12, 12, 12, 10, 11, 9] [0, 0, 0, 0, 0, 0, 0, 0, 0, 8, 6, 7, 0] rfl rfl rfl rfl ⟨rfl, rfl⟩ ?_
     exact zSe
    replace hz1 := Zw c12 hz1
    refine zQ [0, 5, 7, 8, 9, 10, 15, 21] ?_
    refine Zv (t := (x3.Kind == 1)) rfl (fun c11 => ?_) (fun c11 => ?_)
    ·replace hz1 := Zx c11 hz1
     obtain ⟨y5, hy5, hz1⟩ := bC hz1
     refine zR ?_
     refine (Zip (i0 := n) (j0_0 := (n + 2)) (j0_1 := (n + 3)) (j0_2 := (n + 1)) (by omega) (by omega) (by omega) (by omega) (by omega) (by omega) (by omega) (by omega) (by omega) (by omega) (by simp only [push_cast, seval, ↓reduceIte, Zd, Ym, hN0, hN] <;> rfl) (by simp only [push_cast, seval, ↓reduceIte, Zd, Ym, hN0, hN] <;> rfl) (by simp only [push_cast, seval, ↓reduceIte, Zd, Ym, hN0, hN] <;> rfl) (by simp only [push_cast, seval, ↓reduceIte, Zd, Ym, hN0, hN] <;> rfl) hy5).then ?_
     refine zS ?_
     obtain rfl := sI hz1
     refine And.intro rfl ?_
     refine Fit2.trans (E' := (⟨44, [], [(0, (vI a0)), (5, .ref n 0), (8, (sL Zf a1)), (9, (vI (a1.length : Int))), (10, (vI s0_.1))]⟩ : Env)) (O' := (Zy O n [some ⟨false, 81, 4, 1, [.row (n + 8) y5.out.length, (vI y5.kept), .row (n + 6) y5.gone.length, .row (n + 7) y5.come.length]⟩, none, none, none, none, none, some (oR 25 3 Za y5.gone), some (oR 25 3 Za y5.come), some (oR 61 14 Zf y5.out)])) (n' := (n + 9)) (Fit2.of (Xi hU rfl rfl ?_) (by omega)) ?_
     ·exact zSe
     refine K2 (k := 9) (k' := 13) hU [0, 12, 12, 12, 12, 12, 10, 11, 9] [0, 0, 0, 0, 0, 0, 0, 0, 0, 8, 6, 7, 0] rfl rfl rfl rfl ⟨rfl, rfl⟩ ?_
     exact zSe
    replace hz1 := Zw c11 hz1
    refine zQ [0, 5, 7, 8, 9, 10, 15, 27] ?_
    refine Zv (t := (x3.Kind == 2)) rfl (fun c10 => ?_) (fun c10 => ?_)
    ·replace hz1 := Zx c10 hz1
     obtain ⟨y6, hy6, hz1⟩ := bC hz1
     refine zR ?_
     refine (Ziq (i0 := n) (j0_0 := (n + 2)) (j0_1 := (n + 3)) (j0_2 := (n + 1)) (by omega) (by omega) (by omega) (by omega) (by omega) (by omega) (by omega) (by omega) (by omega) (by omega) (by simp only [push_cast, seval, ↓reduceIte, Zd, Ym, hN0, hN] <;> rfl) (by simp only [push_cast, seval, ↓reduceIte, Zd, Ym, hN0, hN] <;> rfl) (by simp only [push_cast, seval, ↓reduceIte, Zd, Ym, hN0, hN] <;> rfl) (by simp only [push_cast, seval, ↓reduceIte, Zd, Ym, hN0, hN] <;> rfl) hy6).then ?_
     refine zS ?_
     obtain rfl := sI hz1
     refine And.intro rfl ?_
     refine Fit2.trans (E' := (⟨44, [], [(0, (vI a0)), (5, .ref n 0), (8, (sL Zf a1)), (9, (vI (a1.length : Int))), (10, (vI s0_.1))]⟩ : Env)) (O' := (Zy O n [some ⟨false, 81, 4, 1, [.row (n + 8) y6.out.length, (vI y6.kept), .row (n + 6) y6.gone.length, .row (n + 7) y6.come.length]⟩, none, none, none, none, none, some (oR 25 3 Za y6.gone), some (oR 25 3 Za y6.come), some (oR 61 14 Zf y6.out)])) (n' := (n + 9)) (Fit2.of (Xi hU rfl rfl ?_) (by omega)) ?_
     ·exact zSe
     refine K2 (k := 9) (k' := 13) hU [0, 12, 12, 12, 12, 12, 10, 11, 9] [0, 0, 0, 0, 0, 0, 0, 0, 0, 8, 6, 7, 0] rfl rfl rfl rfl ⟨rfl, rfl⟩ ?_
     exact zSe
    replace hz1 := Zw c10 hz1
    refine zQ [0, 5, 7, 8, 9, 10, 33] ?_
    refine Zv (t := (x3.Kind == 3)) rfl (fun c9 => ?_) (fun c9 => ?_)
    ·replace hz1 := Zx c9 hz1
     obtain ⟨y7, hy7, hz1⟩ := bC hz1
     obtain ⟨y8, hy8, hz1⟩ := bC hz1
     refine zC (Zdu hy7) ?_
     refine (Zjc (i0 := n) (j0_0 := (n + 2)) (j0_1 := (n + 3)) (j0_2 := (n + 1)) (by omega) (by omega) (by omega) (by omega) (by omega) (by omega) (by omega) (by omega) (by omega) (by omega) (by simp only [push_cast, seval, ↓reduceIte, Zd, Ym, hN0, hN] <;> rfl) (by simp only [push_cast, seval, ↓reduceIte, Zd, Ym, hN0, hN] <;> rfl) (by simp only [push_cast, seval, ↓reduceIte, Zd, Ym, hN0, hN] <;> rfl) (by simp only [push_cast, seval, ↓reduceIte, Zd, Ym, hN0, hN] <;> rfl) hy8).then ?_
     refine zS ?_
     obtain rfl := sI hz1
     refine And.intro rfl ?_
     refine Fit2.trans (E' := (⟨44, [], [(0, (vI a0)), (5, .ref n 0), (8, (sL Zf a1)), (9, (vI (a1.length : Int))), (10, (vI s0_.1))]⟩ : Env)) (O' := (Zy O n [some ⟨false, 81, 4, 1, [.row (n + 8) y8.out.length, (vI y8.kept), .row (n + 6) y8.gone.length, .row (n + 7) y8.come.length]⟩, none, none, none, none, none, some (oR 25 3 Za y8.gone), some (oR 25 3 Za y8.come), some (oR 61 14 Zf y8.out)])) (n' := (n + 9)) (Fit2.of (Xi hU rfl rfl ?_) (by omega)) ?_
     ·exact zSe
     refine K2 (k := 9) (k' := 13) hU [0, 12, 12, 12, 12, 12, 10, 11, 9] [0, 0, 0, 0, 0, 0, 0, 0, 0, 8, 6, 7, 0] rfl rfl rfl rfl ⟨rfl, rfl⟩ ?_
     exact zSe
    replace hz1 := Zw c9 hz1
    refine zK ?_
    obtain rfl := sI hz1
    refine And.intro rfl ?_
    refine Fit2.trans (E' := (⟨44, [], [(0, (vI a0)), (5, .ref n 0), (8, (sL Zf a1)), (9, (vI (a1.length : Int))), (10, (vI s0_.1))]⟩ : Env)) (O' := (Zy O n [some ⟨false, 81, 4, 1, [.row (n + 1) s0_.2.2.1.length, (vI s0_.2.1), .row (n + 2) s0_.2.2.2.1.length, .row (n + 3) s0_.2.2.2.2.length]⟩, some (oR 61 14 Zf s0_.2.2.1), some (oR 25 3 Za s0_.2.2.2.1), some (oR 25 3 Za s0_.2.2.2.2), none, none])) (n' := (n + 6)) (Fit2.of (Xi hU rfl rfl ?_) (by omega)) ?_
    ·exact zSe
    refine K2 (k := 6) (k' := 13) hU [0, 9, 10, 11, 12, 12] [0, 0, 0, 0, 0, 0, 0, 0, 0, 1, 2, 3, 0] rfl rfl rfl rfl ⟨rfl, rfl⟩ ?_
    exact zSe
   refine zR ?_
   obtain rfl := sI hs0_
   refine And.intro rfl ?_
   refine Fit2.trans (E' := (⟨44, [], [(0, (vI a0)), (5, .ref n 0), (8, (sL Zf a1)), (9, (vI (a1.length : Int))), (10, (vI (IntKind.i64.wrap (s0_.1 + 1))))]⟩ : Env)) (O' := (Zy O n [some ⟨false, 81, 4, 1, [.row (n + 9) z1.2.1.length, (vI z1.1), .row (n + 10) z1.2.2.1.length, .row (n + 11) z1.2.2.2.length]⟩, none, none, none, none, none, none, none, none, some (oR 61 14 Zf z1.2.1), some (oR 25 3 Za z1.2.2.1), some (oR 25 3 Za z1.2.2.2), none])) (n' := (n + 13)) (Fit2.of (Xi hU rfl rfl ?_) (by omega)) ?_
   ·exact zSe
   refine K2 (k := 13) (k' := 5) hU [0, 4, 4, 4, 4, 4, 4, 4, 4, 1, 2, 3, 4] [0, 9, 10, 11, 0] rfl rfl rfl rfl ⟨rfl, rfl⟩ ?_
   exact zSe
  replace hs0_ := Zw c13 hs0_
  exact zEx hs0_
 try simp only [Qg, Xm, ↓reduceIte, Nat.reduceEqDiff]
 refine zDs [5] [true, true, true, true, false] ?_
 obtain ⟨y16, hy16, h⟩ := bC h
 refine zR ?_
 refine (Vm (i0 := n) (j0_0 := (n + 2)) (j0_1 := (n + 3)) (j0_2 := (n + 1)) (by omega) (by omega) (by omega) (by omega) (by omega) (by omega) (by omega) (by omega) (by omega) (by omega) (by simp only [push_cast, seval, ↓reduceIte, Zd, Ym, hN0, hN] <;> rfl) (by simp only [push_cast, seval, ↓reduceIte, Zd, Ym, hN0, hN] <;> rfl) (by simp only [push_cast, seval, ↓reduceIte, Zd, Ym, hN0, hN] <;> rfl) (by simp only [push_cast, seval, ↓reduceIte, Zd, Ym, hN0, hN] <;> rfl) hy16).then ?_
 refine zS ?_
 refine zD [5] [true, false, false, false, false, true, true, true] ?_
 refine zQ [4] ?_
 refine zW ?_
 obtain rfl := sI h
 refine Zz (.inr rfl) hU [.row (n + 7) y16.out.length] (by omega) ?_
 simp only [push_cast, seval, ↓reduceIte, Zd, Tryz.results28, hN0, hN]
theorem Zog : ∀ k, (Zf7 ((Qc k).1)) ∧ (Zg9 ((Qc k).2)) := fun k => by
 induction k with
 | zero => exact ⟨@fun a0 r O n h => (nomatch (show (none : Option _) = some _ from h)), @fun a0 a1 r O n h => (nomatch (show (none : Option _) = some _ from h))⟩
 | succ k ih => exact ⟨@fun a0 r O n h => Zq5 (ih.1) (ih.2)  h, @fun a0 a1 r O n h => Zs5 (ih.1) (ih.2)  h⟩
theorem Zh5 {a0 : Zc} {r : Zc} {O : Objs} {n : Nat} (h : Zgn a0 = some r) : GTo Tryz.prog 18 [.agg (Zk a0)] O n (.agg (Zk r)) O n := by
 obtain ⟨k, hk⟩ := Zel h
 exact (Zog k).1  hk
theorem Zkz {a0 : Zn} {a1 : Zc} {r : (Int × Zn)} {O : Objs} {n : Nat} {i0 j0_0 j0_1 : Nat} (hi0 : i0 < n) (Q0 : j0_0 < n) (Vh : j0_1 < n) (Xv : i0 ≠ j0_0) (X2 : i0 ≠ j0_1) (X1 : j0_0 ≠ j0_1) (ho0 : O i0 = some ⟨false, 51, 5, 1, [(vI a0.now.Kind), (sL (eI .u64) a0.now.Words), (sL Za a0.now.Kids), .row j0_0 a0.done.length, .row j0_1 a0.back.length]⟩) (Ji : O j0_0 = some (oR 30 11 Ze a0.done)) (Un : O j0_1 = some (oR 30 11 Ze a0.back)) (h : Vk a0 a1 = some r) : GTo Tryz.prog 9 [.ref i0 0, .agg (Zk a1)] O n ((vI r.1)) (Zy (((O.upd j0_0 none).upd j0_1 none).upd i0 (some ⟨false, 51, 5, 1, [(vI r.2.now.Kind), (sL (eI .u64) r.2.now.Words), (sL Za r.2.now.Kids), .row n r.2.done.length, .row (n + 1) r.2.back.length]⟩)) n [some (oR 30 11 Ze r.2.done), some (oR 30 11 Ze r.2.back)]) (n + 2) := by
 unfold Vk at h
 refine Zez Zu Tryz.call9 Tryz.func9 rfl (Nat.le_of_ble_eq_true rfl) (by omega) fun hU => ?_
 have e0 := Xx (ba := n) (E := ⟨31, [], Zaa 0 [.ref i0 0, .agg [.val (.int .i64 a1.Kind), .val (.int .i64 a1.Old.Kind), .sl a1.Old.Words.length (fl (eI .u64) a1.Old.Words), .sl a1.Old.Kids.length (fl Za a1.Old.Kids), .val (.int .i64 a1.New.Kind), .sl a1.New.Words.length (fl (eI .u64) a1.New.Words), .sl a1.New.Kids.length (fl Za a1.New.Kids), .sl a1.Words.length (fl Zg a1.Words), .sl a1.Kids.length (fl Zi a1.Kids), .val (.int .i64 a1.List_), .sl a1.Ops.length (fl Zf a1.Ops)]]⟩) (O := (Zy O n [])) (n := n) (i := i0) (j := j0_0) (k := 3) (len := a0.done.length) (q := ⟨false, 51, 5, 1, [.val (.int .i64 a0.now.Kind), .sl a0.now.Words.length (fl (eI .u64) a0.now.Words), .sl a0.now.Kids.length (fl Za a0.now.Kids), .row j0_0 a0.done.length, .row j0_1 a0.back.length]⟩) (qj := ⟨true, 30, 11, a0.done.length, fl Ze a0.done⟩) (by rw [Z7 _ hi0]; first | exact ho0 | exact Z3 _ _ _) rfl (by rw [Z7 _ Q0]; exact Ji) Xv (by omega)
 simp only [Z6 _ _ Q0, Z6 _ _ hi0, Yq, Yc, Xb, Jy Xv, List.set_cons_zero, List.set_cons_succ, List.cons_append, List.nil_append, List.length_cons, List.length_nil, Nat.zero_add, Nat.reduceAdd, Nat.add_assoc] at e0
 refine Qi e0 ?_
 have e1 := Xx (ba := n) (E := ⟨31, [], Zaa 0 [.ref i0 0, .agg [.val (.int .i64 a1.Kind), .val (.int .i64 a1.Old.Kind), .sl a1.Old.Words.length (fl (eI .u64) a1.Old.Words), .sl a1.Old.Kids.length (fl Za a1.Old.Kids), .val (.int .i64 a1.New.Kind), .sl a1.New.Words.length (fl (eI .u64) a1.New.Words), .sl a1.New.Kids.length (fl Za a1.New.Kids), .sl a1.Words.length (fl Zg a1.Words), .sl a1.Kids.length (fl Zi a1.Kids), .val (.int .i64 a1.List_), .sl a1.Ops.length (fl Zf a1.Ops)]]⟩) (O := (Zy ((O.upd j0_0 none).upd i0 (some ⟨false, 51, 5, 1, [.val (.int .i64 a0.now.Kind), .sl a0.now.Words.length (fl (eI .u64) a0.now.Words), .sl a0.now.Kids.length (fl Za a0.now.Kids), .row n a0.done.length, .row j0_1 a0.back.length]⟩)) n [some ⟨true, 30, 11, a0.done.length, fl Ze a0.done⟩])) (n := (n + 1)) (i := i0) (j := j0_1) (k := 4) (len := a0.back.length) (q := ⟨false, 51, 5, 1, [.val (.int .i64 a0.now.Kind), .sl a0.now.Words.length (fl (eI .u64) a0.now.Words), .sl a0.now.Kids.length (fl Za a0.now.Kids), .row n a0.done.length, .row j0_1 a0.back.length]⟩) (qj := ⟨true, 30, 11, a0.back.length, fl Ze a0.back⟩) (by rw [Z7 _ hi0]; first | exact ho0 | exact Z3 _ _ _) rfl (by rw [Z7 _ Vh, Yo _ _ (Ne.symm X2), Yo _ _ (Ne.symm X1)]; exact Un) X2 (by omega)
 simp only [Z6 _ _ Vh, Z6 _ _ hi0, Yq, Yc, Xb, Jy X2, List.set_cons_zero, List.set_cons_succ, List.cons_append, List.nil_append, List.length_cons, List.length_nil, Nat.zero_add, Nat.reduceAdd, Nat.add_assoc] at e1
 refine Qi e1 ?_
 have hU := (Und.drop (Und.drop hU j0_0) j0_1)
 have hk0 : ∀ k, i0 < n + k := fun k => by omega
 have hN0 : ∀ o, Objs.upd ((O.upd j0_0 none).upd j0_1 none) i0 o n = none := fun o => Xt hU hi0 _ (Nat.le_refl _)
 have hN : ∀ o k, Objs.upd ((O.upd j0_0 none).upd j0_1 none) i0 o (n + k) = none := fun o k => Xt hU hi0 _ (Nat.le_add_right _ _)
 show W _ _ _ _ ⟨31, [], [(0, .ref i0 0), (1, .agg (Zk a1))]⟩ (Zy (((O.upd j0_0 none).upd j0_1 none).upd i0 (some ⟨false, 51, 5, 1, [(vI a0.now.Kind), (sL (eI .u64) a0.now.Words), (sL Za a0.now.Kids), .row n a0.done.length, .row (n + 1) a0.back.length]⟩)) n [some (oR 30 11 Ze a0.done), some (oR 30 11 Ze a0.back)]) _
 refine Vq [0, 3] hi0 hk0 ?_
 refine Zo ?_
 refine Vq [0, 3, 7] hi0 hk0 ?_
 refine Zv (t := false) rfl (fun hc => by cases hc) (fun _ => ?_)
 refine Gu [0, 3] [true, true, true] ?_
 refine Zo ?_
 refine Zo ?_
 obtain ⟨y2, hy2, h⟩ := bC h
 refine Vp [] hi0 hk0 ?_
 refine (Zu0 hy2).then ?_
 refine zX2 hi0 hk0 ?_
 refine zD [0, 3, 10] [true, true, true] ?_
 refine Zv (t := (!y2)) rfl (fun c10 => ?_) (fun c10 => ?_)
 ·replace h := Zx c10 h
  refine Vq [4] hi0 hk0 ?_
  refine zW ?_
  obtain rfl := sI h
  refine X0 (k := 2) (i := i0) (q1 := ⟨false, 51, 5, 1, [(vI a0.now.Kind), (sL (eI .u64) a0.now.Words), (sL Za a0.now.Kids), .row n a0.done.length, .row (n + 1) a0.back.length]⟩) (L3 := [some (oR 30 11 Ze a0.done), some (oR 30 11 Ze a0.back), none]) (E2 := (⟨31, [], [(4, (vI 2))]⟩ : Env)) (n3 := (n + 3)) (.inr rfl) hU rfl [(vI 2)] ?_ ?_
  ·refine Fit2.trans (E' := (⟨31, [], [(4, (vI 2))]⟩ : Env)) (O' := (Zy (((O.upd j0_0 none).upd j0_1 none).upd i0 (some ⟨false, 51, 5, 1, [(vI a0.now.Kind), (sL (eI .u64) a0.now.Words), (sL Za a0.now.Kids), .row n a0.done.length, .row (n + 1) a0.back.length]⟩)) n [some (oR 30 11 Ze a0.done), some (oR 30 11 Ze a0.back), none])) (n' := (n + 3)) (Fit2.of (Z9 hU rfl rfl ?_) (by omega)) ?_
   ·exact X3 hi0 hk0
   refine Y9 (k := 3) (k' := 3) hU [0, 1, 2] [0, 1, 0] rfl rfl rfl rfl ⟨rfl, rfl⟩ ?_
   exact X3 hi0 hk0
  simp only [push_cast, seval, ↓reduceIte, Zd, Tryz.results9, hi0, hk0, hN0, hN]
 replace h := Zw c10 h
 refine Gu [0, 3] [true, true, true] ?_
 refine Zo ?_
 refine Zo ?_
 obtain ⟨y4, hy4, h⟩ := bC h
 refine Vp [] hi0 hk0 ?_
 refine (Zaf (i0 := i0) (j0_0 := n) (j0_1 := (n + 1)) (by omega) (by omega) (by omega) (by omega) (by omega) (by omega) (by simp only [push_cast, seval, ↓reduceIte, Zd, Ym, hi0, hk0, hN0, hN] <;> rfl) (by simp only [push_cast, seval, ↓reduceIte, Zd, Ym, hi0, hk0, hN0, hN] <;> rfl) (by simp only [push_cast, seval, ↓reduceIte, Zd, Ym, hi0, hk0, hN0, hN] <;> rfl) hy4).then ?_
 refine zX2 hi0 hk0 ?_
 refine zD [0, 3, 5] [false, false, true, true, true] ?_
 refine Vq [0, 3, 5, 15] hi0 hk0 ?_
 refine Zv (t := (y4.1 != 0)) rfl (fun c9 => ?_) (fun c9 => ?_)
 ·replace h := Zx c9 h
  refine Vq [4] hi0 hk0 ?_
  refine zW ?_
  obtain rfl := sI h
  refine X0 (k := 2) (i := i0) (q1 := ⟨false, 51, 5, 1, [(vI y4.2.now.Kind), (sL (eI .u64) y4.2.now.Words), (sL Za y4.2.now.Kids), .row n y4.2.done.length, .row (n + 1) y4.2.back.length]⟩) (L3 := [some (oR 30 11 Ze y4.2.done), some (oR 30 11 Ze y4.2.back), none]) (E2 := (⟨31, [], [(4, (vI y4.1))]⟩ : Env)) (n3 := (n + 3)) (.inr rfl) hU rfl [(vI y4.1)] ?_ ?_
  ·refine Fit2.trans (E' := (⟨31, [], [(4, (vI y4.1))]⟩ : Env)) (O' := (Zy (((O.upd j0_0 none).upd j0_1 none).upd i0 (some ⟨false, 51, 5, 1, [(vI y4.2.now.Kind), (sL (eI .u64) y4.2.now.Words), (sL Za y4.2.now.Kids), .row (n + 3) y4.2.done.length, .row (n + 4) y4.2.back.length]⟩)) n [none, none, none, some (oR 30 11 Ze y4.2.done), some (oR 30 11 Ze y4.2.back)])) (n' := (n + 5)) (Fit2.of (Z9 hU rfl rfl ?_) (by omega)) ?_
   ·exact X3 hi0 hk0
   refine Y9 (k := 5) (k' := 3) hU [2, 2, 2, 0, 1] [3, 4, 0] rfl rfl rfl rfl ⟨rfl, rfl⟩ ?_
   exact X3 hi0 hk0
  simp only [push_cast, seval, ↓reduceIte, Zd, Tryz.results9, hi0, hk0, hN0, hN]
 replace h := Zw c9 h
 refine Gu [0, 3] [false, false, true, true, true] ?_
 refine Zo ?_
 obtain ⟨y7, hy7, h⟩ := bC h
 obtain ⟨l8, pl8, ql8, el8, h⟩ := bA (k := 1) rfl h
 refine Vs Zu (by kernel_rfl) [.plain, .plain, .plain, .low, .low, .low, .plain, .plain, .pass, .pass, .plain, .plain, .bar, .plain, .plain, .bar] (fun i => i < (n + 5) ∧ ¬ i = n + 3) [0, 1, 2, 3, 4, 5, 6, 7, 8, 9, 10, 11, 12, 13, 14, 15] [.plain, .plain, .plain, .low, .low, .low, .plain, .plain, .pass, .pass, .plain, .plain, .bar, .plain, .plain, .bar] [] (by kernel_rfl) rfl ?_
 refine zX5 pl8 ql8 el8 hi0 hk0 ?_
 refine zO ?_
 first | refine PCallA.of (fun _ _ => Zh5 hy7) ?_ | refine PCall.of (Zh5 hy7) ?_
 refine zX5 pl8 ql8 el8 hi0 hk0 ?_
 refine zO ?_
 refine Zhh ⟨31, [], []⟩ (Zy (((O.upd j0_0 none).upd j0_1 none).upd i0 (some ⟨false, 51, 5, 1, [(vI y4.2.now.Kind), (sL (eI .u64) y4.2.now.Words), (sL Za y4.2.now.Kids), .row (n + 3) l8.length, nV]⟩)) n [none, none, none, some (oR 30 11 Ze l8), none, none]) (Z9 hU rfl rfl ?_) ?_
 ·exact Ybh pl8 ql8 el8 hi0 hk0
 refine Vq [4] hi0 hk0 ?_
 refine zW ?_
 obtain rfl := sI h
 refine X0 (k := 2) (i := i0) (q1 := ⟨false, 51, 5, 1, [(vI y4.2.now.Kind), (sL (eI .u64) y4.2.now.Words), (sL Za y4.2.now.Kids), .row n l8.length, .row (n + 1) ([] : List Zc).length]⟩) (L3 := [some (oR 30 11 Ze l8), some (oR 30 11 Ze ([] : List Zc)), none]) (E2 := (⟨31, [], [(4, (vI 0))]⟩ : Env)) (n3 := (n + 3)) (.inr rfl) hU rfl [(vI 0)] ?_ ?_
 ·refine Fit2.trans (E' := (⟨31, [], [(4, (vI 0))]⟩ : Env)) (O' := (Zy (((O.upd j0_0 none).upd j0_1 none).upd i0 (some ⟨false, 51, 5, 1, [(vI y4.2.now.Kind), (sL (eI .u64) y4.2.now.Words), (sL Za y4.2.now.Kids), .row (n + 3) l8.length, nV]⟩)) n [none, none, none, some (oR 30 11 Ze l8), none, none])) (n' := (n + 6)) (Fit2.of (Z9 hU rfl rfl ?_) (by omega)) ?_
  ·exact X3 hi0 hk0
  refine Fit2.trans (Kp (p := i0) (k := 4) (q := ⟨false, 51, 5, 1, [(vI y4.2.now.Kind), (sL (eI .u64) y4.2.now.Words), (sL Za y4.2.now.Kids), .row (n + 3) l8.length, nV]⟩) 30 11 (by simp only [Kg, Vb, List.getElem?_cons_zero, List.getElem?_cons_succ, Option.join_some, List.length_nil, Z3, Z7, hi0, hk0, hN0, hN]) rfl (by omega)) ?_
  simp only [Yq, Yc, Vr, Ko, List.set_cons_zero, List.set_cons_succ, List.cons_append, List.nil_append, List.length_cons, List.length_nil, Nat.zero_add, Nat.reduceAdd, Nat.reduceLT, Nat.add_assoc, Z6, Xb, hi0, hk0, hN0, hN]
  refine Y9 (k := 7) (k' := 3) hU [2, 2, 2, 0, 2, 2, 1] [3, 6, 0] rfl rfl rfl rfl ⟨rfl, rfl⟩ ?_
  exact X3 hi0 hk0
 simp only [push_cast, seval, ↓reduceIte, Zd, Tryz.results9, hi0, hk0, hN0, hN]
end Go.Proofs.YtgpaglmhkklneaaGreat
