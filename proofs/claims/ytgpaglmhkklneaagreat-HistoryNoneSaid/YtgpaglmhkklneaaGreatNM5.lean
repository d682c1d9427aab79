/- Part NM5 of this seat's mirrors: functions of the seat's program, and the plain functions that they are; each theorem bears its own conditions. -/
import Derived.Test.YtgpaglmhkklneaaGreatNE
import Derived.Test.YtgpaglmhkklneaaGreatNM3
namespace Go.Proofs.YtgpaglmhkklneaaGreat
open Go.RowKit
set_option linter.unusedVariables false
set_option linter.unusedSimpArgs false
set_option maxRecDepth 100000
set_option maxHeartbeats 4000000
attribute [local push_cast] vI vB nV sL oR Zg5 Zk Zer Xk Zl Zdp V6 Zwo Zwn Zxs Zxr Qg Xm Zsf Zm3 Zm2 onW Qw Zfz Zet Zsg Zsh Zqb Zqf Zqa Zqe Zt1 Ztx Zqd Zt0 Ztz Zty Zqc Ztv Znq evS wok J7 Op.operands Call.operands gop onK onP atK List.all_cons List.all_nil Bool.and_true Bool.true_and Bool.and_self Value.oneCell' List.take_zero List.take_succ_cons List.take_nil List.drop_zero List.drop_succ_cons List.drop_nil List.append_nil Nat.add_zero Nat.zero_add Gs Yz ev Ki Zaa Zwf Zwe Zwk Zwi Zwj Zwg Zwh Zwd Zsd Zuw Zz1 Zle Zgt Zkq Zf1 Zpo Zi6 Zk2 Zk7 Zmw Zms Zk5 Zmv Zmu Zmt Zk4 Zmq Zk3 Zk6 Zj8 Zmr Zma Zm4 Zeu Zl3 Zev Zm1 Zla Zwt bLo bHi bMx Zgu Zm0 Z1b Zk9 Zmi Ziw Zce Zvl Z1e Zl1 Zjn Z1k Zgs Z4m Zsn Zsr Zsm Zsq Zxc Zw8 Zw6 Zpr Zso Zxb Zxa Zw9 Zsp Zw0 Zw3 Zwz Zw2 Z1q Z1n Z1m Zw1 Z1o Z1p Zw7 Zlc gone Ztg Zno Znn pop TK.isAgg Zxl Zxp Zxk Zxo Zs9 Z1y Z1u Zxn Z1x Z1w Z1v Zxm Z1t G.under G.unders List.getD_cons_zero List.getD_cons_succ List.set_cons_zero List.set_cons_succ List.map_cons List.map_nil List.toList_toArray Array.toList_append Option.toArray_none Option.toArray_some Array.toList_map Option.map_some Option.map_none Option.bind_some Option.bind_none List.getElem?_cons_zero List.getElem?_cons_succ List.getElem?_nil List.nil_append List.cons_append List.replicate_succ List.replicate_zero List.length_cons List.length_nil and_true true_and and_false false_and Bool.true_eq_false Bool.false_eq_true forall_const false_implies implies_true IntKind.bits if_true if_false ite_true ite_false eq_self true_implies false_or or_false or_true true_or not_true_eq_false not_false_eq_true decide_true decide_false decide_eq_true_eq decide_eq_false_iff_not beq_iff_eq bne_iff_ne ne_eq Bool.not_eq_true Bool.not_eq_false beq_eq_false_iff_ne bne_eq_false_iff_eq beq_self_eq_true bne_self_eq_false Option.some.injEq exists_eq_left' exists_eq_left ge_iff_le gt_iff_lt decide_not Bool.not_true Bool.not_false imp_self Z1i cond_true cond_false Yap Yao Bool.not_not Bool.and_false Bool.false_and Bool.or_true Bool.true_or Bool.or_false Bool.false_or Kg Vb Vr Ko Yq Yc Option.join_some Nat.add_assoc Int.toNat_natCast eI eB eS eL Ym Zl2 Zlb Zws Zwq Zwr Z4x Z6k Zl5 Zln Zx1 Zxz Zx0 Z0h Zmx Zzv Zoz Zv6 Zjm Zv9 List.length_append G.agg.injEq G.row.injEq G.ref.injEq G.val.injEq G.sl.injEq G.tup.injEq Value.int.injEq Value.bool.injEq Value.string.injEq List.cons.injEq exists_and_left exists_const List.flatten_cons List.flatten_nil Int.le_refl Nat.le_refl Xb Z7 Z6 Bool.not_eq_true' Bool.not_eq_false' Zzk Zo5 Z21 Z25 Z20 Z24 Z8k Z8f List.size_toArray Zq7 Zti G.ren G.rens Zu4 Zjg Zx5 Zwa Zwb Ztw Z26 Zbr G.fn.injEq Zup Zuq Zzj Z8g Zuo Z23 Z8j Z8i Z8h Z22 Z1r Z57 Option.join_none Z3 U8 undef Zmk Arr.len Arr.put_eq Zl4 Zp3 Znk Zlm Zxy Zxw Zxx onB Z4w Zvk Ztq Zpj Zrl Zrm Zrn Zro Zrp Zrq Zpw Zp6 Zp4 Znm Zlo Zp5 Ztf Zte Ztd Ztc Z6j Z9e Z0g Zxt Zb8 Z0b Zps Zp7 Znl Z1z Zts Zk8 Zmh Zhm Zov Zrr Zrs Zrt Zru Zo6 Zo7 Zo8 Zo9 Zpa Zpb Zpc Zhu prT Zi7 Ya7 Z2q Z7p Z2r Ya8 Z2s Ya9 Z2t Yba Z2u Ybb Z2v Ybc Z2w Ybd Z2x Z68 Zyc Z69 Zyd Z7a Zye Z7b Zyf Z7c Zyg Z7d Zyh Z7e Zyi Z7f Zyj Z7g Zyk Z7h Zyl Z7i Zym Z7j Zrk Z0t Zhn Z7k Zyn Gt Zyo Z7l Zyp Z7m Zyq Z7n Zyr Z7o Zys Zlu Zyt Z7q Zyu Z7r Zyv Z7s Zyw Z7t Zyx Zkx Zyy Z7u Zyz Zvw Zy0 Z7v Zo4 Z7w Zy1 Z7x Zy2 Z7y Zy3 Zqw Zy4 Z7z Zy5 Zij Zy6 Z70 Zy7 Z71 Zy8 Z72 Zy9 Z73 Zza Z74 Zzb Z75 Zzc Z76 Zzd Z77 Zze Z17 Zt3 Z18 Zt4 Z19 Zt5 Z2a Zt6 Z2b Zt7 Z2c Zt8 Z2d Zt9 Z2e Zua Z2f Zub Z2g Zuc Z2h Zud Z2i Zue Z2j Zuf Z2k Zug Z2l Zuh Z2m Zui Z2n Zuj Z2o Zuk Z2p Zul Za Yh Zny Znw Zna Znh Zn0 Zlx Zls Zlq Znu Zgj Zgh Zf5 Zgb Zgl Zfx Zfs Zfq Zge Zg Ze Zi Zf Y3 Yk Xc Zdf Zdb Zch Zcs Zdk Zb2 Zbx Zbt Zc4 Zed Zea Zd1 Zd4 Zeg Zc8 Zc0 Zcx Zd7 Zim Zil Zh0 Zh7 Zin Zhg Zhc Zhb Zik Znx Znv Zm9 Zng Znz Zlw Zlr Zlp Znt Ye Zgi Zgg Zf4 Zga Zgk Zfw Zfr Zfp Zgd Yv Zdg Zdc Zci Zct Zdl Zb3 Zby Zbu Zc5 Yn Zb6 Zb5 Zbo Zbq Zb7 Za4 Za3 Za2 Zb0 Zal Zak Zab Zag Zam Gr Gq Gp Zai Yu Zde Zda Zcg Zcr Zdj Zb1 Zbw Zbs Zc3 Y1 Zec Zd9 Zd0 Zd3 Zef Zc7 Zcz Zcw Zd6 Yp Zdh Zdd Zcj Zcu Zdm Zb4 Zbz Zbv Zc6 Yx Zee Zeb Zd2 Zd5 Zeh Zc9 Zc1 Zcy Zd8 X5
theorem Zdw {a0 : Zn} {r : (Int × Int × Zn)} {O : Objs} {n : Nat} {i0 j0_0 j0_1 : Nat} (hi0 : i0 < n) (Q0 : j0_0 < n) (Vh : j0_1 < n) (Xv : i0 ≠ j0_0) (X2 : i0 ≠ j0_1) (X1 : j0_0 ≠ j0_1) (ho0 : O i0 = some ⟨false, 51, 5, 1, [(vI a0.now.Kind), (sL (eI .u64) a0.now.Words), (sL Za a0.now.Kids), .row j0_0 a0.done.length, .row j0_1 a0.back.length]⟩) (Ji : O j0_0 = some (oR 30 11 Ze a0.done)) (Un : O j0_1 = some (oR 30 11 Ze a0.back)) (h : Qx a0 = some r) : GTo Tryz.prog 6 [.ref i0 0] O n (.tup [(vI r.1), (vI r.2.1)]) (Zy (((O.upd j0_0 none).upd j0_1 none).upd i0 (some ⟨false, 51, 5, 1, [(vI r.2.2.now.Kind), (sL (eI .u64) r.2.2.now.Words), (sL Za r.2.2.now.Kids), .row n r.2.2.done.length, .row (n + 1) r.2.2.back.length]⟩)) n [some (oR 30 11 Ze r.2.2.done), some (oR 30 11 Ze r.2.2.back)]) (n + 2) := by
 unfold Qx at h
 refine Zez Zu Tryz.call6 Tryz.func6 rfl (Nat.le_of_ble_eq_true rfl) (by omega) fun hU => ?_
 have e0 := Xx (ba := n) (E := ⟨16, [], Zaa 0 [.ref i0 0]⟩) (O := (Zy O n [])) (n := n) (i := i0) (j := j0_0) (k := 3) (len := a0.done.length) (q := ⟨false, 51, 5, 1, [.val (.int .i64 a0.now.Kind), .sl a0.now.Words.length (fl (eI .u64) a0.now.Words), .sl a0.now.Kids.length (fl Za a0.now.Kids), .row j0_0 a0.done.length, .row j0_1 a0.back.length]⟩) (qj := ⟨true, 30, 11, a0.done.length, fl Ze a0.done⟩) (by rw [Z7 _ hi0]; first | exact ho0 | exact Z3 _ _ _) rfl (by rw [Z7 _ Q0]; exact Ji) Xv (by omega)
 simp only [Z6 _ _ Q0, Z6 _ _ hi0, Yq, Yc, Xb, Jy Xv, List.set_cons_zero, List.set_cons_succ, List.cons_append, List.nil_append, List.length_cons, List.length_nil, Nat.zero_add, Nat.reduceAdd, Nat.add_assoc] at e0
 refine Qi e0 ?_
 have e1 := Xx (ba := n) (E := ⟨16, [], Zaa 0 [.ref i0 0]⟩) (O := (Zy ((O.upd j0_0 none).upd i0 (some ⟨false, 51, 5, 1, [.val (.int .i64 a0.now.Kind), .sl a0.now.Words.length (fl (eI .u64) a0.now.Words), .sl a0.now.Kids.length (fl Za a0.now.Kids), .row n a0.done.length, .row j0_1 a0.back.length]⟩)) n [some ⟨true, 30, 11, a0.done.length, fl Ze a0.done⟩])) (n := (n + 1)) (i := i0) (j := j0_1) (k := 4) (len := a0.back.length) (q := ⟨false, 51, 5, 1, [.val (.int .i64 a0.now.Kind), .sl a0.now.Words.length (fl (eI .u64) a0.now.Words), .sl a0.now.Kids.length (fl Za a0.now.Kids), .row n a0.done.length, .row j0_1 a0.back.length]⟩) (qj := ⟨true, 30, 11, a0.back.length, fl Ze a0.back⟩) (by rw [Z7 _ hi0]; first | exact ho0 | exact Z3 _ _ _) rfl (by rw [Z7 _ Vh, Yo _ _ (Ne.symm X2), Yo _ _ (Ne.symm X1)]; exact Un) X2 (by omega)
 simp only [Z6 _ _ Vh, Z6 _ _ hi0, Yq, Yc, Xb, Jy X2, List.set_cons_zero, List.set_cons_succ, List.cons_append, List.nil_append, List.length_cons, List.length_nil, Nat.zero_add, Nat.reduceAdd, Nat.add_assoc] at e1
 refine Qi e1 ?_
 have hU := (Und.drop (Und.drop hU j0_0) j0_1)
 have hk0 : ∀ k, i0 < n + k := fun k => by omega
 have hN0 : ∀ o, Objs.upd ((O.upd j0_0 none).upd j0_1 none) i0 o n = none := fun o => Xt hU hi0 _ (Nat.le_refl _)
 have hN : ∀ o k, Objs.upd ((O.upd j0_0 none).upd j0_1 none) i0 o (n + k) = none := fun o k => Xt hU hi0 _ (Nat.le_add_right _ _)
 show W _ _ _ _ ⟨16, [], [(0, .ref i0 0)]⟩ (Zy (((O.upd j0_0 none).upd j0_1 none).upd i0 (some ⟨false, 51, 5, 1, [(vI a0.now.Kind), (sL (eI .u64) a0.now.Words), (sL Za a0.now.Kids), .row n a0.done.length, .row (n + 1) a0.back.length]⟩)) n [some (oR 30 11 Ze a0.done), some (oR 30 11 Ze a0.back)]) _
 refine Vq [0] hi0 hk0 ?_
 refine Zo ?_
 refine Vq [0, 5] hi0 hk0 ?_
 refine Zv (t := false) rfl (fun hc => by cases hc) (fun _ => ?_)
 refine Gu [0] [true, true] ?_
 refine Zn2 [2, 3] (Ze7 Zu (by kernel_rfl) [] (by kernel_rfl) ?_)
 refine zX2 hi0 hk0 ?_
 refine zW ?_
 obtain rfl := sI h
 refine X0 (k := 2) (i := i0) (q1 := ⟨false, 51, 5, 1, [(vI a0.now.Kind), (sL (eI .u64) a0.now.Words), (sL Za a0.now.Kids), .row n a0.done.length, .row (n + 1) a0.back.length]⟩) (L3 := [some (oR 30 11 Ze a0.done), some (oR 30 11 Ze a0.back), none]) (E2 := (⟨16, [], [(2, (vI (a0.done.length : Int))), (3, (vI (a0.back.length : Int)))]⟩ : Env)) (n3 := (n + 3)) (.inr rfl) hU rfl [(vI (a0.done.length : Int)), (vI (a0.back.length : Int))] ?_ ?_
 ·refine Fit2.trans (E' := (⟨16, [], [(2, (vI (a0.done.length : Int))), (3, (vI (a0.back.length : Int)))]⟩ : Env)) (O' := (Zy (((O.upd j0_0 none).upd j0_1 none).upd i0 (some ⟨false, 51, 5, 1, [(vI a0.now.Kind), (sL (eI .u64) a0.now.Words), (sL Za a0.now.Kids), .row n a0.done.length, .row (n + 1) a0.back.length]⟩)) n [some (oR 30 11 Ze a0.done), some (oR 30 11 Ze a0.back)])) (n' := (n + 2)) (Fit2.of (Z9 hU rfl rfl ?_) (by omega)) ?_
  ·exact X3 hi0 hk0
  refine Y9 (k := 2) (k' := 3) hU [0, 1] [0, 1, 0] rfl rfl rfl rfl ⟨rfl, rfl⟩ ?_
  exact X3 hi0 hk0
 simp only [push_cast, seval, ↓reduceIte, Zd, Tryz.results6, hi0, hk0, hN0, hN]
def Zex (Qa : (Zc → Option Zc)) : Prop := ∀ {a0 : Zc} {r : Zc} {O : Objs} {n : Nat}, Qa a0 = some r → GTo Tryz.prog 29 [.agg (Zk a0)] O n (.agg (Zk r)) O n
def Zcp (Xz : (Zj → Option Zj)) : Prop := ∀ {a0 : Zj} {r : Zj} {O : Objs} {n : Nat}, Xz a0 = some r → GTo Tryz.prog 46 [.agg (Xk a0)] O n (.agg (Xk r)) O n
theorem Zoo {Qa : (Zc → Option Zc)} {Xz : (Zj → Option Zj)} (Zaz : Zex Qa) (Zcq : Zcp Xz) {a0 : Zc} {r : Zc} {O : Objs} {n : Nat} (h : Za7 Qa Xz a0 = some r) : GTo Tryz.prog 29 [.agg (Zk a0)] O n (.agg (Zk r)) O n := by
 unfold Za7 at h
 refine fn0 Zu Tryz.call29 Tryz.func29 rfl fun hU hN0 hN => ?_
 show W _ _ _ _ ⟨76, [], [(0, .agg (Zk a0))]⟩ (Zy O n []) _
 refine zQ [1, 2] ?_
 refine Zo ?_
 refine zRd [1, 2, 3] [true, true, true] ?_
 refine Zo ?_
 refine zQd [1, 2, 3, 20, 21, 22] [1, 2, 3, 20, 21, 22] [true, true, true] ?_
 refine Qi (E' := (⟨76, [], [(1, .ref n 0), (2, .ref (n + 1) 0), (3, .ref (n + 2) 0), (20, (sL Zg a0.Words)), (21, (vI (a0.Words.length : Int))), (22, (vI 0))]⟩ : Env)) (O' := (Zy O n [some ⟨false, 30, 11, 1, (Zk a0)⟩, some ⟨false, 30, 11, 1, [(vI 0), (vI 0), nV, nV, (vI 0), nV, nV, nV, nV, (vI 0), nV]⟩, some ⟨false, 30, 11, 1, [(vI a0.Kind), (vI a0.New.Kind), (sL (eI .u64) a0.New.Words), (sL Za a0.New.Kids), (vI a0.Old.Kind), (sL (eI .u64) a0.Old.Words), (sL Za a0.Old.Kids), .row (n + 3) ([] : List Zs).length, nV, (vI a0.List_), nV]⟩, some (oR 48 4 Zg ([] : List Zs)), none])) (n' := (n + 5)) ?_ ?_
 ·refine Fit2.trans (E' := (⟨76, [], [(1, .ref n 0), (2, .ref (n + 1) 0), (3, .ref (n + 2) 0), (20, (sL Zg a0.Words)), (21, (vI (a0.Words.length : Int))), (22, (vI 0))]⟩ : Env)) (O' := (Zy O n [some ⟨false, 30, 11, 1, (Zk a0)⟩, some ⟨false, 30, 11, 1, [(vI 0), (vI 0), nV, nV, (vI 0), nV, nV, nV, nV, (vI 0), nV]⟩, some ⟨false, 30, 11, 1, [(vI a0.Kind), (vI a0.New.Kind), (sL (eI .u64) a0.New.Words), (sL Za a0.New.Kids), (vI a0.Old.Kind), (sL (eI .u64) a0.Old.Words), (sL Za a0.Old.Kids), nV, nV, (vI a0.List_), nV]⟩])) (n' := (n + 3)) (Fit2.of (Xi hU rfl rfl ?_) (by omega)) ?_
  ·exact zSe
  refine Fit2.trans (Kp (p := (n + 2)) (k := 7) (q := ⟨false, 30, 11, 1, [(vI a0.Kind), (vI a0.New.Kind), (sL (eI .u64) a0.New.Words), (sL Za a0.New.Kids), (vI a0.Old.Kind), (sL (eI .u64) a0.Old.Words), (sL Za a0.Old.Kids), nV, nV, (vI a0.List_), nV]⟩) 48 4 (by simp only [Kg, Vb, List.getElem?_cons_zero, List.getElem?_cons_succ, Option.join_some, List.length_nil, Z3]) rfl (by omega)) ?_
  simp only [Yq, Yc, Vr, Ko, List.set_cons_zero, List.set_cons_succ, List.cons_append, List.nil_append, List.length_cons, List.length_nil, Nat.zero_add, Nat.reduceAdd, Nat.reduceLT, Nat.add_assoc]
  refine K2 (k := 4) (k' := 5) hU [0, 1, 2, 3] [0, 1, 2, 3, 0] rfl rfl rfl rfl ⟨rfl, rfl⟩ ?_
  exact zSe
 obtain ⟨z5, hz5, h⟩ := bC h
 refine Qb (E' := ⟨76, [], [(1, .ref n 0), (2, .ref (n + 1) 0), (3, .ref (n + 2) 0)]⟩) (O' := (Zy O n [some ⟨false, 30, 11, 1, (Zk a0)⟩, some ⟨false, 30, 11, 1, [(vI 0), (vI 0), nV, nV, (vI 0), nV, nV, nV, nV, (vI 0), nV]⟩, some ⟨false, 30, 11, 1, [(vI a0.Kind), (vI a0.New.Kind), (sL (eI .u64) a0.New.Words), (sL Za a0.New.Kids), (vI a0.Old.Kind), (sL (eI .u64) a0.Old.Words), (sL Za a0.Old.Kids), .row (n + 3) z5.length, nV, (vI a0.List_), nV]⟩, some (oR 48 4 Zg z5), none])) (n0 := (n + 5)) ?_ ?_
 ·refine Q4 hz5 (fun s0_ => ⟨76, [], [(1, .ref n 0), (2, .ref (n + 1) 0), (3, .ref (n + 2) 0), (20, (sL Zg a0.Words)), (21, (vI (a0.Words.length : Int))), (22, (vI s0_.1))]⟩) (fun s0_ => (Zy O n [some ⟨false, 30, 11, 1, (Zk a0)⟩, some ⟨false, 30, 11, 1, [(vI 0), (vI 0), nV, nV, (vI 0), nV, nV, nV, nV, (vI 0), nV]⟩, some ⟨false, 30, 11, 1, [(vI a0.Kind), (vI a0.New.Kind), (sL (eI .u64) a0.New.Words), (sL Za a0.New.Kids), (vI a0.Old.Kind), (sL (eI .u64) a0.Old.Words), (sL Za a0.Old.Kids), .row (n + 3) s0_.2.length, nV, (vI a0.List_), nV]⟩, some (oR 48 4 Zg s0_.2), none])) (fun z5 => JX 0 n (⟨76, [], [(1, .ref n 0), (2, .ref (n + 1) 0), (3, .ref (n + 2) 0)]⟩ : Env) (Zy O n [some ⟨false, 30, 11, 1, (Zk a0)⟩, some ⟨false, 30, 11, 1, [(vI 0), (vI 0), nV, nV, (vI 0), nV, nV, nV, nV, (vI 0), nV]⟩, some ⟨false, 30, 11, 1, [(vI a0.Kind), (vI a0.New.Kind), (sL (eI .u64) a0.New.Words), (sL Za a0.New.Kids), (vI a0.Old.Kind), (sL (eI .u64) a0.Old.Words), (sL Za a0.Old.Kids), .row (n + 3) z5.length, nV, (vI a0.List_), nV]⟩, some (oR 48 4 Zg z5), none]) (n + 5)) ?_
  intro s0_ x0_ hs0_
  unfold Uh at hs0_
  try dsimp only
  refine zQ [1, 2, 3, 20, 21, 22, 23] ?_
  refine Zo ?_
  refine Zv (t := (decide (s0_.1 < (a0.Words.length : Int)))) rfl (fun c4 => ?_) (fun c4 => ?_)
  ·replace hs0_ := Zx c4 hs0_
   refine Gu [1, 2, 3, 20, 21, 22] [true, true, true, true, false] ?_
   refine Zo ?_
   refine Xh ?_
   refine Zo ?_
   obtain ⟨x2, hx2, ax2, bx2, cx2, hs0_⟩ := bE (f := Zg) Zvw (fun _ => rfl) (by decide) hs0_
   refine Ze4 [] ax2 bx2 cx2 ?_
   refine zD [1, 2, 3, 5, 20, 21, 22] [true, true, true, true, false, true] ?_
   obtain ⟨l3, pl3, ql3, el3, hs0_⟩ := bA (k := 1) rfl hs0_
   refine Zmp [] pl3 ql3 el3 ?_
   refine Zhh ⟨76, [], [(1, .ref n 0), (2, .ref (n + 1) 0), (3, .ref (n + 2) 0), (20, (sL Zg a0.Words)), (21, (vI (a0.Words.length : Int))), (22, (vI s0_.1))]⟩ (Zy O n [some ⟨false, 30, 11, 1, (Zk a0)⟩, some ⟨false, 30, 11, 1, [(vI 0), (vI 0), nV, nV, (vI 0), nV, nV, nV, nV, (vI 0), nV]⟩, some ⟨false, 30, 11, 1, [(vI a0.Kind), (vI a0.New.Kind), (sL (eI .u64) a0.New.Words), (sL Za a0.New.Kids), (vI a0.Old.Kind), (sL (eI .u64) a0.Old.Words), (sL Za a0.Old.Kids), .row (n + 3) l3.length, nV, (vI a0.List_), nV]⟩, some (oR 48 4 Zg l3), none, none, none]) (Xi hU rfl rfl ?_) ?_
   ·exact Zzm pl3 ql3 el3
   refine zR ?_
   exact zEn hs0_
  replace hs0_ := Zw c4 hs0_
  exact zEx hs0_
 try simp only [Qg, Xm, ↓reduceIte, Nat.reduceEqDiff]
 refine zDs [1, 2, 3] [true, true, true, true, false] ?_
 refine zQd [1, 2, 3, 42, 43, 44] [1, 2, 3, 42, 43, 44] [true, true, true, true, false] ?_
 refine Qi (E' := (⟨76, [], [(1, .ref n 0), (2, .ref (n + 1) 0), (3, .ref (n + 2) 0), (42, (sL Zi a0.Kids)), (43, (vI (a0.Kids.length : Int))), (44, (vI 0))]⟩ : Env)) (O' := (Zy O n [some ⟨false, 30, 11, 1, (Zk a0)⟩, some ⟨false, 30, 11, 1, [(vI 0), (vI 0), nV, nV, (vI 0), nV, nV, nV, nV, (vI 0), nV]⟩, some ⟨false, 30, 11, 1, [(vI a0.Kind), (vI a0.New.Kind), (sL (eI .u64) a0.New.Words), (sL Za a0.New.Kids), (vI a0.Old.Kind), (sL (eI .u64) a0.Old.Words), (sL Za a0.Old.Kids), .row (n + 3) z5.length, .row (n + 5) ([] : List Zp).length, (vI a0.List_), nV]⟩, some (oR 48 4 Zg z5), none, some (oR 59 12 Zi ([] : List Zp)), none])) (n' := (n + 7)) ?_ ?_
 ·refine Fit2.trans (E' := (⟨76, [], [(1, .ref n 0), (2, .ref (n + 1) 0), (3, .ref (n + 2) 0), (42, (sL Zi a0.Kids)), (43, (vI (a0.Kids.length : Int))), (44, (vI 0))]⟩ : Env)) (O' := (Zy O n [some ⟨false, 30, 11, 1, (Zk a0)⟩, some ⟨false, 30, 11, 1, [(vI 0), (vI 0), nV, nV, (vI 0), nV, nV, nV, nV, (vI 0), nV]⟩, some ⟨false, 30, 11, 1, [(vI a0.Kind), (vI a0.New.Kind), (sL (eI .u64) a0.New.Words), (sL Za a0.New.Kids), (vI a0.Old.Kind), (sL (eI .u64) a0.Old.Words), (sL Za a0.Old.Kids), .row (n + 3) z5.length, nV, (vI a0.List_), nV]⟩, some (oR 48 4 Zg z5), none])) (n' := (n + 5)) (Fit2.of (Xi hU rfl rfl ?_) (by omega)) ?_
  ·exact zSe
  refine Fit2.trans (Kp (p := (n + 2)) (k := 8) (q := ⟨false, 30, 11, 1, [(vI a0.Kind), (vI a0.New.Kind), (sL (eI .u64) a0.New.Words), (sL Za a0.New.Kids), (vI a0.Old.Kind), (sL (eI .u64) a0.Old.Words), (sL Za a0.Old.Kids), .row (n + 3) z5.length, nV, (vI a0.List_), nV]⟩) 59 12 (by simp only [Kg, Vb, List.getElem?_cons_zero, List.getElem?_cons_succ, Option.join_some, List.length_nil, Z3]) rfl (by omega)) ?_
  simp only [Yq, Yc, Vr, Ko, List.set_cons_zero, List.set_cons_succ, List.cons_append, List.nil_append, List.length_cons, List.length_nil, Nat.zero_add, Nat.reduceAdd, Nat.reduceLT, Nat.add_assoc]
  refine K2 (k := 6) (k' := 7) hU [0, 1, 2, 3, 6, 5] [0, 1, 2, 3, 0, 5, 0] rfl rfl rfl rfl ⟨rfl, rfl⟩ ?_
  exact zSe
 obtain ⟨z11, hz11, h⟩ := bC h
 refine Qb (E' := ⟨76, [], [(1, .ref n 0), (2, .ref (n + 1) 0), (3, .ref (n + 2) 0)]⟩) (O' := (Zy O n [some ⟨false, 30, 11, 1, (Zk a0)⟩, some ⟨false, 30, 11, 1, [(vI 0), (vI 0), nV, nV, (vI 0), nV, nV, nV, nV, (vI 0), nV]⟩, some ⟨false, 30, 11, 1, [(vI a0.Kind), (vI a0.New.Kind), (sL (eI .u64) a0.New.Words), (sL Za a0.New.Kids), (vI a0.Old.Kind), (sL (eI .u64) a0.Old.Words), (sL Za a0.Old.Kids), .row (n + 3) z5.length, .row (n + 5) z11.length, (vI a0.List_), nV]⟩, some (oR 48 4 Zg z5), none, some (oR 59 12 Zi z11), none])) (n0 := (n + 7)) ?_ ?_
 ·refine Q4 hz11 (fun s1_ => ⟨76, [], [(1, .ref n 0), (2, .ref (n + 1) 0), (3, .ref (n + 2) 0), (42, (sL Zi a0.Kids)), (43, (vI (a0.Kids.length : Int))), (44, (vI s1_.1))]⟩) (fun s1_ => (Zy O n [some ⟨false, 30, 11, 1, (Zk a0)⟩, some ⟨false, 30, 11, 1, [(vI 0), (vI 0), nV, nV, (vI 0), nV, nV, nV, nV, (vI 0), nV]⟩, some ⟨false, 30, 11, 1, [(vI a0.Kind), (vI a0.New.Kind), (sL (eI .u64) a0.New.Words), (sL Za a0.New.Kids), (vI a0.Old.Kind), (sL (eI .u64) a0.Old.Words), (sL Za a0.Old.Kids), .row (n + 3) z5.length, .row (n + 5) s1_.2.length, (vI a0.List_), nV]⟩, some (oR 48 4 Zg z5), none, some (oR 59 12 Zi s1_.2), none])) (fun z11 => JX 2 n (⟨76, [], [(1, .ref n 0), (2, .ref (n + 1) 0), (3, .ref (n + 2) 0)]⟩ : Env) (Zy O n [some ⟨false, 30, 11, 1, (Zk a0)⟩, some ⟨false, 30, 11, 1, [(vI 0), (vI 0), nV, nV, (vI 0), nV, nV, nV, nV, (vI 0), nV]⟩, some ⟨false, 30, 11, 1, [(vI a0.Kind), (vI a0.New.Kind), (sL (eI .u64) a0.New.Words), (sL Za a0.New.Kids), (vI a0.Old.Kind), (sL (eI .u64) a0.Old.Words), (sL Za a0.Old.Kids), .row (n + 3) z5.length, .row (n + 5) z11.length, (vI a0.List_), nV]⟩, some (oR 48 4 Zg z5), none, some (oR 59 12 Zi z11), none]) (n + 7)) ?_
  intro s1_ x1_ hs1_
  unfold Ui at hs1_
  try dsimp only
  refine zQ [1, 2, 3, 42, 43, 44, 45] ?_
  refine Zo ?_
  refine Zv (t := (decide (s1_.1 < (a0.Kids.length : Int)))) rfl (fun c10 => ?_) (fun c10 => ?_)
  ·replace hs1_ := Zx c10 hs1_
   refine Gu [1, 2, 3, 42, 43, 44] [true, true, true, true, false, true, false] ?_
   refine Zo ?_
   refine Xh ?_
   refine Zo ?_
   obtain ⟨x7, hx7, ax7, bx7, cx7, hs1_⟩ := bE (f := Zi) Zqw (fun _ => rfl) (by decide) hs1_
   refine Ze4 [] ax7 bx7 cx7 ?_
   refine zD [1, 2, 3, 7, 42, 43, 44] [true, true, true, true, false, true, false, true] ?_
   obtain ⟨y8, hy8, hs1_⟩ := bC hs1_
   obtain ⟨l9, pl9, ql9, el9, hs1_⟩ := bA (k := 1) rfl hs1_
   refine Vs Zu (by kernel_rfl) [.low, .low, .plain, .plain, .plain, .plain, .plain, .plain, .pass, .bar, .plain, .bar] (fun i => i < (n + 8)) [0, 1, 2, 3, 4, 5, 6, 7, 8, 9, 10, 11] [.low, .low, .plain, .plain, .plain, .plain, .plain, .plain, .pass, .bar, .plain, .bar] [] (by kernel_rfl) rfl ?_
   refine zX3 pl9 ql9 el9 ?_
   refine zO ?_
   first | refine PCallA.of (fun _ _ => Zaz hy8) ?_ | refine PCall.of (Zaz hy8) ?_
   refine zX3 pl9 ql9 el9 ?_
   refine zO ?_
   refine Zhh ⟨76, [], [(1, .ref n 0), (2, .ref (n + 1) 0), (3, .ref (n + 2) 0), (42, (sL Zi a0.Kids)), (43, (vI (a0.Kids.length : Int))), (44, (vI s1_.1))]⟩ (Zy O n [some ⟨false, 30, 11, 1, (Zk a0)⟩, some ⟨false, 30, 11, 1, [(vI 0), (vI 0), nV, nV, (vI 0), nV, nV, nV, nV, (vI 0), nV]⟩, some ⟨false, 30, 11, 1, [(vI a0.Kind), (vI a0.New.Kind), (sL (eI .u64) a0.New.Words), (sL Za a0.New.Kids), (vI a0.Old.Kind), (sL (eI .u64) a0.Old.Words), (sL Za a0.Old.Kids), .row (n + 3) z5.length, .row (n + 5) l9.length, (vI a0.List_), nV]⟩, some (oR 48 4 Zg z5), none, some (oR 59 12 Zi l9), none, none, none]) (Xi hU rfl rfl ?_) ?_
   ·exact Zzm pl9 ql9 el9
   refine zR ?_
   exact zEn hs1_
  replace hs1_ := Zw c10 hs1_
  exact zEx hs1_
 try simp only [Qg, Xm, ↓reduceIte, Nat.reduceEqDiff]
 refine zDs [1, 2, 3] [true, true, true, true, false, true, false] ?_
 refine zQd [2, 3, 61, 62, 63] [2, 3, 61, 62, 63] [false, true, true, true, false, true, false] ?_
 refine Qi (E' := (⟨76, [], [(2, .ref (n + 1) 0), (3, .ref (n + 2) 0), (61, (sL Zf a0.Ops)), (62, (vI (a0.Ops.length : Int))), (63, (vI 0))]⟩ : Env)) (O' := (Zy O n [none, some ⟨false, 30, 11, 1, [(vI 0), (vI 0), nV, nV, (vI 0), nV, nV, nV, nV, (vI 0), nV]⟩, some ⟨false, 30, 11, 1, [(vI a0.Kind), (vI a0.New.Kind), (sL (eI .u64) a0.New.Words), (sL Za a0.New.Kids), (vI a0.Old.Kind), (sL (eI .u64) a0.Old.Words), (sL Za a0.Old.Kids), .row (n + 3) z5.length, .row (n + 5) z11.length, (vI a0.List_), .row (n + 7) ([] : List Zj).length]⟩, some (oR 48 4 Zg z5), none, some (oR 59 12 Zi z11), none, some (oR 61 14 Zf ([] : List Zj)), none])) (n' := (n + 9)) ?_ ?_
 ·refine Fit2.trans (E' := (⟨76, [], [(2, .ref (n + 1) 0), (3, .ref (n + 2) 0), (61, (sL Zf a0.Ops)), (62, (vI (a0.Ops.length : Int))), (63, (vI 0))]⟩ : Env)) (O' := (Zy O n [none, some ⟨false, 30, 11, 1, [(vI 0), (vI 0), nV, nV, (vI 0), nV, nV, nV, nV, (vI 0), nV]⟩, some ⟨false, 30, 11, 1, [(vI a0.Kind), (vI a0.New.Kind), (sL (eI .u64) a0.New.Words), (sL Za a0.New.Kids), (vI a0.Old.Kind), (sL (eI .u64) a0.Old.Words), (sL Za a0.Old.Kids), .row (n + 3) z5.length, .row (n + 5) z11.length, (vI a0.List_), nV]⟩, some (oR 48 4 Zg z5), none, some (oR 59 12 Zi z11), none])) (n' := (n + 7)) (Fit2.of (Xi hU rfl rfl ?_) (by omega)) ?_
  ·exact zSe
  refine Fit2.trans (Kp (p := (n + 2)) (k := 10) (q := ⟨false, 30, 11, 1, [(vI a0.Kind), (vI a0.New.Kind), (sL (eI .u64) a0.New.Words), (sL Za a0.New.Kids), (vI a0.Old.Kind), (sL (eI .u64) a0.Old.Words), (sL Za a0.Old.Kids), .row (n + 3) z5.length, .row (n + 5) z11.length, (vI a0.List_), nV]⟩) 61 14 (by simp only [Kg, Vb, List.getElem?_cons_zero, List.getElem?_cons_succ, Option.join_some, List.length_nil, Z3]) rfl (by omega)) ?_
  simp only [Yq, Yc, Vr, Ko, List.set_cons_zero, List.set_cons_succ, List.cons_append, List.nil_append, List.length_cons, List.length_nil, Nat.zero_add, Nat.reduceAdd, Nat.reduceLT, Nat.add_assoc]
  refine K2 (k := 8) (k' := 9) hU [8, 1, 2, 3, 8, 5, 8, 7] [0, 1, 2, 3, 0, 5, 0, 7, 0] rfl rfl rfl rfl ⟨rfl, rfl⟩ ?_
  exact zSe
 obtain ⟨z17, hz17, h⟩ := bC h
 refine Qb (E' := ⟨76, [], [(2, .ref (n + 1) 0), (3, .ref (n + 2) 0)]⟩) (O' := (Zy O n [none, some ⟨false, 30, 11, 1, [(vI 0), (vI 0), nV, nV, (vI 0), nV, nV, nV, nV, (vI 0), nV]⟩, some ⟨false, 30, 11, 1, [(vI a0.Kind), (vI a0.New.Kind), (sL (eI .u64) a0.New.Words), (sL Za a0.New.Kids), (vI a0.Old.Kind), (sL (eI .u64) a0.Old.Words), (sL Za a0.Old.Kids), .row (n + 3) z5.length, .row (n + 5) z11.length, (vI a0.List_), .row (n + 7) z17.length]⟩, some (oR 48 4 Zg z5), none, some (oR 59 12 Zi z11), none, some (oR 61 14 Zf z17), none])) (n0 := (n + 9)) ?_ ?_
 ·refine Q4 hz17 (fun s2_ => ⟨76, [], [(2, .ref (n + 1) 0), (3, .ref (n + 2) 0), (61, (sL Zf a0.Ops)), (62, (vI (a0.Ops.length : Int))), (63, (vI s2_.1))]⟩) (fun s2_ => (Zy O n [none, some ⟨false, 30, 11, 1, [(vI 0), (vI 0), nV, nV, (vI 0), nV, nV, nV, nV, (vI 0), nV]⟩, some ⟨false, 30, 11, 1, [(vI a0.Kind), (vI a0.New.Kind), (sL (eI .u64) a0.New.Words), (sL Za a0.New.Kids), (vI a0.Old.Kind), (sL (eI .u64) a0.Old.Words), (sL Za a0.Old.Kids), .row (n + 3) z5.length, .row (n + 5) z11.length, (vI a0.List_), .row (n + 7) s2_.2.length]⟩, some (oR 48 4 Zg z5), none, some (oR 59 12 Zi z11), none, some (oR 61 14 Zf s2_.2), none])) (fun z17 => JX 4 n (⟨76, [], [(2, .ref (n + 1) 0), (3, .ref (n + 2) 0)]⟩ : Env) (Zy O n [none, some ⟨false, 30, 11, 1, [(vI 0), (vI 0), nV, nV, (vI 0), nV, nV, nV, nV, (vI 0), nV]⟩, some ⟨false, 30, 11, 1, [(vI a0.Kind), (vI a0.New.Kind), (sL (eI .u64) a0.New.Words), (sL Za a0.New.Kids), (vI a0.Old.Kind), (sL (eI .u64) a0.Old.Words), (sL Za a0.Old.Kids), .row (n + 3) z5.length, .row (n + 5) z11.length, (vI a0.List_), .row (n + 7) z17.length]⟩, some (oR 48 4 Zg z5), none, some (oR 59 12 Zi z11), none, some (oR 61 14 Zf z17), none]) (n + 9)) ?_
  intro s2_ x2_ hs2_
  unfold Uj at hs2_
  try dsimp only
  refine zQ [2, 3, 61, 62, 63, 64] ?_
  refine Zo ?_
  refine Zv (t := (decide (s2_.1 < (a0.Ops.length : Int)))) rfl (fun c16 => ?_) (fun c16 => ?_)
  ·replace hs2_ := Zx c16 hs2_
   refine Gu [2, 3, 61, 62, 63] [false, true, true, true, false, true, false, true, false] ?_
   refine Zo ?_
   refine Xh ?_
   refine Zo ?_
   obtain ⟨x13, hx13, ax13, bx13, cx13, hs2_⟩ := bE (f := Zf) Zij (fun _ => rfl) (by decide) hs2_
   refine Ze4 [] ax13 bx13 cx13 ?_
   refine zD [2, 3, 9, 61, 62, 63] [false, true, true, true, false, true, false, true, false, true] ?_
   obtain ⟨y14, hy14, hs2_⟩ := bC hs2_
   obtain ⟨l15, pl15, ql15, el15, hs2_⟩ := bA (k := 1) rfl hs2_
   refine Vs Zu (by kernel_rfl) [.low, .low, .plain, .plain, .pass, .bar, .plain, .bar] (fun i => i < (n + 10)) [0, 1, 2, 3, 4, 5, 6, 7] [.low, .low, .plain, .plain, .pass, .bar, .plain, .bar] [] (by kernel_rfl) rfl ?_
   refine zX3 pl15 ql15 el15 ?_
   refine zO ?_
   first | refine PCallA.of (fun _ _ => Zcq hy14) ?_ | refine PCall.of (Zcq hy14) ?_
   refine zX3 pl15 ql15 el15 ?_
   refine zO ?_
   refine Zhh ⟨76, [], [(2, .ref (n + 1) 0), (3, .ref (n + 2) 0), (61, (sL Zf a0.Ops)), (62, (vI (a0.Ops.length : Int))), (63, (vI s2_.1))]⟩ (Zy O n [none, some ⟨false, 30, 11, 1, [(vI 0), (vI 0), nV, nV, (vI 0), nV, nV, nV, nV, (vI 0), nV]⟩, some ⟨false, 30, 11, 1, [(vI a0.Kind), (vI a0.New.Kind), (sL (eI .u64) a0.New.Words), (sL Za a0.New.Kids), (vI a0.Old.Kind), (sL (eI .u64) a0.Old.Words), (sL Za a0.Old.Kids), .row (n + 3) z5.length, .row (n + 5) z11.length, (vI a0.List_), .row (n + 7) l15.length]⟩, some (oR 48 4 Zg z5), none, some (oR 59 12 Zi z11), none, some (oR 61 14 Zf l15), none, none, none]) (Xi hU rfl rfl ?_) ?_
   ·exact Zzm pl15 ql15 el15
   refine zR ?_
   exact zEn hs2_
  replace hs2_ := Zw c16 hs2_
  exact zEx hs2_
 try simp only [Qg, Xm, ↓reduceIte, Nat.reduceEqDiff]
 refine zDs [2, 3] [false, true, true, true, false, true, false, true, false] ?_
 refine zRd [2] [false, true, false, true, false, true, false, true, false] ?_
 refine zW ?_
 obtain rfl := sI h
 refine Zz (.inr rfl) hU [.agg [(vI a0.Kind), (vI a0.New.Kind), (sL (eI .u64) a0.New.Words), (sL Za a0.New.Kids), (vI a0.Old.Kind), (sL (eI .u64) a0.Old.Words), (sL Za a0.Old.Kids), .row (n + 3) z5.length, .row (n + 5) z11.length, (vI a0.List_), .row (n + 7) z17.length]] (by omega) ?_
 simp only [push_cast, seval, ↓reduceIte, Zd, Tryz.results29, hN0, hN]
theorem Zmf {Qa : (Zc → Option Zc)} {Xz : (Zj → Option Zj)} (Zaz : Zex Qa) (Zcq : Zcp Xz) {a0 : Zj} {r : Zj} {O : Objs} {n : Nat} (h : U7 Qa Xz a0 = some r) : GTo Tryz.prog 46 [.agg (Xk a0)] O n (.agg (Xk r)) O n := by
 unfold U7 at h
 refine fn0 Zu Tryz.call46 Tryz.func46 rfl fun hU hN0 hN => ?_
 show W _ _ _ _ ⟨18, [], [(0, .agg (Xk a0))]⟩ (Zy O n []) _
 refine zQ [1, 2] ?_
 obtain ⟨z1, hz1, h⟩ := bC h
 refine X4 (E' := ⟨18, [], [(1, .ref n 0), (2, .ref (n + 1) 0)]⟩) (O' := (Zy O n [some ⟨false, 61, 14, 1, [(vI z1.1), (vI a0.N), (sL Za a0.L), (vI z1.2.1), (vI z1.2.2.1), (sL (eI .u64) z1.2.2.2.1), (sL Za z1.2.2.2.2.1), (vI z1.2.2.2.2.2.1), (sL (eI .u64) z1.2.2.2.2.2.2.1), (sL Za z1.2.2.2.2.2.2.2.1), (sL Zg z1.2.2.2.2.2.2.2.2.1), (sL Zi z1.2.2.2.2.2.2.2.2.2.1), (vI z1.2.2.2.2.2.2.2.2.2.2.1), (sL Zf z1.2.2.2.2.2.2.2.2.2.2.2)]⟩, some ⟨false, 61, 14, 1, [(vI 0), (vI 0), nV, (vI 0), (vI 0), nV, nV, (vI 0), nV, nV, nV, nV, (vI 0), nV]⟩])) (n0 := (n + 2)) ?_ ?_
 ·refine zQ [1, 2, 4] ?_
  refine Xh ?_
  refine zQ [1, 2, 4, 5] ?_
  refine Zv (t := (a0.Kind == 1)) rfl (fun c5 => ?_) (fun c5 => ?_)
  ·replace hz1 := Zx c5 hz1
   refine zR ?_
   exact zEn hz1
  replace hz1 := Zw c5 hz1
  refine zQ [1, 2, 4, 8] ?_
  refine Zv (t := (a0.Kind == 2)) rfl (fun c4 => ?_) (fun c4 => ?_)
  ·replace hz1 := Zx c4 hz1
   refine zR ?_
   exact zEn hz1
  replace hz1 := Zw c4 hz1
  refine zQ [1, 2, 11] ?_
  refine Zv (t := (a0.Kind == 3)) rfl (fun c3 => ?_) (fun c3 => ?_)
  ·replace hz1 := Zx c3 hz1
   obtain ⟨y2, hy2, hz1⟩ := bC hz1
   refine zC (Zaz hy2) ?_
   exact zEn hz1
  replace hz1 := Zw c3 hz1
  refine zK ?_
  exact zEn hz1
 refine Zo ?_
 refine zRd [2] [false, true] ?_
 refine zW ?_
 obtain rfl := sI h
 refine Zz (.inr rfl) hU [.agg [(vI z1.1), (vI a0.N), (sL Za a0.L), (vI z1.2.1), (vI z1.2.2.1), (sL (eI .u64) z1.2.2.2.1), (sL Za z1.2.2.2.2.1), (vI z1.2.2.2.2.2.1), (sL (eI .u64) z1.2.2.2.2.2.2.1), (sL Za z1.2.2.2.2.2.2.2.1), (sL Zg z1.2.2.2.2.2.2.2.2.1), (sL Zi z1.2.2.2.2.2.2.2.2.2.1), (vI z1.2.2.2.2.2.2.2.2.2.2.1), (sL Zf z1.2.2.2.2.2.2.2.2.2.2.2)]] (by omega) ?_
 simp only [push_cast, seval, ↓reduceIte, Zd, Tryz.results46, hN0, hN]
theorem Zmb : ∀ k, (Zex ((Xn k).1)) ∧ (Zcp ((Xn k).2)) := fun k => by
 induction k with
 | zero => exact ⟨@fun a0 r O n h => (nomatch (show (none : Option _) = some _ from h)), @fun a0 r O n h => (nomatch (show (none : Option _) = some _ from h))⟩
 | succ k ih => exact ⟨@fun a0 r O n h => Zoo (ih.1) (ih.2)  h, @fun a0 r O n h => Zmf (ih.1) (ih.2)  h⟩
theorem Zpy {a0 : Zc} {r : Zc} {O : Objs} {n : Nat} (h : Zg7 a0 = some r) : GTo Tryz.prog 29 [.agg (Zk a0)] O n (.agg (Zk r)) O n := by
 obtain ⟨k, hk⟩ := Zel h
 exact (Zmb k).1  hk
theorem Zsy {a0 : Zc} {r : Zc} {O : Objs} {n : Nat} (h : Zeo a0 = some r) : GTo Tryz.prog 19 [.agg (Zk a0)] O n (.agg (Zk r)) O n := by
 unfold Zeo at h
 refine fn0 Zu Tryz.call19 Tryz.func19 rfl fun hU hN0 hN => ?_
 show W _ _ _ _ ⟨6, [], [(0, .agg (Zk a0))]⟩ (Zy O n []) _
 refine zQ [1, 2] ?_
 refine Zo ?_
 obtain ⟨y3, hy3, h⟩ := bC h
 obtain ⟨y4, hy4, h⟩ := bC h
 refine zC (Zpy hy3) ?_
 refine zTs (Zh5 hy4) ?_
 refine zD [2] [false, true] ?_
 refine zW ?_
 obtain rfl := sI h
 refine Zz (.inr rfl) hU [.agg (Zk y4)] (by omega) ?_
 simp only [push_cast, seval, ↓reduceIte, Zd, Tryz.results19, hN0, hN]
theorem Zjx {a0 : Zn} {r : (Bool × Zn)} {O : Objs} {n : Nat} {i0 j0_0 j0_1 : Nat} (hi0 : i0 < n) (Q0 : j0_0 < n) (Vh : j0_1 < n) (Xv : i0 ≠ j0_0) (X2 : i0 ≠ j0_1) (X1 : j0_0 ≠ j0_1) (ho0 : O i0 = some ⟨false, 51, 5, 1, [(vI a0.now.Kind), (sL (eI .u64) a0.now.Words), (sL Za a0.now.Kids), .row j0_0 a0.done.length, .row j0_1 a0.back.length]⟩) (Ji : O j0_0 = some (oR 30 11 Ze a0.done)) (Un : O j0_1 = some (oR 30 11 Ze a0.back)) (h : Ks a0 = some r) : GTo Tryz.prog 11 [.ref i0 0] O n ((vB r.1)) (Zy (((O.upd j0_0 none).upd j0_1 none).upd i0 (some ⟨false, 51, 5, 1, [(vI r.2.now.Kind), (sL (eI .u64) r.2.now.Words), (sL Za r.2.now.Kids), .row n r.2.done.length, .row (n + 1) r.2.back.length]⟩)) n [some (oR 30 11 Ze r.2.done), some (oR 30 11 Ze r.2.back)]) (n + 2) := by
 unfold Ks at h
 refine Zez Zu Tryz.call11 Tryz.func11 rfl (Nat.le_of_ble_eq_true rfl) (by omega) fun hU => ?_
 have e0 := Xx (ba := n) (E := ⟨53, [], Zaa 0 [.ref i0 0]⟩) (O := (Zy O n [])) (n := n) (i := i0) (j := j0_0) (k := 3) (len := a0.done.length) (q := ⟨false, 51, 5, 1, [.val (.int .i64 a0.now.Kind), .sl a0.now.Words.length (fl (eI .u64) a0.now.Words), .sl a0.now.Kids.length (fl Za a0.now.Kids), .row j0_0 a0.done.length, .row j0_1 a0.back.length]⟩) (qj := ⟨true, 30, 11, a0.done.length, fl Ze a0.done⟩) (by rw [Z7 _ hi0]; first | exact ho0 | exact Z3 _ _ _) rfl (by rw [Z7 _ Q0]; exact Ji) Xv (by omega)
 simp only [Z6 _ _ Q0, Z6 _ _ hi0, Yq, Yc, Xb, Jy Xv, List.set_cons_zero, List.set_cons_succ, List.cons_append, List.nil_append, List.length_cons, List.length_nil, Nat.zero_add, Nat.reduceAdd, Nat.add_assoc] at e0
 refine Qi e0 ?_
 have e1 := Xx (ba := n) (E := ⟨53, [], Zaa 0 [.ref i0 0]⟩) (O := (Zy ((O.upd j0_0 none).upd i0 (some ⟨false, 51, 5, 1, [.val (.int .i64 a0.now.Kind), .sl a0.now.Words.length (fl (eI .u64) a0.now.Words), .sl a0.now.Kids.length (fl Za a0.now.Kids), .row n a0.done.length, .row j0_1 a0.back.length]⟩)) n [some ⟨true, 30, 11, a0.done.length, fl Ze a0.done⟩])) (n := (n + 1)) (i := i0) (j := j0_1) (k := 4) (len := a0.back.length) (q := ⟨false, 51, 5, 1, [.val (.int .i64 a0.now.Kind), .sl a0.now.Words.length (fl (eI .u64) a0.now.Words), .sl a0.now.Kids.length (fl Za a0.now.Kids), .row n a0.done.length, .row j0_1 a0.back.length]⟩) (qj := ⟨true, 30, 11, a0.back.length, fl Ze a0.back⟩) (by rw [Z7 _ hi0]; first | exact ho0 | exact Z3 _ _ _) rfl (by rw [Z7 _ Vh, Yo _ _ (Ne.symm X2), Yo _ _ (Ne.symm X1)]; exact Un) X2 (by omega)
 simp only [Z6 _ _ Vh, Z6 _ _ hi0, Yq, Yc, Xb, Jy X2, List.set_cons_zero, List.set_cons_succ, List.cons_append, List.nil_append, List.length_cons, List.length_nil, Nat.zero_add, Nat.reduceAdd, Nat.add_assoc] at e1
 refine Qi e1 ?_
 have hU := (Und.drop (Und.drop hU j0_0) j0_1)
 have hk0 : ∀ k, i0 < n + k := fun k => by omega
 have hN0 : ∀ o, Objs.upd ((O.upd j0_0 none).upd j0_1 none) i0 o n = none := fun o => Xt hU hi0 _ (Nat.le_refl _)
 have hN : ∀ o k, Objs.upd ((O.upd j0_0 none).upd j0_1 none) i0 o (n + k) = none := fun o k => Xt hU hi0 _ (Nat.le_add_right _ _)
 show W _ _ _ _ ⟨53, [], [(0, .ref i0 0)]⟩ (Zy (((O.upd j0_0 none).upd j0_1 none).upd i0 (some ⟨false, 51, 5, 1, [(vI a0.now.Kind), (sL (eI .u64) a0.now.Words), (sL Za a0.now.Kids), .row n a0.done.length, .row (n + 1) a0.back.length]⟩)) n [some (oR 30 11 Ze a0.done), some (oR 30 11 Ze a0.back)]) _
 refine Vq [0] hi0 hk0 ?_
 refine Zo ?_
 obtain ⟨y2, hy2, h⟩ := bC h
 refine Vp [] hi0 hk0 ?_
 refine (Zdw (i0 := i0) (j0_0 := n) (j0_1 := (n + 1)) (by omega) (by omega) (by omega) (by omega) (by omega) (by omega) (by simp only [push_cast, seval, ↓reduceIte, Zd, Ym, hi0, hk0, hN0, hN] <;> rfl) (by simp only [push_cast, seval, ↓reduceIte, Zd, Ym, hi0, hk0, hN0, hN] <;> rfl) (by simp only [push_cast, seval, ↓reduceIte, Zd, Ym, hi0, hk0, hN0, hN] <;> rfl) hy2).then ?_
 refine zX2 hi0 hk0 ?_
 refine zDs [0, 3] [false, false, true, true] ?_
 obtain ⟨z6, hz6, h⟩ := bC h
 refine X4 (E' := ⟨53, [], [(0, .ref i0 0), (3, (vI y2.1)), (25, (vB z6.1))]⟩) (O' := (Zy (((O.upd j0_0 none).upd j0_1 none).upd i0 (some ⟨false, 51, 5, 1, [(vI z6.2.2.2.1), (sL (eI .u64) z6.2.2.2.2.1), (sL Za z6.2.2.2.2.2), .row (n + 6) z6.2.1.length, .row (n + 7) z6.2.2.1.length]⟩)) n [none, none, none, none, none, none, some (oR 30 11 Ze z6.2.1), some (oR 30 11 Ze z6.2.2.1)])) (n0 := (n + 8)) ?_ ?_
 ·rcases Bool.eq_false_or_eq_true (y2.1 == 0) with c13 | c13
  ·replace hz6 := Zx c13 hz6
   refine Zmp [some false, some false, some false, some false, some false, some false, some false, some false, some false, some false, some false, some false] c13 hi0 hk0 ?_
   obtain rfl := sI hz6
   refine And.intro rfl ?_
   refine Fit2.trans (E' := (⟨53, [], [(0, .ref i0 0), (3, (vI y2.1)), (25, (vB true))]⟩ : Env)) (O' := (Zy (((O.upd j0_0 none).upd j0_1 none).upd i0 (some ⟨false, 51, 5, 1, [(vI y2.2.2.now.Kind), (sL (eI .u64) y2.2.2.now.Words), (sL Za y2.2.2.now.Kids), .row (n + 2) y2.2.2.done.length, .row (n + 3) y2.2.2.back.length]⟩)) n [none, none, some (oR 30 11 Ze y2.2.2.done), some (oR 30 11 Ze y2.2.2.back)])) (n' := (n + 4)) (Fit2.of (Z9 hU rfl rfl ?_) (by omega)) ?_
   ·exact Zzm c13 hi0 hk0
   refine Y9 (k := 4) (k' := 8) hU [5, 5, 6, 7] [0, 0, 0, 0, 0, 0, 2, 3] rfl rfl rfl rfl ⟨rfl, rfl⟩ ?_
   exact X3 hi0 hk0
  replace hz6 := Zw c13 hz6
  obtain ⟨x10, hx10, ax10, bx10, cx10, hz6⟩ := bE (f := Ze) Zlu (fun _ => rfl) (by decide) hz6
  obtain ⟨y11, hy11, hz6⟩ := bC hz6
  obtain ⟨y12, hy12, hz6⟩ := bC hz6
  refine Z8o [some true, some true, some true, some true, some true, some true, some true, some true, some true, some true, some true, some true] c13 ax10 bx10 cx10 hi0 hk0 ?_
  refine (Zsy hy11).then ?_
  refine zF6 c13 ax10 bx10 cx10 hi0 hk0 ?_
  refine (Zaf (i0 := i0) (j0_0 := (n + 2)) (j0_1 := (n + 3)) (by omega) (by omega) (by omega) (by omega) (by omega) (by omega) (by simp only [push_cast, Nat.reduceAdd, Nat.reduceSub, Nat.reduceMul, Nat.reduceLeDiff, Nat.reduceLT, Nat.reduceEqDiff, ↓reduceIte, reduceCtorEq, Int.reduceBEq, Int.reduceBNe, Nat.reduceBEq, Int.reduceLE, Int.reduceLT, Int.reduceEq, Int.reduceNe, Int.reduceNeg, Nat.reduceDiv, Nat.reduceMod, Nat.reducePow, Zd, Ym, c13, ax10, bx10, cx10, hi0, hk0, hN0, hN] <;> rfl) (by simp only [push_cast, Nat.reduceAdd, Nat.reduceSub, Nat.reduceMul, Nat.reduceLeDiff, Nat.reduceLT, Nat.reduceEqDiff, ↓reduceIte, reduceCtorEq, Int.reduceBEq, Int.reduceBNe, Nat.reduceBEq, Int.reduceLE, Int.reduceLT, Int.reduceEq, Int.reduceNe, Int.reduceNeg, Nat.reduceDiv, Nat.reduceMod, Nat.reducePow, Zd, Ym, c13, ax10, bx10, cx10, hi0, hk0, hN0, hN] <;> rfl) (by simp only [push_cast, Nat.reduceAdd, Nat.reduceSub, Nat.reduceMul, Nat.reduceLeDiff, Nat.reduceLT, Nat.reduceEqDiff, ↓reduceIte, reduceCtorEq, Int.reduceBEq, Int.reduceBNe, Nat.reduceBEq, Int.reduceLE, Int.reduceLT, Int.reduceEq, Int.reduceNe, Int.reduceNeg, Nat.reduceDiv, Nat.reduceMod, Nat.reducePow, Zd, Ym, c13, ax10, bx10, cx10, hi0, hk0, hN0, hN] <;> rfl) hy12).then ?_
  refine zF6 c13 ax10 bx10 cx10 hi0 hk0 ?_
  obtain rfl := sI hz6
  refine And.intro rfl ?_
  refine Fit2.trans (E' := (⟨53, [], [(0, .ref i0 0), (3, (vI y2.1)), (25, (vB (cond (y2.1 == 0) true (y12.1 != 0))))]⟩ : Env)) (O' := (Zy (((O.upd j0_0 none).upd j0_1 none).upd i0 (some ⟨false, 51, 5, 1, [(vI y12.2.now.Kind), (sL (eI .u64) y12.2.now.Words), (sL Za y12.2.now.Kids), .row (n + 4) y12.2.done.length, .row (n + 5) y12.2.back.length]⟩)) n [none, none, none, none, some (oR 30 11 Ze y12.2.done), some (oR 30 11 Ze y12.2.back)])) (n' := (n + 6)) (Fit2.of (Z9 hU rfl rfl ?_) (by omega)) ?_
  ·exact Z9z c13 ax10 bx10 cx10 hi0 hk0
  refine Y9 (k := 6) (k' := 8) hU [5, 5, 5, 5, 6, 7] [0, 0, 0, 0, 0, 0, 4, 5] rfl rfl rfl rfl ⟨rfl, rfl⟩ ?_
  exact X3 hi0 hk0
 refine Zv (t := z6.1) rfl (fun c20 => ?_) (fun c20 => ?_)
 ·replace h := Zx c20 h
  refine Vq [2] hi0 hk0 ?_
  refine zW ?_
  obtain rfl := sI h
  refine X0 (k := 2) (i := i0) (q1 := ⟨false, 51, 5, 1, [(vI z6.2.2.2.1), (sL (eI .u64) z6.2.2.2.2.1), (sL Za z6.2.2.2.2.2), .row n z6.2.1.length, .row (n + 1) z6.2.2.1.length]⟩) (L3 := [some (oR 30 11 Ze z6.2.1), some (oR 30 11 Ze z6.2.2.1), none]) (E2 := (⟨53, [], [(2, (vB false))]⟩ : Env)) (n3 := (n + 3)) (.inr rfl) hU rfl [(vB false)] ?_ ?_
  ·refine Fit2.trans (E' := (⟨53, [], [(2, (vB false))]⟩ : Env)) (O' := (Zy (((O.upd j0_0 none).upd j0_1 none).upd i0 (some ⟨false, 51, 5, 1, [(vI z6.2.2.2.1), (sL (eI .u64) z6.2.2.2.2.1), (sL Za z6.2.2.2.2.2), .row (n + 6) z6.2.1.length, .row (n + 7) z6.2.2.1.length]⟩)) n [none, none, none, none, none, none, some (oR 30 11 Ze z6.2.1), some (oR 30 11 Ze z6.2.2.1)])) (n' := (n + 8)) (Fit2.of (Z9 hU rfl rfl ?_) (by omega)) ?_
   ·exact X3 hi0 hk0
   refine Y9 (k := 8) (k' := 3) hU [2, 2, 2, 2, 2, 2, 0, 1] [6, 7, 0] rfl rfl rfl rfl ⟨rfl, rfl⟩ ?_
   exact X3 hi0 hk0
  simp only [push_cast, seval, ↓reduceIte, Zd, Tryz.results11, hi0, hk0, hN0, hN]
 replace h := Zw c20 h
 refine Gu [0, 3] [false, false, false, false, false, false, true, true] ?_
 refine Zo ?_
 obtain ⟨x16, hx16, ax16, bx16, cx16, h⟩ := bE (f := Ze) Zlu (fun _ => rfl) (by decide) h
 obtain ⟨l17, pl17, ql17, el17, h⟩ := bA (k := 1) rfl h
 refine Vs Zu (by kernel_rfl) [.plain, .plain, .low, .low, .low, .plain, .plain, .plain, .plain, .plain, .plain, .plain, .plain, .pass, .pass, .plain, .plain, .bar] (fun i => i < (n + 8) ∧ ¬ i = n + 7) [0, 1, 2, 3, 4, 5, 6, 7, 8, 9, 10, 11, 12, 13, 14, 15, 16, 17] [.plain, .plain, .low, .low, .low, .plain, .plain, .plain, .plain, .plain, .plain, .plain, .plain, .pass, .pass, .plain, .plain, .bar] [] (by kernel_rfl) rfl ?_
 refine zF8 ax16 bx16 cx16 pl17 ql17 el17 hi0 hk0 ?_
 refine zO ?_
 refine Zhh ⟨53, [], [(0, .ref i0 0), (3, (vI y2.1))]⟩ (Zy (((O.upd j0_0 none).upd j0_1 none).upd i0 (some ⟨false, 51, 5, 1, [(vI z6.2.2.2.1), (sL (eI .u64) z6.2.2.2.2.1), (sL Za z6.2.2.2.2.2), .row (n + 6) z6.2.1.length, .row (n + 7) l17.length]⟩)) n [none, none, none, none, none, none, some (oR 30 11 Ze z6.2.1), some (oR 30 11 Ze l17), none]) (Z9 hU rfl rfl ?_) ?_
 ·exact Ydj ax16 bx16 cx16 pl17 ql17 el17 hi0 hk0
 refine Zo ?_
 obtain ⟨pu19, h⟩ := bG h
 have su19 := fun j => Zod (T := Jk) (j := j) Zo4 Zlu pu19
 refine Y2 Zu [] ?_
 simp only [push_cast, seval, ↓reduceIte, Zd, pu19.1, pu19.2.1, pu19.2.2, su19, hi0, hk0, hN0, hN]
 refine zD [] [false, false, false, false, false, false, true, true, false] ?_
 refine Z5a (f := Ze) (p := i0) (j := (n + 6)) (k := 3) (xs := z6.2.1) (a := (IntKind.i64.wrap (y2.1 - 1))) (t := 30) (sz := 11) (q := ⟨false, 51, 5, 1, [(vI z6.2.2.2.1), (sL (eI .u64) z6.2.2.2.2.1), (sL Za z6.2.2.2.2.2), .rl (n + 6) z6.2.1.length 0 (Int.toNat (IntKind.i64.wrap (y2.1 - 1))), .row (n + 7) l17.length]⟩) (fun _ => rfl) ?_ rfl ?_ pu19.2 (fun _ => by omega) ?_
 ·simp only [Kg, Vb, List.getElem?_cons_zero, List.getElem?_cons_succ, Option.join_some, Z3, Z7, hi0, hk0, hN0, hN]
 ·simp only [Kg, Vb, List.getElem?_cons_zero, List.getElem?_cons_succ, Option.join_some]
 simp only [Z6, Xb, hi0, hk0, hN0, hN, Yq, Yc, Vr, Ko, List.set_cons_zero, List.set_cons_succ, List.cons_append, List.nil_append, List.length_cons, List.length_nil, Nat.zero_add, Nat.reduceAdd, Nat.reduceLT, Nat.add_assoc]
 refine Vq [2] hi0 hk0 ?_
 refine zW ?_
 obtain rfl := sI h
 refine X0 (k := 2) (i := i0) (q1 := ⟨false, 51, 5, 1, [(vI z6.2.2.2.1), (sL (eI .u64) z6.2.2.2.2.1), (sL Za z6.2.2.2.2.2), .row n (List.take (Int.toNat (IntKind.i64.wrap (y2.1 - 1))) z6.2.1).length, .row (n + 1) l17.length]⟩) (L3 := [some (oR 30 11 Ze (List.take (Int.toNat (IntKind.i64.wrap (y2.1 - 1))) z6.2.1)), some (oR 30 11 Ze l17), none]) (E2 := (⟨53, [], [(2, (vB true))]⟩ : Env)) (n3 := (n + 3)) (.inr rfl) hU rfl [(vB true)] ?_ ?_
 ·refine Fit2.trans (E' := (⟨53, [], [(2, (vB true))]⟩ : Env)) (O' := (Zy (((O.upd j0_0 none).upd j0_1 none).upd i0 (some ⟨false, 51, 5, 1, [(vI z6.2.2.2.1), (sL (eI .u64) z6.2.2.2.2.1), (sL Za z6.2.2.2.2.2), .row (n + 9) (List.take (Int.toNat (IntKind.i64.wrap (y2.1 - 1))) z6.2.1).length, .row (n + 7) l17.length]⟩)) n [none, none, none, none, none, none, none, some (oR 30 11 Ze l17), none, some (oR 30 11 Ze (List.take (Int.toNat (IntKind.i64.wrap (y2.1 - 1))) z6.2.1))])) (n' := (n + 10)) (Fit2.of (Z9 hU rfl rfl ?_) (by omega)) ?_
  ·exact X3 hi0 hk0
  refine Y9 (k := 10) (k' := 3) hU [2, 2, 2, 2, 2, 2, 2, 1, 2, 0] [9, 7, 0] rfl rfl rfl rfl ⟨rfl, rfl⟩ ?_
  exact X3 hi0 hk0
 simp only [push_cast, seval, ↓reduceIte, Zd, Tryz.results11, hi0, hk0, hN0, hN]
theorem Zfl {a0 : Zn} {r : (Zb × Zn)} {O : Objs} {n : Nat} {i0 j0_0 j0_1 : Nat} (hi0 : i0 < n) (Q0 : j0_0 < n) (Vh : j0_1 < n) (Xv : i0 ≠ j0_0) (X2 : i0 ≠ j0_1) (X1 : j0_0 ≠ j0_1) (ho0 : O i0 = some ⟨false, 51, 5, 1, [(vI a0.now.Kind), (sL (eI .u64) a0.now.Words), (sL Za a0.now.Kids), .row j0_0 a0.done.length, .row j0_1 a0.back.length]⟩) (Ji : O j0_0 = some (oR 30 11 Ze a0.done)) (Un : O j0_1 = some (oR 30 11 Ze a0.back)) (h : Uy a0 = some r) : GTo Tryz.prog 7 [.ref i0 0] O n (.agg (Zl r.1)) (Zy (((O.upd j0_0 none).upd j0_1 none).upd i0 (some ⟨false, 51, 5, 1, [(vI r.2.now.Kind), (sL (eI .u64) r.2.now.Words), (sL Za r.2.now.Kids), .row n r.2.done.length, .row (n + 1) r.2.back.length]⟩)) n [some (oR 30 11 Ze r.2.done), some (oR 30 11 Ze r.2.back)]) (n + 2) := by
 unfold Uy at h
 refine Zez Zu Tryz.call7 Tryz.func7 rfl (Nat.le_of_ble_eq_true rfl) (by omega) fun hU => ?_
 have e0 := Xx (ba := n) (E := ⟨10, [], Zaa 0 [.ref i0 0]⟩) (O := (Zy O n [])) (n := n) (i := i0) (j := j0_0) (k := 3) (len := a0.done.length) (q := ⟨false, 51, 5, 1, [.val (.int .i64 a0.now.Kind), .sl a0.now.Words.length (fl (eI .u64) a0.now.Words), .sl a0.now.Kids.length (fl Za a0.now.Kids), .row j0_0 a0.done.length, .row j0_1 a0.back.length]⟩) (qj := ⟨true, 30, 11, a0.done.length, fl Ze a0.done⟩) (by rw [Z7 _ hi0]; first | exact ho0 | exact Z3 _ _ _) rfl (by rw [Z7 _ Q0]; exact Ji) Xv (by omega)
 simp only [Z6 _ _ Q0, Z6 _ _ hi0, Yq, Yc, Xb, Jy Xv, List.set_cons_zero, List.set_cons_succ, List.cons_append, List.nil_append, List.length_cons, List.length_nil, Nat.zero_add, Nat.reduceAdd, Nat.add_assoc] at e0
 refine Qi e0 ?_
 have e1 := Xx (ba := n) (E := ⟨10, [], Zaa 0 [.ref i0 0]⟩) (O := (Zy ((O.upd j0_0 none).upd i0 (some ⟨false, 51, 5, 1, [.val (.int .i64 a0.now.Kind), .sl a0.now.Words.length (fl (eI .u64) a0.now.Words), .sl a0.now.Kids.length (fl Za a0.now.Kids), .row n a0.done.length, .row j0_1 a0.back.length]⟩)) n [some ⟨true, 30, 11, a0.done.length, fl Ze a0.done⟩])) (n := (n + 1)) (i := i0) (j := j0_1) (k := 4) (len := a0.back.length) (q := ⟨false, 51, 5, 1, [.val (.int .i64 a0.now.Kind), .sl a0.now.Words.length (fl (eI .u64) a0.now.Words), .sl a0.now.Kids.length (fl Za a0.now.Kids), .row n a0.done.length, .row j0_1 a0.back.length]⟩) (qj := ⟨true, 30, 11, a0.back.length, fl Ze a0.back⟩) (by rw [Z7 _ hi0]; first | exact ho0 | exact Z3 _ _ _) rfl (by rw [Z7 _ Vh, Yo _ _ (Ne.symm X2), Yo _ _ (Ne.symm X1)]; exact Un) X2 (by omega)
 simp only [Z6 _ _ Vh, Z6 _ _ hi0, Yq, Yc, Xb, Jy X2, List.set_cons_zero, List.set_cons_succ, List.cons_append, List.nil_append, List.length_cons, List.length_nil, Nat.zero_add, Nat.reduceAdd, Nat.add_assoc] at e1
 refine Qi e1 ?_
 have hU := (Und.drop (Und.drop hU j0_0) j0_1)
 have hk0 : ∀ k, i0 < n + k := fun k => by omega
 have hN0 : ∀ o, Objs.upd ((O.upd j0_0 none).upd j0_1 none) i0 o n = none := fun o => Xt hU hi0 _ (Nat.le_refl _)
 have hN : ∀ o k, Objs.upd ((O.upd j0_0 none).upd j0_1 none) i0 o (n + k) = none := fun o k => Xt hU hi0 _ (Nat.le_add_right _ _)
 show W _ _ _ _ ⟨10, [], [(0, .ref i0 0)]⟩ (Zy (((O.upd j0_0 none).upd j0_1 none).upd i0 (some ⟨false, 51, 5, 1, [(vI a0.now.Kind), (sL (eI .u64) a0.now.Words), (sL Za a0.now.Kids), .row n a0.done.length, .row (n + 1) a0.back.length]⟩)) n [some (oR 30 11 Ze a0.done), some (oR 30 11 Ze a0.back)]) _
 refine Vq [0, 2] hi0 hk0 ?_
 refine Zo ?_
 refine Vq [0, 2, 4] hi0 hk0 ?_
 refine Zv (t := false) rfl (fun hc => by cases hc) (fun _ => ?_)
 refine Gu [0, 2] [true, true, true] ?_
 refine Zo ?_
 refine Vp [] hi0 hk0 ?_
 refine zD [2] [true, true, true] ?_
 refine zW ?_
 obtain rfl := sI h
 refine X0 (k := 2) (i := i0) (q1 := ⟨false, 51, 5, 1, [(vI a0.now.Kind), (sL (eI .u64) a0.now.Words), (sL Za a0.now.Kids), .row n a0.done.length, .row (n + 1) a0.back.length]⟩) (L3 := [some (oR 30 11 Ze a0.done), some (oR 30 11 Ze a0.back), some ⟨false, 25, 3, 1, (Zl a0.now)⟩, none]) (E2 := (⟨10, [], [(2, .ref (n + 2) 0)]⟩ : Env)) (n3 := (n + 4)) (.inr rfl) hU rfl [.agg (Zl a0.now)] ?_ ?_
 ·refine Fit2.trans (E' := (⟨10, [], [(2, .ref (n + 2) 0)]⟩ : Env)) (O' := (Zy (((O.upd j0_0 none).upd j0_1 none).upd i0 (some ⟨false, 51, 5, 1, [(vI a0.now.Kind), (sL (eI .u64) a0.now.Words), (sL Za a0.now.Kids), .row n a0.done.length, .row (n + 1) a0.back.length]⟩)) n [some (oR 30 11 Ze a0.done), some (oR 30 11 Ze a0.back), some ⟨false, 25, 3, 1, (Zl a0.now)⟩])) (n' := (n + 3)) (Fit2.of (Z9 hU rfl rfl ?_) (by omega)) ?_
  ·exact X3 hi0 hk0
  refine Y9 (k := 3) (k' := 4) hU [0, 1, 2] [0, 1, 2, 0] rfl rfl rfl rfl ⟨rfl, rfl⟩ ?_
  exact X3 hi0 hk0
 simp only [push_cast, seval, ↓reduceIte, Zd, Tryz.results7, hi0, hk0, hN0, hN]
theorem Zjw {a0 : Zn} {r : (Bool × Zn)} {O : Objs} {n : Nat} {i0 j0_0 j0_1 : Nat} (hi0 : i0 < n) (Q0 : j0_0 < n) (Vh : j0_1 < n) (Xv : i0 ≠ j0_0) (X2 : i0 ≠ j0_1) (X1 : j0_0 ≠ j0_1) (ho0 : O i0 = some ⟨false, 51, 5, 1, [(vI a0.now.Kind), (sL (eI .u64) a0.now.Words), (sL Za a0.now.Kids), .row j0_0 a0.done.length, .row j0_1 a0.back.length]⟩) (Ji : O j0_0 = some (oR 30 11 Ze a0.done)) (Un : O j0_1 = some (oR 30 11 Ze a0.back)) (h : Kr a0 = some r) : GTo Tryz.prog 12 [.ref i0 0] O n ((vB r.1)) (Zy (((O.upd j0_0 none).upd j0_1 none).upd i0 (some ⟨false, 51, 5, 1, [(vI r.2.now.Kind), (sL (eI .u64) r.2.now.Words), (sL Za r.2.now.Kids), .row n r.2.done.length, .row (n + 1) r.2.back.length]⟩)) n [some (oR 30 11 Ze r.2.done), some (oR 30 11 Ze r.2.back)]) (n + 2) := by
 unfold Kr at h
 refine Zez Zu Tryz.call12 Tryz.func12 rfl (Nat.le_of_ble_eq_true rfl) (by omega) fun hU => ?_
 have e0 := Xx (ba := n) (E := ⟨52, [], Zaa 0 [.ref i0 0]⟩) (O := (Zy O n [])) (n := n) (i := i0) (j := j0_0) (k := 3) (len := a0.done.length) (q := ⟨false, 51, 5, 1, [.val (.int .i64 a0.now.Kind), .sl a0.now.Words.length (fl (eI .u64) a0.now.Words), .sl a0.now.Kids.length (fl Za a0.now.Kids), .row j0_0 a0.done.length, .row j0_1 a0.back.length]⟩) (qj := ⟨true, 30, 11, a0.done.length, fl Ze a0.done⟩) (by rw [Z7 _ hi0]; first | exact ho0 | exact Z3 _ _ _) rfl (by rw [Z7 _ Q0]; exact Ji) Xv (by omega)
 simp only [Z6 _ _ Q0, Z6 _ _ hi0, Yq, Yc, Xb, Jy Xv, List.set_cons_zero, List.set_cons_succ, List.cons_append, List.nil_append, List.length_cons, List.length_nil, Nat.zero_add, Nat.reduceAdd, Nat.add_assoc] at e0
 refine Qi e0 ?_
 have e1 := Xx (ba := n) (E := ⟨52, [], Zaa 0 [.ref i0 0]⟩) (O := (Zy ((O.upd j0_0 none).upd i0 (some ⟨false, 51, 5, 1, [.val (.int .i64 a0.now.Kind), .sl a0.now.Words.length (fl (eI .u64) a0.now.Words), .sl a0.now.Kids.length (fl Za a0.now.Kids), .row n a0.done.length, .row j0_1 a0.back.length]⟩)) n [some ⟨true, 30, 11, a0.done.length, fl Ze a0.done⟩])) (n := (n + 1)) (i := i0) (j := j0_1) (k := 4) (len := a0.back.length) (q := ⟨false, 51, 5, 1, [.val (.int .i64 a0.now.Kind), .sl a0.now.Words.length (fl (eI .u64) a0.now.Words), .sl a0.now.Kids.length (fl Za a0.now.Kids), .row n a0.done.length, .row j0_1 a0.back.length]⟩) (qj := ⟨true, 30, 11, a0.back.length, fl Ze a0.back⟩) (by rw [Z7 _ hi0]; first | exact ho0 | exact Z3 _ _ _) rfl (by rw [Z7 _ Vh, Yo _ _ (Ne.symm X2), Yo _ _ (Ne.symm X1)]; exact Un) X2 (by omega)
 simp only [Z6 _ _ Vh, Z6 _ _ hi0, Yq, Yc, Xb, Jy X2, List.set_cons_zero, List.set_cons_succ, List.cons_append, List.nil_append, List.length_cons, List.length_nil, Nat.zero_add, Nat.reduceAdd, Nat.add_assoc] at e1
 refine Qi e1 ?_
 have hU := (Und.drop (Und.drop hU j0_0) j0_1)
 have hk0 : ∀ k, i0 < n + k := fun k => by omega
 have hN0 : ∀ o, Objs.upd ((O.upd j0_0 none).upd j0_1 none) i0 o n = none := fun o => Xt hU hi0 _ (Nat.le_refl _)
 have hN : ∀ o k, Objs.upd ((O.upd j0_0 none).upd j0_1 none) i0 o (n + k) = none := fun o k => Xt hU hi0 _ (Nat.le_add_right _ _)
 show W _ _ _ _ ⟨52, [], [(0, .ref i0 0)]⟩ (Zy (((O.upd j0_0 none).upd j0_1 none).upd i0 (some ⟨false, 51, 5, 1, [(vI a0.now.Kind), (sL (eI .u64) a0.now.Words), (sL Za a0.now.Kids), .row n a0.done.length, .row (n + 1) a0.back.length]⟩)) n [some (oR 30 11 Ze a0.done), some (oR 30 11 Ze a0.back)]) _
 refine Vq [0] hi0 hk0 ?_
 refine Zo ?_
 obtain ⟨y2, hy2, h⟩ := bC h
 refine Vp [] hi0 hk0 ?_
 refine (Zdw (i0 := i0) (j0_0 := n) (j0_1 := (n + 1)) (by omega) (by omega) (by omega) (by omega) (by omega) (by omega) (by simp only [push_cast, seval, ↓reduceIte, Zd, Ym, hi0, hk0, hN0, hN] <;> rfl) (by simp only [push_cast, seval, ↓reduceIte, Zd, Ym, hi0, hk0, hN0, hN] <;> rfl) (by simp only [push_cast, seval, ↓reduceIte, Zd, Ym, hi0, hk0, hN0, hN] <;> rfl) hy2).then ?_
 refine zX2 hi0 hk0 ?_
 refine zDs [0, 4] [false, false, true, true] ?_
 obtain ⟨z5, hz5, h⟩ := bC h
 refine X4 (E' := ⟨52, [], [(0, .ref i0 0), (4, (vI y2.2.1)), (24, (vB z5.1))]⟩) (O' := (Zy (((O.upd j0_0 none).upd j0_1 none).upd i0 (some ⟨false, 51, 5, 1, [(vI z5.2.2.2.1), (sL (eI .u64) z5.2.2.2.2.1), (sL Za z5.2.2.2.2.2), .row (n + 6) z5.2.1.length, .row (n + 7) z5.2.2.1.length]⟩)) n [none, none, none, none, none, none, some (oR 30 11 Ze z5.2.1), some (oR 30 11 Ze z5.2.2.1)])) (n0 := (n + 8)) ?_ ?_
 ·rcases Bool.eq_false_or_eq_true (y2.2.1 == 0) with c10 | c10
  ·replace hz5 := Zx c10 hz5
   refine Zmp [some false, some false, some false, some false, some false, some false, some false, some false, some false, some false, some false] c10 hi0 hk0 ?_
   obtain rfl := sI hz5
   refine And.intro rfl ?_
   refine Fit2.trans (E' := (⟨52, [], [(0, .ref i0 0), (4, (vI y2.2.1)), (24, (vB true))]⟩ : Env)) (O' := (Zy (((O.upd j0_0 none).upd j0_1 none).upd i0 (some ⟨false, 51, 5, 1, [(vI y2.2.2.now.Kind), (sL (eI .u64) y2.2.2.now.Words), (sL Za y2.2.2.now.Kids), .row (n + 2) y2.2.2.done.length, .row (n + 3) y2.2.2.back.length]⟩)) n [none, none, some (oR 30 11 Ze y2.2.2.done), some (oR 30 11 Ze y2.2.2.back)])) (n' := (n + 4)) (Fit2.of (Z9 hU rfl rfl ?_) (by omega)) ?_
   ·exact Zzm c10 hi0 hk0
   refine Y9 (k := 4) (k' := 8) hU [5, 5, 6, 7] [0, 0, 0, 0, 0, 0, 2, 3] rfl rfl rfl rfl ⟨rfl, rfl⟩ ?_
   exact X3 hi0 hk0
  replace hz5 := Zw c10 hz5
  obtain ⟨x8, hx8, ax8, bx8, cx8, hz5⟩ := bE (f := Ze) Zlu (fun _ => rfl) (by decide) hz5
  obtain ⟨y9, hy9, hz5⟩ := bC hz5
  refine Z8o [some true, some true, some true, some true, some true, some true, some true, some true, some true, some true, some true] c10 ax8 bx8 cx8 hi0 hk0 ?_
  refine (Zaf (i0 := i0) (j0_0 := (n + 2)) (j0_1 := (n + 3)) (by omega) (by omega) (by omega) (by omega) (by omega) (by omega) (by simp only [push_cast, Nat.reduceAdd, Nat.reduceSub, Nat.reduceMul, Nat.reduceLeDiff, Nat.reduceLT, Nat.reduceEqDiff, ↓reduceIte, reduceCtorEq, Int.reduceBEq, Int.reduceBNe, Nat.reduceBEq, Int.reduceLE, Int.reduceLT, Int.reduceEq, Int.reduceNe, Int.reduceNeg, Nat.reduceDiv, Nat.reduceMod, Nat.reducePow, Zd, Ym, c10, ax8, bx8, cx8, hi0, hk0, hN0, hN] <;> rfl) (by simp only [push_cast, Nat.reduceAdd, Nat.reduceSub, Nat.reduceMul, Nat.reduceLeDiff, Nat.reduceLT, Nat.reduceEqDiff, ↓reduceIte, reduceCtorEq, Int.reduceBEq, Int.reduceBNe, Nat.reduceBEq, Int.reduceLE, Int.reduceLT, Int.reduceEq, Int.reduceNe, Int.reduceNeg, Nat.reduceDiv, Nat.reduceMod, Nat.reducePow, Zd, Ym, c10, ax8, bx8, cx8, hi0, hk0, hN0, hN] <;> rfl) (by simp only [push_cast, Nat.reduceAdd, Nat.reduceSub, Nat.reduceMul, Nat.reduceLeDiff, Nat.reduceLT, Nat.reduceEqDiff, ↓reduceIte, reduceCtorEq, Int.reduceBEq, Int.reduceBNe, Nat.reduceBEq, Int.reduceLE, Int.reduceLT, Int.reduceEq, Int.reduceNe, Int.reduceNeg, Nat.reduceDiv, Nat.reduceMod, Nat.reducePow, Zd, Ym, c10, ax8, bx8, cx8, hi0, hk0, hN0, hN] <;> rfl) hy9).then ?_
  refine zF6 c10 ax8 bx8 cx8 hi0 hk0 ?_
  obtain rfl := sI hz5
  refine And.intro rfl ?_
  refine Fit2.trans (E' := (⟨52, [], [(0, .ref i0 0), (4, (vI y2.2.1)), (24, (vB (cond (y2.2.1 == 0) true (y9.1 != 0))))]⟩ : Env)) (O' := (Zy (((O.upd j0_0 none).upd j0_1 none).upd i0 (some ⟨false, 51, 5, 1, [(vI y9.2.now.Kind), (sL (eI .u64) y9.2.now.Words), (sL Za y9.2.now.Kids), .row (n + 4) y9.2.done.length, .row (n + 5) y9.2.back.length]⟩)) n [none, none, none, none, some (oR 30 11 Ze y9.2.done), some (oR 30 11 Ze y9.2.back)])) (n' := (n + 6)) (Fit2.of (Z9 hU rfl rfl ?_) (by omega)) ?_
  ·exact Z9z c10 ax8 bx8 cx8 hi0 hk0
  refine Y9 (k := 6) (k' := 8) hU [5, 5, 5, 5, 6, 7] [0, 0, 0, 0, 0, 0, 4, 5] rfl rfl rfl rfl ⟨rfl, rfl⟩ ?_
  exact X3 hi0 hk0
 refine Zv (t := z5.1) rfl (fun c17 => ?_) (fun c17 => ?_)
 ·replace h := Zx c17 h
  refine Vq [2] hi0 hk0 ?_
  refine zW ?_
  obtain rfl := sI h
  refine X0 (k := 2) (i := i0) (q1 := ⟨false, 51, 5, 1, [(vI z5.2.2.2.1), (sL (eI .u64) z5.2.2.2.2.1), (sL Za z5.2.2.2.2.2), .row n z5.2.1.length, .row (n + 1) z5.2.2.1.length]⟩) (L3 := [some (oR 30 11 Ze z5.2.1), some (oR 30 11 Ze z5.2.2.1), none]) (E2 := (⟨52, [], [(2, (vB false))]⟩ : Env)) (n3 := (n + 3)) (.inr rfl) hU rfl [(vB false)] ?_ ?_
  ·refine Fit2.trans (E' := (⟨52, [], [(2, (vB false))]⟩ : Env)) (O' := (Zy (((O.upd j0_0 none).upd j0_1 none).upd i0 (some ⟨false, 51, 5, 1, [(vI z5.2.2.2.1), (sL (eI .u64) z5.2.2.2.2.1), (sL Za z5.2.2.2.2.2), .row (n + 6) z5.2.1.length, .row (n + 7) z5.2.2.1.length]⟩)) n [none, none, none, none, none, none, some (oR 30 11 Ze z5.2.1), some (oR 30 11 Ze z5.2.2.1)])) (n' := (n + 8)) (Fit2.of (Z9 hU rfl rfl ?_) (by omega)) ?_
   ·exact X3 hi0 hk0
   refine Y9 (k := 8) (k' := 3) hU [2, 2, 2, 2, 2, 2, 0, 1] [6, 7, 0] rfl rfl rfl rfl ⟨rfl, rfl⟩ ?_
   exact X3 hi0 hk0
  simp only [push_cast, seval, ↓reduceIte, Zd, Tryz.results12, hi0, hk0, hN0, hN]
 replace h := Zw c17 h
 refine Gu [0, 4] [false, false, false, false, false, false, true, true] ?_
 refine Zo ?_
 obtain ⟨x13, hx13, ax13, bx13, cx13, h⟩ := bE (f := Ze) Zlu (fun _ => rfl) (by decide) h
 obtain ⟨l14, pl14, ql14, el14, h⟩ := bA (k := 1) rfl h
 refine Vs Zu (by kernel_rfl) [.plain, .plain, .low, .low, .low, .plain, .plain, .plain, .plain, .plain, .plain, .plain, .plain, .pass, .pass, .plain, .plain, .bar] (fun i => i < (n + 8) ∧ ¬ i = n + 6) [0, 1, 2, 3, 4, 5, 6, 7, 8, 9, 10, 11, 12, 13, 14, 15, 16, 17] [.plain, .plain, .low, .low, .low, .plain, .plain, .plain, .plain, .plain, .plain, .plain, .plain, .pass, .pass, .plain, .plain, .bar] [] (by kernel_rfl) rfl ?_
 refine zF8 ax13 bx13 cx13 pl14 ql14 el14 hi0 hk0 ?_
 refine zO ?_
 refine Zhh ⟨52, [], [(0, .ref i0 0), (4, (vI y2.2.1))]⟩ (Zy (((O.upd j0_0 none).upd j0_1 none).upd i0 (some ⟨false, 51, 5, 1, [(vI z5.2.2.2.1), (sL (eI .u64) z5.2.2.2.2.1), (sL Za z5.2.2.2.2.2), .row (n + 6) l14.length, .row (n + 7) z5.2.2.1.length]⟩)) n [none, none, none, none, none, none, some (oR 30 11 Ze l14), some (oR 30 11 Ze z5.2.2.1), none]) (Z9 hU rfl rfl ?_) ?_
 ·exact Ydj ax13 bx13 cx13 pl14 ql14 el14 hi0 hk0
 refine Zo ?_
 obtain ⟨pu16, h⟩ := bG h
 have su16 := fun j => Zod (T := Jk) (j := j) Zo4 Zlu pu16
 refine Y2 Zu [] ?_
 simp only [push_cast, seval, ↓reduceIte, Zd, pu16.1, pu16.2.1, pu16.2.2, su16, hi0, hk0, hN0, hN]
 refine zD [] [false, false, false, false, false, false, true, true, false] ?_
 refine Z5a (f := Ze) (p := i0) (j := (n + 7)) (k := 4) (xs := z5.2.2.1) (a := (IntKind.i64.wrap (y2.2.1 - 1))) (t := 30) (sz := 11) (q := ⟨false, 51, 5, 1, [(vI z5.2.2.2.1), (sL (eI .u64) z5.2.2.2.2.1), (sL Za z5.2.2.2.2.2), .row (n + 6) l14.length, .rl (n + 7) z5.2.2.1.length 0 (Int.toNat (IntKind.i64.wrap (y2.2.1 - 1)))]⟩) (fun _ => rfl) ?_ rfl ?_ pu16.2 (fun _ => by omega) ?_
 ·simp only [Kg, Vb, List.getElem?_cons_zero, List.getElem?_cons_succ, Option.join_some, Z3, Z7, hi0, hk0, hN0, hN]
 ·simp only [Kg, Vb, List.getElem?_cons_zero, List.getElem?_cons_succ, Option.join_some]
 simp only [Z6, Xb, hi0, hk0, hN0, hN, Yq, Yc, Vr, Ko, List.set_cons_zero, List.set_cons_succ, List.cons_append, List.nil_append, List.length_cons, List.length_nil, Nat.zero_add, Nat.reduceAdd, Nat.reduceLT, Nat.add_assoc]
 refine Vq [2] hi0 hk0 ?_
 refine zW ?_
 obtain rfl := sI h
 refine X0 (k := 2) (i := i0) (q1 := ⟨false, 51, 5, 1, [(vI z5.2.2.2.1), (sL (eI .u64) z5.2.2.2.2.1), (sL Za z5.2.2.2.2.2), .row n l14.length, .row (n + 1) (List.take (Int.toNat (IntKind.i64.wrap (y2.2.1 - 1))) z5.2.2.1).length]⟩) (L3 := [some (oR 30 11 Ze l14), some (oR 30 11 Ze (List.take (Int.toNat (IntKind.i64.wrap (y2.2.1 - 1))) z5.2.2.1)), none]) (E2 := (⟨52, [], [(2, (vB true))]⟩ : Env)) (n3 := (n + 3)) (.inr rfl) hU rfl [(vB true)] ?_ ?_
 ·refine Fit2.trans (E' := (⟨52, [], [(2, (vB true))]⟩ : Env)) (O' := (Zy (((O.upd j0_0 none).upd j0_1 none).upd i0 (some ⟨false, 51, 5, 1, [(vI z5.2.2.2.1), (sL (eI .u64) z5.2.2.2.2.1), (sL Za z5.2.2.2.2.2), .row (n + 6) l14.length, .row (n + 9) (List.take (Int.toNat (IntKind.i64.wrap (y2.2.1 - 1))) z5.2.2.1).length]⟩)) n [none, none, none, none, none, none, some (oR 30 11 Ze l14), none, none, some (oR 30 11 Ze (List.take (Int.toNat (IntKind.i64.wrap (y2.2.1 - 1))) z5.2.2.1))])) (n' := (n + 10)) (Fit2.of (Z9 hU rfl rfl ?_) (by omega)) ?_
  ·exact X3 hi0 hk0
  refine Y9 (k := 10) (k' := 3) hU [2, 2, 2, 2, 2, 2, 0, 2, 2, 1] [6, 9, 0] rfl rfl rfl rfl ⟨rfl, rfl⟩ ?_
  exact X3 hi0 hk0
 simp only [push_cast, seval, ↓reduceIte, Zd, Tryz.results12, hi0, hk0, hN0, hN]
theorem Zhi  {r : Bool} {O : Objs} {n : Nat} (h : K7 = some r) : GTo Tryz.prog 5 [] O n ((vB r)) O n := by
 unfold K7 at h
 refine fn0 Zu Tryz.call5 Tryz.func5 rfl fun hU hN0 hN => ?_
 show W _ _ _ _ ⟨57, [], []⟩ (Zy O n []) _
 refine zQ [] ?_
 refine Zo ?_
 obtain ⟨y2, hy2, h⟩ := bC h
 refine zR ?_
 refine GCalls.dropL (l' := [none]) hU rfl ?_ ((Zsx  hy2).then ?_)
 ·exact zSe
 refine zS ?_
 refine zDs [1] [false, true, true, true] ?_
 obtain ⟨y4, hy4, h⟩ := bC h
 refine zR ?_
 refine GCalls.dropL (l' := [none, some ⟨false, 51, 5, 1, [(vI y2.now.Kind), (sL (eI .u64) y2.now.Words), (sL Za y2.now.Kids), .row (n + 2) y2.done.length, .row (n + 3) y2.back.length]⟩, some (oR 30 11 Ze y2.done), some (oR 30 11 Ze y2.back), none]) hU rfl ?_ ((Zkz (i0 := (n + 1)) (j0_0 := (n + 2)) (j0_1 := (n + 3)) (by omega) (by omega) (by omega) (by omega) (by omega) (by omega) (by simp only [push_cast, seval, ↓reduceIte, Zd, Ym, hN0, hN] <;> rfl) (by simp only [push_cast, seval, ↓reduceIte, Zd, Ym, hN0, hN] <;> rfl) (by simp only [push_cast, seval, ↓reduceIte, Zd, Ym, hN0, hN] <;> rfl) hy4).then ?_)
 ·exact zSe
 refine zS ?_
 refine zDs [1, 2] [false, true, false, false, false, true, true] ?_
 obtain ⟨y6, hy6, h⟩ := bC h
 refine zR ?_
 refine (Zjx (i0 := (n + 1)) (j0_0 := (n + 5)) (j0_1 := (n + 6)) (by omega) (by omega) (by omega) (by omega) (by omega) (by omega) (by simp only [push_cast, seval, ↓reduceIte, Zd, Ym, hN0, hN] <;> rfl) (by simp only [push_cast, seval, ↓reduceIte, Zd, Ym, hN0, hN] <;> rfl) (by simp only [push_cast, seval, ↓reduceIte, Zd, Ym, hN0, hN] <;> rfl) hy6).then ?_
 refine zS ?_
 refine zDs [1, 2, 3] [false, true, false, false, false, false, false, true, true] ?_
 obtain ⟨y8, hy8, h⟩ := bC h
 refine zR ?_
 refine (Zfl (i0 := (n + 1)) (j0_0 := (n + 7)) (j0_1 := (n + 8)) (by omega) (by omega) (by omega) (by omega) (by omega) (by omega) (by simp only [push_cast, seval, ↓reduceIte, Zd, Ym, hN0, hN] <;> rfl) (by simp only [push_cast, seval, ↓reduceIte, Zd, Ym, hN0, hN] <;> rfl) (by simp only [push_cast, seval, ↓reduceIte, Zd, Ym, hN0, hN] <;> rfl) hy8).then ?_
 refine zS ?_
 refine zDs [1, 2, 3, 4] [false, true, false, false, false, false, false, false, false, true, true, true] ?_
 obtain ⟨y10, hy10, h⟩ := bC h
 refine zR ?_
 refine (Zjw (i0 := (n + 1)) (j0_0 := (n + 9)) (j0_1 := (n + 10)) (by omega) (by omega) (by omega) (by omega) (by omega) (by omega) (by simp only [push_cast, seval, ↓reduceIte, Zd, Ym, hN0, hN] <;> rfl) (by simp only [push_cast, seval, ↓reduceIte, Zd, Ym, hN0, hN] <;> rfl) (by simp only [push_cast, seval, ↓reduceIte, Zd, Ym, hN0, hN] <;> rfl) hy10).then ?_
 refine zS ?_
 refine zDs [1, 2, 3, 4, 5] [false, true, false, false, false, false, false, false, false, false, false, true, true, true] ?_
 obtain ⟨y12, hy12, h⟩ := bC h
 refine zR ?_
 refine (Zfl (i0 := (n + 1)) (j0_0 := (n + 12)) (j0_1 := (n + 13)) (by omega) (by omega) (by omega) (by omega) (by omega) (by omega) (by simp only [push_cast, seval, ↓reduceIte, Zd, Ym, hN0, hN] <;> rfl) (by simp only [push_cast, seval, ↓reduceIte, Zd, Ym, hN0, hN] <;> rfl) (by simp only [push_cast, seval, ↓reduceIte, Zd, Ym, hN0, hN] <;> rfl) hy12).then ?_
 refine zS ?_
 refine zD [2, 3, 4, 5, 6] [false, false, false, false, false, false, false, false, false, false, false, true, false, false, false, false, true] ?_
 obtain ⟨z15, hz15, h⟩ := bC h
 refine X4 (E' := ⟨57, [], [(0, (vB z15))]⟩) (O' := (Zy O n [none, none, none, none, none, none, none, none, none, none, none, none, none, none, none, none, none])) (n0 := (n + 17)) ?_ ?_
 ·rcases Bool.eq_false_or_eq_true (y4.1 == 0) with c20 | c20
  ·replace hz15 := Zx c20 hz15
   rcases Bool.eq_false_or_eq_true y6.1 with c21 | c21
   ·replace hz15 := Zx c21 hz15
    try rw [c21] at c20
    rcases Bool.eq_false_or_eq_true y10.1 with c22 | c22
    ·replace hz15 := Zx c22 hz15
     try rw [c22] at c20
     try rw [c22] at c21
     rcases Bool.eq_false_or_eq_true ((y8.1.Words.length : Int) == 1) with c23 | c23
     ·replace hz15 := Zx c23 hz15
      try rw [c23] at c20
      try rw [c23] at c21
      try rw [c23] at c22
      obtain ⟨x18, hx18, ax18, bx18, cx18, hz15⟩ := bE (f := (eI .u64)) Zkx (fun _ => rfl) (by decide) hz15
      rcases Bool.eq_false_or_eq_true (x18 == 1) with c24 | c24
      ·replace hz15 := Zx c24 hz15
       try rw [c24] at c20
       try rw [c24] at c21
       try rw [c24] at c22
       try rw [c24] at c23
       rcases Bool.eq_false_or_eq_true ((y12.1.Words.length : Int) == 1) with c25 | c25
       ·replace hz15 := Zx c25 hz15
        try rw [c25] at c20
        try rw [c25] at c21
        try rw [c25] at c22
        try rw [c25] at c23
        try rw [c25] at c24
        obtain ⟨x19, hx19, ax19, bx19, cx19, hz15⟩ := bE (f := (eI .u64)) Zkx (fun _ => rfl) (by decide) hz15
        refine Y2 Zu [none, none, none, none, none, none, some true, some true, some true, some true, some true, none, none, none, none, some true, some true, some true, some true, some true] ?_
        refine Ye0 c20 c21 c22 c23 ax18 bx18 cx18 c24 c25 ax19 bx19 cx19 ?_
        refine zG ?_
        obtain rfl := sI hz15
        refine And.intro rfl (Fit2.of (Xi hU rfl rfl ?_) (by omega))
        exact Ydi c20 c21 c22 c23 ax18 bx18 cx18 c24 c25 ax19 bx19 cx19
       replace hz15 := Zw c25 hz15
       try rw [c25] at c20
       try rw [c25] at c21
       try rw [c25] at c22
       try rw [c25] at c23
       try rw [c25] at c24
       refine Y2 Zu [none, none, none, none, none, none, some true, some true, some true, some true, some true, none, none, none, none, some false, some false, some false, some false, some false] ?_
       refine zF9 c20 c21 c22 c23 ax18 bx18 cx18 c24 c25 ?_
       refine zG ?_
       obtain rfl := sI hz15
       refine And.intro rfl (Fit2.of (Xi hU rfl rfl ?_) (by omega))
       exact Zzl c20 c21 c22 c23 ax18 bx18 cx18 c24 c25
      replace hz15 := Zw c24 hz15
      try rw [c24] at c20
      try rw [c24] at c21
      try rw [c24] at c22
      try rw [c24] at c23
      refine Ydm [none, none, none, none, none, none, some true, some true, some true, some true, some true, none, none, none, none, some false, some false, some false, some false, some false] c20 c21 c22 c23 ax18 bx18 cx18 c24 ?_
      refine zG ?_
      exact Ydh hz15 c20 c21 c22 c23 ax18 bx18 cx18 c24
     replace hz15 := Zw c23 hz15
     try rw [c23] at c20
     try rw [c23] at c21
     try rw [c23] at c22
     refine Zut [none, none, none, none, none, none, some false, some false, some false, some false, some false, some false, some false, some false, some false, some false, some false, some false, some false, some false] c20 c21 c22 c23 ?_
     refine zG ?_
     exact Zus hz15 c20 c21 c22 c23
    replace hz15 := Zw c22 hz15
    try rw [c22] at c20
    try rw [c22] at c21
    refine Zmp [none, none, none, none, none, none, some false, some false, some false, some false, some false, some false, some false, some false, some false, some false, some false, some false, some false, some false] c20 c21 c22 ?_
    refine zG ?_
    exact Zvz hz15 c20 c21 c22
   replace hz15 := Zw c21 hz15
   try rw [c21] at c20
   refine Vp [none, none, none, none, none, none, some false, some false, some false, some false, some false, some false, some false, some false, some false, some false, some false, some false, some false, some false] c20 c21 ?_
   refine zG ?_
   exact Zg4 hz15 c20 c21
  replace hz15 := Zw c20 hz15
  refine Zan [none, none, none, none, none, none, some false, some false, some false, some false, some false, some false, some false, some false, some false, some false, some false, some false, some false, some false] c20 ?_
  refine zG ?_
  exact Ux hz15 c20
 refine zW ?_
 obtain rfl := sI h
 refine Zz (.inr rfl) hU [(vB z15)] (by omega) ?_
 simp only [push_cast, seval, ↓reduceIte, Zd, Tryz.results5, hN0, hN]
theorem Ub  {r : (Int × Int)} {O : Objs} {n : Nat} (h : Jj = some r) : GTo Tryz.prog 6 [.val (.pointer none)] O n (.tup [(vI r.1), (vI r.2)]) O n := by
 unfold Jj at h
 refine fn0 Zu Tryz.call6 Tryz.func6 rfl fun hU hN0 hN => ?_
 show W _ _ _ _ ⟨16, [], [(0, .val (.pointer none))]⟩ (Zy O n []) _
 refine zQ [0] ?_
 refine Zo ?_
 refine zQ [0, 5] ?_
 refine Zv (t := true) rfl (fun _ => ?_) (fun hc => by cases hc)
 refine zQ [2, 3] ?_
 refine zW ?_
 obtain rfl := sI h
 refine Zz (.inr rfl) hU [(vI 0), (vI 0)] (by omega) ?_
 simp only [push_cast, seval, ↓reduceIte, Zd, Tryz.results6, hN0, hN]
theorem Zjb  {r : Zb} {O : Objs} {n : Nat} (h : Zae = some r) : GTo Tryz.prog 7 [.val (.pointer none)] O n (.agg (Zl r)) O n := by
 unfold Zae at h
 refine fn0 Zu Tryz.call7 Tryz.func7 rfl fun hU hN0 hN => ?_
 show W _ _ _ _ ⟨10, [], [(0, .val (.pointer none))]⟩ (Zy O n []) _
 refine zQ [0, 2] ?_
 refine Zo ?_
 refine zQ [0, 2, 4] ?_
 refine Zv (t := true) rfl (fun _ => ?_) (fun hc => by cases hc)
 refine Zo ?_
 refine zRd [2] [true] ?_
 refine zW ?_
 obtain rfl := sI h
 refine Zz (.inr rfl) hU [.agg [(vI 0), nV, nV]] (by omega) ?_
 simp only [push_cast, seval, ↓reduceIte, Zd, Tryz.results7, hN0, hN]
theorem Zhk  {r : Zc} {O : Objs} {n : Nat} (h : Up = some r) : GTo Tryz.prog 8 [.val (.pointer none)] O n (.agg (Zk r)) O n := by
 unfold Up at h
 refine fn0 Zu Tryz.call8 Tryz.func8 rfl fun hU hN0 hN => ?_
 show W _ _ _ _ ⟨17, [], [(0, .val (.pointer none))]⟩ (Zy O n []) _
 refine zQ [0, 2] ?_
 refine Zo ?_
 refine zQ [0, 2, 6] ?_
 refine Zv (t := true) rfl (fun _ => ?_) (fun hc => by cases hc)
 refine Zo ?_
 refine zRd [2] [true] ?_
 refine zW ?_
 obtain rfl := sI h
 refine Zz (.inr rfl) hU [.agg [(vI 0), (vI 0), nV, nV, (vI 0), nV, nV, nV, nV, (vI 0), nV]] (by omega) ?_
 simp only [push_cast, seval, ↓reduceIte, Zd, Tryz.results8, hN0, hN]
theorem Kf {a1 : Zc} {r : Int} {O : Objs} {n : Nat} (h : Zax a1 = some r) : GTo Tryz.prog 9 [.val (.pointer none), .agg (Zk a1)] O n ((vI r)) O n := by
 unfold Zax at h
 refine fn0 Zu Tryz.call9 Tryz.func9 rfl fun hU hN0 hN => ?_
 show W _ _ _ _ ⟨31, [], [(0, .val (.pointer none)), (1, .agg (Zk a1))]⟩ (Zy O n []) _
 refine zQ [0, 3] ?_
 refine Zo ?_
 refine zQ [0, 3, 7] ?_
 refine Zv (t := true) rfl (fun _ => ?_) (fun hc => by cases hc)
 refine zQ [4] ?_
 refine zW ?_
 obtain rfl := sI h
 refine Zz (.inr rfl) hU [(vI 1)] (by omega) ?_
 simp only [push_cast, seval, ↓reduceIte, Zd, Tryz.results9, hN0, hN]
theorem K1 {a1 : Int} {r : Int} {O : Objs} {n : Nat} (h : Gl a1 = some r) : GTo Tryz.prog 10 [.val (.pointer none), (vI a1)] O n ((vI r)) O n := by
 unfold Gl at h
 refine fn0 Zu Tryz.call10 Tryz.func10 rfl fun hU hN0 hN => ?_
 show W _ _ _ _ ⟨83, [], [(0, .val (.pointer none)), (1, (vI a1))]⟩ (Zy O n []) _
 refine zQ [0, 1] ?_
 refine Zo ?_
 refine zQ [0, 1, 14] ?_
 refine Zv (t := true) rfl (fun _ => ?_) (fun hc => by cases hc)
 refine zQ [4] ?_
 refine zW ?_
 obtain rfl := sI h
 refine Zz (.inr rfl) hU [(vI 1)] (by omega) ?_
 simp only [push_cast, seval, ↓reduceIte, Zd, Tryz.results10, hN0, hN]
theorem U0  {r : Bool} {O : Objs} {n : Nat} (h : Gn = some r) : GTo Tryz.prog 11 [.val (.pointer none)] O n ((vB r)) O n := by
 unfold Gn at h
 refine fn0 Zu Tryz.call11 Tryz.func11 rfl fun hU hN0 hN => ?_
 show W _ _ _ _ ⟨53, [], [(0, .val (.pointer none))]⟩ (Zy O n []) _
 refine zQ [0] ?_
 refine Zo ?_
 obtain ⟨y2, hy2, h⟩ := bC h
 refine zCd (Ub hy2) [0, 3] [] ?_
 refine Zo ?_
 obtain ⟨z3, hz3, h⟩ := bC h
 refine X4 (E' := ⟨53, [], [(0, .val (.pointer none)), (3, (vI y2.1)), (25, (vB true))]⟩) (O' := (Zy O n [])) (n0 := n) ?_ ?_
 ·rcases Bool.eq_false_or_eq_true (y2.1 == 0) with c4 | c4
  ·replace hz3 := Zx c4 hz3
   refine Zan [some false, some false, some false, some false, some false, some false, some false, some false, some false, some false, some false, some false] c4 ?_
   exact Ux hz3 c4
  replace hz3 := Zw c4 hz3
  cases hz3
 refine Zv (t := true) rfl (fun _ => ?_) (fun hc => by cases hc)
 refine zQ [2] ?_
 refine zW ?_
 obtain rfl := sI h
 refine Zz (.inr rfl) hU [(vB false)] (by omega) ?_
 simp only [push_cast, seval, ↓reduceIte, Zd, Tryz.results11, hN0, hN]
theorem Zdx  {r : Bool} {O : Objs} {n : Nat} (h : Gm = some r) : GTo Tryz.prog 12 [.val (.pointer none)] O n ((vB r)) O n := by
 unfold Gm at h
 refine fn0 Zu Tryz.call12 Tryz.func12 rfl fun hU hN0 hN => ?_
 show W _ _ _ _ ⟨52, [], [(0, .val (.pointer none))]⟩ (Zy O n []) _
 refine zQ [0] ?_
 refine Zo ?_
 obtain ⟨y2, hy2, h⟩ := bC h
 refine zCd (Ub hy2) [0, 4] [] ?_
 refine Zo ?_
 obtain ⟨z3, hz3, h⟩ := bC h
 refine X4 (E' := ⟨52, [], [(0, .val (.pointer none)), (4, (vI y2.2)), (24, (vB true))]⟩) (O' := (Zy O n [])) (n0 := n) ?_ ?_
 ·rcases Bool.eq_false_or_eq_true (y2.2 == 0) with c4 | c4
  ·replace hz3 := Zx c4 hz3
   refine Zan [some false, some false, some false, some false, some false, some false, some false, some false, some false, some false, some false] c4 ?_
   exact Ux hz3 c4
  replace hz3 := Zw c4 hz3
  cases hz3
 refine Zv (t := true) rfl (fun _ => ?_) (fun hc => by cases hc)
 refine zQ [2] ?_
 refine zW ?_
 obtain rfl := sI h
 refine Zz (.inr rfl) hU [(vB false)] (by omega) ?_
 simp only [push_cast, seval, ↓reduceIte, Zd, Tryz.results12, hN0, hN]
theorem Zio {a0 : Q3} {r : Bool} {O : Objs} {n : Nat} (h : Vc a0 = some r) : GTo Tryz.prog 3 [.agg (V6 a0)] O n ((vB r)) O n := by
 unfold Vc at h
 refine fn0 Zu Tryz.call3 Tryz.func3 rfl fun hU hN0 hN => ?_
 show W _ _ _ _ ⟨63, [], [(0, .agg (V6 a0))]⟩ (Zy O n []) _
 refine zQ [1] ?_
 refine Zo ?_
 refine Zo ?_
 obtain ⟨y2, hy2, h⟩ := bC h
 refine zCd (Zom hy2) [1, 11] [true] ?_
 refine Zv (t := (!y2)) rfl (fun c34 => ?_) (fun c34 => ?_)
 ·replace h := Zx c34 h
  refine Zo ?_
  obtain ⟨y4, hy4, h⟩ := bC h
  refine zCd (Zhi hy4) [2] [false] ?_
  refine zW ?_
  obtain rfl := sI h
  refine Zz (.inr rfl) hU [(vB y4)] (by omega) ?_
  simp only [push_cast, seval, ↓reduceIte, Zd, Tryz.results3, hN0, hN]
 replace h := Zw c34 h
 refine Gu [1] [true] ?_
 refine zQ [1, 3] ?_
 refine Zo ?_
 obtain ⟨y6, hy6, h⟩ := bC h
 refine zCd (Ub hy6) [1, 3, 4, 5] [true] ?_
 refine Zo ?_
 obtain ⟨y8, hy8, h⟩ := bC h
 refine zCd (Zjb hy8) [1, 3, 4, 5, 6] [true, true] ?_
 refine Zo ?_
 obtain ⟨y10, hy10, h⟩ := bC h
 refine zCd (Zhk hy10) [1, 3, 4, 5, 6, 7] [true, true, true] ?_
 obtain ⟨z16, hz16, h⟩ := bC h
 refine X4 (E' := ⟨63, [], [(2, (vB z16))]⟩) (O' := (Zy O n [none, none, none])) (n0 := (n + 3)) ?_ ?_
 ·rcases Bool.eq_false_or_eq_true ((IntKind.i64.wrap (y6.1 + y6.2)) == 0) with c27 | c27
  ·replace hz16 := Zx c27 hz16
   rcases Bool.eq_false_or_eq_true (y8.Kind == 0) with c28 | c28
   ·replace hz16 := Zx c28 hz16
    try rw [c28] at c27
    rcases Bool.eq_false_or_eq_true (y10.Kind == 0) with c29 | c29
    ·replace hz16 := Zx c29 hz16
     try rw [c29] at c27
     try rw [c29] at c28
     obtain ⟨y22, hy22, hz16⟩ := bC hz16
     rcases Bool.eq_false_or_eq_true (y22 == 1) with c30 | c30
     ·replace hz16 := Zx c30 hz16
      try rw [c30] at c27
      try rw [c30] at c28
      try rw [c30] at c29
      obtain ⟨y23, hy23, hz16⟩ := bC hz16
      rcases Bool.eq_false_or_eq_true (y23 == 1) with c31 | c31
      ·replace hz16 := Zx c31 hz16
       try rw [c31] at c27
       try rw [c31] at c28
       try rw [c31] at c29
       try rw [c31] at c30
       obtain ⟨y24, hy24, hz16⟩ := bC hz16
       rcases Bool.eq_false_or_eq_true y24 with c32 | c32
       ·replace hz16 := Zx c32 hz16
        try rw [c32] at c27
        try rw [c32] at c28
        try rw [c32] at c29
        try rw [c32] at c30
        try rw [c32] at c31
        refine Z00 [none, none, none, none, none, none, some true, some true, some true, some true, some true, some true, some true, some true, some true, some true, some true, some true, some true, some false, some false, some false, some false] c27 c28 c29 c30 c31 c32 ?_
        refine zG ?_
        refine (Kf hy22).then ?_
        refine zX6 c27 c28 c29 c30 c31 c32 ?_
        refine zG ?_
        refine (K1 hy23).then ?_
        refine zX6 c27 c28 c29 c30 c31 c32 ?_
        refine zG ?_
        refine (U0 hy24).then ?_
        refine zX6 c27 c28 c29 c30 c31 c32 ?_
        refine zG ?_
        exact Z8m hz16 c27 c28 c29 c30 c31 c32
       replace hz16 := Zw c32 hz16
       try rw [c32] at c27
       try rw [c32] at c28
       try rw [c32] at c29
       try rw [c32] at c30
       try rw [c32] at c31
       obtain ⟨y25, hy25, hz16⟩ := bC hz16
       rcases Bool.eq_false_or_eq_true y25 with c33 | c33
       ·replace hz16 := Zx c33 hz16
        try rw [c33] at c27
        try rw [c33] at c28
        try rw [c33] at c29
        try rw [c33] at c30
        try rw [c33] at c31
        try rw [c33] at c32
        refine Yaj [none, none, none, none, none, none, some true, some true, some true, some true, some true, some true, some true, some true, some true, some true, some true, some true, some true, some true, some true, some true, some false] c27 c28 c29 c30 c31 c32 c33 ?_
        refine zG ?_
        refine (Kf hy22).then ?_
        simp only [push_cast, seval, ↓reduceIte, Zd, c27, c28, c29, c30, c31, c32, c33, hN0, hN]
        refine zG ?_
        refine (K1 hy23).then ?_
        simp only [push_cast, seval, ↓reduceIte, Zd, c27, c28, c29, c30, c31, c32, c33, hN0, hN]
        refine zG ?_
        refine (U0 hy24).then ?_
        simp only [push_cast, seval, ↓reduceIte, Zd, c27, c28, c29, c30, c31, c32, c33, hN0, hN]
        refine zG ?_
        refine (Zdx hy25).then ?_
        simp only [push_cast, seval, ↓reduceIte, Zd, c27, c28, c29, c30, c31, c32, c33, hN0, hN]
        refine zG ?_
        exact Yai hz16 c27 c28 c29 c30 c31 c32 c33
       replace hz16 := Zw c33 hz16
       try rw [c33] at c27
       try rw [c33] at c28
       try rw [c33] at c29
       try rw [c33] at c30
       try rw [c33] at c31
       try rw [c33] at c32
       obtain ⟨y26, hy26, hz16⟩ := bC hz16
       refine Yaj [none, none, none, none, none, none, some true, some true, some true, some true, some true, some true, some true, some true, some true, some true, some true, some true, some true, some true, some true, some true, some true] c27 c28 c29 c30 c31 c32 c33 ?_
       refine zG ?_
       refine (Kf hy22).then ?_
       simp only [push_cast, seval, ↓reduceIte, Zd, c27, c28, c29, c30, c31, c32, c33, hN0, hN]
       refine zG ?_
       refine (K1 hy23).then ?_
       simp only [push_cast, seval, ↓reduceIte, Zd, c27, c28, c29, c30, c31, c32, c33, hN0, hN]
       refine zG ?_
       refine (U0 hy24).then ?_
       simp only [push_cast, seval, ↓reduceIte, Zd, c27, c28, c29, c30, c31, c32, c33, hN0, hN]
       refine zG ?_
       refine (Zdx hy25).then ?_
       simp only [push_cast, seval, ↓reduceIte, Zd, c27, c28, c29, c30, c31, c32, c33, hN0, hN]
       refine zG ?_
       refine (Zhi hy26).then ?_
       simp only [push_cast, seval, ↓reduceIte, Zd, c27, c28, c29, c30, c31, c32, c33, hN0, hN]
       refine zG ?_
       exact Yai hz16 c27 c28 c29 c30 c31 c32 c33
      replace hz16 := Zw c31 hz16
      try rw [c31] at c27
      try rw [c31] at c28
      try rw [c31] at c29
      try rw [c31] at c30
      refine Zuu [none, none, none, none, none, none, some true, some true, some true, some true, some true, some true, some true, some true, some true, some true, some false, some false, some false, some false, some false, some false, some false] c27 c28 c29 c30 c31 ?_
      refine zG ?_
      refine (Kf hy22).then ?_
      refine zX5 c27 c28 c29 c30 c31 ?_
      refine zG ?_
      refine (K1 hy23).then ?_
      refine zX5 c27 c28 c29 c30 c31 ?_
      refine zG ?_
      exact Zv0 hz16 c27 c28 c29 c30 c31
     replace hz16 := Zw c30 hz16
     try rw [c30] at c27
     try rw [c30] at c28
     try rw [c30] at c29
     refine Zut [none, none, none, none, none, none, some true, some true, some true, some true, some true, some false, some false, some false, some false, some false, some false, some false, some false, some false, some false, some false, some false] c27 c28 c29 c30 ?_
     refine zG ?_
     refine (Kf hy22).then ?_
     refine zX4 c27 c28 c29 c30 ?_
     refine zG ?_
     exact Zus hz16 c27 c28 c29 c30
    replace hz16 := Zw c29 hz16
    try rw [c29] at c27
    try rw [c29] at c28
    refine Zmp [none, none, none, none, none, none, some false, some false, some false, some false, some false, some false, some false, some false, some false, some false, some false, some false, some false, some false, some false, some false, some false] c27 c28 c29 ?_
    refine zG ?_
    exact Zvz hz16 c27 c28 c29
   replace hz16 := Zw c28 hz16
   try rw [c28] at c27
   refine Vp [none, none, none, none, none, none, some false, some false, some false, some false, some false, some false, some false, some false, some false, some false, some false, some false, some false, some false, some false, some false, some false] c27 c28 ?_
   refine zG ?_
   exact Zg4 hz16 c27 c28
  replace hz16 := Zw c27 hz16
  refine Zan [none, none, none, none, none, none, some false, some false, some false, some false, some false, some false, some false, some false, some false, some false, some false, some false, some false, some false, some false, some false, some false] c27 ?_
  refine zG ?_
  exact Ux hz16 c27
 refine zW ?_
 obtain rfl := sI h
 refine Zz (.inr rfl) hU [(vB z16)] (by omega) ?_
 simp only [push_cast, seval, ↓reduceIte, Zd, Tryz.results3, hN0, hN]
end Go.Proofs.YtgpaglmhkklneaaGreat
