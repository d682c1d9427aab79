/- Part NM1 of this seat's mirrors: functions of the seat's program, and the plain functions that they are; each theorem bears its own conditions. -/
import Derived.Test.YtgpaglmhkklneaaGreatNE
namespace Go.Proofs.YtgpaglmhkklneaaGreat
open Go.RowKit
set_option linter.unusedVariables false
set_option linter.unusedSimpArgs false
set_option maxRecDepth 100000
set_option maxHeartbeats 4000000
attribute [local push_cast] vI vB nV sL oR Zg5 Zk Zer Xk Zl Zdp V6 Zwo Zwn Zxs Zxr Qg Xm Zsf Zm3 Zm2 onW Qw Zfz Zet Zsg Zsh Zqb Zqf Zqa Zqe Zt1 Ztx Zqd Zt0 Ztz Zty Zqc Ztv Znq evS wok J7 Op.operands Call.operands gop onK onP atK List.all_cons List.all_nil Bool.and_true Bool.true_and Bool.and_self Value.oneCell' List.take_zero List.take_succ_cons List.take_nil List.drop_zero List.drop_succ_cons List.drop_nil List.append_nil Nat.add_zero Nat.zero_add Gs Yz ev Ki Zaa Zwf Zwe Zwk Zwi Zwj Zwg Zwh Zwd Zsd Zuw Zz1 Zle Zgt Zkq Zf1 Zpo Zi6 Zk2 Zk7 Zmw Zms Zk5 Zmv Zmu Zmt Zk4 Zmq Zk3 Zk6 Zj8 Zmr Zma Zm4 Zeu Zl3 Zev Zm1 Zla Zwt bLo bHi bMx Zgu Zm0 Z1b Zk9 Zmi Ziw Zce Zvl Z1e Zl1 Zjn Z1k Zgs Z4m Zsn Zsr Zsm Zsq Zxc Zw8 Zw6 Zpr Zso Zxb Zxa Zw9 Zsp Zw0 Zw3 Zwz Zw2 Z1q Z1n Z1m Zw1 Z1o Z1p Zw7 Zlc gone Ztg Zno Znn pop TK.isAgg Zxl Zxp Zxk Zxo Zs9 Z1y Z1u Zxn Z1x Z1w Z1v Zxm Z1t G.under G.unders List.getD_cons_zero List.getD_cons_succ List.set_cons_zero List.set_cons_succ List.map_cons List.map_nil List.toList_toArray Array.toList_append Option.toArray_none Option.toArray_some Array.toList_map Option.map_some Option.map_none Option.bind_some Option.bind_none List.getElem?_cons_zero List.getElem?_cons_succ List.getElem?_nil List.nil_append List.cons_append List.replicate_succ List.replicate_zero List.length_cons List.length_nil and_true true_and and_false false_and Bool.true_eq_false Bool.false_eq_true forall_const false_implies implies_true IntKind.bits if_true if_false ite_true ite_false eq_self true_implies false_or or_false or_true true_or not_true_eq_false not_false_eq_true decide_true decide_false decide_eq_true_eq decide_eq_false_iff_not beq_iff_eq bne_iff_ne ne_eq Bool.not_eq_true Bool.not_eq_false beq_eq_false_iff_ne bne_eq_false_iff_eq beq_self_eq_true bne_self_eq_false Option.some.injEq exists_eq_left' exists_eq_left ge_iff_le gt_iff_lt decide_not Bool.not_true Bool.not_false imp_self Z1i cond_true cond_false Yap Yao Bool.not_not Bool.and_false Bool.false_and Bool.or_true Bool.true_or Bool.or_false Bool.false_or Kg Vb Vr Ko Yq Yc Option.join_some Nat.add_assoc Int.toNat_natCast eI eB eS eL Ym Zl2 Zlb Zws Zwq Zwr Z4x Z6k Zl5 Zln Zx1 Zxz Zx0 Z0h Zmx Zzv Zoz Zv6 Zjm Zv9 List.length_append G.agg.injEq G.row.injEq G.ref.injEq G.val.injEq G.sl.injEq G.tup.injEq Value.int.injEq Value.bool.injEq Value.string.injEq List.cons.injEq exists_and_left exists_const List.flatten_cons List.flatten_nil Int.le_refl Nat.le_refl Xb Z7 Z6 Bool.not_eq_true' Bool.not_eq_false' Zzk Zo5 Z21 Z25 Z20 Z24 Z8k Z8f List.size_toArray Zq7 Zti G.ren G.rens Zu4 Zjg Zx5 Zwa Zwb Ztw Z26 Zbr G.fn.injEq Zup Zuq Zzj Z8g Zuo Z23 Z8j Z8i Z8h Z22 Z1r Z57 Option.join_none Z3 U8 undef Zmk Arr.len Arr.put_eq Zl4 Zp3 Znk Zlm Zxy Zxw Zxx onB Z4w Zvk Ztq Zpj Zrl Zrm Zrn Zro Zrp Zrq Zpw Zp6 Zp4 Znm Zlo Zp5 Ztf Zte Ztd Ztc Z6j Z9e Z0g Zxt Zb8 Z0b Zps Zp7 Znl Z1z Zts Zk8 Zmh Zhm Zov Zrr Zrs Zrt Zru Zo6 Zo7 Zo8 Zo9 Zpa Zpb Zpc Zhu prT Zi7 Ya7 Z2q Z7p Z2r Ya8 Z2s Ya9 Z2t Yba Z2u Ybb Z2v Ybc Z2w Ybd Z2x Z68 Zyc Z69 Zyd Z7a Zye Z7b Zyf Z7c Zyg Z7d Zyh Z7e Zyi Z7f Zyj Z7g Zyk Z7h Zyl Z7i Zym Z7j Zrk Z0t Zhn Z7k Zyn Gt Zyo Z7l Zyp Z7m Zyq Z7n Zyr Z7o Zys Zlu Zyt Z7q Zyu Z7r Zyv Z7s Zyw Z7t Zyx Zkx Zyy Z7u Zyz Zvw Zy0 Z7v Zo4 Z7w Zy1 Z7x Zy2 Z7y Zy3 Zqw Zy4 Z7z Zy5 Zij Zy6 Z70 Zy7 Z71 Zy8 Z72 Zy9 Z73 Zza Z74 Zzb Z75 Zzc Z76 Zzd Z77 Zze Z17 Zt3 Z18 Zt4 Z19 Zt5 Z2a Zt6 Z2b Zt7 Z2c Zt8 Z2d Zt9 Z2e Zua Z2f Zub Z2g Zuc Z2h Zud Z2i Zue Z2j Zuf Z2k Zug Z2l Zuh Z2m Zui Z2n Zuj Z2o Zuk Z2p Zul Za Yh Zny Znw Zna Znh Zn0 Zlx Zls Zlq Znu Zgj Zgh Zf5 Zgb Zgl Zfx Zfs Zfq Zge Zg Ze Zi Zf Y3 Yk Xc Zdf Zdb Zch Zcs Zdk Zb2 Zbx Zbt Zc4 Zed Zea Zd1 Zd4 Zeg Zc8 Zc0 Zcx Zd7 Zim Zil Zh0 Zh7 Zin Zhg Zhc Zhb Zik Znx Znv Zm9 Zng Znz Zlw Zlr Zlp Znt Ye Zgi Zgg Zf4 Zga Zgk Zfw Zfr Zfp Zgd Yv Zdg Zdc Zci Zct Zdl Zb3 Zby Zbu Zc5 Yn Zb6 Zb5 Zbo Zbq Zb7 Za4 Za3 Za2 Zb0 Zal Zak Zab Zag Zam Gr Gq Gp Zai Yu Zde Zda Zcg Zcr Zdj Zb1 Zbw Zbs Zc3 Y1 Zec Zd9 Zd0 Zd3 Zef Zc7 Zcz Zcw Zd6 Yp Zdh Zdd Zcj Zcu Zdm Zb4 Zbz Zbv Zc6 Yx Zee Zeb Zd2 Zd5 Zeh Zc9 Zc1 Zcy Zd8 X5
def Ze2 (Qq : (Zb → Int → Int → Option Int)) : Prop := ∀ {a0 : Zb} {a1 : Int} {a2 : Int} {r : Int} {O : Objs} {n : Nat}, Qq a0 a1 a2 = some r → GTo Tryz.prog 21 [.agg (Zl a0), (vI a1), (vI a2)] O n ((vI r)) O n
theorem Zkg {Qq : (Zb → Int → Int → Option Int)} (Zjy : Ze2 Qq) {a0 : Zb} {a1 : Int} {a2 : Int} {r : Int} {O : Objs} {n : Nat} (h : Qp Qq a0 a1 a2 = some r) : GTo Tryz.prog 21 [.agg (Zl a0), (vI a1), (vI a2)] O n ((vI r)) O n := by
 unfold Qp at h
 refine fn0 Zu Tryz.call21 Tryz.func21 rfl fun hU hN0 hN => ?_
 show W _ _ _ _ ⟨41, [], [(0, .agg (Zl a0)), (1, (vI a1)), (2, (vI a2))]⟩ (Zy O n []) _
 refine zQ [1, 2, 3] ?_
 refine zQ [1, 2, 3] ?_
 refine Zo ?_
 refine zQD [1, 2, 3, 19] [none, none] ?_
 refine Zv (t := (cond (a1 == 0) true (decide ((IntKind.i64.wrap ((IntKind.i64.wrap (a2 - 1)) - (a0.Words.length : Int))) < 0)))) rfl (fun c5 => ?_) (fun c5 => ?_)
 ·replace h := Zx c5 h
  refine zQ [6] ?_
  refine zW ?_
  obtain rfl := sI h
  refine Zz (.inr rfl) hU [(vI (-1))] (by omega) ?_
  simp only [push_cast, seval, ↓reduceIte, Zd, Tryz.results21, hN0, hN]
 replace h := Zw c5 h
 refine Gu [1, 2, 3] [true] ?_
 refine Zo ?_
 refine zQd [1, 2, 3, 7] [1, 2, 3, 7] [true] ?_
 obtain ⟨z4, hz4, h⟩ := bC h
 refine Qb (E' := ⟨41, [], [(2, (vI z4))]⟩) (O' := (Zy O n [none])) (n0 := (n + 1)) ?_ ?_
 ·refine Q4 hz4 (fun s0_ => ⟨41, [], [(1, (vI a1)), (2, (vI s0_.1)), (3, .ref n 0), (7, (vI s0_.2))]⟩) (fun s0_ => (Zy O n [some ⟨false, 25, 3, 1, (Zl a0)⟩])) (fun z4 => JX 0 n (⟨41, [], [(2, (vI z4))]⟩ : Env) (Zy O n [none]) (n + 1)) ?_
  intro s0_ x0_ hs0_
  unfold Qj at hs0_
  try dsimp only
  refine Zo ?_
  refine zQD [1, 2, 3, 7, 28] [none, none] ?_
  refine Zv (t := (cond (decide (s0_.2 < (a0.Kids.length : Int))) (decide (0 ≤ s0_.1)) false)) rfl (fun c3 => ?_) (fun c3 => ?_)
  ·replace hs0_ := Zx c3 hs0_
   refine Gu [1, 2, 3, 7] [true] ?_
   refine Zo ?_
   refine Xh ?_
   obtain ⟨x1, hx1, ax1, bx1, cx1, hs0_⟩ := bE (f := Za) Gt (fun _ => rfl) (by decide) hs0_
   obtain ⟨y2, hy2, hs0_⟩ := bC hs0_
   refine Ze4 [] ax1 bx1 cx1 ?_
   refine (Zjy hy2).then ?_
   refine zF3 ax1 bx1 cx1 ?_
   refine zD [1, 2, 3, 7] [true] ?_
   refine zR ?_
   exact zEn hs0_
  replace hs0_ := Zw c3 hs0_
  exact zEx hs0_
 try simp only [Qg, Xm, ↓reduceIte, Nat.reduceEqDiff]
 refine zD [2] [false] ?_
 refine zQ [6] ?_
 refine zW ?_
 obtain rfl := sI h
 refine Zz (.inr rfl) hU [(vI z4)] (by omega) ?_
 simp only [push_cast, seval, ↓reduceIte, Zd, Tryz.results21, hN0, hN]
theorem Zi9 : ∀ k, (Ze2 (Y6 k)) := fun k => by
 induction k with
 | zero => exact @fun a0 a1 a2 r O n h => (nomatch (show (none : Option _) = some _ from h))
 | succ k ih => exact @fun a0 a1 a2 r O n h => Zkg (ih)  h
theorem Zbp {a0 : Zb} {a1 : Int} {a2 : Int} {r : Int} {O : Objs} {n : Nat} (h : Ka a0 a1 a2 = some r) : GTo Tryz.prog 21 [.agg (Zl a0), (vI a1), (vI a2)] O n ((vI r)) O n := by
 obtain ⟨k, hk⟩ := Zel h
 exact (Zi9 k)  hk
def Zg2 (Qd : (Zc → Int → Int → Option Int)) : Prop := ∀ {a0 : Zc} {a1 : Int} {a2 : Int} {r : Int} {O : Objs} {n : Nat}, Qd a0 a1 a2 = some r → GTo Tryz.prog 13 [.agg (Zk a0), (vI a1), (vI a2)] O n ((vI r)) O n
theorem Zme {Qd : (Zc → Int → Int → Option Int)} (Zg3 : Zg2 Qd) {a0 : Zc} {a1 : Int} {a2 : Int} {r : Int} {O : Objs} {n : Nat} (h : Jq Qd a0 a1 a2 = some r) : GTo Tryz.prog 13 [.agg (Zk a0), (vI a1), (vI a2)] O n ((vI r)) O n := by
 unfold Jq at h
 refine fn0 Zu Tryz.call13 Tryz.func13 rfl fun hU hN0 hN => ?_
 show W _ _ _ _ ⟨107, [], [(0, .agg (Zk a0)), (1, (vI a1)), (2, (vI a2))]⟩ (Zy O n []) _
 refine zQ [1, 2, 3] ?_
 refine zQ [1, 2, 3] ?_
 refine Zo ?_
 refine zQD [1, 2, 3, 25] [none, none] ?_
 refine Zv (t := (cond (a1 == 0) true (decide ((IntKind.i64.wrap ((IntKind.i64.wrap ((IntKind.i64.wrap (a2 - 1)) - (a0.Words.length : Int))) - (a0.Ops.length : Int))) < 0)))) rfl (fun c28 => ?_) (fun c28 => ?_)
 ·replace h := Zx c28 h
  refine zQ [6] ?_
  refine zW ?_
  obtain rfl := sI h
  refine Zz (.inr rfl) hU [(vI (-1))] (by omega) ?_
  simp only [push_cast, seval, ↓reduceIte, Zd, Tryz.results13, hN0, hN]
 replace h := Zw c28 h
 refine Gu [1, 2, 3] [true] ?_
 refine Zo ?_
 obtain ⟨y2, hy2, h⟩ := bC h
 refine zCd (Zbp hy2) [1, 2, 3] [true] ?_
 obtain ⟨z3, hz3, h⟩ := bC h
 refine X4 (E' := ⟨107, [], [(1, (vI a1)), (2, (vI z3)), (3, .ref n 0)]⟩) (O' := (Zy O n [some ⟨false, 30, 11, 1, (Zk a0)⟩])) (n0 := (n + 1)) ?_ ?_
 ·refine zQ [1, 2, 3, 31] ?_
  refine Zv (t := (decide (0 ≤ y2))) rfl (fun c5 => ?_) (fun c5 => ?_)
  ·replace hz3 := Zx c5 hz3
   obtain ⟨y4, hy4, hz3⟩ := bC hz3
   refine zC (Zbp hy4) ?_
   exact zEn hz3
  replace hz3 := Zw c5 hz3
  refine zK ?_
  exact zEn hz3
 refine Zo ?_
 refine zQd [1, 2, 3, 7] [1, 2, 3, 7] [true] ?_
 obtain ⟨z10, hz10, h⟩ := bC h
 refine Qb (E' := ⟨107, [], [(1, (vI a1)), (2, (vI z10)), (3, .ref n 0)]⟩) (O' := (Zy O n [some ⟨false, 30, 11, 1, (Zk a0)⟩])) (n0 := (n + 1)) ?_ ?_
 ·refine Q4 hz10 (fun s0_ => ⟨107, [], [(1, (vI a1)), (2, (vI s0_.1)), (3, .ref n 0), (7, (vI s0_.2))]⟩) (fun s0_ => (Zy O n [some ⟨false, 30, 11, 1, (Zk a0)⟩])) (fun z10 => JX 0 n (⟨107, [], [(1, (vI a1)), (2, (vI z10)), (3, .ref n 0)]⟩ : Env) (Zy O n [some ⟨false, 30, 11, 1, (Zk a0)⟩]) (n + 1)) ?_
  intro s0_ x0_ hs0_
  unfold Jf at hs0_
  try dsimp only
  refine Zo ?_
  refine zQD [1, 2, 3, 7, 44] [none, none] ?_
  refine Zv (t := (cond (decide (s0_.2 < (a0.Kids.length : Int))) (decide (0 ≤ s0_.1)) false)) rfl (fun c9 => ?_) (fun c9 => ?_)
  ·replace hs0_ := Zx c9 hs0_
   refine Gu [1, 2, 3, 7] [true] ?_
   refine Zo ?_
   refine Xh ?_
   obtain ⟨x6, hx6, ax6, bx6, cx6, hs0_⟩ := bE (f := Zi) Zqw (fun _ => rfl) (by decide) hs0_
   have g7 := Zjp (f := Zi) (off := 1) (sz := 12) Zlu (fun _ => rfl) (by decide) (by decide) hx6
   obtain ⟨y8, hy8, hs0_⟩ := bC hs0_
   refine Z8n [] ax6 bx6 cx6 g7 ?_
   refine (Zg3 hy8).then ?_
   refine zF4 ax6 bx6 cx6 g7 ?_
   refine zD [1, 2, 3, 7] [true] ?_
   refine zR ?_
   exact zEn hs0_
  replace hs0_ := Zw c9 hs0_
  exact zEx hs0_
 try simp only [Qg, Xm, ↓reduceIte, Nat.reduceEqDiff]
 refine zDs [1, 2, 3] [true] ?_
 refine zQd [1, 2, 3, 8] [1, 2, 3, 8] [true] ?_
 obtain ⟨z27, hz27, h⟩ := bC h
 refine Qb (E' := ⟨107, [], [(2, (vI z27))]⟩) (O' := (Zy O n [none])) (n0 := (n + 1)) ?_ ?_
 ·refine Q4 hz27 (fun s1_ => ⟨107, [], [(1, (vI a1)), (2, (vI s1_.1)), (3, .ref n 0), (8, (vI s1_.2))]⟩) (fun s1_ => (Zy O n [some ⟨false, 30, 11, 1, (Zk a0)⟩])) (fun z27 => JX 2 n (⟨107, [], [(2, (vI z27))]⟩ : Env) (Zy O n [none]) (n + 1)) ?_
  intro s1_ x1_ hs1_
  unfold Jg at hs1_
  try dsimp only
  refine Zo ?_
  refine zQD [1, 2, 3, 8, 65] [none, none] ?_
  refine Zv (t := (cond (decide (s1_.2 < (a0.Ops.length : Int))) (decide (0 ≤ s1_.1)) false)) rfl (fun c26 => ?_) (fun c26 => ?_)
  ·replace hs1_ := Zx c26 hs1_
   refine Gu [1, 2, 3, 8] [true] ?_
   obtain ⟨z11, hz11, hs1_⟩ := bC hs1_
   refine X4 (E' := ⟨107, [], [(1, (vI a1)), (2, (vI z11)), (3, .ref n 0), (8, (vI s1_.2))]⟩) (O' := (Zy O n [some ⟨false, 30, 11, 1, (Zk a0)⟩])) (n0 := (n + 1)) ?_ ?_
   ·refine Xh ?_
    refine Zo ?_
    refine zQd [1, 2, 3, 8, 9] [1, 2, 3, 8, 9] [true] ?_
    obtain ⟨z21, hz21, hz11⟩ := bC hz11
    refine Qb (E' := ⟨107, [], [(1, (vI a1)), (2, (vI z21)), (3, .ref n 0), (8, (vI s1_.2))]⟩) (O' := (Zy O n [some ⟨false, 30, 11, 1, (Zk a0)⟩])) (n0 := (n + 1)) ?_ ?_
    ·refine Q4 hz21 (fun s2_ => ⟨107, [], [(1, (vI a1)), (2, (vI s2_.1)), (3, .ref n 0), (8, (vI s1_.2)), (9, (vI s2_.2))]⟩) (fun s2_ => (Zy O n [some ⟨false, 30, 11, 1, (Zk a0)⟩])) (fun z21 => JX 4 n (⟨107, [], [(1, (vI a1)), (2, (vI z21)), (3, .ref n 0), (8, (vI s1_.2))]⟩ : Env) (Zy O n [some ⟨false, 30, 11, 1, (Zk a0)⟩]) (n + 1)) ?_
     intro s2_ x2_ hs2_
     unfold Vf at hs2_
     try dsimp only
     refine Zo ?_
     obtain ⟨x14, hx14, ax14, bx14, cx14, hs2_⟩ := bE (f := Zf) Zij (fun _ => rfl) (by decide) hs2_
     have g15 := Zjp (f := Zf) (off := 2) (sz := 14) Z0t (fun _ => rfl) (by decide) (by decide) hx14
     refine Zn2 [1, 2, 3, 8, 9, 80] (Y2 Zu [none, none] ?_)
     refine zF4 ax14 bx14 cx14 g15 ?_
     refine zG ?_
     refine Zv (t := (cond (decide (s2_.2 < (x14.L.length : Int))) (decide (0 ≤ s2_.1)) false)) rfl (fun c20 => ?_) (fun c20 => ?_)
     ·replace hs2_ := Zx c20 hs2_
      refine Gu [1, 2, 3, 8, 9] [true] ?_
      refine Zo ?_
      refine Xh ?_
      obtain ⟨x16, hx16, ax16, bx16, cx16, hs2_⟩ := bE (f := Zf) Zij (fun _ => rfl) (by decide) hs2_
      have g17 := Zjp (f := Zf) (off := 2) (sz := 14) Z0t (fun _ => rfl) (by decide) (by decide) hx16
      obtain ⟨x18, hx18, ax18, bx18, cx18, hs2_⟩ := bE (f := Za) Gt (fun _ => rfl) (by decide) hs2_
      obtain ⟨y19, hy19, hs2_⟩ := bC hs2_
      refine Ydl [] ax16 bx16 cx16 g17 ax18 bx18 cx18 ?_
      refine (Zbp hy19).then ?_
      refine zF7 ax16 bx16 cx16 g17 ax18 bx18 cx18 ?_
      refine zD [1, 2, 3, 8, 9] [true] ?_
      refine zR ?_
      exact zEn hs2_
     replace hs2_ := Zw c20 hs2_
     exact zEx hs2_
    try simp only [Qg, Xm, ↓reduceIte, Nat.reduceEqDiff]
    refine zD [1, 2, 3, 8] [true] ?_
    refine zQ [1, 2, 3, 8, 95] ?_
    refine Zv (t := (decide (0 ≤ z21))) rfl (fun c25 => ?_) (fun c25 => ?_)
    ·replace hz11 := Zx c25 hz11
     obtain ⟨x22, hx22, ax22, bx22, cx22, hz11⟩ := bE (f := Zf) Zij (fun _ => rfl) (by decide) hz11
     have g23 := Zjp (f := Zf) (off := 3) (sz := 14) Zlu (fun _ => rfl) (by decide) (by decide) hx22
     obtain ⟨y24, hy24, hz11⟩ := bC hz11
     refine Z8n [] ax22 bx22 cx22 g23 ?_
     refine (Zg3 hy24).then ?_
     refine zF4 ax22 bx22 cx22 g23 ?_
     exact Yag hz11 ax22 bx22 cx22 g23
    replace hz11 := Zw c25 hz11
    refine zK ?_
    exact zEn hz11
   refine zR ?_
   exact zEn hs1_
  replace hs1_ := Zw c26 hs1_
  exact zEx hs1_
 try simp only [Qg, Xm, ↓reduceIte, Nat.reduceEqDiff]
 refine zD [2] [false] ?_
 refine zQ [6] ?_
 refine zW ?_
 obtain rfl := sI h
 refine Zz (.inr rfl) hU [(vI z27)] (by omega) ?_
 simp only [push_cast, seval, ↓reduceIte, Zd, Tryz.results13, hN0, hN]
theorem Zky : ∀ k, (Zg2 (Y0 k)) := fun k => by
 induction k with
 | zero => exact @fun a0 a1 a2 r O n h => (nomatch (show (none : Option _) = some _ from h))
 | succ k ih => exact @fun a0 a1 a2 r O n h => Zme (ih)  h
theorem Znd {a0 : Zc} {a1 : Int} {a2 : Int} {r : Int} {O : Objs} {n : Nat} (h : Zfi a0 a1 a2 = some r) : GTo Tryz.prog 13 [.agg (Zk a0), (vI a1), (vI a2)] O n ((vI r)) O n := by
 obtain ⟨k, hk⟩ := Zel h
 exact (Zky k)  hk
theorem Zom {a0 : Zc} {r : Bool} {O : Objs} {n : Nat} (h : Zac a0 = some r) : GTo Tryz.prog 4 [.agg (Zk a0)] O n ((vB r)) O n := by
 unfold Zac at h
 refine fn0 Zu Tryz.call4 Tryz.func4 rfl fun hU hN0 hN => ?_
 show W _ _ _ _ ⟨6, [], [(0, .agg (Zk a0))]⟩ (Zy O n []) _
 refine zQ [1] ?_
 refine Zo ?_
 obtain ⟨y2, hy2, h⟩ := bC h
 refine zCd (Znd hy2) [2] [false] ?_
 refine zW ?_
 obtain rfl := sI h
 refine Zz (.inr rfl) hU [(vB (decide (0 ≤ y2)))] (by omega) ?_
 simp only [push_cast, seval, ↓reduceIte, Zd, Tryz.results4, hN0, hN]
theorem Zke {a0 : Int} {r : Bool} {O : Objs} {n : Nat} (h : Zcn a0 = some r) : GTo Tryz.prog 51 [(vI a0)] O n ((vB r)) O n := by
 unfold Zcn at h
 refine fn0 Zu Tryz.call51 Tryz.func51 rfl fun hU hN0 hN => ?_
 show W _ _ _ _ ⟨9, [], [(0, (vI a0))]⟩ (Zy O n []) _
 refine zQ [0] ?_
 refine zQD [2] [none, none] ?_
 refine zW ?_
 obtain rfl := sI h
 refine Zz (.inr rfl) hU [(vB (cond (decide (2 ≤ a0)) (decide (a0 ≤ 9)) false))] (by omega) ?_
 simp only [push_cast, seval, ↓reduceIte, Zd, Tryz.results51, hN0, hN]
theorem Zh6 {a0 : (List Zb)} {r : Bool} {O : Objs} {n : Nat} (h : Gd a0 = some r) : GTo Tryz.prog 52 [(sL Za a0)] O n ((vB r)) O n := by
 unfold Gd at h
 refine fn0 Zu Tryz.call52 Tryz.func52 rfl fun hU hN0 hN => ?_
 show W _ _ _ _ ⟨15, [], [(0, (sL Za a0))]⟩ (Zy O n []) _
 refine zQ [0] ?_
 refine Zo ?_
 refine zQd [5, 6, 7] [5, 6, 7] [] ?_
 obtain ⟨z5, hz5, h⟩ := bC h
 refine Zhs (J := (Vy (fun z5 => JR n (⟨15, [], [(2, (vB false))]⟩ : Env) (Zy O n []) n) (fun z5 => JX 0 n (⟨15, [], []⟩ : Env) (Zy O n []) n))) (z := z5) ?_ fun hw => ?_
 ·refine Q4 hz5 (fun s0_ => ⟨15, [], [(5, (sL Za a0)), (6, (vI (a0.length : Int))), (7, (vI s0_))]⟩) (fun s0_ => (Zy O n [])) (Vy (fun z5 => JR n (⟨15, [], [(2, (vB false))]⟩ : Env) (Zy O n []) n) (fun z5 => JX 0 n (⟨15, [], []⟩ : Env) (Zy O n []) n)) ?_
  intro s0_ x0_ hs0_
  unfold Vl at hs0_
  try dsimp only
  refine zQ [5, 6, 7, 8] ?_
  refine Zo ?_
  refine Zv (t := (decide (s0_ < (a0.length : Int)))) rfl (fun c4 => ?_) (fun c4 => ?_)
  ·replace hs0_ := Zx c4 hs0_
   refine Gu [5, 6, 7] [] ?_
   refine Zo ?_
   refine Xh ?_
   refine Zo ?_
   obtain ⟨x2, hx2, ax2, bx2, cx2, hs0_⟩ := bE (f := Za) Gt (fun _ => rfl) (by decide) hs0_
   refine Ze4 [] ax2 bx2 cx2 ?_
   refine zD [4, 5, 6, 7] [true] ?_
   refine zQ [5, 6, 7, 13] ?_
   refine Zv (t := (x2.Kind != 1)) rfl (fun c3 => ?_) (fun c3 => ?_)
   ·replace hs0_ := Zx c3 hs0_
    refine zQ [2] ?_
    refine zW ?_
    exact zEy hs0_
   replace hs0_ := Zw c3 hs0_
   refine Gu [5, 6, 7] [false] ?_
   refine zR ?_
   exact zEn hs0_
  replace hs0_ := Zw c4 hs0_
  exact zEx hs0_
 rcases z5 with z5 | z5
 ·dsimp only [Vy] at hw h
  refine Zcb hw ?_
  try simp only [Qg, Xm, ↓reduceIte, Nat.reduceEqDiff]
  obtain rfl := sI h
  refine Zz (.inr rfl) hU [(vB false)] (by omega) ?_
  simp only [push_cast, seval, ↓reduceIte, Zd, Tryz.results52, hN0, hN]
 dsimp only [Vy] at hw h
 refine Qb hw ?_
 try simp only [Qg, Xm, ↓reduceIte, Nat.reduceEqDiff]
 refine zD [] [] ?_
 refine zQ [2] ?_
 refine zW ?_
 obtain rfl := sI h
 refine Zz (.inr rfl) hU [(vB true)] (by omega) ?_
 simp only [push_cast, seval, ↓reduceIte, Zd, Tryz.results52, hN0, hN]
theorem Zu2 {a0 : Int} {r : (Int × Bool)} {O : Objs} {n : Nat} (h : Zkd a0 = some r) : GTo Tryz.prog 101 [(vI a0)] O n (.tup [(vI r.1), (vB r.2)]) O n := by
 unfold Zkd at h
 refine fn0 Zu Tryz.call101 Tryz.func101 rfl fun hU hN0 hN => ?_
 show W _ _ _ _ ⟨15, [], [(0, (vI a0))]⟩ (Zy O n []) _
 refine zQ [0] ?_
 refine Zo ?_
 obtain ⟨y6, hy6, ey6, h⟩ := bY (f := (eI .i64)) (cs := [.val (.int .i64 0), .val (.int .i64 1), .val (.int .i64 8), .val (.int .i64 16), .val (.int .i64 32), .val (.int .i64 64)]) rfl h
 have g7 := congrArg G.agg ey6
 obtain ⟨y8, hy8, ey8, h⟩ := bY (f := (eI .i64)) (cs := [.val (.int .i64 0), .val (.int .i64 0), .val (.int .i64 0), .val (.int .i64 0), .val (.int .i64 0), .val (.int .i64 0)]) rfl h
 have g9 := congrArg (GObj.mk false 150 6 1) ey8
 have g10 := Z1h (f := (eI .i64)) y8 y6 (fun _ => rfl)
 refine Zmp [] g7 g9 g10 ?_
 refine zDs [0, 4] [true] ?_
 refine zQD [0, 4, 11] [none, none] ?_
 refine Zv (t := (cond (decide (a0 < 0)) true (decide (6 ≤ a0)))) rfl (fun c13 => ?_) (fun c13 => ?_)
 ·replace h := Zx c13 h
  refine zQ [2, 3] ?_
  refine zW ?_
  obtain rfl := sI h
  refine Zz (.inr rfl) hU [(vI 0), (vB false)] (by omega) ?_
  simp only [push_cast, seval, ↓reduceIte, Zd, Tryz.results101, hN0, hN]
 replace h := Zw c13 h
 refine Gu [0, 4] [true] ?_
 obtain ⟨x12, hx12, ax12, bx12, cx12, h⟩ := bEA (f := (eI .i64)) (b := 6) rfl Z7p (fun _ => rfl) (by decide) h
 refine Zn2 [2, 3] (Y2 Zu [] ?_)
 refine zF3 ax12 bx12 cx12 ?_
 refine zW ?_
 obtain rfl := sI h
 refine Zz (.inr rfl) hU [(vI x12), (vB true)] (by omega) ?_
 simp only [push_cast, seval, ↓reduceIte, Zd, Tryz.results101, hN0, hN]
theorem Zxj {a0 : Int} {a1 : Int} {r : Bool} {O : Objs} {n : Nat} (h : Zg0 a0 a1 = some r) : GTo Tryz.prog 70 [(vI a0), .val (.int .u64 a1)] O n ((vB r)) O n := by
 unfold Zg0 at h
 refine fn0 Zu Tryz.call70 Tryz.func70 rfl fun hU hN0 hN => ?_
 show W _ _ _ _ ⟨19, [], [(0, (vI a0)), (1, .val (.int .u64 a1))]⟩ (Zy O n []) _
 refine zQ [0, 1] ?_
 refine Zo ?_
 obtain ⟨y2, hy2, h⟩ := bC h
 refine zCd (Zu2 hy2) [1, 5, 6] [] ?_
 obtain ⟨z4, hz4, h⟩ := bC h
 refine X4 (E' := ⟨19, [], [(4, (vB z4))]⟩) (O' := (Zy O n [])) (n0 := n) ?_ ?_
 ·rcases Bool.eq_false_or_eq_true y2.2 with c7 | c7
  ·replace hz4 := Zx c7 hz4
   obtain ⟨pu6, hz4⟩ := bG hz4
   refine Y2 Zu [some true, some true, some true, some true] ?_
   simp only [push_cast, seval, ↓reduceIte, Zd, c7, pu6, hN0, hN]
   obtain rfl := sI hz4
   refine And.intro rfl (Fit2.of (Xi hU rfl rfl ?_) (by omega))
   simp only [push_cast, seval, ↓reduceIte, Zd, c7, pu6, hN0, hN]
  replace hz4 := Zw c7 hz4
  refine Zan [some false, some false, some false, some false] c7 ?_
  exact Ux hz4 c7
 refine zW ?_
 obtain rfl := sI h
 refine Zz (.inr rfl) hU [(vB z4)] (by omega) ?_
 simp only [push_cast, seval, ↓reduceIte, Zd, Tryz.results70, hN0, hN]
def Zbd (Xu : (Zb → Option Bool)) : Prop := ∀ {a0 : Zb} {r : Bool} {O : Objs} {n : Nat}, Xu a0 = some r → GTo Tryz.prog 22 [.agg (Zl a0)] O n ((vB r)) O n
def Zbe (Xs : (Zb → Int → Option Bool)) : Prop := ∀ {a0 : Zb} {a1 : Int} {r : Bool} {O : Objs} {n : Nat}, Xs a0 a1 = some r → GTo Tryz.prog 31 [.agg (Zl a0), (vI a1)] O n ((vB r)) O n
def Us (Y5 : ((List Zb) → Int → Option Bool)) : Prop := ∀ {a0 : (List Zb)} {a1 : Int} {r : Bool} {O : Objs} {n : Nat}, Y5 a0 a1 = some r → GTo Tryz.prog 50 [(sL Za a0), (vI a1)] O n ((vB r)) O n
def Ur (Xa : ((List Zb) → Int → Option Bool)) : Prop := ∀ {a0 : (List Zb)} {a1 : Int} {r : Bool} {O : Objs} {n : Nat}, Xa a0 a1 = some r → GTo Tryz.prog 53 [(sL Za a0), (vI a1)] O n ((vB r)) O n
theorem Zs7 {Xu : (Zb → Option Bool)} {Xs : (Zb → Int → Option Bool)} {Y5 : ((List Zb) → Int → Option Bool)} {Xa : ((List Zb) → Int → Option Bool)} (Zbg : Zbd Xu) (Zbh : Zbe Xs) (Va : Us Y5) (Za0 : Ur Xa) {a0 : Zb} {r : Bool} {O : Objs} {n : Nat} (h : Zfb Xu Xs Y5 Xa a0 = some r) : GTo Tryz.prog 22 [.agg (Zl a0)] O n ((vB r)) O n := by
 unfold Zfb at h
 refine fn0 Zu Tryz.call22 Tryz.func22 rfl fun hU hN0 hN => ?_
 show W _ _ _ _ ⟨18, [], [(0, .agg (Zl a0))]⟩ (Zy O n []) _
 refine zQ [1] ?_
 refine Zo ?_
 refine zQ [1, 5] ?_
 refine Zv (t := (a0.Kind == 10)) rfl (fun c3 => ?_) (fun c3 => ?_)
 ·replace h := Zx c3 h
  refine zQD [2] [none, none, none, none] ?_
  refine zW ?_
  obtain rfl := sI h
  refine Zz (.inr rfl) hU [(vB (cond ((a0.Words.length : Int) == 1) ((a0.Kids.length : Int) == 0) false))] (by omega) ?_
  simp only [push_cast, seval, ↓reduceIte, Zd, Tryz.results22, hN0, hN]
 replace h := Zw c3 h
 refine Gu [1] [true] ?_
 refine Zo ?_
 obtain ⟨y2, hy2, h⟩ := bC h
 refine zCd (Zbh hy2) [2] [false] ?_
 refine zW ?_
 obtain rfl := sI h
 refine Zz (.inr rfl) hU [(vB y2)] (by omega) ?_
 simp only [push_cast, seval, ↓reduceIte, Zd, Tryz.results22, hN0, hN]
theorem Zs8 {Xu : (Zb → Option Bool)} {Xs : (Zb → Int → Option Bool)} {Y5 : ((List Zb) → Int → Option Bool)} {Xa : ((List Zb) → Int → Option Bool)} (Zbg : Zbd Xu) (Zbh : Zbe Xs) (Va : Us Y5) (Za0 : Ur Xa) {a0 : Zb} {a1 : Int} {r : Bool} {O : Objs} {n : Nat} (h : Zfc Xu Xs Y5 Xa a0 a1 = some r) : GTo Tryz.prog 31 [.agg (Zl a0), (vI a1)] O n ((vB r)) O n := by
 unfold Zfc at h
 refine fn0 Zu Tryz.call31 Tryz.func31 rfl fun hU hN0 hN => ?_
 show W _ _ _ _ ⟨83, [], [(0, .agg (Zl a0)), (1, (vI a1))]⟩ (Zy O n []) _
 refine zQ [1, 2] ?_
 refine Zo ?_
 refine zQ [1, 2, 7] ?_
 refine Zv (t := (a0.Kind == 0)) rfl (fun c26 => ?_) (fun c26 => ?_)
 ·replace h := Zx c26 h
  refine zQD [4] [none, none, none, none] ?_
  refine zW ?_
  obtain rfl := sI h
  refine Zz (.inr rfl) hU [(vB (cond ((a0.Words.length : Int) == 0) ((a0.Kids.length : Int) == 0) false))] (by omega) ?_
  simp only [push_cast, seval, ↓reduceIte, Zd, Tryz.results31, hN0, hN]
 replace h := Zw c26 h
 refine Gu [1, 2] [true] ?_
 refine Zo ?_
 refine zQ [1, 2, 19] ?_
 refine Zv (t := (a1 == 0)) rfl (fun c25 => ?_) (fun c25 => ?_)
 ·replace h := Zx c25 h
  refine zQ [4] ?_
  refine zW ?_
  obtain rfl := sI h
  refine Zz (.inr rfl) hU [(vB false)] (by omega) ?_
  simp only [push_cast, seval, ↓reduceIte, Zd, Tryz.results31, hN0, hN]
 replace h := Zw c25 h
 refine Gu [1, 2] [true] ?_
 refine Zo ?_
 refine zQ [1, 2, 22] ?_
 refine Zv (t := (a0.Kind == 1)) rfl (fun c24 => ?_) (fun c24 => ?_)
 ·replace h := Zx c24 h
  obtain ⟨z2, hz2, h⟩ := bC h
  refine X4 (E' := ⟨83, [], [(4, (vB z2))]⟩) (O' := (Zy O n [none])) (n0 := (n + 1)) ?_ ?_
  ·rcases Bool.eq_false_or_eq_true (decide ((a0.Words.length : Int) < 65536)) with c5 | c5
   ·replace hz2 := Zx c5 hz2
    rcases Bool.eq_false_or_eq_true (decide ((a0.Kids.length : Int) < 65536)) with c6 | c6
    ·replace hz2 := Zx c6 hz2
     try rw [c6] at c5
     obtain ⟨y4, hy4, hz2⟩ := bC hz2
     refine Vp [none, none, none, none, some true, some true, some true, some true, some true] c5 c6 ?_
     refine zG ?_
     refine (Va hy4).then ?_
     refine zX2 c5 c6 ?_
     refine zG ?_
     exact Zg4 hz2 c5 c6
    replace hz2 := Zw c6 hz2
    try rw [c6] at c5
    refine Vp [none, none, none, none, some false, some false, some false, some false, some false] c5 c6 ?_
    refine zG ?_
    exact Zg4 hz2 c5 c6
   replace hz2 := Zw c5 hz2
   refine Zan [none, none, none, none, some false, some false, some false, some false, some false] c5 ?_
   refine zG ?_
   exact Ux hz2 c5
  refine zW ?_
  obtain rfl := sI h
  refine Zz (.inr rfl) hU [(vB z2)] (by omega) ?_
  simp only [push_cast, seval, ↓reduceIte, Zd, Tryz.results31, hN0, hN]
 replace h := Zw c24 h
 refine Gu [1, 2] [true] ?_
 refine Zo ?_
 refine Zo ?_
 obtain ⟨y8, hy8, h⟩ := bC h
 refine zRo [none, none, none, none, none, none, none, none] ?_
 refine zG ?_
 refine zTs (Zke hy8) ?_
 refine zG ?_
 refine zD [1, 2, 55] [true] ?_
 refine Zv (t := (cond (cond (!y8) true (decide (0 < (a0.Words.length : Int)))) true (decide (1048576 ≤ (a0.Kids.length : Int))))) rfl (fun c23 => ?_) (fun c23 => ?_)
 ·replace h := Zx c23 h
  refine zQ [4] ?_
  refine zW ?_
  obtain rfl := sI h
  refine Zz (.inr rfl) hU [(vB false)] (by omega) ?_
  simp only [push_cast, seval, ↓reduceIte, Zd, Tryz.results31, hN0, hN]
 replace h := Zw c23 h
 refine Gu [1, 2] [true] ?_
 refine Zo ?_
 refine zQ [1, 2, 57] ?_
 refine Xh ?_
 refine zQ [1, 2, 57, 58] ?_
 refine Zv (t := (a0.Kind == 8)) rfl (fun c22 => ?_) (fun c22 => ?_)
 ·replace h := Zx c22 h
  refine Zo ?_
  obtain ⟨y10, hy10, h⟩ := bC h
  refine zCd (Va hy10) [4] [false] ?_
  refine zW ?_
  obtain rfl := sI h
  refine Zz (.inr rfl) hU [(vB y10)] (by omega) ?_
  simp only [push_cast, seval, ↓reduceIte, Zd, Tryz.results31, hN0, hN]
 replace h := Zw c22 h
 refine zQ [1, 2, 65] ?_
 refine Zv (t := (a0.Kind == 9)) rfl (fun c21 => ?_) (fun c21 => ?_)
 ·replace h := Zx c21 h
  obtain ⟨z13, hz13, h⟩ := bC h
  refine X4 (E' := ⟨83, [], [(4, (vB z13))]⟩) (O' := (Zy O n [none])) (n0 := (n + 1)) ?_ ?_
  ·obtain ⟨y16, hy16, hz13⟩ := bC hz13
   rcases Bool.eq_false_or_eq_true y16 with c18 | c18
   ·replace hz13 := Zx c18 hz13
    obtain ⟨y17, hy17, hz13⟩ := bC hz13
    refine Zan [some true, some true, some true, some true, some true] c18 ?_
    refine (Zh6 hy16).then ?_
    refine zX1 c18 ?_
    refine (Va hy17).then ?_
    refine zX1 c18 ?_
    exact Ux hz13 c18
   replace hz13 := Zw c18 hz13
   refine Zan [some false, some false, some false, some false, some false] c18 ?_
   refine (Zh6 hy16).then ?_
   refine zX1 c18 ?_
   exact Ux hz13 c18
  refine zW ?_
  obtain rfl := sI h
  refine Zz (.inr rfl) hU [(vB z13)] (by omega) ?_
  simp only [push_cast, seval, ↓reduceIte, Zd, Tryz.results31, hN0, hN]
 replace h := Zw c21 h
 refine Gu [2] [true] ?_
 refine Zo ?_
 obtain ⟨y20, hy20, h⟩ := bC h
 refine zCd (Za0 hy20) [4] [false] ?_
 refine zW ?_
 obtain rfl := sI h
 refine Zz (.inr rfl) hU [(vB y20)] (by omega) ?_
 simp only [push_cast, seval, ↓reduceIte, Zd, Tryz.results31, hN0, hN]
theorem Zoq {Xu : (Zb → Option Bool)} {Xs : (Zb → Int → Option Bool)} {Y5 : ((List Zb) → Int → Option Bool)} {Xa : ((List Zb) → Int → Option Bool)} (Zbg : Zbd Xu) (Zbh : Zbe Xs) (Va : Us Y5) (Za0 : Ur Xa) {a0 : (List Zb)} {a1 : Int} {r : Bool} {O : Objs} {n : Nat} (h : Za9 Xu Xs Y5 Xa a0 a1 = some r) : GTo Tryz.prog 50 [(sL Za a0), (vI a1)] O n ((vB r)) O n := by
 unfold Za9 at h
 refine fn0 Zu Tryz.call50 Tryz.func50 rfl fun hU hN0 hN => ?_
 show W _ _ _ _ ⟨18, [], [(0, (sL Za a0)), (1, (vI a1))]⟩ (Zy O n []) _
 refine zQ [0, 1] ?_
 refine Zo ?_
 refine zQd [1, 7, 8, 9] [1, 7, 8, 9] [] ?_
 obtain ⟨z7, hz7, h⟩ := bC h
 refine Zhs (J := (Vy (fun z7 => JR n (⟨18, [], [(4, (vB false))]⟩ : Env) (Zy O n []) n) (fun z7 => JX 0 n (⟨18, [], []⟩ : Env) (Zy O n []) n))) (z := z7) ?_ fun hw => ?_
 ·refine Q4 hz7 (fun s0_ => ⟨18, [], [(1, (vI a1)), (7, (sL Za a0)), (8, (vI (a0.length : Int))), (9, (vI s0_))]⟩) (fun s0_ => (Zy O n [])) (Vy (fun z7 => JR n (⟨18, [], [(4, (vB false))]⟩ : Env) (Zy O n []) n) (fun z7 => JX 0 n (⟨18, [], []⟩ : Env) (Zy O n []) n)) ?_
  intro s0_ x0_ hs0_
  unfold Ul at hs0_
  try dsimp only
  refine zQ [1, 7, 8, 9, 10] ?_
  refine Zo ?_
  refine Zv (t := (decide (s0_ < (a0.length : Int)))) rfl (fun c6 => ?_) (fun c6 => ?_)
  ·replace hs0_ := Zx c6 hs0_
   refine Gu [1, 7, 8, 9] [] ?_
   refine Zo ?_
   refine Xh ?_
   refine Zo ?_
   obtain ⟨x2, hx2, ax2, bx2, cx2, hs0_⟩ := bE (f := Za) Gt (fun _ => rfl) (by decide) hs0_
   refine Ze4 [] ax2 bx2 cx2 ?_
   refine zDs [1, 6, 7, 8, 9] [true] ?_
   obtain ⟨y4, hy4, hs0_⟩ := bC hs0_
   refine zCd (Zbh hy4) [1, 7, 8, 9, 16] [false] ?_
   refine Zv (t := (!y4)) rfl (fun c5 => ?_) (fun c5 => ?_)
   ·replace hs0_ := Zx c5 hs0_
    refine zQ [4] ?_
    refine zW ?_
    exact zEy hs0_
   replace hs0_ := Zw c5 hs0_
   refine Gu [1, 7, 8, 9] [false] ?_
   refine zR ?_
   exact zEn hs0_
  replace hs0_ := Zw c6 hs0_
  exact zEx hs0_
 rcases z7 with z7 | z7
 ·dsimp only [Vy] at hw h
  refine Zcb hw ?_
  try simp only [Qg, Xm, ↓reduceIte, Nat.reduceEqDiff]
  obtain rfl := sI h
  refine Zz (.inr rfl) hU [(vB false)] (by omega) ?_
  simp only [push_cast, seval, ↓reduceIte, Zd, Tryz.results50, hN0, hN]
 dsimp only [Vy] at hw h
 refine Qb hw ?_
 try simp only [Qg, Xm, ↓reduceIte, Nat.reduceEqDiff]
 refine zD [] [] ?_
 refine zQ [4] ?_
 refine zW ?_
 obtain rfl := sI h
 refine Zz (.inr rfl) hU [(vB true)] (by omega) ?_
 simp only [push_cast, seval, ↓reduceIte, Zd, Tryz.results50, hN0, hN]
theorem Zop {Xu : (Zb → Option Bool)} {Xs : (Zb → Int → Option Bool)} {Y5 : ((List Zb) → Int → Option Bool)} {Xa : ((List Zb) → Int → Option Bool)} (Zbg : Zbd Xu) (Zbh : Zbe Xs) (Va : Us Y5) (Za0 : Ur Xa) {a0 : (List Zb)} {a1 : Int} {r : Bool} {O : Objs} {n : Nat} (h : Za8 Xu Xs Y5 Xa a0 a1 = some r) : GTo Tryz.prog 53 [(sL Za a0), (vI a1)] O n ((vB r)) O n := by
 unfold Za8 at h
 refine fn0 Zu Tryz.call53 Tryz.func53 rfl fun hU hN0 hN => ?_
 show W _ _ _ _ ⟨31, [], [(0, (sL Za a0)), (1, (vI a1))]⟩ (Zy O n []) _
 refine zQ [0, 1] ?_
 refine Zo ?_
 refine zQd [1, 7, 8, 9] [1, 7, 8, 9] [] ?_
 obtain ⟨z17, hz17, h⟩ := bC h
 refine Zhs (J := (Vy (fun z17 => JR n (⟨31, [], [(4, (vB false))]⟩ : Env) (Zy O n []) n) (fun z17 => JX 0 n (⟨31, [], []⟩ : Env) (Zy O n []) n))) (z := z17) ?_ fun hw => ?_
 ·refine Q4 hz17 (fun s0_ => ⟨31, [], [(1, (vI a1)), (7, (sL Za a0)), (8, (vI (a0.length : Int))), (9, (vI s0_))]⟩) (fun s0_ => (Zy O n [])) (Vy (fun z17 => JR n (⟨31, [], [(4, (vB false))]⟩ : Env) (Zy O n []) n) (fun z17 => JX 0 n (⟨31, [], []⟩ : Env) (Zy O n []) n)) ?_
  intro s0_ x0_ hs0_
  unfold Uk at hs0_
  try dsimp only
  refine zQ [1, 7, 8, 9, 10] ?_
  refine Zo ?_
  refine Zv (t := (decide (s0_ < (a0.length : Int)))) rfl (fun c16 => ?_) (fun c16 => ?_)
  ·replace hs0_ := Zx c16 hs0_
   refine Gu [1, 7, 8, 9] [] ?_
   refine Zo ?_
   refine Xh ?_
   refine Zo ?_
   obtain ⟨x2, hx2, ax2, bx2, cx2, hs0_⟩ := bE (f := Za) Gt (fun _ => rfl) (by decide) hs0_
   refine Ze4 [] ax2 bx2 cx2 ?_
   refine zD [1, 6, 7, 8, 9] [true] ?_
   obtain ⟨z6, hz6, hs0_⟩ := bC hs0_
   refine X4 (E' := ⟨31, [], [(1, (vI a1)), (7, (sL Za a0)), (8, (vI (a0.length : Int))), (9, (vI s0_)), (29, (vB z6))]⟩) (O' := (Zy O n [none])) (n0 := (n + 1)) ?_ ?_
   ·rcases Bool.eq_false_or_eq_true (x2.Kind != 10) with c13 | c13
    ·replace hz6 := Zx c13 hz6
     refine Zan [some false, some false, some false, some false, some false, some false, some false, some false, some false, some false] c13 ?_
     exact Ux hz6 c13
    replace hz6 := Zw c13 hz6
    obtain ⟨y10, hy10, hz6⟩ := bC hz6
    rcases Bool.eq_false_or_eq_true y10 with c14 | c14
    ·replace hz6 := Zx c14 hz6
     try rw [c14] at c13
     obtain ⟨x11, hx11, ax11, bx11, cx11, hz6⟩ := bE (f := (eI .u64)) Zkx (fun _ => rfl) (by decide) hz6
     obtain ⟨y12, hy12, hz6⟩ := bC hz6
     refine Z4a [some true, some true, some true, some true, some true, some true, some true, some true, some true, some true] c13 c14 ax11 bx11 cx11 ?_
     refine (Zbg hy10).then ?_
     refine zF5 c13 c14 ax11 bx11 cx11 ?_
     refine (Zxj hy12).then ?_
     refine zF5 c13 c14 ax11 bx11 cx11 ?_
     exact Yah hz6 c13 c14 ax11 bx11 cx11
    replace hz6 := Zw c14 hz6
    try rw [c14] at c13
    refine Vp [some true, some true, some true, some false, some false, some false, some false, some false, some false, some false] c13 c14 ?_
    refine (Zbg hy10).then ?_
    refine zX2 c13 c14 ?_
    exact Zg4 hz6 c13 c14
   refine Zv (t := z6) rfl (fun c15 => ?_) (fun c15 => ?_)
   ·replace hs0_ := Zx c15 hs0_
    refine zQ [4] ?_
    refine zW ?_
    exact zEy hs0_
   replace hs0_ := Zw c15 hs0_
   refine Gu [1, 7, 8, 9] [false] ?_
   refine zR ?_
   exact zEn hs0_
  replace hs0_ := Zw c16 hs0_
  exact zEx hs0_
 rcases z17 with z17 | z17
 ·dsimp only [Vy] at hw h
  refine Zcb hw ?_
  try simp only [Qg, Xm, ↓reduceIte, Nat.reduceEqDiff]
  obtain rfl := sI h
  refine Zz (.inr rfl) hU [(vB false)] (by omega) ?_
  simp only [push_cast, seval, ↓reduceIte, Zd, Tryz.results53, hN0, hN]
 dsimp only [Vy] at hw h
 refine Qb hw ?_
 try simp only [Qg, Xm, ↓reduceIte, Nat.reduceEqDiff]
 refine zD [] [] ?_
 refine zQ [4] ?_
 refine zW ?_
 obtain rfl := sI h
 refine Zz (.inr rfl) hU [(vB true)] (by omega) ?_
 simp only [push_cast, seval, ↓reduceIte, Zd, Tryz.results53, hN0, hN]
theorem Zpv : ∀ k, (Zbd ((Z0 k).1)) ∧ (Zbe ((Z0 k).2.1)) ∧ (Us ((Z0 k).2.2.1)) ∧ (Ur ((Z0 k).2.2.2)) := fun k => by
 induction k with
 | zero => exact ⟨@fun a0 r O n h => (nomatch (show (none : Option _) = some _ from h)), @fun a0 a1 r O n h => (nomatch (show (none : Option _) = some _ from h)), @fun a0 a1 r O n h => (nomatch (show (none : Option _) = some _ from h)), @fun a0 a1 r O n h => (nomatch (show (none : Option _) = some _ from h))⟩
 | succ k ih => exact ⟨@fun a0 r O n h => Zs7 (ih.1) (ih.2.1) (ih.2.2.1) (ih.2.2.2)  h, @fun a0 a1 r O n h => Zs8 (ih.1) (ih.2.1) (ih.2.2.1) (ih.2.2.2)  h, @fun a0 a1 r O n h => Zoq (ih.1) (ih.2.1) (ih.2.2.1) (ih.2.2.2)  h, @fun a0 a1 r O n h => Zop (ih.1) (ih.2.1) (ih.2.2.1) (ih.2.2.2)  h⟩
theorem Zgo {a0 : Zb} {r : Bool} {O : Objs} {n : Nat} (h : Zdt a0 = some r) : GTo Tryz.prog 22 [.agg (Zl a0)] O n ((vB r)) O n := by
 obtain ⟨k, hk⟩ := Zel h
 exact (Zpv k).1  hk
theorem Gg {a0 : (List Int)} {r : (List Int)} {O : Objs} {n : Nat} (h : K8 a0 = some r) : GTo Tryz.prog 32 [(sL (eI .u64) a0)] O n ((sL (eI .u64) r)) O n := by
 unfold K8 at h
 refine fn0 Zu Tryz.call32 Tryz.func32 rfl fun hU hN0 hN => ?_
 show W _ _ _ _ ⟨22, [], [(0, (sL (eI .u64) a0))]⟩ (Zy O n []) _
 refine zQ [0] ?_
 refine zQ [0, 3] ?_
 refine Zo ?_
 refine zD [0, 3] [] ?_
 obtain ⟨z7, hz7, h⟩ := bC h
 refine Qb (E' := ⟨22, [], [(0, (sL (eI .u64) a0)), (3, (vI z7))]⟩) (O' := (Zy O n [])) (n0 := n) ?_ ?_
 ·refine Q4 hz7 (fun s0_ => ⟨22, [], [(0, (sL (eI .u64) a0)), (3, (vI s0_))]⟩) (fun s0_ => (Zy O n [])) (fun z7 => JX 0 n (⟨22, [], [(0, (sL (eI .u64) a0)), (3, (vI z7))]⟩ : Env) (Zy O n []) n) ?_
  intro s0_ x0_ hs0_
  unfold V7 at hs0_
  try dsimp only
  refine Zo ?_
  obtain ⟨z2, hz2, hs0_⟩ := bC hs0_
  refine X4 (E' := ⟨22, [], [(0, (sL (eI .u64) a0)), (3, (vI s0_)), (15, (vB z2))]⟩) (O' := (Zy O n [])) (n0 := n) ?_ ?_
  ·rcases Bool.eq_false_or_eq_true (decide (0 < s0_)) with c5 | c5
   ·replace hz2 := Zx c5 hz2
    obtain ⟨x4, hx4, ax4, bx4, cx4, hz2⟩ := bE (f := (eI .u64)) Zkx (fun _ => rfl) (by decide) hz2
    refine Z8n [some true, some true, some true, some true, some true, some true] c5 ax4 bx4 cx4 ?_
    exact Yag hz2 c5 ax4 bx4 cx4
   replace hz2 := Zw c5 hz2
   refine Zan [some false, some false, some false, some false, some false, some false] c5 ?_
   exact Ux hz2 c5
  refine Zv (t := z2) rfl (fun c6 => ?_) (fun c6 => ?_)
  ·replace hs0_ := Zx c6 hs0_
   refine Gu [0, 3] [] ?_
   refine Xh ?_
   refine zR ?_
   exact zEn hs0_
  replace hs0_ := Zw c6 hs0_
  exact zEx hs0_
 try simp only [Qg, Xm, ↓reduceIte, Nat.reduceEqDiff]
 refine zD [0, 3] [] ?_
 obtain ⟨l9, al9, bl9, cl9, gl9, h⟩ := bS3 (lo := none) (hi := (.i64, z7)) (f := (eI .u64)) rfl rfl Zrk Zkx (fun _ => rfl) h
 refine Ydk [2] al9 bl9 cl9 gl9 ?_
 refine zW ?_
 obtain rfl := sI h
 refine Zz (.inr rfl) hU [(sL (eI .u64) l9)] (by omega) ?_
 simp only [push_cast, seval, ↓reduceIte, Zd, Tryz.results32, hN0, hN]
theorem Zf9 {a0 : (List Zb)} {r : (List Zb)} {O : Objs} {n : Nat} (h : V1 a0 = some r) : GTo Tryz.prog 33 [(sL Za a0)] O n ((sL Za r)) O n := by
 unfold V1 at h
 refine fn0 Zu Tryz.call33 Tryz.func33 rfl fun hU hN0 hN => ?_
 show W _ _ _ _ ⟨23, [], [(0, (sL Za a0))]⟩ (Zy O n []) _
 refine zQ [0] ?_
 refine zQ [0, 3] ?_
 refine Zo ?_
 refine zD [0, 3] [] ?_
 obtain ⟨z10, hz10, h⟩ := bC h
 refine Qb (E' := ⟨23, [], [(0, (sL Za a0)), (3, (vI z10))]⟩) (O' := (Zy O n [])) (n0 := n) ?_ ?_
 ·refine Q4 hz10 (fun s0_ => ⟨23, [], [(0, (sL Za a0)), (3, (vI s0_))]⟩) (fun s0_ => (Zy O n [])) (fun z10 => JX 0 n (⟨23, [], [(0, (sL Za a0)), (3, (vI z10))]⟩ : Env) (Zy O n []) n) ?_
  intro s0_ x0_ hs0_
  unfold Uq at hs0_
  try dsimp only
  refine Zo ?_
  obtain ⟨z3, hz3, hs0_⟩ := bC hs0_
  refine X4 (E' := ⟨23, [], [(0, (sL Za a0)), (3, (vI s0_)), (16, (vB z3))]⟩) (O' := (Zy O n [])) (n0 := n) ?_ ?_
  ·rcases Bool.eq_false_or_eq_true (decide (0 < s0_)) with c8 | c8
   ·replace hz3 := Zx c8 hz3
    obtain ⟨x6, hx6, ax6, bx6, cx6, hz3⟩ := bE (f := Za) Gt (fun _ => rfl) (by decide) hz3
    have g7 := Z1g (f := Za) (sz := 3) Z7p (fun _ => rfl) (by decide) (by decide) hx6
    refine Z4a [some true, some true, some true, some true, some true, some true, some true] c8 ax6 bx6 cx6 g7 ?_
    exact Yah hz3 c8 ax6 bx6 cx6 g7
   replace hz3 := Zw c8 hz3
   refine Zan [some false, some false, some false, some false, some false, some false, some false] c8 ?_
   exact Ux hz3 c8
  refine Zv (t := z3) rfl (fun c9 => ?_) (fun c9 => ?_)
  ·replace hs0_ := Zx c9 hs0_
   refine Gu [0, 3] [] ?_
   refine Xh ?_
   refine zR ?_
   exact zEn hs0_
  replace hs0_ := Zw c9 hs0_
  exact zEx hs0_
 try simp only [Qg, Xm, ↓reduceIte, Nat.reduceEqDiff]
 refine zD [0, 3] [] ?_
 obtain ⟨l12, al12, bl12, cl12, gl12, h⟩ := bS3 (lo := none) (hi := (.i64, z10)) (f := Za) rfl rfl Zhn Gt (fun _ => rfl) h
 refine Ydk [2] al12 bl12 cl12 gl12 ?_
 refine zW ?_
 obtain rfl := sI h
 refine Zz (.inr rfl) hU [(sL Za l12)] (by omega) ?_
 simp only [push_cast, seval, ↓reduceIte, Zd, Tryz.results33, hN0, hN]
def Zll (Zar : (Zb → Option Zb)) : Prop := ∀ {a0 : Zb} {r : Zb} {O : Objs} {n : Nat}, Zar a0 = some r → GTo Tryz.prog 23 [.agg (Zl a0)] O n (.agg (Zl r)) O n
theorem Zu3 {Zar : (Zb → Option Zb)} (Zs0 : Zll Zar) {a0 : Zb} {r : Zb} {O : Objs} {n : Nat} (h : Zgp Zar a0 = some r) : GTo Tryz.prog 23 [.agg (Zl a0)] O n (.agg (Zl r)) O n := by
 unfold Zgp at h
 refine fn0 Zu Tryz.call23 Tryz.func23 rfl fun hU hN0 hN => ?_
 show W _ _ _ _ ⟨49, [], [(0, .agg (Zl a0))]⟩ (Zy O n []) _
 refine zQ [1, 2] ?_
 refine Zo ?_
 refine zQ [1, 2, 10] ?_
 refine Zv (t := (a0.Kind == 0)) rfl (fun c15 => ?_) (fun c15 => ?_)
 ·replace h := Zx c15 h
  refine Zo ?_
  refine zRd [2] [false, true] ?_
  refine zW ?_
  obtain rfl := sI h
  refine Zz (.inr rfl) hU [.agg [(vI 0), nV, nV]] (by omega) ?_
  simp only [push_cast, seval, ↓reduceIte, Zd, Tryz.results23, hN0, hN]
 replace h := Zw c15 h
 refine Gu [1, 2] [true, true] ?_
 refine Zn2 [1, 2, 3, 4] (Ze7 Zu (by kernel_rfl) [] (by kernel_rfl) ?_)
 refine zS ?_
 obtain ⟨z1, hz1, h⟩ := bC h
 refine X4 (E' := ⟨49, [], [(1, .ref n 0), (2, .ref (n + 1) 0), (3, (sL (eI .u64) z1.1)), (4, (sL Za z1.2))]⟩) (O' := (Zy O n [some ⟨false, 25, 3, 1, (Zl a0)⟩, some ⟨false, 25, 3, 1, [(vI 0), nV, nV]⟩])) (n0 := (n + 2)) ?_ ?_
 ·refine zQ [1, 2, 3, 4, 18] ?_
  refine Zv (t := (a0.Kind == 1)) rfl (fun c4 => ?_) (fun c4 => ?_)
  ·replace hz1 := Zx c4 hz1
   obtain ⟨y2, hy2, hz1⟩ := bC hz1
   obtain ⟨y3, hy3, hz1⟩ := bC hz1
   refine zC (Gg hy2) ?_
   refine zTs (Zf9 hy3) ?_
   exact zEn hz1
  replace hz1 := Zw c4 hz1
  refine zK ?_
  exact zEn hz1
 refine Zo ?_
 refine zRd [2, 4, 5] [false, true, true] ?_
 obtain ⟨z5, hz5, h⟩ := bC h
 refine X4 (E' := ⟨49, [], [(2, .ref (n + 1) 0), (4, (sL Za z1.2)), (5, .ref (n + 2) 0)]⟩) (O' := (Zy O n [none, some ⟨false, 25, 3, 1, [(vI 0), nV, nV]⟩, some ⟨false, 25, 3, 1, [(vI a0.Kind), (sL (eI .u64) z1.1), .row (n + 4) z5.length]⟩, none, some (oR 25 3 Za z5), none])) (n0 := (n + 6)) ?_ ?_
 ·refine zQ [2, 4, 5, 29] ?_
  refine Zv (t := (decide (0 < (z1.2.length : Int)))) rfl (fun c7 => ?_) (fun c7 => ?_)
  ·replace hz5 := Zx c7 hz5
   obtain ⟨l6, al6, bl6, cl6, el6, hz5⟩ := bM2 (c := 56) rfl hz5
   have nl6 : Int.toNat (z1.2.length : Int) = List.length l6 := by rw [el6, List.length_replicate]
   have fl6 : ∀ O O' n, Uz O O' n (List.replicate (List.length l6) [.val (.int .i64 0), .val (.slice none 0 0), .val (.slice none 0 0)]).flatten (fl Za l6) = True := fun O O' n => by rw [← nl6, el6]; exact eq_true (Z0z (by simp only [push_cast, seval, ↓reduceIte, Zd]) _)
   clear el6
   refine Y2 Zu [] ?_
   simp only [push_cast, seval, ↓reduceIte, Zd, al6, bl6, cl6, fl6, nl6, hN0, hN]
   obtain rfl := sI hz5
   refine And.intro rfl ?_
   refine Fit2.trans (E' := (⟨49, [], [(2, .ref (n + 1) 0), (4, (sL Za z1.2)), (5, .ref (n + 2) 0)]⟩ : Env)) (O' := (Zy O n [none, some ⟨false, 25, 3, 1, [(vI 0), nV, nV]⟩, some ⟨false, 25, 3, 1, [(vI a0.Kind), (sL (eI .u64) z1.1), .row (n + 3) l6.length]⟩, some (oR 25 3 Za l6)])) (n' := (n + 4)) (Fit2.of (Xi hU rfl rfl ?_) (by omega)) ?_
   ·simp only [push_cast, seval, ↓reduceIte, Zd, al6, bl6, cl6, fl6, nl6, hN0, hN]
   refine K2 (k := 4) (k' := 6) hU [5, 1, 2, 4] [0, 1, 2, 0, 3, 0] rfl rfl rfl rfl ⟨rfl, rfl⟩ ?_
   exact zSe
  replace hz5 := Zw c7 hz5
  refine zK ?_
  obtain rfl := sI hz5
  refine And.intro rfl ?_
  refine Fit2.trans (E' := (⟨49, [], [(2, .ref (n + 1) 0), (4, (sL Za z1.2)), (5, .ref (n + 2) 0)]⟩ : Env)) (O' := (Zy O n [none, some ⟨false, 25, 3, 1, [(vI 0), nV, nV]⟩, some ⟨false, 25, 3, 1, [(vI a0.Kind), (sL (eI .u64) z1.1), nV]⟩])) (n' := (n + 3)) (Fit2.of (Xi hU rfl rfl ?_) (by omega)) ?_
  ·exact zSe
  refine Fit2.trans (Kp (p := (n + 2)) (k := 2) (q := ⟨false, 25, 3, 1, [(vI a0.Kind), (sL (eI .u64) z1.1), nV]⟩) 25 3 (by simp only [Kg, Vb, List.getElem?_cons_zero, List.getElem?_cons_succ, Option.join_some, List.length_nil, Z3]) rfl (by omega)) ?_
  simp only [Yq, Yc, Vr, Ko, List.set_cons_zero, List.set_cons_succ, List.cons_append, List.nil_append, List.length_cons, List.length_nil, Nat.zero_add, Nat.reduceAdd, Nat.reduceLT, Nat.add_assoc]
  refine K2 (k := 4) (k' := 6) hU [5, 1, 2, 4] [0, 1, 2, 0, 3, 0] rfl rfl rfl rfl ⟨rfl, rfl⟩ ?_
  exact zSe
 refine Zo ?_
 refine zQd [2, 5, 34, 35, 36] [2, 5, 34, 35, 36] [false, true, true, false, true, false] ?_
 obtain ⟨z14, hz14, h⟩ := bC h
 refine Qb (E' := ⟨49, [], [(2, .ref (n + 1) 0), (5, .ref (n + 2) 0)]⟩) (O' := (Zy O n [none, some ⟨false, 25, 3, 1, [(vI 0), nV, nV]⟩, some ⟨false, 25, 3, 1, [(vI a0.Kind), (sL (eI .u64) z1.1), .row (n + 4) z14.length]⟩, none, some (oR 25 3 Za z14), none])) (n0 := (n + 6)) ?_ ?_
 ·refine Q4 hz14 (fun s0_ => ⟨49, [], [(2, .ref (n + 1) 0), (5, .ref (n + 2) 0), (34, (sL Za z1.2)), (35, (vI (z1.2.length : Int))), (36, (vI s0_.1))]⟩) (fun s0_ => (Zy O n [none, some ⟨false, 25, 3, 1, [(vI 0), nV, nV]⟩, some ⟨false, 25, 3, 1, [(vI a0.Kind), (sL (eI .u64) z1.1), .row (n + 4) s0_.2.length]⟩, none, some (oR 25 3 Za s0_.2), none])) (fun z14 => JX 0 n (⟨49, [], [(2, .ref (n + 1) 0), (5, .ref (n + 2) 0)]⟩ : Env) (Zy O n [none, some ⟨false, 25, 3, 1, [(vI 0), nV, nV]⟩, some ⟨false, 25, 3, 1, [(vI a0.Kind), (sL (eI .u64) z1.1), .row (n + 4) z14.length]⟩, none, some (oR 25 3 Za z14), none]) (n + 6)) ?_
  intro s0_ x0_ hs0_
  unfold G0 at hs0_
  try dsimp only
  refine zQ [2, 5, 34, 35, 36, 37] ?_
  refine Zo ?_
  refine Zv (t := (decide (s0_.1 < (z1.2.length : Int)))) rfl (fun c13 => ?_) (fun c13 => ?_)
  ·replace hs0_ := Zx c13 hs0_
   refine Gu [2, 5, 34, 35, 36] [false, true, true, false, true, false] ?_
   refine Zo ?_
   refine Xh ?_
   refine Zo ?_
   obtain ⟨x9, hx9, ax9, bx9, cx9, hs0_⟩ := bE (f := Za) Gt (fun _ => rfl) (by decide) hs0_
   refine Ze4 [] ax9 bx9 cx9 ?_
   refine zD [2, 5, 6, 7, 34, 35, 36] [false, true, true, false, true, false, true] ?_
   obtain ⟨y10, hy10, hs0_⟩ := bC hs0_
   obtain ⟨x11, hx11, ax11, bx11, cx11, hs0_⟩ := bE (f := Za) Gt (fun _ => rfl) (by decide) hs0_
   have gu12 : Kh (fl Za s0_.2) [.val (.int .i64 y10.Kind), .sl y10.Words.length (fl (eI .u64) y10.Words), .sl y10.Kids.length (fl Za y10.Kids)] (Int.toNat s0_.1 * 3) = some (fl Za (Zhe s0_.2 s0_.1 y10)) := (congrArg (fun c => Kh (fl Za s0_.2) c (Int.toNat s0_.1 * 3)) (show [.val (.int .i64 y10.Kind), .sl y10.Words.length (fl (eI .u64) y10.Words), .sl y10.Kids.length (fl Za y10.Kids)] = Za y10 from by simp only [Za, Yh, eI, eB, eS, eL])).trans (Zpp (f := Za) (ti := ⟨.bool, 3, 0, [], false⟩) (x := y10) (fun _ => rfl) (Zhx hx11))
   refine Zj7 Zu (by kernel_rfl) [false, false, false, false, false, false, true] [] (by kernel_rfl) ?_
   refine zF4 ax11 bx11 cx11 gu12 ?_
   refine PCall.of (Zs0 hy10) ?_
   refine zF4 ax11 bx11 cx11 gu12 ?_
   refine zD [2, 5, 34, 35, 36] [false, true, true, false, true, false, false] ?_
   refine zR ?_
   exact zEn hs0_
  replace hs0_ := Zw c13 hs0_
  exact zEx hs0_
 try simp only [Qg, Xm, ↓reduceIte, Nat.reduceEqDiff]
 refine zDs [2, 5] [false, true, true, false, true, false] ?_
 refine zRd [2] [false, true, false, false, true, false] ?_
 refine zW ?_
 obtain rfl := sI h
 refine Zz (.inr rfl) hU [.agg [(vI a0.Kind), (sL (eI .u64) z1.1), .row (n + 4) z14.length]] (by omega) ?_
 simp only [push_cast, seval, ↓reduceIte, Zd, Tryz.results23, hN0, hN]
theorem Zq0 : ∀ k, (Zll (Ua k)) := fun k => by
 induction k with
 | zero => exact @fun a0 r O n h => (nomatch (show (none : Option _) = some _ from h))
 | succ k ih => exact @fun a0 r O n h => Zu3 (ih)  h
theorem Gf {a0 : Zb} {r : Zb} {O : Objs} {n : Nat} (h : Gc a0 = some r) : GTo Tryz.prog 23 [.agg (Zl a0)] O n (.agg (Zl r)) O n := by
 obtain ⟨k, hk⟩ := Zel h
 exact (Zq0 k)  hk
theorem Zsx {a0 : Zb} {r : Zn} {O : Objs} {n : Nat}  (h : Zen a0 = some r) : GTo Tryz.prog 14 [.agg (Zl a0)] O n (.ref n 0) (Zy O n [some ⟨false, 51, 5, 1, [(vI r.now.Kind), (sL (eI .u64) r.now.Words), (sL Za r.now.Kids), .row (n + 1) r.done.length, .row (n + 2) r.back.length]⟩, some (oR 30 11 Ze r.done), some (oR 30 11 Ze r.back)]) (n + 3) := by
 unfold Zen at h
 refine Zez Zu Tryz.call14 Tryz.func14 rfl (Nat.le_of_ble_eq_true rfl) (by omega) fun hU => ?_
 have hN0 : O n = none := hU.fresh _ (Nat.le_refl _)
 have hN : ∀ k, O (n + k) = none := fun k => hU.fresh _ (Nat.le_add_right _ _)
 show W _ _ _ _ ⟨15, [], [(0, .agg (Zl a0))]⟩ (Zy O n []) _
 refine zQ [1] ?_
 refine Zo ?_
 obtain ⟨z2, hz2, h⟩ := bC h
 refine X4 (E' := ⟨15, [], [(1, .ref n 0), (10, (vB z2))]⟩) (O' := (Zy O n [some ⟨false, 25, 3, 1, (Zl a0)⟩])) (n0 := (n + 1)) ?_ ?_
 ·rcases Bool.eq_false_or_eq_true (a0.Kind == 10) with c5 | c5
  ·replace hz2 := Zx c5 hz2
   refine Zan [some false, some false, some false] c5 ?_
   exact Ux hz2 c5
  replace hz2 := Zw c5 hz2
  obtain ⟨y4, hy4, hz2⟩ := bC hz2
  refine Zan [some true, some true, some true] c5 ?_
  refine (Zgo hy4).then ?_
  refine zX1 c5 ?_
  exact Ux hz2 c5
 refine Zv (t := z2) rfl (fun c8 => ?_) (fun c8 => ?_)
 ·replace h := Zx c8 h
  refine zQ [2] ?_
  refine zW ?_
  cases h
 replace h := Zw c8 h
 refine Gu [1] [true] ?_
 refine Zo ?_
 obtain ⟨y7, hy7, h⟩ := bC h
 refine zCd (Gf hy7) [2] [false, true] ?_
 refine zW ?_
 obtain rfl := sI h
 refine Zn6 (k := 3) (L3 := [some ⟨false, 51, 5, 1, [(vI y7.Kind), (sL (eI .u64) y7.Words), (sL Za y7.Kids), .row (n + 1) ([] : List Zc).length, .row (n + 2) ([] : List Zc).length]⟩, some (oR 30 11 Ze ([] : List Zc)), some (oR 30 11 Ze ([] : List Zc)), none]) (E2 := (⟨15, [], [(2, .ref n 0)]⟩ : Env)) (n3 := (n + 4)) (.inr rfl) hU rfl [.ref n 0] ?_ ?_
 ·refine Fit2.trans (E' := (⟨15, [], [(2, .ref (n + 1) 0)]⟩ : Env)) (O' := (Zy O n [none, some ⟨false, 51, 5, 1, [(vI y7.Kind), (sL (eI .u64) y7.Words), (sL Za y7.Kids), nV, nV]⟩])) (n' := (n + 2)) (Fit2.of (Xi hU rfl rfl ?_) (by omega)) ?_
  ·exact zSe
  refine Fit2.trans (Kp (p := (n + 1)) (k := 3) (q := ⟨false, 51, 5, 1, [(vI y7.Kind), (sL (eI .u64) y7.Words), (sL Za y7.Kids), nV, nV]⟩) 30 11 (by simp only [Kg, Vb, List.getElem?_cons_zero, List.getElem?_cons_succ, Option.join_some, List.length_nil, Z3]) rfl (by omega)) ?_
  simp only [Yq, Yc, Vr, Ko, List.set_cons_zero, List.set_cons_succ, List.cons_append, List.nil_append, List.length_cons, List.length_nil, Nat.zero_add, Nat.reduceAdd, Nat.reduceLT, Nat.add_assoc]
  refine Fit2.trans (Kp (p := (n + 1)) (k := 4) (q := ⟨false, 51, 5, 1, [(vI y7.Kind), (sL (eI .u64) y7.Words), (sL Za y7.Kids), .row (n + 2) ([] : List Zc).length, nV]⟩) 30 11 (by simp only [Kg, Vb, List.getElem?_cons_zero, List.getElem?_cons_succ, Option.join_some, List.length_nil, Z3]) rfl (by omega)) ?_
  simp only [Yq, Yc, Vr, Ko, List.set_cons_zero, List.set_cons_succ, List.cons_append, List.nil_append, List.length_cons, List.length_nil, Nat.zero_add, Nat.reduceAdd, Nat.reduceLT, Nat.add_assoc]
  refine K2 (k := 4) (k' := 4) hU [3, 0, 1, 2] [1, 2, 3, 0] rfl rfl rfl rfl ⟨rfl, rfl⟩ ?_
  exact zSe
 simp only [push_cast, seval, ↓reduceIte, Zd, Tryz.results14, hN0, hN]
theorem Zfk {a0 : Zb} {r : Bool} {O : Objs} {n : Nat} (h : Ue a0 = some r) : GTo Tryz.prog 36 [.agg (Zl a0)] O n ((vB r)) O n := by
 unfold Ue at h
 refine fn0 Zu Tryz.call36 Tryz.func36 rfl fun hU hN0 hN => ?_
 show W _ _ _ _ ⟨16, [], [(0, .agg (Zl a0))]⟩ (Zy O n []) _
 refine zQ [1] ?_
 refine zQD [2] [none, none, none, none, none, none, none, none] ?_
 refine zW ?_
 obtain rfl := sI h
 refine Zz (.inr rfl) hU [(vB (cond (a0.Kind != 0) true (decide (0 < (IntKind.i64.wrap ((a0.Words.length : Int) + (a0.Kids.length : Int)))))))] (by omega) ?_
 simp only [push_cast, seval, ↓reduceIte, Zd, Tryz.results36, hN0, hN]
theorem J0 {a0 : Bool} {a1 : Bool} {a2 : Bool} {a3 : Zc} {r : Bool} {O : Objs} {n : Nat} (h : Vj a0 a1 a2 a3 = some r) : GTo Tryz.prog 35 [(vB a0), (vB a1), (vB a2), .ip (Zk a3) 0] O n ((vB r)) O n := by
 unfold Vj at h
 refine fn0 Zu Tryz.call35 Tryz.func35 rfl fun hU hN0 hN => ?_
 show W _ _ _ _ ⟨49, [], [(0, (vB a0)), (1, (vB a1)), (2, (vB a2)), (3, .ip (Zk a3) 0)]⟩ (Zy O n []) _
 refine zQ [0, 1, 2, 3] ?_
 obtain ⟨z3, hz3, h⟩ := bC h
 refine X4 (E' := ⟨49, [], [(7, (vB z3))]⟩) (O' := (Zy O n [])) (n0 := n) ?_ ?_
 ·rcases Bool.eq_false_or_eq_true a0 with c8 | c8
  ·replace hz3 := Zx c8 hz3
   obtain ⟨y6, hy6, hz3⟩ := bC hz3
   rcases Bool.eq_false_or_eq_true y6 with c9 | c9
   ·replace hz3 := Zx c9 hz3
    try rw [c9] at c8
    refine Vp [some true, some true, some true, some true, some false, some false, some false, some true, some false, some false, some false, some false, some false, some false, some false, some false, some false, some false, some false, some false, some false, some false, some false, some false, some false, some false, some false, some false, some false, some false, some false, some false, some false] c8 c9 ?_
    refine (Zfk hy6).then ?_
    refine zX2 c8 c9 ?_
    exact Zg4 hz3 c8 c9
   replace hz3 := Zw c9 hz3
   try rw [c9] at c8
   obtain ⟨y7, hy7, hz3⟩ := bC hz3
   refine Vp [some true, some true, some true, some true, some true, some true, some true, some true, none, none, none, none, none, none, none, none, none, none, none, none, none, none, none, none, none, none, none, none, none, none, none, none, none] c8 c9 ?_
   refine zG ?_
   refine (Zfk hy6).then ?_
   refine zX2 c8 c9 ?_
   refine zG ?_
   refine (Zfk hy7).then ?_
   refine zX2 c8 c9 ?_
   refine zG ?_
   exact Zg4 hz3 c8 c9
  replace hz3 := Zw c8 hz3
  refine Zan [some false, some false, some false, some false, some false, some false, some false, some false, some true, some true, none, none, none, none, none, none, none, none, some true, some true, none, none, none, none, none, none, none, none, none, none, none, none, none] c8 ?_
  refine zG ?_
  exact Ux hz3 c8
 refine zW ?_
 obtain rfl := sI h
 refine Zz (.inr rfl) hU [(vB z3)] (by omega) ?_
 simp only [push_cast, seval, ↓reduceIte, Zd, Tryz.results35, hN0, hN]
theorem Zja {a0 : Zb} {r : Bool} {O : Objs} {n : Nat} (h : Zds a0 = some r) : GTo Tryz.prog 37 [.agg (Zl a0)] O n ((vB r)) O n := by
 unfold Zds at h
 refine fn0 Zu Tryz.call37 Tryz.func37 rfl fun hU hN0 hN => ?_
 show W _ _ _ _ ⟨10, [], [(0, .agg (Zl a0))]⟩ (Zy O n []) _
 refine zQ [1] ?_
 obtain ⟨z2, hz2, h⟩ := bC h
 refine X4 (E' := ⟨10, [], [(2, (vB z2))]⟩) (O' := (Zy O n [none])) (n0 := (n + 1)) ?_ ?_
 ·rcases Bool.eq_false_or_eq_true (a0.Kind != 10) with c5 | c5
  ·replace hz2 := Zx c5 hz2
   obtain ⟨y4, hy4, hz2⟩ := bC hz2
   refine Zan [some true, some true] c5 ?_
   refine (Zgo hy4).then ?_
   refine zX1 c5 ?_
   exact Ux hz2 c5
  replace hz2 := Zw c5 hz2
  refine Zan [some false, some false] c5 ?_
  exact Ux hz2 c5
 refine zW ?_
 obtain rfl := sI h
 refine Zz (.inr rfl) hU [(vB z2)] (by omega) ?_
 simp only [push_cast, seval, ↓reduceIte, Zd, Tryz.results37, hN0, hN]
theorem Zkf {a0 : Int} {r : Int} {O : Objs} {n : Nat} (h : Ge a0 = some r) : GTo Tryz.prog 56 [.val (.int .u8 a0)] O n (.val (.int .u64 r)) O n := by
 unfold Ge at h
 refine fn0 Zu Tryz.call56 Tryz.func56 rfl fun hU hN0 hN => ?_
 show W _ _ _ _ ⟨20, [], [(0, .val (.int .u8 a0))]⟩ (Zy O n []) _
 refine zQ [0] ?_
 refine zQ [0, 3] ?_
 refine Zo ?_
 refine zQd [0, 3, 5] [0, 3, 5] [] ?_
 obtain ⟨z7, hz7, h⟩ := bC h
 refine Qb (E' := ⟨20, [], [(3, .val (.int .u64 z7))]⟩) (O' := (Zy O n [])) (n0 := n) ?_ ?_
 ·refine Q4 hz7 (fun s0_ => ⟨20, [], [(0, .val (.int .u8 a0)), (3, .val (.int .u64 s0_.1)), (5, (vI s0_.2))]⟩) (fun s0_ => (Zy O n [])) (fun z7 => JX 0 n (⟨20, [], [(3, .val (.int .u64 z7))]⟩ : Env) (Zy O n []) n) ?_
  intro s0_ x0_ hs0_
  unfold Zco at hs0_
  try dsimp only
  refine zQ [0, 3, 5, 6] ?_
  refine Zo ?_
  refine Zv (t := (decide (s0_.2 < 8))) rfl (fun c6 => ?_) (fun c6 => ?_)
  ·replace hs0_ := Zx c6 hs0_
   refine Gu [0, 3, 5] [] ?_
   obtain ⟨z1, hz1, hs0_⟩ := bC hs0_
   refine X4 (E' := ⟨20, [], [(0, .val (.int .u8 a0)), (3, .val (.int .u64 z1)), (5, (vI s0_.2))]⟩) (O' := (Zy O n [])) (n0 := n) ?_ ?_
   ·refine Xh ?_
    refine zQ [0, 3, 4, 5] ?_
    obtain ⟨pu3, hz1⟩ := bG hz1
    refine Zn2 [0, 3, 4, 5, 12] (Y2 Zu [] ?_)
    simp only [push_cast, seval, ↓reduceIte, Zd, pu3, hN0, hN]
    refine Zv (t := ((IntKind.u8.wrap (Ze1 .u8 (Int.fdiv a0 (2 ^ min (Int.toNat s0_.2) 8)) 1)) == 1)) rfl (fun c5 => ?_) (fun c5 => ?_)
    ·replace hz1 := Zx c5 hz1
     obtain ⟨pu4, hz1⟩ := bG hz1
     refine Y2 Zu [] ?_
     simp only [push_cast, seval, ↓reduceIte, Zd, pu4, hN0, hN]
     obtain rfl := sI hz1
     refine And.intro rfl (Fit2.of (Xi hU rfl rfl ?_) (by omega))
     simp only [push_cast, seval, ↓reduceIte, Zd, pu4, hN0, hN]
    replace hz1 := Zw c5 hz1
    refine zK ?_
    exact zEn hz1
   refine zR ?_
   exact zEn hs0_
  replace hs0_ := Zw c6 hs0_
  exact zEx hs0_
 try simp only [Qg, Xm, ↓reduceIte, Nat.reduceEqDiff]
 refine zD [3] [] ?_
 refine zQ [2] ?_
 refine zW ?_
 obtain rfl := sI h
 refine Zz (.inr rfl) hU [.val (.int .u64 z7)] (by omega) ?_
 simp only [push_cast, seval, ↓reduceIte, Zd, Tryz.results56, hN0, hN]
theorem Zh4 {a0 : (List Zs)} {r : Bool} {O : Objs} {n : Nat} (h : Gb a0 = some r) : GTo Tryz.prog 38 [(sL Zg a0)] O n ((vB r)) O n := by
 unfold Gb at h
 refine fn0 Zu Tryz.call38 Tryz.func38 rfl fun hU hN0 hN => ?_
 show W _ _ _ _ ⟨48, [], [(0, (sL Zg a0))]⟩ (Zy O n []) _
 refine zQ [0] ?_
 refine zQ [0, 3] ?_
 refine Zo ?_
 refine zQd [3, 7, 8, 9] [3, 7, 8, 9] [] ?_
 obtain ⟨z7, hz7, h⟩ := bC h
 refine Zhs (J := (Vy (fun z7 => JR n (⟨48, [], [(2, (vB false))]⟩ : Env) (Zy O n []) n) (fun z7 => JX 0 n (⟨48, [], []⟩ : Env) (Zy O n []) n))) (z := z7) ?_ fun hw => ?_
 ·refine Q4 hz7 (fun s0_ => ⟨48, [], [(3, (vI s0_.1)), (7, (sL Zg a0)), (8, (vI (a0.length : Int))), (9, (vI s0_.2))]⟩) (fun s0_ => (Zy O n [])) (Vy (fun z7 => JR n (⟨48, [], [(2, (vB false))]⟩ : Env) (Zy O n []) n) (fun z7 => JX 0 n (⟨48, [], []⟩ : Env) (Zy O n []) n)) ?_
  intro s0_ x0_ hs0_
  unfold Vi at hs0_
  try dsimp only
  refine zQ [3, 7, 8, 9, 10] ?_
  refine Zo ?_
  refine Zv (t := (decide (s0_.2 < (a0.length : Int)))) rfl (fun c6 => ?_) (fun c6 => ?_)
  ·replace hs0_ := Zx c6 hs0_
   refine Gu [3, 7, 8, 9] [] ?_
   refine Zo ?_
   refine Xh ?_
   refine Zo ?_
   obtain ⟨x2, hx2, ax2, bx2, cx2, hs0_⟩ := bE (f := Zg) Zvw (fun _ => rfl) (by decide) hs0_
   refine Ze4 [] ax2 bx2 cx2 ?_
   refine zDs [3, 5, 7, 8, 9] [true] ?_
   obtain ⟨y4, hy4, hs0_⟩ := bC hs0_
   refine zCd (Zkf hy4) [3, 5, 6, 7, 8, 9] [true] ?_
   refine Zo ?_
   refine zQD [5, 7, 8, 9, 44] [none, none, none, none, none, none, none, none, none, none, none, none, none, none, none, none] ?_
   refine Zv (t := (cond (cond (cond (cond (decide (x2.At ≤ s0_.1)) true (decide (65534 < x2.At))) true (x2.Mask == 0)) true ((IntKind.u64.wrap (Ze1 .u64 x2.Old (IntKind.u64.wrap (Zgy .u64 (if IntKind.signed .u64 = true then -1 else IntKind.max .u64) y4)))) != 0)) true ((IntKind.u64.wrap (Ze1 .u64 x2.New (IntKind.u64.wrap (Zgy .u64 (if IntKind.signed .u64 = true then -1 else IntKind.max .u64) y4)))) != 0))) rfl (fun c5 => ?_) (fun c5 => ?_)
   ·replace hs0_ := Zx c5 hs0_
    refine zQ [2] ?_
    refine zW ?_
    exact zEy hs0_
   replace hs0_ := Zw c5 hs0_
   refine Gu [5, 7, 8, 9] [true] ?_
   refine zRd [3, 7, 8, 9] [false] ?_
   refine zR ?_
   exact zEn hs0_
  replace hs0_ := Zw c6 hs0_
  exact zEx hs0_
 rcases z7 with z7 | z7
 ·dsimp only [Vy] at hw h
  refine Zcb hw ?_
  try simp only [Qg, Xm, ↓reduceIte, Nat.reduceEqDiff]
  obtain rfl := sI h
  refine Zz (.inr rfl) hU [(vB false)] (by omega) ?_
  simp only [push_cast, seval, ↓reduceIte, Zd, Tryz.results38, hN0, hN]
 dsimp only [Vy] at hw h
 refine Qb hw ?_
 try simp only [Qg, Xm, ↓reduceIte, Nat.reduceEqDiff]
 refine zD [] [] ?_
 refine zQ [2] ?_
 refine zW ?_
 obtain rfl := sI h
 refine Zz (.inr rfl) hU [(vB true)] (by omega) ?_
 simp only [push_cast, seval, ↓reduceIte, Zd, Tryz.results38, hN0, hN]
theorem Zjv {a0 : Int} {a1 : Zc} {r : Bool} {O : Objs} {n : Nat} (h : Zbc a0 a1 = some r) : GTo Tryz.prog 80 [(vI a0), .agg (Zk a1)] O n ((vB r)) O n := by
 unfold Zbc at h
 refine fn0 Zu Tryz.call80 Tryz.func80 rfl fun hU hN0 hN => ?_
 show W _ _ _ _ ⟨33, [], [(0, (vI a0)), (1, .agg (Zk a1))]⟩ (Zy O n []) _
 refine zQ [0, 3] ?_
 refine Zo ?_
 refine zQ [3, 5] ?_
 refine Xh ?_
 refine zQ [3, 5, 6] ?_
 refine Zv (t := (a0 == 8)) rfl (fun c2 => ?_) (fun c2 => ?_)
 ·replace h := Zx c2 h
  refine zQ [4] ?_
  refine zW ?_
  obtain rfl := sI h
  refine Zz (.inr rfl) hU [(vB (a1.Kind != 0))] (by omega) ?_
  simp only [push_cast, seval, ↓reduceIte, Zd, Tryz.results80, hN0, hN]
 replace h := Zw c2 h
 refine zQ [3, 11] ?_
 refine Zv (t := (a0 == 9)) rfl (fun c1 => ?_) (fun c1 => ?_)
 ·replace h := Zx c1 h
  refine zQD [4] [none, none, none, none, none, none, none, none, none, none, none, none, none, none, none] ?_
  refine zW ?_
  obtain rfl := sI h
  refine Zz (.inr rfl) hU [(vB (cond (a1.Kind == 2) true (cond (cond (a1.Kind == 1) (a1.Old.Kind == 1) false) (a1.New.Kind == 1) false)))] (by omega) ?_
  simp only [push_cast, seval, ↓reduceIte, Zd, Tryz.results80, hN0, hN]
 replace h := Zw c1 h
 refine Gu [] [false] ?_
 refine zQ [4] ?_
 refine zW ?_
 obtain rfl := sI h
 refine Zz (.inr rfl) hU [(vB false)] (by omega) ?_
 simp only [push_cast, seval, ↓reduceIte, Zd, Tryz.results80, hN0, hN]
theorem Zks {a0 : Zj} {r : Int} {O : Objs} {n : Nat} (h : Zad a0 = some r) : GTo Tryz.prog 81 [.agg (Xk a0)] O n ((vI r)) O n := by
 unfold Zad at h
 refine fn0 Zu Tryz.call81 Tryz.func81 rfl fun hU hN0 hN => ?_
 show W _ _ _ _ ⟨19, [], [(0, .agg (Xk a0))]⟩ (Zy O n []) _
 refine zQ [1] ?_
 refine Zo ?_
 refine zQ [1, 4] ?_
 refine Xh ?_
 refine zQ [1, 4, 5] ?_
 refine Zv (t := (a0.Kind == 0)) rfl (fun c5 => ?_) (fun c5 => ?_)
 ·replace h := Zx c5 h
  refine zQ [2] ?_
  refine zW ?_
  obtain rfl := sI h
  refine Zz (.inr rfl) hU [(vI (if 1048576 < (if a0.N < 0 then 0 else a0.N) then 1048576 else (if a0.N < 0 then 0 else a0.N)))] (by omega) ?_
  simp only [push_cast, seval, ↓reduceIte, Zd, Tryz.results81, hN0, hN]
 replace h := Zw c5 h
 obtain ⟨z1, hz1, h⟩ := bC h
 refine X4 (E' := ⟨19, [], [(1, .ref n 0), (4, (vI a0.Kind)), (11, (vB z1))]⟩) (O' := (Zy O n [some ⟨false, 61, 14, 1, (Xk a0)⟩])) (n0 := (n + 1)) ?_ ?_
 ·refine zQ [1, 4, 11] ?_
  refine Zv (t := (a0.Kind == 1)) rfl (fun c2 => ?_) (fun c2 => ?_)
  ·replace hz1 := Zx c2 hz1
   refine zK ?_
   exact zEn hz1
  replace hz1 := Zw c2 hz1
  refine zR ?_
  exact zEn hz1
 refine Zv (t := z1) rfl (fun c4 => ?_) (fun c4 => ?_)
 ·replace h := Zx c4 h
  refine zQ [2] ?_
  refine zW ?_
  obtain rfl := sI h
  refine Zz (.inr rfl) hU [(vI (a0.L.length : Int))] (by omega) ?_
  simp only [push_cast, seval, ↓reduceIte, Zd, Tryz.results81, hN0, hN]
 replace h := Zw c4 h
 refine zQ [17] ?_
 refine Zv (t := (a0.Kind == 3)) rfl (fun c3 => ?_) (fun c3 => ?_)
 ·replace h := Zx c3 h
  refine zQ [2] ?_
  refine zW ?_
  obtain rfl := sI h
  refine Zz (.inr rfl) hU [(vI 1)] (by omega) ?_
  simp only [push_cast, seval, ↓reduceIte, Zd, Tryz.results81, hN0, hN]
 replace h := Zw c3 h
 refine Gu [] [false] ?_
 refine zQ [2] ?_
 refine zW ?_
 obtain rfl := sI h
 refine Zz (.inr rfl) hU [(vI 0)] (by omega) ?_
 simp only [push_cast, seval, ↓reduceIte, Zd, Tryz.results81, hN0, hN]
theorem Zq4 {a0 : Zc} {r : (Int × Int)} {O : Objs} {n : Nat} (h : Zcm a0 = some r) : GTo Tryz.prog 58 [.agg (Zk a0)] O n (.tup [(vI r.1), (vI r.2)]) O n := by
 unfold Zcm at h
 refine fn0 Zu Tryz.call58 Tryz.func58 rfl fun hU hN0 hN => ?_
 show W _ _ _ _ ⟨34, [], [(0, .agg (Zk a0))]⟩ (Zy O n []) _
 refine zQ [1] ?_
 refine zQ [1, 4, 5] ?_
 refine Zo ?_
 refine zQd [4, 5, 9, 10, 11] [4, 5, 9, 10, 11] [false] ?_
 obtain ⟨z10, hz10, h⟩ := bC h
 refine Qb (E' := ⟨34, [], [(4, (vI z10.1)), (5, (vI z10.2))]⟩) (O' := (Zy O n [none])) (n0 := (n + 1)) ?_ ?_
 ·refine Q4 hz10 (fun s0_ => ⟨34, [], [(4, (vI s0_.1)), (5, (vI s0_.2.1)), (9, (sL Zf a0.Ops)), (10, (vI (a0.Ops.length : Int))), (11, (vI s0_.2.2))]⟩) (fun s0_ => (Zy O n [none])) (fun z10 => JX 0 n (⟨34, [], [(4, (vI z10.1)), (5, (vI z10.2))]⟩ : Env) (Zy O n [none]) (n + 1)) ?_
  intro s0_ x0_ hs0_
  unfold Ga at hs0_
  try dsimp only
  refine zQ [4, 5, 9, 10, 11, 12] ?_
  refine Zo ?_
  refine Zv (t := (decide (s0_.2.2 < (a0.Ops.length : Int)))) rfl (fun c9 => ?_) (fun c9 => ?_)
  ·replace hs0_ := Zx c9 hs0_
   refine Gu [4, 5, 9, 10, 11] [false] ?_
   obtain ⟨z1, hz1, hs0_⟩ := bC hs0_
   refine X4 (E' := ⟨34, [], [(4, (vI z1.1)), (5, (vI z1.2)), (9, (sL Zf a0.Ops)), (10, (vI (a0.Ops.length : Int))), (11, (vI s0_.2.2))]⟩) (O' := (Zy O n [none, none])) (n0 := (n + 2)) ?_ ?_
   ·refine Xh ?_
    refine Zo ?_
    obtain ⟨x3, hx3, ax3, bx3, cx3, hz1⟩ := bE (f := Zf) Zij (fun _ => rfl) (by decide) hz1
    refine Ze4 [] ax3 bx3 cx3 ?_
    refine zD [4, 5, 7, 9, 10, 11] [false, true] ?_
    obtain ⟨z4, hz4, hz1⟩ := bC hz1
    refine X4 (E' := ⟨34, [], [(4, (vI z4)), (5, (vI s0_.2.1)), (7, .ref (n + 1) 0), (9, (sL Zf a0.Ops)), (10, (vI (a0.Ops.length : Int))), (11, (vI s0_.2.2))]⟩) (O' := (Zy O n [none, some ⟨false, 61, 14, 1, (Xk x3)⟩])) (n0 := (n + 2)) ?_ ?_
    ·refine zQ [4, 5, 7, 9, 10, 11, 17] ?_
     refine Zv (t := (x3.Kind != 2)) rfl (fun c6 => ?_) (fun c6 => ?_)
     ·replace hz4 := Zx c6 hz4
      obtain ⟨y5, hy5, hz4⟩ := bC hz4
      refine zC (Zks hy5) ?_
      exact zEn hz4
     replace hz4 := Zw c6 hz4
     refine zK ?_
     exact zEn hz4
    refine zQ [4, 5, 7, 9, 10, 11, 25] ?_
    refine Zv (t := (x3.Kind != 1)) rfl (fun c8 => ?_) (fun c8 => ?_)
    ·replace hz1 := Zx c8 hz1
     obtain ⟨y7, hy7, hz1⟩ := bC hz1
     refine zC (Zks hy7) ?_
     exact zEn hz1
    replace hz1 := Zw c8 hz1
    refine zK ?_
    exact zEn hz1
   refine zR ?_
   exact zEn hs0_
  replace hs0_ := Zw c9 hs0_
  exact zEx hs0_
 try simp only [Qg, Xm, ↓reduceIte, Nat.reduceEqDiff]
 refine zD [4, 5] [false] ?_
 refine zQ [2, 3] ?_
 refine zW ?_
 obtain rfl := sI h
 refine Zz (.inr rfl) hU [(vI z10.1), (vI z10.2)] (by omega) ?_
 simp only [push_cast, seval, ↓reduceIte, Zd, Tryz.results58, hN0, hN]
def V2 (Yw : (Zc → Option Bool)) : Prop := ∀ {a0 : Zc} {r : Bool} {O : Objs} {n : Nat}, Yw a0 = some r → GTo Tryz.prog 16 [.agg (Zk a0)] O n ((vB r)) O n
def V3 (Ys : (Zc → Int → Option Bool)) : Prop := ∀ {a0 : Zc} {a1 : Int} {r : Bool} {O : Objs} {n : Nat}, Ys a0 a1 = some r → GTo Tryz.prog 25 [.agg (Zk a0), (vI a1)] O n ((vB r)) O n
def Jo (Yd : ((List Zp) → Int → Option Bool)) : Prop := ∀ {a0 : (List Zp)} {a1 : Int} {r : Bool} {O : Objs} {n : Nat}, Yd a0 a1 = some r → GTo Tryz.prog 39 [(sL Zi a0), (vI a1)] O n ((vB r)) O n
def J8 (Yg : (Zc → Int → Option Bool)) : Prop := ∀ {a0 : Zc} {a1 : Int} {r : Bool} {O : Objs} {n : Nat}, Yg a0 a1 = some r → GTo Tryz.prog 40 [.agg (Zk a0), (vI a1)] O n ((vB r)) O n
def Ku (Yi : (Int → Zj → Int → Option Bool)) : Prop := ∀ {a0 : Int} {a1 : Zj} {a2 : Int} {r : Bool} {O : Objs} {n : Nat}, Yi a0 a1 a2 = some r → GTo Tryz.prog 57 [(vI a0), .agg (Xk a1), (vI a2)] O n ((vB r)) O n
def Jp (Yb : (Bool → Bool → Bool → Zj → Option Bool)) : Prop := ∀ {a0 : Bool} {a1 : Bool} {a2 : Bool} {a3 : Zj} {r : Bool} {O : Objs} {n : Nat}, Yb a0 a1 a2 a3 = some r → GTo Tryz.prog 79 [(vB a0), (vB a1), (vB a2), .ip (Xk a3) 0] O n ((vB r)) O n
theorem Zs3 {Yw : (Zc → Option Bool)} {Ys : (Zc → Int → Option Bool)} {Yd : ((List Zp) → Int → Option Bool)} {Yg : (Zc → Int → Option Bool)} {Yi : (Int → Zj → Int → Option Bool)} {Yb : (Bool → Bool → Bool → Zj → Option Bool)} (J3 : V2 Yw) (Kz : V3 Ys) (Kw : Jo Yd) (K9 : J8 Yg) (Vv : Ku Yi) (Xp : Jp Yb) {a0 : Zc} {r : Bool} {O : Objs} {n : Nat} (h : Ze8 Yw Ys Yd Yg Yi Yb a0 = some r) : GTo Tryz.prog 16 [.agg (Zk a0)] O n ((vB r)) O n := by
 unfold Ze8 at h
 refine fn0 Zu Tryz.call16 Tryz.func16 rfl fun hU hN0 hN => ?_
 show W _ _ _ _ ⟨5, [], [(0, .agg (Zk a0))]⟩ (Zy O n []) _
 refine zQ [1] ?_
 refine Zo ?_
 obtain ⟨y2, hy2, h⟩ := bC h
 refine zCd (Kz hy2) [2] [false] ?_
 refine zW ?_
 obtain rfl := sI h
 refine Zz (.inr rfl) hU [(vB y2)] (by omega) ?_
 simp only [push_cast, seval, ↓reduceIte, Zd, Tryz.results16, hN0, hN]
theorem Zs4 {Yw : (Zc → Option Bool)} {Ys : (Zc → Int → Option Bool)} {Yd : ((List Zp) → Int → Option Bool)} {Yg : (Zc → Int → Option Bool)} {Yi : (Int → Zj → Int → Option Bool)} {Yb : (Bool → Bool → Bool → Zj → Option Bool)} (J3 : V2 Yw) (Kz : V3 Ys) (Kw : Jo Yd) (K9 : J8 Yg) (Vv : Ku Yi) (Xp : Jp Yb) {a0 : Zc} {a1 : Int} {r : Bool} {O : Objs} {n : Nat} (h : Ze9 Yw Ys Yd Yg Yi Yb a0 a1 = some r) : GTo Tryz.prog 25 [.agg (Zk a0), (vI a1)] O n ((vB r)) O n := by
 unfold Ze9 at h
 refine fn0 Zu Tryz.call25 Tryz.func25 rfl fun hU hN0 hN => ?_
 show W _ _ _ _ ⟨55, [], [(0, .agg (Zk a0)), (1, (vI a1))]⟩ (Zy O n []) _
 refine zQ [1, 2] ?_
 refine Zo ?_
 refine zQ [1, 2, 7] ?_
 refine Zv (t := (a1 == 0)) rfl (fun c39 => ?_) (fun c39 => ?_)
 ·replace h := Zx c39 h
  refine zQ [4] ?_
  refine zW ?_
  obtain rfl := sI h
  refine Zz (.inr rfl) hU [(vB false)] (by omega) ?_
  simp only [push_cast, seval, ↓reduceIte, Zd, Tryz.results25, hN0, hN]
 replace h := Zw c39 h
 refine Gu [1, 2] [true] ?_
 refine Zhh ⟨55, [], [(1, (vI a1)), (2, .ip (Zk a0) 0)]⟩ (Zy O n [none]) (Xi hU rfl rfl ?_) ?_
 ·exact zSe
 refine zQ [1, 2, 5] ?_
 refine Zo ?_
 refine zQ [1, 2, 5, 10] ?_
 refine Xh ?_
 refine zQ [1, 2, 5, 10, 11] ?_
 refine Zv (t := (a0.Kind == 0)) rfl (fun c38 => ?_) (fun c38 => ?_)
 ·replace h := Zx c38 h
  refine Zo ?_
  obtain ⟨y2, hy2, h⟩ := bC h
  refine zR ?_
  refine GCalls.argsW ?_ ((J0 hy2).then ?_)
  ·exact zSe
  refine zS ?_
  refine zD [4] [false] ?_
  refine zW ?_
  obtain rfl := sI h
  refine Zz (.inr rfl) hU [(vB y2)] (by omega) ?_
  simp only [push_cast, seval, ↓reduceIte, Zd, Tryz.results25, hN0, hN]
 replace h := Zw c38 h
 refine zQ [1, 2, 5, 10, 15] ?_
 refine Zv (t := (a0.Kind == 1)) rfl (fun c37 => ?_) (fun c37 => ?_)
 ·replace h := Zx c37 h
  obtain ⟨z6, hz6, h⟩ := bC h
  refine X4 (E' := ⟨55, [], [(4, (vB z6))]⟩) (O' := (Zy O n [none])) (n0 := (n + 1)) ?_ ?_
  ·obtain ⟨y10, hy10, hz6⟩ := bC hz6
   rcases Bool.eq_false_or_eq_true y10 with c13 | c13
   ·replace hz6 := Zx c13 hz6
    obtain ⟨y11, hy11, hz6⟩ := bC hz6
    rcases Bool.eq_false_or_eq_true y11 with c14 | c14
    ·replace hz6 := Zx c14 hz6
     try rw [c14] at c13
     obtain ⟨y12, hy12, hz6⟩ := bC hz6
     refine Vp [some true, some true, some true, some true, some true, some true] c13 c14 ?_
     refine GCalls.argsW ?_ ((J0 hy10).then ?_)
     ·exact X3 c13 c14
     refine zX2 c13 c14 ?_
     refine (Zja hy11).then ?_
     refine zX2 c13 c14 ?_
     refine (Zja hy12).then ?_
     refine zX2 c13 c14 ?_
     exact Zg4 hz6 c13 c14
    replace hz6 := Zw c14 hz6
    try rw [c14] at c13
    refine Vp [some true, some true, some true, some false, some false, some false] c13 c14 ?_
    refine GCalls.argsW ?_ ((J0 hy10).then ?_)
    ·exact X3 c13 c14
    refine zX2 c13 c14 ?_
    refine (Zja hy11).then ?_
    refine zX2 c13 c14 ?_
    exact Zg4 hz6 c13 c14
   replace hz6 := Zw c13 hz6
   refine Zan [some false, some false, some false, some false, some false, some false] c13 ?_
   refine GCalls.argsW ?_ ((J0 hy10).then ?_)
   ·exact Z49 c13
   refine zX1 c13 ?_
   exact Ux hz6 c13
  refine zW ?_
  obtain rfl := sI h
  refine Zz (.inr rfl) hU [(vB z6)] (by omega) ?_
  simp only [push_cast, seval, ↓reduceIte, Zd, Tryz.results25, hN0, hN]
 replace h := Zw c37 h
 refine zQ [1, 2, 5, 10, 29] ?_
 refine Zv (t := (a0.Kind == 2)) rfl (fun c36 => ?_) (fun c36 => ?_)
 ·replace h := Zx c36 h
  obtain ⟨z18, hz18, h⟩ := bC h
  refine X4 (E' := ⟨55, [], [(4, (vB z18))]⟩) (O' := (Zy O n [none])) (n0 := (n + 1)) ?_ ?_
  ·obtain ⟨y22, hy22, hz18⟩ := bC hz18
   rcases Bool.eq_false_or_eq_true y22 with c25 | c25
   ·replace hz18 := Zx c25 hz18
    obtain ⟨y23, hy23, hz18⟩ := bC hz18
    rcases Bool.eq_false_or_eq_true y23 with c26 | c26
    ·replace hz18 := Zx c26 hz18
     try rw [c26] at c25
     obtain ⟨y24, hy24, hz18⟩ := bC hz18
     refine Vp [some true, some true, some true, some true, some true, some true, some true, some true] c25 c26 ?_
     refine GCalls.argsW ?_ ((J0 hy22).then ?_)
     ·exact X3 c25 c26
     refine zX2 c25 c26 ?_
     refine (Zh4 hy23).then ?_
     refine zX2 c25 c26 ?_
     refine (Kw hy24).then ?_
     refine zX2 c25 c26 ?_
     exact Zg4 hz18 c25 c26
    replace hz18 := Zw c26 hz18
    try rw [c26] at c25
    refine Vp [some true, some true, some true, some false, some false, some false, some false, some false] c25 c26 ?_
    refine GCalls.argsW ?_ ((J0 hy22).then ?_)
    ·exact X3 c25 c26
    refine zX2 c25 c26 ?_
    refine (Zh4 hy23).then ?_
    refine zX2 c25 c26 ?_
    exact Zg4 hz18 c25 c26
   replace hz18 := Zw c25 hz18
   refine Zan [some false, some false, some false, some false, some false, some false, some false, some false] c25 ?_
   refine GCalls.argsW ?_ ((J0 hy22).then ?_)
   ·exact Z49 c25
   refine zX1 c25 ?_
   exact Ux hz18 c25
  refine zW ?_
  obtain rfl := sI h
  refine Zz (.inr rfl) hU [(vB z18)] (by omega) ?_
  simp only [push_cast, seval, ↓reduceIte, Zd, Tryz.results25, hN0, hN]
 replace h := Zw c36 h
 refine zQ [1, 2, 5, 45] ?_
 refine Zv (t := (a0.Kind == 3)) rfl (fun c35 => ?_) (fun c35 => ?_)
 ·replace h := Zx c35 h
  obtain ⟨z29, hz29, h⟩ := bC h
  refine X4 (E' := ⟨55, [], [(4, (vB z29))]⟩) (O' := (Zy O n [none])) (n0 := (n + 1)) ?_ ?_
  ·obtain ⟨y32, hy32, hz29⟩ := bC hz29
   rcases Bool.eq_false_or_eq_true y32 with c34 | c34
   ·replace hz29 := Zx c34 hz29
    obtain ⟨y33, hy33, hz29⟩ := bC hz29
    refine Zan [some true, some true, some true, some true] c34 ?_
    refine GCalls.argsW ?_ ((J0 hy32).then ?_)
    ·exact Z49 c34
    refine zX1 c34 ?_
    refine (K9 hy33).then ?_
    refine zX1 c34 ?_
    exact Ux hz29 c34
   replace hz29 := Zw c34 hz29
   refine Zan [some false, some false, some false, some false] c34 ?_
   refine GCalls.argsW ?_ ((J0 hy32).then ?_)
   ·exact Z49 c34
   refine zX1 c34 ?_
   exact Ux hz29 c34
  refine zW ?_
  obtain rfl := sI h
  refine Zz (.inr rfl) hU [(vB z29)] (by omega) ?_
  simp only [push_cast, seval, ↓reduceIte, Zd, Tryz.results25, hN0, hN]
 replace h := Zw c35 h
 refine Gu [] [false] ?_
 refine zQ [4] ?_
 refine zW ?_
 obtain rfl := sI h
 refine Zz (.inr rfl) hU [(vB false)] (by omega) ?_
 simp only [push_cast, seval, ↓reduceIte, Zd, Tryz.results25, hN0, hN]
theorem Zne {Yw : (Zc → Option Bool)} {Ys : (Zc → Int → Option Bool)} {Yd : ((List Zp) → Int → Option Bool)} {Yg : (Zc → Int → Option Bool)} {Yi : (Int → Zj → Int → Option Bool)} {Yb : (Bool → Bool → Bool → Zj → Option Bool)} (J3 : V2 Yw) (Kz : V3 Ys) (Kw : Jo Yd) (K9 : J8 Yg) (Vv : Ku Yi) (Xp : Jp Yb) {a0 : (List Zp)} {a1 : Int} {r : Bool} {O : Objs} {n : Nat} (h : Gx Yw Ys Yd Yg Yi Yb a0 a1 = some r) : GTo Tryz.prog 39 [(sL Zi a0), (vI a1)] O n ((vB r)) O n := by
 unfold Gx at h
 refine fn0 Zu Tryz.call39 Tryz.func39 rfl fun hU hN0 hN => ?_
 show W _ _ _ _ ⟨39, [], [(0, (sL Zi a0)), (1, (vI a1))]⟩ (Zy O n []) _
 refine zQ [0, 1] ?_
 refine zQ [0, 1, 5] ?_
 refine Zo ?_
 refine zQd [1, 5, 8, 9, 10] [1, 5, 8, 9, 10] [] ?_
 obtain ⟨z12, hz12, h⟩ := bC h
 refine Zhs (J := (Vy (fun z12 => JR n (⟨39, [], [(4, (vB false))]⟩ : Env) (Zy O n []) n) (fun z12 => JX 0 n (⟨39, [], []⟩ : Env) (Zy O n []) n))) (z := z12) ?_ fun hw => ?_
 ·refine Q4 hz12 (fun s0_ => ⟨39, [], [(1, (vI a1)), (5, (vI s0_.1)), (8, (sL Zi a0)), (9, (vI (a0.length : Int))), (10, (vI s0_.2))]⟩) (fun s0_ => (Zy O n [])) (Vy (fun z12 => JR n (⟨39, [], [(4, (vB false))]⟩ : Env) (Zy O n []) n) (fun z12 => JX 0 n (⟨39, [], []⟩ : Env) (Zy O n []) n)) ?_
  intro s0_ x0_ hs0_
  unfold V5 at hs0_
  try dsimp only
  refine zQ [1, 5, 8, 9, 10, 11] ?_
  refine Zo ?_
  refine Zv (t := (decide (s0_.2 < (a0.length : Int)))) rfl (fun c11 => ?_) (fun c11 => ?_)
  ·replace hs0_ := Zx c11 hs0_
   refine Gu [1, 5, 8, 9, 10] [] ?_
   refine Zo ?_
   refine Xh ?_
   refine Zo ?_
   obtain ⟨x2, hx2, ax2, bx2, cx2, hs0_⟩ := bE (f := Zi) Zqw (fun _ => rfl) (by decide) hs0_
   refine Ze4 [] ax2 bx2 cx2 ?_
   refine zDs [1, 5, 7, 8, 9, 10] [true] ?_
   obtain ⟨z4, hz4, hs0_⟩ := bC hs0_
   refine X4 (E' := ⟨39, [], [(1, (vI a1)), (7, .ref n 0), (8, (sL Zi a0)), (9, (vI (a0.length : Int))), (10, (vI s0_.2)), (35, (vB z4))]⟩) (O' := (Zy O n [some ⟨false, 59, 12, 1, (Zer x2)⟩])) (n0 := (n + 1)) ?_ ?_
   ·rcases Bool.eq_false_or_eq_true (decide (x2.At ≤ s0_.1)) with c7 | c7
    ·replace hz4 := Zx c7 hz4
     refine Zan [none, none, none, none, none, none, none, some false, some false, some false, some false, some false] c7 ?_
     refine zG ?_
     exact Ux hz4 c7
    replace hz4 := Zw c7 hz4
    rcases Bool.eq_false_or_eq_true (decide (65534 < x2.At)) with c8 | c8
    ·replace hz4 := Zx c8 hz4
     try rw [c8] at c7
     refine Vp [none, none, none, none, none, none, none, some false, some false, some false, some false, some false] c7 c8 ?_
     refine zG ?_
     exact Zg4 hz4 c7 c8
    replace hz4 := Zw c8 hz4
    try rw [c8] at c7
    rcases Bool.eq_false_or_eq_true (x2.E.Kind == 0) with c9 | c9
    ·replace hz4 := Zx c9 hz4
     try rw [c9] at c7
     try rw [c9] at c8
     refine Zmp [none, none, none, none, none, none, none, some false, some false, some false, some false, some false] c7 c8 c9 ?_
     refine zG ?_
     exact Zvz hz4 c7 c8 c9
    replace hz4 := Zw c9 hz4
    try rw [c9] at c7
    try rw [c9] at c8
    obtain ⟨y6, hy6, hz4⟩ := bC hz4
    refine Zmp [none, none, none, none, none, none, none, some true, some true, some true, some true, some true] c7 c8 c9 ?_
    refine zG ?_
    refine (Kz hy6).then ?_
    refine zX3 c7 c8 c9 ?_
    refine zG ?_
    exact Zvz hz4 c7 c8 c9
   refine Zv (t := z4) rfl (fun c10 => ?_) (fun c10 => ?_)
   ·replace hs0_ := Zx c10 hs0_
    refine zQ [4] ?_
    refine zW ?_
    exact zEy hs0_
   replace hs0_ := Zw c10 hs0_
   refine Gu [1, 7, 8, 9, 10] [true] ?_
   refine zRd [1, 5, 8, 9, 10] [false] ?_
   refine zR ?_
   exact zEn hs0_
  replace hs0_ := Zw c11 hs0_
  exact zEx hs0_
 rcases z12 with z12 | z12
 ·dsimp only [Vy] at hw h
  refine Zcb hw ?_
  try simp only [Qg, Xm, ↓reduceIte, Nat.reduceEqDiff]
  obtain rfl := sI h
  refine Zz (.inr rfl) hU [(vB false)] (by omega) ?_
  simp only [push_cast, seval, ↓reduceIte, Zd, Tryz.results39, hN0, hN]
 dsimp only [Vy] at hw h
 refine Qb hw ?_
 try simp only [Qg, Xm, ↓reduceIte, Nat.reduceEqDiff]
 refine zD [] [] ?_
 refine zQ [4] ?_
 refine zW ?_
 obtain rfl := sI h
 refine Zz (.inr rfl) hU [(vB true)] (by omega) ?_
 simp only [push_cast, seval, ↓reduceIte, Zd, Tryz.results39, hN0, hN]
theorem Zon {Yw : (Zc → Option Bool)} {Ys : (Zc → Int → Option Bool)} {Yd : ((List Zp) → Int → Option Bool)} {Yg : (Zc → Int → Option Bool)} {Yi : (Int → Zj → Int → Option Bool)} {Yb : (Bool → Bool → Bool → Zj → Option Bool)} (J3 : V2 Yw) (Kz : V3 Ys) (Kw : Jo Yd) (K9 : J8 Yg) (Vv : Ku Yi) (Xp : Jp Yb) {a0 : Zc} {a1 : Int} {r : Bool} {O : Objs} {n : Nat} (h : Za6 Yw Ys Yd Yg Yi Yb a0 a1 = some r) : GTo Tryz.prog 40 [.agg (Zk a0), (vI a1)] O n ((vB r)) O n := by
 unfold Za6 at h
 refine fn0 Zu Tryz.call40 Tryz.func40 rfl fun hU hN0 hN => ?_
 show W _ _ _ _ ⟨38, [], [(0, .agg (Zk a0)), (1, (vI a1))]⟩ (Zy O n []) _
 refine zQ [1, 2] ?_
 refine Zo ?_
 refine Zo ?_
 obtain ⟨y2, hy2, h⟩ := bC h
 refine zCd (Zke hy2) [1, 2, 12] [true] ?_
 refine Zv (t := (!y2)) rfl (fun c12 => ?_) (fun c12 => ?_)
 ·replace h := Zx c12 h
  refine zQ [4] ?_
  refine zW ?_
  obtain rfl := sI h
  refine Zz (.inr rfl) hU [(vB false)] (by omega) ?_
  simp only [push_cast, seval, ↓reduceIte, Zd, Tryz.results40, hN0, hN]
 replace h := Zw c12 h
 refine Gu [1, 2] [true] ?_
 refine Zo ?_
 refine zQd [1, 2, 14, 15, 16] [1, 2, 14, 15, 16] [true] ?_
 obtain ⟨z9, hz9, h⟩ := bC h
 refine Zhs (J := (Vy (fun z9 => JR n (⟨38, [], [(4, (vB false))]⟩ : Env) (Zy O n [none]) (n + 1)) (fun z9 => JX 0 n (⟨38, [], [(2, .ref n 0)]⟩ : Env) (Zy O n [some ⟨false, 30, 11, 1, (Zk a0)⟩]) (n + 1)))) (z := z9) ?_ fun hw => ?_
 ·refine Q4 hz9 (fun s0_ => ⟨38, [], [(1, (vI a1)), (2, .ref n 0), (14, (sL Zf a0.Ops)), (15, (vI (a0.Ops.length : Int))), (16, (vI s0_))]⟩) (fun s0_ => (Zy O n [some ⟨false, 30, 11, 1, (Zk a0)⟩])) (Vy (fun z9 => JR n (⟨38, [], [(4, (vB false))]⟩ : Env) (Zy O n [none]) (n + 1)) (fun z9 => JX 0 n (⟨38, [], [(2, .ref n 0)]⟩ : Env) (Zy O n [some ⟨false, 30, 11, 1, (Zk a0)⟩]) (n + 1))) ?_
  intro s0_ x0_ hs0_
  unfold Ug at hs0_
  try dsimp only
  refine zQ [1, 2, 14, 15, 16, 17] ?_
  refine Zo ?_
  refine Zv (t := (decide (s0_ < (a0.Ops.length : Int)))) rfl (fun c8 => ?_) (fun c8 => ?_)
  ·replace hs0_ := Zx c8 hs0_
   refine Gu [1, 2, 14, 15, 16] [true] ?_
   refine Zo ?_
   refine Xh ?_
   refine Zo ?_
   obtain ⟨x4, hx4, ax4, bx4, cx4, hs0_⟩ := bE (f := Zf) Zij (fun _ => rfl) (by decide) hs0_
   refine Ze4 [] ax4 bx4 cx4 ?_
   refine zDs [1, 2, 6, 14, 15, 16] [true, true] ?_
   obtain ⟨y6, hy6, hs0_⟩ := bC hs0_
   refine zCd (Vv hy6) [1, 2, 14, 15, 16, 25] [true, false] ?_
   refine Zv (t := (!y6)) rfl (fun c7 => ?_) (fun c7 => ?_)
   ·replace hs0_ := Zx c7 hs0_
    refine zQ [4] ?_
    refine zW ?_
    exact zEy hs0_
   replace hs0_ := Zw c7 hs0_
   refine Gu [1, 2, 14, 15, 16] [true, false] ?_
   refine zR ?_
   exact zEn hs0_
  replace hs0_ := Zw c8 hs0_
  exact zEx hs0_
 rcases z9 with z9 | z9
 ·dsimp only [Vy] at hw h
  refine Zcb hw ?_
  try simp only [Qg, Xm, ↓reduceIte, Nat.reduceEqDiff]
  obtain rfl := sI h
  refine Zz (.inr rfl) hU [(vB false)] (by omega) ?_
  simp only [push_cast, seval, ↓reduceIte, Zd, Tryz.results40, hN0, hN]
 dsimp only [Vy] at hw h
 refine Qb hw ?_
 try simp only [Qg, Xm, ↓reduceIte, Nat.reduceEqDiff]
 refine zDs [2] [true] ?_
 obtain ⟨y11, hy11, h⟩ := bC h
 refine zCd (Zq4 hy11) [7, 8] [false] ?_
 refine zQD [4] [none, none] ?_
 refine zW ?_
 obtain rfl := sI h
 refine Zz (.inr rfl) hU [(vB (cond (decide (y11.1 < 1048576)) (decide (y11.2 < 1048576)) false))] (by omega) ?_
 simp only [push_cast, seval, ↓reduceIte, Zd, Tryz.results40, hN0, hN]
theorem Zpz {Yw : (Zc → Option Bool)} {Ys : (Zc → Int → Option Bool)} {Yd : ((List Zp) → Int → Option Bool)} {Yg : (Zc → Int → Option Bool)} {Yi : (Int → Zj → Int → Option Bool)} {Yb : (Bool → Bool → Bool → Zj → Option Bool)} (J3 : V2 Yw) (Kz : V3 Ys) (Kw : Jo Yd) (K9 : J8 Yg) (Vv : Ku Yi) (Xp : Jp Yb) {a0 : Int} {a1 : Zj} {a2 : Int} {r : Bool} {O : Objs} {n : Nat} (h : Zcc Yw Ys Yd Yg Yi Yb a0 a1 a2 = some r) : GTo Tryz.prog 57 [(vI a0), .agg (Xk a1), (vI a2)] O n ((vB r)) O n := by
 unfold Zcc at h
 refine fn0 Zu Tryz.call57 Tryz.func57 rfl fun hU hN0 hN => ?_
 show W _ _ _ _ ⟨60, [], [(0, (vI a0)), (1, .agg (Xk a1)), (2, (vI a2))]⟩ (Zy O n []) _
 refine zQ [0, 2, 4] ?_
 refine Zhh ⟨60, [], [(0, (vI a0)), (2, (vI a2)), (4, .ip (Xk a1) 0)]⟩ (Zy O n [none]) (Xi hU rfl rfl ?_) ?_
 ·exact zSe
 refine zQ [0, 2, 4, 7] ?_
 refine Zo ?_
 refine zQ [0, 2, 4, 7, 10] ?_
 refine Xh ?_
 refine Zo ?_
 refine Xh ?_
 obtain ⟨z1, hz1, h⟩ := bC h
 refine Ybn (J := (Vy (fun z1 => JN n (⟨60, [], [(0, (vI a0)), (4, .ip (Xk a1) 0), (7, .fn 79 0 [.ip (Xk a1) 0])]⟩ : Env) (Zy O n [none]) (n + 1)) (Vy (fun z1 => JR n (⟨60, [], [(6, (vB z1))]⟩ : Env) (Zy O n [none]) (n + 1)) (Vy (fun z1 => JX 4 n (⟨60, [], [(0, (vI a0)), (2, (vI a2)), (4, .ip (Xk a1) 0), (7, .fn 79 0 [.ip (Xk a1) 0])]⟩ : Env) (Zy O n [none]) (n + 1)) (fun z1 => JX 0 n (⟨60, [], []⟩ : Env) (Zy O n [none]) (n + 1)))))) (z := z1) ?_ fun hw => ?_
 ·refine Xh ?_
  refine Xh ?_
  refine Zo ?_
  refine Xh ?_
  refine Zo ?_
  refine Zo ?_
  refine zQ [0, 2, 4, 7, 10, 11] ?_
  refine Zv (t := (a1.Kind == 0)) rfl (fun c7 => ?_) (fun c7 => ?_)
  ·replace hz1 := Zx c7 hz1
   refine zXt ?_
   refine zDs [4, 7] [false] ?_
   refine Zo ?_
   obtain ⟨y3, hy3, hz1⟩ := bC hz1
   refine zRo [none, none, none, none, none, none] ?_
   refine zG ?_
   refine GCalls.argsW ?_ ((Xp hy3).then ?_)
   ·exact zSe
   refine zS ?_
   refine zG ?_
   refine zD [6] [false] ?_
   refine zW ?_
   exact zEn hz1
  replace hz1 := Zw c7 hz1
  refine Gu [0, 2, 4, 7, 10] [false] ?_
  refine Zo ?_
  refine zQ [0, 2, 4, 7, 10, 13] ?_
  refine Zv (t := (a1.Kind == 1)) rfl (fun c6 => ?_) (fun c6 => ?_)
  ·replace hz1 := Zx c6 hz1
   refine zXt ?_
   exact zEn hz1
  replace hz1 := Zw c6 hz1
  refine Gu [0, 2, 4, 7, 10] [false] ?_
  refine Zo ?_
  refine zQ [0, 2, 4, 7, 10, 15] ?_
  refine Zv (t := (a1.Kind == 2)) rfl (fun c5 => ?_) (fun c5 => ?_)
  ·replace hz1 := Zx c5 hz1
   refine zXt ?_
   exact zEn hz1
  replace hz1 := Zw c5 hz1
  refine Gu [0, 2, 4, 7, 10] [false] ?_
  refine zQ [0, 2, 4, 7, 17] ?_
  refine Zv (t := (a1.Kind == 3)) rfl (fun c4 => ?_) (fun c4 => ?_)
  ·replace hz1 := Zx c4 hz1
   refine zXt ?_
   exact zEn hz1
  replace hz1 := Zw c4 hz1
  refine Gu [] [false] ?_
  refine zXt ?_
  exact zEn hz1
 rcases z1 with z1 | z1
 ·dsimp only [Vy] at hw h
  refine X4 hw ?_
  refine Zo ?_
  obtain ⟨z10, hz10, h⟩ := bC h
  refine X4 (E' := ⟨60, [], [(6, (vB z10))]⟩) (O' := (Zy O n [none])) (n0 := (n + 1)) ?_ ?_
  ·obtain ⟨y13, hy13, hz10⟩ := bC hz10
   rcases Bool.eq_false_or_eq_true y13 with c15 | c15
   ·replace hz10 := Zx c15 hz10
    rcases Bool.eq_false_or_eq_true (decide (0 < (a1.L.length : Int))) with c16 | c16
    ·replace hz10 := Zx c16 hz10
     try rw [c16] at c15
     obtain ⟨y14, hy14, hz10⟩ := bC hz10
     refine Vp [none, none, none, none, some true, some true, some true, some true, some true] c15 c16 ?_
     refine zG ?_
     refine GCalls.argsW ?_ ((Xp hy13).then ?_)
     ·exact X3 c15 c16
     refine zX2 c15 c16 ?_
     refine zG ?_
     refine GCalls.argsW ?_ ((Zgo hy14).then ?_)
     ·exact X3 c15 c16
     refine zX2 c15 c16 ?_
     refine zG ?_
     exact Zg4 hz10 c15 c16
    replace hz10 := Zw c16 hz10
    try rw [c16] at c15
    refine Vp [none, none, none, none, some false, some false, some false, some false, some false] c15 c16 ?_
    refine zG ?_
    refine GCalls.argsW ?_ ((Xp hy13).then ?_)
    ·exact X3 c15 c16
    refine zX2 c15 c16 ?_
    refine zG ?_
    exact Zg4 hz10 c15 c16
   replace hz10 := Zw c15 hz10
   refine Zan [none, none, none, none, some false, some false, some false, some false, some false] c15 ?_
   refine zG ?_
   refine GCalls.argsW ?_ ((Xp hy13).then ?_)
   ·exact Z49 c15
   refine zX1 c15 ?_
   refine zG ?_
   exact Ux hz10 c15
  refine zW ?_
  obtain rfl := sI h
  refine Zz (.inr rfl) hU [(vB z10)] (by omega) ?_
  simp only [push_cast, seval, ↓reduceIte, Zd, Tryz.results57, hN0, hN]
 rcases z1 with z1 | z1
 ·dsimp only [Vy] at hw h
  refine Yal hw ?_
  try simp only [Qg, Xm]
  obtain rfl := sI h
  refine Zz (.inr rfl) hU [(vB z1)] (by omega) ?_
  simp only [push_cast, seval, ↓reduceIte, Zd, Tryz.results57, hN0, hN]
 rcases z1 with z1 | z1
 ·dsimp only [Vy] at hw h
  refine Z5c hw ?_
  try simp only [Qg, Xm, ↓reduceIte, Nat.reduceEqDiff]
  refine zDs [0, 2, 4, 7] [false] ?_
  obtain ⟨z20, hz20, h⟩ := bC h
  refine X4 (E' := ⟨60, [], [(6, (vB z20))]⟩) (O' := (Zy O n [none])) (n0 := (n + 1)) ?_ ?_
  ·obtain ⟨y24, hy24, hz20⟩ := bC hz20
   rcases Bool.eq_false_or_eq_true y24 with c27 | c27
   ·replace hz20 := Zx c27 hz20
    obtain ⟨y25, hy25, hz20⟩ := bC hz20
    rcases Bool.eq_false_or_eq_true y25 with c28 | c28
    ·replace hz20 := Zx c28 hz20
     try rw [c28] at c27
     obtain ⟨y26, hy26, hz20⟩ := bC hz20
     refine Vp [some true, some true, some true, some true, some true, some true, some true, some true] c27 c28 ?_
     refine GCalls.argsW ?_ ((Xp hy24).then ?_)
     ·exact X3 c27 c28
     refine zX2 c27 c28 ?_
     refine (Zjv hy25).then ?_
     refine zX2 c27 c28 ?_
     refine (Kz hy26).then ?_
     refine zX2 c27 c28 ?_
     exact Zg4 hz20 c27 c28
    replace hz20 := Zw c28 hz20
    try rw [c28] at c27
    refine Vp [some true, some true, some true, some true, some false, some false, some false, some false] c27 c28 ?_
    refine GCalls.argsW ?_ ((Xp hy24).then ?_)
    ·exact X3 c27 c28
    refine zX2 c27 c28 ?_
    refine (Zjv hy25).then ?_
    refine zX2 c27 c28 ?_
    exact Zg4 hz20 c27 c28
   replace hz20 := Zw c27 hz20
   refine Zan [some false, some false, some false, some false, some false, some false, some false, some false] c27 ?_
   refine GCalls.argsW ?_ ((Xp hy24).then ?_)
   ·exact Z49 c27
   refine zX1 c27 ?_
   exact Ux hz20 c27
  refine zW ?_
  obtain rfl := sI h
  refine Zz (.inr rfl) hU [(vB z20)] (by omega) ?_
  simp only [push_cast, seval, ↓reduceIte, Zd, Tryz.results57, hN0, hN]
 dsimp only [Vy] at hw h
 refine Z5c hw ?_
 try simp only [Qg, Xm, ↓reduceIte, Nat.reduceEqDiff]
 refine zD [] [false] ?_
 refine zQ [6] ?_
 refine zW ?_
 obtain rfl := sI h
 refine Zz (.inr rfl) hU [(vB false)] (by omega) ?_
 simp only [push_cast, seval, ↓reduceIte, Zd, Tryz.results57, hN0, hN]
theorem Znf {Yw : (Zc → Option Bool)} {Ys : (Zc → Int → Option Bool)} {Yd : ((List Zp) → Int → Option Bool)} {Yg : (Zc → Int → Option Bool)} {Yi : (Int → Zj → Int → Option Bool)} {Yb : (Bool → Bool → Bool → Zj → Option Bool)} (J3 : V2 Yw) (Kz : V3 Ys) (Kw : Jo Yd) (K9 : J8 Yg) (Vv : Ku Yi) (Xp : Jp Yb) {a0 : Bool} {a1 : Bool} {a2 : Bool} {a3 : Zj} {r : Bool} {O : Objs} {n : Nat} (h : Gy Yw Ys Yd Yg Yi Yb a0 a1 a2 a3 = some r) : GTo Tryz.prog 79 [(vB a0), (vB a1), (vB a2), .ip (Xk a3) 0] O n ((vB r)) O n := by
 unfold Gy at h
 refine fn0 Zu Tryz.call79 Tryz.func79 rfl fun hU hN0 hN => ?_
 show W _ _ _ _ ⟨41, [], [(0, (vB a0)), (1, (vB a1)), (2, (vB a2)), (3, .ip (Xk a3) 0)]⟩ (Zy O n []) _
 refine zQ [0, 1, 2, 3] ?_
 obtain ⟨z5, hz5, h⟩ := bC h
 refine X4 (E' := ⟨41, [], [(7, (vB z5))]⟩) (O' := (Zy O n [])) (n0 := n) ?_ ?_
 ·rcases Bool.eq_false_or_eq_true a0 with c14 | c14
  ·replace hz5 := Zx c14 hz5
   rcases Bool.eq_false_or_eq_true (a3.N != 0) with c15 | c15
   ·replace hz5 := Zx c15 hz5
    try rw [c15] at c14
    refine Vp [none, none, none, none, none, none, none, none, none, none, none, some false, some false, some false, some false, some false, some false, some false, some false, some false, some false, some false, some false, some false, some false] c14 c15 ?_
    refine zG ?_
    exact Zg4 hz5 c14 c15
   replace hz5 := Zw c15 hz5
   try rw [c15] at c14
   rcases Bool.eq_false_or_eq_true a1 with c16 | c16
   ·replace hz5 := Zx c16 hz5
    try rw [c16] at c14
    try rw [c16] at c15
    rcases Bool.eq_false_or_eq_true (decide (0 < (a3.L.length : Int))) with c17 | c17
    ·replace hz5 := Zx c17 hz5
     try rw [c17] at c14
     try rw [c17] at c15
     try rw [c17] at c16
     refine Zut [none, none, none, none, none, none, none, none, none, none, none, some false, some false, some false, some false, some false, some false, some false, some false, some false, some false, some false, some false, some false, some false] c14 c15 c16 c17 ?_
     refine zG ?_
     exact Zus hz5 c14 c15 c16 c17
    replace hz5 := Zw c17 hz5
    try rw [c17] at c14
    try rw [c17] at c15
    try rw [c17] at c16
    rcases Bool.eq_false_or_eq_true a2 with c18 | c18
    ·replace hz5 := Zx c18 hz5
     try rw [c18] at c14
     try rw [c18] at c15
     try rw [c18] at c16
     try rw [c18] at c17
     rcases Bool.eq_false_or_eq_true (a3.E.Kind != 0) with c19 | c19
     ·replace hz5 := Zx c19 hz5
      try rw [c19] at c14
      try rw [c19] at c15
      try rw [c19] at c16
      try rw [c19] at c17
      try rw [c19] at c18
      refine Z00 [none, none, none, none, none, none, none, none, none, none, none, some true, some true, some true, some true, some true, some true, some true, some false, some false, some false, some false, some true, some true, some true] c14 c15 c16 c17 c18 c19 ?_
      refine zG ?_
      exact Z8m hz5 c14 c15 c16 c17 c18 c19
     replace hz5 := Zw c19 hz5
     try rw [c19] at c14
     try rw [c19] at c15
     try rw [c19] at c16
     try rw [c19] at c17
     try rw [c19] at c18
     obtain ⟨y10, hy10, hz5⟩ := bC hz5
     refine Z00 [none, none, none, none, none, none, none, none, none, none, none, some true, some true, some true, some true, some true, some true, some true, some true, some true, some true, some true, some true, some true, some true] c14 c15 c16 c17 c18 c19 ?_
     refine zG ?_
     refine (J3 hy10).then ?_
     refine zX6 c14 c15 c16 c17 c18 c19 ?_
     refine zG ?_
     exact Z8m hz5 c14 c15 c16 c17 c18 c19
    replace hz5 := Zw c18 hz5
    try rw [c18] at c14
    try rw [c18] at c15
    try rw [c18] at c16
    try rw [c18] at c17
    refine Zuu [none, none, none, none, none, none, none, none, none, none, none, some true, some true, some false, some false, some false, some false, some false, some false, some false, some false, some false, some false, some true, some true] c14 c15 c16 c17 c18 ?_
    refine zG ?_
    exact Zv0 hz5 c14 c15 c16 c17 c18
   replace hz5 := Zw c16 hz5
   try rw [c16] at c14
   try rw [c16] at c15
   rcases Bool.eq_false_or_eq_true a2 with c20 | c20
   ·replace hz5 := Zx c20 hz5
    try rw [c20] at c14
    try rw [c20] at c15
    try rw [c20] at c16
    rcases Bool.eq_false_or_eq_true (a3.E.Kind != 0) with c21 | c21
    ·replace hz5 := Zx c21 hz5
     try rw [c21] at c14
     try rw [c21] at c15
     try rw [c21] at c16
     try rw [c21] at c20
     refine Zuu [none, none, none, none, none, none, none, none, none, none, none, some true, some true, some true, some true, some true, some true, some true, some false, some false, some false, some false, some true, some true, some true] c14 c15 c16 c20 c21 ?_
     refine zG ?_
     exact Zv0 hz5 c14 c15 c16 c20 c21
    replace hz5 := Zw c21 hz5
    try rw [c21] at c14
    try rw [c21] at c15
    try rw [c21] at c16
    try rw [c21] at c20
    obtain ⟨y11, hy11, hz5⟩ := bC hz5
    refine Zuu [none, none, none, none, none, none, none, none, none, none, none, some true, some true, some true, some true, some true, some true, some true, some true, some true, some true, some true, some true, some true, some true] c14 c15 c16 c20 c21 ?_
    refine zG ?_
    refine (J3 hy11).then ?_
    refine zX5 c14 c15 c16 c20 c21 ?_
    refine zG ?_
    exact Zv0 hz5 c14 c15 c16 c20 c21
   replace hz5 := Zw c20 hz5
   try rw [c20] at c14
   try rw [c20] at c15
   try rw [c20] at c16
   refine Zut [none, none, none, none, none, none, none, none, none, none, none, some true, some true, some false, some false, some false, some false, some false, some false, some false, some false, some false, some false, some true, some true] c14 c15 c16 c20 ?_
   refine zG ?_
   exact Zus hz5 c14 c15 c16 c20
  replace hz5 := Zw c14 hz5
  rcases Bool.eq_false_or_eq_true a1 with c22 | c22
  ·replace hz5 := Zx c22 hz5
   try rw [c22] at c14
   rcases Bool.eq_false_or_eq_true (decide (0 < (a3.L.length : Int))) with c23 | c23
   ·replace hz5 := Zx c23 hz5
    try rw [c23] at c14
    try rw [c23] at c22
    refine Zmp [none, none, none, none, none, none, none, none, none, none, none, some false, some false, some false, some false, some false, some false, some false, some false, some false, some false, some false, some false, some false, some false] c14 c22 c23 ?_
    refine zG ?_
    exact Zvz hz5 c14 c22 c23
   replace hz5 := Zw c23 hz5
   try rw [c23] at c14
   try rw [c23] at c22
   rcases Bool.eq_false_or_eq_true a2 with c24 | c24
   ·replace hz5 := Zx c24 hz5
    try rw [c24] at c14
    try rw [c24] at c22
    try rw [c24] at c23
    rcases Bool.eq_false_or_eq_true (a3.E.Kind != 0) with c25 | c25
    ·replace hz5 := Zx c25 hz5
     try rw [c25] at c14
     try rw [c25] at c22
     try rw [c25] at c23
     try rw [c25] at c24
     refine Zuu [none, none, none, none, none, none, none, none, none, none, none, some true, some true, some true, some true, some true, some true, some true, some false, some false, some false, some false, some true, some true, some true] c14 c22 c23 c24 c25 ?_
     refine zG ?_
     exact Zv0 hz5 c14 c22 c23 c24 c25
    replace hz5 := Zw c25 hz5
    try rw [c25] at c14
    try rw [c25] at c22
    try rw [c25] at c23
    try rw [c25] at c24
    obtain ⟨y12, hy12, hz5⟩ := bC hz5
    refine Zuu [none, none, none, none, none, none, none, none, none, none, none, some true, some true, some true, some true, some true, some true, some true, some true, some true, some true, some true, some true, some true, some true] c14 c22 c23 c24 c25 ?_
    refine zG ?_
    refine (J3 hy12).then ?_
    refine zX5 c14 c22 c23 c24 c25 ?_
    refine zG ?_
    exact Zv0 hz5 c14 c22 c23 c24 c25
   replace hz5 := Zw c24 hz5
   try rw [c24] at c14
   try rw [c24] at c22
   try rw [c24] at c23
   refine Zut [none, none, none, none, none, none, none, none, none, none, none, some true, some true, some false, some false, some false, some false, some false, some false, some false, some false, some false, some false, some true, some true] c14 c22 c23 c24 ?_
   refine zG ?_
   exact Zus hz5 c14 c22 c23 c24
  replace hz5 := Zw c22 hz5
  try rw [c22] at c14
  rcases Bool.eq_false_or_eq_true a2 with c26 | c26
  ·replace hz5 := Zx c26 hz5
   try rw [c26] at c14
   try rw [c26] at c22
   rcases Bool.eq_false_or_eq_true (a3.E.Kind != 0) with c27 | c27
   ·replace hz5 := Zx c27 hz5
    try rw [c27] at c14
    try rw [c27] at c22
    try rw [c27] at c26
    refine Zut [none, none, none, none, none, none, none, none, none, none, none, some true, some true, some true, some true, some true, some true, some true, some false, some false, some false, some false, some true, some true, some true] c14 c22 c26 c27 ?_
    refine zG ?_
    exact Zus hz5 c14 c22 c26 c27
   replace hz5 := Zw c27 hz5
   try rw [c27] at c14
   try rw [c27] at c22
   try rw [c27] at c26
   obtain ⟨y13, hy13, hz5⟩ := bC hz5
   refine Zut [none, none, none, none, none, none, none, none, none, none, none, some true, some true, some true, some true, some true, some true, some true, some true, some true, some true, some true, some true, some true, some true] c14 c22 c26 c27 ?_
   refine zG ?_
   refine (J3 hy13).then ?_
   refine zX4 c14 c22 c26 c27 ?_
   refine zG ?_
   exact Zus hz5 c14 c22 c26 c27
  replace hz5 := Zw c26 hz5
  try rw [c26] at c14
  try rw [c26] at c22
  refine Zmp [none, none, none, none, none, none, none, none, none, none, none, some true, some true, some false, some false, some false, some false, some false, some false, some false, some false, some false, some false, some true, some true] c14 c22 c26 ?_
  refine zG ?_
  exact Zvz hz5 c14 c22 c26
 refine zW ?_
 obtain rfl := sI h
 refine Zz (.inr rfl) hU [(vB z5)] (by omega) ?_
 simp only [push_cast, seval, ↓reduceIte, Zd, Tryz.results79, hN0, hN]
theorem Zpu : ∀ k, (V2 ((Zm k).1)) ∧ (V3 ((Zm k).2.1)) ∧ (Jo ((Zm k).2.2.1)) ∧ (J8 ((Zm k).2.2.2.1)) ∧ (Ku ((Zm k).2.2.2.2.1)) ∧ (Jp ((Zm k).2.2.2.2.2)) := fun k => by
 induction k with
 | zero => exact ⟨@fun a0 r O n h => (nomatch (show (none : Option _) = some _ from h)), @fun a0 a1 r O n h => (nomatch (show (none : Option _) = some _ from h)), @fun a0 a1 r O n h => (nomatch (show (none : Option _) = some _ from h)), @fun a0 a1 r O n h => (nomatch (show (none : Option _) = some _ from h)), @fun a0 a1 a2 r O n h => (nomatch (show (none : Option _) = some _ from h)), @fun a0 a1 a2 a3 r O n h => (nomatch (show (none : Option _) = some _ from h))⟩
 | succ k ih => exact ⟨@fun a0 r O n h => Zs3 (ih.1) (ih.2.1) (ih.2.2.1) (ih.2.2.2.1) (ih.2.2.2.2.1) (ih.2.2.2.2.2)  h, @fun a0 a1 r O n h => Zs4 (ih.1) (ih.2.1) (ih.2.2.1) (ih.2.2.2.1) (ih.2.2.2.2.1) (ih.2.2.2.2.2)  h, @fun a0 a1 r O n h => Zne (ih.1) (ih.2.1) (ih.2.2.1) (ih.2.2.2.1) (ih.2.2.2.2.1) (ih.2.2.2.2.2)  h, @fun a0 a1 r O n h => Zon (ih.1) (ih.2.1) (ih.2.2.1) (ih.2.2.2.1) (ih.2.2.2.2.1) (ih.2.2.2.2.2)  h, @fun a0 a1 a2 r O n h => Zpz (ih.1) (ih.2.1) (ih.2.2.1) (ih.2.2.2.1) (ih.2.2.2.2.1) (ih.2.2.2.2.2)  h, @fun a0 a1 a2 a3 r O n h => Znf (ih.1) (ih.2.1) (ih.2.2.1) (ih.2.2.2.1) (ih.2.2.2.2.1) (ih.2.2.2.2.2)  h⟩
theorem Zu0 {a0 : Zc} {r : Bool} {O : Objs} {n : Nat} (h : Zkb a0 = some r) : GTo Tryz.prog 16 [.agg (Zk a0)] O n ((vB r)) O n := by
 obtain ⟨k, hk⟩ := Zel h
 exact (Zpu k).1  hk
theorem Jr {a0 : (List Int)} {a1 : (List Int)} {r : Bool} {O : Objs} {n : Nat} (h : X9 a0 a1 = some r) : GTo Tryz.prog 82 [(sL (eI .u64) a0), (sL (eI .u64) a1)] O n ((vB r)) O n := by
 unfold X9 at h
 refine fn0 Zu Tryz.call82 Tryz.func82 rfl fun hU hN0 hN => ?_
 show W _ _ _ _ ⟨26, [], [(0, (sL (eI .u64) a0)), (1, (sL (eI .u64) a1))]⟩ (Zy O n []) _
 refine zQ [0, 1] ?_
 refine Zo ?_
 refine zQ [0, 1, 10] ?_
 refine Zv (t := ((a0.length : Int) != (a1.length : Int))) rfl (fun c8 => ?_) (fun c8 => ?_)
 ·replace h := Zx c8 h
  refine zQ [4] ?_
  refine zW ?_
  obtain rfl := sI h
  refine Zz (.inr rfl) hU [(vB false)] (by omega) ?_
  simp only [push_cast, seval, ↓reduceIte, Zd, Tryz.results82, hN0, hN]
 replace h := Zw c8 h
 refine Gu [0, 1] [] ?_
 refine Zo ?_
 refine zQd [0, 1, 12, 13] [0, 1, 12, 13] [] ?_
 obtain ⟨z7, hz7, h⟩ := bC h
 refine Zhs (J := (Vy (fun z7 => JR n (⟨26, [], [(4, (vB false))]⟩ : Env) (Zy O n []) n) (fun z7 => JX 0 n (⟨26, [], []⟩ : Env) (Zy O n []) n))) (z := z7) ?_ fun hw => ?_
 ·refine Q4 hz7 (fun s0_ => ⟨26, [], [(0, (sL (eI .u64) a0)), (1, (sL (eI .u64) a1)), (12, (vI (a0.length : Int))), (13, (vI s0_))]⟩) (fun s0_ => (Zy O n [])) (Vy (fun z7 => JR n (⟨26, [], [(4, (vB false))]⟩ : Env) (Zy O n []) n) (fun z7 => JX 0 n (⟨26, [], []⟩ : Env) (Zy O n []) n)) ?_
  intro s0_ x0_ hs0_
  unfold Qh at hs0_
  try dsimp only
  refine zQ [0, 1, 12, 13, 14] ?_
  refine Zo ?_
  refine Zv (t := (decide (s0_ < (a0.length : Int)))) rfl (fun c6 => ?_) (fun c6 => ?_)
  ·replace hs0_ := Zx c6 hs0_
   refine Gu [0, 1, 12, 13] [] ?_
   refine Zo ?_
   refine Xh ?_
   refine zQ [0, 1, 5, 12, 13] ?_
   obtain ⟨x3, hx3, ax3, bx3, cx3, hs0_⟩ := bE (f := (eI .u64)) Zkx (fun _ => rfl) (by decide) hs0_
   obtain ⟨x4, hx4, ax4, bx4, cx4, hs0_⟩ := bE (f := (eI .u64)) Zkx (fun _ => rfl) (by decide) hs0_
   refine Zn2 [0, 1, 12, 13, 24] (Ze7 Zu (by kernel_rfl) [] (by kernel_rfl) ?_)
   refine zF6 ax3 bx3 cx3 ax4 bx4 cx4 ?_
   refine Zv (t := (x3 != x4)) rfl (fun c5 => ?_) (fun c5 => ?_)
   ·replace hs0_ := Zx c5 hs0_
    refine zQ [4] ?_
    refine zW ?_
    exact zEy hs0_
   replace hs0_ := Zw c5 hs0_
   refine Gu [0, 1, 12, 13] [] ?_
   refine zR ?_
   exact zEn hs0_
  replace hs0_ := Zw c6 hs0_
  exact zEx hs0_
 rcases z7 with z7 | z7
 ·dsimp only [Vy] at hw h
  refine Zcb hw ?_
  try simp only [Qg, Xm, ↓reduceIte, Nat.reduceEqDiff]
  obtain rfl := sI h
  refine Zz (.inr rfl) hU [(vB false)] (by omega) ?_
  simp only [push_cast, seval, ↓reduceIte, Zd, Tryz.results82, hN0, hN]
 dsimp only [Vy] at hw h
 refine Qb hw ?_
 try simp only [Qg, Xm, ↓reduceIte, Nat.reduceEqDiff]
 refine zD [] [] ?_
 refine zQ [4] ?_
 refine zW ?_
 obtain rfl := sI h
 refine Zz (.inr rfl) hU [(vB true)] (by omega) ?_
 simp only [push_cast, seval, ↓reduceIte, Zd, Tryz.results82, hN0, hN]
def Zha (J4 : (Zb → Zb → Option Bool)) : Prop := ∀ {a0 : Zb} {a1 : Zb} {r : Bool} {O : Objs} {n : Nat}, J4 a0 a1 = some r → GTo Tryz.prog 59 [.agg (Zl a0), .agg (Zl a1)] O n ((vB r)) O n
def Xf (Zr : ((List Zb) → (List Zb) → Option Bool)) : Prop := ∀ {a0 : (List Zb)} {a1 : (List Zb)} {r : Bool} {O : Objs} {n : Nat}, Zr a0 a1 = some r → GTo Tryz.prog 83 [(sL Za a0), (sL Za a1), .fn 59 0 []] O n ((vB r)) O n
theorem Zs6 {J4 : (Zb → Zb → Option Bool)} {Zr : ((List Zb) → (List Zb) → Option Bool)} (Zku : Zha J4) (Xg : Xf Zr) {a0 : Zb} {a1 : Zb} {r : Bool} {O : Objs} {n : Nat} (h : Zfa J4 Zr a0 a1 = some r) : GTo Tryz.prog 59 [.agg (Zl a0), .agg (Zl a1)] O n ((vB r)) O n := by
 unfold Zfa at h
 refine fn0 Zu Tryz.call59 Tryz.func59 rfl fun hU hN0 hN => ?_
 show W _ _ _ _ ⟨44, [], [(0, .agg (Zl a0)), (1, .agg (Zl a1))]⟩ (Zy O n []) _
 refine zQ [2, 3] ?_
 refine Zo ?_
 refine zQ [2, 3, 9] ?_
 refine Zv (t := (a0.Kind != a1.Kind)) rfl (fun c31 => ?_) (fun c31 => ?_)
 ·replace h := Zx c31 h
  refine zQ [4] ?_
  refine zW ?_
  obtain rfl := sI h
  refine Zz (.inr rfl) hU [(vB false)] (by omega) ?_
  simp only [push_cast, seval, ↓reduceIte, Zd, Tryz.results59, hN0, hN]
 replace h := Zw c31 h
 refine Gu [2, 3] [true, true] ?_
 refine Zo ?_
 refine zQ [2, 3, 11] ?_
 refine Xh ?_
 refine zQ [2, 3, 11, 12] ?_
 refine Zv (t := (a0.Kind == 0)) rfl (fun c30 => ?_) (fun c30 => ?_)
 ·replace h := Zx c30 h
  refine zQ [4] ?_
  refine zW ?_
  obtain rfl := sI h
  refine Zz (.inr rfl) hU [(vB true)] (by omega) ?_
  simp only [push_cast, seval, ↓reduceIte, Zd, Tryz.results59, hN0, hN]
 replace h := Zw c30 h
 refine zQ [2, 3, 14] ?_
 refine Zv (t := (a0.Kind == 1)) rfl (fun c29 => ?_) (fun c29 => ?_)
 ·replace h := Zx c29 h
  obtain ⟨z7, hz7, h⟩ := bC h
  refine X4 (E' := ⟨44, [], [(4, (vB z7))]⟩) (O' := (Zy O n [none, none])) (n0 := (n + 2)) ?_ ?_
  ·obtain ⟨y14, hy14, hz7⟩ := bC hz7
   obtain ⟨y15, hy15, hz7⟩ := bC hz7
   obtain ⟨y16, hy16, hz7⟩ := bC hz7
   rcases Bool.eq_false_or_eq_true y16 with c20 | c20
   ·replace hz7 := Zx c20 hz7
    obtain ⟨y17, hy17, hz7⟩ := bC hz7
    obtain ⟨y18, hy18, hz7⟩ := bC hz7
    obtain ⟨y19, hy19, hz7⟩ := bC hz7
    refine Ze7 Zu (by kernel_rfl) [some true, some true, some true, some true, some true, some true, some true] (by kernel_rfl) ?_
    refine zX1 c20 ?_
    refine PCall.of (Gg hy14) ?_
    refine zX1 c20 ?_
    refine PCall.of (Gg hy15) ?_
    refine zX1 c20 ?_
    refine PCall.of (Jr hy16) ?_
    refine zX1 c20 ?_
    refine PCall.of (Zf9 hy17) ?_
    refine zX1 c20 ?_
    refine PCall.of (Zf9 hy18) ?_
    refine zX1 c20 ?_
    refine PCall.of (Xg hy19) ?_
    refine zX1 c20 ?_
    exact Ux hz7 c20
   replace hz7 := Zw c20 hz7
   refine Ze7 Zu (by kernel_rfl) [some false, some false, some false, some false, some false, some false, some false] (by kernel_rfl) ?_
   refine zX1 c20 ?_
   refine PCall.of (Gg hy14) ?_
   refine zX1 c20 ?_
   refine PCall.of (Gg hy15) ?_
   refine zX1 c20 ?_
   refine PCall.of (Jr hy16) ?_
   refine zX1 c20 ?_
   exact Ux hz7 c20
  refine zW ?_
  obtain rfl := sI h
  refine Zz (.inr rfl) hU [(vB z7)] (by omega) ?_
  simp only [push_cast, seval, ↓reduceIte, Zd, Tryz.results59, hN0, hN]
 replace h := Zw c29 h
 refine Gu [2, 3] [true, true] ?_
 obtain ⟨z23, hz23, h⟩ := bC h
 refine X4 (E' := ⟨44, [], [(4, (vB z23))]⟩) (O' := (Zy O n [none, none])) (n0 := (n + 2)) ?_ ?_
 ·obtain ⟨y26, hy26, hz23⟩ := bC hz23
  rcases Bool.eq_false_or_eq_true y26 with c28 | c28
  ·replace hz23 := Zx c28 hz23
   obtain ⟨y27, hy27, hz23⟩ := bC hz23
   refine Zan [some true, some true, some true, some true, some true] c28 ?_
   refine (Jr hy26).then ?_
   refine zX1 c28 ?_
   refine (Xg hy27).then ?_
   refine zX1 c28 ?_
   exact Ux hz23 c28
  replace hz23 := Zw c28 hz23
  refine Zan [some false, some false, some false, some false, some false] c28 ?_
  refine (Jr hy26).then ?_
  refine zX1 c28 ?_
  exact Ux hz23 c28
 refine zW ?_
 obtain rfl := sI h
 refine Zz (.inr rfl) hU [(vB z23)] (by omega) ?_
 simp only [push_cast, seval, ↓reduceIte, Zd, Tryz.results59, hN0, hN]
theorem K0 {J4 : (Zb → Zb → Option Bool)} {Zr : ((List Zb) → (List Zb) → Option Bool)} (Zku : Zha J4) (Xg : Xf Zr) {a0 : (List Zb)} {a1 : (List Zb)} {r : Bool} {O : Objs} {n : Nat} (h : Yl J4 Zr a0 a1 = some r) : GTo Tryz.prog 83 [(sL Za a0), (sL Za a1), .fn 59 0 []] O n ((vB r)) O n := by
 unfold Yl at h
 refine fn0 Zu Tryz.call83 Tryz.func83 rfl fun hU hN0 hN => ?_
 show W _ _ _ _ ⟨32, [], [(0, (sL Za a0)), (1, (sL Za a1)), (2, .fn 59 0 [])]⟩ (Zy O n []) _
 refine zQ [0, 1, 2] ?_
 refine Zo ?_
 refine zQ [0, 1, 2, 14] ?_
 refine Zv (t := ((a0.length : Int) != (a1.length : Int))) rfl (fun c10 => ?_) (fun c10 => ?_)
 ·replace h := Zx c10 h
  refine zQ [6] ?_
  refine zW ?_
  obtain rfl := sI h
  refine Zz (.inr rfl) hU [(vB false)] (by omega) ?_
  simp only [push_cast, seval, ↓reduceIte, Zd, Tryz.results83, hN0, hN]
 replace h := Zw c10 h
 refine Gu [0, 1, 2] [] ?_
 refine Zo ?_
 refine zQd [1, 2, 15, 16, 17] [1, 2, 15, 16, 17] [] ?_
 obtain ⟨z9, hz9, h⟩ := bC h
 refine Zhs (J := (Vy (fun z9 => JR n (⟨32, [], [(6, (vB false))]⟩ : Env) (Zy O n []) n) (fun z9 => JX 0 n (⟨32, [], []⟩ : Env) (Zy O n []) n))) (z := z9) ?_ fun hw => ?_
 ·refine Q4 hz9 (fun s0_ => ⟨32, [], [(1, (sL Za a1)), (2, .fn 59 0 []), (15, (sL Za a0)), (16, (vI (a0.length : Int))), (17, (vI s0_))]⟩) (fun s0_ => (Zy O n [])) (Vy (fun z9 => JR n (⟨32, [], [(6, (vB false))]⟩ : Env) (Zy O n []) n) (fun z9 => JX 0 n (⟨32, [], []⟩ : Env) (Zy O n []) n)) ?_
  intro s0_ x0_ hs0_
  unfold Yf at hs0_
  try dsimp only
  refine zQ [1, 2, 15, 16, 17, 18] ?_
  refine Zo ?_
  refine Zv (t := (decide (s0_ < (a0.length : Int)))) rfl (fun c8 => ?_) (fun c8 => ?_)
  ·replace hs0_ := Zx c8 hs0_
   refine Gu [1, 2, 15, 16, 17] [] ?_
   refine Zo ?_
   refine Xh ?_
   refine Zo ?_
   obtain ⟨x2, hx2, ax2, bx2, cx2, hs0_⟩ := bE (f := Za) Gt (fun _ => rfl) (by decide) hs0_
   refine Ze4 [] ax2 bx2 cx2 ?_
   refine zDs [1, 2, 7, 8, 15, 16, 17] [true] ?_
   obtain ⟨x4, hx4, ax4, bx4, cx4, hs0_⟩ := bE (f := Za) Gt (fun _ => rfl) (by decide) hs0_
   refine Ze4 [] ax4 bx4 cx4 ?_
   refine zDs [1, 2, 8, 9, 15, 16, 17] [true, true] ?_
   obtain ⟨y6, hy6, hs0_⟩ := bC hs0_
   refine zCd (Zku hy6) [1, 2, 15, 16, 17, 30] [false, false] ?_
   refine Zv (t := (!y6)) rfl (fun c7 => ?_) (fun c7 => ?_)
   ·replace hs0_ := Zx c7 hs0_
    refine zQ [6] ?_
    refine zW ?_
    exact zEy hs0_
   replace hs0_ := Zw c7 hs0_
   refine Gu [1, 2, 15, 16, 17] [false, false] ?_
   refine zR ?_
   exact zEn hs0_
  replace hs0_ := Zw c8 hs0_
  exact zEx hs0_
 rcases z9 with z9 | z9
 ·dsimp only [Vy] at hw h
  refine Zcb hw ?_
  try simp only [Qg, Xm, ↓reduceIte, Nat.reduceEqDiff]
  obtain rfl := sI h
  refine Zz (.inr rfl) hU [(vB false)] (by omega) ?_
  simp only [push_cast, seval, ↓reduceIte, Zd, Tryz.results83, hN0, hN]
 dsimp only [Vy] at hw h
 refine Qb hw ?_
 try simp only [Qg, Xm, ↓reduceIte, Nat.reduceEqDiff]
 refine zD [] [] ?_
 refine zQ [6] ?_
 refine zW ?_
 obtain rfl := sI h
 refine Zz (.inr rfl) hU [(vB true)] (by omega) ?_
 simp only [push_cast, seval, ↓reduceIte, Zd, Tryz.results83, hN0, hN]
theorem Zju : ∀ k, (Zha ((X6 k).1)) ∧ (Xf ((X6 k).2)) := fun k => by
 induction k with
 | zero => exact ⟨@fun a0 a1 r O n h => (nomatch (show (none : Option _) = some _ from h)), @fun a0 a1 r O n h => (nomatch (show (none : Option _) = some _ from h))⟩
 | succ k ih => exact ⟨@fun a0 a1 r O n h => Zs6 (ih.1) (ih.2)  h, @fun a0 a1 r O n h => K0 (ih.1) (ih.2)  h⟩
theorem Zu1 {a0 : Zb} {a1 : Zb} {r : Bool} {O : Objs} {n : Nat} (h : Zkc a0 a1 = some r) : GTo Tryz.prog 59 [.agg (Zl a0), .agg (Zl a1)] O n ((vB r)) O n := by
 obtain ⟨k, hk⟩ := Zel h
 exact (Zju k).1  hk
theorem K4 {a0 : (List Zb)} {a1 : (List Zb)} {r : Bool} {O : Objs} {n : Nat} (h : Xo a0 a1 = some r) : GTo Tryz.prog 83 [(sL Za a0), (sL Za a1), .fn 59 0 []] O n ((vB r)) O n := by
 obtain ⟨k, hk⟩ := Zel h
 exact (Zju k).2  hk
theorem Zap {a0 r : List Int} {O : Objs} {n : Nat} (h : V0 a0 = some r) : GTo Tryz.prog 84 [(sL (eI .u64) a0)] O n (.row n r.length) (Zy O n [some (oR 46 1 (eI .u64) r)]) (n + 1) := by
 have h1 := Zv1 h
 have h2 := Zv2 h
 have h3 := Zra h
 rw [List.nil_append] at h3
 subst h3
 simp only [List.length_nil, Nat.zero_add] at h1 h2
 clear h
 refine Zez Zu Tryz.call84 Tryz.func84 rfl (Nat.le_of_ble_eq_true rfl) (by omega) fun hU => ?_
 have hN0 : O n = none := hU.fresh _ (Nat.le_refl _)
 have hN : ∀ k, O (n + k) = none := fun k => hU.fresh _ (Nat.le_add_right _ _)
 show W _ _ _ _ ⟨8, [], [(0, (sL (eI .u64) r))]⟩ (Zy O n []) _
 refine zQ [0] ?_
 refine Z02 0 r.length (fl (eI .u64) r) rfl (Nat.le_of_ble_eq_true rfl) (Z5 Ja _) fun A c hA => ?_
 refine zQ [0, 4] ?_
 cases A with
 | none =>
  obtain rfl : r = [] := List.eq_nil_of_length_eq_zero (hA rfl)
  refine Zv (t := true) rfl (fun _ => ?_) (fun hc => by cases hc)
  refine zQ [2] ?_
  refine zW ?_
  refine Zn6 (k := 1) (L3 := [some ⟨true, 46, 1, 0, []⟩]) (E2 := ⟨8, [], [(2, .row n 0), (2, nV)]⟩) (n3 := (n + 1)) (.inr rfl) hU rfl [.row n 0] ?_ ?_
  ·have ha := Zpe (ba := n) (E := ⟨8, [], [(2, .val (.slice none 0 0))]⟩) (O := (Zy O n [])) (n := n) 2 46 1 rfl (by omega)
   simp only [Yc] at ha
   exact ha
  simp only [push_cast, seval, ↓reduceIte, Zd, Tryz.results84, hN0, hN]
 | some A =>
  refine Zv (t := false) rfl (fun hc => by cases hc) (fun _ => ?_)
  refine zK ?_
  refine And.intro rfl (And.intro (Nat.le_of_ble_eq_true rfl) ?_)
  refine Zo ?_
  refine Y2 Zu [] ?_
  simp only [push_cast, seval, ↓reduceIte, Zd, h1, h2, hN0, hN]
  refine zW ?_
  refine Zr8 (.inr rfl) hU rfl [.row n r.length] (by omega) ?_
  simp only [push_cast, seval, ↓reduceIte, Zd, Tryz.results84, hN0, hN]
theorem Kj {a0 r : List Zb} {O : Objs} {n : Nat} (h : Kt a0 = some r) : GTo Tryz.prog 85 [(sL Za a0)] O n (.row n r.length) (Zy O n [some (oR 25 3 Za r)]) (n + 1) := by
 have h1 := Zv1 h
 have h2 := Zv2 h
 have h3 := Zra h
 rw [List.nil_append] at h3
 subst h3
 simp only [List.length_nil, Nat.zero_add] at h1 h2
 clear h
 refine Zez Zu Tryz.call85 Tryz.func85 rfl (Nat.le_of_ble_eq_true rfl) (by omega) fun hU => ?_
 have hN0 : O n = none := hU.fresh _ (Nat.le_refl _)
 have hN : ∀ k, O (n + k) = none := fun k => hU.fresh _ (Nat.le_add_right _ _)
 show W _ _ _ _ ⟨8, [], [(0, (sL Za r))]⟩ (Zy O n []) _
 refine zQ [0] ?_
 refine Z02 0 r.length (fl Za r) rfl (Nat.le_of_ble_eq_true rfl) (Z5 Y4 _) fun A c hA => ?_
 refine zQ [0, 4] ?_
 cases A with
 | none =>
  obtain rfl : r = [] := List.eq_nil_of_length_eq_zero (hA rfl)
  refine Zv (t := true) rfl (fun _ => ?_) (fun hc => by cases hc)
  refine zQ [2] ?_
  refine zW ?_
  refine Zn6 (k := 1) (L3 := [some ⟨true, 25, 3, 0, []⟩]) (E2 := ⟨8, [], [(2, .row n 0), (2, nV)]⟩) (n3 := (n + 1)) (.inr rfl) hU rfl [.row n 0] ?_ ?_
  ·have ha := Zpe (ba := n) (E := ⟨8, [], [(2, .val (.slice none 0 0))]⟩) (O := (Zy O n [])) (n := n) 2 25 3 rfl (by omega)
   simp only [Yc] at ha
   exact ha
  simp only [push_cast, seval, ↓reduceIte, Zd, Tryz.results85, hN0, hN]
 | some A =>
  refine Zv (t := false) rfl (fun hc => by cases hc) (fun _ => ?_)
  refine zK ?_
  refine And.intro rfl (And.intro (Nat.le_of_ble_eq_true rfl) ?_)
  refine Zo ?_
  refine Y2 Zu [] ?_
  simp only [push_cast, seval, ↓reduceIte, Zd, h1, h2, hN0, hN]
  refine zW ?_
  refine Zr8 (.inr rfl) hU rfl [.row n r.length] (by omega) ?_
  simp only [push_cast, seval, ↓reduceIte, Zd, Tryz.results85, hN0, hN]
end Go.Proofs.YtgpaglmhkklneaaGreat
