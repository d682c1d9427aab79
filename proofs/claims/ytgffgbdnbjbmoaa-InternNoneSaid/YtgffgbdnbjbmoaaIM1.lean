/- Part IM1 of this seat's mirrors: functions of the seat's program, and the plain functions that they are; each theorem bears its own conditions. -/
import Derived.Test.YtgffgbdnbjbmoaaIE
namespace Go.Proofs.Ytgffgbdnbjbmoaa
open Go.RowKit
set_option linter.unusedVariables false
set_option linter.unusedSimpArgs false
set_option maxRecDepth 100000
set_option maxHeartbeats 4000000
attribute [local push_cast] Try.results16 Try.results26 Try.results27 Try.results33 Try.results34 Try.results42 Try.results43 Try.results44 Try.results46 Try.results48 Try.results62 Try.results63 Try.results64 Try.results66 Try.results67 Try.results68 Try.results69 Try.results73 Try.results74 Try.results75 Try.results76 Try.results77 Try.results78 Try.results79 Try.results80 Try.results81 Try.results82 Try.results83 Try.results84 Try.results85 Try.results86 Try.results87 vI vB nV sL oR Za1 Zct Ug Z3 X2 Zc Zne Znd Zof Zoe Xs Yy Zj2 Zfv Zfu onW Yz Gi Uj Zj3 Zj4 Zh3 Zh7 Zh2 Zh6 Zla Zk6 Zh5 Zk9 Zk8 Zk7 Zh4 Zk4 Zgg evS wok Xk Op.operands Call.operands gop onK onP atK List.all_cons List.all_nil Bool.and_true Bool.true_and Bool.and_self Value.oneCell' List.take_zero List.take_succ_cons List.take_nil List.drop_zero List.drop_succ_cons List.drop_nil List.append_nil Nat.add_zero Nat.zero_add Jl Zw ev Xq Zfs Zm5 Zm4 Zna Zm8 Zm9 Zm6 Zm7 Zm3 Zj0 Zlv Zqr Zdx Zab Zdb Gl Zho Zbw Zdh Zdm Zfn Zfj Zdk Zfm Zfl Zfk Zdj Zfh Zdi Zdl Zcu Zfi Ze2 Zfw Uk Zeq Ul Zft Zds Znj bLo bHi bMx Zac Zfr Zrz Zdq Ze7 Zbr K5 Zme Zr2 Zeo Zcb Zr5 Zaa Zuj Zke Zki Zkd Zkh Zn0 Znw Znu Zhq Zkf Znz Zny Znx Zkg Znv Zdv Zir Zkt Zge Zgd pop TK.isAgg Zn9 Zod Zn8 Zoc Zko Zsh Zsd Zob Zsg Zsf Zse Zoa Zsc G.under G.unders List.getD_cons_zero List.getD_cons_succ List.set_cons_zero List.set_cons_succ List.map_cons List.map_nil List.toList_toArray Array.toList_append Option.toArray_none Option.toArray_some Array.toList_map Option.map_some Option.map_none Option.bind_some Option.bind_none List.getElem?_cons_zero List.getElem?_cons_succ List.getElem?_nil List.nil_append List.cons_append List.replicate_succ List.replicate_zero List.length_cons List.length_nil and_true true_and and_false false_and Bool.true_eq_false Bool.false_eq_true forall_const false_implies implies_true IntKind.bits if_true if_false ite_true ite_false eq_self true_implies false_or or_false or_true true_or not_true_eq_false not_false_eq_true decide_true decide_false decide_eq_true_eq decide_eq_false_iff_not beq_iff_eq bne_iff_ne ne_eq Bool.not_eq_true Bool.not_eq_false beq_eq_false_iff_ne bne_eq_false_iff_eq beq_self_eq_true bne_self_eq_false Option.some.injEq exists_eq_left' exists_eq_left ge_iff_le gt_iff_lt decide_not Bool.not_true Bool.not_false imp_self Zr4 cond_true cond_false Zz3 Zz2 Bool.not_not Bool.and_false Bool.false_and Bool.or_true Bool.true_or Bool.or_false Bool.false_or Ur Zgq Zaq G8 Qy X9 Option.join_some Nat.add_assoc Int.toNat_natCast eI eB eS eL Q1 Zep Zdt Zni Zng Znh Zuv Zwa Zeu Zd8 Zoo Zom Zon Zrd Zfo Zql Zg6 Zmu Zen Zrx List.length_append G.agg.injEq G.row.injEq G.ref.injEq G.val.injEq G.sl.injEq G.tup.injEq Value.int.injEq Value.bool.injEq Value.string.injEq List.cons.injEq exists_and_left exists_const List.flatten_cons List.flatten_nil Int.le_refl Nat.le_refl Gg Y4 Qi Bool.not_eq_true' Bool.not_eq_false' Zp6 Zej Ztc Ztg Ztb Ztf Zx3 Zxy List.size_toArray Ziv Zkv G.ren G.rens Zl1 Zb3 Zos Zm0 Zm1 Zk5 Zth U6 G.fn.injEq Zg7 Zls Zp5 Zxz Zlr Zte Zx2 Zx1 Zx0 Ztd Zr9 Zvz Option.join_none Yd Vw undef Ze9 Arr.len Arr.put_eq Zet Zhu Zga Zd7 Zol Zoj Zok onB Zuu Zmd Zk1 Zhj Zjb Zjc Zjd Zje Zjf Zjg Zhr Zhx Zhv Zgc Zd9 Zhw Zks Zkr Zkq Zkp Zv9 Zyu Zrc Zog Q8 Zq5 Zis Zhy Zgb Zsi Zk3 Zdp Ze6 Zat Zg4 Zjh Zji Zjj Zjk Zg9 Zha Zhb Zhc Zhd Zhe Zhf Za2 prT Zae Z0l Zs1 Ziw Zs2 Z0m Zs3 Z0n Zs4 Z0o Zs5 Z0p Zs6 Z0q Zs7 Z0r Zs8 Zwl Zox Zwm Zoy Zwn Zoz Zwo Zo0 Zwp Zo1 Zwq Zo2 Zwr Zo3 Zws Zo4 Zwt Zo5 Zwu Zo6 Zwv Zo7 Zww Zo8 Zwx Zo9 Zwy Zpa Zin Zi7 Zwz Zpb Zw0 Zpc Zw1 Zpd Zw2 Zi8 Zw3 Zpe Zw4 Zpf Zw5 Zpg Zio Zph Zw6 Zpi Zw7 Zi9 Zw8 Zpj Zw9 Zpk Zxa Zpl Zxb Zpm Zxc Zpn Zxd Zpo Zxe Zpp Zxf Zpq Zxg Zpr Zxh Zps Zxi Zpt Zxj Zpu Zlb Zpv Zxk Zpw Zxl Zpx Zxm Zpy Zxn Zpz Zxo Zp0 Zxp Zp1 Zxq Zp2 Zsn Zlc Zso Zld Zsp Zle Zsq Zlf Zsr Zlg Zss Zlh Zst Zli Zsu Zlj Zsv Zlk Zsw Zll Zsx Zlm Zsy Zln Zsz Zlo Zgn Zgl Zf3 Zf8 Zgp Zeh Zee Zec Zgj Zb6 Zb5 Zbx Zb2 Zb7 Zbm Zbf Zbe Zb4 Zg V9 V8 V2 V6 Ua Vm Vh Vg V7 Zdo Zgm Zgk Zf2 Zf7 Zgo Zeg Zed Zeb Zgi Zdn Za4 Zs Vp Vn K7 Ve Vt Kx Ku Ks Vj Zb Zm K0 Kz Kp Kr K1 Ke Kb Ka Kw Vq Vo K8 Vf Vu Ky Kv Kt Vk Zp Kg Kf J3 J9 Kh Jv Js Jr Kc Z4 Jo G3 Gz Gp Gs G5 Gf Ga U8 Gx Za3 Uh Ui G0 Gy Gn Gr G4 Ge U9 U7 Gw
theorem Jw {a0 r : List Int} {O : Objs} {n : Nat} (h : Yk a0 = some r) : GTo Try.prog 64 [(sL (eI .u64) a0)] O n (.row n r.length) (Zn O n [some (oR 40 1 (eI .u64) r)]) (n + 1) := by
 have h1 := Zu9 h
 have h2 := Zva h
 have h3 := Ztj h
 rw [List.nil_append] at h3
 subst h3
 simp only [List.length_nil, Nat.zero_add] at h1 h2
 clear h
 refine zFn Try.call64 Try.func64 fun hU hN0 hN => ?_
 show W _ _ _ _ ⟨8, [], [(0, (sL (eI .u64) r))]⟩ (Zn O n []) _
 refine zQ [0] ?_
 refine Zzz 0 r.length (fl (eI .u64) r) rfl (Nat.le_of_ble_eq_true rfl) (Zr Xo _) fun A c hA => ?_
 refine zQ [0, 4] ?_
 cases A with
 | none =>
  obtain rfl : r = [] := List.eq_nil_of_length_eq_zero (hA rfl)
  refine Zo (t := true) rfl (fun _ => ?_) (fun hc => by cases hc)
  refine zQ [2] ?_
  refine zW ?_
  refine Zqj (k := 1) (L3 := [some ⟨true, 40, 1, 0, []⟩]) (E2 := ⟨8, [], [(2, .row n 0), (2, nV)]⟩) (n3 := (n + 1)) (.inr rfl) hU rfl [.row n 0] ?_ ?_
  ·have ha := Zel (ba := n) (E := ⟨8, [], [(2, .val (.slice none 0 0))]⟩) (O := (Zn O n [])) (n := n) 2 40 1 rfl (by omega)
   simp only [X9] at ha
   exact ha
  simp only [push_cast, seval, ↓reduceIte, Zi, Try.results64, hN0, hN]
 | some A =>
  refine Zo (t := false) rfl (fun hc => by cases hc) (fun _ => ?_)
  refine zK ?_
  refine And.intro rfl (And.intro (Nat.le_of_ble_eq_true rfl) ?_)
  refine Zh ?_
  refine Zx Zy [] ?_
  simp only [push_cast, seval, ↓reduceIte, Zi, h1, h2, hN0, hN]
  refine zW ?_
  refine Zvo (.inr rfl) hU rfl [.row n r.length] (by omega) ?_
  simp only [push_cast, seval, ↓reduceIte, Zi, Try.results64, hN0, hN]
theorem Gq {a0 r : List Int} {O : Objs} {n : Nat} (h : Yk a0 = some r) : GTo Try.prog 64 [(sL (eI .u64) a0)] O n ((sL (eI .u64) r)) O n := by
 refine GTo.freeze (Jw h) fun hU => ?_
 have hN0 : O n = none := hU.fresh _ (Nat.le_refl _)
 have hN : ∀ k, O (n + k) = none := fun k => hU.fresh _ (Nat.le_add_right _ _)
 exact zSe
theorem Zkm {a0 : (List (List Int))} {r : (List (List Int))} {O : Objs} {n : Nat} (h : Uc a0 = some r) : GTo Try.prog 43 [(sL (eL (eI .u64)) a0)] O n ((sL (eL (eI .u64)) r)) O n := by
 unfold Uc at h
 refine zFn Try.call43 Try.func43 fun hU hN0 hN => ?_
 show W _ _ _ _ ⟨23, [], [(0, (sL (eL (eI .u64)) a0))]⟩ (Zn O n []) _
 refine zQ [0] ?_
 refine Zh ?_
 obtain ⟨l2, al2, bl2, cl2, el2, h⟩ := bM2 (c := 24) rfl h
 have nl2 : Int.toNat (a0.length : Int) = List.length l2 := by rw [el2, List.length_replicate]
 have fl2 : ∀ O O' n, Km O O' n (List.replicate (List.length l2) [G.val (.slice none 0 0)]).flatten (fl (eL (eI .u64)) l2) = True := fun O O' n => by rw [← nl2, el2]; exact eq_true (Zrn _ _)
 clear el2
 refine Zx Zy [] ?_
 simp only [push_cast, seval, ↓reduceIte, Zi, al2, bl2, cl2, fl2, nl2, hN0, hN]
 refine Zbp ⟨23, [], [(0, (sL (eL (eI .u64)) a0)), (3, .row n l2.length)]⟩ (Zn O n [some (oR 26 1 (eL (eI .u64)) l2)]) (X7 hU rfl rfl ?_) ?_
 ·simp only [push_cast, seval, ↓reduceIte, Zi, al2, bl2, cl2, fl2, nl2, hN0, hN]
 refine Zh ?_
 refine zQd [3, 9, 10, 11] [3, 9, 10, 11] [true] ?_
 obtain ⟨z9, hz9, h⟩ := bC h
 refine Qz (E' := ⟨23, [], [(3, .row n z9.length)]⟩) (O' := (Zn O n [some (oR 26 1 (eL (eI .u64)) z9)])) (n0 := (n + 1)) ?_ ?_
 ·refine Jy hz9 (fun s0_ => ⟨23, [], [(3, .row n s0_.2.length), (9, (sL (eL (eI .u64)) a0)), (10, (vI (a0.length : Int))), (11, (vI s0_.1))]⟩) (fun s0_ => (Zn O n [some (oR 26 1 (eL (eI .u64)) s0_.2)])) (fun z9 => JX 0 n (⟨23, [], [(3, .row n z9.length)]⟩ : Env) (Zn O n [some (oR 26 1 (eL (eI .u64)) z9)]) (n + 1)) ?_
  intro s0_ x0_ hs0_
  unfold Qv at hs0_
  try dsimp only
  refine zQ [3, 9, 10, 11, 12] ?_
  refine Zh ?_
  refine Zo (t := (decide (s0_.1 < (a0.length : Int)))) rfl (fun c8 => ?_) (fun c8 => ?_)
  ·replace hs0_ := Zu c8 hs0_
   refine K4 [3, 9, 10, 11] [true] ?_
   refine Zh ?_
   refine X6 ?_
   obtain ⟨x4, hx4, ax4, bx4, cx4, hs0_⟩ := bE (f := (eL (eI .u64))) Zin (fun _ => rfl) (by decide) hs0_
   refine G9 [3, 4, 5, 9, 10, 11] (Zx Zy [] ?_)
   refine zF3 ax4 bx4 cx4 ?_
   obtain ⟨y5, hy5, hs0_⟩ := bC hs0_
   obtain ⟨x6, hx6, ax6, bx6, cx6, hs0_⟩ := bE (f := (eL (eI .u64))) Zin (fun _ => rfl) (by decide) hs0_
   have gu7 : Ko (fl (eL (eI .u64)) s0_.2) [.sl y5.length (fl (eI .u64) y5)] (Int.toNat s0_.1 * 1) = some (fl (eL (eI .u64)) (Zbj s0_.2 s0_.1 y5)) := Zhp (f := (eL (eI .u64))) (ti := ⟨.bool, 1, 0, [], false⟩) (x := y5) (fun _ => rfl) (Zdr hx6)
   refine Z2m [] ax6 bx6 cx6 gu7 ?_
   refine (Gq hy5).then ?_
   refine zF4 ax6 bx6 cx6 gu7 ?_
   refine zD [3, 9, 10, 11] [true] ?_
   refine zR ?_
   exact zEn hs0_
  replace hs0_ := Zt c8 hs0_
  exact zEx hs0_
 try simp only [Xs, Yy, ↓reduceIte, Nat.reduceEqDiff]
 refine zD [3] [true] ?_
 refine zQ [2] ?_
 exact Yi [.row n z9.length]
theorem Zra {a0 : (List (List Int))} {r : (Option Zf)} {O : Objs} {n : Nat} (h : Zba a0 = some r) : GTo Try.prog 27 [(sL (eL (eI .u64)) a0)] O n ((gP Zg r)) O n := by
 unfold Zba at h
 refine zFn Try.call27 Try.func27 fun hU hN0 hN => ?_
 show W _ _ _ _ ⟨7, [], [(0, (sL (eL (eI .u64)) a0))]⟩ (Zn O n []) _
 refine zQ [0] ?_
 refine Zh ?_
 obtain ⟨y2, hy2, h⟩ := bC h
 refine zCd (Zkm hy2) [2] [true] ?_
 exact Yi [.ref n 0]
theorem Zf5 {a0 : (Option Zf)} {r : Int} {O : Objs} {n : Nat} (h : K2 a0 = some r) : GTo Try.prog 87 [(gP Zg a0)] O n ((vI r)) O n := by
 unfold K2 at h
 refine zFn Try.call87 Try.func87 fun hU hN0 hN => ?_
 show W _ _ _ _ ⟨10, [], [(0, (gP Zg a0))]⟩ (Zn O n []) _
 refine zQ [0] ?_
 refine Zh ?_
 have g2 := Zif (f := Zg) (t := 33) Zi8 a0
 refine Z2k [0, 4] g2 ?_
 refine Zo (t := (Option.isNone a0)) rfl (fun c5 => ?_) (fun c5 => ?_)
 ·replace h := Zu c5 h
  refine zQ [2] ?_
  exact Yi [(vI 0)]
 replace h := Zt c5 h
 refine K4 [0] [] ?_
 obtain ⟨x4, hx4, h⟩ := bC h
 refine G9 [2] (Zx Zy [] ?_)
 simp only [push_cast, seval, ↓reduceIte, Zi, hx4, hN0, hN]
 exact Yi [(vI (x4.segments.length : Int))]
theorem Xn {a0 : (Option Zf)} {a1 : Int} {r : Bool} {O : Objs} {n : Nat} (h : Xx a0 a1 = some r) : GTo Try.prog 84 [(gP Zg a0), (vI a1)] O n ((vB r)) O n := by
 unfold Xx at h
 refine zFn Try.call84 Try.func84 fun hU hN0 hN => ?_
 show W _ _ _ _ ⟨13, [], [(0, (gP Zg a0)), (1, (vI a1))]⟩ (Zn O n []) _
 refine zQ [0, 1] ?_
 obtain ⟨z2, hz2, h⟩ := bC h
 refine Zaz (E' := ⟨13, [], [(4, (vB z2))]⟩) (O' := (Zn O n [])) (n0 := n) ?_ ?_
 ·rcases Bool.eq_false_or_eq_true (decide (0 ≤ a1)) with c5 | c5
  ·replace hz2 := Zu c5 hz2
   obtain ⟨y4, hy4, hz2⟩ := bC hz2
   refine Zcr [some true, some true, some true, some true] c5 ?_
   refine (Zf5 hy4).then ?_
   refine zX1 c5 ?_
   exact Zcq hz2 c5
  replace hz2 := Zt c5 hz2
  refine Zcr [some false, some false, some false, some false] c5 ?_
  exact Zcq hz2 c5
 exact Yi [(vB z2)]
theorem V4 {a0 : (Option Zf)} {a1 : Int} {r : Int} {O : Objs} {n : Nat} (h : Qc a0 a1 = some r) : GTo Try.prog 85 [(gP Zg a0), (vI a1)] O n ((vI r)) O n := by
 unfold Qc at h
 refine zFn Try.call85 Try.func85 fun hU hN0 hN => ?_
 show W _ _ _ _ ⟨17, [], [(0, (gP Zg a0)), (1, (vI a1))]⟩ (Zn O n []) _
 refine zQ [0, 1] ?_
 refine Zh ?_
 refine Zh ?_
 obtain ⟨y2, hy2, h⟩ := bC h
 refine zCd (Xn hy2) [0, 1, 8] [] ?_
 refine Zo (t := (!y2)) rfl (fun c7 => ?_) (fun c7 => ?_)
 ·replace h := Zu c7 h
  refine zQ [4] ?_
  exact Yi [(vI 0)]
 replace h := Zt c7 h
 refine K4 [0, 1] [] ?_
 obtain ⟨x5, hx5, h⟩ := bC h
 obtain ⟨x6, hx6, ax6, bx6, cx6, h⟩ := bE (f := (eL (eI .u64))) Zin (fun _ => rfl) (by decide) h
 refine G9 [4] (Zx Zy [] ?_)
 refine zF4 hx5 ax6 bx6 cx6 ?_
 exact Yi [(vI (x6.length : Int))]
theorem Un {a0 : (Option Zf)} {a1 : Int} {a2 : Int} {a3 : Int} {r : Bool} {O : Objs} {n : Nat} (h : Xt a0 a1 a2 a3 = some r) : GTo Try.prog 79 [(gP Zg a0), (vI a1), (vI a2), (vI a3)] O n ((vB r)) O n := by
 unfold Xt at h
 refine zFn Try.call79 Try.func79 fun hU hN0 hN => ?_
 show W _ _ _ _ ⟨36, [], [(0, (gP Zg a0)), (1, (vI a1)), (2, (vI a2)), (3, (vI a3))]⟩ (Zn O n []) _
 refine zQ [0, 1, 2, 3] ?_
 obtain ⟨z4, hz4, h⟩ := bC h
 refine Zaz (E' := ⟨36, [], [(8, (vB z4))]⟩) (O' := (Zn O n [])) (n0 := n) ?_ ?_
 ·obtain ⟨y8, hy8, hz4⟩ := bC hz4
  rcases Bool.eq_false_or_eq_true y8 with c11 | c11
  ·replace hz4 := Zu c11 hz4
   rcases Bool.eq_false_or_eq_true (decide (0 ≤ a2)) with c12 | c12
   ·replace hz4 := Zu c12 hz4
    try rw [c12] at c11
    rcases Bool.eq_false_or_eq_true (decide (0 ≤ a3)) with c13 | c13
    ·replace hz4 := Zu c13 hz4
     try rw [c13] at c11
     try rw [c13] at c12
     obtain ⟨y9, hy9, hz4⟩ := bC hz4
     rcases Bool.eq_false_or_eq_true (decide (a3 ≤ y9)) with c14 | c14
     ·replace hz4 := Zu c14 hz4
      try rw [c14] at c11
      try rw [c14] at c12
      try rw [c14] at c13
      obtain ⟨y10, hy10, hz4⟩ := bC hz4
      refine Zt6 [none, none, none, none, some true, some true, some true, some true, some true, some true, some true, some true, some true, some true, some true, some true] c11 c12 c13 c14 ?_
      refine zG ?_
      refine (Xn hy8).then ?_
      refine zX4 c11 c12 c13 c14 ?_
      refine zG ?_
      refine (V4 hy9).then ?_
      refine zX4 c11 c12 c13 c14 ?_
      refine zG ?_
      refine (V4 hy10).then ?_
      refine zX4 c11 c12 c13 c14 ?_
      refine zG ?_
      exact Zt5 hz4 c11 c12 c13 c14
     replace hz4 := Zt c14 hz4
     try rw [c14] at c11
     try rw [c14] at c12
     try rw [c14] at c13
     refine Zt6 [none, none, none, none, some true, some true, some true, some true, some true, some false, some false, some false, some false, some false, some false, some false] c11 c12 c13 c14 ?_
     refine zG ?_
     refine (Xn hy8).then ?_
     refine zX4 c11 c12 c13 c14 ?_
     refine zG ?_
     refine (V4 hy9).then ?_
     refine zX4 c11 c12 c13 c14 ?_
     refine zG ?_
     exact Zt5 hz4 c11 c12 c13 c14
    replace hz4 := Zt c13 hz4
    try rw [c13] at c11
    try rw [c13] at c12
    refine Zro [none, none, none, none, some false, some false, some false, some false, some false, some false, some false, some false, some false, some false, some false, some false] c11 c12 c13 ?_
    refine zG ?_
    refine (Xn hy8).then ?_
    refine zX3 c11 c12 c13 ?_
    refine zG ?_
    exact Zzv hz4 c11 c12 c13
   replace hz4 := Zt c12 hz4
   try rw [c12] at c11
   refine X4 [none, none, none, none, some false, some false, some false, some false, some false, some false, some false, some false, some false, some false, some false, some false] c11 c12 ?_
   refine zG ?_
   refine (Xn hy8).then ?_
   refine zX2 c11 c12 ?_
   refine zG ?_
   exact Zt4 hz4 c11 c12
  replace hz4 := Zt c11 hz4
  refine Zcr [none, none, none, none, some false, some false, some false, some false, some false, some false, some false, some false, some false, some false, some false, some false] c11 ?_
  refine zG ?_
  refine (Xn hy8).then ?_
  refine zX1 c11 ?_
  refine zG ?_
  exact Zcq hz4 c11
 exact Yi [(vB z4)]
theorem Q7 {a0 : (Option Zf)} {a1 : Int} {a2 : Int} {r : (Int × Bool)} {O : Objs} {n : Nat} (h : Y6 a0 a1 a2 = some r) : GTo Try.prog 69 [(gP Zg a0), (vI a1), (vI a2)] O n (.tup [.val (.int .u64 r.1), (vB r.2)]) O n := by
 unfold Y6 at h
 refine zFn Try.call69 Try.func69 fun hU hN0 hN => ?_
 show W _ _ _ _ ⟨23, [], [(0, (gP Zg a0)), (1, (vI a1)), (2, (vI a2))]⟩ (Zn O n []) _
 refine zQ [0, 1, 2] ?_
 refine Zh ?_
 refine Zh ?_
 obtain ⟨y2, hy2, h⟩ := bC h
 refine zCd (Un hy2) [0, 1, 2, 12] [] ?_
 refine Zo (t := (!y2)) rfl (fun c9 => ?_) (fun c9 => ?_)
 ·replace h := Zu c9 h
  refine zQ [6, 7] ?_
  exact Yi [.val (.int .u64 0), (vB false)]
 replace h := Zt c9 h
 refine K4 [0, 1, 2] [] ?_
 obtain ⟨x6, hx6, h⟩ := bC h
 obtain ⟨x7, hx7, ax7, bx7, cx7, h⟩ := bE (f := (eL (eI .u64))) Zin (fun _ => rfl) (by decide) h
 obtain ⟨x8, hx8, ax8, bx8, cx8, h⟩ := bE (f := (eI .u64)) Zio (fun _ => rfl) (by decide) h
 refine G9 [6, 7] (Zx Zy [] ?_)
 refine zF7 hx6 ax7 bx7 cx7 ax8 bx8 cx8 ?_
 exact Yi [.val (.int .u64 x8), (vB true)]
theorem Zfc {a0 : Int} {r : Int} {O : Objs} {n : Nat} (h : U3 a0 = some r) : GTo Try.prog 80 [.val (.int .u64 a0)] O n ((vI r)) O n := by
 unfold U3 at h
 refine zFn Try.call80 Try.func80 fun hU hN0 hN => ?_
 show W _ _ _ _ ⟨8, [], [(0, .val (.int .u64 a0))]⟩ (Zn O n []) _
 refine zQ [0] ?_
 refine zQ [2] ?_
 exact Yi [(vI (IntKind.i64.wrap (Int.fdiv (IntKind.i32.wrap (IntKind.u32.wrap a0)) (2 ^ min (Int.toNat 2) 32))))]
theorem Vz {a0 : Int} {a1 : Int} {a2 : Int} {r : Int} {O : Objs} {n : Nat} (h : Y3 a0 a1 a2 = some r) : GTo Try.prog 81 [.val (.int .u64 a0), (vI a1), (vI a2)] O n ((vI r)) O n := by
 unfold Y3 at h
 refine zFn Try.call81 Try.func81 fun hU hN0 hN => ?_
 show W _ _ _ _ ⟨15, [], [(0, .val (.int .u64 a0)), (1, (vI a1)), (2, (vI a2))]⟩ (Zn O n []) _
 refine zQ [0, 1, 2] ?_
 obtain ⟨pu3, h⟩ := bG h
 obtain ⟨pu4, h⟩ := bG h
 refine G9 [6] (G7 Zy (by kernel_rfl) [] (by kernel_rfl) ?_)
 simp only [push_cast, seval, ↓reduceIte, Zi, pu3, pu4, hN0, hN]
 exact Yi [(vI (IntKind.i64.wrap (IntKind.u64.wrap (K6 .u64 (Int.fdiv a0 (2 ^ min (Int.toNat a1) 64)) (IntKind.u64.wrap ((IntKind.u64.wrap (1 * 2 ^ min (Int.toNat a2) 64)) - 1))))))]
theorem Jk {a0 : Int} {r : Yg} {O : Objs} {n : Nat} (h : Qg a0 = some r) : GTo Try.prog 73 [.val (.int .u64 a0)] O n (.agg (X2 r)) O n := by
 unfold Qg at h
 refine zFn Try.call73 Try.func73 fun hU hN0 hN => ?_
 show W _ _ _ _ ⟨38, [], [(0, .val (.int .u64 a0))]⟩ (Zn O n []) _
 refine zQ [0, 2] ?_
 refine Zh ?_
 refine zQ [0, 2, 4] ?_
 refine Zo (t := (a0 == 0)) rfl (fun c20 => ?_) (fun c20 => ?_)
 ·replace h := Zu c20 h
  refine Zh ?_
  refine zR ?_
  refine Zbp ⟨38, [], [(2, .ref n 0)]⟩ (Zn O n [some ⟨false, 116, 8, 1, [(vI 0), (vI 0), (vI 0), (vI 0), (vI 0), (vI 0), (vI 0), (vB false)]⟩]) (X7 hU rfl rfl ?_) ?_
  ·exact zSe
  exact Yi [.agg [(vI 0), (vI 0), (vI 0), (vI 0), (vI 0), (vI 0), (vI 0), (vB false)]]
 replace h := Zt c20 h
 refine zK ?_
 refine Zbp ⟨38, [], [(0, .val (.int .u64 a0)), (2, .ref n 0)]⟩ (Zn O n [some ⟨false, 116, 8, 1, [(vI 0), (vI 0), (vI 0), (vI 0), (vI 0), (vI 0), (vI 0), (vB false)]⟩]) (X7 hU rfl rfl ?_) ?_
 ·exact zSe
 refine Zh ?_
 refine zQ [0, 2, 7] ?_
 refine X6 ?_
 refine zQ [0, 2, 7, 8] ?_
 refine Zo (t := ((IntKind.u64.wrap (K6 .u64 a0 3)) == 0)) rfl (fun c19 => ?_) (fun c19 => ?_)
 ·replace h := Zu c19 h
  refine Zh ?_
  obtain ⟨y4, hy4, h⟩ := bC h
  obtain ⟨y5, hy5, h⟩ := bC h
  obtain ⟨y6, hy6, h⟩ := bC h
  refine zC (Zfc hy4) ?_
  refine zTs (Vz hy5) ?_
  refine zTs (Vz hy6) ?_
  refine Zbp ⟨38, [], [(2, .ref n 0)]⟩ (Zn O n [some ⟨false, 116, 8, 1, [(vI 1), (vI y4), (vI y5), (vI y6), (vI 0), (vI 0), (vI 0), (vB false)]⟩]) (X7 hU rfl rfl ?_) ?_
  ·exact zSe
  exact Yi [.agg [(vI 1), (vI y4), (vI y5), (vI y6), (vI 0), (vI 0), (vI 0), (vB false)]]
 replace h := Zt c19 h
 refine zQ [0, 2, 7, 17] ?_
 refine Zo (t := ((IntKind.u64.wrap (K6 .u64 a0 3)) == 1)) rfl (fun c18 => ?_) (fun c18 => ?_)
 ·replace h := Zu c18 h
  refine Zh ?_
  obtain ⟨y10, hy10, h⟩ := bC h
  obtain ⟨y11, hy11, h⟩ := bC h
  obtain ⟨y12, hy12, h⟩ := bC h
  refine zC (Zfc hy10) ?_
  refine zTs (Vz hy11) ?_
  refine zTs (Vz hy12) ?_
  refine Zbp ⟨38, [], [(2, .ref n 0)]⟩ (Zn O n [some ⟨false, 116, 8, 1, [(vI 2), (vI y10), (vI 0), (vI 0), (vI y11), (vI y12), (vI 0), (vB false)]⟩]) (X7 hU rfl rfl ?_) ?_
  ·exact zSe
  exact Yi [.agg [(vI 2), (vI y10), (vI 0), (vI 0), (vI y11), (vI y12), (vI 0), (vB false)]]
 replace h := Zt c18 h
 refine zQ [0, 2, 26] ?_
 refine Zo (t := ((IntKind.u64.wrap (K6 .u64 a0 3)) == 2)) rfl (fun c17 => ?_) (fun c17 => ?_)
 ·replace h := Zu c17 h
  refine Zh ?_
  obtain ⟨y15, hy15, h⟩ := bC h
  obtain ⟨y16, hy16, h⟩ := bC h
  refine zC (Vz hy15) ?_
  refine zTs (Vz hy16) ?_
  refine Zbp ⟨38, [], [(2, .ref n 0)]⟩ (Zn O n [some ⟨false, 116, 8, 1, [(vI 3), (vI y15), (vI 0), (vI 0), (vI 0), (vI 0), (vI y16), (vB ((IntKind.u64.wrap (K6 .u64 (Int.fdiv a0 (2 ^ min (Int.toNat 2) 64)) 1)) == 1))]⟩]) (X7 hU rfl rfl ?_) ?_
  ·exact zSe
  exact Yi [.agg [(vI 3), (vI y15), (vI 0), (vI 0), (vI 0), (vI 0), (vI y16), (vB ((IntKind.u64.wrap (K6 .u64 (Int.fdiv a0 (2 ^ min (Int.toNat 2) 64)) 1)) == 1))]]
 replace h := Zt c17 h
 refine zK ?_
 refine Zbp ⟨38, [], [(2, .ref n 0)]⟩ (Zn O n [some ⟨false, 116, 8, 1, [(vI 0), (vI 0), (vI 0), (vI 0), (vI 0), (vI 0), (vI 0), (vB false)]⟩]) (X7 hU rfl rfl ?_) ?_
 ·exact zSe
 refine Zh ?_
 refine zR ?_
 refine Zbp ⟨38, [], [(2, .ref n 0)]⟩ (Zn O n [some ⟨false, 116, 8, 1, [(vI 4), (vI 0), (vI 0), (vI 0), (vI 0), (vI 0), (vI 0), (vB false)]⟩]) (X7 hU rfl rfl ?_) ?_
 ·exact zSe
 exact Yi [.agg [(vI 4), (vI 0), (vI 0), (vI 0), (vI 0), (vI 0), (vI 0), (vB false)]]
theorem Ze3 {a0 : (Option Zf)} {a1 : Int} {a2 : Int} {a3 : Int} {r : ((List Int) × Bool)} {O : Objs} {n : Nat} (h : Q4 a0 a1 a2 a3 = some r) : GTo Try.prog 82 [(gP Zg a0), (vI a1), (vI a2), (vI a3)] O n (.tup [(sL (eI .u64) r.1), (vB r.2)]) O n := by
 unfold Q4 at h
 refine zFn Try.call82 Try.func82 fun hU hN0 hN => ?_
 show W _ _ _ _ ⟨29, [], [(0, (gP Zg a0)), (1, (vI a1)), (2, (vI a2)), (3, (vI a3))]⟩ (Zn O n []) _
 refine zQ [0, 1, 2, 3] ?_
 refine Zh ?_
 refine Zh ?_
 obtain ⟨y2, hy2, h⟩ := bC h
 refine zCd (Un hy2) [0, 1, 2, 3, 15] [] ?_
 refine Zo (t := (!y2)) rfl (fun c11 => ?_) (fun c11 => ?_)
 ·replace h := Zu c11 h
  refine zQ [8, 9] ?_
  exact Yi [nV, (vB false)]
 replace h := Zt c11 h
 refine K4 [0, 1, 2, 3] [] ?_
 refine Zh ?_
 obtain ⟨x7, hx7, h⟩ := bC h
 obtain ⟨x8, hx8, ax8, bx8, cx8, h⟩ := bE (f := (eL (eI .u64))) Zin (fun _ => rfl) (by decide) h
 obtain ⟨l9, al9, bl9, cl9, gl9, h⟩ := bS (lo := (some (.i64, a2))) (hi := (some (.i64, (IntKind.i64.wrap (a2 + a3))))) (f := (eI .u64)) rfl rfl Zi7 Zio (fun _ => rfl) h
 obtain ⟨y10, hy10, h⟩ := bC h
 refine Z2o [] hx7 ax8 bx8 cx8 al9 bl9 cl9 gl9 ?_
 refine (Jw  hy10).then ?_
 refine zF8 hx7 ax8 bx8 cx8 al9 bl9 cl9 gl9 ?_
 refine zD [8, 9] [true] ?_
 exact Yi [.row n y10.length, (vB true)]
theorem Zn7 {a0 : Int} {r : Int} {O : Objs} {n : Nat} (h : Zaj a0 = some r) : GTo Try.prog 86 [(vI a0)] O n ((vI r)) O n := by
 unfold Zaj at h
 refine zFn Try.call86 Try.func86 fun hU hN0 hN => ?_
 show W _ _ _ _ ⟨8, [], [(0, (vI a0))]⟩ (Zn O n []) _
 refine zQ [0] ?_
 refine Zh ?_
 obtain ⟨y6, hy6, ey6, h⟩ := bY (f := (eI .i64)) (cs := [.val (.int .i64 0), .val (.int .i64 1), .val (.int .i64 8), .val (.int .i64 16), .val (.int .i64 32), .val (.int .i64 64), .val (.int .i64 64)]) rfl h
 have g7 := congrArg G.agg ey6
 obtain ⟨y8, hy8, ey8, h⟩ := bY (f := (eI .i64)) (cs := [.val (.int .i64 0), .val (.int .i64 0), .val (.int .i64 0), .val (.int .i64 0), .val (.int .i64 0), .val (.int .i64 0), .val (.int .i64 0)]) rfl h
 have g9 := congrArg (GObj.mk false 138 7 1) ey8
 have g10 := Zj5 (f := (eI .i64)) y8 y6 (fun _ => rfl)
 refine Zro [] g7 g9 g10 ?_
 refine zD [0, 3] [true] ?_
 obtain ⟨x12, hx12, ax12, bx12, cx12, h⟩ := bEA (f := (eI .i64)) (b := 7) rfl Ziw (fun _ => rfl) (by decide) h
 refine G9 [2] (Zx Zy [] ?_)
 refine zF3 ax12 bx12 cx12 ?_
 exact Yi [(vI x12)]
theorem Zhs {a0 : Yg} {r : (Int × Bool)} {O : Objs} {n : Nat} (h : Ki a0 = some r) : GTo Try.prog 83 [.agg (X2 a0)] O n (.tup [(vI r.1), (vB r.2)]) O n := by
 unfold Ki at h
 refine zFn Try.call83 Try.func83 fun hU hN0 hN => ?_
 show W _ _ _ _ ⟨57, [], [(0, .agg (X2 a0))]⟩ (Zn O n []) _
 refine zQ [1] ?_
 refine Zh ?_
 refine X6 ?_
 refine zQ [1, 4] ?_
 refine Zo (t := (a0.Kind == 1)) rfl (fun c5 => ?_) (fun c5 => ?_)
 ·replace h := Zu c5 h
  refine zQ [2, 3] ?_
  exact Yi [(vI (IntKind.i64.wrap (a0.Data + a0.Ptrs))), (vB true)]
 replace h := Zt c5 h
 refine zQD [1, 13] [none, none, none] ?_
 refine Zo (t := (cond (a0.Kind == 2) (a0.Code == 7) false)) rfl (fun c4 => ?_) (fun c4 => ?_)
 ·replace h := Zu c4 h
  refine zQ [2, 3] ?_
  exact Yi [(vI (IntKind.i64.wrap (a0.Count + 1))), (vB true)]
 replace h := Zt c4 h
 refine zQD [1, 25] [none, none, none, none, none, none, none, none, none, none, none, none] ?_
 refine Zo (t := (cond (cond (cond (cond (a0.Kind == 2) (decide (0 ≤ a0.Code)) false) (decide (a0.Code < 7)) false) (decide (0 ≤ a0.Count)) false) (decide (a0.Count ≤ 536870911)) false)) rfl (fun c3 => ?_) (fun c3 => ?_)
 ·replace h := Zu c3 h
  refine Zh ?_
  obtain ⟨y2, hy2, h⟩ := bC h
  refine G7 Zy (by kernel_rfl) [] (by kernel_rfl) ?_
  refine zS ?_
  refine PCall.of (Zn7 hy2) ?_
  refine zS ?_
  refine zD [2, 3] [false] ?_
  exact Yi [(vI (IntKind.i64.wrap (Int.tdiv (IntKind.i64.wrap ((IntKind.i64.wrap (a0.Count * y2)) + 63)) 64))), (vB true)]
 replace h := Zt c3 h
 refine K4 [] [false] ?_
 refine zQ [2, 3] ?_
 exact Yi [(vI 0), (vB false)]
theorem Zb1 {a0 : (Option Zf)} {a1 : Yg} {a2 : Int} {a3 : Int} {r : (Yv × Int)} {O : Objs} {n : Nat} (h : J5 a0 a1 a2 a3 = some r) : GTo Try.prog 76 [(gP Zg a0), .agg (X2 a1), (vI a2), (vI a3)] O n (.tup [.agg [(vI r.1.P.Kind), (vI r.1.P.Off), (vI r.1.P.Data), (vI r.1.P.Ptrs), (vI r.1.P.Code), (vI r.1.P.Count), (vI r.1.P.Segment), (vB r.1.P.Double), (vI r.1.Segment), (vI r.1.At)], (vI r.2)]) O n := by
 unfold J5 at h
 refine zFn Try.call76 Try.func76 fun hU hN0 hN => ?_
 show W _ _ _ _ ⟨36, [], [(0, (gP Zg a0)), (1, .agg (X2 a1)), (2, (vI a2)), (3, (vI a3))]⟩ (Zn O n []) _
 refine zQ [0, 2, 3, 5, 8] ?_
 refine Zh ?_
 refine zQ [0, 2, 3, 5, 8, 14] ?_
 refine Zo (t := (a1.Kind == 4)) rfl (fun c7 => ?_) (fun c7 => ?_)
 ·replace h := Zu c7 h
  refine Zh ?_
  refine zRd [8, 9] [false, true] ?_
  exact Yi [.agg [(vI 0), (vI 0), (vI 0), (vI 0), (vI 0), (vI 0), (vI 0), (vB false), (vI 0), (vI 0)], (vI 9)]
 replace h := Zt c7 h
 refine K4 [0, 2, 3, 5, 8] [true, true] ?_
 refine Zh ?_
 obtain ⟨y2, hy2, h⟩ := bC h
 refine zCd (Zhs hy2) [0, 2, 3, 5, 8, 10, 11] [true, true] ?_
 refine Zh ?_
 refine zQ [0, 2, 3, 5, 8, 10, 22] ?_
 refine Zo (t := (!y2.2)) rfl (fun c6 => ?_) (fun c6 => ?_)
 ·replace h := Zu c6 h
  refine Zh ?_
  refine zRd [8, 9] [false, true] ?_
  exact Yi [.agg [(vI 0), (vI 0), (vI 0), (vI 0), (vI 0), (vI 0), (vI 0), (vB false), (vI 0), (vI 0)], (vI 8)]
 replace h := Zt c6 h
 refine K4 [0, 2, 3, 5, 8, 10] [true, true] ?_
 refine Zh ?_
 refine Zh ?_
 obtain ⟨y4, hy4, h⟩ := bC h
 refine zCd (Un hy4) [2, 3, 5, 8, 29] [true, true] ?_
 refine Zo (t := (!y4)) rfl (fun c5 => ?_) (fun c5 => ?_)
 ·replace h := Zu c5 h
  refine Zh ?_
  refine zRd [8, 9] [false, true] ?_
  exact Yi [.agg [(vI 0), (vI 0), (vI 0), (vI 0), (vI 0), (vI 0), (vI 0), (vB false), (vI 0), (vI 0)], (vI 7)]
 replace h := Zt c5 h
 refine K4 [2, 3, 5, 8] [true, true] ?_
 refine Zh ?_
 refine zRd [2, 3, 5, 8] [true, true] ?_
 refine Zh ?_
 refine zRd [8, 9] [false, true] ?_
 exact Yi [.agg [(vI a1.Kind), (vI 0), (vI a1.Data), (vI a1.Ptrs), (vI a1.Code), (vI a1.Count), (vI a1.Segment), (vB a1.Double), (vI a2), (vI a3)], (vI 0)]
theorem Zly {a0 : (Option Zf)} {a1 : Int} {a2 : Int} {r : (Yv × Int)} {O : Objs} {n : Nat} (h : U1 a0 a1 a2 = some r) : GTo Try.prog 74 [(gP Zg a0), (vI a1), (vI a2)] O n (.tup [.agg [(vI r.1.P.Kind), (vI r.1.P.Off), (vI r.1.P.Data), (vI r.1.P.Ptrs), (vI r.1.P.Code), (vI r.1.P.Count), (vI r.1.P.Segment), (vB r.1.P.Double), (vI r.1.Segment), (vI r.1.At)], (vI r.2)]) O n := by
 unfold U1 at h
 refine zFn Try.call74 Try.func74 fun hU hN0 hN => ?_
 show W _ _ _ _ ⟨56, [], [(0, (gP Zg a0)), (1, (vI a1)), (2, (vI a2))]⟩ (Zn O n []) _
 refine zQ [0, 1, 2, 6] ?_
 refine Zh ?_
 obtain ⟨y2, hy2, h⟩ := bC h
 refine zCd (Ze3 hy2) [0, 6, 8, 9] [true] ?_
 refine Zh ?_
 refine zQ [0, 6, 8, 20] ?_
 refine Zo (t := (!y2.2)) rfl (fun c11 => ?_) (fun c11 => ?_)
 ·replace h := Zu c11 h
  refine Zh ?_
  refine zRd [6, 7] [true] ?_
  exact Yi [.agg [(vI 0), (vI 0), (vI 0), (vI 0), (vI 0), (vI 0), (vI 0), (vB false), (vI 0), (vI 0)], (vI 7)]
 replace h := Zt c11 h
 refine K4 [0, 6, 8] [true] ?_
 obtain ⟨x3, hx3, ax3, bx3, cx3, h⟩ := bE (f := (eI .u64)) Zio (fun _ => rfl) (by decide) h
 obtain ⟨y4, hy4, h⟩ := bC h
 obtain ⟨x5, hx5, ax5, bx5, cx5, h⟩ := bE (f := (eI .u64)) Zio (fun _ => rfl) (by decide) h
 obtain ⟨y6, hy6, h⟩ := bC h
 refine Zaz (E' := ⟨56, [], [(0, (gP Zg a0)), (6, .ref n 0), (10, .ref (n + 1) 0), (11, .ref (n + 2) 0)]⟩) (O' := (Zn O n [some ⟨false, 118, 10, 1, [(vI 0), (vI 0), (vI 0), (vI 0), (vI 0), (vI 0), (vI 0), (vB false), (vI 0), (vI 0)]⟩, some ⟨false, 116, 8, 1, (X2 y4)⟩, some ⟨false, 116, 8, 1, (X2 y6)⟩])) (n0 := (n + 3)) ?_ ?_
 ·refine Zx7 Zy (by kernel_rfl) [.low, .low, .low, .low, .low, .low, .low, .low, .pass, .pass, .pass, .pass] (fun i => i < (n + 1)) 8 9 [0, 1, 2, 3, 4, 5, 6, 7] [10, 11] [.low, .low, .low, .low, .low, .low, .low, .low] [.pass, .pass, .pass, .pass] [.pass, .pass, .pass, .pass] [] (by kernel_rfl) rfl rfl rfl ?_
  refine zF6 ax3 bx3 cx3 ax5 bx5 cx5 ?_
  repeat (with_reducible refine And.intro (by omega) ?_)
  first | refine PCallA.of (fun _ _ => Jk hy4) ?_ | refine PCall.of (Jk hy4) ?_
  refine zF6 ax3 bx3 cx3 ax5 bx5 cx5 ?_
  repeat (with_reducible refine And.intro (by omega) ?_)
  first | refine PCallA.of (fun _ _ => Jk hy6) ?_ | refine PCall.of (Jk hy6) ?_
  refine zF6 ax3 bx3 cx3 ax5 bx5 cx5 ?_
  repeat (with_reducible refine And.intro (by omega) ?_)
  refine And.intro ?_ ?_
  ·refine zF6 ax3 bx3 cx3 ax5 bx5 cx5 ?_
   repeat (with_reducible refine And.intro (by first | exact Zhi rfl | exact Zff) ?_)
   exact Z2j ax3 bx3 cx3 ax5 bx5 cx5
  refine zF6 ax3 bx3 cx3 ax5 bx5 cx5 ?_
  repeat (with_reducible refine And.intro (by first | exact Zhi rfl | exact Zff) ?_)
  refine And.intro rfl ?_
  refine Fit2.trans (E' := (⟨56, [], [(0, (gP Zg a0)), (6, .ref n 0), (10, .ref (n + 2) 0), (11, .ref (n + 1) 0)]⟩ : Env)) (O' := (Zn O n [some ⟨false, 118, 10, 1, [(vI 0), (vI 0), (vI 0), (vI 0), (vI 0), (vI 0), (vI 0), (vB false), (vI 0), (vI 0)]⟩, some ⟨false, 116, 8, 1, (X2 y6)⟩, some ⟨false, 116, 8, 1, (X2 y4)⟩])) (n' := (n + 3)) (Fit2.of (X7 hU rfl rfl ?_) (by omega)) ?_
  ·exact Z34 ax3 bx3 cx3 ax5 bx5 cx5
  refine Zoq (k := 3) (k' := 3) hU [0, 2, 1] [0, 2, 1] rfl rfl rfl rfl ⟨rfl, rfl⟩ ?_
  exact zSe
 refine Zh ?_
 refine zQD [0, 6, 10, 11, 36] [none, none] ?_
 refine Zo (t := (cond (y4.Kind != 3) true y4.Double)) rfl (fun c10 => ?_) (fun c10 => ?_)
 ·replace h := Zu c10 h
  refine Zh ?_
  refine zRd [6, 7] [true, false, false] ?_
  exact Yi [.agg [(vI 0), (vI 0), (vI 0), (vI 0), (vI 0), (vI 0), (vI 0), (vB false), (vI 0), (vI 0)], (vI 8)]
 replace h := Zt c10 h
 refine K4 [0, 6, 10, 11] [true, true, true] ?_
 refine Zh ?_
 refine zQD [0, 6, 10, 11, 45] [none, none, none] ?_
 refine Zo (t := (cond (y6.Kind != 4) (y6.Off != 0) false)) rfl (fun c9 => ?_) (fun c9 => ?_)
 ·replace h := Zu c9 h
  refine Zh ?_
  refine zRd [6, 7] [true, false, false] ?_
  exact Yi [.agg [(vI 0), (vI 0), (vI 0), (vI 0), (vI 0), (vI 0), (vI 0), (vB false), (vI 0), (vI 0)], (vI 8)]
 replace h := Zt c9 h
 refine K4 [0, 6, 10, 11] [true, true, true] ?_
 refine Zh ?_
 obtain ⟨y8, hy8, h⟩ := bC h
 refine zCd (Zb1 hy8) [6, 7] [true, false, false] ?_
 exact Yi [.agg [(vI y8.1.P.Kind), (vI y8.1.P.Off), (vI y8.1.P.Data), (vI y8.1.P.Ptrs), (vI y8.1.P.Code), (vI y8.1.P.Count), (vI y8.1.P.Segment), (vB y8.1.P.Double), (vI y8.1.Segment), (vI y8.1.At)], (vI y8.2)]
theorem Zlz {a0 : (Option Zf)} {a1 : Int} {a2 : Int} {r : (Yv × Int)} {O : Objs} {n : Nat} (h : U2 a0 a1 a2 = some r) : GTo Try.prog 75 [(gP Zg a0), (vI a1), (vI a2)] O n (.tup [.agg [(vI r.1.P.Kind), (vI r.1.P.Off), (vI r.1.P.Data), (vI r.1.P.Ptrs), (vI r.1.P.Code), (vI r.1.P.Count), (vI r.1.P.Segment), (vB r.1.P.Double), (vI r.1.Segment), (vI r.1.At)], (vI r.2)]) O n := by
 unfold U2 at h
 refine zFn Try.call75 Try.func75 fun hU hN0 hN => ?_
 show W _ _ _ _ ⟨34, [], [(0, (gP Zg a0)), (1, (vI a1)), (2, (vI a2))]⟩ (Zn O n []) _
 refine zQ [0, 1, 2, 6] ?_
 refine Zh ?_
 obtain ⟨y2, hy2, h⟩ := bC h
 refine zCd (Q7 hy2) [0, 1, 2, 6, 8, 9] [true] ?_
 refine Zh ?_
 refine zQ [0, 1, 2, 6, 8, 19] ?_
 refine Zo (t := (!y2.2)) rfl (fun c7 => ?_) (fun c7 => ?_)
 ·replace h := Zu c7 h
  refine Zh ?_
  refine zRd [6, 7] [true] ?_
  exact Yi [.agg [(vI 0), (vI 0), (vI 0), (vI 0), (vI 0), (vI 0), (vI 0), (vB false), (vI 0), (vI 0)], (vI 7)]
 replace h := Zt c7 h
 refine K4 [0, 1, 2, 6, 8] [true] ?_
 refine Zh ?_
 obtain ⟨y4, hy4, h⟩ := bC h
 refine zCd (Jk hy4) [0, 1, 2, 6, 10] [true, true] ?_
 refine Zh ?_
 obtain ⟨y6, hy6, h⟩ := bC h
 refine zCd (Zb1 hy6) [6, 7] [true, false] ?_
 exact Yi [.agg [(vI y6.1.P.Kind), (vI y6.1.P.Off), (vI y6.1.P.Data), (vI y6.1.P.Ptrs), (vI y6.1.P.Code), (vI y6.1.P.Count), (vI y6.1.P.Segment), (vB y6.1.P.Double), (vI y6.1.Segment), (vI y6.1.At)], (vI y6.2)]
theorem Zlx {a0 : (Option Zf)} {a1 : Int} {a2 : Int} {r : (Yv × Int)} {O : Objs} {n : Nat} (h : U0 a0 a1 a2 = some r) : GTo Try.prog 62 [(gP Zg a0), (vI a1), (vI a2)] O n (.tup [.agg [(vI r.1.P.Kind), (vI r.1.P.Off), (vI r.1.P.Data), (vI r.1.P.Ptrs), (vI r.1.P.Code), (vI r.1.P.Count), (vI r.1.P.Segment), (vB r.1.P.Double), (vI r.1.Segment), (vI r.1.At)], (vI r.2)]) O n := by
 unfold U0 at h
 refine zFn Try.call62 Try.func62 fun hU hN0 hN => ?_
 show W _ _ _ _ ⟨67, [], [(0, (gP Zg a0)), (1, (vI a1)), (2, (vI a2))]⟩ (Zn O n []) _
 refine zQ [0, 1, 2, 6] ?_
 refine Zh ?_
 obtain ⟨y2, hy2, h⟩ := bC h
 refine zCd (Q7 hy2) [0, 1, 2, 6, 8, 9] [true] ?_
 refine Zh ?_
 refine zQ [0, 1, 2, 6, 8, 19] ?_
 refine Zo (t := (!y2.2)) rfl (fun c14 => ?_) (fun c14 => ?_)
 ·replace h := Zu c14 h
  refine Zh ?_
  refine zRd [6, 7] [true] ?_
  exact Yi [.agg [(vI 0), (vI 0), (vI 0), (vI 0), (vI 0), (vI 0), (vI 0), (vB false), (vI 0), (vI 0)], (vI 7)]
 replace h := Zt c14 h
 refine K4 [0, 1, 2, 6, 8] [true] ?_
 refine Zh ?_
 obtain ⟨y4, hy4, h⟩ := bC h
 refine zCd (Jk hy4) [0, 1, 2, 6, 10] [true, true] ?_
 refine Zh ?_
 refine X6 ?_
 refine zQ [0, 1, 2, 6, 10, 23] ?_
 refine Zo (t := (y4.Kind == 0)) rfl (fun c13 => ?_) (fun c13 => ?_)
 ·replace h := Zu c13 h
  refine Zh ?_
  refine zRd [6, 7] [true, false] ?_
  exact Yi [.agg [(vI 0), (vI 0), (vI 0), (vI 0), (vI 0), (vI 0), (vI 0), (vB false), (vI 0), (vI 0)], (vI 0)]
 replace h := Zt c13 h
 refine zQD [0, 1, 2, 6, 10, 28] [none, none] ?_
 refine Zo (t := (cond (y4.Kind == 3) y4.Double false)) rfl (fun c12 => ?_) (fun c12 => ?_)
 ·replace h := Zu c12 h
  refine Zh ?_
  obtain ⟨y6, hy6, h⟩ := bC h
  refine zCd (Zly hy6) [6, 7] [true, false] ?_
  exact Yi [.agg [(vI y6.1.P.Kind), (vI y6.1.P.Off), (vI y6.1.P.Data), (vI y6.1.P.Ptrs), (vI y6.1.P.Code), (vI y6.1.P.Count), (vI y6.1.P.Segment), (vB y6.1.P.Double), (vI y6.1.Segment), (vI y6.1.At)], (vI y6.2)]
 replace h := Zt c12 h
 refine zQ [0, 1, 2, 6, 10, 44] ?_
 refine Zo (t := (y4.Kind == 3)) rfl (fun c11 => ?_) (fun c11 => ?_)
 ·replace h := Zu c11 h
  refine Zh ?_
  obtain ⟨y8, hy8, h⟩ := bC h
  refine zCd (Zlz hy8) [6, 7] [true, false] ?_
  exact Yi [.agg [(vI y8.1.P.Kind), (vI y8.1.P.Off), (vI y8.1.P.Data), (vI y8.1.P.Ptrs), (vI y8.1.P.Code), (vI y8.1.P.Count), (vI y8.1.P.Segment), (vB y8.1.P.Double), (vI y8.1.Segment), (vI y8.1.At)], (vI y8.2)]
 replace h := Zt c11 h
 refine K4 [0, 1, 2, 6, 10] [true, true] ?_
 refine Zh ?_
 obtain ⟨y10, hy10, h⟩ := bC h
 refine zCd (Zb1 hy10) [6, 7] [true, false] ?_
 exact Yi [.agg [(vI y10.1.P.Kind), (vI y10.1.P.Off), (vI y10.1.P.Data), (vI y10.1.P.Ptrs), (vI y10.1.P.Code), (vI y10.1.P.Count), (vI y10.1.P.Segment), (vB y10.1.P.Double), (vI y10.1.Segment), (vI y10.1.At)], (vI y10.2)]
theorem Ze5 {a0 : Za} {r : (Za × Int)} {O : Objs} {n : Nat} (h : J6 a0 = some r) : GTo Try.prog 63 [.agg (Zc a0)] O n (.tup [.agg (Zc r.1), (vI r.2)]) O n := by
 unfold J6 at h
 refine zFn Try.call63 Try.func63 fun hU hN0 hN => ?_
 show W _ _ _ _ ⟨56, [], [(0, .agg (Zc a0))]⟩ (Zn O n []) _
 refine zQ [1, 2] ?_
 refine Zh ?_
 obtain ⟨y2, hy2, h⟩ := bC h
 refine zCd (Q7 hy2) [1, 2, 4] [true, true] ?_
 refine Zh ?_
 obtain ⟨y4, hy4, h⟩ := bC h
 refine zCd (Jk hy4) [1, 2, 6] [true, true, true] ?_
 refine Zh ?_
 refine zQD [1, 2, 6, 44] [none, none, none, none, none, none, none, none, none, none, none, none, none, none, none, none, none] ?_
 refine Zo (t := (cond (cond (cond (y4.Kind != 0) (y4.Kind != 1) false) true (decide (y4.Off < 0))) true (decide (a0.count < (IntKind.i64.wrap (y4.Off * (IntKind.i64.wrap (y4.Data + y4.Ptrs)))))))) rfl (fun c5 => ?_) (fun c5 => ?_)
 ·replace h := Zu c5 h
  refine Zh ?_
  refine zRd [2, 3] [false, true, false] ?_
  exact Yi [.agg [.val (.pointer none), (vI 0), (vI 0), (vI 0), (vI 0), (vI 0), (vI 0), (vI 0), (vI 0)], (vI 8)]
 replace h := Zt c5 h
 refine K4 [1, 2, 6] [true, true, true] ?_
 refine Zh ?_
 refine Zgr Zy (by kernel_rfl) [.plain, .plain, .low, .low, .low, .low, .plain, .pass, .plain, .pass, .plain, .bar] (fun i => i ≠ n + 0) [0, 1, 2, 3, 4, 5, 6, 7, 8, 9, 10, 11] [.plain, .plain, .low, .low, .low, .low, .plain, .pass, .plain, .pass, .plain, .bar] [] (by kernel_rfl) rfl ?_
 refine zS ?_
 refine zO ?_
 refine zDs [1, 2] [true, true, false] ?_
 refine zRd [2, 3] [false, true, false] ?_
 exact Yi [.agg [(gP Zg a0.a), (vI a0.kind), (vI a0.segment), (vI a0.at_), (vI y4.Data), (vI y4.Ptrs), (vI y4.Off), (vI a0.code), (vI a0.index)], (vI 0)]
theorem Zc1 {a0 : (Option Zf)} {a1 : Int} {a2 : Int} {r : (Za × Int)} {O : Objs} {n : Nat} (h : Vd a0 a1 a2 = some r) : GTo Try.prog 42 [(gP Zg a0), (vI a1), (vI a2)] O n (.tup [.agg (Zc r.1), (vI r.2)]) O n := by
 unfold Vd at h
 refine zFn Try.call42 Try.func42 fun hU hN0 hN => ?_
 show W _ _ _ _ ⟨66, [], [(0, (gP Zg a0)), (1, (vI a1)), (2, (vI a2))]⟩ (Zn O n []) _
 refine zQ [0, 1, 2, 6] ?_
 refine Zh ?_
 obtain ⟨y2, hy2, h⟩ := bC h
 refine zCd (Zlx hy2) [0, 6, 8, 9] [true, true] ?_
 refine Zh ?_
 refine zQD [0, 6, 8, 9, 25] [none, none, none, none] ?_
 refine Zo (t := (cond (y2.2 != 0) true (y2.1.P.Kind == 0))) rfl (fun c7 => ?_) (fun c7 => ?_)
 ·replace h := Zu c7 h
  refine Zh ?_
  refine zRd [6, 7] [true, false] ?_
  exact Yi [.agg [.val (.pointer none), (vI 0), (vI 0), (vI 0), (vI 0), (vI 0), (vI 0), (vI 0), (vI 0)], (vI y2.2)]
 replace h := Zt c7 h
 refine K4 [0, 6, 8] [true, true] ?_
 refine Zh ?_
 refine zRd [6, 8, 10] [true, true, true] ?_
 refine Zh ?_
 refine zQ [6, 8, 10, 37] ?_
 refine Zo (t := (y2.1.P.Kind == 1)) rfl (fun c6 => ?_) (fun c6 => ?_)
 ·replace h := Zu c6 h
  refine Zh ?_
  refine Zgr Zy (by kernel_rfl) [.low, .low, .low, .low, .low, .low, .plain, .pass, .plain, .pass, .plain, .bar] (fun i => i ≠ n + 2) [0, 1, 2, 3, 4, 5, 6, 7, 8, 9, 10, 11] [.low, .low, .low, .low, .low, .low, .plain, .pass, .plain, .pass, .plain, .bar] [] (by kernel_rfl) rfl ?_
  refine zS ?_
  refine zO ?_
  refine zDs [6, 10] [true, false, true] ?_
  refine zRd [6, 7] [true, false, false] ?_
  exact Yi [.agg [(gP Zg a0), (vI 1), (vI y2.1.Segment), (vI y2.1.At), (vI y2.1.P.Data), (vI y2.1.P.Ptrs), (vI 0), (vI 0), (vI 0)], (vI 0)]
 replace h := Zt c6 h
 refine K4 [6, 8, 10] [true, true, true] ?_
 refine Zh ?_
 refine Zgr Zy (by kernel_rfl) [.plain, .plain, .plain, .plain, .low, .low, .low, .plain, .pass, .plain, .bar] (fun i => i ≠ n + 2) [0, 1, 2, 3, 4, 5, 6, 7, 8, 9, 10] [.plain, .plain, .plain, .plain, .low, .low, .low, .plain, .pass, .plain, .bar] [] (by kernel_rfl) rfl ?_
 refine zS ?_
 refine zO ?_
 refine zDs [6, 8, 10] [true, true, true] ?_
 refine zQ [6, 10, 60] ?_
 refine Zo (t := (y2.1.P.Code == 7)) rfl (fun c5 => ?_) (fun c5 => ?_)
 ·replace h := Zu c5 h
  refine Zh ?_
  obtain ⟨y4, hy4, h⟩ := bC h
  refine zCd (Ze5 hy4) [6, 7] [true, false, false] ?_
  exact Yi [.agg (Zc y4.1), (vI y4.2)]
 replace h := Zt c5 h
 refine K4 [6, 10] [true, false, true] ?_
 refine Zh ?_
 refine zRd [6, 7] [true, false, false] ?_
 exact Yi [.agg [(gP Zg a0), (vI (IntKind.i64.wrap (y2.1.P.Code + 2))), (vI y2.1.Segment), (vI y2.1.At), (vI 0), (vI 0), (vI y2.1.P.Count), (vI 0), (vI 0)], (vI 0)]
theorem Zkn {a0 : (Option Zf)} {r : (Za × Int)} {O : Objs} {n : Nat} (h : Ud a0 = some r) : GTo Try.prog 26 [(gP Zg a0)] O n (.tup [.agg (Zc r.1), (vI r.2)]) O n := by
 unfold Ud at h
 refine zFn Try.call26 Try.func26 fun hU hN0 hN => ?_
 show W _ _ _ _ ⟨8, [], [(0, (gP Zg a0))]⟩ (Zn O n []) _
 refine zQ [0, 2] ?_
 refine Zh ?_
 obtain ⟨y2, hy2, h⟩ := bC h
 refine zCd (Zc1 hy2) [2, 3] [true] ?_
 exact Yi [.agg (Zc y2.1), (vI y2.2)]
theorem J7 {a0 : (List (List Int))} {r : Za} {O : Objs} {n : Nat} (h : Xg a0 = some r) : GTo Try.prog 16 [(sL (eL (eI .u64)) a0)] O n (.agg (Zc r)) O n := by
 unfold Xg at h
 refine zFn Try.call16 Try.func16 fun hU hN0 hN => ?_
 show W _ _ _ _ ⟨12, [], [(0, (sL (eL (eI .u64)) a0))]⟩ (Zn O n []) _
 refine zQ [0, 2] ?_
 refine Zh ?_
 obtain ⟨y3, hy3, h⟩ := bC h
 obtain ⟨y4, hy4, h⟩ := bC h
 refine zC (Zra hy3) ?_
 refine zTs (Zkn hy4) ?_
 refine zDs [2, 3] [true, true] ?_
 refine zRd [2] [true, false] ?_
 exact Yi [.agg (Zc y4.1)]
theorem Xl {a0 : Za} {r : Int} {O : Objs} {n : Nat} (h : Ye a0 = some r) : GTo Try.prog 44 [.agg (Zc a0)] O n ((vI r)) O n := by
 unfold Ye at h
 refine zFn Try.call44 Try.func44 fun hU hN0 hN => ?_
 show W _ _ _ _ ⟨5, [], [(0, .agg (Zc a0))]⟩ (Zn O n []) _
 refine zQ [1] ?_
 refine zQ [2] ?_
 exact Yi [(vI a0.kind)]
theorem Qe {a0 : Za} {r : Int} {O : Objs} {n : Nat} (h : Yr a0 = some r) : GTo Try.prog 33 [.agg (Zc a0)] O n ((vI r)) O n := by
 unfold Yr at h
 refine zFn Try.call33 Try.func33 fun hU hN0 hN => ?_
 show W _ _ _ _ ⟨10, [], [(0, .agg (Zc a0))]⟩ (Zn O n []) _
 refine zQ [1] ?_
 refine Zh ?_
 refine zQ [1, 5] ?_
 refine Zo (t := (a0.kind == 1)) rfl (fun c1 => ?_) (fun c1 => ?_)
 ·replace h := Zu c1 h
  refine zQ [2] ?_
  exact Yi [(vI a0.ptrs)]
 replace h := Zt c1 h
 refine K4 [1] [true] ?_
 refine zQ [2] ?_
 exact Yi [(vI a0.count)]
theorem Qo {a0 : Za} {a1 : Int} {r : (Za × Int)} {O : Objs} {n : Nat} (h : Y1 a0 a1 = some r) : GTo Try.prog 34 [.agg (Zc a0), (vI a1)] O n (.tup [.agg (Zc r.1), (vI r.2)]) O n := by
 unfold Y1 at h
 refine zFn Try.call34 Try.func34 fun hU hN0 hN => ?_
 show W _ _ _ _ ⟨81, [], [(0, .agg (Zc a0)), (1, (vI a1))]⟩ (Zn O n []) _
 refine zQ [1, 2, 4] ?_
 refine Zh ?_
 obtain ⟨z2, hz2, h⟩ := bC h
 refine Zaz (E' := ⟨81, [], [(1, (vI a1)), (2, .ref n 0), (4, .ref (n + 1) 0), (14, (vB z2))]⟩) (O' := (Zn O n [some ⟨false, 35, 9, 1, (Zc a0)⟩, some ⟨false, 35, 9, 1, [.val (.pointer none), (vI 0), (vI 0), (vI 0), (vI 0), (vI 0), (vI 0), (vI 0), (vI 0)]⟩])) (n0 := (n + 2)) ?_ ?_
 ·rcases Bool.eq_false_or_eq_true (decide (a1 < 0)) with c5 | c5
  ·replace hz2 := Zu c5 hz2
   refine Zcr [some false, some false, some false, some false] c5 ?_
   exact Zcq hz2 c5
  replace hz2 := Zt c5 hz2
  obtain ⟨y4, hy4, hz2⟩ := bC hz2
  refine Zcr [some true, some true, some true, some true] c5 ?_
  refine (Qe hy4).then ?_
  refine zX1 c5 ?_
  exact Zcq hz2 c5
 refine Zo (t := z2) rfl (fun c13 => ?_) (fun c13 => ?_)
 ·replace h := Zu c13 h
  refine Zh ?_
  refine zRd [4, 5] [false, true] ?_
  exact Yi [.agg [.val (.pointer none), (vI 0), (vI 0), (vI 0), (vI 0), (vI 0), (vI 0), (vI 0), (vI 0)], (vI 0)]
 replace h := Zt c13 h
 refine K4 [1, 2, 4] [true, true] ?_
 refine Zh ?_
 refine zQ [1, 2, 4, 17] ?_
 refine X6 ?_
 refine zQ [1, 2, 4, 17, 18] ?_
 refine Zo (t := (a0.kind == 1)) rfl (fun c12 => ?_) (fun c12 => ?_)
 ·replace h := Zu c12 h
  refine Zh ?_
  obtain ⟨y7, hy7, h⟩ := bC h
  refine zCd (Zc1 hy7) [4, 5] [false, true] ?_
  exact Yi [.agg (Zc y7.1), (vI y7.2)]
 replace h := Zt c12 h
 refine zQ [1, 2, 4, 17, 34] ?_
 refine Zo (t := (a0.kind == 8)) rfl (fun c11 => ?_) (fun c11 => ?_)
 ·replace h := Zu c11 h
  refine Zh ?_
  obtain ⟨y9, hy9, h⟩ := bC h
  refine zCd (Zc1 hy9) [4, 5] [false, true] ?_
  exact Yi [.agg (Zc y9.1), (vI y9.2)]
 replace h := Zt c11 h
 refine zQ [1, 2, 4, 47] ?_
 refine Zo (t := (a0.kind == 9)) rfl (fun c10 => ?_) (fun c10 => ?_)
 ·replace h := Zu c10 h
  refine zQ [2, 4, 6] ?_
  refine Zh ?_
  refine zRd [4, 5] [false, true] ?_
  exact Yi [.agg [(gP Zg a0.a), (vI 1), (vI a0.segment), (vI (IntKind.i64.wrap ((IntKind.i64.wrap (a0.at_ + 1)) + (IntKind.i64.wrap (a1 * (IntKind.i64.wrap (a0.words + a0.ptrs))))))), (vI a0.words), (vI a0.ptrs), (vI 0), (vI 0), (vI 0)], (vI 0)]
 replace h := Zt c10 h
 refine K4 [1, 2, 4] [true, true] ?_
 refine Zh ?_
 refine zRd [4, 5] [false, true] ?_
 exact Yi [.agg [(gP Zg a0.a), (vI 10), (vI a0.segment), (vI a0.at_), (vI 0), (vI 0), (vI 0), (vI (IntKind.i64.wrap (a0.kind - 2))), (vI a1)], (vI 0)]
theorem Zn6 {a0 : Za} {r : (Int × Int)} {O : Objs} {n : Nat} (h : Zai a0 = some r) : GTo Try.prog 66 [.agg (Zc a0)] O n (.tup [(vI r.1), (vI r.2)]) O n := by
 unfold Zai at h
 refine zFn Try.call66 Try.func66 fun hU hN0 hN => ?_
 show W _ _ _ _ ⟨29, [], [(0, .agg (Zc a0))]⟩ (Zn O n []) _
 refine zQ [1] ?_
 refine Zh ?_
 obtain ⟨y2, hy2, h⟩ := bC h
 refine zCd (Qe hy2) [1, 4] [true] ?_
 refine Zh ?_
 refine zD [1, 4] [true] ?_
 obtain ⟨z12, hz12, h⟩ := bC h
 refine Zcs (J := (K3 (fun z12 => JR n (⟨29, [], [(2, (vI z12.1)), (3, (vI z12.2))]⟩ : Env) (Zn O n [none]) (n + 1)) (fun z12 => JX 0 n (⟨29, [], []⟩ : Env) (Zn O n [none]) (n + 1)))) (z := z12) ?_ fun hw => ?_
 ·refine Jy hz12 (fun s0_ => ⟨29, [], [(1, .ref n 0), (4, (vI s0_))]⟩) (fun s0_ => (Zn O n [some ⟨false, 35, 9, 1, (Zc a0)⟩])) (K3 (fun z12 => JR n (⟨29, [], [(2, (vI z12.1)), (3, (vI z12.2))]⟩ : Env) (Zn O n [none]) (n + 1)) (fun z12 => JX 0 n (⟨29, [], []⟩ : Env) (Zn O n [none]) (n + 1))) ?_
  intro s0_ x0_ hs0_
  unfold Uz at hs0_
  try dsimp only
  refine Zh ?_
  refine zQ [1, 4, 10] ?_
  refine Zo (t := (decide (0 < s0_))) rfl (fun c11 => ?_) (fun c11 => ?_)
  ·replace hs0_ := Zu c11 hs0_
   refine K4 [1, 4] [true] ?_
   refine X6 ?_
   refine Zh ?_
   obtain ⟨y4, hy4, hs0_⟩ := bC hs0_
   refine zCd (Qo hy4) [1, 4, 5, 6] [true, true] ?_
   refine Zh ?_
   obtain ⟨z6, hz6, hs0_⟩ := bC hs0_
   refine Zaz (E' := ⟨29, [], [(1, .ref n 0), (4, (vI s0_)), (6, (vI y4.2)), (24, (vB z6))]⟩) (O' := (Zn O n [some ⟨false, 35, 9, 1, (Zc a0)⟩, none])) (n0 := (n + 2)) ?_ ?_
   ·rcases Bool.eq_false_or_eq_true (y4.2 != 0) with c9 | c9
    ·replace hz6 := Zu c9 hz6
     refine Zcr [some false, some false, some false] c9 ?_
     exact Zcq hz6 c9
    replace hz6 := Zt c9 hz6
    obtain ⟨y8, hy8, hz6⟩ := bC hz6
    refine Zcr [some true, some true, some true] c9 ?_
    refine (Xl hy8).then ?_
    refine zX1 c9 ?_
    exact Zcq hz6 c9
   refine Zo (t := z6) rfl (fun c10 => ?_) (fun c10 => ?_)
   ·replace hs0_ := Zu c10 hs0_
    refine zQ [2, 3] ?_
    refine zW ?_
    exact zEy hs0_
   replace hs0_ := Zt c10 hs0_
   refine K4 [1, 4] [true, false] ?_
   refine zR ?_
   exact zEn hs0_
  replace hs0_ := Zt c11 hs0_
  exact zEx hs0_
 rcases z12 with z12 | z12
 ·dsimp only [K3] at hw h
  refine Ut hw ?_
  try simp only [Xs, Yy, ↓reduceIte, Nat.reduceEqDiff]
  exact Zza [(vI z12.1), (vI z12.2)]
 dsimp only [K3] at hw h
 refine Qz hw ?_
 try simp only [Xs, Yy, ↓reduceIte, Nat.reduceEqDiff]
 refine zD [] [false] ?_
 refine zQ [2, 3] ?_
 exact Yi [(vI 0), (vI 0)]
theorem Zb0 {a0 : Za} {r : (Int × Int)} {O : Objs} {n : Nat} (h : J4 a0 = some r) : GTo Try.prog 46 [.agg (Zc a0)] O n (.tup [(vI r.1), (vI r.2)]) O n := by
 unfold J4 at h
 refine zFn Try.call46 Try.func46 fun hU hN0 hN => ?_
 show W _ _ _ _ ⟨20, [], [(0, .agg (Zc a0))]⟩ (Zn O n []) _
 refine zQ [1] ?_
 refine Zh ?_
 refine Zh ?_
 obtain ⟨y2, hy2, h⟩ := bC h
 refine zCd (Xl hy2) [1, 8] [true] ?_
 refine Zo (t := (y2 != 1)) rfl (fun c8 => ?_) (fun c8 => ?_)
 ·replace h := Zu c8 h
  refine Zh ?_
  obtain ⟨y4, hy4, h⟩ := bC h
  refine zCd (Qe hy4) [2, 3] [false] ?_
  exact Yi [(vI y4), (vI 0)]
 replace h := Zt c8 h
 refine K4 [1] [true] ?_
 refine Zh ?_
 obtain ⟨y6, hy6, h⟩ := bC h
 refine zCd (Zn6 hy6) [4, 5] [false] ?_
 refine Zh ?_
 refine zQ [4, 5, 17] ?_
 refine Zo (t := (y6.2 != 0)) rfl (fun c7 => ?_) (fun c7 => ?_)
 ·replace h := Zu c7 h
  refine zQ [2, 3] ?_
  exact Yi [(vI 0), (vI y6.2)]
 replace h := Zt c7 h
 refine K4 [4] [false] ?_
 refine zQ [2, 3] ?_
 exact Yi [(vI y6.1), (vI 0)]
theorem Jn {a0 : Zk} {a1 : Int} {r : Zk} {O : Objs} {n : Nat} {i0 : Nat} (hi0 : i0 < n) (ho0 : O i0 = some ⟨false, 74, 2, 1, [.val (.int .u64 a0.sum), (vI a0.left)]⟩) (h : Xa a0 a1 = some r) : GTo Try.prog 48 [.ref i0 0, .val (.int .u64 a1)] O n (.tup []) (Zn (O.upd i0 (some ⟨false, 74, 2, 1, [.val (.int .u64 r.sum), (vI r.left)]⟩)) n []) (n + 0) := by
 unfold Xa at h
 refine Zgw Zy Try.call48 Try.func48 rfl (Nat.le_of_ble_eq_true rfl) (by omega) fun hU => ?_
 rw [show Zn O n [] = Zn (O.upd i0 (some ⟨false, 74, 2, 1, [.val (.int .u64 a0.sum), (vI a0.left)]⟩)) n [] from by rw [Zei (show O i0 = _ from by exact ho0)]]
 have hk0 : ∀ k, i0 < n + k := fun k => by omega
 have hN0 : ∀ o, Objs.upd O i0 o n = none := fun o => X1 hU hi0 _ (Nat.le_refl _)
 have hN : ∀ o k, Objs.upd O i0 o (n + k) = none := fun o k => X1 hU hi0 _ (Nat.le_add_right _ _)
 show W _ _ _ _ ⟨26, [], [(0, .ref i0 0), (1, .val (.int .u64 a1))]⟩ (Zn (O.upd i0 (some ⟨false, 74, 2, 1, [.val (.int .u64 a0.sum), (vI a0.left)]⟩)) n []) _
 refine Zh ?_
 refine X4 [] hi0 hk0 ?_
 refine zD [0] [] ?_
 refine Zti Zy (by kernel_rfl) [false, false, false, false, false, false, false, false, false, false, false, false, true] [] (by kernel_rfl) ?_
 refine zX2 hi0 hk0 ?_
 obtain rfl := sI h
 refine Xr (k := 0) (i := i0) (q1 := ⟨false, 74, 2, 1, [.val (.int .u64 (IntKind.u64.wrap (Zah .u64 (IntKind.u64.wrap ((IntKind.u64.wrap (Zah .u64 a0.sum a1)) * 11400714819323198485)) (Int.fdiv (IntKind.u64.wrap ((IntKind.u64.wrap (Zah .u64 a0.sum a1)) * 11400714819323198485)) (2 ^ min (Int.toNat 32) 64))))), (vI a0.left)]⟩) (L3 := [none]) (E2 := (⟨26, [], []⟩ : Env)) (n3 := (n + 1)) (.inl rfl) hU rfl [] ?_ ?_
 ·refine Fit2.trans (E' := (⟨26, [], []⟩ : Env)) (O' := (Zn (O.upd i0 (some ⟨false, 74, 2, 1, [.val (.int .u64 (IntKind.u64.wrap (Zah .u64 (IntKind.u64.wrap ((IntKind.u64.wrap (Zah .u64 a0.sum a1)) * 11400714819323198485)) (Int.fdiv (IntKind.u64.wrap ((IntKind.u64.wrap (Zah .u64 a0.sum a1)) * 11400714819323198485)) (2 ^ min (Int.toNat 32) 64))))), (vI a0.left)]⟩)) n [])) (n' := n) (Fit2.of (Zq hU rfl rfl ?_) (by omega)) ?_
  ·exact Yq hi0 hk0
  refine Y0 (k := 0) (k' := 1) hU [] [0] rfl rfl rfl rfl ⟨rfl, rfl⟩ ?_
  exact Yq hi0 hk0
 simp only [push_cast, seval, ↓reduceIte, Zi, Try.results48, hi0, hk0, hN0, hN]
theorem Zap {a0 : Za} {r : Int} {O : Objs} {n : Nat} (h : Qd a0 = some r) : GTo Try.prog 67 [.agg (Zc a0)] O n ((vI r)) O n := by
 unfold Qd at h
 refine zFn Try.call67 Try.func67 fun hU hN0 hN => ?_
 show W _ _ _ _ ⟨11, [], [(0, .agg (Zc a0))]⟩ (Zn O n []) _
 refine zQ [1] ?_
 refine Zh ?_
 refine zQ [1, 4] ?_
 refine X6 ?_
 refine zQ [1, 4, 5] ?_
 refine Zo (t := (a0.kind == 1)) rfl (fun c2 => ?_) (fun c2 => ?_)
 ·replace h := Zu c2 h
  refine zQ [2] ?_
  exact Yi [(vI a0.words)]
 replace h := Zt c2 h
 refine zQ [9] ?_
 refine Zo (t := (a0.kind == 10)) rfl (fun c1 => ?_) (fun c1 => ?_)
 ·replace h := Zu c1 h
  refine zQ [2] ?_
  exact Yi [(vI 1)]
 replace h := Zt c1 h
 refine K4 [] [false] ?_
 refine zQ [2] ?_
 exact Yi [(vI 0)]
theorem Zfd {a0 : Int} {r : (Int × Bool)} {O : Objs} {n : Nat} (h : Vy a0 = some r) : GTo Try.prog 77 [(vI a0)] O n (.tup [(vI r.1), (vB r.2)]) O n := by
 unfold Vy at h
 refine zFn Try.call77 Try.func77 fun hU hN0 hN => ?_
 show W _ _ _ _ ⟨15, [], [(0, (vI a0))]⟩ (Zn O n []) _
 refine zQ [0] ?_
 refine Zh ?_
 obtain ⟨y6, hy6, ey6, h⟩ := bY (f := (eI .i64)) (cs := [.val (.int .i64 0), .val (.int .i64 1), .val (.int .i64 8), .val (.int .i64 16), .val (.int .i64 32), .val (.int .i64 64)]) rfl h
 have g7 := congrArg G.agg ey6
 obtain ⟨y8, hy8, ey8, h⟩ := bY (f := (eI .i64)) (cs := [.val (.int .i64 0), .val (.int .i64 0), .val (.int .i64 0), .val (.int .i64 0), .val (.int .i64 0), .val (.int .i64 0)]) rfl h
 have g9 := congrArg (GObj.mk false 135 6 1) ey8
 have g10 := Zj5 (f := (eI .i64)) y8 y6 (fun _ => rfl)
 refine Zro [] g7 g9 g10 ?_
 refine zDs [0, 4] [true] ?_
 refine zQD [0, 4, 11] [none, none] ?_
 refine Zo (t := (cond (decide (a0 < 0)) true (decide (6 ≤ a0)))) rfl (fun c13 => ?_) (fun c13 => ?_)
 ·replace h := Zu c13 h
  refine zQ [2, 3] ?_
  exact Yi [(vI 0), (vB false)]
 replace h := Zt c13 h
 refine K4 [0, 4] [true] ?_
 obtain ⟨x12, hx12, ax12, bx12, cx12, h⟩ := bEA (f := (eI .i64)) (b := 6) rfl Ziw (fun _ => rfl) (by decide) h
 refine G9 [2, 3] (Zx Zy [] ?_)
 refine zF3 ax12 bx12 cx12 ?_
 exact Yi [(vI x12), (vB true)]
theorem Zrb {a0 : (List Int)} {a1 : Int} {a2 : Int} {r : Int} {O : Objs} {n : Nat} (h : Zbb a0 a1 a2 = some r) : GTo Try.prog 78 [(sL (eI .u64) a0), (vI a1), (vI a2)] O n (.val (.int .u64 r)) O n := by
 unfold Zbb at h
 refine zFn Try.call78 Try.func78 fun hU hN0 hN => ?_
 show W _ _ _ _ ⟨45, [], [(0, (sL (eI .u64) a0)), (1, (vI a1)), (2, (vI a2))]⟩ (Zn O n []) _
 refine zQ [0, 1, 2] ?_
 refine Zh ?_
 obtain ⟨y2, hy2, h⟩ := bC h
 refine zCd (Zfd hy2) [0, 2, 7] [] ?_
 refine Zh ?_
 refine zQD [0, 2, 7, 20] [none, none] ?_
 refine Zo (t := (cond (y2.1 == 0) true (decide (a2 < 0)))) rfl (fun c18 => ?_) (fun c18 => ?_)
 ·replace h := Zu c18 h
  refine zQ [6] ?_
  exact Yi [.val (.int .u64 0)]
 replace h := Zt c18 h
 refine K4 [0, 2, 7] [] ?_
 obtain ⟨pu4, h⟩ := bG h
 refine G9 [0, 2, 7, 9] (Zx Zy [] ?_)
 simp only [push_cast, seval, ↓reduceIte, Zi, pu4, hN0, hN]
 refine Zh ?_
 obtain ⟨pu6, h⟩ := bG h
 refine G9 [0, 2, 7, 9, 28] (Zx Zy [] ?_)
 simp only [push_cast, seval, ↓reduceIte, Zi, pu6, hN0, hN]
 refine Zo (t := (decide ((a0.length : Int) ≤ (IntKind.i64.wrap (Int.tdiv a2 (IntKind.i64.wrap (Int.tdiv 64 y2.1))))))) rfl (fun c17 => ?_) (fun c17 => ?_)
 ·replace h := Zu c17 h
  refine zQ [6] ?_
  exact Yi [.val (.int .u64 0)]
 replace h := Zt c17 h
 refine K4 [0, 2, 7, 9] [] ?_
 obtain ⟨pu12, h⟩ := bG h
 obtain ⟨x13, hx13, ax13, bx13, cx13, h⟩ := bE (f := (eI .u64)) Zio (fun _ => rfl) (by decide) h
 obtain ⟨pu14, h⟩ := bG h
 obtain ⟨pu15, h⟩ := bG h
 obtain ⟨pu16, h⟩ := bG h
 refine G9 [6] (G7 Zy (by kernel_rfl) [] (by kernel_rfl) ?_)
 refine zF7 pu12 ax13 bx13 cx13 pu14 pu15 pu16 ?_
 exact Yi [.val (.int .u64 (IntKind.u64.wrap (K6 .u64 (Int.fdiv x13 (2 ^ min (Int.toNat (IntKind.i64.wrap ((Int.tmod a2 (IntKind.i64.wrap (Int.tdiv 64 y2.1))) * y2.1))) 64)) (IntKind.u64.wrap ((IntKind.u64.wrap (1 * 2 ^ min (Int.toNat y2.1) 64)) - 1)))))]
theorem Zd5 {a0 : Za} {r : Int} {O : Objs} {n : Nat} (h : Qt a0 = some r) : GTo Try.prog 68 [.agg (Zc a0)] O n (.val (.int .u64 r)) O n := by
 unfold Qt at h
 refine zFn Try.call68 Try.func68 fun hU hN0 hN => ?_
 show W _ _ _ _ ⟨42, [], [(0, .agg (Zc a0))]⟩ (Zn O n []) _
 refine zQ [1] ?_
 refine Zh ?_
 obtain ⟨y2, hy2, h⟩ := bC h
 refine zCd (Zfd hy2) [1, 3] [true] ?_
 refine Zh ?_
 refine zQ [1, 3, 15] ?_
 refine Zo (t := (y2.1 == 0)) rfl (fun c13 => ?_) (fun c13 => ?_)
 ·replace h := Zu c13 h
  refine zQ [2] ?_
  exact Yi [.val (.int .u64 0)]
 replace h := Zt c13 h
 refine K4 [1, 3] [true] ?_
 obtain ⟨pu4, h⟩ := bG h
 refine G9 [1, 5] (Zx Zy [] ?_)
 simp only [push_cast, seval, ↓reduceIte, Zi, pu4, hN0, hN]
 refine Zh ?_
 obtain ⟨pu7, h⟩ := bG h
 obtain ⟨y8, hy8, h⟩ := bC h
 refine G7 Zy (by kernel_rfl) [] (by kernel_rfl) ?_
 simp only [push_cast, seval, ↓reduceIte, Zi, pu7, hN0, hN]
 refine PCall.of (Q7 hy8) ?_
 simp only [push_cast, seval, ↓reduceIte, Zi, pu7, hN0, hN]
 refine zDs [1, 5, 6] [true] ?_
 obtain ⟨pu11, h⟩ := bG h
 obtain ⟨y12, hy12, h⟩ := bC h
 refine Zgr Zy (by kernel_rfl) [.plain, .pass, .low, .low, .low, .low, .plain, .low, .bar, .plain] (fun i => i < (n + 1)) [0, 2, 3, 4, 5, 6, 7, 1, 8, 9] [.plain, .low, .low, .low, .low, .plain, .low, .pass, .bar, .plain] [] (by kernel_rfl) rfl ?_
 simp only [push_cast, seval, ↓reduceIte, Zi, pu11, hN0, hN]
 refine zO ?_
 refine GCalls.lend (Zrb hy12) rfl ?_ ?_
 ·simp only [push_cast, seval, ↓reduceIte, Zi, pu11, hN0, hN]
 simp only [push_cast, seval, ↓reduceIte, Zi, pu11, hN0, hN]
 refine zO ?_
 refine Zbp ⟨42, [], [(2, .val (.int .u64 y12))]⟩ (Zn O n [none, none]) (X7 hU rfl rfl ?_) ?_
 ·simp only [push_cast, seval, ↓reduceIte, Zi, pu11, hN0, hN]
 exact Yi [.val (.int .u64 y12)]
attribute [local push_cast] Try.results11 Try.results12 Try.results15 Try.results18 Try.results21 Try.results28 Try.results29 Try.results32 Try.results45 Try.results47 Try.results49 Try.results50 Try.results53 Try.results54 Try.results55 Try.results56 Try.results65
theorem J8 {a0 : Za} {a1 : Int} {r : Int} {O : Objs} {n : Nat} (h : Xh a0 a1 = some r) : GTo Try.prog 50 [.agg (Zc a0), (vI a1)] O n (.val (.int .u64 r)) O n := by
 unfold Xh at h
 refine zFn Try.call50 Try.func50 fun hU hN0 hN => ?_
 show W _ _ _ _ ⟨33, [], [(0, .agg (Zc a0)), (1, (vI a1))]⟩ (Zn O n []) _
 refine zQ [1, 2] ?_
 refine Zh ?_
 obtain ⟨z2, hz2, h⟩ := bC h
 refine Zaz (E' := ⟨33, [], [(1, (vI a1)), (2, .ref n 0), (14, (vB z2))]⟩) (O' := (Zn O n [some ⟨false, 35, 9, 1, (Zc a0)⟩])) (n0 := (n + 1)) ?_ ?_
 ·rcases Bool.eq_false_or_eq_true (decide (a1 < 0)) with c5 | c5
  ·replace hz2 := Zu c5 hz2
   refine Zcr [some false, some false, some false, some false] c5 ?_
   exact Zcq hz2 c5
  replace hz2 := Zt c5 hz2
  obtain ⟨y4, hy4, hz2⟩ := bC hz2
  refine Zcr [some true, some true, some true, some true] c5 ?_
  refine (Zap hy4).then ?_
  refine zX1 c5 ?_
  exact Zcq hz2 c5
 refine Zo (t := z2) rfl (fun c11 => ?_) (fun c11 => ?_)
 ·replace h := Zu c11 h
  refine zQ [4] ?_
  exact Yi [.val (.int .u64 0)]
 replace h := Zt c11 h
 refine K4 [1, 2] [true] ?_
 refine Zh ?_
 refine zQ [1, 2, 17] ?_
 refine Zo (t := (a0.kind == 10)) rfl (fun c10 => ?_) (fun c10 => ?_)
 ·replace h := Zu c10 h
  refine Zh ?_
  obtain ⟨y7, hy7, h⟩ := bC h
  refine zCd (Zd5 hy7) [4] [false] ?_
  exact Yi [.val (.int .u64 y7)]
 replace h := Zt c10 h
 refine K4 [1, 2] [true] ?_
 refine Zh ?_
 obtain ⟨y9, hy9, h⟩ := bC h
 refine zCd (Q7 hy9) [5] [false] ?_
 refine zQ [4] ?_
 exact Yi [.val (.int .u64 y9.1)]
theorem Zcz {a0 : Za} {r : Int} {O : Objs} {n : Nat} (h : Va a0 = some r) : GTo Try.prog 65 [.agg (Zc a0)] O n ((vI r)) O n := by
 unfold Va at h
 refine zFn Try.call65 Try.func65 fun hU hN0 hN => ?_
 show W _ _ _ _ ⟨18, [], [(0, .agg (Zc a0))]⟩ (Zn O n []) _
 refine zQ [1] ?_
 refine Zh ?_
 obtain ⟨y2, hy2, h⟩ := bC h
 refine zCd (Zap hy2) [1, 3] [true] ?_
 refine Zh ?_
 refine zD [1, 3] [true] ?_
 obtain ⟨z9, hz9, h⟩ := bC h
 refine Qz (E' := ⟨18, [], [(3, (vI z9))]⟩) (O' := (Zn O n [none])) (n0 := (n + 1)) ?_ ?_
 ·refine Jy hz9 (fun s0_ => ⟨18, [], [(1, .ref n 0), (3, (vI s0_))]⟩) (fun s0_ => (Zn O n [some ⟨false, 35, 9, 1, (Zc a0)⟩])) (fun z9 => JX 0 n (⟨18, [], [(3, (vI z9))]⟩ : Env) (Zn O n [none]) (n + 1)) ?_
  intro s0_ x0_ hs0_
  unfold Uy at hs0_
  try dsimp only
  refine Zh ?_
  obtain ⟨z4, hz4, hs0_⟩ := bC hs0_
  refine Zaz (E' := ⟨18, [], [(1, .ref n 0), (3, (vI s0_)), (14, (vB z4))]⟩) (O' := (Zn O n [some ⟨false, 35, 9, 1, (Zc a0)⟩])) (n0 := (n + 1)) ?_ ?_
  ·rcases Bool.eq_false_or_eq_true (decide (0 < s0_)) with c7 | c7
   ·replace hz4 := Zu c7 hz4
    obtain ⟨y6, hy6, hz4⟩ := bC hz4
    refine Zcr [some true, some true, some true, some true, some true] c7 ?_
    refine (J8 hy6).then ?_
    refine zX1 c7 ?_
    exact Zcq hz4 c7
   replace hz4 := Zt c7 hz4
   refine Zcr [some false, some false, some false, some false, some false] c7 ?_
   exact Zcq hz4 c7
  refine Zo (t := z4) rfl (fun c8 => ?_) (fun c8 => ?_)
  ·replace hs0_ := Zu c8 hs0_
   refine K4 [1, 3] [true] ?_
   refine X6 ?_
   refine zR ?_
   exact zEn hs0_
  replace hs0_ := Zt c8 hs0_
  exact zEx hs0_
 try simp only [Xs, Yy, ↓reduceIte, Nat.reduceEqDiff]
 refine zD [3] [false] ?_
 refine zQ [2] ?_
 exact Yi [(vI z9)]
theorem Zbo {a0 : Za} {a2 : Zk} {r : Zk} {O : Objs} {n : Nat} {i2 : Nat} (hi2 : i2 < n) (ho2 : O i2 = some ⟨false, 74, 2, 1, [.val (.int .u64 a2.sum), (vI a2.left)]⟩) (h : Xj a0 a2 = some r) : GTo Try.prog 49 [.agg (Zc a0), .fn 50 0 [], .fn 48 1 [.ref i2 0]] O n (.tup []) (Zn (O.upd i2 (some ⟨false, 74, 2, 1, [.val (.int .u64 r.sum), (vI r.left)]⟩)) n []) (n + 0) := by
 unfold Xj at h
 refine Zgw Zy Try.call49 Try.func49 rfl (Nat.le_of_ble_eq_true rfl) (by omega) fun hU => ?_
 rw [show Zn O n [] = Zn (O.upd i2 (some ⟨false, 74, 2, 1, [.val (.int .u64 a2.sum), (vI a2.left)]⟩)) n [] from by rw [Zei (show O i2 = _ from by exact ho2)]]
 have hk2 : ∀ k, i2 < n + k := fun k => by omega
 have hN0 : ∀ o, Objs.upd O i2 o n = none := fun o => X1 hU hi2 _ (Nat.le_refl _)
 have hN : ∀ o k, Objs.upd O i2 o (n + k) = none := fun o k => X1 hU hi2 _ (Nat.le_add_right _ _)
 show W _ _ _ _ ⟨25, [], [(0, .agg (Zc a0)), (1, .fn 50 0 []), (2, .fn 48 1 [.ref i2 0])]⟩ (Zn (O.upd i2 (some ⟨false, 74, 2, 1, [.val (.int .u64 a2.sum), (vI a2.left)]⟩)) n []) _
 refine X5 [1, 2, 3] hi2 hk2 ?_
 refine Zh ?_
 obtain ⟨y2, hy2, h⟩ := bC h
 refine X4 [] hi2 hk2 ?_
 refine (Zcz hy2).then ?_
 refine zX2 hi2 hk2 ?_
 refine zDs [1, 2, 3, 6] [true] ?_
 obtain ⟨y4, hy4, h⟩ := bC h
 refine X4 [] hi2 hk2 ?_
 refine (Jn (i0 := i2) (by omega) (by simp only [push_cast, seval, ↓reduceIte, Zi, Q1, hi2, hk2, hN0, hN] <;> rfl) hy4).then ?_
 refine zX2 hi2 hk2 ?_
 refine zD [1, 2, 3, 6] [true] ?_
 refine X5 [1, 2, 3, 14, 15] hi2 hk2 ?_
 refine zD [1, 2, 3, 14, 15] [true] ?_
 obtain ⟨z8, hz8, h⟩ := bC h
 refine Qz (E' := ⟨25, [], []⟩) (O' := (Zn (O.upd i2 (some ⟨false, 74, 2, 1, [.val (.int .u64 z8.1), (vI z8.2)]⟩)) n [none])) (n0 := (n + 1)) ?_ ?_
 ·refine Jy hz8 (fun s0_ => ⟨25, [], [(1, .fn 50 0 []), (2, .fn 48 1 [.ref i2 0]), (3, .ref n 0), (14, (vI y2)), (15, (vI s0_.1))]⟩) (fun s0_ => (Zn (O.upd i2 (some ⟨false, 74, 2, 1, [.val (.int .u64 s0_.2.1), (vI s0_.2.2)]⟩)) n [some ⟨false, 35, 9, 1, (Zc a0)⟩])) (fun z8 => JX 0 n (⟨25, [], []⟩ : Env) (Zn (O.upd i2 (some ⟨false, 74, 2, 1, [.val (.int .u64 z8.1), (vI z8.2)]⟩)) n [none]) (n + 1)) ?_
  intro s0_ x0_ hs0_
  unfold Y7 at hs0_
  try dsimp only
  refine X5 [1, 2, 3, 14, 15, 16] hi2 hk2 ?_
  refine Zh ?_
  refine Zo (t := (decide (s0_.1 < y2))) rfl (fun c7 => ?_) (fun c7 => ?_)
  ·replace hs0_ := Zu c7 hs0_
   refine K4 [1, 2, 3, 14, 15] [true] ?_
   refine Zh ?_
   refine X6 ?_
   refine X5 [1, 2, 3, 7, 14, 15] hi2 hk2 ?_
   obtain ⟨y5, hy5, hs0_⟩ := bC hs0_
   obtain ⟨y6, hy6, hs0_⟩ := bC hs0_
   refine X4 [] hi2 hk2 ?_
   refine (J8 hy5).then ?_
   refine zX2 hi2 hk2 ?_
   refine (Jn (i0 := i2) (by omega) (by simp only [push_cast, seval, ↓reduceIte, Zi, Q1, hi2, hk2, hN0, hN] <;> rfl) hy6).then ?_
   refine zX2 hi2 hk2 ?_
   refine zD [1, 2, 3, 14, 15] [true] ?_
   refine X4 [] hi2 hk2 ?_
   obtain rfl := sI hs0_
   refine And.intro rfl (Fit2.of (Zq hU rfl rfl ?_) (by omega))
   exact Yq hi2 hk2
  replace hs0_ := Zt c7 hs0_
  refine zXt ?_
  obtain rfl := sI hs0_
  refine And.intro (fun h => by cases h) (And.intro rfl (Fit2.of (Zq hU rfl rfl ?_) (by omega)))
  exact Yq hi2 hk2
 try simp only [Xs, Yy, ↓reduceIte, Nat.reduceEqDiff]
 obtain rfl := sI h
 refine Xr (k := 0) (i := i2) (q1 := ⟨false, 74, 2, 1, [.val (.int .u64 z8.1), (vI z8.2)]⟩) (L3 := [none]) (E2 := (⟨25, [], []⟩ : Env)) (n3 := (n + 1)) (.inl rfl) hU rfl [] ?_ ?_
 ·refine Fit2.trans (E' := (⟨25, [], []⟩ : Env)) (O' := (Zn (O.upd i2 (some ⟨false, 74, 2, 1, [.val (.int .u64 z8.1), (vI z8.2)]⟩)) n [none])) (n' := (n + 1)) (Fit2.of (Zq hU rfl rfl ?_) (by omega)) ?_
  ·exact Yq hi2 hk2
  refine Y0 (k := 1) (k' := 1) hU [0] [0] rfl rfl rfl rfl ⟨rfl, rfl⟩ ?_
  exact Yq hi2 hk2
 simp only [push_cast, seval, ↓reduceIte, Zi, Try.results49, hi2, hk2, hN0, hN]
def Up (Yu : (Zk → Za → Option (Int × Zk))) : Prop := ∀ {a0 : Zk} {a1 : Za} {r : (Int × Zk)} {O : Objs} {n : Nat} {i0 : Nat}, i0 < n → O i0 = some ⟨false, 74, 2, 1, [.val (.int .u64 a0.sum), (vI a0.left)]⟩ → Yu a0 a1 = some r → GTo Try.prog 29 [.ref i0 0, .agg (Zc a1)] O n ((vI r.1)) (Zn (O.upd i0 (some ⟨false, 74, 2, 1, [.val (.int .u64 r.2.sum), (vI r.2.left)]⟩)) n []) (n + 0)
theorem Zc2 {Yu : (Zk → Za → Option (Int × Zk))} (Zcg : Up Yu) {a0 : Zk} {a1 : Za} {r : (Int × Zk)} {O : Objs} {n : Nat} {i0 : Nat} (hi0 : i0 < n) (ho0 : O i0 = some ⟨false, 74, 2, 1, [.val (.int .u64 a0.sum), (vI a0.left)]⟩) (h : Ys Yu a0 a1 = some r) : GTo Try.prog 29 [.ref i0 0, .agg (Zc a1)] O n ((vI r.1)) (Zn (O.upd i0 (some ⟨false, 74, 2, 1, [.val (.int .u64 r.2.sum), (vI r.2.left)]⟩)) n []) (n + 0) := by
 unfold Ys at h
 refine Zgw Zy Try.call29 Try.func29 rfl (Nat.le_of_ble_eq_true rfl) (by omega) fun hU => ?_
 rw [show Zn O n [] = Zn (O.upd i0 (some ⟨false, 74, 2, 1, [.val (.int .u64 a0.sum), (vI a0.left)]⟩)) n [] from by rw [Zei (show O i0 = _ from by exact ho0)]]
 have hk0 : ∀ k, i0 < n + k := fun k => by omega
 have hN0 : ∀ o, Objs.upd O i0 o n = none := fun o => X1 hU hi0 _ (Nat.le_refl _)
 have hN : ∀ o k, Objs.upd O i0 o (n + k) = none := fun o k => X1 hU hi0 _ (Nat.le_add_right _ _)
 show W _ _ _ _ ⟨64, [], [(0, .ref i0 0), (1, .agg (Zc a1))]⟩ (Zn (O.upd i0 (some ⟨false, 74, 2, 1, [.val (.int .u64 a0.sum), (vI a0.left)]⟩)) n []) _
 refine X5 [0, 3] hi0 hk0 ?_
 refine Zh ?_
 refine X5 [0, 3, 15] hi0 hk0 ?_
 refine Zo (t := (a0.left == 0)) rfl (fun c20 => ?_) (fun c20 => ?_)
 ·replace h := Zu c20 h
  refine X5 [4] hi0 hk0 ?_
  refine zW ?_
  obtain rfl := sI h
  refine Xr (k := 0) (i := i0) (q1 := ⟨false, 74, 2, 1, [.val (.int .u64 a0.sum), (vI a0.left)]⟩) (L3 := [none]) (E2 := (⟨64, [], [(4, (vI 3))]⟩ : Env)) (n3 := (n + 1)) (.inr rfl) hU rfl [(vI 3)] ?_ ?_
  ·refine Fit2.trans (E' := (⟨64, [], [(4, (vI 3))]⟩ : Env)) (O' := (Zn (O.upd i0 (some ⟨false, 74, 2, 1, [.val (.int .u64 a0.sum), (vI a0.left)]⟩)) n [none])) (n' := (n + 1)) (Fit2.of (Zq hU rfl rfl ?_) (by omega)) ?_
   ·exact Yq hi0 hk0
   refine Y0 (k := 1) (k' := 1) hU [0] [0] rfl rfl rfl rfl ⟨rfl, rfl⟩ ?_
   exact Yq hi0 hk0
  simp only [push_cast, seval, ↓reduceIte, Zi, Try.results29, hi0, hk0, hN0, hN]
 replace h := Zt c20 h
 refine K4 [0, 3] [true] ?_
 refine Zh ?_
 refine X4 [] hi0 hk0 ?_
 refine zDs [0, 3] [true] ?_
 obtain ⟨y2, hy2, h⟩ := bC h
 refine X4 [] hi0 hk0 ?_
 refine (Zb0 hy2).then ?_
 refine zX2 hi0 hk0 ?_
 refine zDs [0, 3, 5, 6] [true] ?_
 refine X5 [0, 3, 5, 6, 29] hi0 hk0 ?_
 refine Zo (t := (y2.2 != 0)) rfl (fun c19 => ?_) (fun c19 => ?_)
 ·replace h := Zu c19 h
  refine X5 [4] hi0 hk0 ?_
  refine zW ?_
  obtain rfl := sI h
  refine Xr (k := 0) (i := i0) (q1 := ⟨false, 74, 2, 1, [.val (.int .u64 a0.sum), (vI (IntKind.i64.wrap (a0.left - 1)))]⟩) (L3 := [none]) (E2 := (⟨64, [], [(4, (vI y2.2))]⟩ : Env)) (n3 := (n + 1)) (.inr rfl) hU rfl [(vI y2.2)] ?_ ?_
  ·refine Fit2.trans (E' := (⟨64, [], [(4, (vI y2.2))]⟩ : Env)) (O' := (Zn (O.upd i0 (some ⟨false, 74, 2, 1, [.val (.int .u64 a0.sum), (vI (IntKind.i64.wrap (a0.left - 1)))]⟩)) n [none])) (n' := (n + 1)) (Fit2.of (Zq hU rfl rfl ?_) (by omega)) ?_
   ·exact Yq hi0 hk0
   refine Y0 (k := 1) (k' := 1) hU [0] [0] rfl rfl rfl rfl ⟨rfl, rfl⟩ ?_
   exact Yq hi0 hk0
  simp only [push_cast, seval, ↓reduceIte, Zi, Try.results29, hi0, hk0, hN0, hN]
 replace h := Zt c19 h
 refine K4 [0, 3, 5] [true] ?_
 refine Zh ?_
 obtain ⟨y5, hy5, h⟩ := bC h
 obtain ⟨y6, hy6, h⟩ := bC h
 refine X4 [] hi0 hk0 ?_
 refine (Xl hy5).then ?_
 refine zX2 hi0 hk0 ?_
 refine (Jn (i0 := i0) (by omega) (by simp only [push_cast, seval, ↓reduceIte, Zi, Q1, hi0, hk0, hN0, hN] <;> rfl) hy6).then ?_
 refine zX2 hi0 hk0 ?_
 refine zDs [0, 3, 5] [true] ?_
 obtain ⟨y8, hy8, h⟩ := bC h
 refine X4 [] hi0 hk0 ?_
 refine (Jn (i0 := i0) (by omega) (by simp only [push_cast, seval, ↓reduceIte, Zi, Q1, hi0, hk0, hN0, hN] <;> rfl) hy8).then ?_
 refine zX2 hi0 hk0 ?_
 refine zDs [0, 3, 5] [true] ?_
 obtain ⟨y10, hy10, h⟩ := bC h
 refine X4 [] hi0 hk0 ?_
 refine (Zbo (i2 := i0) (by omega) (by simp only [push_cast, seval, ↓reduceIte, Zi, Q1, hi0, hk0, hN0, hN] <;> rfl) hy10).then ?_
 refine zX2 hi0 hk0 ?_
 refine zDs [0, 3, 5] [true] ?_
 refine X5 [0, 3, 44, 45] hi0 hk0 ?_
 refine zD [0, 3, 44, 45] [true] ?_
 obtain ⟨z18, hz18, h⟩ := bC h
 refine Zcs (J := (K3 (fun z18 => JR n (⟨64, [], [(4, (vI z18.1))]⟩ : Env) (Zn (O.upd i0 (some ⟨false, 74, 2, 1, [.val (.int .u64 z18.2.1), (vI z18.2.2)]⟩)) n [none]) (n + 1)) (fun z18 => JX 0 n (⟨64, [], []⟩ : Env) (Zn (O.upd i0 (some ⟨false, 74, 2, 1, [.val (.int .u64 z18.1), (vI z18.2)]⟩)) n [none]) (n + 1)))) (z := z18) ?_ fun hw => ?_
 ·refine Jy hz18 (fun s0_ => ⟨64, [], [(0, .ref i0 0), (3, .ref n 0), (44, (vI y2.1)), (45, (vI s0_.1))]⟩) (fun s0_ => (Zn (O.upd i0 (some ⟨false, 74, 2, 1, [.val (.int .u64 s0_.2.1), (vI s0_.2.2)]⟩)) n [some ⟨false, 35, 9, 1, (Zc a1)⟩])) (K3 (fun z18 => JR n (⟨64, [], [(4, (vI z18.1))]⟩ : Env) (Zn (O.upd i0 (some ⟨false, 74, 2, 1, [.val (.int .u64 z18.2.1), (vI z18.2.2)]⟩)) n [none]) (n + 1)) (fun z18 => JX 0 n (⟨64, [], []⟩ : Env) (Zn (O.upd i0 (some ⟨false, 74, 2, 1, [.val (.int .u64 z18.1), (vI z18.2)]⟩)) n [none]) (n + 1))) ?_
  intro s0_ x0_ hs0_
  unfold Xm at hs0_
  try dsimp only
  refine X5 [0, 3, 44, 45, 46] hi0 hk0 ?_
  refine Zh ?_
  refine Zo (t := (decide (s0_.1 < y2.1))) rfl (fun c17 => ?_) (fun c17 => ?_)
  ·replace hs0_ := Zu c17 hs0_
   refine K4 [0, 3, 44, 45] [true] ?_
   refine Zh ?_
   refine X6 ?_
   refine X5 [0, 3, 7, 44, 45] hi0 hk0 ?_
   refine Zh ?_
   obtain ⟨y12, hy12, hs0_⟩ := bC hs0_
   refine X4 [] hi0 hk0 ?_
   refine (Qo hy12).then ?_
   refine zX2 hi0 hk0 ?_
   refine zDs [0, 3, 8, 9, 44, 45] [true, true] ?_
   refine X5 [0, 3, 8, 9, 44, 45, 55] hi0 hk0 ?_
   refine Zo (t := (y12.2 != 0)) rfl (fun c16 => ?_) (fun c16 => ?_)
   ·replace hs0_ := Zu c16 hs0_
    refine X5 [4] hi0 hk0 ?_
    refine zW ?_
    obtain rfl := sI hs0_
    refine And.intro (fun h => by cases h) (And.intro rfl (Fit2.of (Zq hU rfl rfl ?_) (by omega)))
    exact Yq hi0 hk0
   replace hs0_ := Zt c16 hs0_
   refine K4 [0, 3, 8, 44, 45] [true, true] ?_
   refine Zh ?_
   obtain ⟨y14, hy14, hs0_⟩ := bC hs0_
   refine X4 [] hi0 hk0 ?_
   refine (Zcg (i0 := i0) (by omega) (by simp only [push_cast, seval, ↓reduceIte, Zi, Q1, hi0, hk0, hN0, hN] <;> rfl) hy14).then ?_
   refine zX2 hi0 hk0 ?_
   refine zD [0, 3, 10, 44, 45] [true, false] ?_
   refine X5 [0, 3, 10, 44, 45, 61] hi0 hk0 ?_
   refine Zo (t := (y14.1 != 0)) rfl (fun c15 => ?_) (fun c15 => ?_)
   ·replace hs0_ := Zu c15 hs0_
    refine X5 [4] hi0 hk0 ?_
    refine zW ?_
    obtain rfl := sI hs0_
    refine And.intro (fun h => by cases h) (And.intro rfl (Fit2.of (Zq hU rfl rfl ?_) (by omega)))
    exact Yq hi0 hk0
   replace hs0_ := Zt c15 hs0_
   refine K4 [0, 3, 44, 45] [true, false] ?_
   refine X4 [] hi0 hk0 ?_
   obtain rfl := sI hs0_
   refine And.intro rfl (Fit2.of (Zq hU rfl rfl ?_) (by omega))
   exact Yq hi0 hk0
  replace hs0_ := Zt c17 hs0_
  refine zXt ?_
  obtain rfl := sI hs0_
  refine And.intro (fun h => by cases h) (And.intro rfl (Fit2.of (Zq hU rfl rfl ?_) (by omega)))
  exact Yq hi0 hk0
 rcases z18 with z18 | z18
 ·dsimp only [K3] at hw h
  refine Ut hw ?_
  try simp only [Xs, Yy, ↓reduceIte, Nat.reduceEqDiff]
  obtain rfl := sI h
  refine Xr (k := 0) (i := i0) (q1 := ⟨false, 74, 2, 1, [.val (.int .u64 z18.2.1), (vI z18.2.2)]⟩) (L3 := [none]) (E2 := (⟨64, [], [(4, (vI z18.1))]⟩ : Env)) (n3 := (n + 1)) (.inr rfl) hU rfl [(vI z18.1)] ?_ ?_
  ·refine Fit2.trans (E' := (⟨64, [], [(4, (vI z18.1))]⟩ : Env)) (O' := (Zn (O.upd i0 (some ⟨false, 74, 2, 1, [.val (.int .u64 z18.2.1), (vI z18.2.2)]⟩)) n [none])) (n' := (n + 1)) (Fit2.of (Zq hU rfl rfl ?_) (by omega)) ?_
   ·exact Yq hi0 hk0
   refine Y0 (k := 1) (k' := 1) hU [0] [0] rfl rfl rfl rfl ⟨rfl, rfl⟩ ?_
   exact Yq hi0 hk0
  simp only [push_cast, seval, ↓reduceIte, Zi, Try.results29, hi0, hk0, hN0, hN]
 dsimp only [K3] at hw h
 refine Qz hw ?_
 try simp only [Xs, Yy, ↓reduceIte, Nat.reduceEqDiff]
 refine zD [] [false] ?_
 refine X5 [4] hi0 hk0 ?_
 refine zW ?_
 obtain rfl := sI h
 refine Xr (k := 0) (i := i0) (q1 := ⟨false, 74, 2, 1, [.val (.int .u64 z18.1), (vI z18.2)]⟩) (L3 := [none]) (E2 := (⟨64, [], [(4, (vI 0))]⟩ : Env)) (n3 := (n + 1)) (.inr rfl) hU rfl [(vI 0)] ?_ ?_
 ·refine Fit2.trans (E' := (⟨64, [], [(4, (vI 0))]⟩ : Env)) (O' := (Zn (O.upd i0 (some ⟨false, 74, 2, 1, [.val (.int .u64 z18.1), (vI z18.2)]⟩)) n [none])) (n' := (n + 1)) (Fit2.of (Zq hU rfl rfl ?_) (by omega)) ?_
  ·exact Yq hi0 hk0
  refine Y0 (k := 1) (k' := 1) hU [0] [0] rfl rfl rfl rfl ⟨rfl, rfl⟩ ?_
  exact Yq hi0 hk0
 simp only [push_cast, seval, ↓reduceIte, Zi, Try.results29, hi0, hk0, hN0, hN]
theorem Zby : ∀ k, (Up (Z7 k)) := fun k => by
 induction k with
 | zero => exact @fun a0 a1 r O n i0 hi0 ho0 h => (nomatch (show (none : Option _) = some _ from h))
 | succ k ih => exact @fun a0 a1 r O n i0 hi0 ho0 h => Zc2 (ih) hi0 ho0 h
theorem Zde {a0 : Zk} {a1 : Za} {r : (Int × Zk)} {O : Objs} {n : Nat} {i0 : Nat} (hi0 : i0 < n) (ho0 : O i0 = some ⟨false, 74, 2, 1, [.val (.int .u64 a0.sum), (vI a0.left)]⟩) (h : Vc a0 a1 = some r) : GTo Try.prog 29 [.ref i0 0, .agg (Zc a1)] O n ((vI r.1)) (Zn (O.upd i0 (some ⟨false, 74, 2, 1, [.val (.int .u64 r.2.sum), (vI r.2.left)]⟩)) n []) (n + 0) := by
 obtain ⟨k, hk⟩ := Zq1 h
 exact (Zby k) hi0 ho0 hk
theorem Zfb {a0 : Za} {r : (Int × Int)} {O : Objs} {n : Nat} (h : Vx a0 = some r) : GTo Try.prog 12 [.agg (Zc a0)] O n (.tup [.val (.int .u64 r.1), (vI r.2)]) O n := by
 unfold Vx at h
 refine zFn Try.call12 Try.func12 fun hU hN0 hN => ?_
 show W _ _ _ _ ⟨14, [], [(0, .agg (Zc a0))]⟩ (Zn O n []) _
 refine zQ [1] ?_
 refine Zh ?_
 refine zRd [1, 4] [true, true] ?_
 refine Zh ?_
 refine Zh ?_
 obtain ⟨y2, hy2, h⟩ := bC h
 refine zR ?_
 refine (Zde (i0 := (n + 1)) (by omega) (by simp only [push_cast, seval, ↓reduceIte, Zi, Q1, hN0, hN] <;> rfl) hy2).then ?_
 refine zS ?_
 refine zD [4, 5] [false, true] ?_
 refine zQ [4, 5, 10] ?_
 refine Zo (t := (y2.1 != 0)) rfl (fun c3 => ?_) (fun c3 => ?_)
 ·replace h := Zu c3 h
  refine zQ [2, 3] ?_
  exact Yi [.val (.int .u64 0), (vI y2.1)]
 replace h := Zt c3 h
 refine K4 [4] [false, true] ?_
 refine zQ [2, 3] ?_
 exact Yi [.val (.int .u64 y2.2.sum), (vI 0)]
theorem Gk {a0 : (Option Zj)} {a1 : Int} {r : Int} {O : Objs} {n : Nat} (h : Xb a0 a1 = some r) : GTo Try.prog 54 [(gP Zm a0), .val (.int .u64 a1)] O n ((vI r)) O n := by
 unfold Xb at h
 refine zFn Try.call54 Try.func54 fun hU hN0 hN => ?_
 show W _ _ _ _ ⟨14, [], [(0, (gP Zm a0)), (1, .val (.int .u64 a1))]⟩ (Zn O n []) _
 refine zQ [0, 1] ?_
 obtain ⟨x3, hx3, h⟩ := bC h
 obtain ⟨pu4, h⟩ := bG h
 refine G9 [4] (Zx Zy [] ?_)
 simp only [push_cast, seval, ↓reduceIte, Zi, hx3, pu4, hN0, hN]
 exact Yi [(vI (IntKind.i64.wrap (Int.tmod a1 (IntKind.u64.wrap (x3.places.length : Int)))))]
theorem Zal {a0 : (Option Zj)} {a1 : Int} {r : Int} {O : Objs} {n : Nat} (h : Xz a0 a1 = some r) : GTo Try.prog 55 [(gP Zm a0), (vI a1)] O n ((vI r)) O n := by
 unfold Xz at h
 refine zFn Try.call55 Try.func55 fun hU hN0 hN => ?_
 show W _ _ _ _ ⟨13, [], [(0, (gP Zm a0)), (1, (vI a1))]⟩ (Zn O n []) _
 refine zQ [0, 1] ?_
 obtain ⟨x3, hx3, h⟩ := bC h
 obtain ⟨pu4, h⟩ := bG h
 refine G9 [4] (Zx Zy [] ?_)
 simp only [push_cast, seval, ↓reduceIte, Zi, hx3, pu4, hN0, hN]
 exact Yi [(vI (Int.tmod (IntKind.i64.wrap (a1 + 1)) (x3.places.length : Int)))]
theorem Zd4 {a0 : Zj} {r : Zj} {O : Objs} {n : Nat} {i0 j0_0 j0_1 : Nat} (hi0 : i0 < n) (Zij : j0_0 < n) (Zik : j0_1 < n) (Zdz : i0 ≠ j0_0) (Za8 : i0 ≠ j0_1) (Za7 : j0_0 ≠ j0_1) (ho0 : O i0 = some ⟨false, 79, 2, 1, [.row j0_0 a0.classes.length, .row j0_1 a0.places.length]⟩) (Zj8 : O j0_0 = some (oR 82 10 Zb a0.classes)) (Zj9 : O j0_1 = some (oR 3 1 (eI .i64) a0.places)) (h : Xy a0 = some r) : GTo Try.prog 53 [.ref i0 0] O n (.tup []) (Zn (((O.upd j0_0 none).upd j0_1 none).upd i0 (some ⟨false, 79, 2, 1, [.row n r.classes.length, .row (n + 1) r.places.length]⟩)) n [some (oR 82 10 Zb r.classes), some (oR 3 1 (eI .i64) r.places)]) (n + 2) := by
 unfold Xy at h
 refine Zgw Zy Try.call53 Try.func53 rfl (Nat.le_of_ble_eq_true rfl) (by omega) fun hU => ?_
 have e0 := Zcp (ba := n) (E := ⟨53, [], Zfs 0 [.ref i0 0]⟩) (O := (Zn O n [])) (n := n) (i := i0) (j := j0_0) (k := 0) (len := a0.classes.length) (q := ⟨false, 79, 2, 1, [.row j0_0 a0.classes.length, .row j0_1 a0.places.length]⟩) (qj := ⟨true, 82, 10, a0.classes.length, fl Zb a0.classes⟩) (by rw [Y4 _ hi0]; first | exact ho0 | exact Yd _ _ _) rfl (by rw [Y4 _ Zij]; exact Zj8) Zdz (by omega)
 simp only [Qi _ _ Zij, Qi _ _ hi0, Qy, X9, Gg, Zh9 Zdz, List.set_cons_zero, List.set_cons_succ, List.cons_append, List.nil_append, List.length_cons, List.length_nil, Nat.zero_add, Nat.reduceAdd, Nat.add_assoc] at e0
 refine Zbv e0 ?_
 have e1 := Zcp (ba := n) (E := ⟨53, [], Zfs 0 [.ref i0 0]⟩) (O := (Zn ((O.upd j0_0 none).upd i0 (some ⟨false, 79, 2, 1, [.row n a0.classes.length, .row j0_1 a0.places.length]⟩)) n [some ⟨true, 82, 10, a0.classes.length, fl Zb a0.classes⟩])) (n := (n + 1)) (i := i0) (j := j0_1) (k := 1) (len := a0.places.length) (q := ⟨false, 79, 2, 1, [.row n a0.classes.length, .row j0_1 a0.places.length]⟩) (qj := ⟨true, 3, 1, a0.places.length, fl (eI .i64) a0.places⟩) (by rw [Y4 _ hi0]; first | exact ho0 | exact Yd _ _ _) rfl (by rw [Y4 _ Zik, Yx _ _ (Ne.symm Za8), Yx _ _ (Ne.symm Za7)]; exact Zj9) Za8 (by omega)
 simp only [Qi _ _ Zik, Qi _ _ hi0, Qy, X9, Gg, Zh9 Za8, List.set_cons_zero, List.set_cons_succ, List.cons_append, List.nil_append, List.length_cons, List.length_nil, Nat.zero_add, Nat.reduceAdd, Nat.add_assoc] at e1
 refine Zbv e1 ?_
 have hU := (Und.drop (Und.drop hU j0_0) j0_1)
 have hk0 : ∀ k, i0 < n + k := fun k => by omega
 have hN0 : ∀ o, Objs.upd ((O.upd j0_0 none).upd j0_1 none) i0 o n = none := fun o => X1 hU hi0 _ (Nat.le_refl _)
 have hN : ∀ o k, Objs.upd ((O.upd j0_0 none).upd j0_1 none) i0 o (n + k) = none := fun o k => X1 hU hi0 _ (Nat.le_add_right _ _)
 show W _ _ _ _ ⟨53, [], [(0, .ref i0 0)]⟩ (Zn (((O.upd j0_0 none).upd j0_1 none).upd i0 (some ⟨false, 79, 2, 1, [.row n a0.classes.length, .row (n + 1) a0.places.length]⟩)) n [some (oR 82 10 Zb a0.classes), some (oR 3 1 (eI .i64) a0.places)]) _
 refine Zh ?_
 obtain ⟨l2, al2, bl2, cl2, el2, h⟩ := bM2 (c := 8) rfl h
 have nl2 : Int.toNat (if 16 < (IntKind.i64.wrap (2 * (a0.places.length : Int))) then (IntKind.i64.wrap (2 * (a0.places.length : Int))) else 16) = List.length l2 := by rw [el2, List.length_replicate]
 have fl2 : (List.replicate (List.length l2) [.val (.int .i64 0)]).flatten = fl (eI .i64) l2 := by rw [← nl2, el2]; exact (Zmx (f := (eI .i64)) _ _).symm
 clear el2
 refine Zx Zy [] ?_
 simp only [push_cast, seval, ↓reduceIte, Zi, al2, bl2, cl2, fl2, nl2, hi0, hk0, hN0, hN]
 refine Zbp ⟨53, [], [(0, .ref i0 0)]⟩ (Zn (((O.upd j0_0 none).upd j0_1 none).upd i0 (some ⟨false, 79, 2, 1, [.row n a0.classes.length, .row (n + 2) l2.length]⟩)) n [some (oR 82 10 Zb a0.classes), none, some (oR 3 1 (eI .i64) l2)]) (Zq hU rfl rfl ?_) ?_
 ·simp only [push_cast, seval, ↓reduceIte, Zi, al2, bl2, cl2, fl2, nl2, hi0, hk0, hN0, hN]
 refine X5 [0, 2] hi0 hk0 ?_
 refine X5 [0, 2, 22, 23, 24] hi0 hk0 ?_
 refine zD [0, 2, 22, 23, 24] [true, false, true] ?_
 obtain ⟨z15, hz15, h⟩ := bC h
 refine Qz (E' := ⟨53, [], []⟩) (O' := (Zn (((O.upd j0_0 none).upd j0_1 none).upd i0 (some ⟨false, 79, 2, 1, [.row n a0.classes.length, .row (n + 2) z15.length]⟩)) n [some (oR 82 10 Zb a0.classes), none, some (oR 3 1 (eI .i64) z15)])) (n0 := (n + 3)) ?_ ?_
 ·refine Jy hz15 (fun s0_ => ⟨53, [], [(0, .ref i0 0), (2, .fn 55 1 [.ref i0 0]), (22, .row n a0.classes.length), (23, (vI (a0.classes.length : Int))), (24, (vI s0_.1))]⟩) (fun s0_ => (Zn (((O.upd j0_0 none).upd j0_1 none).upd i0 (some ⟨false, 79, 2, 1, [.row n a0.classes.length, .row (n + 2) s0_.2.length]⟩)) n [some (oR 82 10 Zb a0.classes), none, some (oR 3 1 (eI .i64) s0_.2)])) (fun z15 => JX 0 n (⟨53, [], []⟩ : Env) (Zn (((O.upd j0_0 none).upd j0_1 none).upd i0 (some ⟨false, 79, 2, 1, [.row n a0.classes.length, .row (n + 2) z15.length]⟩)) n [some (oR 82 10 Zb a0.classes), none, some (oR 3 1 (eI .i64) z15)]) (n + 3)) ?_
  intro s0_ x0_ hs0_
  unfold Xu at hs0_
  try dsimp only
  refine X5 [0, 2, 22, 23, 24, 25] hi0 hk0 ?_
  refine Zh ?_
  refine Zo (t := (decide (s0_.1 < (a0.classes.length : Int)))) rfl (fun c14 => ?_) (fun c14 => ?_)
  ·replace hs0_ := Zu c14 hs0_
   refine K4 [0, 2, 22, 23, 24] [true, false, true] ?_
   refine Zh ?_
   refine X6 ?_
   refine Zh ?_
   obtain ⟨x4, hx4, ax4, bx4, cx4, hs0_⟩ := bE (f := Zb) Zlb (fun _ => rfl) (by decide) hs0_
   refine Zzw [] ax4 bx4 cx4 hi0 hk0 ?_
   refine zDs [0, 2, 3, 4, 22, 23, 24] [true, false, true, true] ?_
   obtain ⟨y6, hy6, hs0_⟩ := bC hs0_
   refine X4 [] hi0 hk0 ?_
   refine GCalls.lend (Gk hy6) rfl ?_ ?_
   ·exact Yq hi0 hk0
   refine zX2 hi0 hk0 ?_
   refine zDs [0, 2, 3, 5, 22, 23, 24] [true, false, true, false] ?_
   refine zD [0, 2, 3, 5, 22, 23, 24] [true, false, true, false] ?_
   obtain ⟨z11, hz11, hs0_⟩ := bC hs0_
   refine Qz (E' := ⟨53, [], [(0, .ref i0 0), (2, .fn 55 1 [.ref i0 0]), (3, (vI s0_.1)), (5, (vI z11)), (22, .row n a0.classes.length), (23, (vI (a0.classes.length : Int))), (24, (vI s0_.1))]⟩) (O' := (Zn (((O.upd j0_0 none).upd j0_1 none).upd i0 (some ⟨false, 79, 2, 1, [.row n a0.classes.length, .row (n + 2) s0_.2.length]⟩)) n [some (oR 82 10 Zb a0.classes), none, some (oR 3 1 (eI .i64) s0_.2), none])) (n0 := (n + 4)) ?_ ?_
   ·refine Jy hz11 (fun s1_ => ⟨53, [], [(0, .ref i0 0), (2, .fn 55 1 [.ref i0 0]), (3, (vI s0_.1)), (5, (vI s1_)), (22, .row n a0.classes.length), (23, (vI (a0.classes.length : Int))), (24, (vI s0_.1))]⟩) (fun s1_ => (Zn (((O.upd j0_0 none).upd j0_1 none).upd i0 (some ⟨false, 79, 2, 1, [.row n a0.classes.length, .row (n + 2) s0_.2.length]⟩)) n [some (oR 82 10 Zb a0.classes), none, some (oR 3 1 (eI .i64) s0_.2), none])) (fun z11 => JX 2 n (⟨53, [], [(0, .ref i0 0), (2, .fn 55 1 [.ref i0 0]), (3, (vI s0_.1)), (5, (vI z11)), (22, .row n a0.classes.length), (23, (vI (a0.classes.length : Int))), (24, (vI s0_.1))]⟩ : Env) (Zn (((O.upd j0_0 none).upd j0_1 none).upd i0 (some ⟨false, 79, 2, 1, [.row n a0.classes.length, .row (n + 2) s0_.2.length]⟩)) n [some (oR 82 10 Zb a0.classes), none, some (oR 3 1 (eI .i64) s0_.2), none]) (n + 4)) ?_
    intro s1_ x1_ hs1_
    unfold Xv at hs1_
    try dsimp only
    refine Zh ?_
    obtain ⟨x8, hx8, ax8, bx8, cx8, hs1_⟩ := bE (f := (eI .i64)) Ziw (fun _ => rfl) (by decide) hs1_
    refine G9 [0, 2, 3, 5, 22, 23, 24, 40] (Zx Zy [] ?_)
    refine zF5 ax8 bx8 cx8 hi0 hk0 ?_
    refine Zo (t := (x8 != 0)) rfl (fun c10 => ?_) (fun c10 => ?_)
    ·replace hs1_ := Zu c10 hs1_
     refine K4 [0, 2, 3, 5, 22, 23, 24] [true, false, true, false] ?_
     refine X6 ?_
     obtain ⟨y9, hy9, hs1_⟩ := bC hs1_
     refine X4 [] hi0 hk0 ?_
     refine GCalls.lend (Zal hy9) rfl ?_ ?_
     ·exact Yq hi0 hk0
     refine zX2 hi0 hk0 ?_
     obtain rfl := sI hs1_
     refine And.intro rfl (Fit2.of (Zq hU rfl rfl ?_) (by omega))
     exact Yq hi0 hk0
    replace hs1_ := Zt c10 hs1_
    refine zXt ?_
    obtain rfl := sI hs1_
    refine And.intro (fun h => by cases h) (And.intro rfl (Fit2.of (Zq hU rfl rfl ?_) (by omega)))
    exact Yq hi0 hk0
   try simp only [Xs, Yy, ↓reduceIte, Nat.reduceEqDiff]
   refine zD [0, 2, 3, 5, 22, 23, 24] [true, false, true, false] ?_
   obtain ⟨x12, hx12, ax12, bx12, cx12, hs0_⟩ := bE (f := (eI .i64)) Ziw (fun _ => rfl) (by decide) hs0_
   have gu13 : Ko (fl (eI .i64) s0_.2) [.val (.int .i64 (IntKind.i64.wrap (s0_.1 + 1)))] (Int.toNat z11 * 1) = some (fl (eI .i64) (Zbj s0_.2 z11 (IntKind.i64.wrap (s0_.1 + 1)))) := Zhp (f := (eI .i64)) (ti := ⟨.bool, 1, 0, [], false⟩) (x := (IntKind.i64.wrap (s0_.1 + 1))) (fun _ => rfl) (Zdr hx12)
   refine Z2n [] ax12 bx12 cx12 gu13 hi0 hk0 ?_
   refine zD [0, 2, 22, 23, 24] [true, false, true, false] ?_
   refine X4 [] hi0 hk0 ?_
   obtain rfl := sI hs0_
   refine And.intro rfl (Fit2.of (Zq hU rfl rfl ?_) (by omega))
   exact Yq hi0 hk0
  replace hs0_ := Zt c14 hs0_
  refine zXt ?_
  obtain rfl := sI hs0_
  refine And.intro (fun h => by cases h) (And.intro rfl (Fit2.of (Zq hU rfl rfl ?_) (by omega)))
  exact Yq hi0 hk0
 try simp only [Xs, Yy, ↓reduceIte, Nat.reduceEqDiff]
 obtain rfl := sI h
 refine Xr (k := 2) (i := i0) (q1 := ⟨false, 79, 2, 1, [.row n a0.classes.length, .row (n + 1) z15.length]⟩) (L3 := [some (oR 82 10 Zb a0.classes), some (oR 3 1 (eI .i64) z15), none]) (E2 := (⟨53, [], []⟩ : Env)) (n3 := (n + 3)) (.inl rfl) hU rfl [] ?_ ?_
 ·refine Fit2.trans (E' := (⟨53, [], []⟩ : Env)) (O' := (Zn (((O.upd j0_0 none).upd j0_1 none).upd i0 (some ⟨false, 79, 2, 1, [.row n a0.classes.length, .row (n + 2) z15.length]⟩)) n [some (oR 82 10 Zb a0.classes), none, some (oR 3 1 (eI .i64) z15)])) (n' := (n + 3)) (Fit2.of (Zq hU rfl rfl ?_) (by omega)) ?_
  ·exact Yq hi0 hk0
  refine Y0 (k := 3) (k' := 3) hU [0, 2, 1] [0, 2, 0] rfl rfl rfl rfl ⟨rfl, rfl⟩ ?_
  exact Yq hi0 hk0
 simp only [push_cast, seval, ↓reduceIte, Zi, Try.results53, hi0, hk0, hN0, hN]
theorem Zf6 {a0 : Za} {a1 : Za} {r : Bool} {O : Objs} {n : Nat} (h : Jb a0 a1 = some r) : GTo Try.prog 45 [.agg (Zc a0), .agg (Zc a1)] O n ((vB r)) O n := by
 unfold Jb at h
 refine zFn Try.call45 Try.func45 fun hU hN0 hN => ?_
 show W _ _ _ _ ⟨25, [], [(0, .agg (Zc a0)), (1, .agg (Zc a1))]⟩ (Zn O n []) _
 refine zQ [2, 3] ?_
 refine Zh ?_
 obtain ⟨y2, hy2, h⟩ := bC h
 refine zCd (Zcz hy2) [2, 3, 5] [true, true] ?_
 refine Zh ?_
 refine Zh ?_
 obtain ⟨y4, hy4, h⟩ := bC h
 refine zCd (Zcz hy4) [2, 3, 5, 12] [true, true] ?_
 refine Zo (t := (y4 != y2)) rfl (fun c12 => ?_) (fun c12 => ?_)
 ·replace h := Zu c12 h
  refine zQ [4] ?_
  exact Yi [(vB false)]
 replace h := Zt c12 h
 refine K4 [2, 3, 5] [true, true] ?_
 refine Zh ?_
 refine zQd [2, 3, 13, 14] [2, 3, 13, 14] [true, true] ?_
 obtain ⟨z11, hz11, h⟩ := bC h
 refine Zcs (J := (K3 (fun z11 => JR n (⟨25, [], [(4, (vB false))]⟩ : Env) (Zn O n [none, none]) (n + 2)) (fun z11 => JX 0 n (⟨25, [], []⟩ : Env) (Zn O n [none, none]) (n + 2)))) (z := z11) ?_ fun hw => ?_
 ·refine Jy hz11 (fun s0_ => ⟨25, [], [(2, .ref n 0), (3, .ref (n + 1) 0), (13, (vI y2)), (14, (vI s0_))]⟩) (fun s0_ => (Zn O n [some ⟨false, 35, 9, 1, (Zc a0)⟩, some ⟨false, 35, 9, 1, (Zc a1)⟩])) (K3 (fun z11 => JR n (⟨25, [], [(4, (vB false))]⟩ : Env) (Zn O n [none, none]) (n + 2)) (fun z11 => JX 0 n (⟨25, [], []⟩ : Env) (Zn O n [none, none]) (n + 2))) ?_
  intro s0_ x0_ hs0_
  unfold Qj at hs0_
  try dsimp only
  refine zQ [2, 3, 13, 14, 15] ?_
  refine Zh ?_
  refine Zo (t := (decide (s0_ < y2))) rfl (fun c10 => ?_) (fun c10 => ?_)
  ·replace hs0_ := Zu c10 hs0_
   refine K4 [2, 3, 13, 14] [true, true] ?_
   refine Zh ?_
   refine X6 ?_
   refine zQ [2, 3, 6, 13, 14] ?_
   refine Zh ?_
   obtain ⟨y7, hy7, hs0_⟩ := bC hs0_
   obtain ⟨y8, hy8, hs0_⟩ := bC hs0_
   refine G7 Zy (by kernel_rfl) [] (by kernel_rfl) ?_
   refine zS ?_
   refine PCall.of (J8 hy7) ?_
   refine zS ?_
   refine PCall.of (J8 hy8) ?_
   refine zS ?_
   refine zD [2, 3, 13, 14, 23] [true, true] ?_
   refine Zo (t := (y7 != y8)) rfl (fun c9 => ?_) (fun c9 => ?_)
   ·replace hs0_ := Zu c9 hs0_
    refine zQ [4] ?_
    refine zW ?_
    exact zEy hs0_
   replace hs0_ := Zt c9 hs0_
   refine K4 [2, 3, 13, 14] [true, true] ?_
   refine zR ?_
   exact zEn hs0_
  replace hs0_ := Zt c10 hs0_
  exact zEx hs0_
 rcases z11 with z11 | z11
 ·dsimp only [K3] at hw h
  refine Ut hw ?_
  try simp only [Xs, Yy, ↓reduceIte, Nat.reduceEqDiff]
  exact Zza [(vB false)]
 dsimp only [K3] at hw h
 refine Qz hw ?_
 try simp only [Xs, Yy, ↓reduceIte, Nat.reduceEqDiff]
 refine zD [] [false, false] ?_
 refine zQ [4] ?_
 exact Yi [(vB true)]
def Jj (Z0 : (Ze → Za → Za → Option (Bool × Int × Ze))) : Prop := ∀ {a0 : Ze} {a1 : Za} {a2 : Za} {r : (Bool × Int × Ze)} {O : Objs} {n : Nat} {i0 : Nat}, i0 < n → O i0 = some ⟨false, 72, 1, 1, [(vI a0.left)]⟩ → Z0 a0 a1 a2 = some r → GTo Try.prog 28 [.ref i0 0, .agg (Zc a1), .agg (Zc a2)] O n (.tup [(vB r.1), (vI r.2.1)]) (Zn (O.upd i0 (some ⟨false, 72, 1, 1, [(vI r.2.2.left)]⟩)) n []) (n + 0)
def Qq (Zz : (Ze → Za → Za → Int → Option (Bool × Int × Ze))) : Prop := ∀ {a0 : Ze} {a1 : Za} {a2 : Za} {a3 : Int} {r : (Bool × Int × Ze)} {O : Objs} {n : Nat} {i0 : Nat}, i0 < n → O i0 = some ⟨false, 72, 1, 1, [(vI a0.left)]⟩ → Zz a0 a1 a2 a3 = some r → GTo Try.prog 47 [.ref i0 0, .agg (Zc a1), .agg (Zc a2), (vI a3)] O n (.tup [(vB r.1), (vI r.2.1)]) (Zn (O.upd i0 (some ⟨false, 72, 1, 1, [(vI r.2.2.left)]⟩)) n []) (n + 0)
theorem Zch {Z0 : (Ze → Za → Za → Option (Bool × Int × Ze))} {Zz : (Ze → Za → Za → Int → Option (Bool × Int × Ze))} (Ue : Jj Z0) (Kj : Qq Zz) {a0 : Ze} {a1 : Za} {a2 : Za} {r : (Bool × Int × Ze)} {O : Objs} {n : Nat} {i0 : Nat} (hi0 : i0 < n) (ho0 : O i0 = some ⟨false, 72, 1, 1, [(vI a0.left)]⟩) (h : Yn Z0 Zz a0 a1 a2 = some r) : GTo Try.prog 28 [.ref i0 0, .agg (Zc a1), .agg (Zc a2)] O n (.tup [(vB r.1), (vI r.2.1)]) (Zn (O.upd i0 (some ⟨false, 72, 1, 1, [(vI r.2.2.left)]⟩)) n []) (n + 0) := by
 unfold Yn at h
 refine Zgw Zy Try.call28 Try.func28 rfl (Nat.le_of_ble_eq_true rfl) (by omega) fun hU => ?_
 rw [show Zn O n [] = Zn (O.upd i0 (some ⟨false, 72, 1, 1, [(vI a0.left)]⟩)) n [] from by rw [Zei (show O i0 = _ from by exact ho0)]]
 have hk0 : ∀ k, i0 < n + k := fun k => by omega
 have hN0 : ∀ o, Objs.upd O i0 o n = none := fun o => X1 hU hi0 _ (Nat.le_refl _)
 have hN : ∀ o k, Objs.upd O i0 o (n + k) = none := fun o k => X1 hU hi0 _ (Nat.le_add_right _ _)
 show W _ _ _ _ ⟨62, [], [(0, .ref i0 0), (1, .agg (Zc a1)), (2, .agg (Zc a2))]⟩ (Zn (O.upd i0 (some ⟨false, 72, 1, 1, [(vI a0.left)]⟩)) n []) _
 refine X5 [0, 4, 5] hi0 hk0 ?_
 refine Zh ?_
 refine X5 [0, 4, 5, 15] hi0 hk0 ?_
 refine Zo (t := (a0.left == 0)) rfl (fun c21 => ?_) (fun c21 => ?_)
 ·replace h := Zu c21 h
  refine X5 [6, 7] hi0 hk0 ?_
  refine zW ?_
  obtain rfl := sI h
  refine Xr (k := 0) (i := i0) (q1 := ⟨false, 72, 1, 1, [(vI a0.left)]⟩) (L3 := [none]) (E2 := (⟨62, [], [(6, (vB false)), (7, (vI 3))]⟩ : Env)) (n3 := (n + 1)) (.inr rfl) hU rfl [(vB false), (vI 3)] ?_ ?_
  ·refine Fit2.trans (E' := (⟨62, [], [(6, (vB false)), (7, (vI 3))]⟩ : Env)) (O' := (Zn (O.upd i0 (some ⟨false, 72, 1, 1, [(vI a0.left)]⟩)) n [none, none])) (n' := (n + 2)) (Fit2.of (Zq hU rfl rfl ?_) (by omega)) ?_
   ·exact Yq hi0 hk0
   refine Y0 (k := 2) (k' := 1) hU [0, 0] [0] rfl rfl rfl rfl ⟨rfl, rfl⟩ ?_
   exact Yq hi0 hk0
  simp only [push_cast, seval, ↓reduceIte, Zi, Try.results28, hi0, hk0, hN0, hN]
 replace h := Zt c21 h
 refine K4 [0, 4, 5] [true, true] ?_
 refine Zh ?_
 refine X4 [] hi0 hk0 ?_
 refine zDs [0, 4, 5] [true, true] ?_
 obtain ⟨z4, hz4, h⟩ := bC h
 refine Zaz (E' := ⟨62, [], [(0, .ref i0 0), (4, .ref n 0), (5, .ref (n + 1) 0), (33, (vB z4))]⟩) (O' := (Zn (O.upd i0 (some ⟨false, 72, 1, 1, [(vI (IntKind.i64.wrap (a0.left - 1)))]⟩)) n [some ⟨false, 35, 9, 1, (Zc a1)⟩, some ⟨false, 35, 9, 1, (Zc a2)⟩])) (n0 := (n + 2)) ?_ ?_
 ·obtain ⟨y8, hy8, hz4⟩ := bC hz4
  obtain ⟨y9, hy9, hz4⟩ := bC hz4
  rcases Bool.eq_false_or_eq_true (y8 != y9) with c11 | c11
  ·replace hz4 := Zu c11 hz4
   refine G7 Zy (by kernel_rfl) [some false, some false, some false, some false] (by kernel_rfl) ?_
   refine zX3 c11 hi0 hk0 ?_
   refine PCall.of (Xl hy8) ?_
   refine zX3 c11 hi0 hk0 ?_
   refine PCall.of (Xl hy9) ?_
   refine zX3 c11 hi0 hk0 ?_
   obtain rfl := sI hz4
   refine And.intro rfl (Fit2.of (Zq hU rfl rfl ?_) (by omega))
   exact Z0y c11 hi0 hk0
  replace hz4 := Zt c11 hz4
  obtain ⟨y10, hy10, hz4⟩ := bC hz4
  refine G7 Zy (by kernel_rfl) [some true, some true, some true, some true] (by kernel_rfl) ?_
  refine zX3 c11 hi0 hk0 ?_
  refine PCall.of (Xl hy8) ?_
  refine zX3 c11 hi0 hk0 ?_
  refine PCall.of (Xl hy9) ?_
  refine zX3 c11 hi0 hk0 ?_
  refine PCall.of (Zf6 hy10) ?_
  refine zX3 c11 hi0 hk0 ?_
  obtain rfl := sI hz4
  refine And.intro rfl (Fit2.of (Zq hU rfl rfl ?_) (by omega))
  exact Z0y c11 hi0 hk0
 refine Zo (t := z4) rfl (fun c20 => ?_) (fun c20 => ?_)
 ·replace h := Zu c20 h
  refine X5 [6, 7] hi0 hk0 ?_
  refine zW ?_
  obtain rfl := sI h
  refine Xr (k := 0) (i := i0) (q1 := ⟨false, 72, 1, 1, [(vI (IntKind.i64.wrap (a0.left - 1)))]⟩) (L3 := [none]) (E2 := (⟨62, [], [(6, (vB false)), (7, (vI 0))]⟩ : Env)) (n3 := (n + 1)) (.inr rfl) hU rfl [(vB false), (vI 0)] ?_ ?_
  ·refine Fit2.trans (E' := (⟨62, [], [(6, (vB false)), (7, (vI 0))]⟩ : Env)) (O' := (Zn (O.upd i0 (some ⟨false, 72, 1, 1, [(vI (IntKind.i64.wrap (a0.left - 1)))]⟩)) n [none, none])) (n' := (n + 2)) (Fit2.of (Zq hU rfl rfl ?_) (by omega)) ?_
   ·exact Yq hi0 hk0
   refine Y0 (k := 2) (k' := 1) hU [0, 0] [0] rfl rfl rfl rfl ⟨rfl, rfl⟩ ?_
   exact Yq hi0 hk0
  simp only [push_cast, seval, ↓reduceIte, Zi, Try.results28, hi0, hk0, hN0, hN]
 replace h := Zt c20 h
 refine K4 [0, 4, 5] [true, true] ?_
 refine Zh ?_
 obtain ⟨y13, hy13, h⟩ := bC h
 refine X4 [] hi0 hk0 ?_
 refine (Zb0 hy13).then ?_
 refine zX2 hi0 hk0 ?_
 refine zDs [0, 4, 5, 8, 9] [true, true] ?_
 refine X5 [0, 4, 5, 8, 9, 40] hi0 hk0 ?_
 refine Zo (t := (y13.2 != 0)) rfl (fun c19 => ?_) (fun c19 => ?_)
 ·replace h := Zu c19 h
  refine X5 [6, 7] hi0 hk0 ?_
  refine zW ?_
  obtain rfl := sI h
  refine Xr (k := 0) (i := i0) (q1 := ⟨false, 72, 1, 1, [(vI (IntKind.i64.wrap (a0.left - 1)))]⟩) (L3 := [none]) (E2 := (⟨62, [], [(6, (vB false)), (7, (vI y13.2))]⟩ : Env)) (n3 := (n + 1)) (.inr rfl) hU rfl [(vB false), (vI y13.2)] ?_ ?_
  ·refine Fit2.trans (E' := (⟨62, [], [(6, (vB false)), (7, (vI y13.2))]⟩ : Env)) (O' := (Zn (O.upd i0 (some ⟨false, 72, 1, 1, [(vI (IntKind.i64.wrap (a0.left - 1)))]⟩)) n [none, none])) (n' := (n + 2)) (Fit2.of (Zq hU rfl rfl ?_) (by omega)) ?_
   ·exact Yq hi0 hk0
   refine Y0 (k := 2) (k' := 1) hU [0, 0] [0] rfl rfl rfl rfl ⟨rfl, rfl⟩ ?_
   exact Yq hi0 hk0
  simp only [push_cast, seval, ↓reduceIte, Zi, Try.results28, hi0, hk0, hN0, hN]
 replace h := Zt c19 h
 refine K4 [0, 4, 5, 8] [true, true] ?_
 refine Zh ?_
 obtain ⟨y15, hy15, h⟩ := bC h
 refine X4 [] hi0 hk0 ?_
 refine (Zb0 hy15).then ?_
 refine zX2 hi0 hk0 ?_
 refine zDs [0, 4, 5, 8, 9, 10] [true, true] ?_
 refine G9 [0, 4, 5, 8, 9, 53] (Zx Zy [none, none, none] ?_)
 refine zX2 hi0 hk0 ?_
 refine zG ?_
 refine Zo (t := (cond (y15.2 != 0) true (y13.1 != y15.1))) rfl (fun c18 => ?_) (fun c18 => ?_)
 ·replace h := Zu c18 h
  refine X5 [6, 7] hi0 hk0 ?_
  refine zW ?_
  obtain rfl := sI h
  refine Xr (k := 0) (i := i0) (q1 := ⟨false, 72, 1, 1, [(vI (IntKind.i64.wrap (a0.left - 1)))]⟩) (L3 := [none]) (E2 := (⟨62, [], [(6, (vB false)), (7, (vI y15.2))]⟩ : Env)) (n3 := (n + 1)) (.inr rfl) hU rfl [(vB false), (vI y15.2)] ?_ ?_
  ·refine Fit2.trans (E' := (⟨62, [], [(6, (vB false)), (7, (vI y15.2))]⟩ : Env)) (O' := (Zn (O.upd i0 (some ⟨false, 72, 1, 1, [(vI (IntKind.i64.wrap (a0.left - 1)))]⟩)) n [none, none])) (n' := (n + 2)) (Fit2.of (Zq hU rfl rfl ?_) (by omega)) ?_
   ·exact Yq hi0 hk0
   refine Y0 (k := 2) (k' := 1) hU [0, 0] [0] rfl rfl rfl rfl ⟨rfl, rfl⟩ ?_
   exact Yq hi0 hk0
  simp only [push_cast, seval, ↓reduceIte, Zi, Try.results28, hi0, hk0, hN0, hN]
 replace h := Zt c18 h
 refine K4 [0, 4, 5, 8] [true, true] ?_
 refine Zh ?_
 obtain ⟨y17, hy17, h⟩ := bC h
 refine X4 [] hi0 hk0 ?_
 refine (Kj (i0 := i0) (by omega) (by simp only [push_cast, seval, ↓reduceIte, Zi, Q1, hi0, hk0, hN0, hN] <;> rfl) hy17).then ?_
 refine zX2 hi0 hk0 ?_
 refine zD [6, 7] [false, false] ?_
 refine zW ?_
 obtain rfl := sI h
 refine Xr (k := 0) (i := i0) (q1 := ⟨false, 72, 1, 1, [(vI y17.2.2.left)]⟩) (L3 := [none]) (E2 := (⟨62, [], [(6, (vB y17.1)), (7, (vI y17.2.1))]⟩ : Env)) (n3 := (n + 1)) (.inr rfl) hU rfl [(vB y17.1), (vI y17.2.1)] ?_ ?_
 ·refine Fit2.trans (E' := (⟨62, [], [(6, (vB y17.1)), (7, (vI y17.2.1))]⟩ : Env)) (O' := (Zn (O.upd i0 (some ⟨false, 72, 1, 1, [(vI y17.2.2.left)]⟩)) n [none, none])) (n' := (n + 2)) (Fit2.of (Zq hU rfl rfl ?_) (by omega)) ?_
  ·exact Yq hi0 hk0
  refine Y0 (k := 2) (k' := 1) hU [0, 0] [0] rfl rfl rfl rfl ⟨rfl, rfl⟩ ?_
  exact Yq hi0 hk0
 simp only [push_cast, seval, ↓reduceIte, Zi, Try.results28, hi0, hk0, hN0, hN]
theorem Zas {Z0 : (Ze → Za → Za → Option (Bool × Int × Ze))} {Zz : (Ze → Za → Za → Int → Option (Bool × Int × Ze))} (Ue : Jj Z0) (Kj : Qq Zz) {a0 : Ze} {a1 : Za} {a2 : Za} {a3 : Int} {r : (Bool × Int × Ze)} {O : Objs} {n : Nat} {i0 : Nat} (hi0 : i0 < n) (ho0 : O i0 = some ⟨false, 72, 1, 1, [(vI a0.left)]⟩) (h : Yc Z0 Zz a0 a1 a2 a3 = some r) : GTo Try.prog 47 [.ref i0 0, .agg (Zc a1), .agg (Zc a2), (vI a3)] O n (.tup [(vB r.1), (vI r.2.1)]) (Zn (O.upd i0 (some ⟨false, 72, 1, 1, [(vI r.2.2.left)]⟩)) n []) (n + 0) := by
 unfold Yc at h
 refine Zgw Zy Try.call47 Try.func47 rfl (Nat.le_of_ble_eq_true rfl) (by omega) fun hU => ?_
 rw [show Zn O n [] = Zn (O.upd i0 (some ⟨false, 72, 1, 1, [(vI a0.left)]⟩)) n [] from by rw [Zei (show O i0 = _ from by exact ho0)]]
 have hk0 : ∀ k, i0 < n + k := fun k => by omega
 have hN0 : ∀ o, Objs.upd O i0 o n = none := fun o => X1 hU hi0 _ (Nat.le_refl _)
 have hN : ∀ o k, Objs.upd O i0 o (n + k) = none := fun o k => X1 hU hi0 _ (Nat.le_add_right _ _)
 show W _ _ _ _ ⟨53, [], [(0, .ref i0 0), (1, .agg (Zc a1)), (2, .agg (Zc a2)), (3, (vI a3))]⟩ (Zn (O.upd i0 (some ⟨false, 72, 1, 1, [(vI a0.left)]⟩)) n []) _
 refine X5 [0, 3, 5, 6] hi0 hk0 ?_
 refine Zh ?_
 refine X5 [0, 5, 6, 16, 17] hi0 hk0 ?_
 refine zD [0, 5, 6, 16, 17] [true, true] ?_
 obtain ⟨z11, hz11, h⟩ := bC h
 refine Zcs (J := (K3 (fun z11 => JR n (⟨53, [], [(8, (vB false)), (9, (vI z11.1))]⟩ : Env) (Zn (O.upd i0 (some ⟨false, 72, 1, 1, [(vI z11.2)]⟩)) n [none, none]) (n + 2)) (fun z11 => JX 0 n (⟨53, [], []⟩ : Env) (Zn (O.upd i0 (some ⟨false, 72, 1, 1, [(vI z11)]⟩)) n [none, none]) (n + 2)))) (z := z11) ?_ fun hw => ?_
 ·refine Jy hz11 (fun s0_ => ⟨53, [], [(0, .ref i0 0), (5, .ref n 0), (6, .ref (n + 1) 0), (16, (vI a3)), (17, (vI s0_.1))]⟩) (fun s0_ => (Zn (O.upd i0 (some ⟨false, 72, 1, 1, [(vI s0_.2)]⟩)) n [some ⟨false, 35, 9, 1, (Zc a1)⟩, some ⟨false, 35, 9, 1, (Zc a2)⟩])) (K3 (fun z11 => JR n (⟨53, [], [(8, (vB false)), (9, (vI z11.1))]⟩ : Env) (Zn (O.upd i0 (some ⟨false, 72, 1, 1, [(vI z11.2)]⟩)) n [none, none]) (n + 2)) (fun z11 => JX 0 n (⟨53, [], []⟩ : Env) (Zn (O.upd i0 (some ⟨false, 72, 1, 1, [(vI z11)]⟩)) n [none, none]) (n + 2))) ?_
  intro s0_ x0_ hs0_
  unfold Yb at hs0_
  try dsimp only
  refine X5 [0, 5, 6, 16, 17, 18] hi0 hk0 ?_
  refine Zh ?_
  refine Zo (t := (decide (s0_.1 < a3))) rfl (fun c10 => ?_) (fun c10 => ?_)
  ·replace hs0_ := Zu c10 hs0_
   refine K4 [0, 5, 6, 16, 17] [true, true] ?_
   refine Zh ?_
   refine X6 ?_
   refine X5 [0, 5, 6, 10, 16, 17] hi0 hk0 ?_
   refine Zh ?_
   obtain ⟨y2, hy2, hs0_⟩ := bC hs0_
   refine X4 [] hi0 hk0 ?_
   refine (Qo hy2).then ?_
   refine zX2 hi0 hk0 ?_
   refine zDs [0, 5, 6, 10, 11, 12, 16, 17] [true, true, true] ?_
   refine X5 [0, 5, 6, 10, 11, 12, 16, 17, 27] hi0 hk0 ?_
   refine Zo (t := (y2.2 != 0)) rfl (fun c9 => ?_) (fun c9 => ?_)
   ·replace hs0_ := Zu c9 hs0_
    refine X5 [8, 9] hi0 hk0 ?_
    refine zW ?_
    obtain rfl := sI hs0_
    refine And.intro (fun h => by cases h) (And.intro rfl (Fit2.of (Zq hU rfl rfl ?_) (by omega)))
    exact Yq hi0 hk0
   replace hs0_ := Zt c9 hs0_
   refine K4 [0, 5, 6, 10, 11, 16, 17] [true, true, true] ?_
   refine Zh ?_
   obtain ⟨y4, hy4, hs0_⟩ := bC hs0_
   refine X4 [] hi0 hk0 ?_
   refine (Qo hy4).then ?_
   refine zX2 hi0 hk0 ?_
   refine zDs [0, 5, 6, 11, 12, 13, 16, 17] [true, true, true, true] ?_
   refine X5 [0, 5, 6, 11, 12, 13, 16, 17, 36] hi0 hk0 ?_
   refine Zo (t := (y4.2 != 0)) rfl (fun c8 => ?_) (fun c8 => ?_)
   ·replace hs0_ := Zu c8 hs0_
    refine X5 [8, 9] hi0 hk0 ?_
    refine zW ?_
    obtain rfl := sI hs0_
    refine And.intro (fun h => by cases h) (And.intro rfl (Fit2.of (Zq hU rfl rfl ?_) (by omega)))
    exact Yq hi0 hk0
   replace hs0_ := Zt c8 hs0_
   refine K4 [0, 5, 6, 11, 13, 16, 17] [true, true, true, true] ?_
   refine Zh ?_
   obtain ⟨y6, hy6, hs0_⟩ := bC hs0_
   refine X4 [] hi0 hk0 ?_
   refine (Ue (i0 := i0) (by omega) (by simp only [push_cast, seval, ↓reduceIte, Zi, Q1, hi0, hk0, hN0, hN] <;> rfl) hy6).then ?_
   refine zX2 hi0 hk0 ?_
   refine zD [0, 5, 6, 14, 15, 16, 17] [true, true, false, false] ?_
   refine G9 [0, 5, 6, 15, 16, 17, 50] (Zx Zy [none, none] ?_)
   refine zX2 hi0 hk0 ?_
   refine zG ?_
   refine Zo (t := (cond (!y6.1) true (y6.2.1 != 0))) rfl (fun c7 => ?_) (fun c7 => ?_)
   ·replace hs0_ := Zu c7 hs0_
    refine X5 [8, 9] hi0 hk0 ?_
    refine zW ?_
    obtain rfl := sI hs0_
    refine And.intro (fun h => by cases h) (And.intro rfl (Fit2.of (Zq hU rfl rfl ?_) (by omega)))
    exact Yq hi0 hk0
   replace hs0_ := Zt c7 hs0_
   refine K4 [0, 5, 6, 16, 17] [true, true, false, false] ?_
   refine X4 [] hi0 hk0 ?_
   obtain rfl := sI hs0_
   refine And.intro rfl (Fit2.of (Zq hU rfl rfl ?_) (by omega))
   exact Yq hi0 hk0
  replace hs0_ := Zt c10 hs0_
  refine zXt ?_
  obtain rfl := sI hs0_
  refine And.intro (fun h => by cases h) (And.intro rfl (Fit2.of (Zq hU rfl rfl ?_) (by omega)))
  exact Yq hi0 hk0
 rcases z11 with z11 | z11
 ·dsimp only [K3] at hw h
  refine Ut hw ?_
  try simp only [Xs, Yy, ↓reduceIte, Nat.reduceEqDiff]
  obtain rfl := sI h
  refine Xr (k := 0) (i := i0) (q1 := ⟨false, 72, 1, 1, [(vI z11.2)]⟩) (L3 := [none]) (E2 := (⟨53, [], [(8, (vB false)), (9, (vI z11.1))]⟩ : Env)) (n3 := (n + 1)) (.inr rfl) hU rfl [(vB false), (vI z11.1)] ?_ ?_
  ·refine Fit2.trans (E' := (⟨53, [], [(8, (vB false)), (9, (vI z11.1))]⟩ : Env)) (O' := (Zn (O.upd i0 (some ⟨false, 72, 1, 1, [(vI z11.2)]⟩)) n [none, none])) (n' := (n + 2)) (Fit2.of (Zq hU rfl rfl ?_) (by omega)) ?_
   ·exact Yq hi0 hk0
   refine Y0 (k := 2) (k' := 1) hU [0, 0] [0] rfl rfl rfl rfl ⟨rfl, rfl⟩ ?_
   exact Yq hi0 hk0
  simp only [push_cast, seval, ↓reduceIte, Zi, Try.results47, hi0, hk0, hN0, hN]
 dsimp only [K3] at hw h
 refine Qz hw ?_
 try simp only [Xs, Yy, ↓reduceIte, Nat.reduceEqDiff]
 refine zD [] [false, false] ?_
 refine X5 [8, 9] hi0 hk0 ?_
 refine zW ?_
 obtain rfl := sI h
 refine Xr (k := 0) (i := i0) (q1 := ⟨false, 72, 1, 1, [(vI z11)]⟩) (L3 := [none]) (E2 := (⟨53, [], [(8, (vB true)), (9, (vI 0))]⟩ : Env)) (n3 := (n + 1)) (.inr rfl) hU rfl [(vB true), (vI 0)] ?_ ?_
 ·refine Fit2.trans (E' := (⟨53, [], [(8, (vB true)), (9, (vI 0))]⟩ : Env)) (O' := (Zn (O.upd i0 (some ⟨false, 72, 1, 1, [(vI z11)]⟩)) n [none, none])) (n' := (n + 2)) (Fit2.of (Zq hU rfl rfl ?_) (by omega)) ?_
  ·exact Yq hi0 hk0
  refine Y0 (k := 2) (k' := 1) hU [0, 0] [0] rfl rfl rfl rfl ⟨rfl, rfl⟩ ?_
  exact Yq hi0 hk0
 simp only [push_cast, seval, ↓reduceIte, Zi, Try.results47, hi0, hk0, hN0, hN]
theorem Zbn : ∀ k, (Jj ((Zl k).1)) ∧ (Qq ((Zl k).2)) := fun k => by
 induction k with
 | zero => exact ⟨@fun a0 a1 a2 r O n i0 hi0 ho0 h => (nomatch (show (none : Option _) = some _ from h)), @fun a0 a1 a2 a3 r O n i0 hi0 ho0 h => (nomatch (show (none : Option _) = some _ from h))⟩
 | succ k ih => exact ⟨@fun a0 a1 a2 r O n i0 hi0 ho0 h => Zch (ih.1) (ih.2) hi0 ho0 h, @fun a0 a1 a2 a3 r O n i0 hi0 ho0 h => Zas (ih.1) (ih.2) hi0 ho0 h⟩
theorem Zc0 {a0 : Ze} {a1 : Za} {a2 : Za} {r : (Bool × Int × Ze)} {O : Objs} {n : Nat} {i0 : Nat} (hi0 : i0 < n) (ho0 : O i0 = some ⟨false, 72, 1, 1, [(vI a0.left)]⟩) (h : Kq a0 a1 a2 = some r) : GTo Try.prog 28 [.ref i0 0, .agg (Zc a1), .agg (Zc a2)] O n (.tup [(vB r.1), (vI r.2.1)]) (Zn (O.upd i0 (some ⟨false, 72, 1, 1, [(vI r.2.2.left)]⟩)) n []) (n + 0) := by
 obtain ⟨k, hk⟩ := Zq1 h
 exact (Zbn k).1 hi0 ho0 hk
theorem Ziu {a0 : Za} {a1 : Za} {r : (Bool × Int)} {O : Objs} {n : Nat} (h : Vb a0 a1 = some r) : GTo Try.prog 11 [.agg (Zc a0), .agg (Zc a1)] O n (.tup [(vB r.1), (vI r.2)]) O n := by
 unfold Vb at h
 refine zFn Try.call11 Try.func11 fun hU hN0 hN => ?_
 show W _ _ _ _ ⟨13, [], [(0, .agg (Zc a0)), (1, .agg (Zc a1))]⟩ (Zn O n []) _
 refine zQ [2, 3] ?_
 refine Zh ?_
 refine zRd [2, 3, 6] [true, true, true] ?_
 refine Zh ?_
 obtain ⟨y2, hy2, h⟩ := bC h
 refine zR ?_
 refine (Zc0 (i0 := (n + 2)) (by omega) (by simp only [push_cast, seval, ↓reduceIte, Zi, Q1, hN0, hN] <;> rfl) hy2).then ?_
 refine zS ?_
 refine zD [4, 5] [false, false, false] ?_
 exact Yi [(vB y2.1), (vI y2.2.1)]
theorem Zdg {a0 : Zd} {a1 : Zd} {r : (Bool × Int)} {O : Objs} {n : Nat} (h : Ql a0 a1 = some r) : GTo Try.prog 56 [.agg (Z3 a0), .agg (Z3 a1)] O n (.tup [(vB r.1), (vI r.2)]) O n := by
 unfold Ql at h
 refine zFn Try.call56 Try.func56 fun hU hN0 hN => ?_
 show W _ _ _ _ ⟨18, [], [(0, .agg (Z3 a0)), (1, .agg (Z3 a1))]⟩ (Zn O n []) _
 refine zQ [2, 3] ?_
 refine Zh ?_
 refine zQ [2, 3, 10] ?_
 refine Zo (t := (a0.hash != a1.hash)) rfl (fun c3 => ?_) (fun c3 => ?_)
 ·replace h := Zu c3 h
  refine zQ [4, 5] ?_
  exact Yi [(vB false), (vI 0)]
 replace h := Zt c3 h
 refine K4 [2, 3] [true, true] ?_
 refine Zh ?_
 obtain ⟨y2, hy2, h⟩ := bC h
 refine zCd (Ziu hy2) [4, 5] [false, false] ?_
 exact Yi [(vB y2.1), (vI y2.2)]
theorem Zdf {a0 : Zj} {a1 : Zd} {r : (Int × Int × Zj)} {O : Objs} {n : Nat} {i0 j0_0 j0_1 : Nat} (hi0 : i0 < n) (Zij : j0_0 < n) (Zik : j0_1 < n) (Zdz : i0 ≠ j0_0) (Za8 : i0 ≠ j0_1) (Za7 : j0_0 ≠ j0_1) (ho0 : O i0 = some ⟨false, 79, 2, 1, [.row j0_0 a0.classes.length, .row j0_1 a0.places.length]⟩) (Zj8 : O j0_0 = some (oR 82 10 Zb a0.classes)) (Zj9 : O j0_1 = some (oR 3 1 (eI .i64) a0.places)) (h : Qk a0 a1 = some r) : GTo Try.prog 32 [.ref i0 0, .agg (Z3 a1)] O n (.tup [(vI r.1), (vI r.2.1)]) (Zn (((O.upd j0_0 none).upd j0_1 none).upd i0 (some ⟨false, 79, 2, 1, [.row n r.2.2.classes.length, .row (n + 1) r.2.2.places.length]⟩)) n [some (oR 82 10 Zb r.2.2.classes), some (oR 3 1 (eI .i64) r.2.2.places)]) (n + 2) := by
 unfold Qk at h
 refine Zgw Zy Try.call32 Try.func32 rfl (Nat.le_of_ble_eq_true rfl) (by omega) fun hU => ?_
 have e0 := Zcp (ba := n) (E := ⟨94, [], Zfs 0 [.ref i0 0, .agg [.val (.int .u64 a1.hash), (gP Zg a1.r.a), .val (.int .i64 a1.r.kind), .val (.int .i64 a1.r.segment), .val (.int .i64 a1.r.at_), .val (.int .i64 a1.r.words), .val (.int .i64 a1.r.ptrs), .val (.int .i64 a1.r.count), .val (.int .i64 a1.r.code), .val (.int .i64 a1.r.index)]]⟩) (O := (Zn O n [])) (n := n) (i := i0) (j := j0_0) (k := 0) (len := a0.classes.length) (q := ⟨false, 79, 2, 1, [.row j0_0 a0.classes.length, .row j0_1 a0.places.length]⟩) (qj := ⟨true, 82, 10, a0.classes.length, fl Zb a0.classes⟩) (by rw [Y4 _ hi0]; first | exact ho0 | exact Yd _ _ _) rfl (by rw [Y4 _ Zij]; exact Zj8) Zdz (by omega)
 simp only [Qi _ _ Zij, Qi _ _ hi0, Qy, X9, Gg, Zh9 Zdz, List.set_cons_zero, List.set_cons_succ, List.cons_append, List.nil_append, List.length_cons, List.length_nil, Nat.zero_add, Nat.reduceAdd, Nat.add_assoc] at e0
 refine Zbv e0 ?_
 have e1 := Zcp (ba := n) (E := ⟨94, [], Zfs 0 [.ref i0 0, .agg [.val (.int .u64 a1.hash), (gP Zg a1.r.a), .val (.int .i64 a1.r.kind), .val (.int .i64 a1.r.segment), .val (.int .i64 a1.r.at_), .val (.int .i64 a1.r.words), .val (.int .i64 a1.r.ptrs), .val (.int .i64 a1.r.count), .val (.int .i64 a1.r.code), .val (.int .i64 a1.r.index)]]⟩) (O := (Zn ((O.upd j0_0 none).upd i0 (some ⟨false, 79, 2, 1, [.row n a0.classes.length, .row j0_1 a0.places.length]⟩)) n [some ⟨true, 82, 10, a0.classes.length, fl Zb a0.classes⟩])) (n := (n + 1)) (i := i0) (j := j0_1) (k := 1) (len := a0.places.length) (q := ⟨false, 79, 2, 1, [.row n a0.classes.length, .row j0_1 a0.places.length]⟩) (qj := ⟨true, 3, 1, a0.places.length, fl (eI .i64) a0.places⟩) (by rw [Y4 _ hi0]; first | exact ho0 | exact Yd _ _ _) rfl (by rw [Y4 _ Zik, Yx _ _ (Ne.symm Za8), Yx _ _ (Ne.symm Za7)]; exact Zj9) Za8 (by omega)
 simp only [Qi _ _ Zik, Qi _ _ hi0, Qy, X9, Gg, Zh9 Za8, List.set_cons_zero, List.set_cons_succ, List.cons_append, List.nil_append, List.length_cons, List.length_nil, Nat.zero_add, Nat.reduceAdd, Nat.add_assoc] at e1
 refine Zbv e1 ?_
 have hU := (Und.drop (Und.drop hU j0_0) j0_1)
 have hk0 : ∀ k, i0 < n + k := fun k => by omega
 have hN0 : ∀ o, Objs.upd ((O.upd j0_0 none).upd j0_1 none) i0 o n = none := fun o => X1 hU hi0 _ (Nat.le_refl _)
 have hN : ∀ o k, Objs.upd ((O.upd j0_0 none).upd j0_1 none) i0 o (n + k) = none := fun o k => X1 hU hi0 _ (Nat.le_add_right _ _)
 show W _ _ _ _ ⟨94, [], [(0, .ref i0 0), (1, .agg (Z3 a1))]⟩ (Zn (((O.upd j0_0 none).upd j0_1 none).upd i0 (some ⟨false, 79, 2, 1, [.row n a0.classes.length, .row (n + 1) a0.places.length]⟩)) n [some (oR 82 10 Zb a0.classes), some (oR 3 1 (eI .i64) a0.places)]) _
 refine X5 [0, 3] hi0 hk0 ?_
 obtain ⟨z1, hz1, h⟩ := bC h
 refine Zaz (E' := ⟨94, [], [(0, .ref i0 0), (3, .ref (n + 2) 0)]⟩) (O' := (Zn (((O.upd j0_0 none).upd j0_1 none).upd i0 (some ⟨false, 79, 2, 1, [.row (n + 5) z1.1.length, .row (n + 6) z1.2.length]⟩)) n [none, none, some ⟨false, 82, 10, 1, (Z3 a1)⟩, none, none, some (oR 82 10 Zb z1.1), some (oR 3 1 (eI .i64) z1.2)])) (n0 := (n + 7)) ?_ ?_
 ·refine G9 [0, 3, 22] (G7 Zy (by kernel_rfl) [] (by kernel_rfl) ?_)
  refine zX2 hi0 hk0 ?_
  refine Zo (t := (decide ((a0.places.length : Int) ≤ (IntKind.i64.wrap (2 * (a0.classes.length : Int)))))) rfl (fun c3 => ?_) (fun c3 => ?_)
  ·replace hz1 := Zu c3 hz1
   obtain ⟨y2, hy2, hz1⟩ := bC hz1
   refine X4 [] hi0 hk0 ?_
   refine (Zd4 (i0 := i0) (j0_0 := n) (j0_1 := (n + 1)) (by omega) (by omega) (by omega) (by omega) (by omega) (by omega) (by simp only [push_cast, seval, ↓reduceIte, Zi, Q1, hi0, hk0, hN0, hN] <;> rfl) (by simp only [push_cast, seval, ↓reduceIte, Zi, Q1, hi0, hk0, hN0, hN] <;> rfl) (by simp only [push_cast, seval, ↓reduceIte, Zi, Q1, hi0, hk0, hN0, hN] <;> rfl) hy2).then ?_
   refine zX2 hi0 hk0 ?_
   obtain rfl := sI hz1
   refine And.intro rfl ?_
   refine Fit2.trans (E' := (⟨94, [], [(0, .ref i0 0), (3, .ref (n + 2) 0)]⟩ : Env)) (O' := (Zn (((O.upd j0_0 none).upd j0_1 none).upd i0 (some ⟨false, 79, 2, 1, [.row (n + 3) y2.classes.length, .row (n + 4) y2.places.length]⟩)) n [none, none, some ⟨false, 82, 10, 1, (Z3 a1)⟩, some (oR 82 10 Zb y2.classes), some (oR 3 1 (eI .i64) y2.places)])) (n' := (n + 5)) (Fit2.of (Zq hU rfl rfl ?_) (by omega)) ?_
   ·exact Yq hi0 hk0
   refine Y0 (k := 5) (k' := 7) hU [4, 4, 2, 5, 6] [0, 0, 2, 0, 0, 3, 4] rfl rfl rfl rfl ⟨rfl, rfl⟩ ?_
   exact Yq hi0 hk0
  replace hz1 := Zt c3 hz1
  refine zK ?_
  obtain rfl := sI hz1
  refine And.intro rfl ?_
  refine Fit2.trans (E' := (⟨94, [], [(0, .ref i0 0), (3, .ref (n + 2) 0)]⟩ : Env)) (O' := (Zn (((O.upd j0_0 none).upd j0_1 none).upd i0 (some ⟨false, 79, 2, 1, [.row n a0.classes.length, .row (n + 1) a0.places.length]⟩)) n [some (oR 82 10 Zb a0.classes), some (oR 3 1 (eI .i64) a0.places), some ⟨false, 82, 10, 1, (Z3 a1)⟩])) (n' := (n + 3)) (Fit2.of (Zq hU rfl rfl ?_) (by omega)) ?_
  ·exact Yq hi0 hk0
  refine Y0 (k := 3) (k' := 7) hU [5, 6, 2] [0, 0, 2, 0, 0, 0, 1] rfl rfl rfl rfl ⟨rfl, rfl⟩ ?_
  exact Yq hi0 hk0
 refine Zh ?_
 obtain ⟨y5, hy5, h⟩ := bC h
 refine X4 [] hi0 hk0 ?_
 refine GCalls.lend (Gk hy5) rfl ?_ ?_
 ·exact Yq hi0 hk0
 refine zX2 hi0 hk0 ?_
 refine zDs [0, 3, 6, 7] [false, false, true, false, false, true, true] ?_
 refine zD [0, 3, 6, 7] [false, false, true, false, false, true, true] ?_
 obtain ⟨z18, hz18, h⟩ := bC h
 refine Zcs (J := (K3 (fun z18 => JR n (⟨94, [], [(4, (vI z18.1)), (5, (vI z18.2))]⟩ : Env) (Zn (((O.upd j0_0 none).upd j0_1 none).upd i0 (some ⟨false, 79, 2, 1, [.row (n + 5) z1.1.length, .row (n + 6) z1.2.length]⟩)) n [none, none, none, none, none, some (oR 82 10 Zb z1.1), some (oR 3 1 (eI .i64) z1.2)]) (n + 7)) (fun z18 => JX 0 n (⟨94, [], [(0, .ref i0 0), (3, .ref (n + 2) 0), (6, (vI z18))]⟩ : Env) (Zn (((O.upd j0_0 none).upd j0_1 none).upd i0 (some ⟨false, 79, 2, 1, [.row (n + 5) z1.1.length, .row (n + 6) z1.2.length]⟩)) n [none, none, some ⟨false, 82, 10, 1, (Z3 a1)⟩, none, none, some (oR 82 10 Zb z1.1), some (oR 3 1 (eI .i64) z1.2)]) (n + 7)))) (z := z18) ?_ fun hw => ?_
 ·refine Jy hz18 (fun s0_ => ⟨94, [], [(0, .ref i0 0), (3, .ref (n + 2) 0), (6, (vI s0_)), (7, .fn 55 1 [.ref i0 0])]⟩) (fun s0_ => (Zn (((O.upd j0_0 none).upd j0_1 none).upd i0 (some ⟨false, 79, 2, 1, [.row (n + 5) z1.1.length, .row (n + 6) z1.2.length]⟩)) n [none, none, some ⟨false, 82, 10, 1, (Z3 a1)⟩, none, none, some (oR 82 10 Zb z1.1), some (oR 3 1 (eI .i64) z1.2)])) (K3 (fun z18 => JR n (⟨94, [], [(4, (vI z18.1)), (5, (vI z18.2))]⟩ : Env) (Zn (((O.upd j0_0 none).upd j0_1 none).upd i0 (some ⟨false, 79, 2, 1, [.row (n + 5) z1.1.length, .row (n + 6) z1.2.length]⟩)) n [none, none, none, none, none, some (oR 82 10 Zb z1.1), some (oR 3 1 (eI .i64) z1.2)]) (n + 7)) (fun z18 => JX 0 n (⟨94, [], [(0, .ref i0 0), (3, .ref (n + 2) 0), (6, (vI z18))]⟩ : Env) (Zn (((O.upd j0_0 none).upd j0_1 none).upd i0 (some ⟨false, 79, 2, 1, [.row (n + 5) z1.1.length, .row (n + 6) z1.2.length]⟩)) n [none, none, some ⟨false, 82, 10, 1, (Z3 a1)⟩, none, none, some (oR 82 10 Zb z1.1), some (oR 3 1 (eI .i64) z1.2)]) (n + 7))) ?_
  intro s0_ x0_ hs0_
  unfold Ya at hs0_
  try dsimp only
  refine Zh ?_
  obtain ⟨x7, hx7, ax7, bx7, cx7, hs0_⟩ := bE (f := (eI .i64)) Ziw (fun _ => rfl) (by decide) hs0_
  refine G9 [0, 3, 6, 7, 38] (Zx Zy [] ?_)
  refine zF5 ax7 bx7 cx7 hi0 hk0 ?_
  refine Zo (t := (x7 != 0)) rfl (fun c17 => ?_) (fun c17 => ?_)
  ·replace hs0_ := Zu c17 hs0_
   refine K4 [0, 3, 6, 7] [false, false, true, false, false, true, true] ?_
   refine X6 ?_
   obtain ⟨x9, hx9, ax9, bx9, cx9, hs0_⟩ := bE (f := (eI .i64)) Ziw (fun _ => rfl) (by decide) hs0_
   refine G9 [0, 3, 6, 7, 8] (Zx Zy [] ?_)
   refine zF5 ax9 bx9 cx9 hi0 hk0 ?_
   refine Zh ?_
   obtain ⟨x12, hx12, ax12, bx12, cx12, hs0_⟩ := bE (f := Zb) Zlb (fun _ => rfl) (by decide) hs0_
   obtain ⟨y13, hy13, hs0_⟩ := bC hs0_
   refine G7 Zy (by kernel_rfl) [] (by kernel_rfl) ?_
   refine zF5 ax12 bx12 cx12 hi0 hk0 ?_
   refine PCall.of (Zdg hy13) ?_
   refine zF5 ax12 bx12 cx12 hi0 hk0 ?_
   refine zDs [0, 3, 6, 7, 8, 9, 10] [false, false, true, false, false, true, true] ?_
   refine X5 [0, 3, 6, 7, 8, 9, 10, 60] hi0 hk0 ?_
   refine Zo (t := (y13.2 != 0)) rfl (fun c16 => ?_) (fun c16 => ?_)
   ·replace hs0_ := Zu c16 hs0_
    refine X5 [4, 5] hi0 hk0 ?_
    refine zW ?_
    obtain rfl := sI hs0_
    refine And.intro (fun h => by cases h) (And.intro rfl (Fit2.of (Zq hU rfl rfl ?_) (by omega)))
    exact Yq hi0 hk0
   replace hs0_ := Zt c16 hs0_
   refine K4 [0, 3, 6, 7, 8, 9] [false, false, true, false, false, true, true] ?_
   refine Zh ?_
   refine X5 [0, 3, 6, 7, 8, 62] hi0 hk0 ?_
   refine Zo (t := y13.1) rfl (fun c15 => ?_) (fun c15 => ?_)
   ·replace hs0_ := Zu c15 hs0_
    refine X5 [4, 5] hi0 hk0 ?_
    refine zW ?_
    obtain rfl := sI hs0_
    refine And.intro (fun h => by cases h) (And.intro rfl (Fit2.of (Zq hU rfl rfl ?_) (by omega)))
    exact Yq hi0 hk0
   replace hs0_ := Zt c15 hs0_
   refine K4 [0, 3, 6, 7] [false, false, true, false, false, true, true] ?_
   obtain ⟨y14, hy14, hs0_⟩ := bC hs0_
   refine X4 [] hi0 hk0 ?_
   refine GCalls.lend (Zal hy14) rfl ?_ ?_
   ·exact Yq hi0 hk0
   refine zX2 hi0 hk0 ?_
   obtain rfl := sI hs0_
   refine And.intro rfl (Fit2.of (Zq hU rfl rfl ?_) (by omega))
   exact Yq hi0 hk0
  replace hs0_ := Zt c17 hs0_
  refine zXt ?_
  obtain rfl := sI hs0_
  refine And.intro (fun h => by cases h) (And.intro rfl (Fit2.of (Zq hU rfl rfl ?_) (by omega)))
  exact Yq hi0 hk0
 rcases z18 with z18 | z18
 ·dsimp only [K3] at hw h
  refine Ut hw ?_
  try simp only [Xs, Yy, ↓reduceIte, Nat.reduceEqDiff]
  obtain rfl := sI h
  refine Xr (k := 2) (i := i0) (q1 := ⟨false, 79, 2, 1, [.row n z1.1.length, .row (n + 1) z1.2.length]⟩) (L3 := [some (oR 82 10 Zb z1.1), some (oR 3 1 (eI .i64) z1.2), none]) (E2 := (⟨94, [], [(4, (vI z18.1)), (5, (vI z18.2))]⟩ : Env)) (n3 := (n + 3)) (.inr rfl) hU rfl [(vI z18.1), (vI z18.2)] ?_ ?_
  ·refine Fit2.trans (E' := (⟨94, [], [(4, (vI z18.1)), (5, (vI z18.2))]⟩ : Env)) (O' := (Zn (((O.upd j0_0 none).upd j0_1 none).upd i0 (some ⟨false, 79, 2, 1, [.row (n + 5) z1.1.length, .row (n + 6) z1.2.length]⟩)) n [none, none, none, none, none, some (oR 82 10 Zb z1.1), some (oR 3 1 (eI .i64) z1.2)])) (n' := (n + 7)) (Fit2.of (Zq hU rfl rfl ?_) (by omega)) ?_
   ·exact Yq hi0 hk0
   refine Y0 (k := 7) (k' := 3) hU [2, 2, 2, 2, 2, 0, 1] [5, 6, 0] rfl rfl rfl rfl ⟨rfl, rfl⟩ ?_
   exact Yq hi0 hk0
  simp only [push_cast, seval, ↓reduceIte, Zi, Try.results32, hi0, hk0, hN0, hN]
 dsimp only [K3] at hw h
 refine Qz hw ?_
 try simp only [Xs, Yy, ↓reduceIte, Nat.reduceEqDiff]
 refine zDs [0, 3, 6] [false, false, true, false, false, true, true] ?_
 obtain ⟨l20, pl20, ql20, el20, h⟩ := bA (k := 1) rfl h
 refine Zgr Zy (by kernel_rfl) [.plain, .plain, .low, .low, .low, .plain, .pass, .pass, .plain, .plain, .bar] (fun i => i < (n + 7) ∧ ¬ i = n + 5) [0, 1, 2, 3, 4, 5, 6, 7, 8, 9, 10] [.plain, .plain, .low, .low, .low, .plain, .pass, .pass, .plain, .plain, .bar] [] (by kernel_rfl) rfl ?_
 refine zX5 pl20 ql20 el20 hi0 hk0 ?_
 refine zO ?_
 refine Zbp ⟨94, [], [(0, .ref i0 0), (6, (vI z18))]⟩ (Zn (((O.upd j0_0 none).upd j0_1 none).upd i0 (some ⟨false, 79, 2, 1, [.row (n + 5) l20.length, .row (n + 6) z1.2.length]⟩)) n [none, none, none, none, none, some (oR 82 10 Zb l20), some (oR 3 1 (eI .i64) z1.2), none]) (Zq hU rfl rfl ?_) ?_
 ·exact Z0z pl20 ql20 el20 hi0 hk0
 refine Zh ?_
 obtain ⟨x23, hx23, ax23, bx23, cx23, h⟩ := bE (f := (eI .i64)) Ziw (fun _ => rfl) (by decide) h
 have gu24 : Ko (fl (eI .i64) z1.2) [.val (.int .i64 (l20.length : Int))] (Int.toNat z18 * 1) = some (fl (eI .i64) (Zbj z1.2 z18 (l20.length : Int))) := Zhp (f := (eI .i64)) (ti := ⟨.bool, 1, 0, [], false⟩) (x := (l20.length : Int)) (fun _ => rfl) (Zdr hx23)
 refine Zti Zy (by kernel_rfl) [false, false, false, false, false, false, false, false, false, false, false, true] [] (by kernel_rfl) ?_
 refine zF6 ax23 bx23 cx23 gu24 hi0 hk0 ?_
 refine zD [0] [false, false, false, false, false, true, true, false] ?_
 refine X5 [4, 5] hi0 hk0 ?_
 refine zW ?_
 obtain rfl := sI h
 refine Xr (k := 2) (i := i0) (q1 := ⟨false, 79, 2, 1, [.row n l20.length, .row (n + 1) (Zbj z1.2 z18 (l20.length : Int)).length]⟩) (L3 := [some (oR 82 10 Zb l20), some (oR 3 1 (eI .i64) (Zbj z1.2 z18 (l20.length : Int))), none]) (E2 := (⟨94, [], [(4, (vI (IntKind.i64.wrap ((l20.length : Int) - 1)))), (5, (vI 0))]⟩ : Env)) (n3 := (n + 3)) (.inr rfl) hU rfl [(vI (IntKind.i64.wrap ((l20.length : Int) - 1))), (vI 0)] ?_ ?_
 ·refine Fit2.trans (E' := (⟨94, [], [(4, (vI (IntKind.i64.wrap ((l20.length : Int) - 1)))), (5, (vI 0))]⟩ : Env)) (O' := (Zn (((O.upd j0_0 none).upd j0_1 none).upd i0 (some ⟨false, 79, 2, 1, [.row (n + 5) l20.length, .row (n + 6) (Zbj z1.2 z18 (l20.length : Int)).length]⟩)) n [none, none, none, none, none, some (oR 82 10 Zb l20), some (oR 3 1 (eI .i64) (Zbj z1.2 z18 (l20.length : Int))), none])) (n' := (n + 8)) (Fit2.of (Zq hU rfl rfl ?_) (by omega)) ?_
  ·exact Yq hi0 hk0
  refine Y0 (k := 8) (k' := 3) hU [2, 2, 2, 2, 2, 0, 1, 2] [5, 6, 0] rfl rfl rfl rfl ⟨rfl, rfl⟩ ?_
  exact Yq hi0 hk0
 simp only [push_cast, seval, ↓reduceIte, Zi, Try.results32, hi0, hk0, hN0, hN]
theorem Zcf {a1 : Za} {r : (Int × Int)} {O : Objs} {n : Nat} (h : Qu a1 = some r) : GTo Try.prog 15 [.val (.pointer none), .agg (Zc a1)] O n (.tup [(vI r.1), (vI r.2)]) O n := by
 unfold Qu at h
 refine zFn Try.call15 Try.func15 fun hU hN0 hN => ?_
 show W _ _ _ _ ⟨25, [], [(0, .val (.pointer none)), (1, .agg (Zc a1))]⟩ (Zn O n []) _
 refine zQ [0, 3] ?_
 refine Zh ?_
 refine zQ [0, 3, 9] ?_
 refine Zo (t := true) rfl (fun _ => ?_) (fun hc => by cases hc)
 refine zQ [4, 5] ?_
 exact Yi [(vI 0), (vI 1)]
theorem U5 {a1 : Za} {r : ((List Int) × Int)} {O : Objs} {n : Nat} (h : Yo a1 = some r) : GTo Try.prog 21 [.val (.pointer none), .agg (Zc a1)] O n (.tup [(sL (eI .i64) r.1), (vI r.2)]) O n := by
 unfold Yo at h
 refine zFn Try.call21 Try.func21 fun hU hN0 hN => ?_
 show W _ _ _ _ ⟨73, [], [(0, .val (.pointer none)), (1, .agg (Zc a1))]⟩ (Zn O n []) _
 refine zQ [0, 3] ?_
 refine Zh ?_
 refine Zh ?_
 obtain ⟨y2, hy2, h⟩ := bC h
 refine zRo [some true, some true, some true] ?_
 refine zTs (Qe hy2) ?_
 refine zD [0, 3, 22] [true] ?_
 refine Zo (t := (decide (0 < y2))) rfl (fun c18 => ?_) (fun c18 => ?_)
 ·replace h := Zu c18 h
  refine zQ [4, 5] ?_
  exact Yi [nV, (vI 1)]
 replace h := Zt c18 h
 refine K4 [0, 3] [true] ?_
 refine zQ [0, 3, 6] ?_
 refine Zh ?_
 refine Zh ?_
 obtain ⟨y4, hy4, h⟩ := bC h
 refine zCd (Qe hy4) [0, 3, 6, 24, 25] [true] ?_
 refine zD [0, 3, 6, 24, 25] [true] ?_
 refine Zbv (E' := (⟨73, [], [(0, .val (.pointer none)), (3, .ref n 0), (6, .row (n + 1) ([] : List Zd).length), (24, (vI y4)), (25, (vI 0))]⟩ : Env)) (O' := (Zn O n [some ⟨false, 35, 9, 1, (Zc a1)⟩, some (oR 82 10 Zb ([] : List Zd)), none])) (n' := (n + 3)) ?_ ?_
 ·refine Fit2.trans (E' := (⟨73, [], [(0, .val (.pointer none)), (3, .ref n 0), (6, nV), (24, (vI y4)), (25, (vI 0))]⟩ : Env)) (O' := (Zn O n [some ⟨false, 35, 9, 1, (Zc a1)⟩])) (n' := (n + 1)) (Fit2.of (X7 hU rfl rfl ?_) (by omega)) ?_
  ·exact zSe
  refine Fit2.trans (Zel 6 82 10 rfl (by omega)) ?_
  simp only [Qy, X9, Zaq, G8, List.set_cons_zero, List.set_cons_succ, List.cons_append, List.nil_append, List.length_cons, List.length_nil, Nat.zero_add, Nat.reduceAdd, Nat.reduceLT, Nat.add_assoc]
  refine Fit2.trans (E' := (⟨73, [], [(0, .val (.pointer none)), (3, .ref n 0), (6, .row (n + 1) ([] : List Zd).length), (24, (vI y4)), (25, (vI 0))]⟩ : Env)) (O' := (Zn O n [some ⟨false, 35, 9, 1, (Zc a1)⟩, some (oR 82 10 Zb ([] : List Zd))])) (n' := (n + 2)) (Fit2.of (X7 hU rfl rfl ?_) (by omega)) ?_
  ·exact zSe
  refine Zoq (k := 2) (k' := 3) hU [0, 1] [0, 1, 0] rfl rfl rfl rfl ⟨rfl, rfl⟩ ?_
  exact zSe
 obtain ⟨z13, hz13, h⟩ := bC h
 refine Zcs (J := (K3 (fun z13 => JR n (⟨73, [], [(4, nV), (5, (vI z13))]⟩ : Env) (Zn O n [none]) (n + 1)) (fun z13 => JX 0 n (⟨73, [], [(0, .val (.pointer none)), (6, .row (n + 1) z13.length)]⟩ : Env) (Zn O n [none, some (oR 82 10 Zb z13), none]) (n + 3)))) (z := z13) ?_ fun hw => ?_
 ·refine Jy hz13 (fun s0_ => ⟨73, [], [(0, .val (.pointer none)), (3, .ref n 0), (6, .row (n + 1) s0_.2.length), (24, (vI y4)), (25, (vI s0_.1))]⟩) (fun s0_ => (Zn O n [some ⟨false, 35, 9, 1, (Zc a1)⟩, some (oR 82 10 Zb s0_.2), none])) (K3 (fun z13 => JR n (⟨73, [], [(4, nV), (5, (vI z13))]⟩ : Env) (Zn O n [none]) (n + 1)) (fun z13 => JX 0 n (⟨73, [], [(0, .val (.pointer none)), (6, .row (n + 1) z13.length)]⟩ : Env) (Zn O n [none, some (oR 82 10 Zb z13), none]) (n + 3))) ?_
  intro s0_ x0_ hs0_
  unfold Jh at hs0_
  try dsimp only
  refine zQ [0, 3, 6, 24, 25, 26] ?_
  refine Zh ?_
  refine Zo (t := (decide (s0_.1 < y4))) rfl (fun c12 => ?_) (fun c12 => ?_)
  ·replace hs0_ := Zu c12 hs0_
   refine K4 [0, 3, 6, 24, 25] [true, true, false] ?_
   refine Zh ?_
   refine X6 ?_
   refine zQ [0, 3, 6, 7, 24, 25] ?_
   refine Zh ?_
   obtain ⟨y6, hy6, hs0_⟩ := bC hs0_
   refine zCd (Qo hy6) [0, 3, 6, 8, 9, 24, 25] [true, true, false, true] ?_
   refine Zh ?_
   refine zQ [0, 3, 6, 8, 9, 24, 25, 35] ?_
   refine Zo (t := (y6.2 != 0)) rfl (fun c11 => ?_) (fun c11 => ?_)
   ·replace hs0_ := Zu c11 hs0_
    refine zQ [4, 5] ?_
    refine zW ?_
    exact zEy hs0_
   replace hs0_ := Zt c11 hs0_
   refine K4 [0, 3, 6, 8, 24, 25] [true, true, false, true] ?_
   refine Zh ?_
   obtain ⟨y8, hy8, hs0_⟩ := bC hs0_
   refine zCd (Zfb hy8) [0, 3, 6, 8, 9, 10, 24, 25] [true, true, false, true] ?_
   refine Zh ?_
   refine zQ [0, 3, 6, 8, 9, 10, 24, 25, 43] ?_
   refine Zo (t := (y8.2 != 0)) rfl (fun c10 => ?_) (fun c10 => ?_)
   ·replace hs0_ := Zu c10 hs0_
    refine zQ [4, 5] ?_
    refine zW ?_
    exact zEy hs0_
   replace hs0_ := Zt c10 hs0_
   refine K4 [0, 3, 6, 8, 10, 24, 25] [true, true, false, true] ?_
   obtain ⟨l9, pl9, ql9, el9, hs0_⟩ := bA (k := 1) rfl hs0_
   refine Zro [] pl9 ql9 el9 ?_
   refine Zbp ⟨73, [], [(0, .val (.pointer none)), (3, .ref n 0), (6, .row (n + 1) l9.length), (24, (vI y4)), (25, (vI s0_.1))]⟩ (Zn O n [some ⟨false, 35, 9, 1, (Zc a1)⟩, some (oR 82 10 Zb l9), none, none, none]) (X7 hU rfl rfl ?_) ?_
   ·exact Z0y pl9 ql9 el9
   refine zR ?_
   exact zEn hs0_
  replace hs0_ := Zt c12 hs0_
  exact zEx hs0_
 rcases z13 with z13 | z13
 ·dsimp only [K3] at hw h
  refine Ut hw ?_
  try simp only [Xs, Yy, ↓reduceIte, Nat.reduceEqDiff]
  exact Zza [nV, (vI z13)]
 dsimp only [K3] at hw h
 refine Qz hw ?_
 try simp only [Xs, Yy, ↓reduceIte, Nat.reduceEqDiff]
 refine zD [0, 6] [false, true, false] ?_
 refine zQ [0, 6, 11] ?_
 refine Zh ?_
 refine zQd [0, 11, 52, 53, 54] [0, 11, 52, 53, 54] [false, true, false] ?_
 obtain ⟨z17, hz17, h⟩ := bC h
 refine Qz (E' := ⟨73, [], [(11, nV)]⟩) (O' := (Zn O n [none, none, none])) (n0 := (n + 3)) ?_ ?_
 ·refine Jy hz17 (fun s1_ => ⟨73, [], [(0, .val (.pointer none)), (11, nV), (52, .row (n + 1) z13.length), (53, (vI (z13.length : Int))), (54, (vI 0))]⟩) (fun s1_ => (Zn O n [none, some (oR 82 10 Zb z13), none])) (fun z17 => JX 2 n (⟨73, [], [(11, nV)]⟩ : Env) (Zn O n [none, none, none]) (n + 3)) ?_
  intro s1_ x1_ hs1_
  unfold Ji at hs1_
  try dsimp only
  refine zQ [0, 11, 52, 53, 54, 55] ?_
  refine Zh ?_
  refine Zo (t := (decide (0 < (z13.length : Int)))) rfl (fun c16 => ?_) (fun c16 => ?_)
  ·replace hs1_ := Zu c16 hs1_
   refine K4 [0, 11, 52, 53, 54] [false, true, false] ?_
   refine Zh ?_
   refine X6 ?_
   refine Zh ?_
   obtain ⟨x15, hx15, ax15, bx15, cx15, hs1_⟩ := bE (f := Zb) Zlb (fun _ => rfl) (by decide) hs1_
   refine Z2l [] ax15 bx15 cx15 ?_
   refine zDs [0, 11, 13, 52, 53, 54] [false, true, false, true] ?_
   cases hs1_
  replace hs1_ := Zt c16 hs1_
  exact zEx hs1_
 try simp only [Xs, Yy, ↓reduceIte, Nat.reduceEqDiff]
 refine zD [11] [false, false, false] ?_
 refine zQ [4, 5] ?_
 exact Yi [nV, (vI 0)]
theorem V5 {a0 : (Option Zj)} {r : Int} {O : Objs} {n : Nat} (h : Q6 a0 = some r) : GTo Try.prog 18 [(gP Zm a0)] O n ((vI r)) O n := by
 unfold Q6 at h
 refine zFn Try.call18 Try.func18 fun hU hN0 hN => ?_
 show W _ _ _ _ ⟨10, [], [(0, (gP Zm a0))]⟩ (Zn O n []) _
 refine zQ [0] ?_
 refine Zh ?_
 have g2 := Zif (f := Zm) (t := 46) Zi9 a0
 refine Z2k [0, 4] g2 ?_
 refine Zo (t := (Option.isNone a0)) rfl (fun c5 => ?_) (fun c5 => ?_)
 ·replace h := Zu c5 h
  refine zQ [2] ?_
  exact Yi [(vI 0)]
 replace h := Zt c5 h
 refine K4 [0] [] ?_
 obtain ⟨x4, hx4, h⟩ := bC h
 refine G9 [2] (Zx Zy [] ?_)
 simp only [push_cast, seval, ↓reduceIte, Zi, hx4, hN0, hN]
 exact Yi [(vI (x4.classes.length : Int))]
end Go.Proofs.Ytgffgbdnbjbmoaa
