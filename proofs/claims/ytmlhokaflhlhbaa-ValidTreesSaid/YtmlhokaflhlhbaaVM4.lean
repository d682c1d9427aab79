/- Part VM4 of this seat's mirrors: functions of the seat's program, and the plain functions that they are; each theorem bears its own conditions. -/
import Derived.Test.YtmlhokaflhlhbaaVE
import Derived.Test.YtmlhokaflhlhbaaVM3
namespace Go.Proofs.Ytmlhokaflhlhbaa
open Go.RowKit
set_option linter.unusedVariables false
set_option linter.unusedSimpArgs false
set_option maxRecDepth 100000
set_option maxHeartbeats 4000000
attribute [local push_cast] Yg Zz Zn Yh Zp Zi3 Zi2 Zjs Zjr Zi Zf Zfx Zb2 Zb1 onW Yw U1 Ua Zi8 Zh6 Zed Zei Zec Zeh Zgx Zgu Zeg Zgw Zgv Zee Zgs Zcm evS wok Xi Op.operands Call.operands gop onK onP atK List.all_cons List.all_nil Bool.and_true Bool.true_and Bool.and_self Value.oneCell' List.take_zero List.take_succ_cons List.take_nil List.drop_zero List.drop_succ_cons List.drop_nil List.append_nil Nat.add_zero Nat.zero_add J8 Z8 ev Xn Zoq Ziu Zit Ziz Zix Ziy Ziv Ziw Zis Zlf Zl4 Zor Zdb Uf Zc3 Ut Zds Zba Zah Zam Zbx Zbu Zak Zbw Zbv Zaj Zbs Zai Zal U8 Zbt Zfz Zb3 Vh Zc4 Vi Zep Zda Zmy bLo bHi bMx Ug Zeo Zpy Zc9 Ze6 Zad Ki Zlu Zp2 Zc1 Zp6 Ue Zq6 Zf4 Zf8 Zf3 Zf7 Zje Zjb Zi9 Zdw Zf5 Zjd Zjc Zf6 Zja Zeq Zi4 Zgl Zch Zcg pop TK.isAgg Zjl Zjp Zjk Zjo Zgf Znf Znc Zjn Zne Znd Zjm Znb G.under G.unders List.getD_cons_zero List.getD_cons_succ List.set_cons_zero List.set_cons_succ List.map_cons List.map_nil List.toList_toArray Array.toList_append Option.toArray_none Option.toArray_some Array.toList_map Option.map_some Option.map_none Option.bind_some Option.bind_none List.getElem?_cons_zero List.getElem?_cons_succ List.getElem?_nil List.nil_append List.cons_append List.replicate_succ List.replicate_zero List.length_cons List.length_nil and_true true_and and_false false_and Bool.true_eq_false Bool.false_eq_true forall_const false_implies implies_true IntKind.bits if_true if_false ite_true ite_false eq_self true_implies false_or or_false or_true true_or not_true_eq_false not_false_eq_true decide_true decide_false decide_eq_true_eq decide_eq_false_iff_not beq_iff_eq bne_iff_ne ne_eq Bool.not_eq_true Bool.not_eq_false beq_eq_false_iff_ne bne_eq_false_iff_eq beq_self_eq_true bne_self_eq_false Option.some.injEq exists_eq_left' exists_eq_left ge_iff_le gt_iff_lt decide_not Bool.not_true Bool.not_false imp_self Zm0 cond_true cond_false Zvz Zvy Bool.not_not Bool.and_false Bool.false_and Bool.or_true Bool.true_or Bool.or_false Bool.false_or V9 Zem Zc0 Zbq Zae Uz Option.join_some Nat.add_assoc Int.toNat_natCast eI eB eS eL Zby Zbk Zas Zi7 Zi5 Zi6 Zrk Ztn Zbm Zaz Zjz Zjx Zjy Zoz Zfw Zmr Zgq Zmq Gu Zle List.length_append G.agg.injEq G.row.injEq G.ref.injEq G.val.injEq G.sl.injEq G.tup.injEq Value.int.injEq Value.bool.injEq Value.string.injEq List.cons.injEq exists_and_left exists_const List.flatten_cons List.flatten_nil Int.le_refl Nat.le_refl Zhg Kh Zfr Bool.not_eq_true' Bool.not_eq_false' Zla Zcs Zoj Zon Zoi Zom Zsy Zsu List.size_toArray Zj1 Zj2 G.ren G.rens Zl6 Zbc Zj5 Zip Ziq Zgt Zoo Zcb G.fn.injEq Zej Zhj Zk8 Zsv Zhi Zol Zsx Zsw Zok Zm6 Zrf Option.join_none Xh Vg undef Ze7 Arr.len Arr.put_eq Zbl Zd1 Zcc Zay Zjw Zju Zjv onB Zrj Zls Zgr Zfh Zfi Zfj Zfk Zfl Zfm Zdz Zd5 Zd3 Zcf Za0 Zd4 Zgk Zgj Zgi Zgh Ztm Zvc Zoy Znh Qw Zot Zjf Zd7 Zce Zqd Zj7 Zc8 Ze5 Gj Zd8 Zfn Zfo Zfp Zfq Zdg Zdh Zdi Zdj Zdk Zdl Zdm Zan prT Gc Zw4 Zn6 Zvn Zn7 Zw5 Zn8 Zw6 Zn9 Zw7 Zoa Zw8 Zob Zw9 Zoc Zxa Zod Zrv Zj8 Zrw Zj9 Zrx Zka Zry Zkb Zrz Zkc Zr0 Zkd Zr1 Zke Zr2 Zkf Zr3 Zkg Zr4 Zkh Zr5 Zki Zr6 Zkj Zr7 Zkk Zr8 Zhu Zr9 Zkl Zsa Zkm Zsb Zkn Gp Zko Zsc Zkp Zsd Zkq Gs Zc7 Zse Zkr Zsf Zks Zsg Zkt Zsh Zku Zl3 Zkv Zsi Zkw Zsj Zkx Zsk Zky Zsl Zkz Zsm Zk0 Zsn Zk1 Zso Zk2 Zsp Zk3 Zsq Zk4 Zsr Zk5 Zss Zk6 Znp Zgz Znq Zg0 Znr Zg1 Zns Zg2 Znt Zg3 Znu Zg4 Znv Zg5 Znw Zg6 Znx Zg7 Zny Zg8 Znz Zg9 Zn0 Zha Zn1 Zhb Zn2 Zhc Zn3 Zhd Zn4 Zhe Zn5 Zhf Zcu Zcr Zb6 Zca Zcx Za9 Za6 Za4 Zco Up Uo Uh Ul Uq V2 V1 V0 Un Zk Jk Jj Jd Jh Jl Q2 Q1 Q0 Ji Zap Zct Zcq Zb5 Zb9 Zcw Za8 Za5 Za3 Zcn Zao Vu Jv Jw X3 Z3 Ql Qk Qh Qi Qm Qa X8 X7 Qj Zw Jo Vc Vb K0 K6 Vd Ks Kq Kp K9
theorem Zd0 {Ya : (Ze → Zd → Int → Option (Int × Ze))} {Z9 : (Ze → Zd → Int → Option (Int × Ze))} {Yc : (Ze → Zd → Int → Option (Int × Ze))} (Kx : ∀ {a0 : Ze} {a1 : Zd} {a2 : Int} {r : (Int × Ze)} {O : Objs} {n : Nat} {i0 : Nat}, i0 < n → O i0 = some ⟨false, 107, 1, 1, [.val (.int .i64 a0.left)]⟩ → Ya a0 a1 a2 = some r → GTo Try.prog 62 [.ref i0 0, .agg (Zp a1), .val (.int .i64 a2)] O n (.val (.int .i64 r.1)) (Z4 (O.upd i0 (some ⟨false, 107, 1, 1, [.val (.int .i64 r.2.left)]⟩)) n []) (n + 0)) (Q7 : ∀ {a0 : Ze} {a1 : Zd} {a2 : Int} {r : (Int × Ze)} {O : Objs} {n : Nat} {i0 : Nat}, i0 < n → O i0 = some ⟨false, 107, 1, 1, [.val (.int .i64 a0.left)]⟩ → Z9 a0 a1 a2 = some r → GTo Try.prog 85 [.ref i0 0, .agg (Zp a1), .val (.int .i64 a2)] O n (.val (.int .i64 r.1)) (Z4 (O.upd i0 (some ⟨false, 107, 1, 1, [.val (.int .i64 r.2.left)]⟩)) n []) (n + 0)) (J4 : ∀ {a0 : Ze} {a1 : Zd} {a2 : Int} {r : (Int × Ze)} {O : Objs} {n : Nat} {i0 : Nat}, i0 < n → O i0 = some ⟨false, 107, 1, 1, [.val (.int .i64 a0.left)]⟩ → Yc a0 a1 a2 = some r → GTo Try.prog 86 [.ref i0 0, .agg (Zp a1), .val (.int .i64 a2)] O n (.val (.int .i64 r.1)) (Z4 (O.upd i0 (some ⟨false, 107, 1, 1, [.val (.int .i64 r.2.left)]⟩)) n []) (n + 0)) {a0 : Ze} {a1 : Zd} {a2 : Int} {r : (Int × Ze)} {O : Objs} {n : Nat} {i0 : Nat} (hi0 : i0 < n) (ho0 : O i0 = some ⟨false, 107, 1, 1, [.val (.int .i64 a0.left)]⟩) (h : Xm Ya Z9 Yc a0 a1 a2 = some r) : GTo Try.prog 62 [.ref i0 0, .agg (Zp a1), .val (.int .i64 a2)] O n (.val (.int .i64 r.1)) (Z4 (O.upd i0 (some ⟨false, 107, 1, 1, [.val (.int .i64 r.2.left)]⟩)) n []) (n + 0) := by
 unfold Xm at h
 refine Yn Zc Try.call62 Try.func62 rfl (Nat.le_of_ble_eq_true rfl) (by omega) fun hU => ?_
 rw [show Z4 O n [] = Z4 (O.upd i0 (some ⟨false, 107, 1, 1, [.val (.int .i64 a0.left)]⟩)) n [] from by rw [Zoh (show O i0 = _ from by exact ho0)]]
 have hk0 : ∀ k, i0 < n + k := fun k => by omega
 have hN0 : ∀ o, Objs.upd O i0 o n = none := fun o => Zbp hU hi0 _ (Nat.le_refl _)
 have hN : ∀ o k, Objs.upd O i0 o (n + k) = none := fun o k => Zbp hU hi0 _ (Nat.le_add_right _ _)
 show W _ _ _ _ ⟨46, [], [(0, .ref i0 0), (1, .agg (Zp a1)), (2, .val (.int .i64 a2))]⟩ (Z4 (O.upd i0 (some ⟨false, 107, 1, 1, [.val (.int .i64 a0.left)]⟩)) n []) _
 refine Zq [0, 2, 4] (Zb Zc [] ?_)
 simp only [push_cast, seval, ↓reduceIte, Za, hi0, hk0, hN0, hN]
 refine Zh ?_
 obtain ⟨z3, hz3, h⟩ := bC h
 refine Qn (E' := ⟨46, [], [(0, .ref i0 0), (2, .val (.int .i64 a2)), (4, .ref n 0), (19, .val (.bool z3))]⟩) (O' := (Z4 (O.upd i0 (some ⟨false, 107, 1, 1, [.val (.int .i64 a0.left)]⟩)) n [some ⟨false, 27, 9, 1, (Zp a1)⟩])) (n0 := (n + 1)) ?_ ?_
 ·obtain ⟨y6, hy6, hz3⟩ := bC hz3
  rcases Bool.eq_false_or_eq_true (decide (a2 < y6)) with c8 | c8
  ·replace hz3 := Zv c8 hz3
   refine Xd Zc (by kernel_rfl) [some false, some false, some false, some false, some false, some false, some false] (by kernel_rfl) ?_
   simp only [push_cast, seval, ↓reduceIte, Za, c8, hi0, hk0, hN0, hN]
   refine PCall.of (Ze8 hy6) ?_
   simp only [push_cast, seval, ↓reduceIte, Za, c8, hi0, hk0, hN0, hN]
   have hz3 := Option.some.inj hz3; subst hz3
   refine And.intro rfl (Fit2.of (Xv hU rfl rfl ?_) (by omega))
   simp only [push_cast, seval, ↓reduceIte, Za, c8, hi0, hk0, hN0, hN]
  replace hz3 := Zu c8 hz3
  obtain ⟨y7, hy7, hz3⟩ := bC hz3
  refine Xd Zc (by kernel_rfl) [some true, some true, some true, some true, some true, some true, some true] (by kernel_rfl) ?_
  simp only [push_cast, seval, ↓reduceIte, Za, c8, hi0, hk0, hN0, hN]
  refine PCall.of (Ze8 hy6) ?_
  simp only [push_cast, seval, ↓reduceIte, Za, c8, hi0, hk0, hN0, hN]
  refine PCall.of (Ze9 hy7) ?_
  simp only [push_cast, seval, ↓reduceIte, Za, c8, hi0, hk0, hN0, hN]
  have hz3 := Option.some.inj hz3; subst hz3
  refine And.intro rfl (Fit2.of (Xv hU rfl rfl ?_) (by omega))
  simp only [push_cast, seval, ↓reduceIte, Za, c8, hi0, hk0, hN0, hN]
 refine Zr (t := z3) rfl (fun c21 => ?_) (fun c21 => ?_)
 ·replace h := Zv c21 h
  refine Zq [6] (Zb Zc [] ?_)
  simp only [push_cast, seval, ↓reduceIte, Za, hi0, hk0, hN0, hN]
  refine Zt ?_
  try simp only [Zi, Zf]
  have h := Option.some.inj h; subst h
  refine Zaq (k := 0) (i := i0) (q1 := ⟨false, 107, 1, 1, [.val (.int .i64 a0.left)]⟩) (L3 := [none]) (E2 := (⟨46, [], [(6, .val (.int .i64 3))]⟩ : Env)) (n3 := (n + 1)) (.inr rfl) hU rfl [.val (.int .i64 3)] ?_ ?_
  ·refine Fit2.trans (E' := (⟨46, [], [(6, .val (.int .i64 3))]⟩ : Env)) (O' := (Z4 (O.upd i0 (some ⟨false, 107, 1, 1, [.val (.int .i64 a0.left)]⟩)) n [none])) (n' := (n + 1)) (Fit2.of (Xv hU rfl rfl ?_) (by omega)) ?_
   ·simp only [push_cast, seval, ↓reduceIte, Za, hi0, hk0, hN0, hN]
   refine Za1 (k := 1) (k' := 1) hU [0] [0] rfl rfl rfl rfl ⟨rfl, rfl⟩ ?_
   simp only [push_cast, seval, ↓reduceIte, Za, hi0, hk0, hN0, hN]
  simp only [push_cast, seval, ↓reduceIte, Za, Try.results62, hi0, hk0, hN0, hN]
 replace h := Zu c21 h
 refine Zx ?_
 try simp only [Zi, Zf]
 refine Zg [0, 2, 4] [true] ?_
 simp only [push_cast, seval, ↓reduceIte]
 refine Zh ?_
 obtain ⟨y10, hy10, h⟩ := bC h
 refine Zih Zc (by kernel_rfl) [false, false, false, false, false, false, false, false, false, true] [] (by kernel_rfl) ?_
 simp only [push_cast, seval, ↓reduceIte, Za, hi0, hk0, hN0, hN]
 refine PCall.of (Ze9 hy10) ?_
 simp only [push_cast, seval, ↓reduceIte, Za, hi0, hk0, hN0, hN]
 refine Zg [0, 2, 4] [true] ?_
 simp only [push_cast, seval, ↓reduceIte]
 refine Zh ?_
 refine Zh ?_
 obtain ⟨y12, hy12, h⟩ := bC h
 refine Zb Zc [] ?_
 simp only [push_cast, seval, ↓reduceIte, Za, hi0, hk0, hN0, hN]
 refine (J5 hy12).then ?_
 simp only [push_cast, seval, ↓reduceIte, Za, hi0, hk0, hN0, hN]
 refine Zg [0, 2, 4, 30] [true] ?_
 simp only [push_cast, seval, ↓reduceIte]
 refine Xc ?_
 obtain ⟨z13, hz13, h⟩ := bC h
 refine Qn (E' := ⟨46, [], [(0, .ref i0 0), (2, .val (.int .i64 a2)), (4, .ref n 0), (30, .val (.int .i64 y12)), (31, .val (.bool z13))]⟩) (O' := (Z4 (O.upd i0 (some ⟨false, 107, 1, 1, [.val (.int .i64 (IntKind.i64.wrap (a0.left - y10)))]⟩)) n [some ⟨false, 27, 9, 1, (Zp a1)⟩])) (n0 := (n + 1)) ?_ ?_
 ·refine Zq [0, 2, 4, 30, 31] (Zb Zc [] ?_)
  simp only [push_cast, seval, ↓reduceIte, Za, hi0, hk0, hN0, hN]
  refine Zr (t := (y12 == 1)) rfl (fun c14 => ?_) (fun c14 => ?_)
  ·replace hz13 := Zv c14 hz13
   refine Zx ?_
   try simp only [Zi, Zf]
   have hz13 := Option.some.inj hz13; subst hz13
   refine And.intro rfl (Fit2.of (Xv hU rfl rfl ?_) (by omega))
   simp only [push_cast, seval, ↓reduceIte, Za, hi0, hk0, hN0, hN]
  replace hz13 := Zu c14 hz13
  refine Zb Zc [] ?_
  simp only [push_cast, seval, ↓reduceIte, Za, hi0, hk0, hN0, hN]
  have hz13 := Option.some.inj hz13; subst hz13
  refine And.intro rfl (Fit2.of (Xv hU rfl rfl ?_) (by omega))
  simp only [push_cast, seval, ↓reduceIte, Za, hi0, hk0, hN0, hN]
 refine Zr (t := z13) rfl (fun c20 => ?_) (fun c20 => ?_)
 ·replace h := Zv c20 h
  refine Zh ?_
  obtain ⟨y16, hy16, h⟩ := bC h
  refine Zb Zc [] ?_
  simp only [push_cast, seval, ↓reduceIte, Za, hi0, hk0, hN0, hN]
  refine (Q7 (i0 := i0) (by omega) (by simp only [push_cast, seval, ↓reduceIte, Za, Zby, hi0, hk0, hN0, hN] <;> rfl) hy16).then ?_
  simp only [push_cast, seval, ↓reduceIte, Za, hi0, hk0, hN0, hN]
  refine Zg [6] [false] ?_
  simp only [push_cast, seval, ↓reduceIte]
  refine Zt ?_
  try simp only [Zi, Zf]
  have h := Option.some.inj h; subst h
  refine Zaq (k := 0) (i := i0) (q1 := ⟨false, 107, 1, 1, [.val (.int .i64 y16.2.left)]⟩) (L3 := [none]) (E2 := (⟨46, [], [(6, .val (.int .i64 y16.1))]⟩ : Env)) (n3 := (n + 1)) (.inr rfl) hU rfl [.val (.int .i64 y16.1)] ?_ ?_
  ·refine Fit2.trans (E' := (⟨46, [], [(6, .val (.int .i64 y16.1))]⟩ : Env)) (O' := (Z4 (O.upd i0 (some ⟨false, 107, 1, 1, [.val (.int .i64 y16.2.left)]⟩)) n [none])) (n' := (n + 1)) (Fit2.of (Xv hU rfl rfl ?_) (by omega)) ?_
   ·simp only [push_cast, seval, ↓reduceIte, Za, hi0, hk0, hN0, hN]
   refine Za1 (k := 1) (k' := 1) hU [0] [0] rfl rfl rfl rfl ⟨rfl, rfl⟩ ?_
   simp only [push_cast, seval, ↓reduceIte, Za, hi0, hk0, hN0, hN]
  simp only [push_cast, seval, ↓reduceIte, Za, Try.results62, hi0, hk0, hN0, hN]
 replace h := Zu c20 h
 refine Zq [0, 2, 4, 39] (Zb Zc [] ?_)
 simp only [push_cast, seval, ↓reduceIte, Za, hi0, hk0, hN0, hN]
 refine Zr (t := (y12 == 9)) rfl (fun c19 => ?_) (fun c19 => ?_)
 ·replace h := Zv c19 h
  refine Zh ?_
  obtain ⟨y18, hy18, h⟩ := bC h
  refine Zb Zc [] ?_
  simp only [push_cast, seval, ↓reduceIte, Za, hi0, hk0, hN0, hN]
  refine (J4 (i0 := i0) (by omega) (by simp only [push_cast, seval, ↓reduceIte, Za, Zby, hi0, hk0, hN0, hN] <;> rfl) hy18).then ?_
  simp only [push_cast, seval, ↓reduceIte, Za, hi0, hk0, hN0, hN]
  refine Zg [6] [false] ?_
  simp only [push_cast, seval, ↓reduceIte]
  refine Zt ?_
  try simp only [Zi, Zf]
  have h := Option.some.inj h; subst h
  refine Zaq (k := 0) (i := i0) (q1 := ⟨false, 107, 1, 1, [.val (.int .i64 y18.2.left)]⟩) (L3 := [none]) (E2 := (⟨46, [], [(6, .val (.int .i64 y18.1))]⟩ : Env)) (n3 := (n + 1)) (.inr rfl) hU rfl [.val (.int .i64 y18.1)] ?_ ?_
  ·refine Fit2.trans (E' := (⟨46, [], [(6, .val (.int .i64 y18.1))]⟩ : Env)) (O' := (Z4 (O.upd i0 (some ⟨false, 107, 1, 1, [.val (.int .i64 y18.2.left)]⟩)) n [none])) (n' := (n + 1)) (Fit2.of (Xv hU rfl rfl ?_) (by omega)) ?_
   ·simp only [push_cast, seval, ↓reduceIte, Za, hi0, hk0, hN0, hN]
   refine Za1 (k := 1) (k' := 1) hU [0] [0] rfl rfl rfl rfl ⟨rfl, rfl⟩ ?_
   simp only [push_cast, seval, ↓reduceIte, Za, hi0, hk0, hN0, hN]
  simp only [push_cast, seval, ↓reduceIte, Za, Try.results62, hi0, hk0, hN0, hN]
 replace h := Zu c19 h
 refine Zx ?_
 try simp only [Zi, Zf]
 refine Zg [] [false] ?_
 simp only [push_cast, seval, ↓reduceIte]
 refine Zq [6] (Zb Zc [] ?_)
 simp only [push_cast, seval, ↓reduceIte, Za, hi0, hk0, hN0, hN]
 refine Zt ?_
 try simp only [Zi, Zf]
 have h := Option.some.inj h; subst h
 refine Zaq (k := 0) (i := i0) (q1 := ⟨false, 107, 1, 1, [.val (.int .i64 (IntKind.i64.wrap (a0.left - y10)))]⟩) (L3 := [none]) (E2 := (⟨46, [], [(6, .val (.int .i64 0))]⟩ : Env)) (n3 := (n + 1)) (.inr rfl) hU rfl [.val (.int .i64 0)] ?_ ?_
 ·refine Fit2.trans (E' := (⟨46, [], [(6, .val (.int .i64 0))]⟩ : Env)) (O' := (Z4 (O.upd i0 (some ⟨false, 107, 1, 1, [.val (.int .i64 (IntKind.i64.wrap (a0.left - y10)))]⟩)) n [none])) (n' := (n + 1)) (Fit2.of (Xv hU rfl rfl ?_) (by omega)) ?_
  ·simp only [push_cast, seval, ↓reduceIte, Za, hi0, hk0, hN0, hN]
  refine Za1 (k := 1) (k' := 1) hU [0] [0] rfl rfl rfl rfl ⟨rfl, rfl⟩ ?_
  simp only [push_cast, seval, ↓reduceIte, Za, hi0, hk0, hN0, hN]
 simp only [push_cast, seval, ↓reduceIte, Za, Try.results62, hi0, hk0, hN0, hN]
theorem Zex {Ya : (Ze → Zd → Int → Option (Int × Ze))} {Z9 : (Ze → Zd → Int → Option (Int × Ze))} {Yc : (Ze → Zd → Int → Option (Int × Ze))} (Kx : ∀ {a0 : Ze} {a1 : Zd} {a2 : Int} {r : (Int × Ze)} {O : Objs} {n : Nat} {i0 : Nat}, i0 < n → O i0 = some ⟨false, 107, 1, 1, [.val (.int .i64 a0.left)]⟩ → Ya a0 a1 a2 = some r → GTo Try.prog 62 [.ref i0 0, .agg (Zp a1), .val (.int .i64 a2)] O n (.val (.int .i64 r.1)) (Z4 (O.upd i0 (some ⟨false, 107, 1, 1, [.val (.int .i64 r.2.left)]⟩)) n []) (n + 0)) (Q7 : ∀ {a0 : Ze} {a1 : Zd} {a2 : Int} {r : (Int × Ze)} {O : Objs} {n : Nat} {i0 : Nat}, i0 < n → O i0 = some ⟨false, 107, 1, 1, [.val (.int .i64 a0.left)]⟩ → Z9 a0 a1 a2 = some r → GTo Try.prog 85 [.ref i0 0, .agg (Zp a1), .val (.int .i64 a2)] O n (.val (.int .i64 r.1)) (Z4 (O.upd i0 (some ⟨false, 107, 1, 1, [.val (.int .i64 r.2.left)]⟩)) n []) (n + 0)) (J4 : ∀ {a0 : Ze} {a1 : Zd} {a2 : Int} {r : (Int × Ze)} {O : Objs} {n : Nat} {i0 : Nat}, i0 < n → O i0 = some ⟨false, 107, 1, 1, [.val (.int .i64 a0.left)]⟩ → Yc a0 a1 a2 = some r → GTo Try.prog 86 [.ref i0 0, .agg (Zp a1), .val (.int .i64 a2)] O n (.val (.int .i64 r.1)) (Z4 (O.upd i0 (some ⟨false, 107, 1, 1, [.val (.int .i64 r.2.left)]⟩)) n []) (n + 0)) {a0 : Ze} {a1 : Zd} {a2 : Int} {r : (Int × Ze)} {O : Objs} {n : Nat} {i0 : Nat} (hi0 : i0 < n) (ho0 : O i0 = some ⟨false, 107, 1, 1, [.val (.int .i64 a0.left)]⟩) (h : Xt Ya Z9 Yc a0 a1 a2 = some r) : GTo Try.prog 85 [.ref i0 0, .agg (Zp a1), .val (.int .i64 a2)] O n (.val (.int .i64 r.1)) (Z4 (O.upd i0 (some ⟨false, 107, 1, 1, [.val (.int .i64 r.2.left)]⟩)) n []) (n + 0) := by
 unfold Xt at h
 refine Yn Zc Try.call85 Try.func85 rfl (Nat.le_of_ble_eq_true rfl) (by omega) fun hU => ?_
 rw [show Z4 O n [] = Z4 (O.upd i0 (some ⟨false, 107, 1, 1, [.val (.int .i64 a0.left)]⟩)) n [] from by rw [Zoh (show O i0 = _ from by exact ho0)]]
 have hk0 : ∀ k, i0 < n + k := fun k => by omega
 have hN0 : ∀ o, Objs.upd O i0 o n = none := fun o => Zbp hU hi0 _ (Nat.le_refl _)
 have hN : ∀ o k, Objs.upd O i0 o (n + k) = none := fun o k => Zbp hU hi0 _ (Nat.le_add_right _ _)
 show W _ _ _ _ ⟨33, [], [(0, .ref i0 0), (1, .agg (Zp a1)), (2, .val (.int .i64 a2))]⟩ (Z4 (O.upd i0 (some ⟨false, 107, 1, 1, [.val (.int .i64 a0.left)]⟩)) n []) _
 refine Zq [0, 2, 4] (Zb Zc [] ?_)
 simp only [push_cast, seval, ↓reduceIte, Za, hi0, hk0, hN0, hN]
 refine Zh ?_
 refine Zh ?_
 obtain ⟨y2, hy2, h⟩ := bC h
 refine Zb Zc [] ?_
 simp only [push_cast, seval, ↓reduceIte, Za, hi0, hk0, hN0, hN]
 refine (Xq hy2).then ?_
 simp only [push_cast, seval, ↓reduceIte, Za, hi0, hk0, hN0, hN]
 refine Zg [0, 2, 4, 12, 13] [true] ?_
 simp only [push_cast, seval, ↓reduceIte]
 refine Zg [0, 2, 4, 12, 13] [true] ?_
 simp only [push_cast, seval, ↓reduceIte]
 obtain ⟨z10, hz10, h⟩ := bC h
 refine Zmi (J := (Zaf (fun z10 => JR n (⟨33, [], [(6, .val (.int .i64 z10.1))]⟩ : Env) (Z4 (O.upd i0 (some ⟨false, 107, 1, 1, [.val (.int .i64 z10.2)]⟩)) n [none]) (n + 1)) (fun z10 => JX 0 n (⟨33, [], []⟩ : Env) (Z4 (O.upd i0 (some ⟨false, 107, 1, 1, [.val (.int .i64 z10)]⟩)) n [none]) (n + 1)))) (z := z10) ?_ fun hw => ?_
 ·refine V4 hz10 (fun s0_ => ⟨33, [], [(0, .ref i0 0), (2, .val (.int .i64 a2)), (4, .ref n 0), (12, .val (.int .i64 y2)), (13, .val (.int .i64 s0_.1))]⟩) (fun s0_ => (Z4 (O.upd i0 (some ⟨false, 107, 1, 1, [.val (.int .i64 s0_.2)]⟩)) n [some ⟨false, 27, 9, 1, (Zp a1)⟩])) (Zaf (fun z10 => JR n (⟨33, [], [(6, .val (.int .i64 z10.1))]⟩ : Env) (Z4 (O.upd i0 (some ⟨false, 107, 1, 1, [.val (.int .i64 z10.2)]⟩)) n [none]) (n + 1)) (fun z10 => JX 0 n (⟨33, [], []⟩ : Env) (Z4 (O.upd i0 (some ⟨false, 107, 1, 1, [.val (.int .i64 z10)]⟩)) n [none]) (n + 1))) ?_
  intro s0_ x0_ hs0_
  unfold Xu at hs0_
  try dsimp only
  refine Zq [0, 2, 4, 12, 13, 14] (Zb Zc [] ?_)
  simp only [push_cast, seval, ↓reduceIte, Za, hi0, hk0, hN0, hN]
  refine Zh ?_
  refine Zr (t := (decide (s0_.1 < y2))) rfl (fun c9 => ?_) (fun c9 => ?_)
  ·replace hs0_ := Zv c9 hs0_
   refine Zx ?_
   try simp only [Zi, Zf]
   refine Zg [0, 2, 4, 12, 13] [true] ?_
   simp only [push_cast, seval, ↓reduceIte]
   refine Zh ?_
   refine Xc ?_
   refine Zq [0, 2, 4, 7, 12, 13] (Zb Zc [] ?_)
   simp only [push_cast, seval, ↓reduceIte, Za, hi0, hk0, hN0, hN]
   refine Zh ?_
   obtain ⟨y4, hy4, hs0_⟩ := bC hs0_
   refine Zb Zc [] ?_
   simp only [push_cast, seval, ↓reduceIte, Za, hi0, hk0, hN0, hN]
   refine (Zc5 hy4).then ?_
   simp only [push_cast, seval, ↓reduceIte, Za, hi0, hk0, hN0, hN]
   refine Zg [0, 2, 4, 8, 9, 12, 13] [true, true] ?_
   simp only [push_cast, seval, ↓reduceIte]
   refine Zh ?_
   refine Zq [0, 2, 4, 8, 9, 12, 13, 23] (Zb Zc [] ?_)
   simp only [push_cast, seval, ↓reduceIte, Za, hi0, hk0, hN0, hN]
   refine Zr (t := (y4.2 != 0)) rfl (fun c8 => ?_) (fun c8 => ?_)
   ·replace hs0_ := Zv c8 hs0_
    refine Zq [6] (Zb Zc [] ?_)
    simp only [push_cast, seval, ↓reduceIte, Za, hi0, hk0, hN0, hN]
    refine Zt ?_
    try simp only [Zi, Zf]
    have hs0_ := Option.some.inj hs0_; subst hs0_
    refine And.intro (fun h => by cases h) (And.intro rfl (Fit2.of (Xv hU rfl rfl ?_) (by omega)))
    simp only [push_cast, seval, ↓reduceIte, Za, hi0, hk0, hN0, hN]
   replace hs0_ := Zu c8 hs0_
   refine Zx ?_
   try simp only [Zi, Zf]
   refine Zg [0, 2, 4, 8, 12, 13] [true, true] ?_
   simp only [push_cast, seval, ↓reduceIte]
   refine Zh ?_
   obtain ⟨y6, hy6, hs0_⟩ := bC hs0_
   refine Zb Zc [] ?_
   simp only [push_cast, seval, ↓reduceIte, Za, hi0, hk0, hN0, hN]
   refine (Kx (i0 := i0) (by omega) (by simp only [push_cast, seval, ↓reduceIte, Za, Zby, hi0, hk0, hN0, hN] <;> rfl) hy6).then ?_
   simp only [push_cast, seval, ↓reduceIte, Za, hi0, hk0, hN0, hN]
   refine Zg [0, 2, 4, 10, 12, 13] [true, false] ?_
   simp only [push_cast, seval, ↓reduceIte]
   refine Zq [0, 2, 4, 10, 12, 13, 30] (Zb Zc [] ?_)
   simp only [push_cast, seval, ↓reduceIte, Za, hi0, hk0, hN0, hN]
   refine Zr (t := (y6.1 != 0)) rfl (fun c7 => ?_) (fun c7 => ?_)
   ·replace hs0_ := Zv c7 hs0_
    refine Zq [6] (Zb Zc [] ?_)
    simp only [push_cast, seval, ↓reduceIte, Za, hi0, hk0, hN0, hN]
    refine Zt ?_
    try simp only [Zi, Zf]
    have hs0_ := Option.some.inj hs0_; subst hs0_
    refine And.intro (fun h => by cases h) (And.intro rfl (Fit2.of (Xv hU rfl rfl ?_) (by omega)))
    simp only [push_cast, seval, ↓reduceIte, Za, hi0, hk0, hN0, hN]
   replace hs0_ := Zu c7 hs0_
   refine Zx ?_
   try simp only [Zi, Zf]
   refine Zg [0, 2, 4, 12, 13] [true, false] ?_
   simp only [push_cast, seval, ↓reduceIte]
   refine Zb Zc [] ?_
   simp only [push_cast, seval, ↓reduceIte, Za, hi0, hk0, hN0, hN]
   have hs0_ := Option.some.inj hs0_; subst hs0_
   refine And.intro rfl (Fit2.of (Xv hU rfl rfl ?_) (by omega))
   simp only [push_cast, seval, ↓reduceIte, Za, hi0, hk0, hN0, hN]
  replace hs0_ := Zu c9 hs0_
  refine Gt ?_
  try simp only [Zi, Zf, ↓reduceIte, Nat.reduceEqDiff]
  have hs0_ := Option.some.inj hs0_; subst hs0_
  refine And.intro (fun h => by cases h) (And.intro rfl (Fit2.of (Xv hU rfl rfl ?_) (by omega)))
  simp only [push_cast, seval, ↓reduceIte, Za, hi0, hk0, hN0, hN]
 rcases z10 with z10 | z10
 ·dsimp only [Zaf] at hw h
  refine Zfs hw ?_
  try simp only [Zi, Zf, ↓reduceIte, Nat.reduceEqDiff]
  have h := Option.some.inj h; subst h
  refine Zaq (k := 0) (i := i0) (q1 := ⟨false, 107, 1, 1, [.val (.int .i64 z10.2)]⟩) (L3 := [none]) (E2 := (⟨33, [], [(6, .val (.int .i64 z10.1))]⟩ : Env)) (n3 := (n + 1)) (.inr rfl) hU rfl [.val (.int .i64 z10.1)] ?_ ?_
  ·refine Fit2.trans (E' := (⟨33, [], [(6, .val (.int .i64 z10.1))]⟩ : Env)) (O' := (Z4 (O.upd i0 (some ⟨false, 107, 1, 1, [.val (.int .i64 z10.2)]⟩)) n [none])) (n' := (n + 1)) (Fit2.of (Xv hU rfl rfl ?_) (by omega)) ?_
   ·simp only [push_cast, seval, ↓reduceIte, Za, hi0, hk0, hN0, hN]
   refine Za1 (k := 1) (k' := 1) hU [0] [0] rfl rfl rfl rfl ⟨rfl, rfl⟩ ?_
   simp only [push_cast, seval, ↓reduceIte, Za, hi0, hk0, hN0, hN]
  simp only [push_cast, seval, ↓reduceIte, Za, Try.results85, hi0, hk0, hN0, hN]
 dsimp only [Zaf] at hw h
 refine Kz hw ?_
 try simp only [Zi, Zf, ↓reduceIte, Nat.reduceEqDiff]
 refine Zg [] [false] ?_
 simp only [push_cast, seval, ↓reduceIte]
 refine Zq [6] (Zb Zc [] ?_)
 simp only [push_cast, seval, ↓reduceIte, Za, hi0, hk0, hN0, hN]
 refine Zt ?_
 try simp only [Zi, Zf]
 have h := Option.some.inj h; subst h
 refine Zaq (k := 0) (i := i0) (q1 := ⟨false, 107, 1, 1, [.val (.int .i64 z10)]⟩) (L3 := [none]) (E2 := (⟨33, [], [(6, .val (.int .i64 0))]⟩ : Env)) (n3 := (n + 1)) (.inr rfl) hU rfl [.val (.int .i64 0)] ?_ ?_
 ·refine Fit2.trans (E' := (⟨33, [], [(6, .val (.int .i64 0))]⟩ : Env)) (O' := (Z4 (O.upd i0 (some ⟨false, 107, 1, 1, [.val (.int .i64 z10)]⟩)) n [none])) (n' := (n + 1)) (Fit2.of (Xv hU rfl rfl ?_) (by omega)) ?_
  ·simp only [push_cast, seval, ↓reduceIte, Za, hi0, hk0, hN0, hN]
  refine Za1 (k := 1) (k' := 1) hU [0] [0] rfl rfl rfl rfl ⟨rfl, rfl⟩ ?_
  simp only [push_cast, seval, ↓reduceIte, Za, hi0, hk0, hN0, hN]
 simp only [push_cast, seval, ↓reduceIte, Za, Try.results85, hi0, hk0, hN0, hN]
theorem Zcz {Ya : (Ze → Zd → Int → Option (Int × Ze))} {Z9 : (Ze → Zd → Int → Option (Int × Ze))} {Yc : (Ze → Zd → Int → Option (Int × Ze))} (Kx : ∀ {a0 : Ze} {a1 : Zd} {a2 : Int} {r : (Int × Ze)} {O : Objs} {n : Nat} {i0 : Nat}, i0 < n → O i0 = some ⟨false, 107, 1, 1, [.val (.int .i64 a0.left)]⟩ → Ya a0 a1 a2 = some r → GTo Try.prog 62 [.ref i0 0, .agg (Zp a1), .val (.int .i64 a2)] O n (.val (.int .i64 r.1)) (Z4 (O.upd i0 (some ⟨false, 107, 1, 1, [.val (.int .i64 r.2.left)]⟩)) n []) (n + 0)) (Q7 : ∀ {a0 : Ze} {a1 : Zd} {a2 : Int} {r : (Int × Ze)} {O : Objs} {n : Nat} {i0 : Nat}, i0 < n → O i0 = some ⟨false, 107, 1, 1, [.val (.int .i64 a0.left)]⟩ → Z9 a0 a1 a2 = some r → GTo Try.prog 85 [.ref i0 0, .agg (Zp a1), .val (.int .i64 a2)] O n (.val (.int .i64 r.1)) (Z4 (O.upd i0 (some ⟨false, 107, 1, 1, [.val (.int .i64 r.2.left)]⟩)) n []) (n + 0)) (J4 : ∀ {a0 : Ze} {a1 : Zd} {a2 : Int} {r : (Int × Ze)} {O : Objs} {n : Nat} {i0 : Nat}, i0 < n → O i0 = some ⟨false, 107, 1, 1, [.val (.int .i64 a0.left)]⟩ → Yc a0 a1 a2 = some r → GTo Try.prog 86 [.ref i0 0, .agg (Zp a1), .val (.int .i64 a2)] O n (.val (.int .i64 r.1)) (Z4 (O.upd i0 (some ⟨false, 107, 1, 1, [.val (.int .i64 r.2.left)]⟩)) n []) (n + 0)) {a0 : Ze} {a1 : Zd} {a2 : Int} {r : (Int × Ze)} {O : Objs} {n : Nat} {i0 : Nat} (hi0 : i0 < n) (ho0 : O i0 = some ⟨false, 107, 1, 1, [.val (.int .i64 a0.left)]⟩) (h : Y7 Ya Z9 Yc a0 a1 a2 = some r) : GTo Try.prog 86 [.ref i0 0, .agg (Zp a1), .val (.int .i64 a2)] O n (.val (.int .i64 r.1)) (Z4 (O.upd i0 (some ⟨false, 107, 1, 1, [.val (.int .i64 r.2.left)]⟩)) n []) (n + 0) := by
 unfold Y7 at h
 refine Yn Zc Try.call86 Try.func86 rfl (Nat.le_of_ble_eq_true rfl) (by omega) fun hU => ?_
 rw [show Z4 O n [] = Z4 (O.upd i0 (some ⟨false, 107, 1, 1, [.val (.int .i64 a0.left)]⟩)) n [] from by rw [Zoh (show O i0 = _ from by exact ho0)]]
 have hk0 : ∀ k, i0 < n + k := fun k => by omega
 have hN0 : ∀ o, Objs.upd O i0 o n = none := fun o => Zbp hU hi0 _ (Nat.le_refl _)
 have hN : ∀ o k, Objs.upd O i0 o (n + k) = none := fun o k => Zbp hU hi0 _ (Nat.le_add_right _ _)
 show W _ _ _ _ ⟨34, [], [(0, .ref i0 0), (1, .agg (Zp a1)), (2, .val (.int .i64 a2))]⟩ (Z4 (O.upd i0 (some ⟨false, 107, 1, 1, [.val (.int .i64 a0.left)]⟩)) n []) _
 refine Zq [0, 2, 4] (Zb Zc [] ?_)
 simp only [push_cast, seval, ↓reduceIte, Za, hi0, hk0, hN0, hN]
 refine Zh ?_
 refine Zh ?_
 obtain ⟨y2, hy2, h⟩ := bC h
 refine Zb Zc [] ?_
 simp only [push_cast, seval, ↓reduceIte, Za, hi0, hk0, hN0, hN]
 refine (Xq hy2).then ?_
 simp only [push_cast, seval, ↓reduceIte, Za, hi0, hk0, hN0, hN]
 refine Zg [0, 2, 4, 12, 13] [true] ?_
 simp only [push_cast, seval, ↓reduceIte]
 refine Zg [0, 2, 4, 12, 13] [true] ?_
 simp only [push_cast, seval, ↓reduceIte]
 obtain ⟨z10, hz10, h⟩ := bC h
 refine Zmi (J := (Zaf (fun z10 => JR n (⟨34, [], [(6, .val (.int .i64 z10.1))]⟩ : Env) (Z4 (O.upd i0 (some ⟨false, 107, 1, 1, [.val (.int .i64 z10.2)]⟩)) n [none]) (n + 1)) (fun z10 => JX 0 n (⟨34, [], []⟩ : Env) (Z4 (O.upd i0 (some ⟨false, 107, 1, 1, [.val (.int .i64 z10)]⟩)) n [none]) (n + 1)))) (z := z10) ?_ fun hw => ?_
 ·refine V4 hz10 (fun s0_ => ⟨34, [], [(0, .ref i0 0), (2, .val (.int .i64 a2)), (4, .ref n 0), (12, .val (.int .i64 y2)), (13, .val (.int .i64 s0_.1))]⟩) (fun s0_ => (Z4 (O.upd i0 (some ⟨false, 107, 1, 1, [.val (.int .i64 s0_.2)]⟩)) n [some ⟨false, 27, 9, 1, (Zp a1)⟩])) (Zaf (fun z10 => JR n (⟨34, [], [(6, .val (.int .i64 z10.1))]⟩ : Env) (Z4 (O.upd i0 (some ⟨false, 107, 1, 1, [.val (.int .i64 z10.2)]⟩)) n [none]) (n + 1)) (fun z10 => JX 0 n (⟨34, [], []⟩ : Env) (Z4 (O.upd i0 (some ⟨false, 107, 1, 1, [.val (.int .i64 z10)]⟩)) n [none]) (n + 1))) ?_
  intro s0_ x0_ hs0_
  unfold Y8 at hs0_
  try dsimp only
  refine Zq [0, 2, 4, 12, 13, 14] (Zb Zc [] ?_)
  simp only [push_cast, seval, ↓reduceIte, Za, hi0, hk0, hN0, hN]
  refine Zh ?_
  refine Zr (t := (decide (s0_.1 < y2))) rfl (fun c9 => ?_) (fun c9 => ?_)
  ·replace hs0_ := Zv c9 hs0_
   refine Zx ?_
   try simp only [Zi, Zf]
   refine Zg [0, 2, 4, 12, 13] [true] ?_
   simp only [push_cast, seval, ↓reduceIte]
   refine Zh ?_
   refine Xc ?_
   refine Zq [0, 2, 4, 7, 12, 13] (Zb Zc [] ?_)
   simp only [push_cast, seval, ↓reduceIte, Za, hi0, hk0, hN0, hN]
   refine Zh ?_
   obtain ⟨y4, hy4, hs0_⟩ := bC hs0_
   refine Zb Zc [] ?_
   simp only [push_cast, seval, ↓reduceIte, Za, hi0, hk0, hN0, hN]
   refine (Zc5 hy4).then ?_
   simp only [push_cast, seval, ↓reduceIte, Za, hi0, hk0, hN0, hN]
   refine Zg [0, 2, 4, 8, 9, 12, 13] [true, true] ?_
   simp only [push_cast, seval, ↓reduceIte]
   refine Zh ?_
   refine Zq [0, 2, 4, 8, 9, 12, 13, 23] (Zb Zc [] ?_)
   simp only [push_cast, seval, ↓reduceIte, Za, hi0, hk0, hN0, hN]
   refine Zr (t := (y4.2 != 0)) rfl (fun c8 => ?_) (fun c8 => ?_)
   ·replace hs0_ := Zv c8 hs0_
    refine Zq [6] (Zb Zc [] ?_)
    simp only [push_cast, seval, ↓reduceIte, Za, hi0, hk0, hN0, hN]
    refine Zt ?_
    try simp only [Zi, Zf]
    have hs0_ := Option.some.inj hs0_; subst hs0_
    refine And.intro (fun h => by cases h) (And.intro rfl (Fit2.of (Xv hU rfl rfl ?_) (by omega)))
    simp only [push_cast, seval, ↓reduceIte, Za, hi0, hk0, hN0, hN]
   replace hs0_ := Zu c8 hs0_
   refine Zx ?_
   try simp only [Zi, Zf]
   refine Zg [0, 2, 4, 8, 12, 13] [true, true] ?_
   simp only [push_cast, seval, ↓reduceIte]
   refine Zh ?_
   obtain ⟨y6, hy6, hs0_⟩ := bC hs0_
   refine Zb Zc [] ?_
   simp only [push_cast, seval, ↓reduceIte, Za, hi0, hk0, hN0, hN]
   refine (Q7 (i0 := i0) (by omega) (by simp only [push_cast, seval, ↓reduceIte, Za, Zby, hi0, hk0, hN0, hN] <;> rfl) hy6).then ?_
   simp only [push_cast, seval, ↓reduceIte, Za, hi0, hk0, hN0, hN]
   refine Zg [0, 2, 4, 10, 12, 13] [true, false] ?_
   simp only [push_cast, seval, ↓reduceIte]
   refine Zq [0, 2, 4, 10, 12, 13, 31] (Zb Zc [] ?_)
   simp only [push_cast, seval, ↓reduceIte, Za, hi0, hk0, hN0, hN]
   refine Zr (t := (y6.1 != 0)) rfl (fun c7 => ?_) (fun c7 => ?_)
   ·replace hs0_ := Zv c7 hs0_
    refine Zq [6] (Zb Zc [] ?_)
    simp only [push_cast, seval, ↓reduceIte, Za, hi0, hk0, hN0, hN]
    refine Zt ?_
    try simp only [Zi, Zf]
    have hs0_ := Option.some.inj hs0_; subst hs0_
    refine And.intro (fun h => by cases h) (And.intro rfl (Fit2.of (Xv hU rfl rfl ?_) (by omega)))
    simp only [push_cast, seval, ↓reduceIte, Za, hi0, hk0, hN0, hN]
   replace hs0_ := Zu c7 hs0_
   refine Zx ?_
   try simp only [Zi, Zf]
   refine Zg [0, 2, 4, 12, 13] [true, false] ?_
   simp only [push_cast, seval, ↓reduceIte]
   refine Zb Zc [] ?_
   simp only [push_cast, seval, ↓reduceIte, Za, hi0, hk0, hN0, hN]
   have hs0_ := Option.some.inj hs0_; subst hs0_
   refine And.intro rfl (Fit2.of (Xv hU rfl rfl ?_) (by omega))
   simp only [push_cast, seval, ↓reduceIte, Za, hi0, hk0, hN0, hN]
  replace hs0_ := Zu c9 hs0_
  refine Gt ?_
  try simp only [Zi, Zf, ↓reduceIte, Nat.reduceEqDiff]
  have hs0_ := Option.some.inj hs0_; subst hs0_
  refine And.intro (fun h => by cases h) (And.intro rfl (Fit2.of (Xv hU rfl rfl ?_) (by omega)))
  simp only [push_cast, seval, ↓reduceIte, Za, hi0, hk0, hN0, hN]
 rcases z10 with z10 | z10
 ·dsimp only [Zaf] at hw h
  refine Zfs hw ?_
  try simp only [Zi, Zf, ↓reduceIte, Nat.reduceEqDiff]
  have h := Option.some.inj h; subst h
  refine Zaq (k := 0) (i := i0) (q1 := ⟨false, 107, 1, 1, [.val (.int .i64 z10.2)]⟩) (L3 := [none]) (E2 := (⟨34, [], [(6, .val (.int .i64 z10.1))]⟩ : Env)) (n3 := (n + 1)) (.inr rfl) hU rfl [.val (.int .i64 z10.1)] ?_ ?_
  ·refine Fit2.trans (E' := (⟨34, [], [(6, .val (.int .i64 z10.1))]⟩ : Env)) (O' := (Z4 (O.upd i0 (some ⟨false, 107, 1, 1, [.val (.int .i64 z10.2)]⟩)) n [none])) (n' := (n + 1)) (Fit2.of (Xv hU rfl rfl ?_) (by omega)) ?_
   ·simp only [push_cast, seval, ↓reduceIte, Za, hi0, hk0, hN0, hN]
   refine Za1 (k := 1) (k' := 1) hU [0] [0] rfl rfl rfl rfl ⟨rfl, rfl⟩ ?_
   simp only [push_cast, seval, ↓reduceIte, Za, hi0, hk0, hN0, hN]
  simp only [push_cast, seval, ↓reduceIte, Za, Try.results86, hi0, hk0, hN0, hN]
 dsimp only [Zaf] at hw h
 refine Kz hw ?_
 try simp only [Zi, Zf, ↓reduceIte, Nat.reduceEqDiff]
 refine Zg [] [false] ?_
 simp only [push_cast, seval, ↓reduceIte]
 refine Zq [6] (Zb Zc [] ?_)
 simp only [push_cast, seval, ↓reduceIte, Za, hi0, hk0, hN0, hN]
 refine Zt ?_
 try simp only [Zi, Zf]
 have h := Option.some.inj h; subst h
 refine Zaq (k := 0) (i := i0) (q1 := ⟨false, 107, 1, 1, [.val (.int .i64 z10)]⟩) (L3 := [none]) (E2 := (⟨34, [], [(6, .val (.int .i64 0))]⟩ : Env)) (n3 := (n + 1)) (.inr rfl) hU rfl [.val (.int .i64 0)] ?_ ?_
 ·refine Fit2.trans (E' := (⟨34, [], [(6, .val (.int .i64 0))]⟩ : Env)) (O' := (Z4 (O.upd i0 (some ⟨false, 107, 1, 1, [.val (.int .i64 z10)]⟩)) n [none])) (n' := (n + 1)) (Fit2.of (Xv hU rfl rfl ?_) (by omega)) ?_
  ·simp only [push_cast, seval, ↓reduceIte, Za, hi0, hk0, hN0, hN]
  refine Za1 (k := 1) (k' := 1) hU [0] [0] rfl rfl rfl rfl ⟨rfl, rfl⟩ ?_
  simp only [push_cast, seval, ↓reduceIte, Za, hi0, hk0, hN0, hN]
 simp only [push_cast, seval, ↓reduceIte, Za, Try.results86, hi0, hk0, hN0, hN]
theorem Zcy : ∀ k, (∀ {a0 : Ze} {a1 : Zd} {a2 : Int} {r : (Int × Ze)} {O : Objs} {n : Nat} {i0 : Nat}, i0 < n → O i0 = some ⟨false, 107, 1, 1, [.val (.int .i64 a0.left)]⟩ → (Zo k).1 a0 a1 a2 = some r → GTo Try.prog 62 [.ref i0 0, .agg (Zp a1), .val (.int .i64 a2)] O n (.val (.int .i64 r.1)) (Z4 (O.upd i0 (some ⟨false, 107, 1, 1, [.val (.int .i64 r.2.left)]⟩)) n []) (n + 0)) ∧ (∀ {a0 : Ze} {a1 : Zd} {a2 : Int} {r : (Int × Ze)} {O : Objs} {n : Nat} {i0 : Nat}, i0 < n → O i0 = some ⟨false, 107, 1, 1, [.val (.int .i64 a0.left)]⟩ → (Zo k).2.1 a0 a1 a2 = some r → GTo Try.prog 85 [.ref i0 0, .agg (Zp a1), .val (.int .i64 a2)] O n (.val (.int .i64 r.1)) (Z4 (O.upd i0 (some ⟨false, 107, 1, 1, [.val (.int .i64 r.2.left)]⟩)) n []) (n + 0)) ∧ (∀ {a0 : Ze} {a1 : Zd} {a2 : Int} {r : (Int × Ze)} {O : Objs} {n : Nat} {i0 : Nat}, i0 < n → O i0 = some ⟨false, 107, 1, 1, [.val (.int .i64 a0.left)]⟩ → (Zo k).2.2 a0 a1 a2 = some r → GTo Try.prog 86 [.ref i0 0, .agg (Zp a1), .val (.int .i64 a2)] O n (.val (.int .i64 r.1)) (Z4 (O.upd i0 (some ⟨false, 107, 1, 1, [.val (.int .i64 r.2.left)]⟩)) n []) (n + 0)) := fun k => by
 induction k with
 | zero => exact ⟨@fun a0 a1 a2 r O n i0 hi0 ho0 h => (nomatch (show (none : Option _) = some _ from h)), @fun a0 a1 a2 r O n i0 hi0 ho0 h => (nomatch (show (none : Option _) = some _ from h)), @fun a0 a1 a2 r O n i0 hi0 ho0 h => (nomatch (show (none : Option _) = some _ from h))⟩
 | succ k ih => exact ⟨@fun a0 a1 a2 r O n i0 hi0 ho0 h => Zd0 (ih.1) (ih.2.1) (ih.2.2) hi0 ho0 h, @fun a0 a1 a2 r O n i0 hi0 ho0 h => Zex (ih.1) (ih.2.1) (ih.2.2) hi0 ho0 h, @fun a0 a1 a2 r O n i0 hi0 ho0 h => Zcz (ih.1) (ih.2.1) (ih.2.2) hi0 ho0 h⟩
theorem Zev {a0 : Ze} {a1 : Zd} {a2 : Int} {r : (Int × Ze)} {O : Objs} {n : Nat} {i0 : Nat} (hi0 : i0 < n) (ho0 : O i0 = some ⟨false, 107, 1, 1, [.val (.int .i64 a0.left)]⟩) (h : Vr a0 a1 a2 = some r) : GTo Try.prog 62 [.ref i0 0, .agg (Zp a1), .val (.int .i64 a2)] O n (.val (.int .i64 r.1)) (Z4 (O.upd i0 (some ⟨false, 107, 1, 1, [.val (.int .i64 r.2.left)]⟩)) n []) (n + 0) := by
 obtain ⟨k, hk⟩ := Zf2 h
 exact (Zcy k).1 hi0 ho0 hk
theorem Zb8 {a0 : (Option Zj)} {a1 : Zy} {r : (Int × Int)} {O : Objs} {n : Nat} (h : Kv a0 a1 = some r) : GTo Try.prog 31 [(gP Zk a0), .agg (Yg a1)] O n (.tup [.val (.int .i64 r.1), .val (.int .i64 r.2)]) O n := by
 unfold Kv at h
 refine Yn Zc Try.call31 Try.func31 rfl (Nat.le_of_ble_eq_true rfl) (Nat.le_refl _) fun hU => ?_
 have hN0 : O n = none := hU.fresh _ (Nat.le_refl _)
 have hN : ∀ k, O (n + k) = none := fun k => hU.fresh _ (Nat.le_add_right _ _)
 show W _ _ _ _ ⟨35, [], [(0, (gP Zk a0)), (1, .agg (Yg a1))]⟩ (Z4 O n []) _
 refine Zq [0, 3] (Zb Zc [] ?_)
 simp only [push_cast, seval, ↓reduceIte, Za, hN0, hN]
 refine Zh ?_
 obtain ⟨y2, hy2, h⟩ := bC h
 refine Zb Zc [] ?_
 simp only [push_cast, seval, ↓reduceIte, Za, hN0, hN]
 refine (Ja hy2).then ?_
 simp only [push_cast, seval, ↓reduceIte, Za, hN0, hN]
 refine Zg [0, 3] [true] ?_
 simp only [push_cast, seval, ↓reduceIte]
 refine Zh ?_
 obtain ⟨y4, hy4, h⟩ := bC h
 refine Zb Zc [] ?_
 simp only [push_cast, seval, ↓reduceIte, Za, hN0, hN]
 refine (Zna hy4).then ?_
 simp only [push_cast, seval, ↓reduceIte, Za, hN0, hN]
 refine Zg [3, 6, 7] [true, true] ?_
 simp only [push_cast, seval, ↓reduceIte]
 refine Zh ?_
 refine Zq [3, 6, 7, 18] (Zb Zc [] ?_)
 simp only [push_cast, seval, ↓reduceIte, Za, hN0, hN]
 refine Zr (t := (y4.2 != 0)) rfl (fun c8 => ?_) (fun c8 => ?_)
 ·replace h := Zv c8 h
  refine Zq [4, 5] (Zb Zc [] ?_)
  simp only [push_cast, seval, ↓reduceIte, Za, hN0, hN]
  refine Zt ?_
  try simp only [Zi, Zf]
  have h := Option.some.inj h; subst h
  refine Zl (.inr rfl) hU [.val (.int .i64 0), .val (.int .i64 y4.2)] (by omega) ?_
  simp only [push_cast, seval, ↓reduceIte, Za, Try.results31, hN0, hN]
 replace h := Zu c8 h
 refine Zx ?_
 try simp only [Zi, Zf]
 refine Zg [3, 6] [true, true] ?_
 simp only [push_cast, seval, ↓reduceIte]
 refine Zh ?_
 refine Zb Zc [] ?_
 simp only [push_cast, seval, ↓reduceIte, Za, hN0, hN]
 refine Zg [3, 6, 8] [true, true, true] ?_
 simp only [push_cast, seval, ↓reduceIte]
 refine Zh ?_
 refine Zh ?_
 obtain ⟨y6, hy6, h⟩ := bC h
 refine Zb Zc [] ?_
 simp only [push_cast, seval, ↓reduceIte, Za, hN0, hN]
 refine (Zev (i0 := (n + 2)) (by omega) (by simp only [push_cast, seval, ↓reduceIte, Za, Zby, hN0, hN] <;> rfl) hy6).then ?_
 simp only [push_cast, seval, ↓reduceIte, Za, hN0, hN]
 refine Zg [3, 8, 9] [true, false, true] ?_
 simp only [push_cast, seval, ↓reduceIte]
 refine Zq [3, 8, 9, 28] (Zb Zc [] ?_)
 simp only [push_cast, seval, ↓reduceIte, Za, hN0, hN]
 refine Zr (t := (y6.1 != 0)) rfl (fun c7 => ?_) (fun c7 => ?_)
 ·replace h := Zv c7 h
  refine Zq [4, 5] (Zb Zc [] ?_)
  simp only [push_cast, seval, ↓reduceIte, Za, hN0, hN]
  refine Zt ?_
  try simp only [Zi, Zf]
  have h := Option.some.inj h; subst h
  refine Zl (.inr rfl) hU [.val (.int .i64 0), .val (.int .i64 y6.1)] (by omega) ?_
  simp only [push_cast, seval, ↓reduceIte, Za, Try.results31, hN0, hN]
 replace h := Zu c7 h
 refine Zx ?_
 try simp only [Zi, Zf]
 refine Zg [3, 8] [true, false, true] ?_
 simp only [push_cast, seval, ↓reduceIte]
 refine Zq [4, 5] (Zb Zc [] ?_)
 simp only [push_cast, seval, ↓reduceIte, Za, hN0, hN]
 refine Zt ?_
 try simp only [Zi, Zf]
 have h := Option.some.inj h; subst h
 refine Zl (.inr rfl) hU [.val (.int .i64 (IntKind.i64.wrap (y2.Weight - y6.2.left))), .val (.int .i64 0)] (by omega) ?_
 simp only [push_cast, seval, ↓reduceIte, Za, Try.results31, hN0, hN]
theorem Zbe  {r : Bool} {O : Objs} {n : Nat} (h : Qp = some r) : GTo Try.prog 33 [] O n (.val (.bool r)) O n := by
 unfold Qp at h
 refine Yn Zc Try.call33 Try.func33 rfl (Nat.le_of_ble_eq_true rfl) (Nat.le_refl _) fun hU => ?_
 have hN0 : O n = none := hU.fresh _ (Nat.le_refl _)
 have hN : ∀ k, O (n + k) = none := fun k => hU.fresh _ (Nat.le_add_right _ _)
 show W _ _ _ _ ⟨31, [], []⟩ (Z4 O n []) _
 refine Zq [] (Zb Zc [] ?_)
 simp only [push_cast, seval, ↓reduceIte, Za, hN0, hN]
 refine Zh ?_
 obtain ⟨y2, hy2, h⟩ := bC h
 refine Zb Zc [] ?_
 simp only [push_cast, seval, ↓reduceIte, Za, hN0, hN]
 refine GCalls.dropL (l' := [none, none]) hU rfl ?_ ((Zlz hy2).then ?_)
 ·simp only [push_cast, seval, ↓reduceIte, Za, hN0, hN]
 simp only [push_cast, seval, ↓reduceIte, Za, hN0, hN]
 refine Zg [1] [false, false] ?_
 simp only [push_cast, seval, ↓reduceIte]
 refine Zh ?_
 obtain ⟨y4, hy4, h⟩ := bC h
 refine Zb Zc [] ?_
 simp only [push_cast, seval, ↓reduceIte, Za, hN0, hN]
 refine (Zb8 hy4).then ?_
 simp only [push_cast, seval, ↓reduceIte, Za, hN0, hN]
 refine Zg [1, 2, 3] [false, false] ?_
 simp only [push_cast, seval, ↓reduceIte]
 refine Zh ?_
 obtain ⟨y6, hy6, h⟩ := bC h
 refine Zb Zc [] ?_
 simp only [push_cast, seval, ↓reduceIte, Za, hN0, hN]
 refine (Zb8 hy6).then ?_
 simp only [push_cast, seval, ↓reduceIte, Za, hN0, hN]
 refine Zg [2, 3, 5] [false, false] ?_
 simp only [push_cast, seval, ↓reduceIte]
 refine Zq [0] (Zb Zc [none, none, none, none] ?_)
 simp only [push_cast, seval, ↓reduceIte, Za, hN0, hN]
 repeat (with_reducible refine And.intro (by first | (intro h0; simp only [h0, and_self]; done) | (intro h0; simp only [h0, Bool.not_false, Bool.not_true, Bool.true_and, Bool.and_true, true_and, and_true, and_self, imp_self, implies_true, bne_iff_ne, ne_eq, beq_iff_eq]; done) | (intros; simp_all; done) | exact True.intro) ?_)
 refine Zt ?_
 try simp only [Zi, Zf]
 have h := Option.some.inj h; subst h
 refine Zl (.inr rfl) hU [.val (.bool (cond (cond (y4.1 == 2) (y4.2 == 0) false) (y6.2 == 3) false))] (by omega) ?_
 simp only [push_cast, seval, ↓reduceIte, Za, Try.results33, hN0, hN]
theorem Zhw {a0 : Zy} {r : Zy} {O : Objs} {n : Nat} (h : Jz a0 = some r) : GTo Try.prog 30 [.agg (Yg a0)] O n (.agg (Yg r)) O n := by
 unfold Jz at h
 refine Yn Zc Try.call30 Try.func30 rfl (Nat.le_of_ble_eq_true rfl) (Nat.le_refl _) fun hU => ?_
 have hN0 : O n = none := hU.fresh _ (Nat.le_refl _)
 have hN : ∀ k, O (n + k) = none := fun k => hU.fresh _ (Nat.le_add_right _ _)
 show W _ _ _ _ ⟨8, [], [(0, .agg (Yg a0))]⟩ (Z4 O n []) _
 refine Zq [1, 2] (Zb Zc [] ?_)
 simp only [push_cast, seval, ↓reduceIte, Za, hN0, hN]
 obtain ⟨z1, hz1, h⟩ := bC h
 refine Qn (E' := ⟨8, [], [(1, .ref n 0), (2, .ref (n + 1) 0)]⟩) (O' := (Z4 O n [some ⟨false, 52, 4, 1, [.val (.int .i64 a0.Depth), .val (.int .i64 z1), .val (.int .i64 a0.MaxD), .val (.int .i64 a0.MaxOut)]⟩, some ⟨false, 52, 4, 1, [.val (.int .i64 0), .val (.int .i64 0), .val (.int .i64 0), .val (.int .i64 0)]⟩])) (n0 := (n + 2)) ?_ ?_
 ·refine Zq [1, 2, 5] (Zb Zc [] ?_)
  simp only [push_cast, seval, ↓reduceIte, Za, hN0, hN]
  refine Zr (t := (decide (3000 < a0.Weight))) rfl (fun c2 => ?_) (fun c2 => ?_)
  ·replace hz1 := Zv c2 hz1
   refine Zb Zc [] ?_
   simp only [push_cast, seval, ↓reduceIte, Za, hN0, hN]
   have hz1 := Option.some.inj hz1; subst hz1
   refine And.intro rfl (Fit2.of (Zs hU rfl rfl ?_) (by omega))
   simp only [push_cast, seval, ↓reduceIte, Za, hN0, hN]
  replace hz1 := Zu c2 hz1
  refine Zx ?_
  try simp only [Zi, Zf]
  have hz1 := Option.some.inj hz1; subst hz1
  refine And.intro rfl (Fit2.of (Zs hU rfl rfl ?_) (by omega))
  simp only [push_cast, seval, ↓reduceIte, Za, hN0, hN]
 refine Zh ?_
 refine Zb Zc [] ?_
 simp only [push_cast, seval, ↓reduceIte, Za, hN0, hN]
 refine Zg [2] [false, true] ?_
 simp only [push_cast, seval, ↓reduceIte]
 refine Zt ?_
 try simp only [Zi, Zf]
 have h := Option.some.inj h; subst h
 refine Zl (.inr rfl) hU [.agg [.val (.int .i64 a0.Depth), .val (.int .i64 z1), .val (.int .i64 a0.MaxD), .val (.int .i64 a0.MaxOut)]] (by omega) ?_
 simp only [push_cast, seval, ↓reduceIte, Za, Try.results30, hN0, hN]
theorem Zew {Yi : ((List (List Int)) → Zm → Int → Int → Option (S_api_Tree × Int × Int))} {Yv : ((List (List Int)) → Zm → Int → Int → Option (S_api_Tree × Int × Int))} (K5 : ∀ {a0 : (List (List Int))} {a1 : Zm} {a2 : Int} {a3 : Int} {r : (S_api_Tree × Int × Int)} {O : Objs} {n : Nat}, Yi a0 a1 a2 a3 = some r → GTo Try.prog 63 [.sl a0.length (fl (eL (eI .u64)) a0), .agg (Zn a1), .val (.int .i64 a2), .val (.int .i64 a3)] O n (.tup [.agg (Zz r.1), .val (.int .i64 r.2.1), .val (.int .i64 r.2.2)]) O n) (Zax : ∀ {a0 : (List (List Int))} {a1 : Zm} {a2 : Int} {a3 : Int} {r : (S_api_Tree × Int × Int)} {O : Objs} {n : Nat}, Yv a0 a1 a2 a3 = some r → GTo Try.prog 87 [.sl a0.length (fl (eL (eI .u64)) a0), .agg (Zn a1), .val (.int .i64 a2), .val (.int .i64 a3)] O n (.tup [.agg (Zz r.1), .val (.int .i64 r.2.1), .val (.int .i64 r.2.2)]) O n) {a0 : (List (List Int))} {a1 : Zm} {a2 : Int} {a3 : Int} {r : (S_api_Tree × Int × Int)} {O : Objs} {n : Nat} (h : Xr Yi Yv a0 a1 a2 a3 = some r) : GTo Try.prog 63 [.sl a0.length (fl (eL (eI .u64)) a0), .agg (Zn a1), .val (.int .i64 a2), .val (.int .i64 a3)] O n (.tup [.agg (Zz r.1), .val (.int .i64 r.2.1), .val (.int .i64 r.2.2)]) O n := by
 unfold Xr at h
 refine Yn Zc Try.call63 Try.func63 rfl (Nat.le_of_ble_eq_true rfl) (Nat.le_refl _) fun hU => ?_
 have hN0 : O n = none := hU.fresh _ (Nat.le_refl _)
 have hN : ∀ k, O (n + k) = none := fun k => hU.fresh _ (Nat.le_add_right _ _)
 show W _ _ _ _ ⟨149, [], [(0, .sl a0.length (fl (eL (eI .u64)) a0)), (1, .agg (Zn a1)), (2, .val (.int .i64 a2)), (3, .val (.int .i64 a3))]⟩ (Z4 O n []) _
 refine Zq [0, 2, 3, 5, 8] (Zb Zc [] ?_)
 simp only [push_cast, seval, ↓reduceIte, Za, hN0, hN]
 refine Zh ?_
 obtain ⟨y2, hy2, h⟩ := bC h
 refine Zhk Zc (by kernel_rfl) [.low, .low, .low, .low, .low, .low, .pass, .bar] (fun i => i < (n + 2)) [0, 1, 2, 3, 4, 5, 6, 7] [.low, .low, .low, .low, .low, .low, .pass, .bar] [] (by kernel_rfl) rfl ?_
 simp only [push_cast, seval, ↓reduceIte, Za, hN0, hN]
 repeat (with_reducible refine And.intro (by first | omega | exact Ka rfl | exact Q8 | exact U0 rfl | exact U7 rfl rfl) ?_)
 first | refine PCallA.of (fun _ _ => X0 hy2) ?_ | refine PCall.of (X0 hy2) ?_
 simp only [push_cast, seval, ↓reduceIte, Za, hN0, hN]
 repeat (with_reducible refine And.intro (by first | omega | exact Ka rfl | exact Q8 | exact U0 rfl | exact U7 rfl rfl) ?_)
 refine Zg [0, 2, 3, 5, 8, 11] [true, true, true] ?_
 simp only [push_cast, seval, ↓reduceIte]
 refine Zh ?_
 refine Zq [0, 2, 3, 5, 8, 11, 25] (Zb Zc [] ?_)
 simp only [push_cast, seval, ↓reduceIte, Za, hN0, hN]
 refine Zr (t := (a1.Kind == 0)) rfl (fun c27 => ?_) (fun c27 => ?_)
 ·replace h := Zv c27 h
  refine Zh ?_
  refine Zb Zc [] ?_
  simp only [push_cast, seval, ↓reduceIte, Za, hN0, hN]
  refine Zg [8, 9, 10] [false, true, false] ?_
  simp only [push_cast, seval, ↓reduceIte]
  refine Zt ?_
  try simp only [Zi, Zf]
  have h := Option.some.inj h; subst h
  refine Zl (.inr rfl) hU [.agg [.val (.int .i64 a1.Kind), .sl y2.length (fl (eI .u64) y2), .val (.slice none 0 0)], .val (.int .i64 a3), .val (.int .i64 0)] (by omega) ?_
  simp only [push_cast, seval, ↓reduceIte, Za, Try.results63, hN0, hN]
 replace h := Zu c27 h
 refine Zx ?_
 try simp only [Zi, Zf]
 refine Zg [0, 2, 3, 5, 8, 11] [true, true, true] ?_
 simp only [push_cast, seval, ↓reduceIte]
 refine Zh ?_
 refine Zq [0, 2, 3, 5, 8, 11, 43] (Zb Zc [none, none, none, none, none, none, none, none, none, none, none, none] ?_)
 simp only [push_cast, seval, ↓reduceIte, Za, hN0, hN]
 repeat (with_reducible refine And.intro (by first | (intro h0; simp only [h0, and_self]; done) | (intro h0; simp only [h0, Bool.not_false, Bool.not_true, Bool.true_and, Bool.and_true, true_and, and_true, and_self, imp_self, implies_true, bne_iff_ne, ne_eq, beq_iff_eq]; done) | (intros; simp_all; done) | exact True.intro) ?_)
 refine Zr (t := (cond (decide (a2 < 1)) true (cond (cond (a1.Kind == 9) (decide (0 < a1.Count)) false) (decide (a2 < 2)) false))) rfl (fun c26 => ?_) (fun c26 => ?_)
 ·replace h := Zv c26 h
  refine Zh ?_
  refine Zb Zc [] ?_
  simp only [push_cast, seval, ↓reduceIte, Za, hN0, hN]
  refine Zg [8, 9, 10] [false, true, false] ?_
  simp only [push_cast, seval, ↓reduceIte]
  refine Zt ?_
  try simp only [Zi, Zf]
  have h := Option.some.inj h; subst h
  refine Zl (.inr rfl) hU [.agg [.val (.int .i64 a1.Kind), .sl y2.length (fl (eI .u64) y2), .val (.slice none 0 0)], .val (.int .i64 a3), .val (.int .i64 3)] (by omega) ?_
  simp only [push_cast, seval, ↓reduceIte, Za, Try.results63, hN0, hN]
 replace h := Zu c26 h
 refine Zx ?_
 try simp only [Zi, Zf]
 refine Zg [0, 2, 3, 5, 8, 11] [true, true, true] ?_
 simp only [push_cast, seval, ↓reduceIte]
 refine Zh ?_
 obtain ⟨y4, hy4, h⟩ := bC h
 refine Zb Zc [] ?_
 simp only [push_cast, seval, ↓reduceIte, Za, hN0, hN]
 refine (Vn hy4).then ?_
 simp only [push_cast, seval, ↓reduceIte, Za, hN0, hN]
 refine Zg [0, 2, 3, 5, 8, 11, 12] [true, true, true] ?_
 simp only [push_cast, seval, ↓reduceIte]
 obtain ⟨z5, hz5, h⟩ := bC h
 refine Qn (E' := ⟨149, [], [(0, .sl a0.length (fl (eL (eI .u64)) a0)), (2, .val (.int .i64 a2)), (3, .val (.int .i64 a3)), (5, .ref n 0), (8, .ref (n + 1) 0), (11, .ref (n + 2) 0), (12, .val (.int .i64 z5))]⟩) (O' := (Z4 O n [some ⟨false, 33, 7, 1, (Zn a1)⟩, some ⟨false, 58, 3, 1, [.val (.int .i64 0), .val (.slice none 0 0), .val (.slice none 0 0)]⟩, some ⟨false, 58, 3, 1, [.val (.int .i64 a1.Kind), .sl y2.length (fl (eI .u64) y2), .val (.slice none 0 0)]⟩])) (n0 := (n + 3)) ?_ ?_
 ·refine Zq [0, 2, 3, 5, 8, 11, 12, 51] (Zb Zc [] ?_)
  simp only [push_cast, seval, ↓reduceIte, Za, hN0, hN]
  refine Zr (t := (a1.Kind == 1)) rfl (fun c6 => ?_) (fun c6 => ?_)
  ·replace hz5 := Zv c6 hz5
   refine Zb Zc [] ?_
   simp only [push_cast, seval, ↓reduceIte, Za, hN0, hN]
   have hz5 := Option.some.inj hz5; subst hz5
   refine And.intro rfl (Fit2.of (Zs hU rfl rfl ?_) (by omega))
   simp only [push_cast, seval, ↓reduceIte, Za, hN0, hN]
  replace hz5 := Zu c6 hz5
  refine Zx ?_
  try simp only [Zi, Zf]
  have hz5 := Option.some.inj hz5; subst hz5
  refine And.intro rfl (Fit2.of (Zs hU rfl rfl ?_) (by omega))
  simp only [push_cast, seval, ↓reduceIte, Za, hN0, hN]
 obtain ⟨z7, hz7, h⟩ := bC h
 refine Qn (E' := ⟨149, [], [(0, .sl a0.length (fl (eL (eI .u64)) a0)), (2, .val (.int .i64 a2)), (3, .val (.int .i64 a3)), (5, .ref n 0), (8, .ref (n + 1) 0), (11, .ref (n + 2) 0), (12, .val (.int .i64 z7))]⟩) (O' := (Z4 O n [some ⟨false, 33, 7, 1, (Zn a1)⟩, some ⟨false, 58, 3, 1, [.val (.int .i64 0), .val (.slice none 0 0), .val (.slice none 0 0)]⟩, some ⟨false, 58, 3, 1, [.val (.int .i64 a1.Kind), .sl y2.length (fl (eI .u64) y2), .val (.slice none 0 0)]⟩])) (n0 := (n + 3)) ?_ ?_
 ·refine Zq [0, 2, 3, 5, 8, 11, 12, 60] (Zb Zc [] ?_)
  simp only [push_cast, seval, ↓reduceIte, Za, hN0, hN]
  refine Zr (t := (a1.Kind == 9)) rfl (fun c8 => ?_) (fun c8 => ?_)
  ·replace hz7 := Zv c8 hz7
   refine Zb Zc [] ?_
   simp only [push_cast, seval, ↓reduceIte, Za, hN0, hN]
   have hz7 := Option.some.inj hz7; subst hz7
   refine And.intro rfl (Fit2.of (Zs hU rfl rfl ?_) (by omega))
   simp only [push_cast, seval, ↓reduceIte, Za, hN0, hN]
  replace hz7 := Zu c8 hz7
  refine Zx ?_
  try simp only [Zi, Zf]
  have hz7 := Option.some.inj hz7; subst hz7
  refine And.intro rfl (Fit2.of (Zs hU rfl rfl ?_) (by omega))
  simp only [push_cast, seval, ↓reduceIte, Za, hN0, hN]
 refine Zh ?_
 refine Zq [0, 2, 3, 5, 8, 11, 12, 73] (Zb Zc [] ?_)
 simp only [push_cast, seval, ↓reduceIte, Za, hN0, hN]
 refine Zr (t := (decide (a3 < z7))) rfl (fun c25 => ?_) (fun c25 => ?_)
 ·replace h := Zv c25 h
  refine Zh ?_
  refine Zb Zc [] ?_
  simp only [push_cast, seval, ↓reduceIte, Za, hN0, hN]
  refine Zg [8, 9, 10] [false, true, false] ?_
  simp only [push_cast, seval, ↓reduceIte]
  refine Zt ?_
  try simp only [Zi, Zf]
  have h := Option.some.inj h; subst h
  refine Zl (.inr rfl) hU [.agg [.val (.int .i64 a1.Kind), .sl y2.length (fl (eI .u64) y2), .val (.slice none 0 0)], .val (.int .i64 a3), .val (.int .i64 3)] (by omega) ?_
  simp only [push_cast, seval, ↓reduceIte, Za, Try.results63, hN0, hN]
 replace h := Zu c25 h
 refine Zx ?_
 try simp only [Zi, Zf]
 refine Zg [0, 2, 3, 5, 8, 11, 12] [true, true, true] ?_
 simp only [push_cast, seval, ↓reduceIte]
 refine Zq [0, 2, 3, 5, 8, 11] (Zb Zc [] ?_)
 simp only [push_cast, seval, ↓reduceIte, Za, hN0, hN]
 refine Zh ?_
 refine Zq [0, 2, 3, 5, 8, 11, 13] (Zb Zc [] ?_)
 simp only [push_cast, seval, ↓reduceIte, Za, hN0, hN]
 refine Zg [0, 2, 3, 5, 8, 11, 13] [true, true, true] ?_
 simp only [push_cast, seval, ↓reduceIte]
 refine Zs2 (E' := (⟨149, [], [(0, .sl a0.length (fl (eL (eI .u64)) a0)), (2, .val (.int .i64 a2)), (3, .val (.int .i64 (IntKind.i64.wrap (a3 - z7)))), (5, .ref n 0), (8, .ref (n + 1) 0), (11, .ref (n + 2) 0), (13, .val (.int .i64 0))]⟩ : Env)) (O' := (Z4 O n [some ⟨false, 33, 7, 1, (Zn a1)⟩, some ⟨false, 58, 3, 1, [.val (.int .i64 0), .val (.slice none 0 0), .val (.slice none 0 0)]⟩, some ⟨false, 58, 3, 1, [.val (.int .i64 a1.Kind), .sl y2.length (fl (eI .u64) y2), .row (n + 3) ([] : List S_api_Tree).length]⟩, some ⟨true, 58, 3, ([] : List S_api_Tree).length, fl Zw ([] : List S_api_Tree)⟩, none])) (n' := (n + 5)) ?_ ?_
 ·refine Fit2.trans (E' := (⟨149, [], [(0, .sl a0.length (fl (eL (eI .u64)) a0)), (2, .val (.int .i64 a2)), (3, .val (.int .i64 (IntKind.i64.wrap (a3 - z7)))), (5, .ref n 0), (8, .ref (n + 1) 0), (11, .ref (n + 2) 0), (13, .val (.int .i64 0))]⟩ : Env)) (O' := (Z4 O n [some ⟨false, 33, 7, 1, (Zn a1)⟩, some ⟨false, 58, 3, 1, [.val (.int .i64 0), .val (.slice none 0 0), .val (.slice none 0 0)]⟩, some ⟨false, 58, 3, 1, [.val (.int .i64 a1.Kind), .sl y2.length (fl (eI .u64) y2), .val (.slice none 0 0)]⟩])) (n' := (n + 3)) (Fit2.of (Zs hU rfl rfl ?_) (by omega)) ?_
  ·simp only [push_cast, seval, ↓reduceIte, Za, hN0, hN]
  refine Fit2.trans (E' := (⟨149, [], [(0, .sl a0.length (fl (eL (eI .u64)) a0)), (2, .val (.int .i64 a2)), (3, .val (.int .i64 (IntKind.i64.wrap (a3 - z7)))), (5, .ref n 0), (8, .ref (n + 1) 0), (11, .ref (n + 2) 0), (13, .val (.int .i64 0))]⟩ : Env)) (O' := (Z4 O n [some ⟨false, 33, 7, 1, (Zn a1)⟩, some ⟨false, 58, 3, 1, [.val (.int .i64 0), .val (.slice none 0 0), .val (.slice none 0 0)]⟩, some ⟨false, 58, 3, 1, [.val (.int .i64 a1.Kind), .sl y2.length (fl (eI .u64) y2), .row (n + 3) 0]⟩, some ⟨true, 58, 3, 0, []⟩])) (n' := (n + 4)) ?_ ?_
  ·have ha := Zmj (ba := n) (E := (⟨149, [], [(0, .sl a0.length (fl (eL (eI .u64)) a0)), (2, .val (.int .i64 a2)), (3, .val (.int .i64 (IntKind.i64.wrap (a3 - z7)))), (5, .ref n 0), (8, .ref (n + 1) 0), (11, .ref (n + 2) 0), (13, .val (.int .i64 0))]⟩ : Env)) (O := (Z4 O n [some ⟨false, 33, 7, 1, [.val (.int .i64 a1.Kind), .val (.int .i64 a1.S), .val (.int .i64 a1.At), .val (.int .i64 a1.Data), .val (.int .i64 a1.Ptrs), .val (.int .i64 a1.Count), .val (.int .u64 a1.N)]⟩, some ⟨false, 58, 3, 1, [.val (.int .i64 0), .val (.slice none 0 0), .val (.slice none 0 0)]⟩, some ⟨false, 58, 3, 1, [.val (.int .i64 a1.Kind), .sl y2.length (fl (eI .u64) y2), .val (.slice none 0 0)]⟩])) (n := (n + 3)) (p := (n + 2)) (k := 2) (q := ⟨false, 58, 3, 1, [.val (.int .i64 a1.Kind), .sl y2.length (fl (eI .u64) y2), .val (.slice none 0 0)]⟩) 58 3 (by simp only [V9, Zem, List.getElem?_cons_zero, List.getElem?_cons_succ, Option.join_some, Xh]) rfl (by omega)
   simp only [Zae, Uz, Zc0, Zbq, List.set_cons_zero, List.set_cons_succ, List.cons_append, List.nil_append, List.length_cons, List.length_nil, Nat.zero_add, Nat.reduceAdd, Nat.reduceLT, Nat.add_assoc] at ha
   exact ha
  refine Fit2.trans (E' := (⟨149, [], [(0, .sl a0.length (fl (eL (eI .u64)) a0)), (2, .val (.int .i64 a2)), (3, .val (.int .i64 (IntKind.i64.wrap (a3 - z7)))), (5, .ref n 0), (8, .ref (n + 1) 0), (11, .ref (n + 2) 0), (13, .val (.int .i64 0))]⟩ : Env)) (O' := (Z4 O n [some ⟨false, 33, 7, 1, (Zn a1)⟩, some ⟨false, 58, 3, 1, [.val (.int .i64 0), .val (.slice none 0 0), .val (.slice none 0 0)]⟩, some ⟨false, 58, 3, 1, [.val (.int .i64 a1.Kind), .sl y2.length (fl (eI .u64) y2), .row (n + 3) ([] : List S_api_Tree).length]⟩, some ⟨true, 58, 3, ([] : List S_api_Tree).length, fl Zw ([] : List S_api_Tree)⟩])) (n' := (n + 4)) (Fit2.of (Zs hU rfl rfl ?_) (by omega)) ?_
  ·simp only [push_cast, seval, ↓reduceIte, Za, hN0, hN]
  refine Zmd (k := 4) (k' := 5) hU [0, 1, 2, 3] [0, 1, 2, 3, 0] rfl rfl rfl rfl ⟨rfl, rfl⟩ ?_
  simp only [push_cast, seval, ↓reduceIte, Za, hN0, hN]
 obtain ⟨z24, hz24, h⟩ := bC h
 refine Zmi (J := (Zaf (fun z24 => JR n (⟨149, [], [(8, .ref (n + 1) 0), (9, .val (.int .i64 z24.1)), (10, .val (.int .i64 z24.2.1))]⟩ : Env) (Z4 O n [none, some ⟨false, 58, 3, 1, [.val (.int .i64 a1.Kind), .sl y2.length (fl (eI .u64) y2), .sl z24.2.2.length (fl Zw z24.2.2)]⟩, none]) (n + 3)) (fun z24 => JX 0 n (⟨149, [], [(3, .val (.int .i64 z24.1)), (8, .ref (n + 1) 0), (11, .ref (n + 2) 0)]⟩ : Env) (Z4 O n [none, some ⟨false, 58, 3, 1, [.val (.int .i64 0), .val (.slice none 0 0), .val (.slice none 0 0)]⟩, some ⟨false, 58, 3, 1, [.val (.int .i64 a1.Kind), .sl y2.length (fl (eI .u64) y2), .row (n + 3) z24.2.length]⟩, some ⟨true, 58, 3, z24.2.length, fl Zw z24.2⟩, none]) (n + 5)))) (z := z24) ?_ fun hw => ?_
 ·refine V4 hz24 (fun s0_ => ⟨149, [], [(0, .sl a0.length (fl (eL (eI .u64)) a0)), (2, .val (.int .i64 a2)), (3, .val (.int .i64 s0_.1)), (5, .ref n 0), (8, .ref (n + 1) 0), (11, .ref (n + 2) 0), (13, .val (.int .i64 s0_.2.1))]⟩) (fun s0_ => (Z4 O n [some ⟨false, 33, 7, 1, (Zn a1)⟩, some ⟨false, 58, 3, 1, [.val (.int .i64 0), .val (.slice none 0 0), .val (.slice none 0 0)]⟩, some ⟨false, 58, 3, 1, [.val (.int .i64 a1.Kind), .sl y2.length (fl (eI .u64) y2), .row (n + 3) s0_.2.2.length]⟩, some ⟨true, 58, 3, s0_.2.2.length, fl Zw s0_.2.2⟩, none])) (Zaf (fun z24 => JR n (⟨149, [], [(8, .ref (n + 1) 0), (9, .val (.int .i64 z24.1)), (10, .val (.int .i64 z24.2.1))]⟩ : Env) (Z4 O n [none, some ⟨false, 58, 3, 1, [.val (.int .i64 a1.Kind), .sl y2.length (fl (eI .u64) y2), .sl z24.2.2.length (fl Zw z24.2.2)]⟩, none]) (n + 3)) (fun z24 => JX 0 n (⟨149, [], [(3, .val (.int .i64 z24.1)), (8, .ref (n + 1) 0), (11, .ref (n + 2) 0)]⟩ : Env) (Z4 O n [none, some ⟨false, 58, 3, 1, [.val (.int .i64 0), .val (.slice none 0 0), .val (.slice none 0 0)]⟩, some ⟨false, 58, 3, 1, [.val (.int .i64 a1.Kind), .sl y2.length (fl (eI .u64) y2), .row (n + 3) z24.2.length]⟩, some ⟨true, 58, 3, z24.2.length, fl Zw z24.2⟩, none]) (n + 5))) ?_
  intro s0_ x0_ hs0_
  unfold Xs at hs0_
  try dsimp only
  refine Zh ?_
  refine Zh ?_
  obtain ⟨y10, hy10, hs0_⟩ := bC hs0_
  refine Zb Zc [] ?_
  simp only [push_cast, seval, ↓reduceIte, Za, hN0, hN]
  refine (Vn hy10).then ?_
  simp only [push_cast, seval, ↓reduceIte, Za, hN0, hN]
  refine Zg [0, 2, 3, 5, 8, 11, 13, 82] [true, true, true, true, false] ?_
  simp only [push_cast, seval, ↓reduceIte]
  refine Zr (t := (decide (s0_.2.1 < y10))) rfl (fun c23 => ?_) (fun c23 => ?_)
  ·replace hs0_ := Zv c23 hs0_
   refine Zx ?_
   try simp only [Zi, Zf]
   refine Zg [0, 2, 3, 5, 8, 11, 13] [true, true, true, true, false] ?_
   simp only [push_cast, seval, ↓reduceIte]
   refine Zh ?_
   refine Xc ?_
   refine Zh ?_
   obtain ⟨y12, hy12, hs0_⟩ := bC hs0_
   refine Zb Zc [] ?_
   simp only [push_cast, seval, ↓reduceIte, Za, hN0, hN]
   refine (Gr hy12).then ?_
   simp only [push_cast, seval, ↓reduceIte, Za, hN0, hN]
   refine Zg [0, 2, 3, 5, 8, 11, 13, 14, 15] [true, true, true, true, false, true] ?_
   simp only [push_cast, seval, ↓reduceIte]
   refine Zh ?_
   refine Zq [0, 2, 3, 5, 8, 11, 13, 14, 15, 93] (Zb Zc [] ?_)
   simp only [push_cast, seval, ↓reduceIte, Za, hN0, hN]
   refine Zr (t := (y12.2 != 0)) rfl (fun c22 => ?_) (fun c22 => ?_)
   ·replace hs0_ := Zv c22 hs0_
    refine Zh ?_
    refine Zb Zc [] ?_
    simp only [push_cast, seval, ↓reduceIte, Za, hN0, hN]
    refine Zg [8, 9, 10] [false, true, false, true, false, false] ?_
    simp only [push_cast, seval, ↓reduceIte]
    refine Zt ?_
    try simp only [Zi, Zf]
    have hs0_ := Option.some.inj hs0_; subst hs0_
    refine And.intro (fun h => by cases h) (And.intro rfl (Fit2.of (Zs hU rfl rfl ?_) (by omega)))
    simp only [push_cast, seval, ↓reduceIte, Za, hN0, hN]
   replace hs0_ := Zu c22 hs0_
   refine Zx ?_
   try simp only [Zi, Zf]
   refine Zg [0, 2, 3, 5, 8, 11, 13, 14, 15] [true, true, true, true, false, true] ?_
   simp only [push_cast, seval, ↓reduceIte]
   refine Zh ?_
   obtain ⟨y14, hy14, hs0_⟩ := bC hs0_
   refine Zhk Zc (by kernel_rfl) [.low, .low, .low, .low, .low, .low, .pass, .bar] (fun i => i < (n + 6)) [0, 1, 2, 3, 4, 5, 6, 7] [.low, .low, .low, .low, .low, .low, .pass, .bar] [] (by kernel_rfl) rfl ?_
   simp only [push_cast, seval, ↓reduceIte, Za, hN0, hN]
   repeat (with_reducible refine And.intro (by first | omega | exact Ka rfl | exact Q8 | exact U0 rfl | exact U7 rfl rfl) ?_)
   first | refine PCallA.of (fun _ _ => X0 hy14) ?_ | refine PCall.of (X0 hy14) ?_
   simp only [push_cast, seval, ↓reduceIte, Za, hN0, hN]
   repeat (with_reducible refine And.intro (by first | omega | exact Ka rfl | exact Q8 | exact U0 rfl | exact U7 rfl rfl) ?_)
   refine Zg [0, 2, 3, 5, 8, 11, 13, 14, 15, 16] [true, true, true, true, false, true, true] ?_
   simp only [push_cast, seval, ↓reduceIte]
   obtain ⟨z15, hz15, hs0_⟩ := bC hs0_
   refine Qn (E' := ⟨149, [], [(0, .sl a0.length (fl (eL (eI .u64)) a0)), (2, .val (.int .i64 a2)), (3, .val (.int .i64 z15.1)), (5, .ref n 0), (8, .ref (n + 1) 0), (11, .ref (n + 2) 0), (13, .val (.int .i64 s0_.2.1)), (15, .val (.int .i64 z15.2.1)), (16, .ref (n + 6) 0)]⟩) (O' := (Z4 O n [some ⟨false, 33, 7, 1, (Zn a1)⟩, some ⟨false, 58, 3, 1, [.val (.int .i64 0), .val (.slice none 0 0), .val (.slice none 0 0)]⟩, some ⟨false, 58, 3, 1, [.val (.int .i64 a1.Kind), .sl y2.length (fl (eI .u64) y2), .row (n + 3) s0_.2.2.length]⟩, some ⟨true, 58, 3, s0_.2.2.length, fl Zw s0_.2.2⟩, none, none, some ⟨false, 58, 3, 1, [.val (.int .i64 z15.2.2.1), .sl z15.2.2.2.1.length (fl (eI .u64) z15.2.2.2.1), .sl z15.2.2.2.2.length (fl Zw z15.2.2.2.2)]⟩])) (n0 := (n + 7)) ?_ ?_
   ·refine Xc ?_
    refine Zq [0, 2, 3, 5, 8, 11, 13, 14, 15, 16, 103] (Zb Zc [] ?_)
    simp only [push_cast, seval, ↓reduceIte, Za, hN0, hN]
    refine Zr (t := (a1.Kind == 9)) rfl (fun c19 => ?_) (fun c19 => ?_)
    ·replace hz15 := Zv c19 hz15
     obtain ⟨y16, hy16, hz15⟩ := bC hz15
     refine Zb Zc [] ?_
     simp only [push_cast, seval, ↓reduceIte, Za, hN0, hN]
     refine (Zax hy16).then ?_
     simp only [push_cast, seval, ↓reduceIte, Za, hN0, hN]
     have hz15 := Option.some.inj hz15; subst hz15
     refine And.intro rfl (Fit2.of (Zs hU rfl rfl ?_) (by omega))
     simp only [push_cast, seval, ↓reduceIte, Za, hN0, hN]
    replace hz15 := Zu c19 hz15
    refine Zq [0, 2, 3, 5, 8, 11, 13, 14, 15, 16, 117] (Zb Zc [none, none, none] ?_)
    simp only [push_cast, seval, ↓reduceIte, Za, hN0, hN]
    repeat (with_reducible refine And.intro (by first | (intro h0; simp only [h0, and_self]; done) | (intro h0; simp only [h0, Bool.not_false, Bool.not_true, Bool.true_and, Bool.and_true, true_and, and_true, and_self, imp_self, implies_true, bne_iff_ne, ne_eq, beq_iff_eq]; done) | (intros; simp_all; done) | exact True.intro) ?_)
    refine Zr (t := (cond (a1.Kind == 1) true (a1.Kind == 8))) rfl (fun c18 => ?_) (fun c18 => ?_)
    ·replace hz15 := Zv c18 hz15
     obtain ⟨y17, hy17, hz15⟩ := bC hz15
     refine Zb Zc [] ?_
     simp only [push_cast, seval, ↓reduceIte, Za, hN0, hN]
     refine (K5 hy17).then ?_
     simp only [push_cast, seval, ↓reduceIte, Za, hN0, hN]
     have hz15 := Option.some.inj hz15; subst hz15
     refine And.intro rfl (Fit2.of (Zs hU rfl rfl ?_) (by omega))
     simp only [push_cast, seval, ↓reduceIte, Za, hN0, hN]
    replace hz15 := Zu c18 hz15
    refine Zx ?_
    try simp only [Zi, Zf]
    have hz15 := Option.some.inj hz15; subst hz15
    refine And.intro rfl (Fit2.of (Zs hU rfl rfl ?_) (by omega))
    simp only [push_cast, seval, ↓reduceIte, Za, hN0, hN]
   refine Zh ?_
   refine Zq [0, 2, 3, 5, 8, 11, 13, 15, 16, 137] (Zb Zc [] ?_)
   simp only [push_cast, seval, ↓reduceIte, Za, hN0, hN]
   refine Zr (t := (z15.2.1 != 0)) rfl (fun c21 => ?_) (fun c21 => ?_)
   ·replace hs0_ := Zv c21 hs0_
    refine Zh ?_
    refine Zb Zc [] ?_
    simp only [push_cast, seval, ↓reduceIte, Za, hN0, hN]
    refine Zg [8, 9, 10] [false, true, false, true, false, false, false] ?_
    simp only [push_cast, seval, ↓reduceIte]
    refine Zt ?_
    try simp only [Zi, Zf]
    have hs0_ := Option.some.inj hs0_; subst hs0_
    refine And.intro (fun h => by cases h) (And.intro rfl (Fit2.of (Zs hU rfl rfl ?_) (by omega)))
    simp only [push_cast, seval, ↓reduceIte, Za, hN0, hN]
   replace hs0_ := Zu c21 hs0_
   refine Zx ?_
   try simp only [Zi, Zf]
   refine Zg [0, 2, 3, 5, 8, 11, 13, 16] [true, true, true, true, false, false, true] ?_
   simp only [push_cast, seval, ↓reduceIte]
   obtain ⟨l20, pl20, ql20, el20, hs0_⟩ := bA (k := 1) rfl hs0_
   refine Zb Zc [] ?_
   simp only [push_cast, seval, ↓reduceIte, Za, pl20, ql20, el20, hN0, hN]
   refine Zqp ⟨149, [], [(0, .sl a0.length (fl (eL (eI .u64)) a0)), (2, .val (.int .i64 a2)), (3, .val (.int .i64 z15.1)), (5, .ref n 0), (8, .ref (n + 1) 0), (11, .ref (n + 2) 0), (13, .val (.int .i64 s0_.2.1))]⟩ (Z4 O n [some ⟨false, 33, 7, 1, (Zn a1)⟩, some ⟨false, 58, 3, 1, [.val (.int .i64 0), .val (.slice none 0 0), .val (.slice none 0 0)]⟩, some ⟨false, 58, 3, 1, [.val (.int .i64 a1.Kind), .sl y2.length (fl (eI .u64) y2), .row (n + 3) l20.length]⟩, some ⟨true, 58, 3, l20.length, fl Zw l20⟩, none, none, none, none]) (Zs hU rfl rfl ?_) ?_
   ·simp only [push_cast, seval, ↓reduceIte, Za, pl20, ql20, el20, hN0, hN]
   refine Zb Zc [] ?_
   simp only [push_cast, seval, ↓reduceIte, Za, hN0, hN]
   have hs0_ := Option.some.inj hs0_; subst hs0_
   refine And.intro rfl (Fit2.of (Zs hU rfl rfl ?_) (by omega))
   simp only [push_cast, seval, ↓reduceIte, Za, hN0, hN]
  replace hs0_ := Zu c23 hs0_
  refine Gt ?_
  try simp only [Zi, Zf, ↓reduceIte, Nat.reduceEqDiff]
  have hs0_ := Option.some.inj hs0_; subst hs0_
  refine And.intro (fun h => by cases h) (And.intro rfl (Fit2.of (Zs hU rfl rfl ?_) (by omega)))
  simp only [push_cast, seval, ↓reduceIte, Za, hN0, hN]
 rcases z24 with z24 | z24
 ·dsimp only [Zaf] at hw h
  refine Zfs hw ?_
  try simp only [Zi, Zf, ↓reduceIte, Nat.reduceEqDiff]
  have h := Option.some.inj h; subst h
  refine Zl (.inr rfl) hU [.agg [.val (.int .i64 a1.Kind), .sl y2.length (fl (eI .u64) y2), .sl z24.2.2.length (fl Zw z24.2.2)], .val (.int .i64 z24.1), .val (.int .i64 z24.2.1)] (by omega) ?_
  simp only [push_cast, seval, ↓reduceIte, Za, Try.results63, hN0, hN]
 dsimp only [Zaf] at hw h
 refine Kz hw ?_
 try simp only [Zi, Zf, ↓reduceIte, Nat.reduceEqDiff]
 refine Zg [3, 8, 11] [false, true, true, true, false] ?_
 simp only [push_cast, seval, ↓reduceIte]
 refine Zh ?_
 refine Zb Zc [] ?_
 simp only [push_cast, seval, ↓reduceIte, Za, hN0, hN]
 refine Zg [8, 9, 10] [false, true, false, true, false] ?_
 simp only [push_cast, seval, ↓reduceIte]
 refine Zt ?_
 try simp only [Zi, Zf]
 have h := Option.some.inj h; subst h
 refine Zl (.inr rfl) hU [.agg [.val (.int .i64 a1.Kind), .sl y2.length (fl (eI .u64) y2), .row (n + 3) z24.2.length], .val (.int .i64 z24.1), .val (.int .i64 0)] (by omega) ?_
 simp only [push_cast, seval, ↓reduceIte, Za, Try.results63, hN0, hN]
theorem Zh1 {Yi : ((List (List Int)) → Zm → Int → Int → Option (S_api_Tree × Int × Int))} {Yv : ((List (List Int)) → Zm → Int → Int → Option (S_api_Tree × Int × Int))} (K5 : ∀ {a0 : (List (List Int))} {a1 : Zm} {a2 : Int} {a3 : Int} {r : (S_api_Tree × Int × Int)} {O : Objs} {n : Nat}, Yi a0 a1 a2 a3 = some r → GTo Try.prog 63 [.sl a0.length (fl (eL (eI .u64)) a0), .agg (Zn a1), .val (.int .i64 a2), .val (.int .i64 a3)] O n (.tup [.agg (Zz r.1), .val (.int .i64 r.2.1), .val (.int .i64 r.2.2)]) O n) (Zax : ∀ {a0 : (List (List Int))} {a1 : Zm} {a2 : Int} {a3 : Int} {r : (S_api_Tree × Int × Int)} {O : Objs} {n : Nat}, Yv a0 a1 a2 a3 = some r → GTo Try.prog 87 [.sl a0.length (fl (eL (eI .u64)) a0), .agg (Zn a1), .val (.int .i64 a2), .val (.int .i64 a3)] O n (.tup [.agg (Zz r.1), .val (.int .i64 r.2.1), .val (.int .i64 r.2.2)]) O n) {a0 : (List (List Int))} {a1 : Zm} {a2 : Int} {a3 : Int} {r : (S_api_Tree × Int × Int)} {O : Objs} {n : Nat} (h : Q4 Yi Yv a0 a1 a2 a3 = some r) : GTo Try.prog 87 [.sl a0.length (fl (eL (eI .u64)) a0), .agg (Zn a1), .val (.int .i64 a2), .val (.int .i64 a3)] O n (.tup [.agg (Zz r.1), .val (.int .i64 r.2.1), .val (.int .i64 r.2.2)]) O n := by
 unfold Q4 at h
 refine Yn Zc Try.call87 Try.func87 rfl (Nat.le_of_ble_eq_true rfl) (Nat.le_refl _) fun hU => ?_
 have hN0 : O n = none := hU.fresh _ (Nat.le_refl _)
 have hN : ∀ k, O (n + k) = none := fun k => hU.fresh _ (Nat.le_add_right _ _)
 show W _ _ _ _ ⟨63, [], [(0, .sl a0.length (fl (eL (eI .u64)) a0)), (1, .agg (Zn a1)), (2, .val (.int .i64 a2)), (3, .val (.int .i64 a3))]⟩ (Z4 O n []) _
 refine Zq [0, 2, 3, 5, 8] (Zb Zc [] ?_)
 simp only [push_cast, seval, ↓reduceIte, Za, hN0, hN]
 refine Zh ?_
 obtain ⟨y2, hy2, h⟩ := bC h
 refine Zb Zc [] ?_
 simp only [push_cast, seval, ↓reduceIte, Za, hN0, hN]
 refine (X0 hy2).then ?_
 simp only [push_cast, seval, ↓reduceIte, Za, hN0, hN]
 refine Zg [0, 2, 3, 5, 8, 11] [true, true, true] ?_
 simp only [push_cast, seval, ↓reduceIte]
 refine Zh ?_
 refine Zq [0, 2, 3, 5, 8, 11, 12] (Zb Zc [] ?_)
 simp only [push_cast, seval, ↓reduceIte, Za, hN0, hN]
 refine Zg [0, 2, 3, 5, 8, 11, 12] [true, true, true] ?_
 simp only [push_cast, seval, ↓reduceIte]
 refine Zs2 (E' := (⟨63, [], [(0, .sl a0.length (fl (eL (eI .u64)) a0)), (2, .val (.int .i64 a2)), (3, .val (.int .i64 a3)), (5, .ref n 0), (8, .ref (n + 1) 0), (11, .ref (n + 2) 0), (12, .val (.int .i64 0))]⟩ : Env)) (O' := (Z4 O n [some ⟨false, 33, 7, 1, (Zn a1)⟩, some ⟨false, 58, 3, 1, [.val (.int .i64 0), .val (.slice none 0 0), .val (.slice none 0 0)]⟩, some ⟨false, 58, 3, 1, [.val (.int .i64 1), .sl y2.length (fl (eI .u64) y2), .row (n + 3) ([] : List S_api_Tree).length]⟩, some ⟨true, 58, 3, ([] : List S_api_Tree).length, fl Zw ([] : List S_api_Tree)⟩, none])) (n' := (n + 5)) ?_ ?_
 ·refine Fit2.trans (E' := (⟨63, [], [(0, .sl a0.length (fl (eL (eI .u64)) a0)), (2, .val (.int .i64 a2)), (3, .val (.int .i64 a3)), (5, .ref n 0), (8, .ref (n + 1) 0), (11, .ref (n + 2) 0), (12, .val (.int .i64 0))]⟩ : Env)) (O' := (Z4 O n [some ⟨false, 33, 7, 1, (Zn a1)⟩, some ⟨false, 58, 3, 1, [.val (.int .i64 0), .val (.slice none 0 0), .val (.slice none 0 0)]⟩, some ⟨false, 58, 3, 1, [.val (.int .i64 1), .sl y2.length (fl (eI .u64) y2), .val (.slice none 0 0)]⟩])) (n' := (n + 3)) (Fit2.of (Zs hU rfl rfl ?_) (by omega)) ?_
  ·simp only [push_cast, seval, ↓reduceIte, Za, hN0, hN]
  refine Fit2.trans (E' := (⟨63, [], [(0, .sl a0.length (fl (eL (eI .u64)) a0)), (2, .val (.int .i64 a2)), (3, .val (.int .i64 a3)), (5, .ref n 0), (8, .ref (n + 1) 0), (11, .ref (n + 2) 0), (12, .val (.int .i64 0))]⟩ : Env)) (O' := (Z4 O n [some ⟨false, 33, 7, 1, (Zn a1)⟩, some ⟨false, 58, 3, 1, [.val (.int .i64 0), .val (.slice none 0 0), .val (.slice none 0 0)]⟩, some ⟨false, 58, 3, 1, [.val (.int .i64 1), .sl y2.length (fl (eI .u64) y2), .row (n + 3) 0]⟩, some ⟨true, 58, 3, 0, []⟩])) (n' := (n + 4)) ?_ ?_
  ·have ha := Zmj (ba := n) (E := (⟨63, [], [(0, .sl a0.length (fl (eL (eI .u64)) a0)), (2, .val (.int .i64 a2)), (3, .val (.int .i64 a3)), (5, .ref n 0), (8, .ref (n + 1) 0), (11, .ref (n + 2) 0), (12, .val (.int .i64 0))]⟩ : Env)) (O := (Z4 O n [some ⟨false, 33, 7, 1, [.val (.int .i64 a1.Kind), .val (.int .i64 a1.S), .val (.int .i64 a1.At), .val (.int .i64 a1.Data), .val (.int .i64 a1.Ptrs), .val (.int .i64 a1.Count), .val (.int .u64 a1.N)]⟩, some ⟨false, 58, 3, 1, [.val (.int .i64 0), .val (.slice none 0 0), .val (.slice none 0 0)]⟩, some ⟨false, 58, 3, 1, [.val (.int .i64 1), .sl y2.length (fl (eI .u64) y2), .val (.slice none 0 0)]⟩])) (n := (n + 3)) (p := (n + 2)) (k := 2) (q := ⟨false, 58, 3, 1, [.val (.int .i64 1), .sl y2.length (fl (eI .u64) y2), .val (.slice none 0 0)]⟩) 58 3 (by simp only [V9, Zem, List.getElem?_cons_zero, List.getElem?_cons_succ, Option.join_some, Xh]) rfl (by omega)
   simp only [Zae, Uz, Zc0, Zbq, List.set_cons_zero, List.set_cons_succ, List.cons_append, List.nil_append, List.length_cons, List.length_nil, Nat.zero_add, Nat.reduceAdd, Nat.reduceLT, Nat.add_assoc] at ha
   exact ha
  refine Fit2.trans (E' := (⟨63, [], [(0, .sl a0.length (fl (eL (eI .u64)) a0)), (2, .val (.int .i64 a2)), (3, .val (.int .i64 a3)), (5, .ref n 0), (8, .ref (n + 1) 0), (11, .ref (n + 2) 0), (12, .val (.int .i64 0))]⟩ : Env)) (O' := (Z4 O n [some ⟨false, 33, 7, 1, (Zn a1)⟩, some ⟨false, 58, 3, 1, [.val (.int .i64 0), .val (.slice none 0 0), .val (.slice none 0 0)]⟩, some ⟨false, 58, 3, 1, [.val (.int .i64 1), .sl y2.length (fl (eI .u64) y2), .row (n + 3) ([] : List S_api_Tree).length]⟩, some ⟨true, 58, 3, ([] : List S_api_Tree).length, fl Zw ([] : List S_api_Tree)⟩])) (n' := (n + 4)) (Fit2.of (Zs hU rfl rfl ?_) (by omega)) ?_
  ·simp only [push_cast, seval, ↓reduceIte, Za, hN0, hN]
  refine Zmd (k := 4) (k' := 5) hU [0, 1, 2, 3] [0, 1, 2, 3, 0] rfl rfl rfl rfl ⟨rfl, rfl⟩ ?_
  simp only [push_cast, seval, ↓reduceIte, Za, hN0, hN]
 obtain ⟨z11, hz11, h⟩ := bC h
 refine Zmi (J := (Zaf (fun z11 => JR n (⟨63, [], [(8, .ref (n + 1) 0), (9, .val (.int .i64 z11.1)), (10, .val (.int .i64 z11.2.1))]⟩ : Env) (Z4 O n [none, some ⟨false, 58, 3, 1, [.val (.int .i64 1), .sl y2.length (fl (eI .u64) y2), .sl z11.2.2.length (fl Zw z11.2.2)]⟩, none]) (n + 3)) (fun z11 => JX 0 n (⟨63, [], [(3, .val (.int .i64 z11.1)), (8, .ref (n + 1) 0), (11, .ref (n + 2) 0)]⟩ : Env) (Z4 O n [none, some ⟨false, 58, 3, 1, [.val (.int .i64 0), .val (.slice none 0 0), .val (.slice none 0 0)]⟩, some ⟨false, 58, 3, 1, [.val (.int .i64 1), .sl y2.length (fl (eI .u64) y2), .row (n + 3) z11.2.length]⟩, some ⟨true, 58, 3, z11.2.length, fl Zw z11.2⟩, none]) (n + 5)))) (z := z11) ?_ fun hw => ?_
 ·refine V4 hz11 (fun s0_ => ⟨63, [], [(0, .sl a0.length (fl (eL (eI .u64)) a0)), (2, .val (.int .i64 a2)), (3, .val (.int .i64 s0_.1)), (5, .ref n 0), (8, .ref (n + 1) 0), (11, .ref (n + 2) 0), (12, .val (.int .i64 s0_.2.1))]⟩) (fun s0_ => (Z4 O n [some ⟨false, 33, 7, 1, (Zn a1)⟩, some ⟨false, 58, 3, 1, [.val (.int .i64 0), .val (.slice none 0 0), .val (.slice none 0 0)]⟩, some ⟨false, 58, 3, 1, [.val (.int .i64 1), .sl y2.length (fl (eI .u64) y2), .row (n + 3) s0_.2.2.length]⟩, some ⟨true, 58, 3, s0_.2.2.length, fl Zw s0_.2.2⟩, none])) (Zaf (fun z11 => JR n (⟨63, [], [(8, .ref (n + 1) 0), (9, .val (.int .i64 z11.1)), (10, .val (.int .i64 z11.2.1))]⟩ : Env) (Z4 O n [none, some ⟨false, 58, 3, 1, [.val (.int .i64 1), .sl y2.length (fl (eI .u64) y2), .sl z11.2.2.length (fl Zw z11.2.2)]⟩, none]) (n + 3)) (fun z11 => JX 0 n (⟨63, [], [(3, .val (.int .i64 z11.1)), (8, .ref (n + 1) 0), (11, .ref (n + 2) 0)]⟩ : Env) (Z4 O n [none, some ⟨false, 58, 3, 1, [.val (.int .i64 0), .val (.slice none 0 0), .val (.slice none 0 0)]⟩, some ⟨false, 58, 3, 1, [.val (.int .i64 1), .sl y2.length (fl (eI .u64) y2), .row (n + 3) z11.2.length]⟩, some ⟨true, 58, 3, z11.2.length, fl Zw z11.2⟩, none]) (n + 5))) ?_
  intro s0_ x0_ hs0_
  unfold Qz at hs0_
  try dsimp only
  refine Zh ?_
  refine Zq [0, 2, 3, 5, 8, 11, 12, 25] (Zb Zc [] ?_)
  simp only [push_cast, seval, ↓reduceIte, Za, hN0, hN]
  refine Zr (t := (decide (s0_.2.1 < a1.Ptrs))) rfl (fun c10 => ?_) (fun c10 => ?_)
  ·replace hs0_ := Zv c10 hs0_
   refine Zx ?_
   try simp only [Zi, Zf]
   refine Zg [0, 2, 3, 5, 8, 11, 12] [true, true, true, true, false] ?_
   simp only [push_cast, seval, ↓reduceIte]
   refine Zh ?_
   refine Xc ?_
   refine Zh ?_
   obtain ⟨y4, hy4, hs0_⟩ := bC hs0_
   refine Zb Zc [] ?_
   simp only [push_cast, seval, ↓reduceIte, Za, hN0, hN]
   refine (Gr hy4).then ?_
   simp only [push_cast, seval, ↓reduceIte, Za, hN0, hN]
   refine Zg [0, 2, 3, 5, 8, 11, 12, 13, 14] [true, true, true, true, false, true] ?_
   simp only [push_cast, seval, ↓reduceIte]
   refine Zh ?_
   refine Zq [0, 2, 3, 5, 8, 11, 12, 13, 14, 36] (Zb Zc [] ?_)
   simp only [push_cast, seval, ↓reduceIte, Za, hN0, hN]
   refine Zr (t := (y4.2 != 0)) rfl (fun c9 => ?_) (fun c9 => ?_)
   ·replace hs0_ := Zv c9 hs0_
    refine Zh ?_
    refine Zb Zc [] ?_
    simp only [push_cast, seval, ↓reduceIte, Za, hN0, hN]
    refine Zg [8, 9, 10] [false, true, false, true, false, false] ?_
    simp only [push_cast, seval, ↓reduceIte]
    refine Zt ?_
    try simp only [Zi, Zf]
    have hs0_ := Option.some.inj hs0_; subst hs0_
    refine And.intro (fun h => by cases h) (And.intro rfl (Fit2.of (Zs hU rfl rfl ?_) (by omega)))
    simp only [push_cast, seval, ↓reduceIte, Za, hN0, hN]
   replace hs0_ := Zu c9 hs0_
   refine Zx ?_
   try simp only [Zi, Zf]
   refine Zg [0, 2, 3, 5, 8, 11, 12, 13] [true, true, true, true, false, true] ?_
   simp only [push_cast, seval, ↓reduceIte]
   refine Zh ?_
   obtain ⟨y6, hy6, hs0_⟩ := bC hs0_
   refine Zb Zc [] ?_
   simp only [push_cast, seval, ↓reduceIte, Za, hN0, hN]
   refine (K5 hy6).then ?_
   simp only [push_cast, seval, ↓reduceIte, Za, hN0, hN]
   refine Zg [0, 2, 5, 8, 11, 12, 15, 16, 17] [true, true, true, true, false, false, true] ?_
   simp only [push_cast, seval, ↓reduceIte]
   refine Zh ?_
   refine Zq [0, 2, 5, 8, 11, 12, 15, 16, 17, 50] (Zb Zc [] ?_)
   simp only [push_cast, seval, ↓reduceIte, Za, hN0, hN]
   refine Zr (t := (y6.2.2 != 0)) rfl (fun c8 => ?_) (fun c8 => ?_)
   ·replace hs0_ := Zv c8 hs0_
    refine Zh ?_
    refine Zb Zc [] ?_
    simp only [push_cast, seval, ↓reduceIte, Za, hN0, hN]
    refine Zg [8, 9, 10] [false, true, false, true, false, false, false] ?_
    simp only [push_cast, seval, ↓reduceIte]
    refine Zt ?_
    try simp only [Zi, Zf]
    have hs0_ := Option.some.inj hs0_; subst hs0_
    refine And.intro (fun h => by cases h) (And.intro rfl (Fit2.of (Zs hU rfl rfl ?_) (by omega)))
    simp only [push_cast, seval, ↓reduceIte, Za, hN0, hN]
   replace hs0_ := Zu c8 hs0_
   refine Zx ?_
   try simp only [Zi, Zf]
   refine Zg [0, 2, 5, 8, 11, 12, 15, 16] [true, true, true, true, false, false, true] ?_
   simp only [push_cast, seval, ↓reduceIte]
   refine Zq [0, 2, 3, 5, 8, 11, 12, 15] (Zb Zc [] ?_)
   simp only [push_cast, seval, ↓reduceIte, Za, hN0, hN]
   obtain ⟨l7, pl7, ql7, el7, hs0_⟩ := bA (k := 1) rfl hs0_
   refine Zb Zc [] ?_
   simp only [push_cast, seval, ↓reduceIte, Za, pl7, ql7, el7, hN0, hN]
   refine Zqp ⟨63, [], [(0, .sl a0.length (fl (eL (eI .u64)) a0)), (2, .val (.int .i64 a2)), (3, .val (.int .i64 y6.2.1)), (5, .ref n 0), (8, .ref (n + 1) 0), (11, .ref (n + 2) 0), (12, .val (.int .i64 s0_.2.1))]⟩ (Z4 O n [some ⟨false, 33, 7, 1, (Zn a1)⟩, some ⟨false, 58, 3, 1, [.val (.int .i64 0), .val (.slice none 0 0), .val (.slice none 0 0)]⟩, some ⟨false, 58, 3, 1, [.val (.int .i64 1), .sl y2.length (fl (eI .u64) y2), .row (n + 3) l7.length]⟩, some ⟨true, 58, 3, l7.length, fl Zw l7⟩, none, none, none, none]) (Zs hU rfl rfl ?_) ?_
   ·simp only [push_cast, seval, ↓reduceIte, Za, pl7, ql7, el7, hN0, hN]
   refine Zb Zc [] ?_
   simp only [push_cast, seval, ↓reduceIte, Za, hN0, hN]
   have hs0_ := Option.some.inj hs0_; subst hs0_
   refine And.intro rfl (Fit2.of (Zs hU rfl rfl ?_) (by omega))
   simp only [push_cast, seval, ↓reduceIte, Za, hN0, hN]
  replace hs0_ := Zu c10 hs0_
  refine Gt ?_
  try simp only [Zi, Zf, ↓reduceIte, Nat.reduceEqDiff]
  have hs0_ := Option.some.inj hs0_; subst hs0_
  refine And.intro (fun h => by cases h) (And.intro rfl (Fit2.of (Zs hU rfl rfl ?_) (by omega)))
  simp only [push_cast, seval, ↓reduceIte, Za, hN0, hN]
 rcases z11 with z11 | z11
 ·dsimp only [Zaf] at hw h
  refine Zfs hw ?_
  try simp only [Zi, Zf, ↓reduceIte, Nat.reduceEqDiff]
  have h := Option.some.inj h; subst h
  refine Zl (.inr rfl) hU [.agg [.val (.int .i64 1), .sl y2.length (fl (eI .u64) y2), .sl z11.2.2.length (fl Zw z11.2.2)], .val (.int .i64 z11.1), .val (.int .i64 z11.2.1)] (by omega) ?_
  simp only [push_cast, seval, ↓reduceIte, Za, Try.results87, hN0, hN]
 dsimp only [Zaf] at hw h
 refine Kz hw ?_
 try simp only [Zi, Zf, ↓reduceIte, Nat.reduceEqDiff]
 refine Zg [3, 8, 11] [false, true, true, true, false] ?_
 simp only [push_cast, seval, ↓reduceIte]
 refine Zh ?_
 refine Zb Zc [] ?_
 simp only [push_cast, seval, ↓reduceIte, Za, hN0, hN]
 refine Zg [8, 9, 10] [false, true, false, true, false] ?_
 simp only [push_cast, seval, ↓reduceIte]
 refine Zt ?_
 try simp only [Zi, Zf]
 have h := Option.some.inj h; subst h
 refine Zl (.inr rfl) hU [.agg [.val (.int .i64 1), .sl y2.length (fl (eI .u64) y2), .row (n + 3) z11.2.length], .val (.int .i64 z11.1), .val (.int .i64 0)] (by omega) ?_
 simp only [push_cast, seval, ↓reduceIte, Za, Try.results87, hN0, hN]
theorem Zdc : ∀ k, (∀ {a0 : (List (List Int))} {a1 : Zm} {a2 : Int} {a3 : Int} {r : (S_api_Tree × Int × Int)} {O : Objs} {n : Nat}, (Yf k).1 a0 a1 a2 a3 = some r → GTo Try.prog 63 [.sl a0.length (fl (eL (eI .u64)) a0), .agg (Zn a1), .val (.int .i64 a2), .val (.int .i64 a3)] O n (.tup [.agg (Zz r.1), .val (.int .i64 r.2.1), .val (.int .i64 r.2.2)]) O n) ∧ (∀ {a0 : (List (List Int))} {a1 : Zm} {a2 : Int} {a3 : Int} {r : (S_api_Tree × Int × Int)} {O : Objs} {n : Nat}, (Yf k).2 a0 a1 a2 a3 = some r → GTo Try.prog 87 [.sl a0.length (fl (eL (eI .u64)) a0), .agg (Zn a1), .val (.int .i64 a2), .val (.int .i64 a3)] O n (.tup [.agg (Zz r.1), .val (.int .i64 r.2.1), .val (.int .i64 r.2.2)]) O n) := fun k => by
 induction k with
 | zero => exact ⟨@fun a0 a1 a2 a3 r O n h => (nomatch (show (none : Option _) = some _ from h)), @fun a0 a1 a2 a3 r O n h => (nomatch (show (none : Option _) = some _ from h))⟩
 | succ k ih => exact ⟨@fun a0 a1 a2 a3 r O n h => Zew (ih.1) (ih.2)  h, @fun a0 a1 a2 a3 r O n h => Zh1 (ih.1) (ih.2)  h⟩
theorem Zfd {a0 : (List (List Int))} {a1 : Zm} {a2 : Int} {a3 : Int} {r : (S_api_Tree × Int × Int)} {O : Objs} {n : Nat} (h : Vw a0 a1 a2 a3 = some r) : GTo Try.prog 63 [.sl a0.length (fl (eL (eI .u64)) a0), .agg (Zn a1), .val (.int .i64 a2), .val (.int .i64 a3)] O n (.tup [.agg (Zz r.1), .val (.int .i64 r.2.1), .val (.int .i64 r.2.2)]) O n := by
 obtain ⟨k, hk⟩ := Zf2 h
 exact (Zdc k).1  hk
theorem Zgb {a0 : (List (List Int))} {a1 : Zy} {r : (S_api_Tree × Int × Int)} {O : Objs} {n : Nat} (h : Jf a0 a1 = some r) : GTo Try.prog 32 [.sl a0.length (fl (eL (eI .u64)) a0), .agg (Yg a1)] O n (.tup [.agg (Zz r.1), .val (.int .i64 r.2.1), .val (.int .i64 r.2.2)]) O n := by
 unfold Jf at h
 refine Yn Zc Try.call32 Try.func32 rfl (Nat.le_of_ble_eq_true rfl) (Nat.le_refl _) fun hU => ?_
 have hN0 : O n = none := hU.fresh _ (Nat.le_refl _)
 have hN : ∀ k, O (n + k) = none := fun k => hU.fresh _ (Nat.le_add_right _ _)
 show W _ _ _ _ ⟨43, [], [(0, .sl a0.length (fl (eL (eI .u64)) a0)), (1, .agg (Yg a1))]⟩ (Z4 O n []) _
 refine Zq [0, 3, 4] (Zb Zc [] ?_)
 simp only [push_cast, seval, ↓reduceIte, Za, hN0, hN]
 refine Zh ?_
 obtain ⟨y2, hy2, h⟩ := bC h
 refine Zb Zc [] ?_
 simp only [push_cast, seval, ↓reduceIte, Za, hN0, hN]
 refine (Zga hy2).then ?_
 simp only [push_cast, seval, ↓reduceIte, Za, hN0, hN]
 refine Zg [0, 3, 4] [true, true] ?_
 simp only [push_cast, seval, ↓reduceIte]
 refine Zh ?_
 obtain ⟨y4, hy4, h⟩ := bC h
 refine Zb Zc [] ?_
 simp only [push_cast, seval, ↓reduceIte, Za, hN0, hN]
 refine (Gy hy4).then ?_
 simp only [push_cast, seval, ↓reduceIte, Za, hN0, hN]
 refine Zg [0, 3, 4, 7, 8] [true, true, true] ?_
 simp only [push_cast, seval, ↓reduceIte]
 refine Zh ?_
 refine Zq [0, 3, 4, 7, 8, 20] (Zb Zc [] ?_)
 simp only [push_cast, seval, ↓reduceIte, Za, hN0, hN]
 refine Zr (t := (y4.2 != 0)) rfl (fun c8 => ?_) (fun c8 => ?_)
 ·replace h := Zv c8 h
  refine Zh ?_
  refine Zb Zc [] ?_
  simp only [push_cast, seval, ↓reduceIte, Za, hN0, hN]
  refine Zg [4, 5, 6] [false, true, false] ?_
  simp only [push_cast, seval, ↓reduceIte]
  refine Zt ?_
  try simp only [Zi, Zf]
  have h := Option.some.inj h; subst h
  refine Zl (.inr rfl) hU [.agg [.val (.int .i64 0), .val (.slice none 0 0), .val (.slice none 0 0)], .val (.int .i64 0), .val (.int .i64 y4.2)] (by omega) ?_
  simp only [push_cast, seval, ↓reduceIte, Za, Try.results32, hN0, hN]
 replace h := Zu c8 h
 refine Zx ?_
 try simp only [Zi, Zf]
 refine Zg [0, 3, 4, 7] [true, true, true] ?_
 simp only [push_cast, seval, ↓reduceIte]
 refine Zh ?_
 obtain ⟨y6, hy6, h⟩ := bC h
 refine Zb Zc [] ?_
 simp only [push_cast, seval, ↓reduceIte, Za, hN0, hN]
 refine (Zfd hy6).then ?_
 simp only [push_cast, seval, ↓reduceIte, Za, hN0, hN]
 refine Zg [3, 4, 9, 10, 11] [true, true, false, true] ?_
 simp only [push_cast, seval, ↓reduceIte]
 refine Zh ?_
 refine Zq [3, 4, 9, 10, 11, 35] (Zb Zc [] ?_)
 simp only [push_cast, seval, ↓reduceIte, Za, hN0, hN]
 refine Zr (t := (y6.2.2 != 0)) rfl (fun c7 => ?_) (fun c7 => ?_)
 ·replace h := Zv c7 h
  refine Zh ?_
  refine Zb Zc [] ?_
  simp only [push_cast, seval, ↓reduceIte, Za, hN0, hN]
  refine Zg [4, 5, 6] [false, true, false, false] ?_
  simp only [push_cast, seval, ↓reduceIte]
  refine Zt ?_
  try simp only [Zi, Zf]
  have h := Option.some.inj h; subst h
  refine Zl (.inr rfl) hU [.agg [.val (.int .i64 0), .val (.slice none 0 0), .val (.slice none 0 0)], .val (.int .i64 0), .val (.int .i64 y6.2.2)] (by omega) ?_
  simp only [push_cast, seval, ↓reduceIte, Za, Try.results32, hN0, hN]
 replace h := Zu c7 h
 refine Zx ?_
 try simp only [Zi, Zf]
 refine Zg [3, 4, 9, 10] [true, true, false, true] ?_
 simp only [push_cast, seval, ↓reduceIte]
 refine Zh ?_
 refine Zhk Zc (by kernel_rfl) [.plain, .low, .low, .low, .low, .pass, .plain, .plain] (fun i => i ≠ n + 1) [0, 1, 2, 3, 4, 5, 6, 7] [.plain, .low, .low, .low, .low, .pass, .plain, .plain] [] (by kernel_rfl) rfl ?_
 simp only [push_cast, seval, ↓reduceIte, Za, hN0, hN]
 repeat (with_reducible refine And.intro (by first | omega | exact Ka rfl | exact Q8 | exact U0 rfl | exact U7 rfl rfl) ?_)
 refine Zg [4, 5, 6] [false, true, false, false] ?_
 simp only [push_cast, seval, ↓reduceIte]
 refine Zt ?_
 try simp only [Zi, Zf]
 have h := Option.some.inj h; subst h
 refine Zl (.inr rfl) hU [.agg (Zz y6.1), .val (.int .i64 (IntKind.i64.wrap (y2.Weight - y6.2.1))), .val (.int .i64 0)] (by omega) ?_
 simp only [push_cast, seval, ↓reduceIte, Za, Try.results32, hN0, hN]
end Go.Proofs.Ytmlhokaflhlhbaa
