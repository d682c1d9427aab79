/- Part VD of this seat's mirrors: functions of the seat's program, and the plain functions that they are; each theorem bears its own conditions. -/
import Derived.Test.YtbcgiaijjaocdaaH25
namespace Go.Proofs.Ytbcgiaijjaocdaa
open Go.RowKit
set_option linter.unusedVariables false
set_option linter.unusedSimpArgs false
set_option maxRecDepth 100000
set_option maxHeartbeats 1000000
structure S_api_Tree where
 Kind : Int
 Words : (List Int)
 Kids : (List S_api_Tree)
noncomputable def Xj (Q7 : (S_api_Tree → Int → Int → Option Int)) (a0 : S_api_Tree) (a1 : Int) (s0_ : (Int × Int)) : Option ((Int × Int) ⊕ Int) :=
 cond (cond (decide (s0_.2 < (a0.Kids.length : Int))) (decide (0 ≤ s0_.1)) false) ((Xf a0.Kids s0_.2).bind fun x1 => (Q7 x1 (IntKind.i64.wrap (a1 - 1)) s0_.1).bind fun y2 => some (.inl (y2, (IntKind.i64.wrap (s0_.2 + 1))))) (some (.inr s0_.1))
noncomputable def Xo (Q7 : (S_api_Tree → Int → Int → Option Int)) (a0 : S_api_Tree) (a1 : Int) (a2 : Int) : Option Int :=
 cond (cond (a1 == 0) true (decide ((IntKind.i64.wrap ((IntKind.i64.wrap (a2 - 1)) - (a0.Words.length : Int))) < 0))) (some (-1)) ((Zz (Xj Q7 a0 a1) ((IntKind.i64.wrap ((IntKind.i64.wrap (a2 - 1)) - (a0.Words.length : Int))), 0)).bind fun (z4 : Int) => some z4)
noncomputable def Yo : Nat → (S_api_Tree → Int → Int → Option Int)
 | 0 => (fun _ _ _ => none)
 | k + 1 => Xo ((Yo k))
noncomputable def Xq (a0 : S_api_Tree) (a1 : Int) (a2 : Int) : Option Int := lim fun k => (Yo k) a0 a1 a2
noncomputable def Ut (a0 : S_api_Tree) : Option Bool :=
 (Xq a0 80 3000).bind fun y2 => some (decide (0 ≤ y2))
noncomputable def Zb3 (a0 : Int) : Option Int :=
 cond (a0 == 0) (some 0) (cond (a0 == 1) (some 1) (cond (a0 == 2) (some 8) (cond (a0 == 3) (some 16) (cond (a0 == 4) (some 32) (cond (a0 == 5) (some 64) (some (-1)))))))
noncomputable def Xp (y2 : Int) (s0_ : (Int × Int)) : Option ((Int × Int) ⊕ Int) :=
 cond (decide (s0_.2 < y2)) (some (.inl ((IntKind.u64.wrap (Int.tdiv s0_.1 2)), (IntKind.i64.wrap (s0_.2 + 1))))) (some (.inr s0_.1))
noncomputable def Kq (a0 : Int) (a1 : Int) : Option Bool :=
 (Zb3 a0).bind fun y2 => cond (decide (y2 < 0)) (some false) ((Zz (Xp y2) (a1, 0)).bind fun (z4 : Int) => some (z4 == 0))
noncomputable def Ju (J9 : (S_api_Tree → Int → Option Bool)) (a0 : S_api_Tree) (a1 : Int) (s0_ : Int) : Option (Int ⊕ (Unit ⊕ Unit)) :=
 cond (decide (s0_ < (a0.Kids.length : Int))) ((Xf a0.Kids s0_).bind fun x2 => (J9 x2 (IntKind.i64.wrap (a1 - 1))).bind fun y4 => cond (!y4) (some (.inr (.inl ()))) ((cond ((cond (decide (2 ≤ a0.Kind)) (decide (a0.Kind ≤ 7)) false) != (x2.Kind == 10)) (some true) (cond (a0.Kind == 9) (cond (x2.Kind != 1) (some true) (cond (decide (2 ≤ a0.Kind)) (cond (decide (a0.Kind ≤ 7)) ((Xf x2.Words 0).bind fun x14 => (Kq (IntKind.i64.wrap (a0.Kind - 2)) x14).bind fun y15 => some (cond (cond ((cond (decide (2 ≤ a0.Kind)) (decide (a0.Kind ≤ 7)) false) != (x2.Kind == 10)) true (cond (a0.Kind == 9) (x2.Kind != 1) false)) true (cond (cond (decide (2 ≤ a0.Kind)) (decide (a0.Kind ≤ 7)) false) (!y15) false))) (some (cond (cond ((cond (decide (2 ≤ a0.Kind)) (decide (a0.Kind ≤ 7)) false) != (x2.Kind == 10)) true (cond (a0.Kind == 9) (x2.Kind != 1) false)) true false))) (some (cond (cond ((cond (decide (2 ≤ a0.Kind)) (decide (a0.Kind ≤ 7)) false) != (x2.Kind == 10)) true (cond (a0.Kind == 9) (x2.Kind != 1) false)) true false)))) (cond (decide (2 ≤ a0.Kind)) (cond (decide (a0.Kind ≤ 7)) ((Xf x2.Words 0).bind fun x16 => (Kq (IntKind.i64.wrap (a0.Kind - 2)) x16).bind fun y17 => some (cond (cond ((cond (decide (2 ≤ a0.Kind)) (decide (a0.Kind ≤ 7)) false) != (x2.Kind == 10)) true (cond (a0.Kind == 9) (x2.Kind != 1) false)) true (cond (cond (decide (2 ≤ a0.Kind)) (decide (a0.Kind ≤ 7)) false) (!y17) false))) (some (cond (cond ((cond (decide (2 ≤ a0.Kind)) (decide (a0.Kind ≤ 7)) false) != (x2.Kind == 10)) true (cond (a0.Kind == 9) (x2.Kind != 1) false)) true false))) (some (cond (cond ((cond (decide (2 ≤ a0.Kind)) (decide (a0.Kind ≤ 7)) false) != (x2.Kind == 10)) true (cond (a0.Kind == 9) (x2.Kind != 1) false)) true false))))).bind fun (z9 : Bool) => cond z9 (some (.inr (.inl ()))) (some (.inl (IntKind.i64.wrap (s0_ + 1)))))) (some (.inr (.inr ())))
noncomputable def Vb (J9 : (S_api_Tree → Int → Option Bool)) (a0 : S_api_Tree) (a1 : Int) : Option Bool :=
 cond (a0.Kind == 0) (some (cond ((a0.Words.length : Int) == 0) ((a0.Kids.length : Int) == 0) false)) (cond (a0.Kind == 10) (some (cond ((a0.Words.length : Int) == 1) ((a0.Kids.length : Int) == 0) false)) (cond (cond (cond (cond (cond (cond (decide (a0.Kind < 0)) true (decide (10 < a0.Kind))) true (a1 == 0)) true (decide (65536 ≤ (a0.Words.length : Int)))) true (cond (a0.Kind == 1) (decide (65536 ≤ (a0.Kids.length : Int))) false)) true (decide (1048576 ≤ (a0.Kids.length : Int)))) (some false) (cond (cond (decide (1 < a0.Kind)) (decide (0 < (a0.Words.length : Int))) false) (some false) ((Zz (Ju J9 a0 a1) 0).bind fun (z28 : (Unit ⊕ Unit)) => match z28 with | .inl z28 => some false | .inr z28 => some true))))
noncomputable def Qi : Nat → (S_api_Tree → Int → Option Bool)
 | 0 => (fun _ _ => none)
 | k + 1 => Vb ((Qi k))
noncomputable def J5 (a0 : S_api_Tree) (a1 : Int) : Option Bool := lim fun k => (Qi k) a0 a1
noncomputable def Qn (a0 : S_api_Tree) : Option Bool :=
 ((Ut a0).bind fun y6 => cond y6 ((J5 a0 64).bind fun y7 => some (cond (cond y6 y7 false) (a0.Kind != 10) false)) (some false)).bind fun (z3 : Bool) => some z3
structure Zq where
 At : Int
 Mask : Int
 Old : Int
 New : Int
mutual
structure S_api_Edit where
 Kind : Int
 Old : S_api_Tree
 New : S_api_Tree
 Words : (List Zq)
 Kids : (List S_api_KidEdit)
 List_ : Int
 Ops : (List S_api_Op)
structure S_api_Op where
 Kind : Int
 N : Int
 L : (List S_api_Tree)
 E : S_api_Edit
structure S_api_KidEdit where
 At : Int
 E : S_api_Edit
end
noncomputable def Qb (X8 : (S_api_Edit → Int → Int → Option Int)) (a0 : S_api_Edit) (a1 : Int) (s0_ : (Int × Int)) : Option ((Int × Int) ⊕ Int) :=
 cond (cond (decide (s0_.2 < (a0.Kids.length : Int))) (decide (0 ≤ s0_.1)) false) ((Xf a0.Kids s0_.2).bind fun x6 => (X8 x6.E (IntKind.i64.wrap (a1 - 1)) s0_.1).bind fun y8 => some (.inl (y8, (IntKind.i64.wrap (s0_.2 + 1))))) (some (.inr s0_.1))
noncomputable def Kg (a0 : S_api_Edit) (s1_ : (Int × Int)) (s2_ : (Int × Int)) : Option ((Int × Int) ⊕ Int) :=
 (Xf a0.Ops s1_.2).bind fun x14 => cond (cond (decide (s2_.2 < (x14.L.length : Int))) (decide (0 ≤ s2_.1)) false) ((Xf a0.Ops s1_.2).bind fun x16 => (Xf x16.L s2_.2).bind fun x18 => (Xq x18 80 s2_.1).bind fun y19 => some (.inl (y19, (IntKind.i64.wrap (s2_.2 + 1))))) (some (.inr s2_.1))
noncomputable def Qc (X8 : (S_api_Edit → Int → Int → Option Int)) (a0 : S_api_Edit) (a1 : Int) (s1_ : (Int × Int)) : Option ((Int × Int) ⊕ Int) :=
 cond (cond (decide (s1_.2 < (a0.Ops.length : Int))) (decide (0 ≤ s1_.1)) false) (((Zz (Kg a0 s1_) (s1_.1, 0)).bind fun (z21 : Int) => cond (decide (0 ≤ z21)) ((Xf a0.Ops s1_.2).bind fun x22 => (X8 x22.E (IntKind.i64.wrap (a1 - 1)) z21).bind fun y24 => some y24) (some z21)).bind fun (z11 : Int) => some (.inl (z11, (IntKind.i64.wrap (s1_.2 + 1))))) (some (.inr s1_.1))
noncomputable def Qm (X8 : (S_api_Edit → Int → Int → Option Int)) (a0 : S_api_Edit) (a1 : Int) (a2 : Int) : Option Int :=
 cond (cond (a1 == 0) true (decide ((IntKind.i64.wrap ((IntKind.i64.wrap ((IntKind.i64.wrap (a2 - 1)) - (a0.Words.length : Int))) - (a0.Ops.length : Int))) < 0))) (some (-1)) ((Xq a0.Old 80 (IntKind.i64.wrap ((IntKind.i64.wrap ((IntKind.i64.wrap (a2 - 1)) - (a0.Words.length : Int))) - (a0.Ops.length : Int)))).bind fun y2 => (cond (decide (0 ≤ y2)) ((Xq a0.New 80 y2).bind fun y4 => some y4) (some y2)).bind fun (z3 : Int) => (Zz (Qb X8 a0 a1) (z3, 0)).bind fun (z10 : Int) => (Zz (Qc X8 a0 a1) (z10, 0)).bind fun (z27 : Int) => some z27)
noncomputable def Yh : Nat → (S_api_Edit → Int → Int → Option Int)
 | 0 => (fun _ _ _ => none)
 | k + 1 => Qm ((Yh k))
noncomputable def Zcm (a0 : S_api_Edit) (a1 : Int) (a2 : Int) : Option Int := lim fun k => (Yh k) a0 a1 a2
noncomputable def Uu (a0 : S_api_Edit) : Option Bool :=
 (Zcm a0 80 3000).bind fun y2 => some (decide (0 ≤ y2))
noncomputable def Qo (a0 : S_api_Tree) : Option Bool :=
 some (cond (a0.Kind == 0) ((IntKind.i64.wrap ((a0.Words.length : Int) + (a0.Kids.length : Int))) == 0) false)
noncomputable def Jx (s0_ : (Int × Int × (Arr Int 8))) : Option ((Int × Int × (Arr Int 8)) ⊕ (Arr Int 8)) :=
 cond (decide (s0_.2.1 < 8)) ((Xf s0_.2.2.1 s0_.2.1).bind fun x15 => some (.inl ((IntKind.u64.wrap (Int.tdiv s0_.1 256)), (IntKind.i64.wrap (s0_.2.1 + 1)), (Arr.put s0_.2.2 s0_.2.1 (IntKind.u8.wrap (Int.tmod s0_.1 256)))))) (some (.inr s0_.2.2))
noncomputable def J4 (a0 : Int) : Option (Arr Int 8) :=
 ((some (⟨[0, 0, 0, 0, 0, 0, 0, 0], rfl⟩ : (Arr Int 8)))).bind fun y3 => ((some (⟨[0, 0, 0, 0, 0, 0, 0, 0], rfl⟩ : (Arr Int 8)))).bind fun y9 => (Zz (Jx) (a0, 0, y9)).bind fun (z18 : (Arr Int 8)) => some z18
noncomputable def Qt (a1 : Int) (s0_ : (Int × Int)) : Option ((Int × Int) ⊕ Int) :=
 cond (decide (s0_.2 < a1)) (some (.inl ((IntKind.u8.wrap (Int.tdiv s0_.1 2)), (IntKind.i64.wrap (s0_.2 + 1))))) (some (.inr s0_.1))
noncomputable def Vn (a0 : Int) (a1 : Int) : Option Bool :=
 (Zz (Qt a1) (a0, 0)).bind fun (z2 : Int) => some ((Int.tmod z2 2) == 1)
noncomputable def Vo (a0 : (List Int)) (a1 : Int) (s0_ : (Int × Int)) : Option ((Int × Int) ⊕ Int) :=
 cond (decide (0 ≤ s0_.2)) ((Xf a0 (IntKind.i64.wrap (a1 + s0_.2))).bind fun x1 => some (.inl ((IntKind.u64.wrap ((IntKind.u64.wrap (s0_.1 * 256)) + (IntKind.u64.wrap x1))), (IntKind.i64.wrap (s0_.2 - 1))))) (some (.inr s0_.1))
noncomputable def Zby (a0 : (List Int)) (a1 : Int) : Option Int :=
 (Zz (Vo a0 a1) (0, 7)).bind fun (z3 : Int) => some z3
noncomputable def K1 (a2 : Int) (y9 : (Arr Int 8)) (s0_ : (Int × (Arr Int 8))) : Option ((Int × (Arr Int 8)) ⊕ (Arr Int 8)) :=
 cond (decide (s0_.1 < 8)) (((Vn a2 s0_.1).bind fun y17 => cond y17 ((Xf y9.1 s0_.1).bind fun x18 => (Xf s0_.2.1 s0_.1).bind fun x19 => some (Arr.put s0_.2 s0_.1 x18)) (some s0_.2)).bind fun (z15 : (Arr Int 8)) => some (.inl ((IntKind.i64.wrap (s0_.1 + 1)), z15))) (some (.inr s0_.2))
noncomputable def Us (a0 : Int) (a1 : Int) (a2 : Int) : Option Int :=
 (J4 a0).bind fun y8 => (J4 a1).bind fun y9 => ((some (⟨[0, 0, 0, 0, 0, 0, 0, 0], rfl⟩ : (Arr Int 8)))).bind fun y10 => (Zz (K1 a2 y9) (0, y8)).bind fun (z23 : (Arr Int 8)) => (Zby z23.1 0).bind fun y29 => some y29
noncomputable def Jn (a0 : Int) (a1 : Int) : Option Bool :=
 (Us a0 0 a1).bind fun y2 => some (y2 == 0)
noncomputable def Kr (a0 : S_api_Edit) : Option Bool :=
 (cond (a0.Kind == 0) ((Qo a0.Old).bind fun y6 => cond y6 ((Qo a0.New).bind fun y7 => some (cond (cond (cond (cond (a0.Kind == 0) y6 false) y7 false) ((IntKind.i64.wrap ((IntKind.i64.wrap ((a0.Words.length : Int) + (a0.Kids.length : Int))) + (a0.Ops.length : Int))) == 0) false) (a0.List_ == 0) false)) (some false)) (some false)).bind fun (z3 : Bool) => some z3
noncomputable def Q4 (a0 : S_api_Edit) (s0_ : (Int × Int × Int)) : Option ((Int × Int × Int) ⊕ (Int × Int)) :=
 cond (decide (s0_.2.2 < (a0.Ops.length : Int))) (((Xf a0.Ops s0_.2.2).bind fun x3 => (cond (x3.Kind == 3) (some 1) (some (IntKind.i64.wrap (x3.N + (x3.L.length : Int))))).bind fun (z4 : Int) => (cond (x3.Kind != 2) (some (IntKind.i64.wrap (s0_.1 + z4))) (some s0_.1)).bind fun (z6 : Int) => (cond (x3.Kind != 1) (some (IntKind.i64.wrap (s0_.2.1 + z4))) (some s0_.2.1)).bind fun (z8 : Int) => (cond (decide (1048576 < z6)) (some 1048576) (some z6)).bind fun (z10 : Int) => cond (decide (1048576 < z8)) (some (z10, 1048576)) (some (z10, z8))).bind fun (z1 : (Int × Int)) => some (.inl (z1.1, z1.2, (IntKind.i64.wrap (s0_.2.2 + 1))))) (some (.inr (s0_.1, s0_.2.1)))
noncomputable def Q3 (a0 : S_api_Edit) : Option (Int × Int) :=
 (Zz (Q4 a0) (0, 0, 0)).bind fun (z14 : (Int × Int)) => some (z14.1, z14.2)
noncomputable def Qr (a0 : S_api_Edit) (s0_ : (Int × Int)) : Option ((Int × Int) ⊕ (Unit ⊕ Unit)) :=
 cond (decide (s0_.2 < (a0.Words.length : Int))) ((Xf a0.Words s0_.2).bind fun x19 => (cond (decide (x19.At ≤ s0_.1)) (some true) (cond (decide (65534 < x19.At)) (some true) (cond (x19.Mask == 0) (some true) ((Jn x19.Old x19.Mask).bind fun y25 => cond y25 ((Jn x19.New x19.Mask).bind fun y26 => some (cond (cond (cond (cond (decide (x19.At ≤ s0_.1)) true (decide (65534 < x19.At))) true (x19.Mask == 0)) true (!y25)) true (!y26))) (some true))))).bind fun (z22 : Bool) => cond z22 (some (.inr (.inl ()))) (some (.inl (x19.At, (IntKind.i64.wrap (s0_.2 + 1)))))) (some (.inr (.inr ())))
noncomputable def Qs (Y8 : (S_api_Edit → Int → Option Bool)) (a0 : S_api_Edit) (a1 : Int) (s1_ : (Int × Int)) : Option ((Int × Int) ⊕ (Unit ⊕ Unit)) :=
 cond (decide (s1_.2 < (a0.Kids.length : Int))) ((Xf a0.Kids s1_.2).bind fun x35 => (cond (decide (x35.At ≤ s1_.1)) (some true) (cond (decide (65534 < x35.At)) (some true) (cond (x35.E.Kind == 0) (some true) ((Y8 x35.E (IntKind.i64.wrap (a1 - 1))).bind fun y39 => some (cond (cond (cond (decide (x35.At ≤ s1_.1)) true (decide (65534 < x35.At))) true (x35.E.Kind == 0)) true (!y39)))))).bind fun (z37 : Bool) => cond z37 (some (.inr (.inl ()))) (some (.inl (x35.At, (IntKind.i64.wrap (s1_.2 + 1)))))) (some (.inr (.inr ())))
noncomputable def X2 (Qe : (Int → S_api_Op → Int → Option Bool)) (a0 : S_api_Edit) (a1 : Int) (s2_ : Int) : Option (Int ⊕ (Unit ⊕ Unit)) :=
 cond (decide (s2_ < (a0.Ops.length : Int))) ((Xf a0.Ops s2_).bind fun x48 => (Qe a0.List_ x48 (IntKind.i64.wrap (a1 - 1))).bind fun y49 => cond (!y49) (some (.inr (.inl ()))) (some (.inl (IntKind.i64.wrap (s2_ + 1))))) (some (.inr (.inr ())))
noncomputable def Vd (Y8 : (S_api_Edit → Int → Option Bool)) (Qe : (Int → S_api_Op → Int → Option Bool)) (a0 : S_api_Edit) (a1 : Int) : Option Bool :=
 cond (cond (cond (a1 == 0) true (decide (a0.Kind < 0))) true (decide (3 < a0.Kind))) (some false) ((cond (a0.Kind != 1) ((Qo a0.Old).bind fun y6 => cond y6 ((Qo a0.New).bind fun y7 => some (cond (cond (cond (a0.Kind != 1) (!(cond y6 y7 false)) false) true (cond (a0.Kind != 2) (decide (0 < (IntKind.i64.wrap ((a0.Words.length : Int) + (a0.Kids.length : Int))))) false)) true (cond (a0.Kind != 3) (cond (a0.List_ != 0) true (decide (0 < (a0.Ops.length : Int)))) false))) (some true)) (some (cond (cond (a0.Kind != 2) (decide (0 < (IntKind.i64.wrap ((a0.Words.length : Int) + (a0.Kids.length : Int))))) false) true (cond (a0.Kind != 3) (cond (a0.List_ != 0) true (decide (0 < (a0.Ops.length : Int)))) false)))).bind fun (z3 : Bool) => cond z3 (some false) (cond (a0.Kind == 1) (((J5 a0.Old 64).bind fun y15 => cond y15 ((J5 a0.New 64).bind fun y16 => some (cond (cond (cond y15 y16 false) (a0.Old.Kind != 10) false) (a0.New.Kind != 10) false)) (some false)).bind fun (z12 : Bool) => some z12) ((Zz (Qr a0) ((-1), 0)).bind fun (z33 : (Unit ⊕ Unit)) => match z33 with | .inl z33 => some false | .inr z33 => (Zz (Qs Y8 a0 a1) ((-1), 0)).bind fun (z45 : (Unit ⊕ Unit)) => match z45 with | .inl z45 => some false | .inr z45 => cond (cond (a0.Kind == 3) (cond (decide (a0.List_ < 2)) true (decide (9 < a0.List_))) false) (some false) ((Zz (X2 Qe a0 a1) 0).bind fun (z52 : (Unit ⊕ Unit)) => match z52 with | .inl z52 => some false | .inr z52 => (Q3 a0).bind fun y54 => some (cond (decide (y54.1 < 1048576)) (decide (y54.2 < 1048576)) false)))))
noncomputable def Ve (a0 : Int) (a1 : S_api_Op) (s0_ : Int) : Option (Int ⊕ (Unit ⊕ Unit)) :=
 cond (decide (s0_ < (a1.L.length : Int))) ((Zcb a1.L s0_ (IntKind.i64.wrap (s0_ + 1))).bind fun l10 => (J5 (⟨a0, [], l10⟩ : S_api_Tree) 64).bind fun y11 => cond (!y11) (some (.inr (.inl ()))) (some (.inl (IntKind.i64.wrap (s0_ + 1))))) (some (.inr (.inr ())))
noncomputable def Gh (Y8 : (S_api_Edit → Int → Option Bool)) (Qe : (Int → S_api_Op → Int → Option Bool)) (a0 : Int) (a1 : S_api_Op) (a2 : Int) : Option Bool :=
 cond (a1.Kind == 0) ((cond (decide (1 ≤ a1.N)) (cond (decide (a1.N ≤ 1048576)) (cond ((a1.L.length : Int) == 0) ((Kr a1.E).bind fun y4 => some (cond (cond (cond (decide (1 ≤ a1.N)) (decide (a1.N ≤ 1048576)) false) ((a1.L.length : Int) == 0) false) y4 false)) (some false)) (some false)) (some false)).bind fun (z2 : Bool) => some z2) (cond (cond (cond (a1.N != 0) true (decide (a1.Kind < 0))) true (decide (3 < a1.Kind))) (some false) (cond (decide (a1.Kind < 3)) ((Zz (Ve a0 a1) 0).bind fun (z14 : (Unit ⊕ Unit)) => match z14 with | .inl z14 => some false | .inr z14 => (cond (decide (0 < (a1.L.length : Int))) ((Kr a1.E).bind fun y18 => some (cond (decide (0 < (a1.L.length : Int))) y18 false)) (some false)).bind fun (z16 : Bool) => some z16) ((cond (decide (0 < (a1.L.length : Int))) (some true) (cond (a1.E.Kind == 0) (some true) (cond (decide (a0 ≤ 7)) (some true) ((Y8 a1.E a2).bind fun y23 => some (cond (cond (cond (decide (0 < (a1.L.length : Int))) true (a1.E.Kind == 0)) true (decide (a0 ≤ 7))) true (!y23)))))).bind fun (z21 : Bool) => cond z21 (some false) (some (cond (cond (a0 == 8) true (a1.E.Kind == 2)) true (cond (cond (a1.E.Kind == 1) (a1.E.Old.Kind == 1) false) (a1.E.New.Kind == 1) false))))))
noncomputable def Yd : Nat → ((S_api_Edit → Int → Option Bool) × (Int → S_api_Op → Int → Option Bool))
 | 0 => ((fun _ _ => none), (fun _ _ _ => none))
 | k + 1 => (Vd ((Yd k).1) ((Yd k).2), Gh ((Yd k).1) ((Yd k).2))
noncomputable def Zb5 (a0 : S_api_Edit) (a1 : Int) : Option Bool := lim fun k => (Yd k).1 a0 a1
noncomputable def Jv (Xu : (S_api_Edit → Option Bool)) (a0 : S_api_Edit) (s0_ : Int) : Option (Int ⊕ (Unit ⊕ Unit)) :=
 cond (decide (s0_ < (a0.Kids.length : Int))) ((Xf a0.Kids s0_).bind fun x6 => (Xu x6.E).bind fun y8 => cond (!y8) (some (.inr (.inl ()))) (some (.inl (IntKind.i64.wrap (s0_ + 1))))) (some (.inr (.inr ())))
noncomputable def Jw (Xu : (S_api_Edit → Option Bool)) (a0 : S_api_Edit) (s1_ : Int) : Option (Int ⊕ (Unit ⊕ Unit)) :=
 cond (decide (s1_ < (a0.Ops.length : Int))) ((Xf a0.Ops s1_).bind fun x15 => (Xu x15.E).bind fun y17 => cond (!y17) (some (.inr (.inl ()))) (some (.inl (IntKind.i64.wrap (s1_ + 1))))) (some (.inr (.inr ())))
noncomputable def Vc (Xu : (S_api_Edit → Option Bool)) (a0 : S_api_Edit) : Option Bool :=
 (Q3 a0).bind fun y2 => cond (cond (decide (2000 < y2.1)) true (decide (2000 < y2.2))) (some false) ((Zz (Jv Xu a0) 0).bind fun (z11 : (Unit ⊕ Unit)) => match z11 with | .inl z11 => some false | .inr z11 => (Zz (Jw Xu a0) 0).bind fun (z20 : (Unit ⊕ Unit)) => match z20 with | .inl z20 => some false | .inr z20 => some true)
noncomputable def Qj : Nat → (S_api_Edit → Option Bool)
 | 0 => (fun _ => none)
 | k + 1 => Vc ((Qj k))
noncomputable def Zb4 (a0 : S_api_Edit) : Option Bool := lim fun k => (Qj k) a0
noncomputable def Ub (a0 : S_api_Edit) : Option Bool :=
 ((Uu a0).bind fun y8 => cond y8 ((Zb5 a0 64).bind fun y9 => cond y9 ((Zb4 a0).bind fun y10 => some (cond (cond y8 y9 false) y10 false)) (some false)) (some false)).bind fun (z4 : Bool) => some z4
noncomputable def Vf (a0 : S_api_Edit) (s0_ : (Int × (List Zq))) : Option ((Int × (List Zq)) ⊕ (List Zq)) :=
 cond (decide (s0_.1 < (a0.Words.length : Int))) ((Xf a0.Words s0_.1).bind fun x2 => (U4 32 s0_.2 ([(⟨x2.At, x2.Mask, x2.New, x2.Old⟩ : Zq)] : List Zq)).bind fun l3 => some (.inl ((IntKind.i64.wrap (s0_.1 + 1)), l3))) (some (.inr s0_.2))
noncomputable def Vg (Xx : (S_api_Edit → Option S_api_Edit)) (a0 : S_api_Edit) (s1_ : (Int × (List S_api_KidEdit))) : Option ((Int × (List S_api_KidEdit)) ⊕ (List S_api_KidEdit)) :=
 cond (decide (s1_.1 < (a0.Kids.length : Int))) ((Xf a0.Kids s1_.1).bind fun x7 => (Xx x7.E).bind fun y8 => (U4 208 s1_.2 ([(⟨x7.At, y8⟩ : S_api_KidEdit)] : List S_api_KidEdit)).bind fun l9 => some (.inl ((IntKind.i64.wrap (s1_.1 + 1)), l9))) (some (.inr s1_.2))
noncomputable def Vh (Xm : (S_api_Op → Option S_api_Op)) (a0 : S_api_Edit) (s2_ : (Int × (List S_api_Op))) : Option ((Int × (List S_api_Op)) ⊕ (List S_api_Op)) :=
 cond (decide (s2_.1 < (a0.Ops.length : Int))) ((Xf a0.Ops s2_.1).bind fun x13 => (Xm x13).bind fun y14 => (U4 240 s2_.2 ([y14] : List S_api_Op)).bind fun l15 => some (.inl ((IntKind.i64.wrap (s2_.1 + 1)), l15))) (some (.inr s2_.2))
noncomputable def Gi (Xx : (S_api_Edit → Option S_api_Edit)) (Xm : (S_api_Op → Option S_api_Op)) (a0 : S_api_Edit) : Option S_api_Edit :=
 (Zz (Vf a0) (0, ([] : List Zq))).bind fun (z5 : (List Zq)) => (Zz (Vg Xx a0) (0, ([] : List S_api_KidEdit))).bind fun (z11 : (List S_api_KidEdit)) => (Zz (Vh Xm a0) (0, ([] : List S_api_Op))).bind fun (z17 : (List S_api_Op)) => some (⟨a0.Kind, a0.New, a0.Old, z5, z11, a0.List_, z17⟩ : S_api_Edit)
noncomputable def V3 (Xx : (S_api_Edit → Option S_api_Edit)) (Xm : (S_api_Op → Option S_api_Op)) (a0 : S_api_Op) : Option S_api_Op :=
 (cond (a0.Kind == 1) (some (2, a0.E.Kind, a0.E.Old.Kind, a0.E.Old.Words, a0.E.Old.Kids, a0.E.New.Kind, a0.E.New.Words, a0.E.New.Kids, a0.E.Words, a0.E.Kids, a0.E.List_, a0.E.Ops)) (cond (a0.Kind == 2) (some (1, a0.E.Kind, a0.E.Old.Kind, a0.E.Old.Words, a0.E.Old.Kids, a0.E.New.Kind, a0.E.New.Words, a0.E.New.Kids, a0.E.Words, a0.E.Kids, a0.E.List_, a0.E.Ops)) (cond (a0.Kind == 3) ((Xx a0.E).bind fun y2 => some (a0.Kind, y2.Kind, y2.Old.Kind, y2.Old.Words, y2.Old.Kids, y2.New.Kind, y2.New.Words, y2.New.Kids, y2.Words, y2.Kids, y2.List_, y2.Ops)) (some (a0.Kind, a0.E.Kind, a0.E.Old.Kind, a0.E.Old.Words, a0.E.Old.Kids, a0.E.New.Kind, a0.E.New.Words, a0.E.New.Kids, a0.E.Words, a0.E.Kids, a0.E.List_, a0.E.Ops))))).bind fun (z1 : (Int × Int × Int × (List Int) × (List S_api_Tree) × Int × (List Int) × (List S_api_Tree) × (List Zq) × (List S_api_KidEdit) × Int × (List S_api_Op))) => some (⟨z1.1, a0.N, a0.L, ⟨z1.2.1, ⟨z1.2.2.1, z1.2.2.2.1, z1.2.2.2.2.1⟩, ⟨z1.2.2.2.2.2.1, z1.2.2.2.2.2.2.1, z1.2.2.2.2.2.2.2.1⟩, z1.2.2.2.2.2.2.2.2.1, z1.2.2.2.2.2.2.2.2.2.1, z1.2.2.2.2.2.2.2.2.2.2.1, z1.2.2.2.2.2.2.2.2.2.2.2⟩⟩ : S_api_Op)
noncomputable def Yy : Nat → ((S_api_Edit → Option S_api_Edit) × (S_api_Op → Option S_api_Op))
 | 0 => ((fun _ => none), (fun _ => none))
 | k + 1 => (Gi ((Yy k).1) ((Yy k).2), V3 ((Yy k).1) ((Yy k).2))
noncomputable def Zd9 (a0 : S_api_Edit) : Option S_api_Edit := lim fun k => (Yy k).1 a0
noncomputable def K2 (a0 : (List Int)) (s0_ : Int) : Option (Int ⊕ Int) :=
 (cond (decide (0 < s0_)) ((Xf a0 (IntKind.i64.wrap (s0_ - 1))).bind fun x4 => some (cond (decide (0 < s0_)) (x4 == 0) false)) (some false)).bind fun (z2 : Bool) => cond z2 (some (.inl (IntKind.i64.wrap (s0_ - 1)))) (some (.inr s0_))
noncomputable def J6 (a0 : (List Int)) : Option (List Int) :=
 (Zz (K2 a0) (a0.length : Int)).bind fun (z7 : Int) => (Zcb a0 0 z7).bind fun l9 => some l9
noncomputable def Vp (a0 : (List S_api_Tree)) (s0_ : Int) : Option (Int ⊕ Int) :=
 (cond (decide (0 < s0_)) ((Xf a0 (IntKind.i64.wrap (s0_ - 1))).bind fun x6 => some (cond (decide (0 < s0_)) (x6.Kind == 0) false)) (some false)).bind fun (z3 : Bool) => cond z3 (some (.inl (IntKind.i64.wrap (s0_ - 1)))) (some (.inr s0_))
noncomputable def Ky (a0 : (List S_api_Tree)) : Option (List S_api_Tree) :=
 (Zz (Vp a0) (a0.length : Int)).bind fun (z10 : Int) => (Zcb a0 0 z10).bind fun l12 => some l12
noncomputable def Un (Zca : (S_api_Tree → Option S_api_Tree)) (z1 : ((List Int) × (List S_api_Tree))) (s0_ : (Int × (List S_api_Tree))) : Option ((Int × (List S_api_Tree)) ⊕ (List S_api_Tree)) :=
 cond (decide (s0_.1 < (z1.2.length : Int))) ((Xf z1.2 s0_.1).bind fun x9 => (Zca x9).bind fun y10 => (Xf s0_.2 s0_.1).bind fun x11 => some (.inl ((IntKind.i64.wrap (s0_.1 + 1)), (Zb7 s0_.2 s0_.1 y10)))) (some (.inr s0_.2))
noncomputable def Zds (Zca : (S_api_Tree → Option S_api_Tree)) (a0 : S_api_Tree) : Option S_api_Tree :=
 cond (a0.Kind == 0) (some (⟨0, [], []⟩ : S_api_Tree)) ((cond (a0.Kind == 1) ((J6 a0.Words).bind fun y2 => (Ky a0.Kids).bind fun y3 => some (y2, y3)) (some (a0.Words, a0.Kids))).bind fun (z1 : ((List Int) × (List S_api_Tree))) => (cond (decide (0 < (z1.2.length : Int))) ((Zh0 56 (z1.2.length : Int) (⟨(0 : Int), [], []⟩ : S_api_Tree)).bind fun l6 => some l6) (some ([] : List S_api_Tree))).bind fun (z5 : (List S_api_Tree)) => (Zz (Un Zca z1) (0, z5)).bind fun (z14 : (List S_api_Tree)) => some (⟨a0.Kind, z1.1, z14⟩ : S_api_Tree))
noncomputable def K5 : Nat → (S_api_Tree → Option S_api_Tree)
 | 0 => (fun _ => none)
 | k + 1 => Zds ((K5 k))
noncomputable def U0 (a0 : S_api_Tree) : Option S_api_Tree := lim fun k => (K5 k) a0
noncomputable def X3 (a0 : List Zq) : Option (List Zq) :=
 U4 32 ([] : List Zq) a0
structure Zr where
 out : (List S_api_Op)
 kept : Int
 gone : (List S_api_Tree)
 come : (List S_api_Tree)
noncomputable def Xb (a0 : Zr) : Option Zr :=
 (cond (decide (0 < a0.kept)) ((U4 240 a0.out ([(⟨0, 0, [], ⟨0, ⟨0, [], []⟩, ⟨0, [], []⟩, [], [], 0, []⟩⟩ : S_api_Op)] : List S_api_Op)).bind fun l2 => (Xf l2 (a0.out.length : Int)).bind fun x3 => some (a0.out ++ [(⟨0, a0.kept, [], ⟨0, ⟨0, [], []⟩, ⟨0, [], []⟩, [], [], 0, []⟩⟩ : S_api_Op)])) (some a0.out)).bind fun (z1 : (List S_api_Op)) => (cond (decide (0 < (a0.gone.length : Int))) ((U4 240 z1 ([(⟨0, 0, [], ⟨0, ⟨0, [], []⟩, ⟨0, [], []⟩, [], [], 0, []⟩⟩ : S_api_Op)] : List S_api_Op)).bind fun l9 => (Xf l9 (z1.length : Int)).bind fun x10 => some ((z1 ++ [(⟨1, 0, a0.gone, ⟨0, ⟨0, [], []⟩, ⟨0, [], []⟩, [], [], 0, []⟩⟩ : S_api_Op)]), a0.gone)) (some (z1, a0.gone))).bind fun (z6 : ((List S_api_Op) × (List S_api_Tree))) => (cond (decide (0 < (a0.come.length : Int))) ((U4 240 z6.1 ([(⟨0, 0, [], ⟨0, ⟨0, [], []⟩, ⟨0, [], []⟩, [], [], 0, []⟩⟩ : S_api_Op)] : List S_api_Op)).bind fun l16 => (Xf l16 (z6.1.length : Int)).bind fun x17 => some ((z6.1 ++ [(⟨2, 0, a0.come, ⟨0, ⟨0, [], []⟩, ⟨0, [], []⟩, [], [], 0, []⟩⟩ : S_api_Op)]), a0.come)) (some (z6.1, a0.come))).bind fun (z13 : ((List S_api_Op) × (List S_api_Tree))) => some (⟨z13.1, 0, [], []⟩ : Zr)
noncomputable def Q6 (a0 : Zr) (a1 : Int) : Option Zr :=
 (cond (a0.kept == 0) ((Xb (⟨a0.out, a0.kept, a0.gone, a0.come⟩ : Zr)).bind fun y2 => some (y2.out, y2.gone, y2.come, y2.kept)) (some (a0.out, a0.gone, a0.come, a0.kept))).bind fun (z1 : ((List S_api_Op) × (List S_api_Tree) × (List S_api_Tree) × Int)) => some (⟨z1.1, (IntKind.i64.wrap (z1.2.2.2 + a1)), z1.2.1, z1.2.2.1⟩ : Zr)
noncomputable def X5 (a2 : (List S_api_Tree)) (s0_ : (Int × (List S_api_Tree))) : Option ((Int × (List S_api_Tree)) ⊕ (List S_api_Tree)) :=
 cond (decide (s0_.1 < (a2.length : Int))) ((Xf a2 s0_.1).bind fun x5 => (U0 x5).bind fun y6 => (U4 56 s0_.2 ([(⟨0, [], []⟩ : S_api_Tree)] : List S_api_Tree)).bind fun l7 => (Xf l7 (s0_.2.length : Int)).bind fun x8 => some (.inl ((IntKind.i64.wrap (s0_.1 + 1)), (s0_.2 ++ [y6])))) (some (.inr s0_.2))
noncomputable def Qx (a0 : Zr) (a2 : (List S_api_Tree)) : Option Zr :=
 (cond (decide (0 < a0.kept)) ((Xb (⟨a0.out, a0.kept, a0.gone, a0.come⟩ : Zr)).bind fun y2 => some (y2.out, y2.gone, y2.come, y2.kept)) (some (a0.out, a0.gone, a0.come, a0.kept))).bind fun (z1 : ((List S_api_Op) × (List S_api_Tree) × (List S_api_Tree) × Int)) => (Zz (X5 a2) (0, z1.2.1)).bind fun (z11 : (List S_api_Tree)) => some (⟨z1.1, z1.2.2.2, z11, z1.2.2.1⟩ : Zr)
noncomputable def X6 (a2 : (List S_api_Tree)) (s0_ : (Int × (List S_api_Tree))) : Option ((Int × (List S_api_Tree)) ⊕ (List S_api_Tree)) :=
 cond (decide (s0_.1 < (a2.length : Int))) ((Xf a2 s0_.1).bind fun x5 => (U0 x5).bind fun y6 => (U4 56 s0_.2 ([(⟨0, [], []⟩ : S_api_Tree)] : List S_api_Tree)).bind fun l7 => (Xf l7 (s0_.2.length : Int)).bind fun x8 => some (.inl ((IntKind.i64.wrap (s0_.1 + 1)), (s0_.2 ++ [y6])))) (some (.inr s0_.2))
noncomputable def Qy (a0 : Zr) (a2 : (List S_api_Tree)) : Option Zr :=
 (cond (decide (0 < a0.kept)) ((Xb (⟨a0.out, a0.kept, a0.gone, a0.come⟩ : Zr)).bind fun y2 => some (y2.out, y2.gone, y2.come, y2.kept)) (some (a0.out, a0.gone, a0.come, a0.kept))).bind fun (z1 : ((List S_api_Op) × (List S_api_Tree) × (List S_api_Tree) × Int)) => (Zz (X6 a2) (0, z1.2.2.1)).bind fun (z11 : (List S_api_Tree)) => some (⟨z1.1, z1.2.2.2, z1.2.1, z11⟩ : Zr)
noncomputable def Zbs (a0 : Int) (a1 : S_api_Edit) : Option Bool :=
 some (cond (a1.Kind == 0) true (cond (cond (a0 == 9) (a1.Kind == 2) false) ((IntKind.i64.wrap ((a1.Words.length : Int) + (a1.Kids.length : Int))) == 0) false))
noncomputable def Q5 (a0 : Zr) (a1 : Int) (a2 : S_api_Edit) : Option Zr :=
 (Zbs a1 a2).bind fun y2 => cond y2 ((Q6 (⟨a0.out, a0.kept, a0.gone, a0.come⟩ : Zr) 1).bind fun y4 => some (⟨y4.out, y4.kept, y4.gone, y4.come⟩ : Zr)) ((Xb (⟨a0.out, a0.kept, a0.gone, a0.come⟩ : Zr)).bind fun y6 => (U4 240 y6.out ([(⟨0, 0, [], ⟨0, ⟨0, [], []⟩, ⟨0, [], []⟩, [], [], 0, []⟩⟩ : S_api_Op)] : List S_api_Op)).bind fun l7 => (Xf l7 (y6.out.length : Int)).bind fun x8 => some (⟨(y6.out ++ [(⟨3, 0, [], a2⟩ : S_api_Op)]), y6.kept, y6.gone, y6.come⟩ : Zr))
noncomputable def Um (X0 : (S_api_Edit → Option S_api_Edit)) (a0 : S_api_Edit) (s0_ : (Int × (List S_api_KidEdit))) : Option ((Int × (List S_api_KidEdit)) ⊕ (List S_api_KidEdit)) :=
 cond (decide (s0_.1 < (a0.Kids.length : Int))) ((Xf a0.Kids s0_.1).bind fun x8 => (X0 x8.E).bind fun y9 => (U4 208 s0_.2 ([(⟨x8.At, y9⟩ : S_api_KidEdit)] : List S_api_KidEdit)).bind fun l10 => some (.inl ((IntKind.i64.wrap (s0_.1 + 1)), l10))) (some (.inr s0_.2))
noncomputable def Zbp (X0 : (S_api_Edit → Option S_api_Edit)) (Ud : (Int → (List S_api_Op) → Option (List S_api_Op))) (a0 : S_api_Edit) : Option S_api_Edit :=
 cond (a0.Kind == 1) ((U0 a0.Old).bind fun y3 => (U0 a0.New).bind fun y4 => some (⟨1, y3, y4, [], [], 0, []⟩ : S_api_Edit)) (cond (a0.Kind == 2) ((X3 a0.Words).bind fun y6 => (Zz (Um X0 a0) (0, ([] : List S_api_KidEdit))).bind fun (z12 : (List S_api_KidEdit)) => some (⟨2, ⟨0, [], []⟩, ⟨0, [], []⟩, y6, z12, 0, []⟩ : S_api_Edit)) (cond (a0.Kind == 3) ((Ud a0.List_ a0.Ops).bind fun y14 => some (⟨3, ⟨0, [], []⟩, ⟨0, [], []⟩, [], [], a0.List_, y14⟩ : S_api_Edit)) (some (⟨0, ⟨0, [], []⟩, ⟨0, [], []⟩, [], [], 0, []⟩ : S_api_Edit))))
noncomputable def Kw (X0 : (S_api_Edit → Option S_api_Edit)) (a0 : Int) (a1 : (List S_api_Op)) (s0_ : (Int × Int × (List S_api_Op) × (List S_api_Tree) × (List S_api_Tree))) : Option ((Int × Int × (List S_api_Op) × (List S_api_Tree) × (List S_api_Tree)) ⊕ (Int × (List S_api_Op) × (List S_api_Tree) × (List S_api_Tree))) :=
 cond (decide (s0_.1 < (a1.length : Int))) (((Xf a1 s0_.1).bind fun x3 => cond (x3.Kind == 0) ((Q6 (⟨s0_.2.2.1, s0_.2.1, s0_.2.2.2.1, s0_.2.2.2.2⟩ : Zr) x3.N).bind fun y4 => some (y4.kept, y4.out, y4.gone, y4.come)) (cond (x3.Kind == 1) ((Qx (⟨s0_.2.2.1, s0_.2.1, s0_.2.2.2.1, s0_.2.2.2.2⟩ : Zr) x3.L).bind fun y5 => some (y5.kept, y5.out, y5.gone, y5.come)) (cond (x3.Kind == 2) ((Qy (⟨s0_.2.2.1, s0_.2.1, s0_.2.2.2.1, s0_.2.2.2.2⟩ : Zr) x3.L).bind fun y6 => some (y6.kept, y6.out, y6.gone, y6.come)) (cond (x3.Kind == 3) ((X0 x3.E).bind fun y7 => (Q5 (⟨s0_.2.2.1, s0_.2.1, s0_.2.2.2.1, s0_.2.2.2.2⟩ : Zr) a0 y7).bind fun y8 => some (y8.kept, y8.out, y8.gone, y8.come)) (some (s0_.2.1, s0_.2.2.1, s0_.2.2.2.1, s0_.2.2.2.2)))))).bind fun (z1 : (Int × (List S_api_Op) × (List S_api_Tree) × (List S_api_Tree))) => some (.inl ((IntKind.i64.wrap (s0_.1 + 1)), z1.1, z1.2.1, z1.2.2.1, z1.2.2.2))) (some (.inr (s0_.2.1, s0_.2.2.1, s0_.2.2.2.1, s0_.2.2.2.2)))
noncomputable def Zbd (X0 : (S_api_Edit → Option S_api_Edit)) (Ud : (Int → (List S_api_Op) → Option (List S_api_Op))) (a0 : Int) (a1 : (List S_api_Op)) : Option (List S_api_Op) :=
 (Zz (Kw X0 a0 a1) (0, 0, ([] : List S_api_Op), ([] : List S_api_Tree), ([] : List S_api_Tree))).bind fun (z14 : (Int × (List S_api_Op) × (List S_api_Tree) × (List S_api_Tree))) => (Xb (⟨z14.2.1, z14.1, z14.2.2.1, z14.2.2.2⟩ : Zr)).bind fun y16 => some y16.out
noncomputable def Xe : Nat → ((S_api_Edit → Option S_api_Edit) × (Int → (List S_api_Op) → Option (List S_api_Op)))
 | 0 => ((fun _ => none), (fun _ _ => none))
 | k + 1 => (Zbp ((Xe k).1) ((Xe k).2), Zbd ((Xe k).1) ((Xe k).2))
noncomputable def Zf2 (a0 : S_api_Edit) : Option S_api_Edit := lim fun k => (Xe k).1 a0
noncomputable def Gs (a0 : S_api_Edit) : Option S_api_Edit :=
 (Zd9 a0).bind fun y3 => (Zf2 y3).bind fun y4 => some y4
noncomputable def J3  : Option Bool :=
 (Gs (⟨3, ⟨0, [], []⟩, ⟨0, [], []⟩, [], [], 4, ([(⟨2, 0, ([(⟨10, ([1] : List Int), []⟩ : S_api_Tree)] : List S_api_Tree), ⟨0, ⟨0, [], []⟩, ⟨0, [], []⟩, [], [], 0, []⟩⟩ : S_api_Op), (⟨0, 1, [], ⟨0, ⟨0, [], []⟩, ⟨0, [], []⟩, [], [], 0, []⟩⟩ : S_api_Op)] : List S_api_Op)⟩ : S_api_Edit)).bind fun y2 => (cond ((y2.Ops.length : Int) == 2) ((Xf y2.Ops 0).bind fun x12 => cond (x12.Kind == 1) ((Xf y2.Ops 1).bind fun x14 => some (cond (cond ((y2.Ops.length : Int) == 2) (x12.Kind == 1) false) (x14.Kind == 0) false)) (some false)) (some false)).bind fun (z7 : Bool) => some z7
noncomputable def Xi (a0 : (List Int)) (a1 : (List Int)) (s0_ : Int) : Option (Int ⊕ (Unit ⊕ Unit)) :=
 cond (decide (s0_ < (a0.length : Int))) ((Xf a0 s0_).bind fun x3 => (Xf a1 s0_).bind fun x4 => cond (x3 != x4) (some (.inr (.inl ()))) (some (.inl (IntKind.i64.wrap (s0_ + 1))))) (some (.inr (.inr ())))
noncomputable def Xd (a0 : (List Int)) (a1 : (List Int)) : Option Bool :=
 cond ((a0.length : Int) != (a1.length : Int)) (some false) ((Zz (Xi a0 a1) 0).bind fun (z7 : (Unit ⊕ Unit)) => match z7 with | .inl z7 => some false | .inr z7 => some true)
noncomputable def Zce (Kc : (S_api_Tree → S_api_Tree → Option Bool)) (Zv : ((List S_api_Tree) → (List S_api_Tree) → Option Bool)) (a0 : S_api_Tree) (a1 : S_api_Tree) : Option Bool :=
 cond (a0.Kind != a1.Kind) (some false) (cond (a0.Kind == 0) (some true) (cond (a0.Kind == 1) (((J6 a0.Words).bind fun y14 => (J6 a1.Words).bind fun y15 => (Xd y14 y15).bind fun y16 => cond y16 ((Ky a0.Kids).bind fun y17 => (Ky a1.Kids).bind fun y18 => (Zv y17 y18).bind fun y19 => some (cond y16 y19 false)) (some false)).bind fun (z7 : Bool) => some z7) (((Xd a0.Words a1.Words).bind fun y26 => cond y26 ((Zv a0.Kids a1.Kids).bind fun y27 => some (cond y26 y27 false)) (some false)).bind fun (z23 : Bool) => some z23)))
noncomputable def Z6 (Kc : (S_api_Tree → S_api_Tree → Option Bool)) (a0 : (List S_api_Tree)) (a1 : (List S_api_Tree)) (s0_ : Int) : Option (Int ⊕ (Unit ⊕ Unit)) :=
 cond (decide (s0_ < (a0.length : Int))) ((Xf a0 s0_).bind fun x2 => (Xf a1 s0_).bind fun x4 => (Kc x2 x4).bind fun y6 => cond (!y6) (some (.inr (.inl ()))) (some (.inl (IntKind.i64.wrap (s0_ + 1))))) (some (.inr (.inr ())))
noncomputable def Z7 (Kc : (S_api_Tree → S_api_Tree → Option Bool)) (Zv : ((List S_api_Tree) → (List S_api_Tree) → Option Bool)) (a0 : (List S_api_Tree)) (a1 : (List S_api_Tree)) : Option Bool :=
 cond ((a0.length : Int) != (a1.length : Int)) (some false) ((Zz (Z6 Kc a0 a1) 0).bind fun (z9 : (Unit ⊕ Unit)) => match z9 with | .inl z9 => some false | .inr z9 => some true)
noncomputable def Xa : Nat → ((S_api_Tree → S_api_Tree → Option Bool) × ((List S_api_Tree) → (List S_api_Tree) → Option Bool))
 | 0 => ((fun _ _ => none), (fun _ _ => none))
 | k + 1 => (Zce ((Xa k).1) ((Xa k).2), Z7 ((Xa k).1) ((Xa k).2))
noncomputable def Zgz (a0 : S_api_Tree) (a1 : S_api_Tree) : Option Bool := lim fun k => (Xa k).1 a0 a1
noncomputable def Yz (a0 : (List S_api_Tree)) (a1 : (List S_api_Tree)) : Option Bool := lim fun k => (Xa k).2 a0 a1
noncomputable def Kx (a0 : List Int) : Option (List Int) :=
 U4 8 ([] : List Int) a0
noncomputable def Jj (a0 : List S_api_Tree) : Option (List S_api_Tree) :=
 U4 56 ([] : List S_api_Tree) a0
noncomputable def Zd2 (a0 : S_api_Tree) (a1 : Int) : Option Int :=
 cond (cond (decide (a1 < 0)) true (decide ((a0.Words.length : Int) ≤ a1))) (some 0) ((Xf a0.Words a1).bind fun x2 => some x2)
noncomputable def Vv (a0 : Int) : Option Bool :=
 some (cond (decide (a0 < 0)) true (decide (65534 < a0)))
noncomputable def Zat (a0 : Int) (s0_ : (Int × Int)) : Option ((Int × Int) ⊕ Int) :=
 cond (decide (s0_.2 < 8)) (((Zjw (0 ≤ s0_.2)).bind fun u3 => cond ((IntKind.u8.wrap (Zfu .u8 (Int.fdiv a0 (2 ^ min (Int.toNat s0_.2) 8)) 1)) == 1) ((Zjw (0 ≤ (IntKind.i64.wrap (8 * s0_.2)))).bind fun u4 => some (IntKind.u64.wrap (Zoy .u64 s0_.1 (IntKind.u64.wrap (255 * 2 ^ min (Int.toNat (IntKind.i64.wrap (8 * s0_.2))) 64))))) (some s0_.1)).bind fun (z1 : Int) => some (.inl (z1, (IntKind.i64.wrap (s0_.2 + 1))))) (some (.inr s0_.1))
noncomputable def Zas (a0 : Int) : Option Int :=
 (Zz (Zat a0) (0, 0)).bind fun (z7 : Int) => some z7
noncomputable def Zda (a0 : Int) (a1 : Int) (a2 : Int) : Option Int :=
 (Zas a2).bind fun y2 => some (IntKind.u64.wrap (Zoy .u64 (IntKind.u64.wrap (Zrh .u64 a0 y2)) (IntKind.u64.wrap (Zfu .u64 a1 y2))))
noncomputable def Vm (a1 : Int) (a2 : Int) (s0_ : (List Int)) : Option ((List Int) ⊕ (List Int)) :=
 cond (cond (decide ((s0_.length : Int) ≤ a1)) (a2 != 0) false) ((U4 8 s0_ ([0] : List Int)).bind fun l1 => some (.inl l1)) (some (.inr s0_))
noncomputable def Gk (a0 : S_api_Tree) (a1 : Int) (a2 : Int) : Option S_api_Tree :=
 (Zz (Vm a1 a2) a0.Words).bind fun (z3 : (List Int)) => cond (decide (a1 < (z3.length : Int))) ((Xf z3 a1).bind fun x4 => some (⟨a0.Kind, (Zb7 z3 a1 a2), a0.Kids⟩ : S_api_Tree)) (some (⟨a0.Kind, z3, a0.Kids⟩ : S_api_Tree))
noncomputable def Zew (a0 : S_api_Tree) (a1 : Int) : Option S_api_Tree :=
 cond (cond (decide (a1 < 0)) true (decide ((a0.Kids.length : Int) ≤ a1))) (some (⟨0, [], []⟩ : S_api_Tree)) ((Xf a0.Kids a1).bind fun x2 => some x2)
noncomputable def V6 (a1 : Int) (a2 : S_api_Tree) (s0_ : (List S_api_Tree)) : Option ((List S_api_Tree) ⊕ (List S_api_Tree)) :=
 cond (cond (decide ((s0_.length : Int) ≤ a1)) (a2.Kind != 0) false) ((U4 56 s0_ ([(⟨0, [], []⟩ : S_api_Tree)] : List S_api_Tree)).bind fun l1 => (Xf l1 (s0_.length : Int)).bind fun x2 => some (.inl (s0_ ++ [(⟨0, [], []⟩ : S_api_Tree)]))) (some (.inr s0_))
noncomputable def Zar (a0 : S_api_Tree) (a1 : Int) (a2 : S_api_Tree) : Option S_api_Tree :=
 (Zz (V6 a1 a2) a0.Kids).bind fun (z5 : (List S_api_Tree)) => cond (decide (a1 < (z5.length : Int))) ((Xf z5 a1).bind fun x6 => some (⟨a0.Kind, a0.Words, (Zb7 z5 a1 a2)⟩ : S_api_Tree)) (some (⟨a0.Kind, a0.Words, z5⟩ : S_api_Tree))
noncomputable def Zd1 (a0 : Int) : Option Bool :=
 some (cond (decide (2 ≤ a0)) (decide (a0 ≤ 9)) false)
structure Zi where
 left : (List S_api_Tree)
 out : (List S_api_Tree)
noncomputable def V0 (Yw : (S_api_Edit → S_api_Tree → Option (S_api_Tree × Bool))) (Yb : (S_api_Edit → S_api_Tree → Option (S_api_Tree × Bool))) (Y3 : (S_api_Edit → S_api_Tree → Option (S_api_Tree × Bool))) (Z4 : (Zi → S_api_Op → Option (Bool × Zi))) (Z3 : (Zi → S_api_Edit → Option (Bool × Zi))) (a0 : S_api_Edit) (a1 : S_api_Tree) : Option (S_api_Tree × Bool) :=
 cond (a0.Kind == 0) (some (a1, true)) (cond (a0.Kind == 1) ((Zgz a1 a0.Old).bind fun y2 => some (a0.New, y2)) (cond (a0.Kind == 2) ((Yb a0 a1).bind fun y4 => some (y4.1, y4.2)) (cond (a0.Kind == 3) ((Y3 a0 a1).bind fun y6 => some (y6.1, y6.2)) (some ((⟨0, [], []⟩ : S_api_Tree), false)))))
noncomputable def X9 (a0 : S_api_Edit) (a1 : S_api_Tree) (s0_ : (Int × Int × (List Int) × (List S_api_Tree))) : Option ((Int × Int × (List Int) × (List S_api_Tree)) ⊕ (Unit ⊕ (Int × (List Int) × (List S_api_Tree)))) :=
 cond (decide (s0_.1 < (a0.Words.length : Int))) ((Xf a0.Words s0_.1).bind fun x110 => (Zd2 a1 x110.At).bind fun y112 => ((Vv x110.At).bind fun y118 => cond y118 (some true) ((Zas x110.Mask).bind fun y119 => some (cond y118 true ((IntKind.u64.wrap (Zfu .u64 (IntKind.u64.wrap (Zk3 .u64 y112 x110.Old)) y119)) != 0)))).bind fun (z115 : Bool) => cond z115 (some (.inr (.inl ()))) ((Zda y112 x110.New x110.Mask).bind fun y121 => (Gk (⟨s0_.2.1, s0_.2.2.1, s0_.2.2.2⟩ : S_api_Tree) x110.At y121).bind fun y122 => some (.inl ((IntKind.i64.wrap (s0_.1 + 1)), y122.Kind, y122.Words, y122.Kids)))) (some (.inr (.inr (s0_.2.1, s0_.2.2.1, s0_.2.2.2))))
noncomputable def Xn (Yw : (S_api_Edit → S_api_Tree → Option (S_api_Tree × Bool))) (a0 : S_api_Edit) (a1 : S_api_Tree) (s1_ : (Int × Int × (List Int) × (List S_api_Tree))) : Option ((Int × Int × (List Int) × (List S_api_Tree)) ⊕ (Unit ⊕ (Int × (List Int) × (List S_api_Tree)))) :=
 cond (decide (s1_.1 < (a0.Kids.length : Int))) ((Xf a0.Kids s1_.1).bind fun x127 => (Zew a1 x127.At).bind fun y130 => (Yw x127.E y130).bind fun y131 => (Vv x127.At).bind fun y133 => cond (cond y133 true (!y131.2)) (some (.inr (.inl ()))) ((Zar (⟨s1_.2.1, s1_.2.2.1, s1_.2.2.2⟩ : S_api_Tree) x127.At y131.1).bind fun y134 => some (.inl ((IntKind.i64.wrap (s1_.1 + 1)), y134.Kind, y134.Words, y134.Kids)))) (some (.inr (.inr (s1_.2.1, s1_.2.2.1, s1_.2.2.2))))
noncomputable def Ko (Yw : (S_api_Edit → S_api_Tree → Option (S_api_Tree × Bool))) (Yb : (S_api_Edit → S_api_Tree → Option (S_api_Tree × Bool))) (Y3 : (S_api_Edit → S_api_Tree → Option (S_api_Tree × Bool))) (Z4 : (Zi → S_api_Op → Option (Bool × Zi))) (Z3 : (Zi → S_api_Edit → Option (Bool × Zi))) (a0 : S_api_Edit) (a1 : S_api_Tree) : Option (S_api_Tree × Bool) :=
 cond (a1.Kind != 1) (some ((⟨0, [], []⟩ : S_api_Tree), false)) ((Kx a1.Words).bind fun y25 => (Jj a1.Kids).bind fun y61 => (Zz (X9 a0 a1) (0, 1, y25, y61)).bind fun (z125 : (Unit ⊕ (Int × (List Int) × (List S_api_Tree)))) => match z125 with | .inl z125 => some ((⟨0, [], []⟩ : S_api_Tree), false) | .inr z125 => (Zz (Xn Yw a0 a1) (0, z125.1, z125.2.1, z125.2.2)).bind fun (z137 : (Unit ⊕ (Int × (List Int) × (List S_api_Tree)))) => match z137 with | .inl z137 => some ((⟨0, [], []⟩ : S_api_Tree), false) | .inr z137 => some ((⟨z137.1, z137.2.1, z137.2.2⟩ : S_api_Tree), true))
noncomputable def Jo (Z4 : (Zi → S_api_Op → Option (Bool × Zi))) (a0 : S_api_Edit) (s0_ : (Int × (List S_api_Tree) × (List S_api_Tree))) : Option ((Int × (List S_api_Tree) × (List S_api_Tree)) ⊕ (Unit ⊕ ((List S_api_Tree) × (List S_api_Tree)))) :=
 cond (decide (s0_.1 < (a0.Ops.length : Int))) ((Xf a0.Ops s0_.1).bind fun x7 => (Z4 (⟨s0_.2.1, s0_.2.2⟩ : Zi) x7).bind fun y9 => cond (!y9.1) (some (.inr (.inl ()))) (some (.inl ((IntKind.i64.wrap (s0_.1 + 1)), y9.2.left, y9.2.out)))) (some (.inr (.inr (s0_.2.1, s0_.2.2))))
noncomputable def Zbc (Yw : (S_api_Edit → S_api_Tree → Option (S_api_Tree × Bool))) (Yb : (S_api_Edit → S_api_Tree → Option (S_api_Tree × Bool))) (Y3 : (S_api_Edit → S_api_Tree → Option (S_api_Tree × Bool))) (Z4 : (Zi → S_api_Op → Option (Bool × Zi))) (Z3 : (Zi → S_api_Edit → Option (Bool × Zi))) (a0 : S_api_Edit) (a1 : S_api_Tree) : Option (S_api_Tree × Bool) :=
 (cond (a1.Kind != a0.List_) (some true) ((Zd1 a1.Kind).bind fun y4 => some (cond (a1.Kind != a0.List_) true (!y4)))).bind fun (z2 : Bool) => cond z2 (some ((⟨0, [], []⟩ : S_api_Tree), false)) ((Zz (Jo Z4 a0) (0, a1.Kids, ([] : List S_api_Tree))).bind fun (z12 : (Unit ⊕ ((List S_api_Tree) × (List S_api_Tree)))) => match z12 with | .inl z12 => some ((⟨0, [], []⟩ : S_api_Tree), false) | .inr z12 => some ((⟨a1.Kind, [], z12.2⟩ : S_api_Tree), ((z12.1.length : Int) == 0)))
noncomputable def K0 (Yw : (S_api_Edit → S_api_Tree → Option (S_api_Tree × Bool))) (Yb : (S_api_Edit → S_api_Tree → Option (S_api_Tree × Bool))) (Y3 : (S_api_Edit → S_api_Tree → Option (S_api_Tree × Bool))) (Z4 : (Zi → S_api_Op → Option (Bool × Zi))) (Z3 : (Zi → S_api_Edit → Option (Bool × Zi))) (a0 : Zi) (a1 : S_api_Op) : Option (Bool × Zi) :=
 cond (a1.Kind == 0) ((cond (decide (a1.N < 0)) (some true) (some (cond (decide (a1.N < 0)) true (decide ((a0.left.length : Int) < a1.N))))).bind fun (z1 : Bool) => cond z1 (some (false, (⟨a0.left, a0.out⟩ : Zi))) ((Zcb a0.left 0 a1.N).bind fun l5 => (U4 56 a0.out l5).bind fun l6 => (Zcb a0.left a1.N (a0.left.length : Int)).bind fun l8 => some (true, (⟨l8, l6⟩ : Zi)))) (cond (a1.Kind == 1) ((cond (decide ((a0.left.length : Int) < (a1.L.length : Int))) (some true) ((Zcb a0.left 0 (a1.L.length : Int)).bind fun l15 => (Yz l15 a1.L).bind fun y16 => some (cond (decide ((a0.left.length : Int) < (a1.L.length : Int))) true (!y16)))).bind fun (z12 : Bool) => cond z12 (some (false, (⟨a0.left, a0.out⟩ : Zi))) ((Zcb a0.left (a1.L.length : Int) (a0.left.length : Int)).bind fun l19 => some (true, (⟨l19, a0.out⟩ : Zi)))) (cond (a1.Kind == 2) ((U4 56 a0.out a1.L).bind fun l22 => some (true, (⟨a0.left, l22⟩ : Zi))) (cond (a1.Kind == 3) ((Z3 (⟨a0.left, a0.out⟩ : Zi) a1.E).bind fun y24 => some (y24.1, (⟨y24.2.left, y24.2.out⟩ : Zi))) (some (false, (⟨a0.left, a0.out⟩ : Zi))))))
noncomputable def Jg (Yw : (S_api_Edit → S_api_Tree → Option (S_api_Tree × Bool))) (Yb : (S_api_Edit → S_api_Tree → Option (S_api_Tree × Bool))) (Y3 : (S_api_Edit → S_api_Tree → Option (S_api_Tree × Bool))) (Z4 : (Zi → S_api_Op → Option (Bool × Zi))) (Z3 : (Zi → S_api_Edit → Option (Bool × Zi))) (a0 : Zi) (a1 : S_api_Edit) : Option (Bool × Zi) :=
 cond ((a0.left.length : Int) == 0) (some (false, (⟨a0.left, a0.out⟩ : Zi))) ((Xf a0.left 0).bind fun x3 => (Yw a1 x3).bind fun y4 => (U4 56 a0.out ([(⟨0, [], []⟩ : S_api_Tree)] : List S_api_Tree)).bind fun l8 => (Xf l8 (a0.out.length : Int)).bind fun x9 => (Zcb a0.left 1 (a0.left.length : Int)).bind fun l12 => some (y4.2, (⟨l12, (a0.out ++ [y4.1])⟩ : Zi)))
noncomputable def Zp : Nat → ((S_api_Edit → S_api_Tree → Option (S_api_Tree × Bool)) × (S_api_Edit → S_api_Tree → Option (S_api_Tree × Bool)) × (S_api_Edit → S_api_Tree → Option (S_api_Tree × Bool)) × (Zi → S_api_Op → Option (Bool × Zi)) × (Zi → S_api_Edit → Option (Bool × Zi)))
 | 0 => ((fun _ _ => none), (fun _ _ => none), (fun _ _ => none), (fun _ _ => none), (fun _ _ => none))
 | k + 1 => (V0 ((Zp k).1) ((Zp k).2.1) ((Zp k).2.2.1) ((Zp k).2.2.2.1) ((Zp k).2.2.2.2), Ko ((Zp k).1) ((Zp k).2.1) ((Zp k).2.2.1) ((Zp k).2.2.2.1) ((Zp k).2.2.2.2), Zbc ((Zp k).1) ((Zp k).2.1) ((Zp k).2.2.1) ((Zp k).2.2.2.1) ((Zp k).2.2.2.2), K0 ((Zp k).1) ((Zp k).2.1) ((Zp k).2.2.1) ((Zp k).2.2.2.1) ((Zp k).2.2.2.2), Jg ((Zp k).1) ((Zp k).2.1) ((Zp k).2.2.1) ((Zp k).2.2.2.1) ((Zp k).2.2.2.2))
noncomputable def Zgy (a0 : S_api_Edit) (a1 : S_api_Tree) : Option (S_api_Tree × Bool) := lim fun k => (Zp k).1 a0 a1
noncomputable def Kb (a0 : S_api_Edit) (a1 : S_api_Tree) : Option (S_api_Tree × Bool) :=
 (Zgy a0 a1).bind fun y2 => cond (!y2.2) (some ((⟨0, [], []⟩ : S_api_Tree), false)) ((U0 y2.1).bind fun y4 => some (y4, true))
noncomputable def Kj (a0 : (List Int)) (s0_ : Int) : Option (Int ⊕ Int) :=
 (cond (decide (0 < s0_)) ((Xf a0 (IntKind.i64.wrap (s0_ - 1))).bind fun x4 => some (cond (decide (0 < s0_)) (x4 == 0) false)) (some false)).bind fun (z2 : Bool) => cond z2 (some (.inl (IntKind.i64.wrap (s0_ - 1)))) (some (.inr s0_))
noncomputable def Ua (a0 : (List Int)) : Option (List Int) :=
 (Zz (Kj a0) (a0.length : Int)).bind fun (z7 : Int) => (Zcb a0 0 z7).bind fun l10 => (U4 8 ([] : List Int) l10).bind fun l11 => some l11
noncomputable def Qa (Ks : (S_api_Tree → Option S_api_Tree)) (a0 : S_api_Tree) (s0_ : (Int × Int × (List S_api_Tree))) : Option ((Int × Int × (List S_api_Tree)) ⊕ (Int × (List S_api_Tree))) :=
 cond (decide (s0_.2.1 < (a0.Kids.length : Int))) (((Xf a0.Kids s0_.2.1).bind fun x4 => (Ks x4).bind fun y5 => (U4 56 s0_.2.2 ([y5] : List S_api_Tree)).bind fun l7 => cond (y5.Kind != 0) (some ((IntKind.i64.wrap (s0_.2.1 + 1)), l7)) (some (s0_.1, l7))).bind fun (z1 : (Int × (List S_api_Tree))) => some (.inl (z1.1, (IntKind.i64.wrap (s0_.2.1 + 1)), z1.2))) (some (.inr (s0_.1, s0_.2.2)))
noncomputable def V1 (Ks : (S_api_Tree → Option S_api_Tree)) (a0 : S_api_Tree) : Option S_api_Tree :=
 cond (a0.Kind == 0) (some (⟨0, [], []⟩ : S_api_Tree)) ((Zz (Qa Ks a0) (0, 0, ([] : List S_api_Tree))).bind fun (z10 : (Int × (List S_api_Tree))) => cond (a0.Kind == 1) ((Ua a0.Words).bind fun y14 => (Zcb z10.2 0 z10.1).bind fun l15 => some (⟨1, y14, l15⟩ : S_api_Tree)) ((U4 8 ([] : List Int) a0.Words).bind fun l17 => some (⟨a0.Kind, l17, z10.2⟩ : S_api_Tree)))
noncomputable def Xg : Nat → (S_api_Tree → Option S_api_Tree)
 | 0 => (fun _ => none)
 | k + 1 => V1 ((Xg k))
noncomputable def V8 (a0 : S_api_Tree) : Option S_api_Tree := lim fun k => (Xg k) a0
noncomputable def Ki (a0 : (List Int)) (a1 : (List Int)) (s0_ : Int) : Option (Int ⊕ (Unit ⊕ Unit)) :=
 cond (decide (s0_ < (a0.length : Int))) ((Xf a0 s0_).bind fun x3 => (Xf a1 s0_).bind fun x4 => cond (x3 != x4) (some (.inr (.inl ()))) (some (.inl (IntKind.i64.wrap (s0_ + 1))))) (some (.inr (.inr ())))
noncomputable def V7 (a0 : (List Int)) (a1 : (List Int)) : Option Bool :=
 cond ((a0.length : Int) != (a1.length : Int)) (some false) ((Zz (Ki a0 a1) 0).bind fun (z7 : (Unit ⊕ Unit)) => match z7 with | .inl z7 => some false | .inr z7 => some true)
noncomputable def Kf (Kt : (S_api_Tree → S_api_Tree → Option Bool)) (a0 : S_api_Tree) (a1 : S_api_Tree) (s0_ : Int) : Option (Int ⊕ (Unit ⊕ Unit)) :=
 cond (decide (s0_ < (a0.Kids.length : Int))) ((Xf a0.Kids s0_).bind fun x9 => (Xf a1.Kids s0_).bind fun x10 => (Kt x9 x10).bind fun y11 => cond (!y11) (some (.inr (.inl ()))) (some (.inl (IntKind.i64.wrap (s0_ + 1))))) (some (.inr (.inr ())))
noncomputable def V2 (Kt : (S_api_Tree → S_api_Tree → Option Bool)) (a0 : S_api_Tree) (a1 : S_api_Tree) : Option Bool :=
 (cond (a0.Kind != a1.Kind) (some true) ((V7 a0.Words a1.Words).bind fun y4 => some (cond (cond (a0.Kind != a1.Kind) true (!y4)) true ((a0.Kids.length : Int) != (a1.Kids.length : Int))))).bind fun (z2 : Bool) => cond z2 (some false) ((Zz (Kf Kt a0 a1) 0).bind fun (z14 : (Unit ⊕ Unit)) => match z14 with | .inl z14 => some false | .inr z14 => some true)
noncomputable def Q1 : Nat → (S_api_Tree → S_api_Tree → Option Bool)
 | 0 => (fun _ _ => none)
 | k + 1 => V2 ((Q1 k))
noncomputable def V9 (a0 : S_api_Tree) (a1 : S_api_Tree) : Option Bool := lim fun k => (Q1 k) a0 a1
noncomputable def Kp (a0 : S_api_Edit) (a1 : S_api_Tree) : Option Bool :=
 ((Qn a1).bind fun y6 => cond y6 ((Ub a0).bind fun y7 => some (cond (!y6) true (!y7))) (some true)).bind fun (z3 : Bool) => cond z3 ((J3).bind fun y10 => some y10) ((Gs a0).bind fun y12 => ((Kb a0 a1).bind fun y15 => (cond y15.2 ((Qn y15.1).bind fun y19 => some (cond y15.2 y19 false)) (some false)).bind fun (z17 : Bool) => cond z17 ((Kb y12 y15.1).bind fun y22 => (cond y22.2 ((V8 a1).bind fun y28 => (V9 y22.1 y28).bind fun y29 => some (cond (!y22.2) true (!y29))) (some true)).bind fun (z25 : Bool) => cond z25 (some (.inr ())) (some (.inl ()))) (some (.inl ()))).bind fun (z13 : (Unit ⊕ Unit)) => match z13 with | .inl z13 => (((Kb y12 a1).bind fun y35 => (cond y35.2 ((Qn y35.1).bind fun y39 => some (cond y35.2 y39 false)) (some false)).bind fun (z37 : Bool) => cond z37 ((Kb a0 y35.1).bind fun y42 => (cond y42.2 ((V8 a1).bind fun y48 => (V9 y42.1 y48).bind fun y49 => some (cond (!y42.2) true (!y49))) (some true)).bind fun (z45 : Bool) => cond z45 (some (.inr ())) (some (.inl ()))) (some (.inl ()))).bind fun (z33 : (Unit ⊕ Unit)) => match z33 with | .inl z33 => (J3).bind fun y54 => some y54 | .inr z33 => some false) | .inr z13 => some false)
end Go.Proofs.Ytbcgiaijjaocdaa
