/- Part VD of this seat's mirrors: functions of the seat's program, and the plain functions that they are; each theorem bears its own conditions. -/
import Derived.Test.YtbcgiaijjaocdaaH25
namespace Go.Proofs.Ytbcgiaijjaocdaa
open Go.RowKit
set_option linter.unusedVariables false
set_option linter.unusedSimpArgs false
set_option maxRecDepth 100000
set_option maxHeartbeats 1000000
structure S_api_Tree where
 Kind : Int
 Words : (List Int)
 Kids : (List S_api_Tree)
noncomputable def Xn (Q8 : (S_api_Tree → Int → Int → Option Int)) (a0 : S_api_Tree) (a1 : Int) (s0_ : (Int × Int)) : Option ((Int × Int) ⊕ Int) :=
 cond (cond (decide (s0_.2 < (a0.Kids.length : Int))) (decide (0 ≤ s0_.1)) false) ((Xi a0.Kids s0_.2).bind fun x1 => (Q8 x1 (IntKind.i64.wrap (a1 - 1)) s0_.1).bind fun y2 => some (.inl (y2, (IntKind.i64.wrap (s0_.2 + 1))))) (some (.inr s0_.1))
noncomputable def Xq (Q8 : (S_api_Tree → Int → Int → Option Int)) (a0 : S_api_Tree) (a1 : Int) (a2 : Int) : Option Int :=
 cond (cond (a1 == 0) true (decide ((IntKind.i64.wrap ((IntKind.i64.wrap (a2 - 1)) - (a0.Words.length : Int))) < 0))) (some (-1)) ((Z0 (Xn Q8 a0 a1) ((IntKind.i64.wrap ((IntKind.i64.wrap (a2 - 1)) - (a0.Words.length : Int))), 0)).bind fun (z4 : Int) => some z4)
noncomputable def Yr : Nat → (S_api_Tree → Int → Int → Option Int)
 | 0 => (fun _ _ _ => none)
 | k + 1 => Xq ((Yr k))
noncomputable def Xu (a0 : S_api_Tree) (a1 : Int) (a2 : Int) : Option Int := lim fun k => (Yr k) a0 a1 a2
noncomputable def U0 (a0 : S_api_Tree) : Option Bool :=
 (Xu a0 80 3000).bind fun y2 => some (decide (0 ≤ y2))
noncomputable def Zb6 (a0 : Int) : Option Int :=
 cond (a0 == 0) (some 0) (cond (a0 == 1) (some 1) (cond (a0 == 2) (some 8) (cond (a0 == 3) (some 16) (cond (a0 == 4) (some 32) (cond (a0 == 5) (some 64) (some (-1)))))))
noncomputable def Xs (y2 : Int) (s0_ : (Int × Int)) : Option ((Int × Int) ⊕ Int) :=
 cond (decide (s0_.2 < y2)) (some (.inl ((IntKind.u64.wrap (Int.tdiv s0_.1 2)), (IntKind.i64.wrap (s0_.2 + 1))))) (some (.inr s0_.1))
noncomputable def Kr (a0 : Int) (a1 : Int) : Option Bool :=
 (Zb6 a0).bind fun y2 => cond (decide (y2 < 0)) (some false) ((Z0 (Xs y2) (a1, 0)).bind fun (z4 : Int) => some (z4 == 0))
noncomputable def Jz (J5 : (S_api_Tree → Int → Option Bool)) (a0 : S_api_Tree) (a1 : Int) (s0_ : Int) : Option (Int ⊕ (Unit ⊕ Unit)) :=
 cond (decide (s0_ < (a0.Kids.length : Int))) ((Xi a0.Kids s0_).bind fun x2 => (J5 x2 (IntKind.i64.wrap (a1 - 1))).bind fun y4 => cond (!y4) (some (.inr (.inl ()))) ((cond ((cond (decide (2 ≤ a0.Kind)) (decide (a0.Kind ≤ 7)) false) != (x2.Kind == 10)) (some true) (cond (a0.Kind == 9) (cond (x2.Kind != 1) (some true) (cond (decide (2 ≤ a0.Kind)) (cond (decide (a0.Kind ≤ 7)) ((Xi x2.Words 0).bind fun x14 => (Kr (IntKind.i64.wrap (a0.Kind - 2)) x14).bind fun y15 => some (cond (cond ((cond (decide (2 ≤ a0.Kind)) (decide (a0.Kind ≤ 7)) false) != (x2.Kind == 10)) true (cond (a0.Kind == 9) (x2.Kind != 1) false)) true (cond (cond (decide (2 ≤ a0.Kind)) (decide (a0.Kind ≤ 7)) false) (!y15) false))) (some (cond (cond ((cond (decide (2 ≤ a0.Kind)) (decide (a0.Kind ≤ 7)) false) != (x2.Kind == 10)) true (cond (a0.Kind == 9) (x2.Kind != 1) false)) true false))) (some (cond (cond ((cond (decide (2 ≤ a0.Kind)) (decide (a0.Kind ≤ 7)) false) != (x2.Kind == 10)) true (cond (a0.Kind == 9) (x2.Kind != 1) false)) true false)))) (cond (decide (2 ≤ a0.Kind)) (cond (decide (a0.Kind ≤ 7)) ((Xi x2.Words 0).bind fun x16 => (Kr (IntKind.i64.wrap (a0.Kind - 2)) x16).bind fun y17 => some (cond (cond ((cond (decide (2 ≤ a0.Kind)) (decide (a0.Kind ≤ 7)) false) != (x2.Kind == 10)) true (cond (a0.Kind == 9) (x2.Kind != 1) false)) true (cond (cond (decide (2 ≤ a0.Kind)) (decide (a0.Kind ≤ 7)) false) (!y17) false))) (some (cond (cond ((cond (decide (2 ≤ a0.Kind)) (decide (a0.Kind ≤ 7)) false) != (x2.Kind == 10)) true (cond (a0.Kind == 9) (x2.Kind != 1) false)) true false))) (some (cond (cond ((cond (decide (2 ≤ a0.Kind)) (decide (a0.Kind ≤ 7)) false) != (x2.Kind == 10)) true (cond (a0.Kind == 9) (x2.Kind != 1) false)) true false))))).bind fun (z9 : Bool) => cond z9 (some (.inr (.inl ()))) (some (.inl (IntKind.i64.wrap (s0_ + 1)))))) (some (.inr (.inr ())))
noncomputable def Vp (J5 : (S_api_Tree → Int → Option Bool)) (a0 : S_api_Tree) (a1 : Int) : Option Bool :=
 cond (a0.Kind == 0) (some (cond ((a0.Words.length : Int) == 0) ((a0.Kids.length : Int) == 0) false)) (cond (a0.Kind == 10) (some (cond ((a0.Words.length : Int) == 1) ((a0.Kids.length : Int) == 0) false)) (cond (cond (cond (cond (cond (cond (decide (a0.Kind < 0)) true (decide (10 < a0.Kind))) true (a1 == 0)) true (decide (65536 ≤ (a0.Words.length : Int)))) true (cond (a0.Kind == 1) (decide (65536 ≤ (a0.Kids.length : Int))) false)) true (decide (1048576 ≤ (a0.Kids.length : Int)))) (some false) (cond (cond (decide (1 < a0.Kind)) (decide (0 < (a0.Words.length : Int))) false) (some false) ((Z0 (Jz J5 a0 a1) 0).bind fun (z28 : (Unit ⊕ Unit)) => match z28 with | .inl z28 => some false | .inr z28 => some true))))
noncomputable def Qn : Nat → (S_api_Tree → Int → Option Bool)
 | 0 => (fun _ _ => none)
 | k + 1 => Vp ((Qn k))
noncomputable def J7 (a0 : S_api_Tree) (a1 : Int) : Option Bool := lim fun k => (Qn k) a0 a1
noncomputable def Qo (a0 : S_api_Tree) : Option Bool :=
 ((U0 a0).bind fun y6 => cond y6 ((J7 a0 64).bind fun y7 => some (cond (cond y6 y7 false) (a0.Kind != 10) false)) (some false)).bind fun (z3 : Bool) => some z3
structure Zq where
 At : Int
 Mask : Int
 Old : Int
 New : Int
mutual
structure S_api_Edit where
 Kind : Int
 Old : S_api_Tree
 New : S_api_Tree
 Words : (List Zq)
 Kids : (List S_api_KidEdit)
 List_ : Int
 Ops : (List S_api_Op)
structure S_api_Op where
 Kind : Int
 N : Int
 L : (List S_api_Tree)
 E : S_api_Edit
structure S_api_KidEdit where
 At : Int
 E : S_api_Edit
end
noncomputable def Qe (Qa : (S_api_Edit → Int → Int → Option Int)) (a0 : S_api_Edit) (a1 : Int) (s0_ : (Int × Int)) : Option ((Int × Int) ⊕ Int) :=
 cond (cond (decide (s0_.2 < (a0.Kids.length : Int))) (decide (0 ≤ s0_.1)) false) ((Xi a0.Kids s0_.2).bind fun x6 => (Qa x6.E (IntKind.i64.wrap (a1 - 1)) s0_.1).bind fun y8 => some (.inl (y8, (IntKind.i64.wrap (s0_.2 + 1))))) (some (.inr s0_.1))
noncomputable def Kl (a0 : S_api_Edit) (s1_ : (Int × Int)) (s2_ : (Int × Int)) : Option ((Int × Int) ⊕ Int) :=
 (Xi a0.Ops s1_.2).bind fun x14 => cond (cond (decide (s2_.2 < (x14.L.length : Int))) (decide (0 ≤ s2_.1)) false) ((Xi a0.Ops s1_.2).bind fun x16 => (Xi x16.L s2_.2).bind fun x18 => (Xu x18 80 s2_.1).bind fun y19 => some (.inl (y19, (IntKind.i64.wrap (s2_.2 + 1))))) (some (.inr s2_.1))
noncomputable def Qd (Qa : (S_api_Edit → Int → Int → Option Int)) (a0 : S_api_Edit) (a1 : Int) (s1_ : (Int × Int)) : Option ((Int × Int) ⊕ Int) :=
 cond (cond (decide (s1_.2 < (a0.Ops.length : Int))) (decide (0 ≤ s1_.1)) false) (((Z0 (Kl a0 s1_) (s1_.1, 0)).bind fun (z21 : Int) => cond (decide (0 ≤ z21)) ((Xi a0.Ops s1_.2).bind fun x22 => (Qa x22.E (IntKind.i64.wrap (a1 - 1)) z21).bind fun y24 => some y24) (some z21)).bind fun (z11 : Int) => some (.inl (z11, (IntKind.i64.wrap (s1_.2 + 1))))) (some (.inr s1_.1))
noncomputable def Qq (Qa : (S_api_Edit → Int → Int → Option Int)) (a0 : S_api_Edit) (a1 : Int) (a2 : Int) : Option Int :=
 cond (cond (a1 == 0) true (decide ((IntKind.i64.wrap ((IntKind.i64.wrap ((IntKind.i64.wrap (a2 - 1)) - (a0.Words.length : Int))) - (a0.Ops.length : Int))) < 0))) (some (-1)) ((Xu a0.Old 80 (IntKind.i64.wrap ((IntKind.i64.wrap ((IntKind.i64.wrap (a2 - 1)) - (a0.Words.length : Int))) - (a0.Ops.length : Int)))).bind fun y2 => (cond (decide (0 ≤ y2)) ((Xu a0.New 80 y2).bind fun y4 => some y4) (some y2)).bind fun (z3 : Int) => (Z0 (Qe Qa a0 a1) (z3, 0)).bind fun (z10 : Int) => (Z0 (Qd Qa a0 a1) (z10, 0)).bind fun (z27 : Int) => some z27)
noncomputable def Yj : Nat → (S_api_Edit → Int → Int → Option Int)
 | 0 => (fun _ _ _ => none)
 | k + 1 => Qq ((Yj k))
noncomputable def Zcs (a0 : S_api_Edit) (a1 : Int) (a2 : Int) : Option Int := lim fun k => (Yj k) a0 a1 a2
noncomputable def Uq (a0 : S_api_Edit) : Option Bool :=
 (Zcs a0 80 3000).bind fun y2 => some (decide (0 ≤ y2))
noncomputable def Qp (a0 : S_api_Tree) : Option Bool :=
 some (cond (a0.Kind == 0) ((IntKind.i64.wrap ((a0.Words.length : Int) + (a0.Kids.length : Int))) == 0) false)
noncomputable def Jy (s0_ : (Int × Int × (Arr Int 8))) : Option ((Int × Int × (Arr Int 8)) ⊕ (Arr Int 8)) :=
 cond (decide (s0_.2.1 < 8)) ((Xi s0_.2.2.1 s0_.2.1).bind fun x15 => some (.inl ((IntKind.u64.wrap (Int.tdiv s0_.1 256)), (IntKind.i64.wrap (s0_.2.1 + 1)), (Arr.put s0_.2.2 s0_.2.1 (IntKind.u8.wrap (Int.tmod s0_.1 256)))))) (some (.inr s0_.2.2))
noncomputable def J8 (a0 : Int) : Option (Arr Int 8) :=
 ((some (⟨[0, 0, 0, 0, 0, 0, 0, 0], rfl⟩ : (Arr Int 8)))).bind fun y3 => ((some (⟨[0, 0, 0, 0, 0, 0, 0, 0], rfl⟩ : (Arr Int 8)))).bind fun y9 => (Z0 (Jy) (a0, 0, y9)).bind fun (z18 : (Arr Int 8)) => some z18
noncomputable def Qw (a1 : Int) (s0_ : (Int × Int)) : Option ((Int × Int) ⊕ Int) :=
 cond (decide (s0_.2 < a1)) (some (.inl ((IntKind.u8.wrap (Int.tdiv s0_.1 2)), (IntKind.i64.wrap (s0_.2 + 1))))) (some (.inr s0_.1))
noncomputable def Vk (a0 : Int) (a1 : Int) : Option Bool :=
 (Z0 (Qw a1) (a0, 0)).bind fun (z2 : Int) => some ((Int.tmod z2 2) == 1)
noncomputable def Vn (a0 : (List Int)) (a1 : Int) (s0_ : (Int × Int)) : Option ((Int × Int) ⊕ Int) :=
 cond (decide (0 ≤ s0_.2)) ((Xi a0 (IntKind.i64.wrap (a1 + s0_.2))).bind fun x1 => some (.inl ((IntKind.u64.wrap ((IntKind.u64.wrap (s0_.1 * 256)) + (IntKind.u64.wrap x1))), (IntKind.i64.wrap (s0_.2 - 1))))) (some (.inr s0_.1))
noncomputable def Zb0 (a0 : (List Int)) (a1 : Int) : Option Int :=
 (Z0 (Vn a0 a1) (0, 7)).bind fun (z3 : Int) => some z3
noncomputable def K6 (a2 : Int) (y9 : (Arr Int 8)) (s0_ : (Int × (Arr Int 8))) : Option ((Int × (Arr Int 8)) ⊕ (Arr Int 8)) :=
 cond (decide (s0_.1 < 8)) (((Vk a2 s0_.1).bind fun y17 => cond y17 ((Xi y9.1 s0_.1).bind fun x18 => (Xi s0_.2.1 s0_.1).bind fun x19 => some (Arr.put s0_.2 s0_.1 x18)) (some s0_.2)).bind fun (z15 : (Arr Int 8)) => some (.inl ((IntKind.i64.wrap (s0_.1 + 1)), z15))) (some (.inr s0_.2))
noncomputable def Up (a0 : Int) (a1 : Int) (a2 : Int) : Option Int :=
 (J8 a0).bind fun y8 => (J8 a1).bind fun y9 => ((some (⟨[0, 0, 0, 0, 0, 0, 0, 0], rfl⟩ : (Arr Int 8)))).bind fun y10 => (Z0 (K6 a2 y9) (0, y8)).bind fun (z23 : (Arr Int 8)) => (Zb0 z23.1 0).bind fun y29 => some y29
noncomputable def Jq (a0 : Int) (a1 : Int) : Option Bool :=
 (Up a0 0 a1).bind fun y2 => some (y2 == 0)
noncomputable def Kw (a0 : S_api_Edit) : Option Bool :=
 (cond (a0.Kind == 0) ((Qp a0.Old).bind fun y6 => cond y6 ((Qp a0.New).bind fun y7 => some (cond (cond (cond (cond (a0.Kind == 0) y6 false) y7 false) ((IntKind.i64.wrap ((IntKind.i64.wrap ((a0.Words.length : Int) + (a0.Kids.length : Int))) + (a0.Ops.length : Int))) == 0) false) (a0.List_ == 0) false)) (some false)) (some false)).bind fun (z3 : Bool) => some z3
noncomputable def Ja (a0 : S_api_Edit) (s0_ : (Int × Int × Int)) : Option ((Int × Int × Int) ⊕ (Int × Int)) :=
 cond (decide (s0_.2.2 < (a0.Ops.length : Int))) (((Xi a0.Ops s0_.2.2).bind fun x3 => (cond (x3.Kind == 3) (some 1) (some (IntKind.i64.wrap (x3.N + (x3.L.length : Int))))).bind fun (z4 : Int) => (cond (x3.Kind != 2) (some (IntKind.i64.wrap (s0_.1 + z4))) (some s0_.1)).bind fun (z6 : Int) => (cond (x3.Kind != 1) (some (IntKind.i64.wrap (s0_.2.1 + z4))) (some s0_.2.1)).bind fun (z8 : Int) => (cond (decide (1048576 < z6)) (some 1048576) (some z6)).bind fun (z10 : Int) => cond (decide (1048576 < z8)) (some (z10, 1048576)) (some (z10, z8))).bind fun (z1 : (Int × Int)) => some (.inl (z1.1, z1.2, (IntKind.i64.wrap (s0_.2.2 + 1))))) (some (.inr (s0_.1, s0_.2.1)))
noncomputable def Q9 (a0 : S_api_Edit) : Option (Int × Int) :=
 (Z0 (Ja a0) (0, 0, 0)).bind fun (z14 : (Int × Int)) => some (z14.1, z14.2)
noncomputable def Qx (a0 : S_api_Edit) (s0_ : (Int × Int)) : Option ((Int × Int) ⊕ (Unit ⊕ Unit)) :=
 cond (decide (s0_.2 < (a0.Words.length : Int))) ((Xi a0.Words s0_.2).bind fun x19 => (cond (decide (x19.At ≤ s0_.1)) (some true) (cond (decide (65534 < x19.At)) (some true) (cond (x19.Mask == 0) (some true) ((Jq x19.Old x19.Mask).bind fun y25 => cond y25 ((Jq x19.New x19.Mask).bind fun y26 => some (cond (cond (cond (cond (decide (x19.At ≤ s0_.1)) true (decide (65534 < x19.At))) true (x19.Mask == 0)) true (!y25)) true (!y26))) (some true))))).bind fun (z22 : Bool) => cond z22 (some (.inr (.inl ()))) (some (.inl (x19.At, (IntKind.i64.wrap (s0_.2 + 1)))))) (some (.inr (.inr ())))
noncomputable def Qu (Xb : (S_api_Edit → Int → Option Bool)) (a0 : S_api_Edit) (a1 : Int) (s1_ : (Int × Int)) : Option ((Int × Int) ⊕ (Unit ⊕ Unit)) :=
 cond (decide (s1_.2 < (a0.Kids.length : Int))) ((Xi a0.Kids s1_.2).bind fun x35 => (cond (decide (x35.At ≤ s1_.1)) (some true) (cond (decide (65534 < x35.At)) (some true) (cond (x35.E.Kind == 0) (some true) ((Xb x35.E (IntKind.i64.wrap (a1 - 1))).bind fun y39 => some (cond (cond (cond (decide (x35.At ≤ s1_.1)) true (decide (65534 < x35.At))) true (x35.E.Kind == 0)) true (!y39)))))).bind fun (z37 : Bool) => cond z37 (some (.inr (.inl ()))) (some (.inl (x35.At, (IntKind.i64.wrap (s1_.2 + 1)))))) (some (.inr (.inr ())))
noncomputable def X5 (Qh : (Int → S_api_Op → Int → Option Bool)) (a0 : S_api_Edit) (a1 : Int) (s2_ : Int) : Option (Int ⊕ (Unit ⊕ Unit)) :=
 cond (decide (s2_ < (a0.Ops.length : Int))) ((Xi a0.Ops s2_).bind fun x48 => (Qh a0.List_ x48 (IntKind.i64.wrap (a1 - 1))).bind fun y49 => cond (!y49) (some (.inr (.inl ()))) (some (.inl (IntKind.i64.wrap (s2_ + 1))))) (some (.inr (.inr ())))
noncomputable def Vh (Xb : (S_api_Edit → Int → Option Bool)) (Qh : (Int → S_api_Op → Int → Option Bool)) (a0 : S_api_Edit) (a1 : Int) : Option Bool :=
 cond (cond (cond (a1 == 0) true (decide (a0.Kind < 0))) true (decide (3 < a0.Kind))) (some false) ((cond (a0.Kind != 1) ((Qp a0.Old).bind fun y6 => cond y6 ((Qp a0.New).bind fun y7 => some (cond (cond (cond (a0.Kind != 1) (!(cond y6 y7 false)) false) true (cond (a0.Kind != 2) (decide (0 < (IntKind.i64.wrap ((a0.Words.length : Int) + (a0.Kids.length : Int))))) false)) true (cond (a0.Kind != 3) (cond (a0.List_ != 0) true (decide (0 < (a0.Ops.length : Int)))) false))) (some true)) (some (cond (cond (a0.Kind != 2) (decide (0 < (IntKind.i64.wrap ((a0.Words.length : Int) + (a0.Kids.length : Int))))) false) true (cond (a0.Kind != 3) (cond (a0.List_ != 0) true (decide (0 < (a0.Ops.length : Int)))) false)))).bind fun (z3 : Bool) => cond z3 (some false) (cond (a0.Kind == 1) (((J7 a0.Old 64).bind fun y15 => cond y15 ((J7 a0.New 64).bind fun y16 => some (cond (cond (cond y15 y16 false) (a0.Old.Kind != 10) false) (a0.New.Kind != 10) false)) (some false)).bind fun (z12 : Bool) => some z12) ((Z0 (Qx a0) ((-1), 0)).bind fun (z33 : (Unit ⊕ Unit)) => match z33 with | .inl z33 => some false | .inr z33 => (Z0 (Qu Xb a0 a1) ((-1), 0)).bind fun (z45 : (Unit ⊕ Unit)) => match z45 with | .inl z45 => some false | .inr z45 => cond (cond (a0.Kind == 3) (cond (decide (a0.List_ < 2)) true (decide (9 < a0.List_))) false) (some false) ((Z0 (X5 Qh a0 a1) 0).bind fun (z52 : (Unit ⊕ Unit)) => match z52 with | .inl z52 => some false | .inr z52 => (Q9 a0).bind fun y54 => some (cond (decide (y54.1 < 1048576)) (decide (y54.2 < 1048576)) false)))))
noncomputable def Vi (a0 : Int) (a1 : S_api_Op) (s0_ : Int) : Option (Int ⊕ (Unit ⊕ Unit)) :=
 cond (decide (s0_ < (a1.L.length : Int))) ((Zce a1.L s0_ (IntKind.i64.wrap (s0_ + 1))).bind fun l10 => (J7 (⟨a0, [], l10⟩ : S_api_Tree) 64).bind fun y11 => cond (!y11) (some (.inr (.inl ()))) (some (.inl (IntKind.i64.wrap (s0_ + 1))))) (some (.inr (.inr ())))
noncomputable def Gn (Xb : (S_api_Edit → Int → Option Bool)) (Qh : (Int → S_api_Op → Int → Option Bool)) (a0 : Int) (a1 : S_api_Op) (a2 : Int) : Option Bool :=
 cond (a1.Kind == 0) ((cond (decide (1 ≤ a1.N)) (cond (decide (a1.N ≤ 1048576)) (cond ((a1.L.length : Int) == 0) ((Kw a1.E).bind fun y4 => some (cond (cond (cond (decide (1 ≤ a1.N)) (decide (a1.N ≤ 1048576)) false) ((a1.L.length : Int) == 0) false) y4 false)) (some false)) (some false)) (some false)).bind fun (z2 : Bool) => some z2) (cond (cond (cond (a1.N != 0) true (decide (a1.Kind < 0))) true (decide (3 < a1.Kind))) (some false) (cond (decide (a1.Kind < 3)) ((Z0 (Vi a0 a1) 0).bind fun (z14 : (Unit ⊕ Unit)) => match z14 with | .inl z14 => some false | .inr z14 => (cond (decide (0 < (a1.L.length : Int))) ((Kw a1.E).bind fun y18 => some (cond (decide (0 < (a1.L.length : Int))) y18 false)) (some false)).bind fun (z16 : Bool) => some z16) ((cond (decide (0 < (a1.L.length : Int))) (some true) (cond (a1.E.Kind == 0) (some true) (cond (decide (a0 ≤ 7)) (some true) ((Xb a1.E a2).bind fun y23 => some (cond (cond (cond (decide (0 < (a1.L.length : Int))) true (a1.E.Kind == 0)) true (decide (a0 ≤ 7))) true (!y23)))))).bind fun (z21 : Bool) => cond z21 (some false) (some (cond (cond (a0 == 8) true (a1.E.Kind == 2)) true (cond (cond (a1.E.Kind == 1) (a1.E.Old.Kind == 1) false) (a1.E.New.Kind == 1) false))))))
noncomputable def Ye : Nat → ((S_api_Edit → Int → Option Bool) × (Int → S_api_Op → Int → Option Bool))
 | 0 => ((fun _ _ => none), (fun _ _ _ => none))
 | k + 1 => (Vh ((Ye k).1) ((Ye k).2), Gn ((Ye k).1) ((Ye k).2))
noncomputable def Zb4 (a0 : S_api_Edit) (a1 : Int) : Option Bool := lim fun k => (Ye k).1 a0 a1
noncomputable def Jx (Xv : (S_api_Edit → Option Bool)) (a0 : S_api_Edit) (s0_ : Int) : Option (Int ⊕ (Unit ⊕ Unit)) :=
 cond (decide (s0_ < (a0.Kids.length : Int))) ((Xi a0.Kids s0_).bind fun x6 => (Xv x6.E).bind fun y8 => cond (!y8) (some (.inr (.inl ()))) (some (.inl (IntKind.i64.wrap (s0_ + 1))))) (some (.inr (.inr ())))
noncomputable def J4 (Xv : (S_api_Edit → Option Bool)) (a0 : S_api_Edit) (s1_ : Int) : Option (Int ⊕ (Unit ⊕ Unit)) :=
 cond (decide (s1_ < (a0.Ops.length : Int))) ((Xi a0.Ops s1_).bind fun x15 => (Xv x15.E).bind fun y17 => cond (!y17) (some (.inr (.inl ()))) (some (.inl (IntKind.i64.wrap (s1_ + 1))))) (some (.inr (.inr ())))
noncomputable def Vu (Xv : (S_api_Edit → Option Bool)) (a0 : S_api_Edit) : Option Bool :=
 (Q9 a0).bind fun y2 => cond (cond (decide (2000 < y2.1)) true (decide (2000 < y2.2))) (some false) ((Z0 (Jx Xv a0) 0).bind fun (z11 : (Unit ⊕ Unit)) => match z11 with | .inl z11 => some false | .inr z11 => (Z0 (J4 Xv a0) 0).bind fun (z20 : (Unit ⊕ Unit)) => match z20 with | .inl z20 => some false | .inr z20 => some true)
noncomputable def Qm : Nat → (S_api_Edit → Option Bool)
 | 0 => (fun _ => none)
 | k + 1 => Vu ((Qm k))
noncomputable def Zca (a0 : S_api_Edit) : Option Bool := lim fun k => (Qm k) a0
noncomputable def V3 (a0 : S_api_Edit) : Option Bool :=
 ((Uq a0).bind fun y8 => cond y8 ((Zb4 a0 64).bind fun y9 => cond y9 ((Zca a0).bind fun y10 => some (cond (cond y8 y9 false) y10 false)) (some false)) (some false)).bind fun (z4 : Bool) => some z4
noncomputable def Vr (a0 : S_api_Edit) (s0_ : (Int × (List Zq))) : Option ((Int × (List Zq)) ⊕ (List Zq)) :=
 cond (decide (s0_.1 < (a0.Words.length : Int))) ((Xi a0.Words s0_.1).bind fun x2 => (Gi 32 s0_.2 ([(⟨x2.At, x2.Mask, x2.New, x2.Old⟩ : Zq)] : List Zq)).bind fun l3 => some (.inl ((IntKind.i64.wrap (s0_.1 + 1)), l3))) (some (.inr s0_.2))
noncomputable def Vv (Xz : (S_api_Edit → Option S_api_Edit)) (a0 : S_api_Edit) (s1_ : (Int × (List S_api_KidEdit))) : Option ((Int × (List S_api_KidEdit)) ⊕ (List S_api_KidEdit)) :=
 cond (decide (s1_.1 < (a0.Kids.length : Int))) ((Xi a0.Kids s1_.1).bind fun x7 => (Xz x7.E).bind fun y8 => (Gi 208 s1_.2 ([(⟨x7.At, y8⟩ : S_api_KidEdit)] : List S_api_KidEdit)).bind fun l9 => some (.inl ((IntKind.i64.wrap (s1_.1 + 1)), l9))) (some (.inr s1_.2))
noncomputable def Vl (Xp : (S_api_Op → Option S_api_Op)) (a0 : S_api_Edit) (s2_ : (Int × (List S_api_Op))) : Option ((Int × (List S_api_Op)) ⊕ (List S_api_Op)) :=
 cond (decide (s2_.1 < (a0.Ops.length : Int))) ((Xi a0.Ops s2_.1).bind fun x13 => (Xp x13).bind fun y14 => (Gi 240 s2_.2 ([y14] : List S_api_Op)).bind fun l15 => some (.inl ((IntKind.i64.wrap (s2_.1 + 1)), l15))) (some (.inr s2_.2))
noncomputable def Gp (Xz : (S_api_Edit → Option S_api_Edit)) (Xp : (S_api_Op → Option S_api_Op)) (a0 : S_api_Edit) : Option S_api_Edit :=
 (Z0 (Vr a0) (0, ([] : List Zq))).bind fun (z5 : (List Zq)) => (Z0 (Vv Xz a0) (0, ([] : List S_api_KidEdit))).bind fun (z11 : (List S_api_KidEdit)) => (Z0 (Vl Xp a0) (0, ([] : List S_api_Op))).bind fun (z17 : (List S_api_Op)) => some (⟨a0.Kind, a0.New, a0.Old, z5, z11, a0.List_, z17⟩ : S_api_Edit)
noncomputable def Ud (Xz : (S_api_Edit → Option S_api_Edit)) (Xp : (S_api_Op → Option S_api_Op)) (a0 : S_api_Op) : Option S_api_Op :=
 (cond (a0.Kind == 1) (some (2, a0.E.Kind, a0.E.Old.Kind, a0.E.Old.Words, a0.E.Old.Kids, a0.E.New.Kind, a0.E.New.Words, a0.E.New.Kids, a0.E.Words, a0.E.Kids, a0.E.List_, a0.E.Ops)) (cond (a0.Kind == 2) (some (1, a0.E.Kind, a0.E.Old.Kind, a0.E.Old.Words, a0.E.Old.Kids, a0.E.New.Kind, a0.E.New.Words, a0.E.New.Kids, a0.E.Words, a0.E.Kids, a0.E.List_, a0.E.Ops)) (cond (a0.Kind == 3) ((Xz a0.E).bind fun y2 => some (a0.Kind, y2.Kind, y2.Old.Kind, y2.Old.Words, y2.Old.Kids, y2.New.Kind, y2.New.Words, y2.New.Kids, y2.Words, y2.Kids, y2.List_, y2.Ops)) (some (a0.Kind, a0.E.Kind, a0.E.Old.Kind, a0.E.Old.Words, a0.E.Old.Kids, a0.E.New.Kind, a0.E.New.Words, a0.E.New.Kids, a0.E.Words, a0.E.Kids, a0.E.List_, a0.E.Ops))))).bind fun (z1 : (Int × Int × Int × (List Int) × (List S_api_Tree) × Int × (List Int) × (List S_api_Tree) × (List Zq) × (List S_api_KidEdit) × Int × (List S_api_Op))) => some (⟨z1.1, a0.N, a0.L, ⟨z1.2.1, ⟨z1.2.2.1, z1.2.2.2.1, z1.2.2.2.2.1⟩, ⟨z1.2.2.2.2.2.1, z1.2.2.2.2.2.2.1, z1.2.2.2.2.2.2.2.1⟩, z1.2.2.2.2.2.2.2.2.1, z1.2.2.2.2.2.2.2.2.2.1, z1.2.2.2.2.2.2.2.2.2.2.1, z1.2.2.2.2.2.2.2.2.2.2.2⟩⟩ : S_api_Op)
noncomputable def Y1 : Nat → ((S_api_Edit → Option S_api_Edit) × (S_api_Op → Option S_api_Op))
 | 0 => ((fun _ => none), (fun _ => none))
 | k + 1 => (Gp ((Y1 k).1) ((Y1 k).2), Ud ((Y1 k).1) ((Y1 k).2))
noncomputable def Zeb (a0 : S_api_Edit) : Option S_api_Edit := lim fun k => (Y1 k).1 a0
noncomputable def K5 (a0 : (List Int)) (s0_ : Int) : Option (Int ⊕ Int) :=
 (cond (decide (0 < s0_)) ((Xi a0 (IntKind.i64.wrap (s0_ - 1))).bind fun x4 => some (cond (decide (0 < s0_)) (x4 == 0) false)) (some false)).bind fun (z2 : Bool) => cond z2 (some (.inl (IntKind.i64.wrap (s0_ - 1)))) (some (.inr s0_))
noncomputable def J9 (a0 : (List Int)) : Option (List Int) :=
 (Z0 (K5 a0) (a0.length : Int)).bind fun (z7 : Int) => (Zce a0 0 z7).bind fun l9 => some l9
noncomputable def Vt (a0 : (List S_api_Tree)) (s0_ : Int) : Option (Int ⊕ Int) :=
 (cond (decide (0 < s0_)) ((Xi a0 (IntKind.i64.wrap (s0_ - 1))).bind fun x6 => some (cond (decide (0 < s0_)) (x6.Kind == 0) false)) (some false)).bind fun (z3 : Bool) => cond z3 (some (.inl (IntKind.i64.wrap (s0_ - 1)))) (some (.inr s0_))
noncomputable def Kz (a0 : (List S_api_Tree)) : Option (List S_api_Tree) :=
 (Z0 (Vt a0) (a0.length : Int)).bind fun (z10 : Int) => (Zce a0 0 z10).bind fun l12 => some l12
noncomputable def Uz (Zcc : (S_api_Tree → Option S_api_Tree)) (z1 : ((List Int) × (List S_api_Tree))) (s0_ : (Int × (List S_api_Tree))) : Option ((Int × (List S_api_Tree)) ⊕ (List S_api_Tree)) :=
 cond (decide (s0_.1 < (z1.2.length : Int))) ((Xi z1.2 s0_.1).bind fun x9 => (Zcc x9).bind fun y10 => (Xi s0_.2 s0_.1).bind fun x11 => some (.inl ((IntKind.i64.wrap (s0_.1 + 1)), (Zb7 s0_.2 s0_.1 y10)))) (some (.inr s0_.2))
noncomputable def Zdu (Zcc : (S_api_Tree → Option S_api_Tree)) (a0 : S_api_Tree) : Option S_api_Tree :=
 cond (a0.Kind == 0) (some (⟨0, [], []⟩ : S_api_Tree)) ((cond (a0.Kind == 1) ((J9 a0.Words).bind fun y2 => (Kz a0.Kids).bind fun y3 => some (y2, y3)) (some (a0.Words, a0.Kids))).bind fun (z1 : ((List Int) × (List S_api_Tree))) => (cond (decide (0 < (z1.2.length : Int))) ((Zig 56 (z1.2.length : Int) (⟨(0 : Int), [], []⟩ : S_api_Tree)).bind fun l6 => some l6) (some ([] : List S_api_Tree))).bind fun (z5 : (List S_api_Tree)) => (Z0 (Uz Zcc z1) (0, z5)).bind fun (z14 : (List S_api_Tree)) => some (⟨a0.Kind, z1.1, z14⟩ : S_api_Tree))
noncomputable def K7 : Nat → (S_api_Tree → Option S_api_Tree)
 | 0 => (fun _ => none)
 | k + 1 => Zdu ((K7 k))
noncomputable def U4 (a0 : S_api_Tree) : Option S_api_Tree := lim fun k => (K7 k) a0
noncomputable def X6 (a0 : List Zq) : Option (List Zq) :=
 Gi 32 ([] : List Zq) a0
structure Zr where
 out : (List S_api_Op)
 kept : Int
 gone : (List S_api_Tree)
 come : (List S_api_Tree)
noncomputable def Xe (a0 : Zr) : Option Zr :=
 (cond (decide (0 < a0.kept)) ((Gi 240 a0.out ([(⟨0, 0, [], ⟨0, ⟨0, [], []⟩, ⟨0, [], []⟩, [], [], 0, []⟩⟩ : S_api_Op)] : List S_api_Op)).bind fun l2 => (Xi l2 (a0.out.length : Int)).bind fun x3 => some (a0.out ++ [(⟨0, a0.kept, [], ⟨0, ⟨0, [], []⟩, ⟨0, [], []⟩, [], [], 0, []⟩⟩ : S_api_Op)])) (some a0.out)).bind fun (z1 : (List S_api_Op)) => (cond (decide (0 < (a0.gone.length : Int))) ((Gi 240 z1 ([(⟨0, 0, [], ⟨0, ⟨0, [], []⟩, ⟨0, [], []⟩, [], [], 0, []⟩⟩ : S_api_Op)] : List S_api_Op)).bind fun l9 => (Xi l9 (z1.length : Int)).bind fun x10 => some ((z1 ++ [(⟨1, 0, a0.gone, ⟨0, ⟨0, [], []⟩, ⟨0, [], []⟩, [], [], 0, []⟩⟩ : S_api_Op)]), a0.gone)) (some (z1, a0.gone))).bind fun (z6 : ((List S_api_Op) × (List S_api_Tree))) => (cond (decide (0 < (a0.come.length : Int))) ((Gi 240 z6.1 ([(⟨0, 0, [], ⟨0, ⟨0, [], []⟩, ⟨0, [], []⟩, [], [], 0, []⟩⟩ : S_api_Op)] : List S_api_Op)).bind fun l16 => (Xi l16 (z6.1.length : Int)).bind fun x17 => some ((z6.1 ++ [(⟨2, 0, a0.come, ⟨0, ⟨0, [], []⟩, ⟨0, [], []⟩, [], [], 0, []⟩⟩ : S_api_Op)]), a0.come)) (some (z6.1, a0.come))).bind fun (z13 : ((List S_api_Op) × (List S_api_Tree))) => some (⟨z13.1, 0, [], []⟩ : Zr)
noncomputable def Q7 (a0 : Zr) (a1 : Int) : Option Zr :=
 (cond (a0.kept == 0) ((Xe (⟨a0.out, a0.kept, a0.gone, a0.come⟩ : Zr)).bind fun y2 => some (y2.out, y2.gone, y2.come, y2.kept)) (some (a0.out, a0.gone, a0.come, a0.kept))).bind fun (z1 : ((List S_api_Op) × (List S_api_Tree) × (List S_api_Tree) × Int)) => some (⟨z1.1, (IntKind.i64.wrap (z1.2.2.2 + a1)), z1.2.1, z1.2.2.1⟩ : Zr)
noncomputable def X7 (a2 : (List S_api_Tree)) (s0_ : (Int × (List S_api_Tree))) : Option ((Int × (List S_api_Tree)) ⊕ (List S_api_Tree)) :=
 cond (decide (s0_.1 < (a2.length : Int))) ((Xi a2 s0_.1).bind fun x5 => (U4 x5).bind fun y6 => (Gi 56 s0_.2 ([(⟨0, [], []⟩ : S_api_Tree)] : List S_api_Tree)).bind fun l7 => (Xi l7 (s0_.2.length : Int)).bind fun x8 => some (.inl ((IntKind.i64.wrap (s0_.1 + 1)), (s0_.2 ++ [y6])))) (some (.inr s0_.2))
noncomputable def Qz (a0 : Zr) (a2 : (List S_api_Tree)) : Option Zr :=
 (cond (decide (0 < a0.kept)) ((Xe (⟨a0.out, a0.kept, a0.gone, a0.come⟩ : Zr)).bind fun y2 => some (y2.out, y2.gone, y2.come, y2.kept)) (some (a0.out, a0.gone, a0.come, a0.kept))).bind fun (z1 : ((List S_api_Op) × (List S_api_Tree) × (List S_api_Tree) × Int)) => (Z0 (X7 a2) (0, z1.2.1)).bind fun (z11 : (List S_api_Tree)) => some (⟨z1.1, z1.2.2.2, z11, z1.2.2.1⟩ : Zr)
noncomputable def X8 (a2 : (List S_api_Tree)) (s0_ : (Int × (List S_api_Tree))) : Option ((Int × (List S_api_Tree)) ⊕ (List S_api_Tree)) :=
 cond (decide (s0_.1 < (a2.length : Int))) ((Xi a2 s0_.1).bind fun x5 => (U4 x5).bind fun y6 => (Gi 56 s0_.2 ([(⟨0, [], []⟩ : S_api_Tree)] : List S_api_Tree)).bind fun l7 => (Xi l7 (s0_.2.length : Int)).bind fun x8 => some (.inl ((IntKind.i64.wrap (s0_.1 + 1)), (s0_.2 ++ [y6])))) (some (.inr s0_.2))
noncomputable def Q1 (a0 : Zr) (a2 : (List S_api_Tree)) : Option Zr :=
 (cond (decide (0 < a0.kept)) ((Xe (⟨a0.out, a0.kept, a0.gone, a0.come⟩ : Zr)).bind fun y2 => some (y2.out, y2.gone, y2.come, y2.kept)) (some (a0.out, a0.gone, a0.come, a0.kept))).bind fun (z1 : ((List S_api_Op) × (List S_api_Tree) × (List S_api_Tree) × Int)) => (Z0 (X8 a2) (0, z1.2.2.1)).bind fun (z11 : (List S_api_Tree)) => some (⟨z1.1, z1.2.2.2, z1.2.1, z11⟩ : Zr)
noncomputable def Zbw (a0 : Int) (a1 : S_api_Edit) : Option Bool :=
 some (cond (a1.Kind == 0) true (cond (cond (a0 == 9) (a1.Kind == 2) false) ((IntKind.i64.wrap ((a1.Words.length : Int) + (a1.Kids.length : Int))) == 0) false))
noncomputable def Q6 (a0 : Zr) (a1 : Int) (a2 : S_api_Edit) : Option Zr :=
 (Zbw a1 a2).bind fun y2 => cond y2 ((Q7 (⟨a0.out, a0.kept, a0.gone, a0.come⟩ : Zr) 1).bind fun y4 => some (⟨y4.out, y4.kept, y4.gone, y4.come⟩ : Zr)) ((Xe (⟨a0.out, a0.kept, a0.gone, a0.come⟩ : Zr)).bind fun y6 => (Gi 240 y6.out ([(⟨0, 0, [], ⟨0, ⟨0, [], []⟩, ⟨0, [], []⟩, [], [], 0, []⟩⟩ : S_api_Op)] : List S_api_Op)).bind fun l7 => (Xi l7 (y6.out.length : Int)).bind fun x8 => some (⟨(y6.out ++ [(⟨3, 0, [], a2⟩ : S_api_Op)]), y6.kept, y6.gone, y6.come⟩ : Zr))
noncomputable def Uy (X3 : (S_api_Edit → Option S_api_Edit)) (a0 : S_api_Edit) (s0_ : (Int × (List S_api_KidEdit))) : Option ((Int × (List S_api_KidEdit)) ⊕ (List S_api_KidEdit)) :=
 cond (decide (s0_.1 < (a0.Kids.length : Int))) ((Xi a0.Kids s0_.1).bind fun x8 => (X3 x8.E).bind fun y9 => (Gi 208 s0_.2 ([(⟨x8.At, y9⟩ : S_api_KidEdit)] : List S_api_KidEdit)).bind fun l10 => some (.inl ((IntKind.i64.wrap (s0_.1 + 1)), l10))) (some (.inr s0_.2))
noncomputable def Zbv (X3 : (S_api_Edit → Option S_api_Edit)) (V6 : (Int → (List S_api_Op) → Option (List S_api_Op))) (a0 : S_api_Edit) : Option S_api_Edit :=
 cond (a0.Kind == 1) ((U4 a0.Old).bind fun y3 => (U4 a0.New).bind fun y4 => some (⟨1, y3, y4, [], [], 0, []⟩ : S_api_Edit)) (cond (a0.Kind == 2) ((X6 a0.Words).bind fun y6 => (Z0 (Uy X3 a0) (0, ([] : List S_api_KidEdit))).bind fun (z12 : (List S_api_KidEdit)) => some (⟨2, ⟨0, [], []⟩, ⟨0, [], []⟩, y6, z12, 0, []⟩ : S_api_Edit)) (cond (a0.Kind == 3) ((V6 a0.List_ a0.Ops).bind fun y14 => some (⟨3, ⟨0, [], []⟩, ⟨0, [], []⟩, [], [], a0.List_, y14⟩ : S_api_Edit)) (some (⟨0, ⟨0, [], []⟩, ⟨0, [], []⟩, [], [], 0, []⟩ : S_api_Edit))))
noncomputable def K0 (X3 : (S_api_Edit → Option S_api_Edit)) (a0 : Int) (a1 : (List S_api_Op)) (s0_ : (Int × Int × (List S_api_Op) × (List S_api_Tree) × (List S_api_Tree))) : Option ((Int × Int × (List S_api_Op) × (List S_api_Tree) × (List S_api_Tree)) ⊕ (Int × (List S_api_Op) × (List S_api_Tree) × (List S_api_Tree))) :=
 cond (decide (s0_.1 < (a1.length : Int))) (((Xi a1 s0_.1).bind fun x3 => cond (x3.Kind == 0) ((Q7 (⟨s0_.2.2.1, s0_.2.1, s0_.2.2.2.1, s0_.2.2.2.2⟩ : Zr) x3.N).bind fun y4 => some (y4.kept, y4.out, y4.gone, y4.come)) (cond (x3.Kind == 1) ((Qz (⟨s0_.2.2.1, s0_.2.1, s0_.2.2.2.1, s0_.2.2.2.2⟩ : Zr) x3.L).bind fun y5 => some (y5.kept, y5.out, y5.gone, y5.come)) (cond (x3.Kind == 2) ((Q1 (⟨s0_.2.2.1, s0_.2.1, s0_.2.2.2.1, s0_.2.2.2.2⟩ : Zr) x3.L).bind fun y6 => some (y6.kept, y6.out, y6.gone, y6.come)) (cond (x3.Kind == 3) ((X3 x3.E).bind fun y7 => (Q6 (⟨s0_.2.2.1, s0_.2.1, s0_.2.2.2.1, s0_.2.2.2.2⟩ : Zr) a0 y7).bind fun y8 => some (y8.kept, y8.out, y8.gone, y8.come)) (some (s0_.2.1, s0_.2.2.1, s0_.2.2.2.1, s0_.2.2.2.2)))))).bind fun (z1 : (Int × (List S_api_Op) × (List S_api_Tree) × (List S_api_Tree))) => some (.inl ((IntKind.i64.wrap (s0_.1 + 1)), z1.1, z1.2.1, z1.2.2.1, z1.2.2.2))) (some (.inr (s0_.2.1, s0_.2.2.1, s0_.2.2.2.1, s0_.2.2.2.2)))
noncomputable def Zbf (X3 : (S_api_Edit → Option S_api_Edit)) (V6 : (Int → (List S_api_Op) → Option (List S_api_Op))) (a0 : Int) (a1 : (List S_api_Op)) : Option (List S_api_Op) :=
 (Z0 (K0 X3 a0 a1) (0, 0, ([] : List S_api_Op), ([] : List S_api_Tree), ([] : List S_api_Tree))).bind fun (z14 : (Int × (List S_api_Op) × (List S_api_Tree) × (List S_api_Tree))) => (Xe (⟨z14.2.1, z14.1, z14.2.2.1, z14.2.2.2⟩ : Zr)).bind fun y16 => some y16.out
noncomputable def Xh : Nat → ((S_api_Edit → Option S_api_Edit) × (Int → (List S_api_Op) → Option (List S_api_Op)))
 | 0 => ((fun _ => none), (fun _ _ => none))
 | k + 1 => (Zbv ((Xh k).1) ((Xh k).2), Zbf ((Xh k).1) ((Xh k).2))
noncomputable def Zf5 (a0 : S_api_Edit) : Option S_api_Edit := lim fun k => (Xh k).1 a0
noncomputable def Gw (a0 : S_api_Edit) : Option S_api_Edit :=
 (Zeb a0).bind fun y3 => (Zf5 y3).bind fun y4 => some y4
noncomputable def Ka  : Option Bool :=
 (Gw (⟨3, ⟨0, [], []⟩, ⟨0, [], []⟩, [], [], 4, ([(⟨2, 0, ([(⟨10, ([1] : List Int), []⟩ : S_api_Tree)] : List S_api_Tree), ⟨0, ⟨0, [], []⟩, ⟨0, [], []⟩, [], [], 0, []⟩⟩ : S_api_Op), (⟨0, 1, [], ⟨0, ⟨0, [], []⟩, ⟨0, [], []⟩, [], [], 0, []⟩⟩ : S_api_Op)] : List S_api_Op)⟩ : S_api_Edit)).bind fun y2 => (cond ((y2.Ops.length : Int) == 2) ((Xi y2.Ops 0).bind fun x12 => cond (x12.Kind == 1) ((Xi y2.Ops 1).bind fun x14 => some (cond (cond ((y2.Ops.length : Int) == 2) (x12.Kind == 1) false) (x14.Kind == 0) false)) (some false)) (some false)).bind fun (z7 : Bool) => some z7
noncomputable def Xl (a0 : (List Int)) (a1 : (List Int)) (s0_ : Int) : Option (Int ⊕ (Unit ⊕ Unit)) :=
 cond (decide (s0_ < (a0.length : Int))) ((Xi a0 s0_).bind fun x3 => (Xi a1 s0_).bind fun x4 => cond (x3 != x4) (some (.inr (.inl ()))) (some (.inl (IntKind.i64.wrap (s0_ + 1))))) (some (.inr (.inr ())))
noncomputable def Xg (a0 : (List Int)) (a1 : (List Int)) : Option Bool :=
 cond ((a0.length : Int) != (a1.length : Int)) (some false) ((Z0 (Xl a0 a1) 0).bind fun (z7 : (Unit ⊕ Unit)) => match z7 with | .inl z7 => some false | .inr z7 => some true)
noncomputable def Zcz (Ke : (S_api_Tree → S_api_Tree → Option Bool)) (Zv : ((List S_api_Tree) → (List S_api_Tree) → Option Bool)) (a0 : S_api_Tree) (a1 : S_api_Tree) : Option Bool :=
 cond (a0.Kind != a1.Kind) (some false) (cond (a0.Kind == 0) (some true) (cond (a0.Kind == 1) (((J9 a0.Words).bind fun y14 => (J9 a1.Words).bind fun y15 => (Xg y14 y15).bind fun y16 => cond y16 ((Kz a0.Kids).bind fun y17 => (Kz a1.Kids).bind fun y18 => (Zv y17 y18).bind fun y19 => some (cond y16 y19 false)) (some false)).bind fun (z7 : Bool) => some z7) (((Xg a0.Words a1.Words).bind fun y26 => cond y26 ((Zv a0.Kids a1.Kids).bind fun y27 => some (cond y26 y27 false)) (some false)).bind fun (z23 : Bool) => some z23)))
noncomputable def Z7 (Ke : (S_api_Tree → S_api_Tree → Option Bool)) (a0 : (List S_api_Tree)) (a1 : (List S_api_Tree)) (s0_ : Int) : Option (Int ⊕ (Unit ⊕ Unit)) :=
 cond (decide (s0_ < (a0.length : Int))) ((Xi a0 s0_).bind fun x2 => (Xi a1 s0_).bind fun x4 => (Ke x2 x4).bind fun y6 => cond (!y6) (some (.inr (.inl ()))) (some (.inl (IntKind.i64.wrap (s0_ + 1))))) (some (.inr (.inr ())))
noncomputable def Z9 (Ke : (S_api_Tree → S_api_Tree → Option Bool)) (Zv : ((List S_api_Tree) → (List S_api_Tree) → Option Bool)) (a0 : (List S_api_Tree)) (a1 : (List S_api_Tree)) : Option Bool :=
 cond ((a0.length : Int) != (a1.length : Int)) (some false) ((Z0 (Z7 Ke a0 a1) 0).bind fun (z9 : (Unit ⊕ Unit)) => match z9 with | .inl z9 => some false | .inr z9 => some true)
noncomputable def Xd : Nat → ((S_api_Tree → S_api_Tree → Option Bool) × ((List S_api_Tree) → (List S_api_Tree) → Option Bool))
 | 0 => ((fun _ _ => none), (fun _ _ => none))
 | k + 1 => (Zcz ((Xd k).1) ((Xd k).2), Z9 ((Xd k).1) ((Xd k).2))
noncomputable def Zg4 (a0 : S_api_Tree) (a1 : S_api_Tree) : Option Bool := lim fun k => (Xd k).1 a0 a1
noncomputable def Y2 (a0 : (List S_api_Tree)) (a1 : (List S_api_Tree)) : Option Bool := lim fun k => (Xd k).2 a0 a1
noncomputable def K1 (a0 : List Int) : Option (List Int) :=
 Gi 8 ([] : List Int) a0
noncomputable def Jm (a0 : List S_api_Tree) : Option (List S_api_Tree) :=
 Gi 56 ([] : List S_api_Tree) a0
noncomputable def Zds (a0 : S_api_Tree) (a1 : Int) : Option Int :=
 cond (cond (decide (a1 < 0)) true (decide ((a0.Words.length : Int) ≤ a1))) (some 0) ((Xi a0.Words a1).bind fun x2 => some x2)
noncomputable def Vy (a0 : Int) : Option Bool :=
 some (cond (decide (a0 < 0)) true (decide (65534 < a0)))
noncomputable def Zan (a0 : Int) (s0_ : (Int × Int)) : Option ((Int × Int) ⊕ Int) :=
 cond (decide (s0_.2 < 8)) (((Zj4 (0 ≤ s0_.2)).bind fun u3 => cond ((IntKind.u8.wrap (Zft .u8 (Int.fdiv a0 (2 ^ min (Int.toNat s0_.2) 8)) 1)) == 1) ((Zj4 (0 ≤ (IntKind.i64.wrap (8 * s0_.2)))).bind fun u4 => some (IntKind.u64.wrap (Zqm .u64 s0_.1 (IntKind.u64.wrap (255 * 2 ^ min (Int.toNat (IntKind.i64.wrap (8 * s0_.2))) 64))))) (some s0_.1)).bind fun (z1 : Int) => some (.inl (z1, (IntKind.i64.wrap (s0_.2 + 1))))) (some (.inr s0_.1))
noncomputable def Zar (a0 : Int) : Option Int :=
 (Z0 (Zan a0) (0, 0)).bind fun (z7 : Int) => some z7
noncomputable def Zdm (a0 : Int) (a1 : Int) (a2 : Int) : Option Int :=
 (Zar a2).bind fun y2 => some (IntKind.u64.wrap (Zqm .u64 (IntKind.u64.wrap (Zq6 .u64 a0 y2)) (IntKind.u64.wrap (Zft .u64 a1 y2))))
noncomputable def Ve (a1 : Int) (a2 : Int) (s0_ : (List Int)) : Option ((List Int) ⊕ (List Int)) :=
 cond (cond (decide ((s0_.length : Int) ≤ a1)) (a2 != 0) false) ((Gi 8 s0_ ([0] : List Int)).bind fun l1 => some (.inl l1)) (some (.inr s0_))
noncomputable def Gs (a0 : S_api_Tree) (a1 : Int) (a2 : Int) : Option S_api_Tree :=
 (Z0 (Ve a1 a2) a0.Words).bind fun (z3 : (List Int)) => cond (decide (a1 < (z3.length : Int))) ((Xi z3 a1).bind fun x4 => some (⟨a0.Kind, (Zb7 z3 a1 a2), a0.Kids⟩ : S_api_Tree)) (some (⟨a0.Kind, z3, a0.Kids⟩ : S_api_Tree))
noncomputable def Zfn (a0 : S_api_Tree) (a1 : Int) : Option S_api_Tree :=
 cond (cond (decide (a1 < 0)) true (decide ((a0.Kids.length : Int) ≤ a1))) (some (⟨0, [], []⟩ : S_api_Tree)) ((Xi a0.Kids a1).bind fun x2 => some x2)
noncomputable def Ua (a1 : Int) (a2 : S_api_Tree) (s0_ : (List S_api_Tree)) : Option ((List S_api_Tree) ⊕ (List S_api_Tree)) :=
 cond (cond (decide ((s0_.length : Int) ≤ a1)) (a2.Kind != 0) false) ((Gi 56 s0_ ([(⟨0, [], []⟩ : S_api_Tree)] : List S_api_Tree)).bind fun l1 => (Xi l1 (s0_.length : Int)).bind fun x2 => some (.inl (s0_ ++ [(⟨0, [], []⟩ : S_api_Tree)]))) (some (.inr s0_))
noncomputable def Za7 (a0 : S_api_Tree) (a1 : Int) (a2 : S_api_Tree) : Option S_api_Tree :=
 (Z0 (Ua a1 a2) a0.Kids).bind fun (z5 : (List S_api_Tree)) => cond (decide (a1 < (z5.length : Int))) ((Xi z5 a1).bind fun x6 => some (⟨a0.Kind, a0.Words, (Zb7 z5 a1 a2)⟩ : S_api_Tree)) (some (⟨a0.Kind, a0.Words, z5⟩ : S_api_Tree))
noncomputable def Zd5 (a0 : Int) : Option Bool :=
 some (cond (decide (2 ≤ a0)) (decide (a0 ≤ 9)) false)
structure Zi where
 left : (List S_api_Tree)
 out : (List S_api_Tree)
noncomputable def V4 (Yz : (S_api_Edit → S_api_Tree → Option (S_api_Tree × Bool))) (Yc : (S_api_Edit → S_api_Tree → Option (S_api_Tree × Bool))) (Y6 : (S_api_Edit → S_api_Tree → Option (S_api_Tree × Bool))) (Z5 : (Zi → S_api_Op → Option (Bool × Zi))) (Z4 : (Zi → S_api_Edit → Option (Bool × Zi))) (a0 : S_api_Edit) (a1 : S_api_Tree) : Option (S_api_Tree × Bool) :=
 cond (a0.Kind == 0) (some (a1, true)) (cond (a0.Kind == 1) ((Zg4 a1 a0.Old).bind fun y2 => some (a0.New, y2)) (cond (a0.Kind == 2) ((Yc a0 a1).bind fun y4 => some (y4.1, y4.2)) (cond (a0.Kind == 3) ((Y6 a0 a1).bind fun y6 => some (y6.1, y6.2)) (some ((⟨0, [], []⟩ : S_api_Tree), false)))))
noncomputable def Qc (a0 : S_api_Edit) (a1 : S_api_Tree) (s0_ : (Int × Int × (List Int) × (List S_api_Tree))) : Option ((Int × Int × (List Int) × (List S_api_Tree)) ⊕ (Unit ⊕ (Int × (List Int) × (List S_api_Tree)))) :=
 cond (decide (s0_.1 < (a0.Words.length : Int))) ((Xi a0.Words s0_.1).bind fun x110 => (Zds a1 x110.At).bind fun y112 => ((Vy x110.At).bind fun y118 => cond y118 (some true) ((Zar x110.Mask).bind fun y119 => some (cond y118 true ((IntKind.u64.wrap (Zft .u64 (IntKind.u64.wrap (Zkq .u64 y112 x110.Old)) y119)) != 0)))).bind fun (z115 : Bool) => cond z115 (some (.inr (.inl ()))) ((Zdm y112 x110.New x110.Mask).bind fun y121 => (Gs (⟨s0_.2.1, s0_.2.2.1, s0_.2.2.2⟩ : S_api_Tree) x110.At y121).bind fun y122 => some (.inl ((IntKind.i64.wrap (s0_.1 + 1)), y122.Kind, y122.Words, y122.Kids)))) (some (.inr (.inr (s0_.2.1, s0_.2.2.1, s0_.2.2.2))))
noncomputable def Xt (Yz : (S_api_Edit → S_api_Tree → Option (S_api_Tree × Bool))) (a0 : S_api_Edit) (a1 : S_api_Tree) (s1_ : (Int × Int × (List Int) × (List S_api_Tree))) : Option ((Int × Int × (List Int) × (List S_api_Tree)) ⊕ (Unit ⊕ (Int × (List Int) × (List S_api_Tree)))) :=
 cond (decide (s1_.1 < (a0.Kids.length : Int))) ((Xi a0.Kids s1_.1).bind fun x127 => (Zfn a1 x127.At).bind fun y130 => (Yz x127.E y130).bind fun y131 => (Vy x127.At).bind fun y133 => cond (cond y133 true (!y131.2)) (some (.inr (.inl ()))) ((Za7 (⟨s1_.2.1, s1_.2.2.1, s1_.2.2.2⟩ : S_api_Tree) x127.At y131.1).bind fun y134 => some (.inl ((IntKind.i64.wrap (s1_.1 + 1)), y134.Kind, y134.Words, y134.Kids)))) (some (.inr (.inr (s1_.2.1, s1_.2.2.1, s1_.2.2.2))))
noncomputable def Kt (Yz : (S_api_Edit → S_api_Tree → Option (S_api_Tree × Bool))) (Yc : (S_api_Edit → S_api_Tree → Option (S_api_Tree × Bool))) (Y6 : (S_api_Edit → S_api_Tree → Option (S_api_Tree × Bool))) (Z5 : (Zi → S_api_Op → Option (Bool × Zi))) (Z4 : (Zi → S_api_Edit → Option (Bool × Zi))) (a0 : S_api_Edit) (a1 : S_api_Tree) : Option (S_api_Tree × Bool) :=
 cond (a1.Kind != 1) (some ((⟨0, [], []⟩ : S_api_Tree), false)) ((K1 a1.Words).bind fun y25 => (Jm a1.Kids).bind fun y61 => (Z0 (Qc a0 a1) (0, 1, y25, y61)).bind fun (z125 : (Unit ⊕ (Int × (List Int) × (List S_api_Tree)))) => match z125 with | .inl z125 => some ((⟨0, [], []⟩ : S_api_Tree), false) | .inr z125 => (Z0 (Xt Yz a0 a1) (0, z125.1, z125.2.1, z125.2.2)).bind fun (z137 : (Unit ⊕ (Int × (List Int) × (List S_api_Tree)))) => match z137 with | .inl z137 => some ((⟨0, [], []⟩ : S_api_Tree), false) | .inr z137 => some ((⟨z137.1, z137.2.1, z137.2.2⟩ : S_api_Tree), true))
noncomputable def Jr (Z5 : (Zi → S_api_Op → Option (Bool × Zi))) (a0 : S_api_Edit) (s0_ : (Int × (List S_api_Tree) × (List S_api_Tree))) : Option ((Int × (List S_api_Tree) × (List S_api_Tree)) ⊕ (Unit ⊕ ((List S_api_Tree) × (List S_api_Tree)))) :=
 cond (decide (s0_.1 < (a0.Ops.length : Int))) ((Xi a0.Ops s0_.1).bind fun x7 => (Z5 (⟨s0_.2.1, s0_.2.2⟩ : Zi) x7).bind fun y9 => cond (!y9.1) (some (.inr (.inl ()))) (some (.inl ((IntKind.i64.wrap (s0_.1 + 1)), y9.2.left, y9.2.out)))) (some (.inr (.inr (s0_.2.1, s0_.2.2))))
noncomputable def Zbh (Yz : (S_api_Edit → S_api_Tree → Option (S_api_Tree × Bool))) (Yc : (S_api_Edit → S_api_Tree → Option (S_api_Tree × Bool))) (Y6 : (S_api_Edit → S_api_Tree → Option (S_api_Tree × Bool))) (Z5 : (Zi → S_api_Op → Option (Bool × Zi))) (Z4 : (Zi → S_api_Edit → Option (Bool × Zi))) (a0 : S_api_Edit) (a1 : S_api_Tree) : Option (S_api_Tree × Bool) :=
 (cond (a1.Kind != a0.List_) (some true) ((Zd5 a1.Kind).bind fun y4 => some (cond (a1.Kind != a0.List_) true (!y4)))).bind fun (z2 : Bool) => cond z2 (some ((⟨0, [], []⟩ : S_api_Tree), false)) ((Z0 (Jr Z5 a0) (0, a1.Kids, ([] : List S_api_Tree))).bind fun (z12 : (Unit ⊕ ((List S_api_Tree) × (List S_api_Tree)))) => match z12 with | .inl z12 => some ((⟨0, [], []⟩ : S_api_Tree), false) | .inr z12 => some ((⟨a1.Kind, [], z12.2⟩ : S_api_Tree), ((z12.1.length : Int) == 0)))
noncomputable def K3 (Yz : (S_api_Edit → S_api_Tree → Option (S_api_Tree × Bool))) (Yc : (S_api_Edit → S_api_Tree → Option (S_api_Tree × Bool))) (Y6 : (S_api_Edit → S_api_Tree → Option (S_api_Tree × Bool))) (Z5 : (Zi → S_api_Op → Option (Bool × Zi))) (Z4 : (Zi → S_api_Edit → Option (Bool × Zi))) (a0 : Zi) (a1 : S_api_Op) : Option (Bool × Zi) :=
 cond (a1.Kind == 0) ((cond (decide (a1.N < 0)) (some true) (some (cond (decide (a1.N < 0)) true (decide ((a0.left.length : Int) < a1.N))))).bind fun (z1 : Bool) => cond z1 (some (false, (⟨a0.left, a0.out⟩ : Zi))) ((Zce a0.left 0 a1.N).bind fun l5 => (Gi 56 a0.out l5).bind fun l6 => (Zce a0.left a1.N (a0.left.length : Int)).bind fun l8 => some (true, (⟨l8, l6⟩ : Zi)))) (cond (a1.Kind == 1) ((cond (decide ((a0.left.length : Int) < (a1.L.length : Int))) (some true) ((Zce a0.left 0 (a1.L.length : Int)).bind fun l15 => (Y2 l15 a1.L).bind fun y16 => some (cond (decide ((a0.left.length : Int) < (a1.L.length : Int))) true (!y16)))).bind fun (z12 : Bool) => cond z12 (some (false, (⟨a0.left, a0.out⟩ : Zi))) ((Zce a0.left (a1.L.length : Int) (a0.left.length : Int)).bind fun l19 => some (true, (⟨l19, a0.out⟩ : Zi)))) (cond (a1.Kind == 2) ((Gi 56 a0.out a1.L).bind fun l22 => some (true, (⟨a0.left, l22⟩ : Zi))) (cond (a1.Kind == 3) ((Z4 (⟨a0.left, a0.out⟩ : Zi) a1.E).bind fun y24 => some (y24.1, (⟨y24.2.left, y24.2.out⟩ : Zi))) (some (false, (⟨a0.left, a0.out⟩ : Zi))))))
noncomputable def Jn (Yz : (S_api_Edit → S_api_Tree → Option (S_api_Tree × Bool))) (Yc : (S_api_Edit → S_api_Tree → Option (S_api_Tree × Bool))) (Y6 : (S_api_Edit → S_api_Tree → Option (S_api_Tree × Bool))) (Z5 : (Zi → S_api_Op → Option (Bool × Zi))) (Z4 : (Zi → S_api_Edit → Option (Bool × Zi))) (a0 : Zi) (a1 : S_api_Edit) : Option (Bool × Zi) :=
 cond ((a0.left.length : Int) == 0) (some (false, (⟨a0.left, a0.out⟩ : Zi))) ((Xi a0.left 0).bind fun x3 => (Yz a1 x3).bind fun y4 => (Gi 56 a0.out ([(⟨0, [], []⟩ : S_api_Tree)] : List S_api_Tree)).bind fun l8 => (Xi l8 (a0.out.length : Int)).bind fun x9 => (Zce a0.left 1 (a0.left.length : Int)).bind fun l12 => some (y4.2, (⟨l12, (a0.out ++ [y4.1])⟩ : Zi)))
noncomputable def Zp : Nat → ((S_api_Edit → S_api_Tree → Option (S_api_Tree × Bool)) × (S_api_Edit → S_api_Tree → Option (S_api_Tree × Bool)) × (S_api_Edit → S_api_Tree → Option (S_api_Tree × Bool)) × (Zi → S_api_Op → Option (Bool × Zi)) × (Zi → S_api_Edit → Option (Bool × Zi)))
 | 0 => ((fun _ _ => none), (fun _ _ => none), (fun _ _ => none), (fun _ _ => none), (fun _ _ => none))
 | k + 1 => (V4 ((Zp k).1) ((Zp k).2.1) ((Zp k).2.2.1) ((Zp k).2.2.2.1) ((Zp k).2.2.2.2), Kt ((Zp k).1) ((Zp k).2.1) ((Zp k).2.2.1) ((Zp k).2.2.2.1) ((Zp k).2.2.2.2), Zbh ((Zp k).1) ((Zp k).2.1) ((Zp k).2.2.1) ((Zp k).2.2.2.1) ((Zp k).2.2.2.2), K3 ((Zp k).1) ((Zp k).2.1) ((Zp k).2.2.1) ((Zp k).2.2.2.1) ((Zp k).2.2.2.2), Jn ((Zp k).1) ((Zp k).2.1) ((Zp k).2.2.1) ((Zp k).2.2.2.1) ((Zp k).2.2.2.2))
noncomputable def Zhb (a0 : S_api_Edit) (a1 : S_api_Tree) : Option (S_api_Tree × Bool) := lim fun k => (Zp k).1 a0 a1
noncomputable def Kf (a0 : S_api_Edit) (a1 : S_api_Tree) : Option (S_api_Tree × Bool) :=
 (Zhb a0 a1).bind fun y2 => cond (!y2.2) (some ((⟨0, [], []⟩ : S_api_Tree), false)) ((U4 y2.1).bind fun y4 => some (y4, true))
noncomputable def Kp (a0 : (List Int)) (s0_ : Int) : Option (Int ⊕ Int) :=
 (cond (decide (0 < s0_)) ((Xi a0 (IntKind.i64.wrap (s0_ - 1))).bind fun x4 => some (cond (decide (0 < s0_)) (x4 == 0) false)) (some false)).bind fun (z2 : Bool) => cond z2 (some (.inl (IntKind.i64.wrap (s0_ - 1)))) (some (.inr s0_))
noncomputable def Ue (a0 : (List Int)) : Option (List Int) :=
 (Z0 (Kp a0) (a0.length : Int)).bind fun (z7 : Int) => (Zce a0 0 z7).bind fun l10 => (Gi 8 ([] : List Int) l10).bind fun l11 => some l11
noncomputable def Qg (Ky : (S_api_Tree → Option S_api_Tree)) (a0 : S_api_Tree) (s0_ : (Int × Int × (List S_api_Tree))) : Option ((Int × Int × (List S_api_Tree)) ⊕ (Int × (List S_api_Tree))) :=
 cond (decide (s0_.2.1 < (a0.Kids.length : Int))) (((Xi a0.Kids s0_.2.1).bind fun x4 => (Ky x4).bind fun y5 => (Gi 56 s0_.2.2 ([y5] : List S_api_Tree)).bind fun l7 => cond (y5.Kind != 0) (some ((IntKind.i64.wrap (s0_.2.1 + 1)), l7)) (some (s0_.1, l7))).bind fun (z1 : (Int × (List S_api_Tree))) => some (.inl (z1.1, (IntKind.i64.wrap (s0_.2.1 + 1)), z1.2))) (some (.inr (s0_.1, s0_.2.2)))
noncomputable def V7 (Ky : (S_api_Tree → Option S_api_Tree)) (a0 : S_api_Tree) : Option S_api_Tree :=
 cond (a0.Kind == 0) (some (⟨0, [], []⟩ : S_api_Tree)) ((Z0 (Qg Ky a0) (0, 0, ([] : List S_api_Tree))).bind fun (z10 : (Int × (List S_api_Tree))) => cond (a0.Kind == 1) ((Ue a0.Words).bind fun y14 => (Zce z10.2 0 z10.1).bind fun l15 => some (⟨1, y14, l15⟩ : S_api_Tree)) ((Gi 8 ([] : List Int) a0.Words).bind fun l17 => some (⟨a0.Kind, l17, z10.2⟩ : S_api_Tree)))
noncomputable def Xk : Nat → (S_api_Tree → Option S_api_Tree)
 | 0 => (fun _ => none)
 | k + 1 => V7 ((Xk k))
noncomputable def V9 (a0 : S_api_Tree) : Option S_api_Tree := lim fun k => (Xk k) a0
noncomputable def Kk (a0 : (List Int)) (a1 : (List Int)) (s0_ : Int) : Option (Int ⊕ (Unit ⊕ Unit)) :=
 cond (decide (s0_ < (a0.length : Int))) ((Xi a0 s0_).bind fun x3 => (Xi a1 s0_).bind fun x4 => cond (x3 != x4) (some (.inr (.inl ()))) (some (.inl (IntKind.i64.wrap (s0_ + 1))))) (some (.inr (.inr ())))
noncomputable def Uf (a0 : (List Int)) (a1 : (List Int)) : Option Bool :=
 cond ((a0.length : Int) != (a1.length : Int)) (some false) ((Z0 (Kk a0 a1) 0).bind fun (z7 : (Unit ⊕ Unit)) => match z7 with | .inl z7 => some false | .inr z7 => some true)
noncomputable def Ki (Ku : (S_api_Tree → S_api_Tree → Option Bool)) (a0 : S_api_Tree) (a1 : S_api_Tree) (s0_ : Int) : Option (Int ⊕ (Unit ⊕ Unit)) :=
 cond (decide (s0_ < (a0.Kids.length : Int))) ((Xi a0.Kids s0_).bind fun x9 => (Xi a1.Kids s0_).bind fun x10 => (Ku x9 x10).bind fun y11 => cond (!y11) (some (.inr (.inl ()))) (some (.inl (IntKind.i64.wrap (s0_ + 1))))) (some (.inr (.inr ())))
noncomputable def Uc (Ku : (S_api_Tree → S_api_Tree → Option Bool)) (a0 : S_api_Tree) (a1 : S_api_Tree) : Option Bool :=
 (cond (a0.Kind != a1.Kind) (some true) ((Uf a0.Words a1.Words).bind fun y4 => some (cond (cond (a0.Kind != a1.Kind) true (!y4)) true ((a0.Kids.length : Int) != (a1.Kids.length : Int))))).bind fun (z2 : Bool) => cond z2 (some false) ((Z0 (Ki Ku a0 a1) 0).bind fun (z14 : (Unit ⊕ Unit)) => match z14 with | .inl z14 => some false | .inr z14 => some true)
noncomputable def Q3 : Nat → (S_api_Tree → S_api_Tree → Option Bool)
 | 0 => (fun _ _ => none)
 | k + 1 => Uc ((Q3 k))
noncomputable def V5 (a0 : S_api_Tree) (a1 : S_api_Tree) : Option Bool := lim fun k => (Q3 k) a0 a1
noncomputable def Ks (a0 : S_api_Edit) (a1 : S_api_Tree) : Option Bool :=
 ((Qo a1).bind fun y6 => cond y6 ((V3 a0).bind fun y7 => some (cond (!y6) true (!y7))) (some true)).bind fun (z3 : Bool) => cond z3 ((Ka).bind fun y10 => some y10) ((Gw a0).bind fun y12 => ((Kf a0 a1).bind fun y15 => (cond y15.2 ((Qo y15.1).bind fun y19 => some (cond y15.2 y19 false)) (some false)).bind fun (z17 : Bool) => cond z17 ((Kf y12 y15.1).bind fun y22 => (cond y22.2 ((V9 a1).bind fun y28 => (V5 y22.1 y28).bind fun y29 => some (cond (!y22.2) true (!y29))) (some true)).bind fun (z25 : Bool) => cond z25 (some (.inr ())) (some (.inl ()))) (some (.inl ()))).bind fun (z13 : (Unit ⊕ Unit)) => match z13 with | .inl z13 => (((Kf y12 a1).bind fun y35 => (cond y35.2 ((Qo y35.1).bind fun y39 => some (cond y35.2 y39 false)) (some false)).bind fun (z37 : Bool) => cond z37 ((Kf a0 y35.1).bind fun y42 => (cond y42.2 ((V9 a1).bind fun y48 => (V5 y42.1 y48).bind fun y49 => some (cond (!y42.2) true (!y49))) (some true)).bind fun (z45 : Bool) => cond z45 (some (.inr ())) (some (.inl ()))) (some (.inl ()))).bind fun (z33 : (Unit ⊕ Unit)) => match z33 with | .inl z33 => (Ka).bind fun y54 => some y54 | .inr z33 => some false) | .inr z13 => some false)
end Go.Proofs.Ytbcgiaijjaocdaa
