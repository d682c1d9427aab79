/- Part LD of this seat's mirrors: functions of the seat's program, and the plain functions that they are; each theorem bears its own conditions. -/
import Derived.Test.YtkdanjfmobibbaaH26
namespace Go.Proofs.Ytkdanjfmobibbaa
open Go.RowKit
set_option linter.unusedVariables false
set_option linter.unusedSimpArgs false
set_option maxRecDepth 100000
set_option maxHeartbeats 4000000
structure S_centoref17_Step where
  Kind : Int
  N : Int

noncomputable def m_centolaw17_few (a0 : (List S_centoref17_Step)) : Option (List S_centoref17_Step) :=
  cond (decide (300 < (a0.length : Int))) ((subI a0 0 300).bind fun l2 => some l2) (some a0)

noncomputable def m_centolaw17_Mine_L0 (a0 : (List S_centoref17_Step)) (s0_ : (Int × (List S_centoref17_Step))) : Option ((Int × (List S_centoref17_Step)) ⊕ (List S_centoref17_Step)) :=
  cond (decide (s0_.1 < (a0.length : Int))) ((getI a0 s0_.1).bind fun x1 => (appI 16 s0_.2 ([(⟨x1.Kind, x1.N⟩ : S_centoref17_Step)] : List S_centoref17_Step)).bind fun l5 => some (.inl ((IntKind.i64.wrap (s0_.1 + 1)), l5))) (some (.inr s0_.2))

noncomputable def m_centolaw17_Mine (a0 : (List S_centoref17_Step)) : Option (List S_centoref17_Step) :=
  (runLoop (m_centolaw17_Mine_L0 a0) (0, ([] : List S_centoref17_Step))).bind fun (z7 : (List S_centoref17_Step)) => some z7

noncomputable def m_script_Step_may (a0 : S_centoref17_Step) : Option Bool :=
  some (cond (cond (cond (decide (0 ≤ a0.Kind)) (decide (a0.Kind ≤ 2)) false) (decide (1 ≤ a0.N)) false) (decide (a0.N ≤ 1048576)) false)

noncomputable def m_script_Counts_L0 (a0 : (List S_centoref17_Step)) (s0_ : (Int × (Arr Int 3))) : Option ((Int × (Arr Int 3)) ⊕ (Arr Int 3)) :=
  cond (decide (s0_.1 < (a0.length : Int))) (((getI a0 s0_.1).bind fun x11 => (m_script_Step_may x11).bind fun y13 => cond y13 ((getI s0_.2.1 x11.Kind).bind fun x14 => some (Arr.put s0_.2 x11.Kind (IntKind.i64.wrap (x14 + x11.N)))) (some s0_.2)).bind fun (z9 : (Arr Int 3)) => some (.inl ((IntKind.i64.wrap (s0_.1 + 1)), z9))) (some (.inr s0_.2))

noncomputable def m_script_Counts (a0 : (List S_centoref17_Step)) : Option (Arr Int 3) :=
  ((some (⟨[0, 0, 0], rfl⟩ : (Arr Int 3)))).bind fun y3 => ((some (⟨[0, 0, 0], rfl⟩ : (Arr Int 3)))).bind fun y7 => (runLoop (m_script_Counts_L0 a0) (0, y7)).bind fun (z19 : (Arr Int 3)) => some z19

noncomputable def m_script_Sizes_L0 (a0 : (List S_centoref17_Step)) (s0_ : Int) : Option (Int ⊕ (Unit ⊕ Unit)) :=
  cond (decide (s0_ < (a0.length : Int))) ((getI a0 s0_).bind fun x2 => (m_script_Step_may x2).bind fun y4 => cond (!y4) (some (.inr (.inl ()))) (some (.inl (IntKind.i64.wrap (s0_ + 1))))) (some (.inr (.inr ())))

noncomputable def m_script_Sizes (a0 : (List S_centoref17_Step)) : Option (Int × Int × Bool) :=
  (runLoop (m_script_Sizes_L0 a0) 0).bind fun (z7 : (Unit ⊕ Unit)) => match z7 with | .inl z7 => some (0, 0, false) | .inr z7 => (m_script_Counts a0).bind fun y12 => ((some (⟨[0, 0, 0], rfl⟩ : (Arr Int 3)))).bind fun y13 => (getI y12.1 0).bind fun x20 => (getI y12.1 1).bind fun x21 => (getI y12.1 2).bind fun x23 => some ((IntKind.i64.wrap (x20 + x21)), (IntKind.i64.wrap (x20 + x23)), true)

noncomputable def m_centoref17_Right (a0 : S_centoref17_Step) : Option Bool :=
  some (cond (cond (cond (decide (0 ≤ a0.Kind)) (decide (a0.Kind ≤ 2)) false) (decide (1 ≤ a0.N)) false) (decide (a0.N ≤ 1048576)) false)

noncomputable def m_centoref17_Sizes_L0 (a0 : (List S_centoref17_Step)) (s0_ : (Int × Int × Int)) : Option ((Int × Int × Int) ⊕ (Unit ⊕ (Int × Int))) :=
  cond (decide (s0_.2.2 < (a0.length : Int))) (((getI a0 s0_.2.2).bind fun x4 => (m_centoref17_Right x4).bind fun y5 => cond (!y5) (some (.inr ())) (((getI a0 s0_.2.2).bind fun x9 => cond (decide (x9.Kind < 2)) ((getI a0 s0_.2.2).bind fun x11 => some (IntKind.i64.wrap (s0_.1 + x11.N))) (some s0_.1)).bind fun (z6 : Int) => (getI a0 s0_.2.2).bind fun x16 => cond (x16.Kind != 1) ((getI a0 s0_.2.2).bind fun x18 => some (.inl (z6, (IntKind.i64.wrap (s0_.2.1 + x18.N))))) (some (.inl (z6, s0_.2.1))))).bind fun (z1 : ((Int × Int) ⊕ Unit)) => match z1 with | .inl z1 => some (.inl (z1.1, z1.2, (IntKind.i64.wrap (s0_.2.2 + 1)))) | .inr z1 => some (.inr (.inl ()))) (some (.inr (.inr (s0_.1, s0_.2.1))))

noncomputable def m_centoref17_Sizes (a0 : (List S_centoref17_Step)) : Option (Int × Int × Bool) :=
  (runLoop (m_centoref17_Sizes_L0 a0) (0, 0, 0)).bind fun (z23 : (Unit ⊕ (Int × Int))) => match z23 with | .inl z23 => some (0, 0, false) | .inr z23 => some (z23.1, z23.2, true)

noncomputable def m_script_Normal_1_L0 (a0 : (List Int)) (s0_ : (Int × (List S_centoref17_Step) × (Arr Int 3))) : Option ((Int × (List S_centoref17_Step) × (Arr Int 3)) ⊕ ((List S_centoref17_Step) × (Arr Int 3))) :=
  cond (decide (s0_.1 < (a0.length : Int))) ((getI a0 s0_.1).bind fun x2 => ((getI s0_.2.2.1 x2).bind fun x5 => cond (decide (0 < x5)) ((getI s0_.2.2.1 x2).bind fun x6 => (appI 16 s0_.2.1 ([(⟨x2, x6⟩ : S_centoref17_Step)] : List S_centoref17_Step)).bind fun l7 => some l7) (some s0_.2.1)).bind fun (z3 : (List S_centoref17_Step)) => (getI s0_.2.2.1 x2).bind fun x9 => some (.inl ((IntKind.i64.wrap (s0_.1 + 1)), z3, (Arr.put s0_.2.2 x2 0)))) (some (.inr (s0_.2.1, s0_.2.2)))

noncomputable def m_script_Normal_1 (a0 : (List Int)) (a1 : (Arr Int 3)) (a2 : (List S_centoref17_Step)) : Option ((Arr Int 3) × (List S_centoref17_Step)) :=
  (runLoop (m_script_Normal_1_L0 a0) (0, a2, a1)).bind fun (z12 : ((List S_centoref17_Step) × (Arr Int 3))) => some (z12.2, z12.1)

noncomputable def m_script_Normal_L0 (a0 : (List S_centoref17_Step)) (s0_ : (Int × (Arr Int 3) × (List S_centoref17_Step))) : Option ((Int × (Arr Int 3) × (List S_centoref17_Step)) ⊕ ((Arr Int 3) × (List S_centoref17_Step))) :=
  cond (decide (s0_.1 < (a0.length : Int))) (((getI a0 s0_.1).bind fun x7 => (m_script_Step_may x7).bind fun y9 => cond (!y9) (some (s0_.2.1, s0_.2.2)) ((cond (x7.Kind == 0) ((m_script_Normal_1 ([1, 2] : List Int) s0_.2.1 s0_.2.2).bind fun y11 => some (y11.1, y11.2)) ((m_script_Normal_1 ([0] : List Int) s0_.2.1 s0_.2.2).bind fun y12 => some (y12.1, y12.2))).bind fun (z10 : ((Arr Int 3) × (List S_centoref17_Step))) => (getI z10.1.1 x7.Kind).bind fun x14 => some ((Arr.put z10.1 x7.Kind (IntKind.i64.wrap (x14 + x7.N))), z10.2))).bind fun (z5 : ((Arr Int 3) × (List S_centoref17_Step))) => some (.inl ((IntKind.i64.wrap (s0_.1 + 1)), z5.1, z5.2))) (some (.inr (s0_.2.1, s0_.2.2)))

noncomputable def m_script_Normal (a0 : (List S_centoref17_Step)) : Option (List S_centoref17_Step) :=
  ((some (⟨[0, 0, 0], rfl⟩ : (Arr Int 3)))).bind fun y3 => (runLoop (m_script_Normal_L0 a0) (0, y3, ([] : List S_centoref17_Step))).bind fun (z19 : ((Arr Int 3) × (List S_centoref17_Step))) => (m_script_Normal_1 ([0, 1, 2] : List Int) z19.1 z19.2).bind fun y21 => some y21.2

noncomputable def m_centolaw17_Theirs_L0 (a0 : (List S_centoref17_Step)) (s0_ : (Int × (List S_centoref17_Step))) : Option ((Int × (List S_centoref17_Step)) ⊕ (List S_centoref17_Step)) :=
  cond (decide (s0_.1 < (a0.length : Int))) ((getI a0 s0_.1).bind fun x1 => (appI 16 s0_.2 ([(⟨x1.Kind, x1.N⟩ : S_centoref17_Step)] : List S_centoref17_Step)).bind fun l5 => some (.inl ((IntKind.i64.wrap (s0_.1 + 1)), l5))) (some (.inr s0_.2))

noncomputable def m_centolaw17_Theirs (a0 : (List S_centoref17_Step)) : Option (List S_centoref17_Step) :=
  (runLoop (m_centolaw17_Theirs_L0 a0) (0, ([] : List S_centoref17_Step))).bind fun (z7 : (List S_centoref17_Step)) => some z7

noncomputable def m_centoref17_put (a0 : (List S_centoref17_Step)) (a1 : S_centoref17_Step) : Option (List S_centoref17_Step) :=
  cond (a1.N == 0) (some a0) ((cond (decide (0 < (a0.length : Int))) ((getI a0 (IntKind.i64.wrap ((a0.length : Int) - 1))).bind fun x6 => some (cond (decide (0 < (a0.length : Int))) (x6.Kind == a1.Kind) false)) (some false)).bind fun (z3 : Bool) => cond z3 ((appI 16 ([] : List S_centoref17_Step) a0).bind fun l10 => (getI l10 (IntKind.i64.wrap ((a0.length : Int) - 1))).bind fun x15 => some (setI l10 (IntKind.i64.wrap ((a0.length : Int) - 1)) (⟨x15.Kind, (IntKind.i64.wrap (x15.N + a1.N))⟩ : S_centoref17_Step))) ((appI 16 a0 ([a1] : List S_centoref17_Step)).bind fun l20 => some l20))

noncomputable def m_centoref17_Normal_L0 (a0 : (List S_centoref17_Step)) (s0_ : (Int × Int × Int × (List S_centoref17_Step))) : Option ((Int × Int × Int × (List S_centoref17_Step)) ⊕ (List S_centoref17_Step)) :=
  cond (decide (s0_.2.2.1 ≤ (a0.length : Int))) (((cond (decide (s0_.2.2.1 < (a0.length : Int))) ((getI a0 s0_.2.2.1).bind fun x7 => (m_centoref17_Right x7).bind fun y8 => some (cond (decide (s0_.2.2.1 < (a0.length : Int))) (!y8) false)) (some false)).bind fun (z4 : Bool) => cond z4 (some (s0_.1, s0_.2.1, s0_.2.2.2)) ((cond (decide (s0_.2.2.1 < (a0.length : Int))) ((getI a0 s0_.2.2.1).bind fun x15 => some (cond (decide (s0_.2.2.1 < (a0.length : Int))) (x15.Kind == 1) false)) (some false)).bind fun (z12 : Bool) => cond z12 ((getI a0 s0_.2.2.1).bind fun x20 => some ((IntKind.i64.wrap (s0_.1 + x20.N)), s0_.2.1, s0_.2.2.2)) ((cond (decide (s0_.2.2.1 < (a0.length : Int))) ((getI a0 s0_.2.2.1).bind fun x27 => some (cond (decide (s0_.2.2.1 < (a0.length : Int))) (x27.Kind == 2) false)) (some false)).bind fun (z24 : Bool) => cond z24 ((getI a0 s0_.2.2.1).bind fun x32 => some (s0_.1, (IntKind.i64.wrap (s0_.2.1 + x32.N)), s0_.2.2.2)) ((m_centoref17_put s0_.2.2.2 (⟨1, s0_.1⟩ : S_centoref17_Step)).bind fun y35 => (m_centoref17_put y35 (⟨2, s0_.2.1⟩ : S_centoref17_Step)).bind fun y37 => cond (decide (s0_.2.2.1 < (a0.length : Int))) ((getI a0 s0_.2.2.1).bind fun x38 => (m_centoref17_put y37 x38).bind fun y39 => some (0, 0, y39)) (some (0, 0, y37)))))).bind fun (z1 : (Int × Int × (List S_centoref17_Step))) => some (.inl (z1.1, z1.2.1, (IntKind.i64.wrap (s0_.2.2.1 + 1)), z1.2.2))) (some (.inr s0_.2.2.2))

noncomputable def m_centoref17_Normal (a0 : (List S_centoref17_Step)) : Option (List S_centoref17_Step) :=
  (runLoop (m_centoref17_Normal_L0 a0) (0, 0, 0, ([] : List S_centoref17_Step))).bind fun (z45 : (List S_centoref17_Step)) => some z45

noncomputable def m_centoref17_Same_L0 (a0 : (List S_centoref17_Step)) (a1 : (List S_centoref17_Step)) (s0_ : Int) : Option (Int ⊕ (Unit ⊕ Unit)) :=
  cond (decide (s0_ < (a0.length : Int))) ((getI a0 s0_).bind fun x3 => (getI a1 s0_).bind fun x4 => cond (!((x3.Kind == x4.Kind) && (x3.N == x4.N))) (some (.inr (.inl ()))) (some (.inl (IntKind.i64.wrap (s0_ + 1))))) (some (.inr (.inr ())))

noncomputable def m_centoref17_Same (a0 : (List S_centoref17_Step)) (a1 : (List S_centoref17_Step)) : Option Bool :=
  cond ((a0.length : Int) != (a1.length : Int)) (some false) ((runLoop (m_centoref17_Same_L0 a0 a1) 0).bind fun (z7 : (Unit ⊕ Unit)) => match z7 with | .inl z7 => some false | .inr z7 => some true)

noncomputable def m_script_Back_L0 (a0 : (List S_centoref17_Step)) (y6 : (Arr Int 3)) (s0_ : (Int × (List S_centoref17_Step))) : Option ((Int × (List S_centoref17_Step)) ⊕ (List S_centoref17_Step)) :=
  cond (decide (s0_.1 < (a0.length : Int))) (((getI a0 s0_.1).bind fun x13 => (m_script_Step_may x13).bind fun y15 => cond y15 ((getI y6.1 x13.Kind).bind fun x16 => (appI 16 s0_.2 ([(⟨x16, x13.N⟩ : S_centoref17_Step)] : List S_centoref17_Step)).bind fun l17 => some l17) (some s0_.2)).bind fun (z11 : (List S_centoref17_Step)) => some (.inl ((IntKind.i64.wrap (s0_.1 + 1)), z11))) (some (.inr s0_.2))

noncomputable def m_script_Back (a0 : (List S_centoref17_Step)) : Option (List S_centoref17_Step) :=
  ((some (⟨[0, 2, 1], rfl⟩ : (Arr Int 3)))).bind fun y6 => ((some (⟨[0, 0, 0], rfl⟩ : (Arr Int 3)))).bind fun y8 => (runLoop (m_script_Back_L0 a0 y6) (0, ([] : List S_centoref17_Step))).bind fun (z20 : (List S_centoref17_Step)) => (m_script_Normal z20).bind fun y22 => some y22

noncomputable def m_centoref17_Back_L0 (a0 : (List S_centoref17_Step)) (s0_ : (Int × (List S_centoref17_Step))) : Option ((Int × (List S_centoref17_Step)) ⊕ (List S_centoref17_Step)) :=
  cond (decide (s0_.1 < (a0.length : Int))) ((getI a0 s0_.1).bind fun x2 => (cond (cond (x2.Kind == 1) true (x2.Kind == 2)) (some (IntKind.i64.wrap (3 - x2.Kind))) (some x2.Kind)).bind fun (z3 : Int) => (appI 16 s0_.2 ([(⟨z3, x2.N⟩ : S_centoref17_Step)] : List S_centoref17_Step)).bind fun l5 => some (.inl ((IntKind.i64.wrap (s0_.1 + 1)), l5))) (some (.inr s0_.2))

noncomputable def m_centoref17_Back (a0 : (List S_centoref17_Step)) : Option (List S_centoref17_Step) :=
  (runLoop (m_centoref17_Back_L0 a0) (0, ([] : List S_centoref17_Step))).bind fun (z7 : (List S_centoref17_Step)) => (m_centoref17_Normal z7).bind fun y9 => some y9

noncomputable def m_script_same_L0 (a0 : (List Int)) (a1 : (List Int)) (s0_ : Int) : Option (Int ⊕ (Unit ⊕ Unit)) :=
  cond (decide (s0_ < (a0.length : Int))) ((getI a0 s0_).bind fun x2 => (getI a1 s0_).bind fun x4 => cond (x2 != x4) (some (.inr (.inl ()))) (some (.inl (IntKind.i64.wrap (s0_ + 1))))) (some (.inr (.inr ())))

noncomputable def m_script_same (a0 : (List Int)) (a1 : (List Int)) : Option Bool :=
  (runLoop (m_script_same_L0 a0 a1) 0).bind fun (z7 : (Unit ⊕ Unit)) => match z7 with | .inl z7 => some false | .inr z7 => some true

noncomputable def m_script_Leads_L0 (a0 : (List S_centoref17_Step)) (s0_ : ((List Int) × (List Int) × Int)) : Option (((List Int) × (List Int) × Int) ⊕ (Unit ⊕ Unit)) :=
  cond (decide (s0_.2.2 < (a0.length : Int))) (((getI a0 s0_.2.2).bind fun x5 => cond (x5.Kind == 0) ((subI s0_.1 0 x5.N).bind fun l9 => (subI s0_.2.1 0 x5.N).bind fun l10 => (m_script_same l9 l10).bind fun y11 => cond (!y11) (some (.inr ())) ((subI s0_.1 x5.N (s0_.1.length : Int)).bind fun l12 => (subI s0_.2.1 x5.N (s0_.2.1.length : Int)).bind fun l13 => some (.inl (l12, l13)))) (cond (x5.Kind == 1) ((subI s0_.1 x5.N (s0_.1.length : Int)).bind fun l15 => some (.inl (l15, s0_.2.1))) (cond (x5.Kind == 2) ((subI s0_.2.1 x5.N (s0_.2.1.length : Int)).bind fun l16 => some (.inl (s0_.1, l16))) (some (.inl (s0_.1, s0_.2.1)))))).bind fun (z3 : (((List Int) × (List Int)) ⊕ Unit)) => match z3 with | .inl z3 => some (.inl (z3.1, z3.2, (IntKind.i64.wrap (s0_.2.2 + 1)))) | .inr z3 => some (.inr (.inl ()))) (some (.inr (.inr ())))

noncomputable def m_script_Leads (a0 : (List S_centoref17_Step)) (a1 : (List Int)) (a2 : (List Int)) : Option Bool :=
  (m_script_Sizes a0).bind fun y2 => cond (cond (cond (!y2.2.2) true (y2.1 != (a1.length : Int))) true (y2.2.1 != (a2.length : Int))) (some false) ((runLoop (m_script_Leads_L0 a0) (a1, a2, 0)).bind fun (z21 : (Unit ⊕ Unit)) => match z21 with | .inl z21 => some false | .inr z21 => some true)

noncomputable def m_centolaw17_awake  : Option Bool :=
  (m_script_Normal ([(⟨2, 1⟩ : S_centoref17_Step), (⟨1, 1⟩ : S_centoref17_Step), (⟨1, 2⟩ : S_centoref17_Step), (⟨0, 1⟩ : S_centoref17_Step)] : List S_centoref17_Step)).bind fun y2 => ((m_centolaw17_Theirs y2).bind fun y10 => (m_centoref17_Same y10 ([(⟨1, 3⟩ : S_centoref17_Step), (⟨2, 1⟩ : S_centoref17_Step), (⟨0, 1⟩ : S_centoref17_Step)] : List S_centoref17_Step)).bind fun y11 => cond y11 ((m_script_Leads y2 ([5, 6, 7, 8] : List Int) ([9, 8] : List Int)).bind fun y12 => some (cond y11 y12 false)) (some false)).bind fun (z6 : Bool) => some z6

noncomputable def m_centolaw17_ScriptNormal_L0 (y2 : (List S_centoref17_Step)) (s0_ : (Int × (Arr Int 3))) : Option ((Int × (Arr Int 3)) ⊕ (Arr Int 3)) :=
  cond (decide (s0_.1 < (y2.length : Int))) (((getI y2 s0_.1).bind fun x16 => (m_centoref17_Right x16).bind fun y17 => cond y17 ((getI y2 s0_.1).bind fun x18 => (getI s0_.2.1 x18.Kind).bind fun x22 => some (Arr.put s0_.2 x18.Kind (IntKind.i64.wrap (x22 + x18.N)))) (some s0_.2)).bind fun (z13 : (Arr Int 3)) => some (.inl ((IntKind.i64.wrap (s0_.1 + 1)), z13))) (some (.inr s0_.2))

noncomputable def m_centolaw17_ScriptNormal (a0 : (List S_centoref17_Step)) : Option Bool :=
  (m_centolaw17_few a0).bind fun y2 => (m_centolaw17_Mine y2).bind fun y4 => (m_script_Sizes y4).bind fun y6 => (m_centoref17_Sizes y2).bind fun y8 => cond (cond (cond (y6.1 != y8.1) true (y6.2.1 != y8.2.1)) true (y6.2.2 != y8.2.2)) (some false) (((some (⟨[0, 0, 0], rfl⟩ : (Arr Int 3)))).bind fun y11 => (runLoop (m_centolaw17_ScriptNormal_L0 y2) (0, y11)).bind fun (z29 : (Arr Int 3)) => ((m_script_Normal y4).bind fun y55 => (m_centolaw17_Theirs y55).bind fun y56 => (m_centoref17_Normal y2).bind fun y57 => (m_centoref17_Same y56 y57).bind fun y58 => cond y58 ((m_script_Back y4).bind fun y59 => (m_centolaw17_Theirs y59).bind fun y60 => (m_centoref17_Back y2).bind fun y61 => (m_centoref17_Same y60 y61).bind fun y62 => cond y62 ((m_script_Counts y4).bind fun y63 => cond (y63.1 == z29.1) ((m_centolaw17_awake).bind fun y66 => some (cond (cond (cond y58 y62 false) (y63.1 == z29.1) false) y66 false)) (some false)) (some false)) (some false)).bind fun (z42 : Bool) => some z42)

end Go.Proofs.Ytkdanjfmobibbaa
