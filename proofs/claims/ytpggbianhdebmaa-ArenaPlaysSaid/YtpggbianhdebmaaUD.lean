/- Part UD of this seat's mirrors: functions of the seat's program, and the plain functions that they are; each theorem bears its own conditions. -/
import Derived.Test.YtpggbianhdebmaaH26
namespace Go.Proofs.Ytpggbianhdebmaa
open Go.RowKit
set_option linter.unusedVariables false
set_option linter.unusedSimpArgs false
set_option maxRecDepth 100000
set_option maxHeartbeats 4000000
structure Zq where
 Kind:Int
 S:Int
 At:Int
 N:Int
 W:Int
noncomputable def Zd5 (a0:Int) (a1:Int) (a2:(List Zq)):Option Bool :=
 some true
structure Zl where
 segments:(List (List Int))
 size:Int
 left:Int
noncomputable def Zci (a0:Int) (a1:Int):Option Zl :=
 some (⟨([]:(List (List Int))),(if a0 < 1 then 1 else a0),(if 131072 < (if a1 < 0 then 0 else a1) then 131072 else (if a1 < 0 then 0 else a1))⟩:Zl)
structure Zo where
 L:(List (List Int))
 Size:Int
 Most:Int
 Used:Int
noncomputable def Vb (a0:Int) (a1:Int):Option Zo :=
 (cond (decide (a0 < 1)) (some 1) (some a0)).bind fun (z1:Int)=>(cond (decide (a1 < 0)) (some 0) (some a1)).bind fun (z3:Int)=>(cond (decide (131072 < z3)) (some 131072) (some z3)).bind fun (z5:Int)=>some (⟨([]:(List (List Int))),z1,z5,0⟩:Zo)
noncomputable def Zba (a0:(Option Zl)):Option Int :=
 cond (Option.isNone a0) (some 0) ((a0).bind fun x4=>some x4.left)
noncomputable def J7 (a0:(Option Zl)):Option Int :=
 cond (Option.isNone a0) (some 0) ((a0).bind fun x4=>some (x4.segments.length:Int))
noncomputable def Ys (a0:List Int):Option (List Int) :=
 Zlj 8 ([]:List Int) a0
noncomputable def Va (a0:(List (List Int))) (s0_:(Int×(List (List Int)))):Option ((Int×(List (List Int))) ⊕ (List (List Int))) :=
 cond (decide (s0_.1 < (a0.length:Int))) ((Zv a0 s0_.1).bind fun x4=>(Ys x4).bind fun y5=>(Zv s0_.2 s0_.1).bind fun x6=>some (.inl ((IntKind.i64.wrap (s0_.1+1)),(Yr s0_.2 s0_.1 y5)))) (some (.inr s0_.2))
noncomputable def J0 (a0:(List (List Int))):Option (List (List Int)) :=
 (Zhc 24 (a0.length:Int) ([]:(List Int))).bind fun l2=>(Qk (Va a0) (0,l2)).bind fun (z9:(List (List Int)))=>some z9
noncomputable def Xv (a0:(Option Zl)) (a1:Int):Option Bool :=
 (cond (decide (0≤a1)) ((J7 a0).bind fun y4=>some (cond (decide (0≤a1)) (decide (a1 < y4)) false)) (some false)).bind fun (z2:Bool)=>some z2
noncomputable def Qt (a0:(Option Zl)) (a1:Int):Option Int :=
 (Xv a0 a1).bind fun y2=>cond (!y2) (some 0) ((a0).bind fun x5=>(Zv x5.segments a1).bind fun x6=>some (x6.length:Int))
noncomputable def Qc (a0:(Option Zl)) (a1:Int) (a2:Int) (a3:Int):Option Bool :=
 ((Xv a0 a1).bind fun y8=>cond y8 (cond (decide (0≤a2)) (cond (decide (0≤a3)) ((Qt a0 a1).bind fun y9=>cond (decide (a3≤y9)) ((Qt a0 a1).bind fun y10=>some (cond (cond (cond (cond y8 (decide (0≤a2)) false) (decide (0≤a3)) false) (decide (a3≤y9)) false) (decide (a2≤(IntKind.i64.wrap (y10 - a3)))) false)) (some false)) (some false)) (some false)) (some false)).bind fun (z4:Bool)=>some z4
noncomputable def J6 (a0:(Option Zl)) (a1:Int) (a2:Int):Option (Int×Bool) :=
 (Qc a0 a1 a2 1).bind fun y2=>cond (!y2) (some (0,false)) ((a0).bind fun x6=>(Zv x6.segments a1).bind fun x7=>(Zv x7 a2).bind fun x8=>some (x8,true))
noncomputable def Ju (a0:(Option Zl)) (a1:Int) (a2:Int) (a3:Int):Option ((List Int)×Bool) :=
 (Qc a0 a1 a2 a3).bind fun y2=>cond (!y2) (some (([]:(List Int)),false)) ((a0).bind fun x7=>(Zv x7.segments a1).bind fun x8=>(Zgv x8 a2 (IntKind.i64.wrap (a2+a3))).bind fun l9=>(Ys l9).bind fun y10=>some (y10,true))
noncomputable def Qd (a0:(Option Zo)) (a1:Int):Option Int :=
 (cond (decide (a1 < 0)) (some true) ((a0).bind fun x4=>some (cond (decide (a1 < 0)) true (decide ((x4.L.length:Int)≤a1))))).bind fun (z2:Bool)=>cond z2 (some (-1)) ((a0).bind fun x8=>(Zv x8.L a1).bind fun x9=>some (x9.length:Int))
noncomputable def Qj (a0:(Option Zo)) (a1:Int) (a2:Int) (a3:Int):Option Bool :=
 (Qd a0 a1).bind fun y2=>some (cond (cond (cond (cond (decide (0≤y2)) (decide (0≤a2)) false) (decide (0≤a3)) false) (decide (a2≤y2)) false) (decide (a3≤(IntKind.i64.wrap (y2 - a2)))) false)
noncomputable def Q2 (a0:(List Int)) (a1:(List Int)) (s0_:Int):Option (Int ⊕ (Unit ⊕ Unit)) :=
 cond (decide (s0_ < (a0.length:Int))) ((Zv a0 s0_).bind fun x3=>(Zv a1 s0_).bind fun x4=>cond (x3 != x4) (some (.inr (.inl ()))) (some (.inl (IntKind.i64.wrap (s0_+1))))) (some (.inr (.inr ())))
noncomputable def Q1 (a0:(List Int)) (a1:(List Int)):Option Bool :=
 cond ((a0.length:Int) != (a1.length:Int)) (some false) ((Qk (Q2 a0 a1) 0).bind fun (z7:(Unit ⊕ Unit))=>match z7 with | .inl z7=>some false | .inr z7=>some true)
noncomputable def Q3 (a0:(List (List Int))) (a1:(List (List Int))) (s0_:Int):Option (Int ⊕ (Unit ⊕ Unit)) :=
 cond (decide (s0_ < (a0.length:Int))) ((Zv a0 s0_).bind fun x4=>(Zv a1 s0_).bind fun x5=>(Q1 x4 x5).bind fun y6=>cond (!y6) (some (.inr (.inl ()))) (some (.inl (IntKind.i64.wrap (s0_+1))))) (some (.inr (.inr ())))
noncomputable def J8 (a0:(List (List Int))) (a1:(List (List Int))):Option Bool :=
 cond ((a0.length:Int) != (a1.length:Int)) (some false) ((Qk (Q3 a0 a1) 0).bind fun (z9:(Unit ⊕ Unit))=>match z9 with | .inl z9=>some false | .inr z9=>some true)
end Go.Proofs.Ytpggbianhdebmaa
