/- Part RD of this seat's mirrors: functions of the seat's program, and the plain functions that they are; each theorem bears its own conditions. -/
import Derived.Test.YtbjcopkgdjombaaH25
import Derived.Test.YtbjcopkgdjombaaTy
namespace Go.Proofs.Ytbjcopkgdjombaa
open Go.RowKit
set_option linter.unusedVariables false
set_option linter.unusedSimpArgs false
set_option maxRecDepth 100000
set_option maxHeartbeats 4000000
structure Zb where
 Kind:Int
 Words:(List Int)
 Kids:(List Zb)
noncomputable def Q8 (Jm:(Zb→Int→Int→Option Int)) (a0:Zb) (a1:Int) (s0_:(Int×Int)):Option ((Int×Int) ⊕ Int) :=
 cond (cond (decide (s0_.2 < (a0.Kids.length:Int))) (decide (0≤s0_.1)) false) ((Xr a0.Kids s0_.2).bind fun x1=>(Jm x1 (IntKind.i64.wrap (a1 - 1)) s0_.1).bind fun y2=>some (.inl (y2,(IntKind.i64.wrap (s0_.2+1))))) (some (.inr s0_.1))
noncomputable def Jj (Jm:(Zb→Int→Int→Option Int)) (a0:Zb) (a1:Int) (a2:Int):Option Int :=
 cond (cond (a1 == 0) true (decide ((IntKind.i64.wrap ((IntKind.i64.wrap (a2 - 1)) - (a0.Words.length:Int))) < 0))) (some (-1)) ((Zw (Q8 Jm a0 a1) ((IntKind.i64.wrap ((IntKind.i64.wrap (a2 - 1)) - (a0.Words.length:Int))),0)).bind fun (z4:Int)=>some z4)
noncomputable def Xm:Nat→(Zb→Int→Int→Option Int)
 | 0=>(fun _ _ _=>none)
 | k+1=>Jj ((Xm k))
noncomputable def Q0 (a0:Zb) (a1:Int) (a2:Int):Option Int:=lim fun k=>(Xm k) a0 a1 a2
structure Zj where
 At:Int
 Mask:Int
 Old:Int
 New:Int
mutual
structure Zc where
 Kind:Int
 Old:Zb
 New:Zb
 Words:(List Zj)
 Kids:(List Zd)
 List_:Int
 Ops:(List Zh)
structure Zh where
 Kind:Int
 N:Int
 L:(List Zb)
 E:Zc
structure Zd where
 At:Int
 E:Zc
end
noncomputable def Qx (Q1:(Zc→Int→Int→Option Int)) (a0:Zc) (a1:Int) (s0_:(Int×Int)):Option ((Int×Int) ⊕ Int) :=
 cond (cond (decide (s0_.2 < (a0.Kids.length:Int))) (decide (0≤s0_.1)) false) ((Xr a0.Kids s0_.2).bind fun x6=>(Q1 x6.E (IntKind.i64.wrap (a1 - 1)) s0_.1).bind fun y8=>some (.inl (y8,(IntKind.i64.wrap (s0_.2+1))))) (some (.inr s0_.1))
noncomputable def Jk (a0:Zc) (s1_:(Int×Int)) (s2_:(Int×Int)):Option ((Int×Int) ⊕ Int) :=
 (Xr a0.Ops s1_.2).bind fun x14=>cond (cond (decide (s2_.2 < (x14.L.length:Int))) (decide (0≤s2_.1)) false) ((Xr a0.Ops s1_.2).bind fun x16=>(Xr x16.L s2_.2).bind fun x18=>(Q0 x18 80 s2_.1).bind fun y19=>some (.inl (y19,(IntKind.i64.wrap (s2_.2+1))))) (some (.inr s2_.1))
noncomputable def Qy (Q1:(Zc→Int→Int→Option Int)) (a0:Zc) (a1:Int) (s1_:(Int×Int)):Option ((Int×Int) ⊕ Int) :=
 cond (cond (decide (s1_.2 < (a0.Ops.length:Int))) (decide (0≤s1_.1)) false) (((Zw (Jk a0 s1_) (s1_.1,0)).bind fun (z21:Int)=>cond (decide (0≤z21)) ((Xr a0.Ops s1_.2).bind fun x22=>(Q1 x22.E (IntKind.i64.wrap (a1 - 1)) z21).bind fun y24=>some y24) (some z21)).bind fun (z11:Int)=>some (.inl (z11,(IntKind.i64.wrap (s1_.2+1))))) (some (.inr s1_.1))
noncomputable def Jd (Q1:(Zc→Int→Int→Option Int)) (a0:Zc) (a1:Int) (a2:Int):Option Int :=
 cond (cond (a1 == 0) true (decide ((IntKind.i64.wrap ((IntKind.i64.wrap ((IntKind.i64.wrap (a2 - 1)) - (a0.Words.length:Int))) - (a0.Ops.length:Int))) < 0))) (some (-1)) ((Q0 a0.Old 80 (IntKind.i64.wrap ((IntKind.i64.wrap ((IntKind.i64.wrap (a2 - 1)) - (a0.Words.length:Int))) - (a0.Ops.length:Int)))).bind fun y2=>(cond (decide (0≤y2)) ((Q0 a0.New 80 y2).bind fun y4=>some y4) (some y2)).bind fun (z3:Int)=>(Zw (Qx Q1 a0 a1) (z3,0)).bind fun (z10:Int)=>(Zw (Qy Q1 a0 a1) (z10,0)).bind fun (z27:Int)=>some z27)
noncomputable def Ym:Nat→(Zc→Int→Int→Option Int)
 | 0=>(fun _ _ _=>none)
 | k+1=>Jd ((Ym k))
noncomputable def Zej (a0:Zc) (a1:Int) (a2:Int):Option Int:=lim fun k=>(Ym k) a0 a1 a2
noncomputable def U1 (a0:Zc):Option Bool :=
 (Zej a0 80 3000).bind fun y2=>some (decide (0≤y2))
noncomputable def Ky (a0:Zb):Option Bool :=
 some (cond (a0.Kind == 0) ((IntKind.i64.wrap ((a0.Words.length:Int)+(a0.Kids.length:Int))) == 0) false)
noncomputable def Zg6 (a0:Int):Option Int :=
 cond (a0 == 0) (some 0) (cond (a0 == 1) (some 1) (cond (a0 == 2) (some 8) (cond (a0 == 3) (some 16) (cond (a0 == 4) (some 32) (cond (a0 == 5) (some 64) (some (-1)))))))
noncomputable def Jl (y2:Int) (s0_:(Int×Int)):Option ((Int×Int) ⊕ Int) :=
 cond (decide (s0_.2 < y2)) (some (.inl ((IntKind.u64.wrap (Int.tdiv s0_.1 2)),(IntKind.i64.wrap (s0_.2+1))))) (some (.inr s0_.1))
noncomputable def Gm (a0:Int) (a1:Int):Option Bool :=
 (Zg6 a0).bind fun y2=>cond (decide (y2 < 0)) (some false) ((Zw (Jl y2) (a1,0)).bind fun (z4:Int)=>some (z4 == 0))
noncomputable def Uo (Kj:(Zb→Int→Option Bool)) (a0:Zb) (a1:Int) (s0_:Int):Option (Int ⊕ (Unit ⊕ Unit)) :=
 cond (decide (s0_ < (a0.Kids.length:Int))) ((Xr a0.Kids s0_).bind fun x2=>(Kj x2 (IntKind.i64.wrap (a1 - 1))).bind fun y4=>cond (!y4) (some (.inr (.inl ()))) ((cond ((cond (decide (2≤a0.Kind)) (decide (a0.Kind≤7)) false) != (x2.Kind == 10)) (some true) (cond (a0.Kind == 9) (cond (x2.Kind != 1) (some true) (cond (decide (2≤a0.Kind)) (cond (decide (a0.Kind≤7)) ((Xr x2.Words 0).bind fun x14=>(Gm (IntKind.i64.wrap (a0.Kind - 2)) x14).bind fun y15=>some (cond (cond ((cond (decide (2≤a0.Kind)) (decide (a0.Kind≤7)) false) != (x2.Kind == 10)) true (cond (a0.Kind == 9) (x2.Kind != 1) false)) true (cond (cond (decide (2≤a0.Kind)) (decide (a0.Kind≤7)) false) (!y15) false))) (some (cond (cond ((cond (decide (2≤a0.Kind)) (decide (a0.Kind≤7)) false) != (x2.Kind == 10)) true (cond (a0.Kind == 9) (x2.Kind != 1) false)) true false))) (some (cond (cond ((cond (decide (2≤a0.Kind)) (decide (a0.Kind≤7)) false) != (x2.Kind == 10)) true (cond (a0.Kind == 9) (x2.Kind != 1) false)) true false)))) (cond (decide (2≤a0.Kind)) (cond (decide (a0.Kind≤7)) ((Xr x2.Words 0).bind fun x16=>(Gm (IntKind.i64.wrap (a0.Kind - 2)) x16).bind fun y17=>some (cond (cond ((cond (decide (2≤a0.Kind)) (decide (a0.Kind≤7)) false) != (x2.Kind == 10)) true (cond (a0.Kind == 9) (x2.Kind != 1) false)) true (cond (cond (decide (2≤a0.Kind)) (decide (a0.Kind≤7)) false) (!y17) false))) (some (cond (cond ((cond (decide (2≤a0.Kind)) (decide (a0.Kind≤7)) false) != (x2.Kind == 10)) true (cond (a0.Kind == 9) (x2.Kind != 1) false)) true false))) (some (cond (cond ((cond (decide (2≤a0.Kind)) (decide (a0.Kind≤7)) false) != (x2.Kind == 10)) true (cond (a0.Kind == 9) (x2.Kind != 1) false)) true false))))).bind fun (z9:Bool)=>cond z9 (some (.inr (.inl ()))) (some (.inl (IntKind.i64.wrap (s0_+1)))))) (some (.inr (.inr ())))
noncomputable def Zai (Kj:(Zb→Int→Option Bool)) (a0:Zb) (a1:Int):Option Bool :=
 cond (a0.Kind == 0) (some (cond ((a0.Words.length:Int) == 0) ((a0.Kids.length:Int) == 0) false)) (cond (a0.Kind == 10) (some (cond ((a0.Words.length:Int) == 1) ((a0.Kids.length:Int) == 0) false)) (cond (cond (cond (cond (cond (cond (decide (a0.Kind < 0)) true (decide (10 < a0.Kind))) true (a1 == 0)) true (decide (65536≤(a0.Words.length:Int)))) true (cond (a0.Kind == 1) (decide (65536≤(a0.Kids.length:Int))) false)) true (decide (1048576≤(a0.Kids.length:Int)))) (some false) (cond (cond (decide (1 < a0.Kind)) (decide (0 < (a0.Words.length:Int))) false) (some false) ((Zw (Uo Kj a0 a1) 0).bind fun (z28:(Unit ⊕ Unit))=>match z28 with | .inl z28=>some false | .inr z28=>some true))))
noncomputable def Ks:Nat→(Zb→Int→Option Bool)
 | 0=>(fun _ _=>none)
 | k+1=>Zai ((Ks k))
noncomputable def U0 (a0:Zb) (a1:Int):Option Bool:=lim fun k=>(Ks k) a0 a1
noncomputable def Us (s0_:(Int×Int×(Arr Int 8))):Option ((Int×Int×(Arr Int 8)) ⊕ (Arr Int 8)) :=
 cond (decide (s0_.2.1 < 8)) ((Xr s0_.2.2.1 s0_.2.1).bind fun x15=>some (.inl ((IntKind.u64.wrap (Int.tdiv s0_.1 256)),(IntKind.i64.wrap (s0_.2.1+1)),(Arr.put s0_.2.2 s0_.2.1 (IntKind.u8.wrap (Int.tmod s0_.1 256)))))) (some (.inr s0_.2.2))
noncomputable def Uz (a0:Int):Option (Arr Int 8) :=
 ((some (⟨[0,0,0,0,0,0,0,0],rfl⟩:(Arr Int 8)))).bind fun y3=>((some (⟨[0,0,0,0,0,0,0,0],rfl⟩:(Arr Int 8)))).bind fun y9=>(Zw (Us) (a0,0,y9)).bind fun (z18:(Arr Int 8))=>some z18
noncomputable def K4 (a1:Int) (s0_:(Int×Int)):Option ((Int×Int) ⊕ Int) :=
 cond (decide (s0_.2 < a1)) (some (.inl ((IntKind.u8.wrap (Int.tdiv s0_.1 2)),(IntKind.i64.wrap (s0_.2+1))))) (some (.inr s0_.1))
noncomputable def Za0 (a0:Int) (a1:Int):Option Bool :=
 (Zw (K4 a1) (a0,0)).bind fun (z2:Int)=>some ((Int.tmod z2 2) == 1)
noncomputable def Za1 (a0:(List Int)) (a1:Int) (s0_:(Int×Int)):Option ((Int×Int) ⊕ Int) :=
 cond (decide (0≤s0_.2)) ((Xr a0 (IntKind.i64.wrap (a1+s0_.2))).bind fun x1=>some (.inl ((IntKind.u64.wrap ((IntKind.u64.wrap (s0_.1 * 256))+(IntKind.u64.wrap x1))),(IntKind.i64.wrap (s0_.2 - 1))))) (some (.inr s0_.1))
noncomputable def Zgy (a0:(List Int)) (a1:Int):Option Int :=
 (Zw (Za1 a0 a1) (0,7)).bind fun (z3:Int)=>some z3
noncomputable def G7 (a2:Int) (y9:(Arr Int 8)) (s0_:(Int×(Arr Int 8))):Option ((Int×(Arr Int 8)) ⊕ (Arr Int 8)) :=
 cond (decide (s0_.1 < 8)) (((Za0 a2 s0_.1).bind fun y17=>cond y17 ((Xr y9.1 s0_.1).bind fun x18=>(Xr s0_.2.1 s0_.1).bind fun x19=>some (Arr.put s0_.2 s0_.1 x18)) (some s0_.2)).bind fun (z15:(Arr Int 8))=>some (.inl ((IntKind.i64.wrap (s0_.1+1)),z15))) (some (.inr s0_.2))
noncomputable def Zcb (a0:Int) (a1:Int) (a2:Int):Option Int :=
 (Uz a0).bind fun y8=>(Uz a1).bind fun y9=>((some (⟨[0,0,0,0,0,0,0,0],rfl⟩:(Arr Int 8)))).bind fun y10=>(Zw (G7 a2 y9) (0,y8)).bind fun (z23:(Arr Int 8))=>(Zgy z23.1 0).bind fun y29=>some y29
noncomputable def Ue (a0:Int) (a1:Int):Option Bool :=
 (Zcb a0 0 a1).bind fun y2=>some (y2 == 0)
noncomputable def Gp (a0:Zc):Option Bool :=
 (cond (a0.Kind == 0) ((Ky a0.Old).bind fun y6=>cond y6 ((Ky a0.New).bind fun y7=>some (cond (cond (cond (cond (a0.Kind == 0) y6 false) y7 false) ((IntKind.i64.wrap ((IntKind.i64.wrap ((a0.Words.length:Int)+(a0.Kids.length:Int)))+(a0.Ops.length:Int))) == 0) false) (a0.List_ == 0) false)) (some false)) (some false)).bind fun (z3:Bool)=>some z3
noncomputable def Vp (a0:Zc) (s0_:(Int×Int×Int)):Option ((Int×Int×Int) ⊕ (Int×Int)) :=
 cond (decide (s0_.2.2 < (a0.Ops.length:Int))) (((Xr a0.Ops s0_.2.2).bind fun x3=>(cond (x3.Kind == 3) (some 1) (some (IntKind.i64.wrap (x3.N+(x3.L.length:Int))))).bind fun (z4:Int)=>(cond (x3.Kind != 2) (some (IntKind.i64.wrap (s0_.1+z4))) (some s0_.1)).bind fun (z6:Int)=>(cond (x3.Kind != 1) (some (IntKind.i64.wrap (s0_.2.1+z4))) (some s0_.2.1)).bind fun (z8:Int)=>(cond (decide (1048576 < z6)) (some 1048576) (some z6)).bind fun (z10:Int)=>cond (decide (1048576 < z8)) (some (z10,1048576)) (some (z10,z8))).bind fun (z1:(Int×Int))=>some (.inl (z1.1,z1.2,(IntKind.i64.wrap (s0_.2.2+1))))) (some (.inr (s0_.1,s0_.2.1)))
noncomputable def Vo (a0:Zc):Option (Int×Int) :=
 (Zw (Vp a0) (0,0,0)).bind fun (z14:(Int×Int))=>some (z14.1,z14.2)
noncomputable def K2 (a0:Zc) (s0_:(Int×Int)):Option ((Int×Int) ⊕ (Unit ⊕ Unit)) :=
 cond (decide (s0_.2 < (a0.Words.length:Int))) ((Xr a0.Words s0_.2).bind fun x19=>(cond (decide (x19.At≤s0_.1)) (some true) (cond (decide (65534 < x19.At)) (some true) (cond (x19.Mask == 0) (some true) ((Ue x19.Old x19.Mask).bind fun y25=>cond y25 ((Ue x19.New x19.Mask).bind fun y26=>some (cond (cond (cond (cond (decide (x19.At≤s0_.1)) true (decide (65534 < x19.At))) true (x19.Mask == 0)) true (!y25)) true (!y26))) (some true))))).bind fun (z22:Bool)=>cond z22 (some (.inr (.inl ()))) (some (.inl (x19.At,(IntKind.i64.wrap (s0_.2+1)))))) (some (.inr (.inr ())))
noncomputable def K3 (X8:(Zc→Int→Option Bool)) (a0:Zc) (a1:Int) (s1_:(Int×Int)):Option ((Int×Int) ⊕ (Unit ⊕ Unit)) :=
 cond (decide (s1_.2 < (a0.Kids.length:Int))) ((Xr a0.Kids s1_.2).bind fun x35=>(cond (decide (x35.At≤s1_.1)) (some true) (cond (decide (65534 < x35.At)) (some true) (cond (x35.E.Kind == 0) (some true) ((X8 x35.E (IntKind.i64.wrap (a1 - 1))).bind fun y39=>some (cond (cond (cond (decide (x35.At≤s1_.1)) true (decide (65534 < x35.At))) true (x35.E.Kind == 0)) true (!y39)))))).bind fun (z37:Bool)=>cond z37 (some (.inr (.inl ()))) (some (.inl (x35.At,(IntKind.i64.wrap (s1_.2+1)))))) (some (.inr (.inr ())))
noncomputable def J3 (Q7:(Int→Zh→Int→Option Bool)) (a0:Zc) (a1:Int) (s2_:Int):Option (Int ⊕ (Unit ⊕ Unit)) :=
 cond (decide (s2_ < (a0.Ops.length:Int))) ((Xr a0.Ops s2_).bind fun x48=>(Q7 a0.List_ x48 (IntKind.i64.wrap (a1 - 1))).bind fun y49=>cond (!y49) (some (.inr (.inl ()))) (some (.inl (IntKind.i64.wrap (s2_+1))))) (some (.inr (.inr ())))
noncomputable def Zak (X8:(Zc→Int→Option Bool)) (Q7:(Int→Zh→Int→Option Bool)) (a0:Zc) (a1:Int):Option Bool :=
 cond (cond (cond (a1 == 0) true (decide (a0.Kind < 0))) true (decide (3 < a0.Kind))) (some false) ((cond (a0.Kind != 1) ((Ky a0.Old).bind fun y6=>cond y6 ((Ky a0.New).bind fun y7=>some (cond (cond (cond (a0.Kind != 1) (!(cond y6 y7 false)) false) true (cond (a0.Kind != 2) (decide (0 < (IntKind.i64.wrap ((a0.Words.length:Int)+(a0.Kids.length:Int))))) false)) true (cond (a0.Kind != 3) (cond (a0.List_ != 0) true (decide (0 < (a0.Ops.length:Int)))) false))) (some true)) (some (cond (cond (a0.Kind != 2) (decide (0 < (IntKind.i64.wrap ((a0.Words.length:Int)+(a0.Kids.length:Int))))) false) true (cond (a0.Kind != 3) (cond (a0.List_ != 0) true (decide (0 < (a0.Ops.length:Int)))) false)))).bind fun (z3:Bool)=>cond z3 (some false) (cond (a0.Kind == 1) (((U0 a0.Old 64).bind fun y15=>cond y15 ((U0 a0.New 64).bind fun y16=>some (cond (cond (cond y15 y16 false) (a0.Old.Kind != 10) false) (a0.New.Kind != 10) false)) (some false)).bind fun (z12:Bool)=>some z12) ((Zw (K2 a0) ((-1),0)).bind fun (z33:(Unit ⊕ Unit))=>match z33 with | .inl z33=>some false | .inr z33=>(Zw (K3 X8 a0 a1) ((-1),0)).bind fun (z45:(Unit ⊕ Unit))=>match z45 with | .inl z45=>some false | .inr z45=>cond (cond (a0.Kind == 3) (cond (decide (a0.List_ < 2)) true (decide (9 < a0.List_))) false) (some false) ((Zw (J3 Q7 a0 a1) 0).bind fun (z52:(Unit ⊕ Unit))=>match z52 with | .inl z52=>some false | .inr z52=>(Vo a0).bind fun y54=>some (cond (decide (y54.1 < 1048576)) (decide (y54.2 < 1048576)) false)))))
noncomputable def Zal (a0:Int) (a1:Zh) (s0_:Int):Option (Int ⊕ (Unit ⊕ Unit)) :=
 cond (decide (s0_ < (a1.L.length:Int))) ((Zcl a1.L s0_ (IntKind.i64.wrap (s0_+1))).bind fun l10=>(U0 (⟨a0,[],l10⟩:Zb) 64).bind fun y11=>cond (!y11) (some (.inr (.inl ()))) (some (.inl (IntKind.i64.wrap (s0_+1))))) (some (.inr (.inr ())))
noncomputable def Zc6 (X8:(Zc→Int→Option Bool)) (Q7:(Int→Zh→Int→Option Bool)) (a0:Int) (a1:Zh) (a2:Int):Option Bool :=
 cond (a1.Kind == 0) ((cond (decide (1≤a1.N)) (cond (decide (a1.N≤1048576)) (cond ((a1.L.length:Int) == 0) ((Gp a1.E).bind fun y4=>some (cond (cond (cond (decide (1≤a1.N)) (decide (a1.N≤1048576)) false) ((a1.L.length:Int) == 0) false) y4 false)) (some false)) (some false)) (some false)).bind fun (z2:Bool)=>some z2) (cond (cond (cond (a1.N != 0) true (decide (a1.Kind < 0))) true (decide (3 < a1.Kind))) (some false) (cond (decide (a1.Kind < 3)) ((Zw (Zal a0 a1) 0).bind fun (z14:(Unit ⊕ Unit))=>match z14 with | .inl z14=>some false | .inr z14=>(cond (decide (0 < (a1.L.length:Int))) ((Gp a1.E).bind fun y18=>some (cond (decide (0 < (a1.L.length:Int))) y18 false)) (some false)).bind fun (z16:Bool)=>some z16) ((cond (decide (0 < (a1.L.length:Int))) (some true) (cond (a1.E.Kind == 0) (some true) (cond (decide (a0≤7)) (some true) ((X8 a1.E a2).bind fun y23=>some (cond (cond (cond (decide (0 < (a1.L.length:Int))) true (a1.E.Kind == 0)) true (decide (a0≤7))) true (!y23)))))).bind fun (z21:Bool)=>cond z21 (some false) (some (cond (cond (a0 == 8) true (a1.E.Kind == 2)) true (cond (cond (a1.E.Kind == 1) (a1.E.Old.Kind == 1) false) (a1.E.New.Kind == 1) false))))))
noncomputable def Y4:Nat→((Zc→Int→Option Bool)×(Int→Zh→Int→Option Bool))
 | 0=>((fun _ _=>none),(fun _ _ _=>none))
 | k+1=>(Zak ((Y4 k).1) ((Y4 k).2),Zc6 ((Y4 k).1) ((Y4 k).2))
noncomputable def Zg8 (a0:Zc) (a1:Int):Option Bool:=lim fun k=>(Y4 k).1 a0 a1
noncomputable def Up (Qo:(Zc→Option Bool)) (a0:Zc) (s0_:Int):Option (Int ⊕ (Unit ⊕ Unit)) :=
 cond (decide (s0_ < (a0.Kids.length:Int))) ((Xr a0.Kids s0_).bind fun x6=>(Qo x6.E).bind fun y8=>cond (!y8) (some (.inr (.inl ()))) (some (.inl (IntKind.i64.wrap (s0_+1))))) (some (.inr (.inr ())))
noncomputable def Uq (Qo:(Zc→Option Bool)) (a0:Zc) (s1_:Int):Option (Int ⊕ (Unit ⊕ Unit)) :=
 cond (decide (s1_ < (a0.Ops.length:Int))) ((Xr a0.Ops s1_).bind fun x15=>(Qo x15.E).bind fun y17=>cond (!y17) (some (.inr (.inl ()))) (some (.inl (IntKind.i64.wrap (s1_+1))))) (some (.inr (.inr ())))
noncomputable def Zaj (Qo:(Zc→Option Bool)) (a0:Zc):Option Bool :=
 (Vo a0).bind fun y2=>cond (cond (decide (2000 < y2.1)) true (decide (2000 < y2.2))) (some false) ((Zw (Up Qo a0) 0).bind fun (z11:(Unit ⊕ Unit))=>match z11 with | .inl z11=>some false | .inr z11=>(Zw (Uq Qo a0) 0).bind fun (z20:(Unit ⊕ Unit))=>match z20 with | .inl z20=>some false | .inr z20=>some true)
noncomputable def Kt:Nat→(Zc→Option Bool)
 | 0=>(fun _=>none)
 | k+1=>Zaj ((Kt k))
noncomputable def Zg7 (a0:Zc):Option Bool:=lim fun k=>(Kt k) a0
noncomputable def Gn (a0:Zc):Option Bool :=
 ((U1 a0).bind fun y8=>cond y8 ((Zg8 a0 64).bind fun y9=>cond y9 ((Zg7 a0).bind fun y10=>some (cond (cond y8 y9 false) y10 false)) (some false)) (some false)).bind fun (z4:Bool)=>some z4
noncomputable def G8 (a0:(List Int)) (s0_:Int):Option (Int ⊕ Int) :=
 (cond (decide (0 < s0_)) ((Xr a0 (IntKind.i64.wrap (s0_ - 1))).bind fun x4=>some (cond (decide (0 < s0_)) (x4 == 0) false)) (some false)).bind fun (z2:Bool)=>cond z2 (some (.inl (IntKind.i64.wrap (s0_ - 1)))) (some (.inr s0_))
noncomputable def U2 (a0:(List Int)):Option (List Int) :=
 (Zw (G8 a0) (a0.length:Int)).bind fun (z7:Int)=>(Zcl a0 0 z7).bind fun l9=>some l9
noncomputable def Q3 (a0:(List Int)) (a1:(List Int)) (s0_:Int):Option (Int ⊕ (Unit ⊕ Unit)) :=
 cond (decide (s0_ < (a0.length:Int))) ((Xr a0 s0_).bind fun x3=>(Xr a1 s0_).bind fun x4=>cond (x3 != x4) (some (.inr (.inl ()))) (some (.inl (IntKind.i64.wrap (s0_+1))))) (some (.inr (.inr ())))
noncomputable def Qu (a0:(List Int)) (a1:(List Int)):Option Bool :=
 cond ((a0.length:Int) != (a1.length:Int)) (some false) ((Zw (Q3 a0 a1) 0).bind fun (z7:(Unit ⊕ Unit))=>match z7 with | .inl z7=>some false | .inr z7=>some true)
noncomputable def Za2 (a0:(List Zb)) (s0_:Int):Option (Int ⊕ Int) :=
 (cond (decide (0 < s0_)) ((Xr a0 (IntKind.i64.wrap (s0_ - 1))).bind fun x6=>some (cond (decide (0 < s0_)) (x6.Kind == 0) false)) (some false)).bind fun (z3:Bool)=>cond z3 (some (.inl (IntKind.i64.wrap (s0_ - 1)))) (some (.inr s0_))
noncomputable def Gz (a0:(List Zb)):Option (List Zb) :=
 (Zw (Za2 a0) (a0.length:Int)).bind fun (z10:Int)=>(Zcl a0 0 z10).bind fun l12=>some l12
noncomputable def Zhq (Ve:(Zb→Zb→Option Bool)) (Zx:((List Zb)→(List Zb)→Option Bool)) (a0:Zb) (a1:Zb):Option Bool :=
 cond (a0.Kind != a1.Kind) (some false) (cond (a0.Kind == 0) (some true) (cond (a0.Kind == 1) (((U2 a0.Words).bind fun y14=>(U2 a1.Words).bind fun y15=>(Qu y14 y15).bind fun y16=>cond y16 ((Gz a0.Kids).bind fun y17=>(Gz a1.Kids).bind fun y18=>(Zx y17 y18).bind fun y19=>some (cond y16 y19 false)) (some false)).bind fun (z7:Bool)=>some z7) (((Qu a0.Words a1.Words).bind fun y26=>cond y26 ((Zx a0.Kids a1.Kids).bind fun y27=>some (cond y26 y27 false)) (some false)).bind fun (z23:Bool)=>some z23)))
noncomputable def Yl (Ve:(Zb→Zb→Option Bool)) (a0:(List Zb)) (a1:(List Zb)) (s0_:Int):Option (Int ⊕ (Unit ⊕ Unit)) :=
 cond (decide (s0_ < (a0.length:Int))) ((Xr a0 s0_).bind fun x2=>(Xr a1 s0_).bind fun x4=>(Ve x2 x4).bind fun y6=>cond (!y6) (some (.inr (.inl ()))) (some (.inl (IntKind.i64.wrap (s0_+1))))) (some (.inr (.inr ())))
noncomputable def Ys (Ve:(Zb→Zb→Option Bool)) (Zx:((List Zb)→(List Zb)→Option Bool)) (a0:(List Zb)) (a1:(List Zb)):Option Bool :=
 cond ((a0.length:Int) != (a1.length:Int)) (some false) ((Zw (Yl Ve a0 a1) 0).bind fun (z9:(Unit ⊕ Unit))=>match z9 with | .inl z9=>some false | .inr z9=>some true)
noncomputable def Qq:Nat→((Zb→Zb→Option Bool)×((List Zb)→(List Zb)→Option Bool))
 | 0=>((fun _ _=>none),(fun _ _=>none))
 | k+1=>(Zhq ((Qq k).1) ((Qq k).2),Ys ((Qq k).1) ((Qq k).2))
noncomputable def Zm6 (a0:Zb) (a1:Zb):Option Bool:=lim fun k=>(Qq k).1 a0 a1
noncomputable def Xg (a0:(List Zb)) (a1:(List Zb)):Option Bool:=lim fun k=>(Qq k).2 a0 a1
noncomputable def Gy (a0:List Int):Option (List Int) :=
 Vx 8 ([]:List Int) a0
noncomputable def V7 (a0:List Zb):Option (List Zb) :=
 Vx 56 ([]:List Zb) a0
noncomputable def Zjp (a0:Zb) (a1:Int):Option Int :=
 cond (cond (decide (a1 < 0)) true (decide ((a0.Words.length:Int)≤a1))) (some 0) ((Xr a0.Words a1).bind fun x2=>some x2)
noncomputable def Zbf (a0:Int):Option Bool :=
 some (cond (decide (a0 < 0)) true (decide (65534 < a0)))
noncomputable def Ze3 (a0:Int) (s0_:(Int×Int)):Option ((Int×Int) ⊕ Int) :=
 cond (decide (s0_.2 < 8)) (((Zmy (0≤s0_.2)).bind fun u3=>cond ((IntKind.u8.wrap (Zdg .u8 (Int.fdiv a0 (2 ^ min (Int.toNat s0_.2) 8)) 1)) == 1) ((Zmy (0≤(IntKind.i64.wrap (8 * s0_.2)))).bind fun u4=>some (IntKind.u64.wrap (Zq3 .u64 s0_.1 (IntKind.u64.wrap (255 * 2 ^ min (Int.toNat (IntKind.i64.wrap (8 * s0_.2))) 64))))) (some s0_.1)).bind fun (z1:Int)=>some (.inl (z1,(IntKind.i64.wrap (s0_.2+1))))) (some (.inr s0_.1))
noncomputable def Zaf (a0:Int):Option Int :=
 (Zw (Ze3 a0) (0,0)).bind fun (z7:Int)=>some z7
noncomputable def Ze2 (a0:Int) (a1:Int) (a2:Int):Option Int :=
 (Zaf a2).bind fun y2=>some (IntKind.u64.wrap (Zq3 .u64 (IntKind.u64.wrap (Z05 .u64 a0 y2)) (IntKind.u64.wrap (Zdg .u64 a1 y2))))
noncomputable def Zaz (a1:Int) (a2:Int) (s0_:(List Int)):Option ((List Int) ⊕ (List Int)) :=
 cond (cond (decide ((s0_.length:Int)≤a1)) (a2 != 0) false) ((Vx 8 s0_ ([0]:List Int)).bind fun l1=>some (.inl l1)) (some (.inr s0_))
noncomputable def Zdh (a0:Zb) (a1:Int) (a2:Int):Option Zb :=
 (Zw (Zaz a1 a2) a0.Words).bind fun (z3:(List Int))=>cond (decide (a1 < (z3.length:Int))) ((Xr z3 a1).bind fun x4=>some (⟨a0.Kind,(Zi5 z3 a1 a2),a0.Kids⟩:Zb)) (some (⟨a0.Kind,z3,a0.Kids⟩:Zb))
noncomputable def Zkx (a0:Zb) (a1:Int):Option Zb :=
 cond (cond (decide (a1 < 0)) true (decide ((a0.Kids.length:Int)≤a1))) (some (⟨0,[],[]⟩:Zb)) ((Xr a0.Kids a1).bind fun x2=>some x2)
noncomputable def Zbq (a1:Int) (a2:Zb) (s0_:(List Zb)):Option ((List Zb) ⊕ (List Zb)) :=
 cond (cond (decide ((s0_.length:Int)≤a1)) (a2.Kind != 0) false) ((Vx 56 s0_ ([(⟨0,[],[]⟩:Zb)]:List Zb)).bind fun l1=>(Xr l1 (s0_.length:Int)).bind fun x2=>some (.inl (s0_++[(⟨0,[],[]⟩:Zb)]))) (some (.inr s0_))
noncomputable def Zey (a0:Zb) (a1:Int) (a2:Zb):Option Zb :=
 (Zw (Zbq a1 a2) a0.Kids).bind fun (z5:(List Zb))=>cond (decide (a1 < (z5.length:Int))) ((Xr z5 a1).bind fun x6=>some (⟨a0.Kind,a0.Words,(Zi5 z5 a1 a2)⟩:Zb)) (some (⟨a0.Kind,a0.Words,z5⟩:Zb))
noncomputable def Ze1 (a0:Int):Option Bool :=
 some (cond (decide (2≤a0)) (decide (a0≤9)) false)
structure Zl where
 left:(List Zb)
 out:(List Zb)
noncomputable def Zbl (Xn:(Zc→Zb→Option (Zb×Bool))) (Yq:(Zc→Zb→Option (Zb×Bool))) (X2:(Zc→Zb→Option (Zb×Bool))) (Z9:(Zl→Zh→Option (Bool×Zl))) (Z7:(Zl→Zc→Option (Bool×Zl))) (a0:Zc) (a1:Zb):Option (Zb×Bool) :=
 cond (a0.Kind == 0) (some (a1,true)) (cond (a0.Kind == 1) ((Zm6 a1 a0.Old).bind fun y2=>some (a0.New,y2)) (cond (a0.Kind == 2) ((Yq a0 a1).bind fun y4=>some (y4.1,y4.2)) (cond (a0.Kind == 3) ((X2 a0 a1).bind fun y6=>some (y6.1,y6.2)) (some ((⟨0,[],[]⟩:Zb),false)))))
noncomputable def Kf (a0:Zc) (a1:Zb) (s0_:(Int×Int×(List Int)×(List Zb))):Option ((Int×Int×(List Int)×(List Zb)) ⊕ (Unit ⊕ (Int×(List Int)×(List Zb)))) :=
 cond (decide (s0_.1 < (a0.Words.length:Int))) ((Xr a0.Words s0_.1).bind fun x110=>(Zjp a1 x110.At).bind fun y112=>((Zbf x110.At).bind fun y118=>cond y118 (some true) ((Zaf x110.Mask).bind fun y119=>some (cond y118 true ((IntKind.u64.wrap (Zdg .u64 (IntKind.u64.wrap (Zh2 .u64 y112 x110.Old)) y119)) != 0)))).bind fun (z115:Bool)=>cond z115 (some (.inr (.inl ()))) ((Ze2 y112 x110.New x110.Mask).bind fun y121=>(Zdh (⟨s0_.2.1,s0_.2.2.1,s0_.2.2.2⟩:Zb) x110.At y121).bind fun y122=>some (.inl ((IntKind.i64.wrap (s0_.1+1)),y122.Kind,y122.Words,y122.Kids)))) (some (.inr (.inr (s0_.2.1,s0_.2.2.1,s0_.2.2.2))))
noncomputable def Ji (Xn:(Zc→Zb→Option (Zb×Bool))) (a0:Zc) (a1:Zb) (s1_:(Int×Int×(List Int)×(List Zb))):Option ((Int×Int×(List Int)×(List Zb)) ⊕ (Unit ⊕ (Int×(List Int)×(List Zb)))) :=
 cond (decide (s1_.1 < (a0.Kids.length:Int))) ((Xr a0.Kids s1_.1).bind fun x127=>(Zkx a1 x127.At).bind fun y130=>(Xn x127.E y130).bind fun y131=>(Zbf x127.At).bind fun y133=>cond (cond y133 true (!y131.2)) (some (.inr (.inl ()))) ((Zey (⟨s1_.2.1,s1_.2.2.1,s1_.2.2.2⟩:Zb) x127.At y131.1).bind fun y134=>some (.inl ((IntKind.i64.wrap (s1_.1+1)),y134.Kind,y134.Words,y134.Kids)))) (some (.inr (.inr (s1_.2.1,s1_.2.2.1,s1_.2.2.2))))
noncomputable def Gk (Xn:(Zc→Zb→Option (Zb×Bool))) (Yq:(Zc→Zb→Option (Zb×Bool))) (X2:(Zc→Zb→Option (Zb×Bool))) (Z9:(Zl→Zh→Option (Bool×Zl))) (Z7:(Zl→Zc→Option (Bool×Zl))) (a0:Zc) (a1:Zb):Option (Zb×Bool) :=
 cond (a1.Kind != 1) (some ((⟨0,[],[]⟩:Zb),false)) ((Gy a1.Words).bind fun y25=>(V7 a1.Kids).bind fun y61=>(Zw (Kf a0 a1) (0,1,y25,y61)).bind fun (z125:(Unit ⊕ (Int×(List Int)×(List Zb))))=>match z125 with | .inl z125=>some ((⟨0,[],[]⟩:Zb),false) | .inr z125=>(Zw (Ji Xn a0 a1) (0,z125.1,z125.2.1,z125.2.2)).bind fun (z137:(Unit ⊕ (Int×(List Int)×(List Zb))))=>match z137 with | .inl z137=>some ((⟨0,[],[]⟩:Zb),false) | .inr z137=>some ((⟨z137.1,z137.2.1,z137.2.2⟩:Zb),true))
noncomputable def Uh (Z9:(Zl→Zh→Option (Bool×Zl))) (a0:Zc) (s0_:(Int×(List Zb)×(List Zb))):Option ((Int×(List Zb)×(List Zb)) ⊕ (Unit ⊕ ((List Zb)×(List Zb)))) :=
 cond (decide (s0_.1 < (a0.Ops.length:Int))) ((Xr a0.Ops s0_.1).bind fun x7=>(Z9 (⟨s0_.2.1,s0_.2.2⟩:Zl) x7).bind fun y9=>cond (!y9.1) (some (.inr (.inl ()))) (some (.inl ((IntKind.i64.wrap (s0_.1+1)),y9.2.left,y9.2.out)))) (some (.inr (.inr (s0_.2.1,s0_.2.2))))
noncomputable def Zf4 (Xn:(Zc→Zb→Option (Zb×Bool))) (Yq:(Zc→Zb→Option (Zb×Bool))) (X2:(Zc→Zb→Option (Zb×Bool))) (Z9:(Zl→Zh→Option (Bool×Zl))) (Z7:(Zl→Zc→Option (Bool×Zl))) (a0:Zc) (a1:Zb):Option (Zb×Bool) :=
 (cond (a1.Kind != a0.List_) (some true) ((Ze1 a1.Kind).bind fun y4=>some (cond (a1.Kind != a0.List_) true (!y4)))).bind fun (z2:Bool)=>cond z2 (some ((⟨0,[],[]⟩:Zb),false)) ((Zw (Uh Z9 a0) (0,a1.Kids,([]:List Zb))).bind fun (z12:(Unit ⊕ ((List Zb)×(List Zb))))=>match z12 with | .inl z12=>some ((⟨0,[],[]⟩:Zb),false) | .inr z12=>some ((⟨a1.Kind,[],z12.2⟩:Zb),((z12.1.length:Int) == 0)))
noncomputable def G4 (Xn:(Zc→Zb→Option (Zb×Bool))) (Yq:(Zc→Zb→Option (Zb×Bool))) (X2:(Zc→Zb→Option (Zb×Bool))) (Z9:(Zl→Zh→Option (Bool×Zl))) (Z7:(Zl→Zc→Option (Bool×Zl))) (a0:Zl) (a1:Zh):Option (Bool×Zl) :=
 cond (a1.Kind == 0) ((cond (decide (a1.N < 0)) (some true) (some (cond (decide (a1.N < 0)) true (decide ((a0.left.length:Int) < a1.N))))).bind fun (z1:Bool)=>cond z1 (some (false,(⟨a0.left,a0.out⟩:Zl))) ((Zcl a0.left 0 a1.N).bind fun l5=>(Vx 56 a0.out l5).bind fun l6=>(Zcl a0.left a1.N (a0.left.length:Int)).bind fun l8=>some (true,(⟨l8,l6⟩:Zl)))) (cond (a1.Kind == 1) ((cond (decide ((a0.left.length:Int) < (a1.L.length:Int))) (some true) ((Zcl a0.left 0 (a1.L.length:Int)).bind fun l15=>(Xg l15 a1.L).bind fun y16=>some (cond (decide ((a0.left.length:Int) < (a1.L.length:Int))) true (!y16)))).bind fun (z12:Bool)=>cond z12 (some (false,(⟨a0.left,a0.out⟩:Zl))) ((Zcl a0.left (a1.L.length:Int) (a0.left.length:Int)).bind fun l19=>some (true,(⟨l19,a0.out⟩:Zl)))) (cond (a1.Kind == 2) ((Vx 56 a0.out a1.L).bind fun l22=>some (true,(⟨a0.left,l22⟩:Zl))) (cond (a1.Kind == 3) ((Z7 (⟨a0.left,a0.out⟩:Zl) a1.E).bind fun y24=>some (y24.1,(⟨y24.2.left,y24.2.out⟩:Zl))) (some (false,(⟨a0.left,a0.out⟩:Zl))))))
noncomputable def V4 (Xn:(Zc→Zb→Option (Zb×Bool))) (Yq:(Zc→Zb→Option (Zb×Bool))) (X2:(Zc→Zb→Option (Zb×Bool))) (Z9:(Zl→Zh→Option (Bool×Zl))) (Z7:(Zl→Zc→Option (Bool×Zl))) (a0:Zl) (a1:Zc):Option (Bool×Zl) :=
 cond ((a0.left.length:Int) == 0) (some (false,(⟨a0.left,a0.out⟩:Zl))) ((Xr a0.left 0).bind fun x3=>(Xn a1 x3).bind fun y4=>(Vx 56 a0.out ([(⟨0,[],[]⟩:Zb)]:List Zb)).bind fun l8=>(Xr l8 (a0.out.length:Int)).bind fun x9=>(Zcl a0.left 1 (a0.left.length:Int)).bind fun l12=>some (y4.2,(⟨l12,(a0.out++[y4.1])⟩:Zl)))
noncomputable def Zu:Nat→((Zc→Zb→Option (Zb×Bool))×(Zc→Zb→Option (Zb×Bool))×(Zc→Zb→Option (Zb×Bool))×(Zl→Zh→Option (Bool×Zl))×(Zl→Zc→Option (Bool×Zl)))
 | 0=>((fun _ _=>none),(fun _ _=>none),(fun _ _=>none),(fun _ _=>none),(fun _ _=>none))
 | k+1=>(Zbl ((Zu k).1) ((Zu k).2.1) ((Zu k).2.2.1) ((Zu k).2.2.2.1) ((Zu k).2.2.2.2),Gk ((Zu k).1) ((Zu k).2.1) ((Zu k).2.2.1) ((Zu k).2.2.2.1) ((Zu k).2.2.2.2),Zf4 ((Zu k).1) ((Zu k).2.1) ((Zu k).2.2.1) ((Zu k).2.2.2.1) ((Zu k).2.2.2.2),G4 ((Zu k).1) ((Zu k).2.1) ((Zu k).2.2.1) ((Zu k).2.2.2.1) ((Zu k).2.2.2.2),V4 ((Zu k).1) ((Zu k).2.1) ((Zu k).2.2.1) ((Zu k).2.2.2.1) ((Zu k).2.2.2.2))
noncomputable def Zm4 (a0:Zc) (a1:Zb):Option (Zb×Bool):=lim fun k=>(Zu k).1 a0 a1
noncomputable def Zca (Zcp:(Zb→Option Zb)) (z1:((List Int)×(List Zb))) (s0_:(Int×(List Zb))):Option ((Int×(List Zb)) ⊕ (List Zb)) :=
 cond (decide (s0_.1 < (z1.2.length:Int))) ((Xr z1.2 s0_.1).bind fun x9=>(Zcp x9).bind fun y10=>(Xr s0_.2 s0_.1).bind fun x11=>some (.inl ((IntKind.i64.wrap (s0_.1+1)),(Zi5 s0_.2 s0_.1 y10)))) (some (.inr s0_.2))
noncomputable def Zjf (Zcp:(Zb→Option Zb)) (a0:Zb):Option Zb :=
 cond (a0.Kind == 0) (some (⟨0,[],[]⟩:Zb)) ((cond (a0.Kind == 1) ((U2 a0.Words).bind fun y2=>(Gz a0.Kids).bind fun y3=>some (y2,y3)) (some (a0.Words,a0.Kids))).bind fun (z1:((List Int)×(List Zb)))=>(cond (decide (0 < (z1.2.length:Int))) ((Zom 56 (z1.2.length:Int) (⟨(0:Int),[],[]⟩:Zb)).bind fun l6=>some l6) (some ([]:List Zb))).bind fun (z5:(List Zb))=>(Zw (Zca Zcp z1) (0,z5)).bind fun (z14:(List Zb))=>some (⟨a0.Kind,z1.1,z14⟩:Zb))
noncomputable def Zad:Nat→(Zb→Option Zb)
 | 0=>(fun _=>none)
 | k+1=>Zjf ((Zad k))
noncomputable def Zcn (a0:Zb):Option Zb:=lim fun k=>(Zad k) a0
noncomputable def Qa (a0:Zc) (a1:Zb):Option (Zb×Bool) :=
 (Zm4 a0 a1).bind fun y2=>cond (!y2.2) (some ((⟨0,[],[]⟩:Zb),false)) ((Zcn y2.1).bind fun y4=>some (y4,true))
noncomputable def Zao (a0:Zc) (s0_:(Int×(List Zj))):Option ((Int×(List Zj)) ⊕ (List Zj)) :=
 cond (decide (s0_.1 < (a0.Words.length:Int))) ((Xr a0.Words s0_.1).bind fun x2=>(Vx 32 s0_.2 ([(⟨x2.At,x2.Mask,x2.New,x2.Old⟩:Zj)]:List Zj)).bind fun l3=>some (.inl ((IntKind.i64.wrap (s0_.1+1)),l3))) (some (.inr s0_.2))
noncomputable def Zap (Qv:(Zc→Option Zc)) (a0:Zc) (s1_:(Int×(List Zd))):Option ((Int×(List Zd)) ⊕ (List Zd)) :=
 cond (decide (s1_.1 < (a0.Kids.length:Int))) ((Xr a0.Kids s1_.1).bind fun x7=>(Qv x7.E).bind fun y8=>(Vx 208 s1_.2 ([(⟨x7.At,y8⟩:Zd)]:List Zd)).bind fun l9=>some (.inl ((IntKind.i64.wrap (s1_.1+1)),l9))) (some (.inr s1_.2))
noncomputable def Zaq (Qm:(Zh→Option Zh)) (a0:Zc) (s2_:(Int×(List Zh))):Option ((Int×(List Zh)) ⊕ (List Zh)) :=
 cond (decide (s2_.1 < (a0.Ops.length:Int))) ((Xr a0.Ops s2_.1).bind fun x13=>(Qm x13).bind fun y14=>(Vx 240 s2_.2 ([y14]:List Zh)).bind fun l15=>some (.inl ((IntKind.i64.wrap (s2_.1+1)),l15))) (some (.inr s2_.2))
noncomputable def Zda (Qv:(Zc→Option Zc)) (Qm:(Zh→Option Zh)) (a0:Zc):Option Zc :=
 (Zw (Zao a0) (0,([]:List Zj))).bind fun (z5:(List Zj))=>(Zw (Zap Qv a0) (0,([]:List Zd))).bind fun (z11:(List Zd))=>(Zw (Zaq Qm a0) (0,([]:List Zh))).bind fun (z17:(List Zh))=>some (⟨a0.Kind,a0.New,a0.Old,z5,z11,a0.List_,z17⟩:Zc)
noncomputable def Zbm (Qv:(Zc→Option Zc)) (Qm:(Zh→Option Zh)) (a0:Zh):Option Zh :=
 (cond (a0.Kind == 1) (some (2,a0.E.Kind,a0.E.Old.Kind,a0.E.Old.Words,a0.E.Old.Kids,a0.E.New.Kind,a0.E.New.Words,a0.E.New.Kids,a0.E.Words,a0.E.Kids,a0.E.List_,a0.E.Ops)) (cond (a0.Kind == 2) (some (1,a0.E.Kind,a0.E.Old.Kind,a0.E.Old.Words,a0.E.Old.Kids,a0.E.New.Kind,a0.E.New.Words,a0.E.New.Kids,a0.E.Words,a0.E.Kids,a0.E.List_,a0.E.Ops)) (cond (a0.Kind == 3) ((Qv a0.E).bind fun y2=>some (a0.Kind,y2.Kind,y2.Old.Kind,y2.Old.Words,y2.Old.Kids,y2.New.Kind,y2.New.Words,y2.New.Kids,y2.Words,y2.Kids,y2.List_,y2.Ops)) (some (a0.Kind,a0.E.Kind,a0.E.Old.Kind,a0.E.Old.Words,a0.E.Old.Kids,a0.E.New.Kind,a0.E.New.Words,a0.E.New.Kids,a0.E.Words,a0.E.Kids,a0.E.List_,a0.E.Ops))))).bind fun (z1:(Int×Int×Int×(List Int)×(List Zb)×Int×(List Int)×(List Zb)×(List Zj)×(List Zd)×Int×(List Zh)))=>some (⟨z1.1,a0.N,a0.L,⟨z1.2.1,⟨z1.2.2.1,z1.2.2.2.1,z1.2.2.2.2.1⟩,⟨z1.2.2.2.2.2.1,z1.2.2.2.2.2.2.1,z1.2.2.2.2.2.2.2.1⟩,z1.2.2.2.2.2.2.2.2.1,z1.2.2.2.2.2.2.2.2.2.1,z1.2.2.2.2.2.2.2.2.2.2.1,z1.2.2.2.2.2.2.2.2.2.2.2⟩⟩:Zh)
noncomputable def X6:Nat→((Zc→Option Zc)×(Zh→Option Zh))
 | 0=>((fun _=>none),(fun _=>none))
 | k+1=>(Zda ((X6 k).1) ((X6 k).2),Zbm ((X6 k).1) ((X6 k).2))
noncomputable def Zjz (a0:Zc):Option Zc:=lim fun k=>(X6 k).1 a0
noncomputable def J4 (a0:List Zj):Option (List Zj) :=
 Vx 32 ([]:List Zj) a0
structure Zz where
 out:(List Zh)
 kept:Int
 gone:(List Zb)
 come:(List Zb)
noncomputable def Qr (a0:Zz):Option Zz :=
 (cond (decide (0 < a0.kept)) ((Vx 240 a0.out ([(⟨0,0,[],⟨0,⟨0,[],[]⟩,⟨0,[],[]⟩,[],[],0,[]⟩⟩:Zh)]:List Zh)).bind fun l2=>(Xr l2 (a0.out.length:Int)).bind fun x3=>some (a0.out++[(⟨0,a0.kept,[],⟨0,⟨0,[],[]⟩,⟨0,[],[]⟩,[],[],0,[]⟩⟩:Zh)])) (some a0.out)).bind fun (z1:(List Zh))=>(cond (decide (0 < (a0.gone.length:Int))) ((Vx 240 z1 ([(⟨0,0,[],⟨0,⟨0,[],[]⟩,⟨0,[],[]⟩,[],[],0,[]⟩⟩:Zh)]:List Zh)).bind fun l9=>(Xr l9 (z1.length:Int)).bind fun x10=>some ((z1++[(⟨1,0,a0.gone,⟨0,⟨0,[],[]⟩,⟨0,[],[]⟩,[],[],0,[]⟩⟩:Zh)]),a0.gone)) (some (z1,a0.gone))).bind fun (z6:((List Zh)×(List Zb)))=>(cond (decide (0 < (a0.come.length:Int))) ((Vx 240 z6.1 ([(⟨0,0,[],⟨0,⟨0,[],[]⟩,⟨0,[],[]⟩,[],[],0,[]⟩⟩:Zh)]:List Zh)).bind fun l16=>(Xr l16 (z6.1.length:Int)).bind fun x17=>some ((z6.1++[(⟨2,0,a0.come,⟨0,⟨0,[],[]⟩,⟨0,[],[]⟩,[],[],0,[]⟩⟩:Zh)]),a0.come)) (some (z6.1,a0.come))).bind fun (z13:((List Zh)×(List Zb)))=>some (⟨z13.1,0,[],[]⟩:Zz)
noncomputable def Vr (a0:Zz) (a1:Int):Option Zz :=
 (cond (a0.kept == 0) ((Qr (⟨a0.out,a0.kept,a0.gone,a0.come⟩:Zz)).bind fun y2=>some (y2.out,y2.gone,y2.come,y2.kept)) (some (a0.out,a0.gone,a0.come,a0.kept))).bind fun (z1:((List Zh)×(List Zb)×(List Zb)×Int))=>some (⟨z1.1,(IntKind.i64.wrap (z1.2.2.2+a1)),z1.2.1,z1.2.2.1⟩:Zz)
noncomputable def J6 (a2:(List Zb)) (s0_:(Int×(List Zb))):Option ((Int×(List Zb)) ⊕ (List Zb)) :=
 cond (decide (s0_.1 < (a2.length:Int))) ((Xr a2 s0_.1).bind fun x5=>(Zcn x5).bind fun y6=>(Vx 56 s0_.2 ([(⟨0,[],[]⟩:Zb)]:List Zb)).bind fun l7=>(Xr l7 (s0_.2.length:Int)).bind fun x8=>some (.inl ((IntKind.i64.wrap (s0_.1+1)),(s0_.2++[y6])))) (some (.inr s0_.2))
noncomputable def K9 (a0:Zz) (a2:(List Zb)):Option Zz :=
 (cond (decide (0 < a0.kept)) ((Qr (⟨a0.out,a0.kept,a0.gone,a0.come⟩:Zz)).bind fun y2=>some (y2.out,y2.gone,y2.come,y2.kept)) (some (a0.out,a0.gone,a0.come,a0.kept))).bind fun (z1:((List Zh)×(List Zb)×(List Zb)×Int))=>(Zw (J6 a2) (0,z1.2.1)).bind fun (z11:(List Zb))=>some (⟨z1.1,z1.2.2.2,z11,z1.2.2.1⟩:Zz)
noncomputable def J7 (a2:(List Zb)) (s0_:(Int×(List Zb))):Option ((Int×(List Zb)) ⊕ (List Zb)) :=
 cond (decide (s0_.1 < (a2.length:Int))) ((Xr a2 s0_.1).bind fun x5=>(Zcn x5).bind fun y6=>(Vx 56 s0_.2 ([(⟨0,[],[]⟩:Zb)]:List Zb)).bind fun l7=>(Xr l7 (s0_.2.length:Int)).bind fun x8=>some (.inl ((IntKind.i64.wrap (s0_.1+1)),(s0_.2++[y6])))) (some (.inr s0_.2))
noncomputable def Va (a0:Zz) (a2:(List Zb)):Option Zz :=
 (cond (decide (0 < a0.kept)) ((Qr (⟨a0.out,a0.kept,a0.gone,a0.come⟩:Zz)).bind fun y2=>some (y2.out,y2.gone,y2.come,y2.kept)) (some (a0.out,a0.gone,a0.come,a0.kept))).bind fun (z1:((List Zh)×(List Zb)×(List Zb)×Int))=>(Zw (J7 a2) (0,z1.2.2.1)).bind fun (z11:(List Zb))=>some (⟨z1.1,z1.2.2.2,z1.2.1,z11⟩:Zz)
noncomputable def Zgr (a0:Int) (a1:Zc):Option Bool :=
 some (cond (a1.Kind == 0) true (cond (cond (a0 == 9) (a1.Kind == 2) false) ((IntKind.i64.wrap ((a1.Words.length:Int)+(a1.Kids.length:Int))) == 0) false))
noncomputable def Vq (a0:Zz) (a1:Int) (a2:Zc):Option Zz :=
 (Zgr a1 a2).bind fun y2=>cond y2 ((Vr (⟨a0.out,a0.kept,a0.gone,a0.come⟩:Zz) 1).bind fun y4=>some (⟨y4.out,y4.kept,y4.gone,y4.come⟩:Zz)) ((Qr (⟨a0.out,a0.kept,a0.gone,a0.come⟩:Zz)).bind fun y6=>(Vx 240 y6.out ([(⟨0,0,[],⟨0,⟨0,[],[]⟩,⟨0,[],[]⟩,[],[],0,[]⟩⟩:Zh)]:List Zh)).bind fun l7=>(Xr l7 (y6.out.length:Int)).bind fun x8=>some (⟨(y6.out++[(⟨3,0,[],a2⟩:Zh)]),y6.kept,y6.gone,y6.come⟩:Zz))
noncomputable def Zb9 (Q2:(Zc→Option Zc)) (a0:Zc) (s0_:(Int×(List Zd))):Option ((Int×(List Zd)) ⊕ (List Zd)) :=
 cond (decide (s0_.1 < (a0.Kids.length:Int))) ((Xr a0.Kids s0_.1).bind fun x8=>(Q2 x8.E).bind fun y9=>(Vx 208 s0_.2 ([(⟨x8.At,y9⟩:Zd)]:List Zd)).bind fun l10=>some (.inl ((IntKind.i64.wrap (s0_.1+1)),l10))) (some (.inr s0_.2))
noncomputable def Zgo (Q2:(Zc→Option Zc)) (Ga:(Int→(List Zh)→Option (List Zh))) (a0:Zc):Option Zc :=
 cond (a0.Kind == 1) ((Zcn a0.Old).bind fun y3=>(Zcn a0.New).bind fun y4=>some (⟨1,y3,y4,[],[],0,[]⟩:Zc)) (cond (a0.Kind == 2) ((J4 a0.Words).bind fun y6=>(Zw (Zb9 Q2 a0) (0,([]:List Zd))).bind fun (z12:(List Zd))=>some (⟨2,⟨0,[],[]⟩,⟨0,[],[]⟩,y6,z12,0,[]⟩:Zc)) (cond (a0.Kind == 3) ((Ga a0.List_ a0.Ops).bind fun y14=>some (⟨3,⟨0,[],[]⟩,⟨0,[],[]⟩,[],[],a0.List_,y14⟩:Zc)) (some (⟨0,⟨0,[],[]⟩,⟨0,[],[]⟩,[],[],0,[]⟩:Zc))))
noncomputable def Gx (Q2:(Zc→Option Zc)) (a0:Int) (a1:(List Zh)) (s0_:(Int×Int×(List Zh)×(List Zb)×(List Zb))):Option ((Int×Int×(List Zh)×(List Zb)×(List Zb)) ⊕ (Int×(List Zh)×(List Zb)×(List Zb))) :=
 cond (decide (s0_.1 < (a1.length:Int))) (((Xr a1 s0_.1).bind fun x3=>cond (x3.Kind == 0) ((Vr (⟨s0_.2.2.1,s0_.2.1,s0_.2.2.2.1,s0_.2.2.2.2⟩:Zz) x3.N).bind fun y4=>some (y4.kept,y4.out,y4.gone,y4.come)) (cond (x3.Kind == 1) ((K9 (⟨s0_.2.2.1,s0_.2.1,s0_.2.2.2.1,s0_.2.2.2.2⟩:Zz) x3.L).bind fun y5=>some (y5.kept,y5.out,y5.gone,y5.come)) (cond (x3.Kind == 2) ((Va (⟨s0_.2.2.1,s0_.2.1,s0_.2.2.2.1,s0_.2.2.2.2⟩:Zz) x3.L).bind fun y6=>some (y6.kept,y6.out,y6.gone,y6.come)) (cond (x3.Kind == 3) ((Q2 x3.E).bind fun y7=>(Vq (⟨s0_.2.2.1,s0_.2.1,s0_.2.2.2.1,s0_.2.2.2.2⟩:Zz) a0 y7).bind fun y8=>some (y8.kept,y8.out,y8.gone,y8.come)) (some (s0_.2.1,s0_.2.2.1,s0_.2.2.2.1,s0_.2.2.2.2)))))).bind fun (z1:(Int×(List Zh)×(List Zb)×(List Zb)))=>some (.inl ((IntKind.i64.wrap (s0_.1+1)),z1.1,z1.2.1,z1.2.2.1,z1.2.2.2))) (some (.inr (s0_.2.1,s0_.2.2.1,s0_.2.2.2.1,s0_.2.2.2.2)))
noncomputable def Zf5 (Q2:(Zc→Option Zc)) (Ga:(Int→(List Zh)→Option (List Zh))) (a0:Int) (a1:(List Zh)):Option (List Zh) :=
 (Zw (Gx Q2 a0 a1) (0,0,([]:List Zh),([]:List Zb),([]:List Zb))).bind fun (z14:(Int×(List Zh)×(List Zb)×(List Zb)))=>(Qr (⟨z14.2.1,z14.1,z14.2.2.1,z14.2.2.2⟩:Zz)).bind fun y16=>some y16.out
noncomputable def Qz:Nat→((Zc→Option Zc)×(Int→(List Zh)→Option (List Zh)))
 | 0=>((fun _=>none),(fun _ _=>none))
 | k+1=>(Zgo ((Qz k).1) ((Qz k).2),Zf5 ((Qz k).1) ((Qz k).2))
noncomputable def Zjc (a0:Zc):Option Zc:=lim fun k=>(Qz k).1 a0
noncomputable def Jw (a0:Zc):Option Zc :=
 (Zjz a0).bind fun y3=>(Zjc y3).bind fun y4=>some y4
noncomputable def Qi (a0:Zj):Option Int :=
 some a0.At
noncomputable def Zez (a0:Zj) (a1:Zj):Option (Zj×Bool) :=
 (Zaf (IntKind.u8.wrap (Zdg .u8 a0.Mask a1.Mask))).bind fun y2=>cond ((IntKind.u64.wrap (Zdg .u64 (IntKind.u64.wrap (Zh2 .u64 a0.New a1.Old)) y2)) != 0) (some ((⟨0,0,0,0⟩:Zj),false)) ((Ze2 a1.Old a0.Old a0.Mask).bind fun y5=>(Ze2 a0.New a1.New a1.Mask).bind fun y6=>some ((⟨a0.At,(IntKind.u8.wrap (Zq3 .u8 a0.Mask a1.Mask)),y5,y6⟩:Zj),true))
noncomputable def Y5 (s0_:((List Zj)×(List Zj)×(List Zj))):Option (((List Zj)×(List Zj)×(List Zj)) ⊕ (Unit ⊕ ((List Zj)×(List Zj)×(List Zj)))) :=
 cond (cond (decide (0 < (s0_.1.length:Int))) (decide (0 < (s0_.2.1.length:Int))) false) ((Xr s0_.1 0).bind fun x5=>(Qi x5).bind fun y6=>(Xr s0_.2.1 0).bind fun x7=>(Qi x7).bind fun y8=>cond (decide (y6 < y8)) ((Xr s0_.1 0).bind fun x9=>(Zcl s0_.1 1 (s0_.1.length:Int)).bind fun l10=>(Vx 32 s0_.2.2 ([x9]:List Zj)).bind fun l11=>some (.inl (l10,s0_.2.1,l11))) ((Xr s0_.2.1 0).bind fun x16=>(Qi x16).bind fun y17=>(Xr s0_.1 0).bind fun x18=>(Qi x18).bind fun y19=>cond (decide (y17 < y19)) ((Xr s0_.2.1 0).bind fun x20=>(Zcl s0_.2.1 1 (s0_.2.1.length:Int)).bind fun l21=>(Vx 32 s0_.2.2 ([x20]:List Zj)).bind fun l22=>some (.inl (s0_.1,l21,l22))) ((Xr s0_.1 0).bind fun x26=>(Xr s0_.2.1 0).bind fun x27=>(Zez x26 x27).bind fun y28=>cond (!y28.2) (some (.inr (.inl ()))) ((Zcl s0_.1 1 (s0_.1.length:Int)).bind fun l29=>(Zcl s0_.2.1 1 (s0_.2.1.length:Int)).bind fun l30=>(Vx 32 s0_.2.2 ([y28.1]:List Zj)).bind fun l31=>some (.inl (l29,l30,l31)))))) (some (.inr (.inr (s0_.1,s0_.2.1,s0_.2.2))))
noncomputable def Qc (a0:(List Zj)) (a1:(List Zj)):Option ((List Zj)×Bool) :=
 (Zw (Y5) (a0,a1,([]:List Zj))).bind fun (z36:(Unit ⊕ ((List Zj)×(List Zj)×(List Zj))))=>match z36 with | .inl z36=>some (([]:(List Zj)),false) | .inr z36=>(Vx 32 z36.2.2 z36.1).bind fun l39=>(Vx 32 l39 z36.2.1).bind fun l40=>some (l40,true)
noncomputable def Qj (a0:Zd):Option Int :=
 some a0.At
noncomputable def Zh3 (a0:Zh):Option Int :=
 cond (a0.Kind == 0) (some a0.N) ((cond (a0.Kind == 1) (some (a0.Kind == 1)) (some (a0.Kind == 2))).bind fun (z1:Bool)=>cond z1 (some (a0.L.length:Int)) (some 1))
structure Xc where
 left:(List Zh)
 gone:Int
noncomputable def Jr (s0_:((List Zh)×Int)):Option (((List Zh)×Int) ⊕ ((Int×Int×(List Zh)×Int) ⊕ ((List Zh)×Int))) :=
 cond (decide (0 < (s0_.1.length:Int))) ((Xr s0_.1 0).bind fun x3=>(Zh3 x3).bind fun y4=>cond (decide (0 < (IntKind.i64.wrap (y4 - s0_.2)))) ((Xr s0_.1 0).bind fun x7=>some (.inr (.inl (x7.Kind,(IntKind.i64.wrap (y4 - s0_.2)),s0_.1,s0_.2)))) ((Zcl s0_.1 1 (s0_.1.length:Int)).bind fun l9=>some (.inl (l9,0)))) (some (.inr (.inr (s0_.1,s0_.2))))
noncomputable def Yx (a0:Xc):Option (Int×Int×Xc) :=
 (Zw (Jr) (a0.left,a0.gone)).bind fun (z12:((Int×Int×(List Zh)×Int) ⊕ ((List Zh)×Int)))=>match z12 with | .inl z12=>some (z12.1,z12.2.1,(⟨z12.2.2.1,z12.2.2.2⟩:Xc)) | .inr z12=>some (0,0,(⟨z12.1,z12.2⟩:Xc))
noncomputable def J0 (a0:Xc) (a1:Int):Option (Zh×Xc) :=
 (Xr a0.left 0).bind fun x2=>(cond (x2.Kind == 0) (some (a1,x2.L)) ((cond (x2.Kind == 1) (some (x2.Kind == 1)) (some (x2.Kind == 2))).bind fun (z4:Bool)=>cond z4 ((Zcl x2.L a0.gone (IntKind.i64.wrap (a0.gone+a1))).bind fun l6=>some (x2.N,l6)) (some (x2.N,x2.L)))).bind fun (z3:(Int×(List Zb)))=>some ((⟨x2.Kind,z3.1,z3.2,x2.E⟩:Zh),(⟨a0.left,(IntKind.i64.wrap (a0.gone+a1))⟩:Xc))
structure Zy where
 Of:Int
 P:Zh
 Q:Zh
noncomputable def Jf (a2:Int) (a3:Int) (s0_:((List Zh)×Int×(List Zh)×Int×(List Zy))):Option (((List Zh)×Int×(List Zh)×Int×(List Zy)) ⊕ ((List Zy)×Bool)) :=
 (Yx (⟨s0_.1,s0_.2.1⟩:Xc)).bind fun y2=>(Yx (⟨s0_.2.2.1,s0_.2.2.2.1⟩:Xc)).bind fun y4=>cond (cond (decide (0 < y2.2.1)) (y2.1 == a2) false) ((J0 y2.2.2 y2.2.1).bind fun y5=>(Vx 488 s0_.2.2.2.2 ([(⟨1,y5.1,⟨0,0,[],⟨0,⟨0,[],[]⟩,⟨0,[],[]⟩,[],[],0,[]⟩⟩⟩:Zy)]:List Zy)).bind fun l6=>some (.inl (y5.2.left,y5.2.gone,y4.2.2.left,y4.2.2.gone,l6))) (cond (cond (decide (0 < y4.2.1)) (y4.1 == a3) false) ((J0 y4.2.2 y4.2.1).bind fun y7=>(Vx 488 s0_.2.2.2.2 ([(⟨2,⟨0,0,[],⟨0,⟨0,[],[]⟩,⟨0,[],[]⟩,[],[],0,[]⟩⟩,y7.1⟩:Zy)]:List Zy)).bind fun l8=>some (.inl (y2.2.2.left,y2.2.2.gone,y7.2.left,y7.2.gone,l8))) (cond (cond (y2.2.1 == 0) (y4.2.1 == 0) false) (some (.inr (s0_.2.2.2.2,true))) (cond (cond (y2.2.1 == 0) true (y4.2.1 == 0)) (some (.inr (([]:(List Zy)),false))) ((J0 y2.2.2 (if y4.2.1 < y2.2.1 then y4.2.1 else y2.2.1)).bind fun y9=>(J0 y4.2.2 (if y4.2.1 < y2.2.1 then y4.2.1 else y2.2.1)).bind fun y10=>(Vx 488 s0_.2.2.2.2 ([(⟨0,y9.1,y10.1⟩:Zy)]:List Zy)).bind fun l11=>some (.inl (y9.2.left,y9.2.gone,y10.2.left,y10.2.gone,l11))))))
noncomputable def Zh4 (a0:(List Zh)) (a1:(List Zh)) (a2:Int) (a3:Int):Option ((List Zy)×Bool) :=
 (Zw (Jf a2 a3) (a0,0,a1,0,([]:List Zy))).bind fun (z16:((List Zy)×Bool))=>some (z16.1,z16.2)
noncomputable def Zay (a0:(List Zh)) (a1:(List Zh)):Option ((List Zy)×Bool) :=
 (Zh4 a0 a1 1 2).bind fun y2=>some (y2.1,y2.2)
noncomputable def Zeo (Yt:(Zc→Zc→Option (Zc×Bool))) (Z3:(Zc→Zc→Option (Zc×Bool))) (Yn:(Zc→Zc→Option (Zc×Bool))) (Zq:((List Zd)→(List Zd)→Option ((List Zd)×Bool))) (Z0:(Zd→Zd→Option (Zd×Bool))) (Yf:(Zy→Option ((List Zh)×Bool))) (a0:Zc) (a1:Zc):Option (Zc×Bool) :=
 cond (a0.Kind == 0) (some (a1,true)) (cond (a1.Kind == 0) (some (a0,true)) (cond (a0.Kind == 1) ((Qa a1 a0.New).bind fun y2=>some ((⟨1,a0.Old,y2.1,[],[],0,[]⟩:Zc),y2.2)) (cond (a1.Kind == 1) ((Jw a0).bind fun y5=>(Qa y5 a1.Old).bind fun y6=>some ((⟨1,y6.1,a1.New,[],[],0,[]⟩:Zc),y6.2)) (cond (cond (a0.Kind == 2) (a1.Kind == 2) false) ((Z3 a0 a1).bind fun y8=>some (y8.1,y8.2)) (cond (cond (cond (a0.Kind == 3) (a1.Kind == 3) false) (a0.List_ == a1.List_) false) ((Yn a0 a1).bind fun y10=>some (y10.1,y10.2)) (some ((⟨0,⟨0,[],[]⟩,⟨0,[],[]⟩,[],[],0,[]⟩:Zc),false)))))))
noncomputable def Gd (Yt:(Zc→Zc→Option (Zc×Bool))) (Z3:(Zc→Zc→Option (Zc×Bool))) (Yn:(Zc→Zc→Option (Zc×Bool))) (Zq:((List Zd)→(List Zd)→Option ((List Zd)×Bool))) (Z0:(Zd→Zd→Option (Zd×Bool))) (Yf:(Zy→Option ((List Zh)×Bool))) (a0:Zc) (a1:Zc):Option (Zc×Bool) :=
 (Qc a0.Words a1.Words).bind fun y2=>(Zq a0.Kids a1.Kids).bind fun y4=>some ((⟨2,⟨0,[],[]⟩,⟨0,[],[]⟩,y2.1,y4.1,0,[]⟩:Zc),(cond y2.2 y4.2 false))
noncomputable def Qe (Yf:(Zy→Option ((List Zh)×Bool))) (y2:((List Zy)×Bool)) (s0_:(Int×(List Zh))):Option ((Int×(List Zh)) ⊕ (Unit ⊕ (List Zh))) :=
 cond (decide (s0_.1 < (y2.1.length:Int))) ((Xr y2.1 s0_.1).bind fun x4=>(Yf x4).bind fun y6=>cond (!y6.2) (some (.inr (.inl ()))) ((Vx 240 s0_.2 y6.1).bind fun l7=>some (.inl ((IntKind.i64.wrap (s0_.1+1)),l7)))) (some (.inr (.inr s0_.2)))
noncomputable def Zc7 (Yt:(Zc→Zc→Option (Zc×Bool))) (Z3:(Zc→Zc→Option (Zc×Bool))) (Yn:(Zc→Zc→Option (Zc×Bool))) (Zq:((List Zd)→(List Zd)→Option ((List Zd)×Bool))) (Z0:(Zd→Zd→Option (Zd×Bool))) (Yf:(Zy→Option ((List Zh)×Bool))) (a0:Zc) (a1:Zc):Option (Zc×Bool) :=
 (Zay a0.Ops a1.Ops).bind fun y2=>cond (!y2.2) (some ((⟨0,⟨0,[],[]⟩,⟨0,[],[]⟩,[],[],0,[]⟩:Zc),false)) ((Zw (Qe Yf y2) (0,([]:List Zh))).bind fun (z10:(Unit ⊕ (List Zh)))=>match z10 with | .inl z10=>some ((⟨0,⟨0,[],[]⟩,⟨0,[],[]⟩,[],[],0,[]⟩:Zc),false) | .inr z10=>some ((⟨3,⟨0,[],[]⟩,⟨0,[],[]⟩,[],[],a0.List_,z10⟩:Zc),true))
noncomputable def Y9 (Z0:(Zd→Zd→Option (Zd×Bool))) (s0_:((List Zd)×(List Zd)×(List Zd))):Option (((List Zd)×(List Zd)×(List Zd)) ⊕ (Unit ⊕ ((List Zd)×(List Zd)×(List Zd)))) :=
 cond (cond (decide (0 < (s0_.1.length:Int))) (decide (0 < (s0_.2.1.length:Int))) false) ((Xr s0_.1 0).bind fun x5=>(Qj x5).bind fun y6=>(Xr s0_.2.1 0).bind fun x7=>(Qj x7).bind fun y8=>cond (decide (y6 < y8)) ((Xr s0_.1 0).bind fun x9=>(Zcl s0_.1 1 (s0_.1.length:Int)).bind fun l10=>(Vx 208 s0_.2.2 ([x9]:List Zd)).bind fun l11=>some (.inl (l10,s0_.2.1,l11))) ((Xr s0_.2.1 0).bind fun x16=>(Qj x16).bind fun y17=>(Xr s0_.1 0).bind fun x18=>(Qj x18).bind fun y19=>cond (decide (y17 < y19)) ((Xr s0_.2.1 0).bind fun x20=>(Zcl s0_.2.1 1 (s0_.2.1.length:Int)).bind fun l21=>(Vx 208 s0_.2.2 ([x20]:List Zd)).bind fun l22=>some (.inl (s0_.1,l21,l22))) ((Xr s0_.1 0).bind fun x26=>(Xr s0_.2.1 0).bind fun x27=>(Z0 x26 x27).bind fun y28=>cond (!y28.2) (some (.inr (.inl ()))) ((Zcl s0_.1 1 (s0_.1.length:Int)).bind fun l29=>(Zcl s0_.2.1 1 (s0_.2.1.length:Int)).bind fun l30=>(Vx 208 s0_.2.2 ([y28.1]:List Zd)).bind fun l31=>some (.inl (l29,l30,l31)))))) (some (.inr (.inr (s0_.1,s0_.2.1,s0_.2.2))))
noncomputable def Qf (Yt:(Zc→Zc→Option (Zc×Bool))) (Z3:(Zc→Zc→Option (Zc×Bool))) (Yn:(Zc→Zc→Option (Zc×Bool))) (Zq:((List Zd)→(List Zd)→Option ((List Zd)×Bool))) (Z0:(Zd→Zd→Option (Zd×Bool))) (Yf:(Zy→Option ((List Zh)×Bool))) (a0:(List Zd)) (a1:(List Zd)):Option ((List Zd)×Bool) :=
 (Zw (Y9 Z0) (a0,a1,([]:List Zd))).bind fun (z36:(Unit ⊕ ((List Zd)×(List Zd)×(List Zd))))=>match z36 with | .inl z36=>some (([]:(List Zd)),false) | .inr z36=>(Vx 208 z36.2.2 z36.1).bind fun l39=>(Vx 208 l39 z36.2.1).bind fun l40=>some (l40,true)
noncomputable def Zcs (Yt:(Zc→Zc→Option (Zc×Bool))) (Z3:(Zc→Zc→Option (Zc×Bool))) (Yn:(Zc→Zc→Option (Zc×Bool))) (Zq:((List Zd)→(List Zd)→Option ((List Zd)×Bool))) (Z0:(Zd→Zd→Option (Zd×Bool))) (Yf:(Zy→Option ((List Zh)×Bool))) (a0:Zd) (a1:Zd):Option (Zd×Bool) :=
 (Yt a0.E a1.E).bind fun y2=>some ((⟨a0.At,y2.1⟩:Zd),y2.2)
noncomputable def Zc8 (Yt:(Zc→Zc→Option (Zc×Bool))) (Z3:(Zc→Zc→Option (Zc×Bool))) (Yn:(Zc→Zc→Option (Zc×Bool))) (Zq:((List Zd)→(List Zd)→Option ((List Zd)×Bool))) (Z0:(Zd→Zd→Option (Zd×Bool))) (Yf:(Zy→Option ((List Zh)×Bool))) (a0:Zy):Option ((List Zh)×Bool) :=
 cond (cond (a0.Of == 1) true (cond (a0.Of == 0) (a0.Q.Kind == 0) false)) (some (([a0.P]:List Zh),true)) (cond (cond (a0.Of == 2) true (a0.P.Kind == 0)) (some (([a0.Q]:List Zh),true)) (cond (cond (a0.P.Kind == 2) (a0.Q.Kind == 1) false) ((Xg a0.P.L a0.Q.L).bind fun y2=>some (([]:(List Zh)),y2)) (cond (a0.P.Kind == 2) ((Xr a0.P.L 0).bind fun x5=>(Qa a0.Q.E x5).bind fun y6=>some (([(⟨2,0,([y6.1]:List Zb),⟨0,⟨0,[],[]⟩,⟨0,[],[]⟩,[],[],0,[]⟩⟩:Zh)]:List Zh),y6.2)) (cond (a0.Q.Kind == 1) ((Jw a0.P.E).bind fun y10=>(Xr a0.Q.L 0).bind fun x11=>(Qa y10 x11).bind fun y12=>some (([(⟨1,0,([y12.1]:List Zb),⟨0,⟨0,[],[]⟩,⟨0,[],[]⟩,[],[],0,[]⟩⟩:Zh)]:List Zh),y12.2)) ((Yt a0.P.E a0.Q.E).bind fun y14=>some (([(⟨3,0,[],y14.1⟩:Zh)]:List Zh),y14.2))))))
noncomputable def Zm:Nat→((Zc→Zc→Option (Zc×Bool))×(Zc→Zc→Option (Zc×Bool))×(Zc→Zc→Option (Zc×Bool))×((List Zd)→(List Zd)→Option ((List Zd)×Bool))×(Zd→Zd→Option (Zd×Bool))×(Zy→Option ((List Zh)×Bool)))
 | 0=>((fun _ _=>none),(fun _ _=>none),(fun _ _=>none),(fun _ _=>none),(fun _ _=>none),(fun _=>none))
 | k+1=>(Zeo ((Zm k).1) ((Zm k).2.1) ((Zm k).2.2.1) ((Zm k).2.2.2.1) ((Zm k).2.2.2.2.1) ((Zm k).2.2.2.2.2),Gd ((Zm k).1) ((Zm k).2.1) ((Zm k).2.2.1) ((Zm k).2.2.2.1) ((Zm k).2.2.2.2.1) ((Zm k).2.2.2.2.2),Zc7 ((Zm k).1) ((Zm k).2.1) ((Zm k).2.2.1) ((Zm k).2.2.2.1) ((Zm k).2.2.2.2.1) ((Zm k).2.2.2.2.2),Qf ((Zm k).1) ((Zm k).2.1) ((Zm k).2.2.1) ((Zm k).2.2.2.1) ((Zm k).2.2.2.2.1) ((Zm k).2.2.2.2.2),Zcs ((Zm k).1) ((Zm k).2.1) ((Zm k).2.2.1) ((Zm k).2.2.2.1) ((Zm k).2.2.2.2.1) ((Zm k).2.2.2.2.2),Zc8 ((Zm k).1) ((Zm k).2.1) ((Zm k).2.2.1) ((Zm k).2.2.2.1) ((Zm k).2.2.2.2.1) ((Zm k).2.2.2.2.2))
noncomputable def Zh5 (a0:Zc) (a1:Zc):Option (Zc×Bool):=lim fun k=>(Zm k).1 a0 a1
noncomputable def V6 (a0:Zc) (a1:Zc):Option (Zc×Bool) :=
 (Zh5 a0 a1).bind fun y2=>cond (!y2.2) (some ((⟨0,⟨0,[],[]⟩,⟨0,[],[]⟩,[],[],0,[]⟩:Zc),false)) ((Zjc y2.1).bind fun y4=>some (y4,true))
noncomputable def Js :Option Bool :=
 (V6 (⟨3,⟨0,[],[]⟩,⟨0,[],[]⟩,[],[],4,([(⟨2,0,([(⟨10,([1]:List Int),[]⟩:Zb)]:List Zb),⟨0,⟨0,[],[]⟩,⟨0,[],[]⟩,[],[],0,[]⟩⟩:Zh),(⟨0,1,[],⟨0,⟨0,[],[]⟩,⟨0,[],[]⟩,[],[],0,[]⟩⟩:Zh)]:List Zh)⟩:Zc) (⟨3,⟨0,[],[]⟩,⟨0,[],[]⟩,[],[],4,([(⟨1,0,([(⟨10,([1]:List Int),[]⟩:Zb)]:List Zb),⟨0,⟨0,[],[]⟩,⟨0,[],[]⟩,[],[],0,[]⟩⟩:Zh),(⟨0,1,[],⟨0,⟨0,[],[]⟩,⟨0,[],[]⟩,[],[],0,[]⟩⟩:Zh)]:List Zh)⟩:Zc)).bind fun y2=>(cond y2.2 (cond (y2.1.Kind == 3) (cond ((y2.1.Ops.length:Int) == 1) ((Xr y2.1.Ops 0).bind fun x12=>cond (x12.Kind == 0) (some (cond (cond (cond (cond y2.2 (y2.1.Kind == 3) false) ((y2.1.Ops.length:Int) == 1) false) (x12.Kind == 0) false) (x12.N == 1) false)) (some false)) (some false)) (some false)) (some false)).bind fun (z7:Bool)=>some z7
noncomputable def Zdi (a0:Int):Option Zb :=
 cond (a0 == 8) (some (⟨0,[],[]⟩:Zb)) (cond (a0 == 9) (some (⟨1,[],[]⟩:Zb)) (some (⟨10,([0]:List Int),[]⟩:Zb)))
noncomputable def Zen (Xx:(Zc→Option Zb)) (Xk:(Zc→Option Zb)) (Xy:(Zc→Option Zb)) (a0:Zc):Option Zb :=
 cond (a0.Kind == 1) (some a0.Old) (cond (a0.Kind == 2) ((Xk a0).bind fun y2=>some y2) (cond (a0.Kind == 3) ((Xy a0).bind fun y4=>some y4) (some (⟨0,[],[]⟩:Zb))))
noncomputable def Zb5 (x2:Zj) (s1_:(List Int)):Option ((List Int) ⊕ (List Int)) :=
 cond (decide ((s1_.length:Int) < (if 65534 < x2.At then 65534 else x2.At))) ((Vx 8 s1_ ([0]:List Int)).bind fun l3=>some (.inl l3)) (some (.inr s1_))
noncomputable def Vm (a0:Zc) (s0_:(Int×(List Int))):Option ((Int×(List Int)) ⊕ (List Int)) :=
 cond (decide (s0_.1 < (a0.Words.length:Int))) ((Xr a0.Words s0_.1).bind fun x2=>(Zw (Zb5 x2) s0_.2).bind fun (z5:(List Int))=>(Vx 8 z5 ([x2.Old]:List Int)).bind fun l6=>some (.inl ((IntKind.i64.wrap (s0_.1+1)),l6))) (some (.inr s0_.2))
noncomputable def Zb6 (x10:Zd) (s3_:(List Zb)):Option ((List Zb) ⊕ (List Zb)) :=
 cond (decide ((s3_.length:Int) < (if 65534 < x10.At then 65534 else x10.At))) ((Vx 56 s3_ ([(⟨0,[],[]⟩:Zb)]:List Zb)).bind fun l11=>some (.inl l11)) (some (.inr s3_))
noncomputable def Vn (Xx:(Zc→Option Zb)) (a0:Zc) (s2_:(Int×(List Zb))):Option ((Int×(List Zb)) ⊕ (List Zb)) :=
 cond (decide (s2_.1 < (a0.Kids.length:Int))) ((Xr a0.Kids s2_.1).bind fun x10=>(Zw (Zb6 x10) s2_.2).bind fun (z13:(List Zb))=>(Xx x10.E).bind fun y14=>(Vx 56 z13 ([y14]:List Zb)).bind fun l15=>some (.inl ((IntKind.i64.wrap (s2_.1+1)),l15))) (some (.inr s2_.2))
noncomputable def Gc (Xx:(Zc→Option Zb)) (Xk:(Zc→Option Zb)) (Xy:(Zc→Option Zb)) (a0:Zc):Option Zb :=
 (Zw (Vm a0) (0,([]:List Int))).bind fun (z8:(List Int))=>(Zw (Vn Xx a0) (0,([]:List Zb))).bind fun (z17:(List Zb))=>some (⟨1,z8,z17⟩:Zb)
noncomputable def Za9 (a0:Zc) (x3:Zh) (s1_:(Int×(List Zb))):Option ((Int×(List Zb)) ⊕ (List Zb)) :=
 cond (decide (s1_.1 < (if 1048576 < x3.N then 1048576 else x3.N))) ((Zdi a0.List_).bind fun y4=>(Vx 56 s1_.2 ([y4]:List Zb)).bind fun l5=>some (.inl ((IntKind.i64.wrap (s1_.1+1)),l5))) (some (.inr s1_.2))
noncomputable def Ur (Xx:(Zc→Option Zb)) (a0:Zc) (s0_:(Int×(List Zb))):Option ((Int×(List Zb)) ⊕ (List Zb)) :=
 cond (decide (s0_.1 < (a0.Ops.length:Int))) (((Xr a0.Ops s0_.1).bind fun x3=>cond (x3.Kind == 0) ((Zw (Za9 a0 x3) (0,s0_.2)).bind fun (z7:(List Zb))=>some z7) (cond (x3.Kind == 1) ((Vx 56 s0_.2 x3.L).bind fun l8=>some l8) (cond (x3.Kind == 3) ((Xx x3.E).bind fun y9=>(Vx 56 s0_.2 ([y9]:List Zb)).bind fun l10=>some l10) (some s0_.2)))).bind fun (z1:(List Zb))=>some (.inl ((IntKind.i64.wrap (s0_.1+1)),z1))) (some (.inr s0_.2))
noncomputable def Zam (Xx:(Zc→Option Zb)) (Xk:(Zc→Option Zb)) (Xy:(Zc→Option Zb)) (a0:Zc):Option Zb :=
 (Zw (Ur Xx a0) (0,([]:List Zb))).bind fun (z15:(List Zb))=>some (⟨a0.List_,[],z15⟩:Zb)
noncomputable def Yc:Nat→((Zc→Option Zb)×(Zc→Option Zb)×(Zc→Option Zb))
 | 0=>((fun _=>none),(fun _=>none),(fun _=>none))
 | k+1=>(Zen ((Yc k).1) ((Yc k).2.1) ((Yc k).2.2),Gc ((Yc k).1) ((Yc k).2.1) ((Yc k).2.2),Zam ((Yc k).1) ((Yc k).2.1) ((Yc k).2.2))
noncomputable def Zkw (a0:Zc):Option Zb:=lim fun k=>(Yc k).1 a0
noncomputable def Zah (a0:Zb):Option Bool :=
 some (cond (a0.Kind != 0) true (decide (0 < (IntKind.i64.wrap ((a0.Words.length:Int)+(a0.Kids.length:Int))))))
noncomputable def Gg (a0:Bool) (a1:Bool) (a2:Bool) (a3:Zc):Option Bool :=
 (cond a0 ((Zah a3.Old).bind fun y6=>cond y6 (some false) ((Zah a3.New).bind fun y7=>some (cond (cond (!(cond a0 (cond y6 true y7) false)) (!(cond a1 (decide (0 < (IntKind.i64.wrap ((a3.Words.length:Int)+(a3.Kids.length:Int))))) false)) false) (!(cond a2 (cond (a3.List_ != 0) true (decide (0 < (a3.Ops.length:Int)))) false)) false))) (some (cond (!(cond a1 (decide (0 < (IntKind.i64.wrap ((a3.Words.length:Int)+(a3.Kids.length:Int))))) false)) (!(cond a2 (cond (a3.List_ != 0) true (decide (0 < (a3.Ops.length:Int)))) false)) false))).bind fun (z3:Bool)=>some z3
noncomputable def Gh (a0:(List Zb)) (s0_:Int):Option (Int ⊕ (Unit ⊕ Unit)) :=
 cond (decide (s0_ < (a0.length:Int))) ((Xr a0 s0_).bind fun x2=>cond (x2.Kind != 1) (some (.inr (.inl ()))) (some (.inl (IntKind.i64.wrap (s0_+1))))) (some (.inr (.inr ())))
noncomputable def Zbt (a0:(List Zb)):Option Bool :=
 (Zw (Gh a0) 0).bind fun (z5:(Unit ⊕ Unit))=>match z5 with | .inl z5=>some false | .inr z5=>some true
noncomputable def Zm7 (a0:Int):Option (Int×Bool) :=
 ((some (⟨[0,1,8,16,32,64],rfl⟩:(Arr Int 6)))).bind fun y6=>((some (⟨[0,0,0,0,0,0],rfl⟩:(Arr Int 6)))).bind fun y8=>cond (cond (decide (a0 < 0)) true (decide (6≤a0))) (some (0,false)) ((Xr y6.1 a0).bind fun x12=>some (x12,true))
noncomputable def Zjq (a0:Int) (a1:Int):Option Bool :=
 (Zm7 a0).bind fun y2=>(cond y2.2 ((Zmy (0≤y2.1)).bind fun u6=>some (cond y2.2 ((Int.fdiv a1 (2 ^ min (Int.toNat y2.1) 64)) == 0) false)) (some false)).bind fun (z4:Bool)=>some z4
noncomputable def Zhr (Qd:(Zb→Option Bool)) (Qb:(Zb→Int→Option Bool)) (Xi:((List Zb)→Int→Option Bool)) (Xv:((List Zb)→Int→Option Bool)) (a0:Zb):Option Bool :=
 cond (a0.Kind == 10) (some (cond ((a0.Words.length:Int) == 1) ((a0.Kids.length:Int) == 0) false)) ((Qb a0 64).bind fun y2=>some y2)
noncomputable def Zhs (Qd:(Zb→Option Bool)) (Qb:(Zb→Int→Option Bool)) (Xi:((List Zb)→Int→Option Bool)) (Xv:((List Zb)→Int→Option Bool)) (a0:Zb) (a1:Int):Option Bool :=
 cond (a0.Kind == 0) (some (cond ((a0.Words.length:Int) == 0) ((a0.Kids.length:Int) == 0) false)) (cond (a1 == 0) (some false) (cond (a0.Kind == 1) ((cond (decide ((a0.Words.length:Int) < 65536)) (cond (decide ((a0.Kids.length:Int) < 65536)) ((Xi a0.Kids (IntKind.i64.wrap (a1 - 1))).bind fun y4=>some (cond (cond (decide ((a0.Words.length:Int) < 65536)) (decide ((a0.Kids.length:Int) < 65536)) false) y4 false)) (some false)) (some false)).bind fun (z2:Bool)=>some z2) ((Ze1 a0.Kind).bind fun y8=>cond (cond (cond (!y8) true (decide (0 < (a0.Words.length:Int)))) true (decide (1048576≤(a0.Kids.length:Int)))) (some false) (cond (a0.Kind == 8) ((Xi a0.Kids (IntKind.i64.wrap (a1 - 1))).bind fun y10=>some y10) (cond (a0.Kind == 9) (((Zbt a0.Kids).bind fun y16=>cond y16 ((Xi a0.Kids (IntKind.i64.wrap (a1 - 1))).bind fun y17=>some (cond y16 y17 false)) (some false)).bind fun (z13:Bool)=>some z13) ((Xv a0.Kids (IntKind.i64.wrap (a0.Kind - 2))).bind fun y20=>some y20))))))
noncomputable def Zas (Qb:(Zb→Int→Option Bool)) (a0:(List Zb)) (a1:Int) (s0_:Int):Option (Int ⊕ (Unit ⊕ Unit)) :=
 cond (decide (s0_ < (a0.length:Int))) ((Xr a0 s0_).bind fun x2=>(Qb x2 a1).bind fun y4=>cond (!y4) (some (.inr (.inl ()))) (some (.inl (IntKind.i64.wrap (s0_+1))))) (some (.inr (.inr ())))
noncomputable def Zdc (Qd:(Zb→Option Bool)) (Qb:(Zb→Int→Option Bool)) (Xi:((List Zb)→Int→Option Bool)) (Xv:((List Zb)→Int→Option Bool)) (a0:(List Zb)) (a1:Int):Option Bool :=
 (Zw (Zas Qb a0 a1) 0).bind fun (z7:(Unit ⊕ Unit))=>match z7 with | .inl z7=>some false | .inr z7=>some true
noncomputable def Zar (Qd:(Zb→Option Bool)) (a0:(List Zb)) (a1:Int) (s0_:Int):Option (Int ⊕ (Unit ⊕ Unit)) :=
 cond (decide (s0_ < (a0.length:Int))) ((Xr a0 s0_).bind fun x2=>(cond (x2.Kind != 10) (some true) ((Qd x2).bind fun y10=>cond y10 ((Xr x2.Words 0).bind fun x11=>(Zjq a1 x11).bind fun y12=>some (cond (cond (x2.Kind != 10) true (!y10)) true (!y12))) (some true))).bind fun (z6:Bool)=>cond z6 (some (.inr (.inl ()))) (some (.inl (IntKind.i64.wrap (s0_+1))))) (some (.inr (.inr ())))
noncomputable def Zdb (Qd:(Zb→Option Bool)) (Qb:(Zb→Int→Option Bool)) (Xi:((List Zb)→Int→Option Bool)) (Xv:((List Zb)→Int→Option Bool)) (a0:(List Zb)) (a1:Int):Option Bool :=
 (Zw (Zar Qd a0 a1) 0).bind fun (z17:(Unit ⊕ Unit))=>match z17 with | .inl z17=>some false | .inr z17=>some true
noncomputable def Z4:Nat→((Zb→Option Bool)×(Zb→Int→Option Bool)×((List Zb)→Int→Option Bool)×((List Zb)→Int→Option Bool))
 | 0=>((fun _=>none),(fun _ _=>none),(fun _ _=>none),(fun _ _=>none))
 | k+1=>(Zhr ((Z4 k).1) ((Z4 k).2.1) ((Z4 k).2.2.1) ((Z4 k).2.2.2),Zhs ((Z4 k).1) ((Z4 k).2.1) ((Z4 k).2.2.1) ((Z4 k).2.2.2),Zdc ((Z4 k).1) ((Z4 k).2.1) ((Z4 k).2.2.1) ((Z4 k).2.2.2),Zdb ((Z4 k).1) ((Z4 k).2.1) ((Z4 k).2.2.1) ((Z4 k).2.2.2))
noncomputable def Zke (a0:Zb):Option Bool:=lim fun k=>(Z4 k).1 a0
noncomputable def Zf8 (a0:Zb):Option Bool :=
 (cond (a0.Kind != 10) ((Zke a0).bind fun y4=>some (cond (a0.Kind != 10) y4 false)) (some false)).bind fun (z2:Bool)=>some z2
noncomputable def Gf (a0:(List Zj)) (s0_:(Int×Int)):Option ((Int×Int) ⊕ (Unit ⊕ Unit)) :=
 cond (decide (s0_.2 < (a0.length:Int))) ((Xr a0 s0_.2).bind fun x2=>(Zaf x2.Mask).bind fun y4=>cond (cond (cond (cond (cond (decide (x2.At≤s0_.1)) true (decide (65534 < x2.At))) true (x2.Mask == 0)) true ((IntKind.u64.wrap (Zdg .u64 x2.Old (IntKind.u64.wrap (Zh2 .u64 (if IntKind.signed .u64=true then -1 else IntKind.max .u64) y4)))) != 0)) true ((IntKind.u64.wrap (Zdg .u64 x2.New (IntKind.u64.wrap (Zh2 .u64 (if IntKind.signed .u64=true then -1 else IntKind.max .u64) y4)))) != 0)) (some (.inr (.inl ()))) (some (.inl (x2.At,(IntKind.i64.wrap (s0_.2+1)))))) (some (.inr (.inr ())))
noncomputable def Zbs (a0:(List Zj)):Option Bool :=
 (Zw (Gf a0) ((-1),0)).bind fun (z7:(Unit ⊕ Unit))=>match z7 with | .inl z7=>some false | .inr z7=>some true
noncomputable def Zdj (a0:Int) (a1:Zc):Option Bool :=
 cond (a0 == 8) (some (a1.Kind != 0)) (cond (a0 == 9) (some (cond (a1.Kind == 2) true (cond (cond (a1.Kind == 1) (a1.Old.Kind == 1) false) (a1.New.Kind == 1) false))) (some false))
noncomputable def Zcd (a0:Zh):Option Int :=
 cond (a0.Kind == 0) (some (if 1048576 < (if a0.N < 0 then 0 else a0.N) then 1048576 else (if a0.N < 0 then 0 else a0.N))) ((cond (a0.Kind == 1) (some (a0.Kind == 1)) (some (a0.Kind == 2))).bind fun (z1:Bool)=>cond z1 (some (a0.L.length:Int)) (cond (a0.Kind == 3) (some 1) (some 0)))
noncomputable def Zbr (a0:Zc) (s0_:(Int×Int×Int)):Option ((Int×Int×Int) ⊕ (Int×Int)) :=
 cond (decide (s0_.2.2 < (a0.Ops.length:Int))) (((Xr a0.Ops s0_.2.2).bind fun x3=>(cond (x3.Kind != 2) ((Zcd x3).bind fun y5=>some (if 1048576 < (IntKind.i64.wrap (s0_.1+y5)) then 1048576 else (IntKind.i64.wrap (s0_.1+y5)))) (some s0_.1)).bind fun (z4:Int)=>cond (x3.Kind != 1) ((Zcd x3).bind fun y7=>some (z4,(if 1048576 < (IntKind.i64.wrap (s0_.2.1+y7)) then 1048576 else (IntKind.i64.wrap (s0_.2.1+y7))))) (some (z4,s0_.2.1))).bind fun (z1:(Int×Int))=>some (.inl (z1.1,z1.2,(IntKind.i64.wrap (s0_.2.2+1))))) (some (.inr (s0_.1,s0_.2.1)))
noncomputable def Ze0 (a0:Zc):Option (Int×Int) :=
 (Zw (Zbr a0) (0,0,0)).bind fun (z10:(Int×Int))=>some (z10.1,z10.2)
noncomputable def Zho (Y7:(Zc→Option Bool)) (Y0:(Zc→Int→Option Bool)) (Ye:((List Zd)→Int→Option Bool)) (Yo:(Zc→Int→Option Bool)) (Yp:(Int→Zh→Int→Option Bool)) (Yb:(Bool→Bool→Bool→Zh→Option Bool)) (a0:Zc):Option Bool :=
 (Y0 a0 64).bind fun y2=>some y2
noncomputable def Zhp (Y7:(Zc→Option Bool)) (Y0:(Zc→Int→Option Bool)) (Ye:((List Zd)→Int→Option Bool)) (Yo:(Zc→Int→Option Bool)) (Yp:(Int→Zh→Int→Option Bool)) (Yb:(Bool→Bool→Bool→Zh→Option Bool)) (a0:Zc) (a1:Int):Option Bool :=
 cond (a1 == 0) (some false) (cond (a0.Kind == 0) ((Gg true true true a0).bind fun y2=>some y2) (cond (a0.Kind == 1) (((Gg false true true a0).bind fun y10=>cond y10 ((Zf8 a0.Old).bind fun y11=>cond y11 ((Zf8 a0.New).bind fun y12=>some (cond (cond y10 y11 false) y12 false)) (some false)) (some false)).bind fun (z6:Bool)=>some z6) (cond (a0.Kind == 2) (((Gg true false true a0).bind fun y22=>cond y22 ((Zbs a0.Words).bind fun y23=>cond y23 ((Ye a0.Kids (IntKind.i64.wrap (a1 - 1))).bind fun y24=>some (cond (cond y22 y23 false) y24 false)) (some false)) (some false)).bind fun (z18:Bool)=>some z18) (cond (a0.Kind == 3) (((Gg true true false a0).bind fun y32=>cond y32 ((Yo a0 (IntKind.i64.wrap (a1 - 1))).bind fun y33=>some (cond y32 y33 false)) (some false)).bind fun (z29:Bool)=>some z29) (some false)))))
noncomputable def G5 (Y0:(Zc→Int→Option Bool)) (a0:(List Zd)) (a1:Int) (s0_:(Int×Int)):Option ((Int×Int) ⊕ (Unit ⊕ Unit)) :=
 cond (decide (s0_.2 < (a0.length:Int))) ((Xr a0 s0_.2).bind fun x2=>(cond (decide (x2.At≤s0_.1)) (some true) (cond (decide (65534 < x2.At)) (some true) (cond (x2.E.Kind == 0) (some true) ((Y0 x2.E a1).bind fun y6=>some (cond (cond (cond (decide (x2.At≤s0_.1)) true (decide (65534 < x2.At))) true (x2.E.Kind == 0)) true (!y6)))))).bind fun (z4:Bool)=>cond z4 (some (.inr (.inl ()))) (some (.inl (x2.At,(IntKind.i64.wrap (s0_.2+1)))))) (some (.inr (.inr ())))
noncomputable def Zb7 (Y7:(Zc→Option Bool)) (Y0:(Zc→Int→Option Bool)) (Ye:((List Zd)→Int→Option Bool)) (Yo:(Zc→Int→Option Bool)) (Yp:(Int→Zh→Int→Option Bool)) (Yb:(Bool→Bool→Bool→Zh→Option Bool)) (a0:(List Zd)) (a1:Int):Option Bool :=
 (Zw (G5 Y0 a0 a1) ((-1),0)).bind fun (z12:(Unit ⊕ Unit))=>match z12 with | .inl z12=>some false | .inr z12=>some true
noncomputable def Zan (Yp:(Int→Zh→Int→Option Bool)) (a0:Zc) (a1:Int) (s0_:Int):Option (Int ⊕ (Unit ⊕ Unit)) :=
 cond (decide (s0_ < (a0.Ops.length:Int))) ((Xr a0.Ops s0_).bind fun x4=>(Yp a0.List_ x4 a1).bind fun y6=>cond (!y6) (some (.inr (.inl ()))) (some (.inl (IntKind.i64.wrap (s0_+1))))) (some (.inr (.inr ())))
noncomputable def Zc9 (Y7:(Zc→Option Bool)) (Y0:(Zc→Int→Option Bool)) (Ye:((List Zd)→Int→Option Bool)) (Yo:(Zc→Int→Option Bool)) (Yp:(Int→Zh→Int→Option Bool)) (Yb:(Bool→Bool→Bool→Zh→Option Bool)) (a0:Zc) (a1:Int):Option Bool :=
 (Ze1 a0.List_).bind fun y2=>cond (!y2) (some false) ((Zw (Zan Yp a0 a1) 0).bind fun (z9:(Unit ⊕ Unit))=>match z9 with | .inl z9=>some false | .inr z9=>(Ze0 a0).bind fun y11=>some (cond (decide (y11.1 < 1048576)) (decide (y11.2 < 1048576)) false))
noncomputable def Zep (Y7:(Zc→Option Bool)) (Y0:(Zc→Int→Option Bool)) (Ye:((List Zd)→Int→Option Bool)) (Yo:(Zc→Int→Option Bool)) (Yp:(Int→Zh→Int→Option Bool)) (Yb:(Bool→Bool→Bool→Zh→Option Bool)) (a0:Int) (a1:Zh) (a2:Int):Option Bool :=
 (cond (a1.Kind == 0) ((Yb false true true a1).bind fun y3=>some (.inr (.inl (cond (cond y3 (decide (1≤a1.N)) false) (decide (a1.N≤1048576)) false)))) (cond (a1.Kind == 1) (some (.inl ())) (cond (a1.Kind == 2) (some (.inl ())) (cond (a1.Kind == 3) (some (.inr (.inr (.inl ())))) (some (.inr (.inr (.inr ())))))))).bind fun (z1:(Unit ⊕ (Bool ⊕ (Unit ⊕ Unit))))=>match z1 with | .inl z1=>((Yb true false true a1).bind fun y13=>cond y13 (cond (decide (0 < (a1.L.length:Int))) ((Zke (⟨a0,[],a1.L⟩:Zb)).bind fun y14=>some (cond (cond y13 (decide (0 < (a1.L.length:Int))) false) y14 false)) (some false)) (some false)).bind fun (z10:Bool)=>some z10 | .inr z1=>match z1 with | .inl z1=>some z1 | .inr z1=>match z1 with | .inl z1=>((Yb true true false a1).bind fun y24=>cond y24 ((Zdj a0 a1.E).bind fun y25=>cond y25 ((Y0 a1.E a2).bind fun y26=>some (cond (cond y24 y25 false) y26 false)) (some false)) (some false)).bind fun (z20:Bool)=>some z20 | .inr z1=>some false
noncomputable def Zb8 (Y7:(Zc→Option Bool)) (Y0:(Zc→Int→Option Bool)) (Ye:((List Zd)→Int→Option Bool)) (Yo:(Zc→Int→Option Bool)) (Yp:(Int→Zh→Int→Option Bool)) (Yb:(Bool→Bool→Bool→Zh→Option Bool)) (a0:Bool) (a1:Bool) (a2:Bool) (a3:Zh):Option Bool :=
 (cond a0 (cond (a3.N != 0) (some false) (cond a1 (cond (decide (0 < (a3.L.length:Int))) (some false) (cond a2 (cond (a3.E.Kind != 0) (some (cond (cond (!(cond a0 (a3.N != 0) false)) (!(cond a1 (decide (0 < (a3.L.length:Int))) false)) false) (!(cond a2 true false)) false)) ((Y7 a3.E).bind fun y10=>some (cond (cond (!(cond a0 (a3.N != 0) false)) (!(cond a1 (decide (0 < (a3.L.length:Int))) false)) false) (!(cond a2 (cond (a3.E.Kind != 0) true (!y10)) false)) false))) (some (cond (cond (!(cond a0 (a3.N != 0) false)) (!(cond a1 (decide (0 < (a3.L.length:Int))) false)) false) true false)))) (cond a2 (cond (a3.E.Kind != 0) (some (cond (cond (!(cond a0 (a3.N != 0) false)) (!(cond a1 (decide (0 < (a3.L.length:Int))) false)) false) (!(cond a2 true false)) false)) ((Y7 a3.E).bind fun y11=>some (cond (cond (!(cond a0 (a3.N != 0) false)) (!(cond a1 (decide (0 < (a3.L.length:Int))) false)) false) (!(cond a2 (cond (a3.E.Kind != 0) true (!y11)) false)) false))) (some (cond (cond (!(cond a0 (a3.N != 0) false)) (!(cond a1 (decide (0 < (a3.L.length:Int))) false)) false) true false))))) (cond a1 (cond (decide (0 < (a3.L.length:Int))) (some false) (cond a2 (cond (a3.E.Kind != 0) (some (cond (cond (!(cond a0 (a3.N != 0) false)) (!(cond a1 (decide (0 < (a3.L.length:Int))) false)) false) (!(cond a2 true false)) false)) ((Y7 a3.E).bind fun y12=>some (cond (cond (!(cond a0 (a3.N != 0) false)) (!(cond a1 (decide (0 < (a3.L.length:Int))) false)) false) (!(cond a2 (cond (a3.E.Kind != 0) true (!y12)) false)) false))) (some (cond (cond (!(cond a0 (a3.N != 0) false)) (!(cond a1 (decide (0 < (a3.L.length:Int))) false)) false) true false)))) (cond a2 (cond (a3.E.Kind != 0) (some (cond (cond (!(cond a0 (a3.N != 0) false)) (!(cond a1 (decide (0 < (a3.L.length:Int))) false)) false) (!(cond a2 true false)) false)) ((Y7 a3.E).bind fun y13=>some (cond (cond (!(cond a0 (a3.N != 0) false)) (!(cond a1 (decide (0 < (a3.L.length:Int))) false)) false) (!(cond a2 (cond (a3.E.Kind != 0) true (!y13)) false)) false))) (some (cond (cond (!(cond a0 (a3.N != 0) false)) (!(cond a1 (decide (0 < (a3.L.length:Int))) false)) false) true false))))).bind fun (z5:Bool)=>some z5
noncomputable def Zp:Nat→((Zc→Option Bool)×(Zc→Int→Option Bool)×((List Zd)→Int→Option Bool)×(Zc→Int→Option Bool)×(Int→Zh→Int→Option Bool)×(Bool→Bool→Bool→Zh→Option Bool))
 | 0=>((fun _=>none),(fun _ _=>none),(fun _ _=>none),(fun _ _=>none),(fun _ _ _=>none),(fun _ _ _ _=>none))
 | k+1=>(Zho ((Zp k).1) ((Zp k).2.1) ((Zp k).2.2.1) ((Zp k).2.2.2.1) ((Zp k).2.2.2.2.1) ((Zp k).2.2.2.2.2),Zhp ((Zp k).1) ((Zp k).2.1) ((Zp k).2.2.1) ((Zp k).2.2.2.1) ((Zp k).2.2.2.2.1) ((Zp k).2.2.2.2.2),Zb7 ((Zp k).1) ((Zp k).2.1) ((Zp k).2.2.1) ((Zp k).2.2.2.1) ((Zp k).2.2.2.2.1) ((Zp k).2.2.2.2.2),Zc9 ((Zp k).1) ((Zp k).2.1) ((Zp k).2.2.1) ((Zp k).2.2.2.1) ((Zp k).2.2.2.2.1) ((Zp k).2.2.2.2.2),Zep ((Zp k).1) ((Zp k).2.1) ((Zp k).2.2.1) ((Zp k).2.2.2.1) ((Zp k).2.2.2.2.1) ((Zp k).2.2.2.2.2),Zb8 ((Zp k).1) ((Zp k).2.1) ((Zp k).2.2.1) ((Zp k).2.2.2.1) ((Zp k).2.2.2.2.1) ((Zp k).2.2.2.2.2))
noncomputable def Zm5 (a0:Zc):Option Bool:=lim fun k=>(Zp k).1 a0
noncomputable def Zcc (a0:Zb):Option Bool :=
 (Q0 a0 80 3000).bind fun y2=>some (decide (0≤y2))
noncomputable def Gl (a0:Zb):Option Bool :=
 ((Zcc a0).bind fun y6=>cond y6 ((U0 a0 64).bind fun y7=>some (cond (cond y6 y7 false) (a0.Kind != 10) false)) (some false)).bind fun (z3:Bool)=>some z3
noncomputable def U8 (a0:Zc) (a1:Zc):Option Bool :=
 ((Gn a0).bind fun y6=>cond y6 ((Gn a1).bind fun y7=>some (cond (!y6) true (!y7))) (some true)).bind fun (z3:Bool)=>cond z3 ((Js).bind fun y10=>some y10) ((V6 a0 a1).bind fun y12=>cond (!y12.2) ((Js).bind fun y14=>some y14) ((Zkw y12.1).bind fun y16=>((Zm5 y12.1).bind fun y22=>cond y22 ((Gl y16).bind fun y23=>some (cond (!y22) true (!y23))) (some true)).bind fun (z19:Bool)=>cond z19 ((Js).bind fun y26=>some y26) ((Qa a0 y16).bind fun y28=>(cond y28.2 ((Gl y28.1).bind fun y32=>some (cond y28.2 (!y32) false)) (some false)).bind fun (z30:Bool)=>cond z30 ((Js).bind fun y35=>some y35) ((Qa a1 y28.1).bind fun y37=>(Qa y12.1 y16).bind fun y39=>(cond y28.2 (cond y37.2 (cond y39.2 ((Js).bind fun y43=>some (cond (cond (cond y28.2 y37.2 false) y39.2 false) y43 false)) (some false)) (some false)) (some false)).bind fun (z41:Bool)=>some z41))))
mutual
def Zbz:Zb→List G
 | ⟨f0,f1,f2⟩=>[.val (.int .i64 f0),.sl f1.length (fl (eI .u64) f1),.sl f2.length (Zb0 f2)]
def Zb0:List Zb→List G
 | []=>[]
 | x::xs=>Zbz x++Zb0 xs
end
theorem Zmc:∀ xs,Zb0 xs=fl Zbz xs
 | []=>by simp [Zb0,fl]
 | x::xs=>by rw [Zb0,Zbo,Zmc xs]
def Za (x:Zb):List G:=[.val (.int .i64 x.Kind),.sl x.Words.length (fl (eI .u64) x.Words),.sl x.Kids.length (fl Zbz x.Kids)]
theorem Y1:Zbz=Za:=by
 funext x
 obtain ⟨_,_,_⟩:=x
 simp only [Zbz,Zmc,Za,List.cons_append,List.nil_append,List.append_nil]
mutual
theorem Zk8:∀ x,G.pures (Zbz x)=true
 | ⟨f0,f1,f2⟩=>by simp [Zbz,eP,Vw,eI,eB,eS,eL,G.pures,G.pure,Zdy,Yj,Znw f2]
theorem Znw:∀ xs,G.pures (Zb0 xs)=true
 | []=>rfl
 | x::xs=>by simp [Zb0,Zdy,Zk8 x,Znw xs]
end
theorem Zk9:∀ x,G.pures (Za x)=true:=fun x=>by rw [← Y1];exact Zk8 x
theorem K6:∀ x,G.pures ((eI .u64) x)=true:=fun x=>by simp [eI,eB,eS,eL,eP,G.pures,G.pure,Yj,Vw,Y1]
theorem Zr0 {O O':Objs} {n:Nat} (xs:List Int):wkl O O' n (fl (eI .u64) xs) (fl (eI .u64) xs):=Zfy (Yj K6 xs)
theorem Zry {O O':Objs} {n:Nat} (xs:List Int) (b b':List G):wkl O O' n (fl (eI .u64) xs++b) (fl (eI .u64) xs++b')=wkl O O' n b b':=Zdt b b' _ (Yj K6 xs)
theorem Zq0 (xs:List Int):(fl (eI .u64) xs).length=xs.length * 1:=Kl (f:=(eI .u64)) (k:=1) (fun _=>rfl) xs
theorem Zrb (xs:List Int):(fl (eI .u64) xs).all G.one=true:=Gw (fun x=>by simp [eI,eB,eS,eL,eP,Zia,G.one,Value.oneCell']) xs
theorem Zr2 {O O':Objs} {n:Nat} (x:Option Int):wk O O' n (gP (eI .u64) x) (gP (eI .u64) x)=True:=Zpf K6 x
theorem Zpe {k:Nat} (x:Option Int):(gP (eI .u64) x).under k=true:=Zds K6 k x
theorem Zo4 {ρ:Nat→Nat} (xs:List Int):G.rens ρ (fl (eI .u64) xs)=fl (eI .u64) xs:=Vt ρ _ (Yj K6 xs)
theorem Zo2 {ρ:Nat→Nat} (x:Option Int):(gP (eI .u64) x).ren ρ=gP (eI .u64) x:=Zcf ρ _ (Vw K6 x)
theorem Zrv {k:Nat} (xs:List Int):G.unders k (fl (eI .u64) xs)=true:=Qp _ _ (Yj K6 xs)
theorem Xu:∀ x,G.pures (Za x)=true:=fun x=>by rw [← Y1];exact Zk8 x
theorem Zja {O O':Objs} {n:Nat} (xs:List Zb):wkl O O' n (fl Za xs) (fl Za xs):=Zfy (Yj Xu xs)
theorem Zi9 {O O':Objs} {n:Nat} (xs:List Zb) (b b':List G):wkl O O' n (fl Za xs++b) (fl Za xs++b')=wkl O O' n b b':=Zdt b b' _ (Yj Xu xs)
theorem Ziv (xs:List Zb):(fl Za xs).length=xs.length * 3:=Kl (f:=Za) (k:=3) (fun _=>rfl) xs
theorem Zi1 (xs:List Zb):(fl Za xs).all G.one=true:=Gw (fun x=>by simp [eI,eB,eS,eL,eP,Zia,G.one,Value.oneCell',Za]) xs
theorem Zjb {O O':Objs} {n:Nat} (x:Option Zb):wk O O' n (gP Za x) (gP Za x)=True:=Zpf Xu x
theorem Zii {k:Nat} (x:Option Zb):(gP Za x).under k=true:=Zds Xu k x
theorem Zie {ρ:Nat→Nat} (xs:List Zb):G.rens ρ (fl Za xs)=fl Za xs:=Vt ρ _ (Yj Xu xs)
theorem Zid {ρ:Nat→Nat} (x:Option Zb):(gP Za x).ren ρ=gP Za x:=Zcf ρ _ (Vw Xu x)
theorem Zi7 {k:Nat} (xs:List Zb):G.unders k (fl Za xs)=true:=Qp _ _ (Yj Xu xs)
def Zg (x:Zj):List G:=[.val (.int .i64 x.At),.val (.int .u8 x.Mask),.val (.int .u64 x.Old),.val (.int .u64 x.New)]
mutual
def V1:Zc→List G
 | ⟨f0,f1,f2,f3,f4,f5,f6⟩=>[.val (.int .i64 f0),.val (.int .i64 f1.Kind),.sl f1.Words.length (fl (eI .u64) f1.Words),.sl f1.Kids.length (fl Za f1.Kids),.val (.int .i64 f2.Kind),.sl f2.Words.length (fl (eI .u64) f2.Words),.sl f2.Kids.length (fl Za f2.Kids),.sl f3.length (fl Zg f3),.sl f4.length (Uy f4),.val (.int .i64 f5),.sl f6.length (Zer f6)]
def Zdv:List Zc→List G
 | []=>[]
 | x::xs=>V1 x++Zdv xs
def Ge:Zh→List G
 | ⟨f0,f1,f2,f3⟩=>[.val (.int .i64 f0),.val (.int .i64 f1),.sl f2.length (fl Za f2)]++V1 f3
def Zer:List Zh→List G
 | []=>[]
 | x::xs=>Ge x++Zer xs
def Q9:Zd→List G
 | ⟨f0,f1⟩=>[.val (.int .i64 f0)]++V1 f1
def Uy:List Zd→List G
 | []=>[]
 | x::xs=>Q9 x++Uy xs
end
theorem Zf6:∀ xs,Zdv xs=fl V1 xs
 | []=>by simp [Zdv,fl]
 | x::xs=>by rw [Zdv,Zbo,Zf6 xs]
theorem Zhv:∀ xs,Zer xs=fl Ge xs
 | []=>by simp [Zer,fl]
 | x::xs=>by rw [Zer,Zbo,Zhv xs]
theorem Zb3:∀ xs,Uy xs=fl Q9 xs
 | []=>by simp [Uy,fl]
 | x::xs=>by rw [Uy,Zbo,Zb3 xs]
def Jq (x:Zc):List G:=[.val (.int .i64 x.Kind),.val (.int .i64 x.Old.Kind),.sl x.Old.Words.length (fl (eI .u64) x.Old.Words),.sl x.Old.Kids.length (fl Za x.Old.Kids),.val (.int .i64 x.New.Kind),.sl x.New.Words.length (fl (eI .u64) x.New.Words),.sl x.New.Kids.length (fl Za x.New.Kids),.sl x.Words.length (fl Zg x.Words),.sl x.Kids.length (fl Q9 x.Kids),.val (.int .i64 x.List_),.sl x.Ops.length (fl Ge x.Ops)]
def Zf (x:Zh):List G:=[.val (.int .i64 x.Kind),.val (.int .i64 x.N),.sl x.L.length (fl Za x.L),.val (.int .i64 x.E.Kind),.val (.int .i64 x.E.Old.Kind),.sl x.E.Old.Words.length (fl (eI .u64) x.E.Old.Words),.sl x.E.Old.Kids.length (fl Za x.E.Old.Kids),.val (.int .i64 x.E.New.Kind),.sl x.E.New.Words.length (fl (eI .u64) x.E.New.Words),.sl x.E.New.Kids.length (fl Za x.E.New.Kids),.sl x.E.Words.length (fl Zg x.E.Words),.sl x.E.Kids.length (fl Q9 x.E.Kids),.val (.int .i64 x.E.List_),.sl x.E.Ops.length (fl Ge x.E.Ops)]
def Zi (x:Zd):List G:=[.val (.int .i64 x.At),.val (.int .i64 x.E.Kind),.val (.int .i64 x.E.Old.Kind),.sl x.E.Old.Words.length (fl (eI .u64) x.E.Old.Words),.sl x.E.Old.Kids.length (fl Za x.E.Old.Kids),.val (.int .i64 x.E.New.Kind),.sl x.E.New.Words.length (fl (eI .u64) x.E.New.Words),.sl x.E.New.Kids.length (fl Za x.E.New.Kids),.sl x.E.Words.length (fl Zg x.E.Words),.sl x.E.Kids.length (fl Q9 x.E.Kids),.val (.int .i64 x.E.List_),.sl x.E.Ops.length (fl Ge x.E.Ops)]
theorem X5:V1=Jq:=by
 funext x
 obtain ⟨_,_,_,_,_,_,_⟩:=x
 simp only [V1,Zf6,Ge,Zhv,Q9,Zb3,Jq,List.cons_append,List.nil_append,List.append_nil]
theorem Qg:Ge=Zf:=by
 funext x
 obtain ⟨_,_,_,⟨_,_,_,_,_,_,_⟩⟩:=x
 simp only [V1,Zf6,Ge,Zhv,Q9,Zb3,Zf,List.cons_append,List.nil_append,List.append_nil]
theorem Xb:Q9=Zi:=by
 funext x
 obtain ⟨_,⟨_,_,_,_,_,_,_⟩⟩:=x
 simp only [V1,Zf6,Ge,Zhv,Q9,Zb3,Zi,List.cons_append,List.nil_append,List.append_nil]
mutual
theorem Zk7:∀ x,G.pures (V1 x)=true
 | ⟨f0,f1,f2,f3,f4,f5,f6⟩=>by simp [V1,eP,Vw,eI,eB,eS,eL,G.pures,G.pure,Zdy,Yj,Zla f4,Zqe f6,K6,Xu,Zk9,Zg]
theorem Zvt:∀ xs,G.pures (Zdv xs)=true
 | []=>rfl
 | x::xs=>by simp [Zdv,Zdy,Zk7 x,Zvt xs]
theorem Zs0:∀ x,G.pures (Ge x)=true
 | ⟨f0,f1,f2,f3⟩=>by simp [Ge,eP,Vw,eI,eB,eS,eL,G.pures,G.pure,Zdy,Yj,Zk7 f3,K6,Xu,Zk9,Zg]
theorem Zqe:∀ xs,G.pures (Zer xs)=true
 | []=>rfl
 | x::xs=>by simp [Zer,Zdy,Zs0 x,Zqe xs]
theorem Zlx:∀ x,G.pures (Q9 x)=true
 | ⟨f0,f1⟩=>by simp [Q9,eP,Vw,eI,eB,eS,eL,G.pures,G.pure,Zdy,Yj,Zk7 f1,K6,Xu,Zk9,Zg]
theorem Zla:∀ xs,G.pures (Uy xs)=true
 | []=>rfl
 | x::xs=>by simp [Uy,Zdy,Zlx x,Zla xs]
end
theorem Xq:∀ x,G.pures (Zg x)=true:=fun x=>by simp [eI,eB,eS,eL,eP,G.pures,G.pure,Yj,Vw,Zg,K6,Xu,Y1,X5,Qg,Xb]
theorem Zfw {O O':Objs} {n:Nat} (xs:List Zj):wkl O O' n (fl Zg xs) (fl Zg xs):=Zfy (Yj Xq xs)
theorem Zft {O O':Objs} {n:Nat} (xs:List Zj) (b b':List G):wkl O O' n (fl Zg xs++b) (fl Zg xs++b')=wkl O O' n b b':=Zdt b b' _ (Yj Xq xs)
theorem Zev (xs:List Zj):(fl Zg xs).length=xs.length * 4:=Kl (f:=Zg) (k:=4) (fun _=>rfl) xs
theorem Zfb (xs:List Zj):(fl Zg xs).all G.one=true:=Gw (fun x=>by simp [eI,eB,eS,eL,eP,Zia,G.one,Value.oneCell',Zg]) xs
theorem Zf1 {O O':Objs} {n:Nat} (x:Option Zj):wk O O' n (gP Zg x) (gP Zg x)=True:=Zpf Xq x
theorem Zee {k:Nat} (x:Option Zj):(gP Zg x).under k=true:=Zds Xq k x
theorem Zea {ρ:Nat→Nat} (xs:List Zj):G.rens ρ (fl Zg xs)=fl Zg xs:=Vt ρ _ (Yj Xq xs)
theorem Zd7 {ρ:Nat→Nat} (x:Option Zj):(gP Zg x).ren ρ=gP Zg x:=Zcf ρ _ (Vw Xq x)
theorem Zfo {k:Nat} (xs:List Zj):G.unders k (fl Zg xs)=true:=Qp _ _ (Yj Xq xs)
theorem X7:∀ x,G.pures (Zi x)=true:=fun x=>by rw [← Xb];exact Zlx x
theorem Zgk {O O':Objs} {n:Nat} (xs:List Zd):wkl O O' n (fl Zi xs) (fl Zi xs):=Zfy (Yj X7 xs)
theorem Zgi {O O':Objs} {n:Nat} (xs:List Zd) (b b':List G):wkl O O' n (fl Zi xs++b) (fl Zi xs++b')=wkl O O' n b b':=Zdt b b' _ (Yj X7 xs)
theorem Zgb (xs:List Zd):(fl Zi xs).length=xs.length * 12:=Kl (f:=Zi) (k:=12) (fun _=>rfl) xs
theorem Zge (xs:List Zd):(fl Zi xs).all G.one=true:=Gw (fun x=>by simp [eI,eB,eS,eL,eP,Zia,G.one,Value.oneCell',Zi]) xs
theorem Zgm {O O':Objs} {n:Nat} (x:Option Zd):wk O O' n (gP Zi x) (gP Zi x)=True:=Zpf X7 x
theorem Zfr {k:Nat} (x:Option Zd):(gP Zi x).under k=true:=Zds X7 k x
theorem Zfj {ρ:Nat→Nat} (xs:List Zd):G.rens ρ (fl Zi xs)=fl Zi xs:=Vt ρ _ (Yj X7 xs)
theorem Zfh {ρ:Nat→Nat} (x:Option Zd):(gP Zi x).ren ρ=gP Zi x:=Zcf ρ _ (Vw X7 x)
theorem Zgg {k:Nat} (xs:List Zd):G.unders k (fl Zi xs)=true:=Qp _ _ (Yj X7 xs)
theorem Jx:∀ x,G.pures (Zf x)=true:=fun x=>by rw [← Qg];exact Zs0 x
theorem Zlj {O O':Objs} {n:Nat} (xs:List Zh):wkl O O' n (fl Zf xs) (fl Zf xs):=Zfy (Yj Jx xs)
theorem Zli {O O':Objs} {n:Nat} (xs:List Zh) (b b':List G):wkl O O' n (fl Zf xs++b) (fl Zf xs++b')=wkl O O' n b b':=Zdt b b' _ (Yj Jx xs)
theorem Zkv (xs:List Zh):(fl Zf xs).length=xs.length * 14:=Kl (f:=Zf) (k:=14) (fun _=>rfl) xs
theorem Zk5 (xs:List Zh):(fl Zf xs).all G.one=true:=Gw (fun x=>by simp [eI,eB,eS,eL,eP,Zia,G.one,Value.oneCell',Zf]) xs
theorem Zlk {O O':Objs} {n:Nat} (x:Option Zh):wk O O' n (gP Zf x) (gP Zf x)=True:=Zpf Jx x
theorem Zj8 {k:Nat} (x:Option Zh):(gP Zf x).under k=true:=Zds Jx k x
theorem Zj4 {ρ:Nat→Nat} (xs:List Zh):G.rens ρ (fl Zf xs)=fl Zf xs:=Vt ρ _ (Yj Jx xs)
theorem Zj3 {ρ:Nat→Nat} (x:Option Zh):(gP Zf x).ren ρ=gP Zf x:=Zcf ρ _ (Vw Jx x)
theorem Zlh {k:Nat} (xs:List Zh):G.unders k (fl Zf xs)=true:=Qp _ _ (Yj Jx xs)
theorem Zdr:∀ x,G.pures ((eI .u8) x)=true:=fun x=>by simp [eI,eB,eS,eL,eP,G.pures,G.pure,Yj,Vw,K6,Xu,Xq,X7,Jx,Y1,X5,Qg,Xb]
theorem Zu6 {O O':Objs} {n:Nat} (xs:List Int):wkl O O' n (fl (eI .u8) xs) (fl (eI .u8) xs):=Zfy (Yj Zdr xs)
theorem Zu5 {O O':Objs} {n:Nat} (xs:List Int) (b b':List G):wkl O O' n (fl (eI .u8) xs++b) (fl (eI .u8) xs++b')=wkl O O' n b b':=Zdt b b' _ (Yj Zdr xs)
theorem Zt0 (xs:List Int):(fl (eI .u8) xs).length=xs.length * 1:=Kl (f:=(eI .u8)) (k:=1) (fun _=>rfl) xs
theorem Zuf (xs:List Int):(fl (eI .u8) xs).all G.one=true:=Gw (fun x=>by simp [eI,eB,eS,eL,eP,Zia,G.one,Value.oneCell']) xs
theorem Zu7 {O O':Objs} {n:Nat} (x:Option Int):wk O O' n (gP (eI .u8) x) (gP (eI .u8) x)=True:=Zpf Zdr x
theorem Zrw {k:Nat} (x:Option Int):(gP (eI .u8) x).under k=true:=Zds Zdr k x
theorem Zrk {ρ:Nat→Nat} (xs:List Int):G.rens ρ (fl (eI .u8) xs)=fl (eI .u8) xs:=Vt ρ _ (Yj Zdr xs)
theorem Zrj {ρ:Nat→Nat} (x:Option Int):(gP (eI .u8) x).ren ρ=gP (eI .u8) x:=Zcf ρ _ (Vw Zdr x)
theorem Zuz {k:Nat} (xs:List Int):G.unders k (fl (eI .u8) xs)=true:=Qp _ _ (Yj Zdr xs)
def Y3 (x:Zl):List G:=[.sl x.left.length (fl Za x.left),.sl x.out.length (fl Za x.out)]
theorem Qh:∀ x,G.pures (Y3 x)=true:=fun x=>by simp [eI,eB,eS,eL,eP,G.pures,G.pure,Yj,Vw,Y3,K6,Xu,Xq,X7,Jx,Zdr,Y1,X5,Qg,Xb]
theorem Zfx {O O':Objs} {n:Nat} (xs:List Zl):wkl O O' n (fl Y3 xs) (fl Y3 xs):=Zfy (Yj Qh xs)
theorem Zfu {O O':Objs} {n:Nat} (xs:List Zl) (b b':List G):wkl O O' n (fl Y3 xs++b) (fl Y3 xs++b')=wkl O O' n b b':=Zdt b b' _ (Yj Qh xs)
theorem Zew (xs:List Zl):(fl Y3 xs).length=xs.length * 2:=Kl (f:=Y3) (k:=2) (fun _=>rfl) xs
theorem Zfc (xs:List Zl):(fl Y3 xs).all G.one=true:=Gw (fun x=>by simp [eI,eB,eS,eL,eP,Zia,G.one,Value.oneCell',Y3]) xs
theorem Zf2 {O O':Objs} {n:Nat} (x:Option Zl):wk O O' n (gP Y3 x) (gP Y3 x)=True:=Zpf Qh x
theorem Zef {k:Nat} (x:Option Zl):(gP Y3 x).under k=true:=Zds Qh k x
theorem Zeb {ρ:Nat→Nat} (xs:List Zl):G.rens ρ (fl Y3 xs)=fl Y3 xs:=Vt ρ _ (Yj Qh xs)
theorem Zd8 {ρ:Nat→Nat} (x:Option Zl):(gP Y3 x).ren ρ=gP Y3 x:=Zcf ρ _ (Vw Qh x)
theorem Zfp {k:Nat} (xs:List Zl):G.unders k (fl Y3 xs)=true:=Qp _ _ (Yj Qh xs)
def Yv (x:Zz):List G:=[.sl x.out.length (fl Zf x.out),.val (.int .i64 x.kept),.sl x.gone.length (fl Za x.gone),.sl x.come.length (fl Za x.come)]
theorem Qk:∀ x,G.pures (Yv x)=true:=fun x=>by simp [eI,eB,eS,eL,eP,G.pures,G.pure,Yj,Vw,Yv,K6,Xu,Xq,X7,Jx,Zdr,Qh,Y1,X5,Qg,Xb]
theorem Zeh {O O':Objs} {n:Nat} (xs:List Zz):wkl O O' n (fl Yv xs) (fl Yv xs):=Zfy (Yj Qk xs)
theorem Zeg {O O':Objs} {n:Nat} (xs:List Zz) (b b':List G):wkl O O' n (fl Yv xs++b) (fl Yv xs++b')=wkl O O' n b b':=Zdt b b' _ (Yj Qk xs)
theorem Zd0 (xs:List Zz):(fl Yv xs).length=xs.length * 4:=Kl (f:=Yv) (k:=4) (fun _=>rfl) xs
theorem Zd5 (xs:List Zz):(fl Yv xs).all G.one=true:=Gw (fun x=>by simp [eI,eB,eS,eL,eP,Zia,G.one,Value.oneCell',Yv]) xs
theorem Zei {O O':Objs} {n:Nat} (x:Option Zz):wk O O' n (gP Yv x) (gP Yv x)=True:=Zpf Qk x
theorem Zc4 {k:Nat} (x:Option Zz):(gP Yv x).under k=true:=Zds Qk k x
theorem Zc3 {ρ:Nat→Nat} (xs:List Zz):G.rens ρ (fl Yv xs)=fl Yv xs:=Vt ρ _ (Yj Qk xs)
theorem Zc2 {ρ:Nat→Nat} (x:Option Zz):(gP Yv x).ren ρ=gP Yv x:=Zcf ρ _ (Vw Qk x)
theorem Zec {k:Nat} (xs:List Zz):G.unders k (fl Yv xs)=true:=Qp _ _ (Yj Qk xs)
def Y2 (x:Xc):List G:=[.sl x.left.length (fl Zf x.left),.val (.int .i64 x.gone)]
theorem Q6:∀ x,G.pures (Y2 x)=true:=fun x=>by simp [eI,eB,eS,eL,eP,G.pures,G.pure,Yj,Vw,Y2,K6,Xu,Xq,X7,Jx,Zdr,Qh,Qk,Y1,X5,Qg,Xb]
theorem Zfv {O O':Objs} {n:Nat} (xs:List Xc):wkl O O' n (fl Y2 xs) (fl Y2 xs):=Zfy (Yj Q6 xs)
theorem Zfs {O O':Objs} {n:Nat} (xs:List Xc) (b b':List G):wkl O O' n (fl Y2 xs++b) (fl Y2 xs++b')=wkl O O' n b b':=Zdt b b' _ (Yj Q6 xs)
theorem Zeu (xs:List Xc):(fl Y2 xs).length=xs.length * 2:=Kl (f:=Y2) (k:=2) (fun _=>rfl) xs
theorem Zfa (xs:List Xc):(fl Y2 xs).all G.one=true:=Gw (fun x=>by simp [eI,eB,eS,eL,eP,Zia,G.one,Value.oneCell',Y2]) xs
theorem Zf0 {O O':Objs} {n:Nat} (x:Option Xc):wk O O' n (gP Y2 x) (gP Y2 x)=True:=Zpf Q6 x
theorem Zed {k:Nat} (x:Option Xc):(gP Y2 x).under k=true:=Zds Q6 k x
theorem Zd9 {ρ:Nat→Nat} (xs:List Xc):G.rens ρ (fl Y2 xs)=fl Y2 xs:=Vt ρ _ (Yj Q6 xs)
theorem Zd6 {ρ:Nat→Nat} (x:Option Xc):(gP Y2 x).ren ρ=gP Y2 x:=Zcf ρ _ (Vw Q6 x)
theorem Zfn {k:Nat} (xs:List Xc):G.unders k (fl Y2 xs)=true:=Qp _ _ (Yj Q6 xs)
def Z6 (x:Zy):List G:=[.val (.int .i64 x.Of),.val (.int .i64 x.P.Kind),.val (.int .i64 x.P.N),.sl x.P.L.length (fl Za x.P.L),.val (.int .i64 x.P.E.Kind),.val (.int .i64 x.P.E.Old.Kind),.sl x.P.E.Old.Words.length (fl (eI .u64) x.P.E.Old.Words),.sl x.P.E.Old.Kids.length (fl Za x.P.E.Old.Kids),.val (.int .i64 x.P.E.New.Kind),.sl x.P.E.New.Words.length (fl (eI .u64) x.P.E.New.Words),.sl x.P.E.New.Kids.length (fl Za x.P.E.New.Kids),.sl x.P.E.Words.length (fl Zg x.P.E.Words),.sl x.P.E.Kids.length (fl Zi x.P.E.Kids),.val (.int .i64 x.P.E.List_),.sl x.P.E.Ops.length (fl Zf x.P.E.Ops),.val (.int .i64 x.Q.Kind),.val (.int .i64 x.Q.N),.sl x.Q.L.length (fl Za x.Q.L),.val (.int .i64 x.Q.E.Kind),.val (.int .i64 x.Q.E.Old.Kind),.sl x.Q.E.Old.Words.length (fl (eI .u64) x.Q.E.Old.Words),.sl x.Q.E.Old.Kids.length (fl Za x.Q.E.Old.Kids),.val (.int .i64 x.Q.E.New.Kind),.sl x.Q.E.New.Words.length (fl (eI .u64) x.Q.E.New.Words),.sl x.Q.E.New.Kids.length (fl Za x.Q.E.New.Kids),.sl x.Q.E.Words.length (fl Zg x.Q.E.Words),.sl x.Q.E.Kids.length (fl Zi x.Q.E.Kids),.val (.int .i64 x.Q.E.List_),.sl x.Q.E.Ops.length (fl Zf x.Q.E.Ops)]
theorem Ki:∀ x,G.pures (Z6 x)=true:=fun x=>by simp [eI,eB,eS,eL,eP,G.pures,G.pure,Yj,Vw,Z6,K6,Xu,Xq,X7,Jx,Zdr,Qh,Qk,Q6,Y1,X5,Qg,Xb]
theorem Zgj {O O':Objs} {n:Nat} (xs:List Zy):wkl O O' n (fl Z6 xs) (fl Z6 xs):=Zfy (Yj Ki xs)
theorem Zgh {O O':Objs} {n:Nat} (xs:List Zy) (b b':List G):wkl O O' n (fl Z6 xs++b) (fl Z6 xs++b')=wkl O O' n b b':=Zdt b b' _ (Yj Ki xs)
theorem Zga (xs:List Zy):(fl Z6 xs).length=xs.length * 29:=Kl (f:=Z6) (k:=29) (fun _=>rfl) xs
theorem Zgd (xs:List Zy):(fl Z6 xs).all G.one=true:=Gw (fun x=>by simp [eI,eB,eS,eL,eP,Zia,G.one,Value.oneCell',Z6]) xs
theorem Zgl {O O':Objs} {n:Nat} (x:Option Zy):wk O O' n (gP Z6 x) (gP Z6 x)=True:=Zpf Ki x
theorem Zfq {k:Nat} (x:Option Zy):(gP Z6 x).under k=true:=Zds Ki k x
theorem Zfi {ρ:Nat→Nat} (xs:List Zy):G.rens ρ (fl Z6 xs)=fl Z6 xs:=Vt ρ _ (Yj Ki xs)
theorem Zfg {ρ:Nat→Nat} (x:Option Zy):(gP Z6 x).ren ρ=gP Z6 x:=Zcf ρ _ (Vw Ki x)
theorem Zgf {k:Nat} (xs:List Zy):G.unders k (fl Z6 xs)=true:=Qp _ _ (Yj Ki xs)
theorem Zi3:∀ x,G.pures ((eI .i64) x)=true:=fun x=>by simp [eI,eB,eS,eL,eP,G.pures,G.pure,Yj,Vw,K6,Xu,Xq,X7,Jx,Zdr,Qh,Qk,Q6,Ki,Y1,X5,Qg,Xb]
theorem Zrz {O O':Objs} {n:Nat} (xs:List Int):wkl O O' n (fl (eI .i64) xs) (fl (eI .i64) xs):=Zfy (Yj Zi3 xs)
theorem Zrx {O O':Objs} {n:Nat} (xs:List Int) (b b':List G):wkl O O' n (fl (eI .i64) xs++b) (fl (eI .i64) xs++b')=wkl O O' n b b':=Zdt b b' _ (Yj Zi3 xs)
theorem Zqz (xs:List Int):(fl (eI .i64) xs).length=xs.length * 1:=Kl (f:=(eI .i64)) (k:=1) (fun _=>rfl) xs
theorem Zra (xs:List Int):(fl (eI .i64) xs).all G.one=true:=Gw (fun x=>by simp [eI,eB,eS,eL,eP,Zia,G.one,Value.oneCell']) xs
theorem Zr1 {O O':Objs} {n:Nat} (x:Option Int):wk O O' n (gP (eI .i64) x) (gP (eI .i64) x)=True:=Zpf Zi3 x
theorem Zpd {k:Nat} (x:Option Int):(gP (eI .i64) x).under k=true:=Zds Zi3 k x
theorem Zo3 {ρ:Nat→Nat} (xs:List Int):G.rens ρ (fl (eI .i64) xs)=fl (eI .i64) xs:=Vt ρ _ (Yj Zi3 xs)
theorem Zo1 {ρ:Nat→Nat} (x:Option Int):(gP (eI .i64) x).ren ρ=gP (eI .i64) x:=Zcf ρ _ (Vw Zi3 x)
theorem Zru {k:Nat} (xs:List Int):G.unders k (fl (eI .i64) xs)=true:=Qp _ _ (Yj Zi3 xs)
def Ui (x:Zy):List G:=[.val (.int .i64 x.Of),.val (.int .i64 x.P.Kind),.val (.int .i64 x.P.N),.sl x.P.L.length (fl Za x.P.L),.val (.int .i64 x.P.E.Kind),.val (.int .i64 x.P.E.Old.Kind),.sl x.P.E.Old.Words.length (fl (eI .u64) x.P.E.Old.Words),.sl x.P.E.Old.Kids.length (fl Za x.P.E.Old.Kids),.val (.int .i64 x.P.E.New.Kind),.sl x.P.E.New.Words.length (fl (eI .u64) x.P.E.New.Words),.sl x.P.E.New.Kids.length (fl Za x.P.E.New.Kids),.sl x.P.E.Words.length (fl Zg x.P.E.Words),.sl x.P.E.Kids.length (fl Zi x.P.E.Kids),.val (.int .i64 x.P.E.List_),.sl x.P.E.Ops.length (fl Zf x.P.E.Ops),.val (.int .i64 x.Q.Kind),.val (.int .i64 x.Q.N),.sl x.Q.L.length (fl Za x.Q.L),.val (.int .i64 x.Q.E.Kind),.val (.int .i64 x.Q.E.Old.Kind),.sl x.Q.E.Old.Words.length (fl (eI .u64) x.Q.E.Old.Words),.sl x.Q.E.Old.Kids.length (fl Za x.Q.E.Old.Kids),.val (.int .i64 x.Q.E.New.Kind),.sl x.Q.E.New.Words.length (fl (eI .u64) x.Q.E.New.Words),.sl x.Q.E.New.Kids.length (fl Za x.Q.E.New.Kids),.sl x.Q.E.Words.length (fl Zg x.Q.E.Words),.sl x.Q.E.Kids.length (fl Zi x.Q.E.Kids),.val (.int .i64 x.Q.E.List_),.sl x.Q.E.Ops.length (fl Zf x.Q.E.Ops)]
def Yg (x:Zh):List G:=[.val (.int .i64 x.Kind),.val (.int .i64 x.N),.sl x.L.length (fl Za x.L),.val (.int .i64 x.E.Kind),.val (.int .i64 x.E.Old.Kind),.sl x.E.Old.Words.length (fl (eI .u64) x.E.Old.Words),.sl x.E.Old.Kids.length (fl Za x.E.Old.Kids),.val (.int .i64 x.E.New.Kind),.sl x.E.New.Words.length (fl (eI .u64) x.E.New.Words),.sl x.E.New.Kids.length (fl Za x.E.New.Kids),.sl x.E.Words.length (fl Zg x.E.Words),.sl x.E.Kids.length (fl Zi x.E.Kids),.val (.int .i64 x.E.List_),.sl x.E.Ops.length (fl Zf x.E.Ops)]
def Xt (x:Zd):List G:=[.val (.int .i64 x.At),.val (.int .i64 x.E.Kind),.val (.int .i64 x.E.Old.Kind),.sl x.E.Old.Words.length (fl (eI .u64) x.E.Old.Words),.sl x.E.Old.Kids.length (fl Za x.E.Old.Kids),.val (.int .i64 x.E.New.Kind),.sl x.E.New.Words.length (fl (eI .u64) x.E.New.Words),.sl x.E.New.Kids.length (fl Za x.E.New.Kids),.sl x.E.Words.length (fl Zg x.E.Words),.sl x.E.Kids.length (fl Zi x.E.Kids),.val (.int .i64 x.E.List_),.sl x.E.Ops.length (fl Zf x.E.Ops)]
def Ze (x:Zc):List G:=[.val (.int .i64 x.Kind),.val (.int .i64 x.Old.Kind),.sl x.Old.Words.length (fl (eI .u64) x.Old.Words),.sl x.Old.Kids.length (fl Za x.Old.Kids),.val (.int .i64 x.New.Kind),.sl x.New.Words.length (fl (eI .u64) x.New.Words),.sl x.New.Kids.length (fl Za x.New.Kids),.sl x.Words.length (fl Zg x.Words),.sl x.Kids.length (fl Zi x.Kids),.val (.int .i64 x.List_),.sl x.Ops.length (fl Zf x.Ops)]
def Zn (x:Zb):List G:=[.val (.int .i64 x.Kind),.sl x.Words.length (fl (eI .u64) x.Words),.sl x.Kids.length (fl Za x.Kids)]
def X4 (x:Zj):List G:=[.val (.int .i64 x.At),.val (.int .u8 x.Mask),.val (.int .u64 x.Old),.val (.int .u64 x.New)]
abbrev vI (x:Int):G := .val (.int .i64 x)
abbrev vB (x:Bool):G := .val (.bool x)
abbrev nV:G := .val (.slice none 0 0)
abbrev sL {α:Type} (e:α→List G) (x:List α):G := .sl x.length (fl e x)
abbrev oR {α:Type} (t s:Nat) (e:α→List G) (x:List α):GObj:=⟨true,t,s,x.length,fl e x⟩
theorem zFn {f:FuncId} {gs:List G} {O O2:Objs} {n n2:Nat} {r:G} {fn:Func} {c:Code} (hc:∀ args w,(callFunc f args).run Try.prog w = .ok (.enter f args) w) (hf:Try.prog.funcs[f]? = some fn) (h:Und O n→O n=none→(∀ k,O (n+k)=none)→W Try.prog n c (Fin Kr fn.results.toList r n O2 n2) ⟨fn.ntmps,[],Zhx 0 gs⟩ (Zv O n []) n) (hb:fn.body=some c:=by exact rfl) (hn:gs.length≤fn.ntmps:=by exact Nat.le_of_ble_eq_true rfl) (h2:n≤n2:=by first | exact Nat.le_refl _ | omega):GTo Try.prog f gs O n r O2 n2:=Znp Z5 hc hf hb hn h2 fun hU=>h hU (hU.fresh _ (Nat.le_refl _)) fun k=>hU.fresh _ (Nat.le_add_right _ _)
structure Hid (p:Prop):Prop where
 get:p
structure Ar {α:Type} (a:α):Prop where
def Ar.v {α:Type} {a:α} (_:Ar a):α:=a
theorem zQ {A B:Prop} (l0:List Nat) (b:B) (e:Ar l0→Hid B→A:=by intro x0 bZ;refine Zqh x0.v (Xf Z5 [] ?_);simp only [push_cast,seval,↓reduceIte,Zo,Ar.v,hN0,hN];exact bZ.get):A:=e ⟨⟩ ⟨b⟩
theorem zQD {A B:Prop} (l0:List Nat) (l1:List (Option Bool)) (b:B) (e:Ar l0→Ar l1→Hid B→A:=by intro x0 x1 bZ;refine Zqh x0.v (Xf Z5 x1.v ?_);simp only [push_cast,seval,↓reduceIte,Zo,Ar.v,hN0,hN];(repeat (with_reducible refine And.intro (by first | (intro h0;simp only [h0,and_self];done) | (intro h0;simp only [h0,Bool.not_false,Bool.not_true,Bool.true_and,Bool.and_true,true_and,and_true,and_self,imp_self,implies_true,bne_iff_ne,ne_eq,beq_iff_eq];done) | (intros;simp_all;done) | exact True.intro) ?_));exact bZ.get):A:=e ⟨⟩ ⟨⟩ ⟨b⟩
theorem Yu {A:Prop} (l0:List G) (e:Ar l0→A:=by intro x0;refine Yhg ?_;(try simp only [Xe,Yi]);have h:=Option.some.inj h;subst h;refine Z1u (.inr rfl) hU x0.v (by omega) ?_;simp only [push_cast,seval,↓reduceIte,Zo,Ar.v,hN0,hN]):A:=e ⟨⟩
theorem Kq {A B:Prop} (l0:List Nat) (l1:List Bool) (b:B) (e:Ar l0→Ar l1→Hid B→A:=by intro x0 x1 bZ;refine Yca ?_;(try simp only [Xe,Yi]);refine Ztm x0.v x1.v ?_;simp only [push_cast,seval,↓reduceIte,Ar.v];exact bZ.get):A:=e ⟨⟩ ⟨⟩ ⟨b⟩
theorem zQd {A B:Prop} (l0:List Nat) (l1:List Nat) (l2:List Bool) (b:B) (e:Ar l0→Ar l1→Ar l2→Hid B→A:=by intro x0 x1 x2 bZ;refine Zqh x0.v (Xf Z5 [] ?_);simp only [push_cast,seval,↓reduceIte,Zo,Ar.v,hN0,hN];refine Ztm x1.v x2.v ?_;simp only [push_cast,seval,↓reduceIte,Ar.v];exact bZ.get):A:=e ⟨⟩ ⟨⟩ ⟨⟩ ⟨b⟩
theorem Zby {A B:Prop} (l0:List (Option Bool)) {P1:Prop} (p1:P1) {P2:Prop} (p2:P2) {P3:Prop} (p3:P3) (b:B) (e:Ar l0→P1→P2→P3→Hid B→A:=by intro x0 x1 x2 x3 bZ;refine Xf Z5 x0.v ?_;simp only [push_cast,Nat.reduceAdd,Nat.reduceSub,Nat.reduceMul,Nat.reduceLeDiff,Nat.reduceLT,Nat.reduceEqDiff,↓reduceIte,reduceCtorEq,Int.reduceBEq,Int.reduceBNe,Nat.reduceBEq,Int.reduceLE,Int.reduceLT,Int.reduceEq,Int.reduceNe,Int.reduceNeg,Nat.reduceDiv,Nat.reduceMod,Nat.reducePow,Zo,Ar.v,x1,x2,x3,hN0,hN];exact bZ.get):A:=e ⟨⟩ p1 p2 p3 ⟨b⟩
theorem zF3 {A B:Prop} {P0:Prop} (p0:P0) {P1:Prop} (p1:P1) {P2:Prop} (p2:P2) (b:B) (e:P0→P1→P2→Hid B→A:=by intro x0 x1 x2 bZ;simp only [push_cast,Nat.reduceAdd,Nat.reduceSub,Nat.reduceMul,Nat.reduceLeDiff,Nat.reduceLT,Nat.reduceEqDiff,↓reduceIte,reduceCtorEq,Int.reduceBEq,Int.reduceBNe,Nat.reduceBEq,Int.reduceLE,Int.reduceLT,Int.reduceEq,Int.reduceNe,Int.reduceNeg,Nat.reduceDiv,Nat.reduceMod,Nat.reducePow,Zo,x0,x1,x2,hN0,hN];exact bZ.get):A:=e p0 p1 p2 ⟨b⟩
theorem zD {A B:Prop} (l0:List Nat) (l1:List Bool) (b:B) (e:Ar l0→Ar l1→Hid B→A:=by intro x0 x1 bZ;refine Ztm x0.v x1.v ?_;simp only [push_cast,seval,↓reduceIte,Ar.v];exact bZ.get):A:=e ⟨⟩ ⟨⟩ ⟨b⟩
theorem zR {A B:Prop} (b:B) (e:Hid B→A:=by intro bZ;refine Xf Z5 [] ?_;simp only [push_cast,seval,↓reduceIte,Zo,hN0,hN];exact bZ.get):A:=e ⟨b⟩
theorem zEn {A:Prop} {P0:Prop} (p0:P0) (e:P0→A:=by intro x0;have h9:=Option.some.inj x0;subst h9;refine And.intro rfl (Fit2.of (Yd hU rfl rfl ?_) (by omega));simp only [push_cast,seval,↓reduceIte,Zo,hN0,hN]):A:=e p0
theorem zEx {A:Prop} {P0:Prop} (p0:P0) (e:P0→A:=by intro x0;refine Yb8 ?_;(try simp only [Xe,Yi,↓reduceIte,Nat.reduceEqDiff]);have h9:=Option.some.inj x0;subst h9;refine And.intro (fun h=>by cases h) (And.intro rfl (Fit2.of (Yd hU rfl rfl ?_) (by omega)));simp only [push_cast,seval,↓reduceIte,Zo,hN0,hN]):A:=e p0
theorem zCd {A B:Prop} {P0:Prop} (p0:P0) (l1:List Nat) (l2:List Bool) (b:B) (e:P0→Ar l1→Ar l2→Hid B→A:=by intro x0 x1 x2 bZ;refine Xf Z5 [] ?_;simp only [push_cast,seval,↓reduceIte,Zo,hN0,hN];refine x0.then ?_;simp only [push_cast,seval,↓reduceIte,Zo,hN0,hN];refine Ztm x1.v x2.v ?_;simp only [push_cast,seval,↓reduceIte,Ar.v];exact bZ.get):A:=e p0 ⟨⟩ ⟨⟩ ⟨b⟩
theorem zC {A B:Prop} {P0:Prop} (p0:P0) (b:B) (e:P0→Hid B→A:=by intro x0 bZ;refine Xf Z5 [] ?_;simp only [push_cast,seval,↓reduceIte,Zo,hN0,hN];refine x0.then ?_;simp only [push_cast,seval,↓reduceIte,Zo,hN0,hN];exact bZ.get):A:=e p0 ⟨b⟩
theorem zK {A B:Prop} (b:B) (e:Hid B→A:=by intro bZ;refine Yca ?_;(try simp only [Xe,Yi]);exact bZ.get):A:=e ⟨b⟩
theorem Z1n {A B:Prop} (l0:List (Option Bool)) {P1:Prop} (p1:P1) {P2:Prop} (p2:P2) {P3:Prop} (p3:P3) {P4:Prop} (p4:P4) (b:B) (e:Ar l0→P1→P2→P3→P4→Hid B→A:=by intro x0 x1 x2 x3 x4 bZ;refine Xf Z5 x0.v ?_;simp only [push_cast,Nat.reduceAdd,Nat.reduceSub,Nat.reduceMul,Nat.reduceLeDiff,Nat.reduceLT,Nat.reduceEqDiff,↓reduceIte,reduceCtorEq,Int.reduceBEq,Int.reduceBNe,Nat.reduceBEq,Int.reduceLE,Int.reduceLT,Int.reduceEq,Int.reduceNe,Int.reduceNeg,Nat.reduceDiv,Nat.reduceMod,Nat.reducePow,Zo,Ar.v,x1,x2,x3,x4,hN0,hN];exact bZ.get):A:=e ⟨⟩ p1 p2 p3 p4 ⟨b⟩
theorem zF4 {A B:Prop} {P0:Prop} (p0:P0) {P1:Prop} (p1:P1) {P2:Prop} (p2:P2) {P3:Prop} (p3:P3) (b:B) (e:P0→P1→P2→P3→Hid B→A:=by intro x0 x1 x2 x3 bZ;simp only [push_cast,Nat.reduceAdd,Nat.reduceSub,Nat.reduceMul,Nat.reduceLeDiff,Nat.reduceLT,Nat.reduceEqDiff,↓reduceIte,reduceCtorEq,Int.reduceBEq,Int.reduceBNe,Nat.reduceBEq,Int.reduceLE,Int.reduceLT,Int.reduceEq,Int.reduceNe,Int.reduceNeg,Nat.reduceDiv,Nat.reduceMod,Nat.reducePow,Zo,x0,x1,x2,x3,hN0,hN];exact bZ.get):A:=e p0 p1 p2 p3 ⟨b⟩
theorem zDs {A B:Prop} (l0:List Nat) (l1:List Bool) (b:B) (e:Ar l0→Ar l1→Hid B→A:=by intro x0 x1 bZ;refine Ztm x0.v x1.v ?_;simp only [push_cast,seval,↓reduceIte,Ar.v];refine Zk ?_;exact bZ.get):A:=e ⟨⟩ ⟨⟩ ⟨b⟩
theorem zG {A B:Prop} (b:B) (e:Hid B→A:=by intro bZ;(repeat (with_reducible refine And.intro (by first | (intro h0;simp only [h0,and_self];done) | (intro h0;simp only [h0,Bool.not_false,Bool.not_true,Bool.true_and,Bool.and_true,true_and,and_true,and_self,imp_self,implies_true,bne_iff_ne,ne_eq,beq_iff_eq];done) | (intros;simp_all;done) | exact True.intro) ?_));exact bZ.get):A:=e ⟨b⟩
theorem Yh1 {A B:Prop} (l0:List (Option Bool)) {P1:Prop} (p1:P1) {P2:Prop} (p2:P2) {P3:Prop} (p3:P3) {P4:Prop} (p4:P4) {P5:Prop} (p5:P5) {P6:Prop} (p6:P6) {P7:Prop} (p7:P7) (b:B) (e:Ar l0→P1→P2→P3→P4→P5→P6→P7→Hid B→A:=by intro x0 x1 x2 x3 x4 x5 x6 x7 bZ;refine Xf Z5 x0.v ?_;simp only [push_cast,Nat.reduceAdd,Nat.reduceSub,Nat.reduceMul,Nat.reduceLeDiff,Nat.reduceLT,Nat.reduceEqDiff,↓reduceIte,reduceCtorEq,Int.reduceBEq,Int.reduceBNe,Nat.reduceBEq,Int.reduceLE,Int.reduceLT,Int.reduceEq,Int.reduceNe,Int.reduceNeg,Nat.reduceDiv,Nat.reduceMod,Nat.reducePow,Zo,Ar.v,x1,x2,x3,x4,x5,x6,x7,hN0,hN];exact bZ.get):A:=e ⟨⟩ p1 p2 p3 p4 p5 p6 p7 ⟨b⟩
theorem zF7 {A B:Prop} {P0:Prop} (p0:P0) {P1:Prop} (p1:P1) {P2:Prop} (p2:P2) {P3:Prop} (p3:P3) {P4:Prop} (p4:P4) {P5:Prop} (p5:P5) {P6:Prop} (p6:P6) (b:B) (e:P0→P1→P2→P3→P4→P5→P6→Hid B→A:=by intro x0 x1 x2 x3 x4 x5 x6 bZ;simp only [push_cast,Nat.reduceAdd,Nat.reduceSub,Nat.reduceMul,Nat.reduceLeDiff,Nat.reduceLT,Nat.reduceEqDiff,↓reduceIte,reduceCtorEq,Int.reduceBEq,Int.reduceBNe,Nat.reduceBEq,Int.reduceLE,Int.reduceLT,Int.reduceEq,Int.reduceNe,Int.reduceNeg,Nat.reduceDiv,Nat.reduceMod,Nat.reducePow,Zo,x0,x1,x2,x3,x4,x5,x6,hN0,hN];exact bZ.get):A:=e p0 p1 p2 p3 p4 p5 p6 ⟨b⟩
theorem Yhw {A:Prop} {P0:Prop} (p0:P0) {P1:Prop} (p1:P1) {P2:Prop} (p2:P2) {P3:Prop} (p3:P3) {P4:Prop} (p4:P4) (e:P0→P1→P2→P3→P4→A:=by intro x0 x1 x2 x3 x4;have h9:=Option.some.inj x0;subst h9;refine And.intro rfl (Fit2.of (Yd hU rfl rfl ?_) (by omega));simp only [push_cast,Nat.reduceAdd,Nat.reduceSub,Nat.reduceMul,Nat.reduceLeDiff,Nat.reduceLT,Nat.reduceEqDiff,↓reduceIte,reduceCtorEq,Int.reduceBEq,Int.reduceBNe,Nat.reduceBEq,Int.reduceLE,Int.reduceLT,Int.reduceEq,Int.reduceNe,Int.reduceNeg,Nat.reduceDiv,Nat.reduceMod,Nat.reducePow,Zo,x1,x2,x3,x4,hN0,hN]):A:=e p0 p1 p2 p3 p4
theorem zRd {A B:Prop} (l0:List Nat) (l1:List Bool) (b:B) (e:Ar l0→Ar l1→Hid B→A:=by intro x0 x1 bZ;refine Xf Z5 [] ?_;simp only [push_cast,seval,↓reduceIte,Zo,hN0,hN];refine Ztm x0.v x1.v ?_;simp only [push_cast,seval,↓reduceIte,Ar.v];exact bZ.get):A:=e ⟨⟩ ⟨⟩ ⟨b⟩
theorem zW {A B:Prop} (b:B) (e:Hid B→A:=by intro bZ;refine Yhg ?_;(try simp only [Xe,Yi]);exact bZ.get):A:=e ⟨b⟩
theorem zEy {A:Prop} {P0:Prop} (p0:P0) (e:P0→A:=by intro x0;have h9:=Option.some.inj x0;subst h9;refine And.intro (fun h=>by cases h) (And.intro rfl (Fit2.of (Yd hU rfl rfl ?_) (by omega)));simp only [push_cast,seval,↓reduceIte,Zo,hN0,hN]):A:=e p0
theorem zX1 {A B:Prop} {P0:Prop} (p0:P0) (b:B) (e:P0→Hid B→A:=by intro x0 bZ;simp only [push_cast,seval,↓reduceIte,Zo,x0,hN0,hN];exact bZ.get):A:=e p0 ⟨b⟩
theorem Kk {A:Prop} {P0:Prop} (p0:P0) {P1:Prop} (p1:P1) (e:P0→P1→A:=by intro x0 x1;have h9:=Option.some.inj x0;subst h9;refine And.intro rfl (Fit2.of (Yd hU rfl rfl ?_) (by omega));simp only [push_cast,seval,↓reduceIte,Zo,x1,hN0,hN]):A:=e p0 p1
theorem zX3 {A B:Prop} {P0:Prop} (p0:P0) {P1:Prop} (p1:P1) {P2:Prop} (p2:P2) (b:B) (e:P0→P1→P2→Hid B→A:=by intro x0 x1 x2 bZ;simp only [push_cast,seval,↓reduceIte,Zo,x0,x1,x2,hN0,hN];exact bZ.get):A:=e p0 p1 p2 ⟨b⟩
theorem Zf3 {A:Prop} {P0:Prop} (p0:P0) {P1:Prop} (p1:P1) {P2:Prop} (p2:P2) {P3:Prop} (p3:P3) (e:P0→P1→P2→P3→A:=by intro x0 x1 x2 x3;have h9:=Option.some.inj x0;subst h9;refine And.intro rfl (Fit2.of (Yd hU rfl rfl ?_) (by omega));simp only [push_cast,seval,↓reduceIte,Zo,x1,x2,x3,hN0,hN]):A:=e p0 p1 p2 p3
theorem zF8 {A B:Prop} {P0:Prop} (p0:P0) {P1:Prop} (p1:P1) {P2:Prop} (p2:P2) {P3:Prop} (p3:P3) {P4:Prop} (p4:P4) {P5:Prop} (p5:P5) {P6:Prop} (p6:P6) {P7:Prop} (p7:P7) (b:B) (e:P0→P1→P2→P3→P4→P5→P6→P7→Hid B→A:=by intro x0 x1 x2 x3 x4 x5 x6 x7 bZ;simp only [push_cast,Nat.reduceAdd,Nat.reduceSub,Nat.reduceMul,Nat.reduceLeDiff,Nat.reduceLT,Nat.reduceEqDiff,↓reduceIte,reduceCtorEq,Int.reduceBEq,Int.reduceBNe,Nat.reduceBEq,Int.reduceLE,Int.reduceLT,Int.reduceEq,Int.reduceNe,Int.reduceNeg,Nat.reduceDiv,Nat.reduceMod,Nat.reducePow,Zo,x0,x1,x2,x3,x4,x5,x6,x7,hN0,hN];exact bZ.get):A:=e p0 p1 p2 p3 p4 p5 p6 p7 ⟨b⟩
theorem Yhz {A:Prop} {P0:Prop} (p0:P0) {P1:Prop} (p1:P1) {P2:Prop} (p2:P2) {P3:Prop} (p3:P3) {P4:Prop} (p4:P4) {P5:Prop} (p5:P5) {P6:Prop} (p6:P6) {P7:Prop} (p7:P7) {P8:Prop} (p8:P8) (e:P0→P1→P2→P3→P4→P5→P6→P7→P8→A:=by intro x0 x1 x2 x3 x4 x5 x6 x7 x8;have h9:=Option.some.inj x0;subst h9;refine And.intro rfl (Fit2.of (Yd hU rfl rfl ?_) (by omega));simp only [push_cast,Nat.reduceAdd,Nat.reduceSub,Nat.reduceMul,Nat.reduceLeDiff,Nat.reduceLT,Nat.reduceEqDiff,↓reduceIte,reduceCtorEq,Int.reduceBEq,Int.reduceBNe,Nat.reduceBEq,Int.reduceLE,Int.reduceLT,Int.reduceEq,Int.reduceNe,Int.reduceNeg,Nat.reduceDiv,Nat.reduceMod,Nat.reducePow,Zo,x1,x2,x3,x4,x5,x6,x7,x8,hN0,hN]):A:=e p0 p1 p2 p3 p4 p5 p6 p7 p8
theorem zX5 {A B:Prop} {P0:Prop} (p0:P0) {P1:Prop} (p1:P1) {P2:Prop} (p2:P2) {P3:Prop} (p3:P3) {P4:Prop} (p4:P4) (b:B) (e:P0→P1→P2→P3→P4→Hid B→A:=by intro x0 x1 x2 x3 x4 bZ;simp only [push_cast,seval,↓reduceIte,Zo,x0,x1,x2,x3,x4,hN0,hN];exact bZ.get):A:=e p0 p1 p2 p3 p4 ⟨b⟩
theorem Z1m {A:Prop} {P0:Prop} (p0:P0) {P1:Prop} (p1:P1) {P2:Prop} (p2:P2) {P3:Prop} (p3:P3) {P4:Prop} (p4:P4) {P5:Prop} (p5:P5) (e:P0→P1→P2→P3→P4→P5→A:=by intro x0 x1 x2 x3 x4 x5;have h9:=Option.some.inj x0;subst h9;refine And.intro rfl (Fit2.of (Yd hU rfl rfl ?_) (by omega));simp only [push_cast,seval,↓reduceIte,Zo,x1,x2,x3,x4,x5,hN0,hN]):A:=e p0 p1 p2 p3 p4 p5
theorem zX4 {A B:Prop} {P0:Prop} (p0:P0) {P1:Prop} (p1:P1) {P2:Prop} (p2:P2) {P3:Prop} (p3:P3) (b:B) (e:P0→P1→P2→P3→Hid B→A:=by intro x0 x1 x2 x3 bZ;simp only [push_cast,seval,↓reduceIte,Zo,x0,x1,x2,x3,hN0,hN];exact bZ.get):A:=e p0 p1 p2 p3 ⟨b⟩
theorem Ztc {A:Prop} {P0:Prop} (p0:P0) {P1:Prop} (p1:P1) {P2:Prop} (p2:P2) {P3:Prop} (p3:P3) {P4:Prop} (p4:P4) (e:P0→P1→P2→P3→P4→A:=by intro x0 x1 x2 x3 x4;have h9:=Option.some.inj x0;subst h9;refine And.intro rfl (Fit2.of (Yd hU rfl rfl ?_) (by omega));simp only [push_cast,seval,↓reduceIte,Zo,x1,x2,x3,x4,hN0,hN]):A:=e p0 p1 p2 p3 p4
theorem Yhy {A:Prop} {P0:Prop} (p0:P0) {P1:Prop} (p1:P1) {P2:Prop} (p2:P2) {P3:Prop} (p3:P3) {P4:Prop} (p4:P4) {P5:Prop} (p5:P5) {P6:Prop} (p6:P6) {P7:Prop} (p7:P7) (e:P0→P1→P2→P3→P4→P5→P6→P7→A:=by intro x0 x1 x2 x3 x4 x5 x6 x7;have h9:=Option.some.inj x0;subst h9;refine And.intro rfl (Fit2.of (Yd hU rfl rfl ?_) (by omega));simp only [push_cast,Nat.reduceAdd,Nat.reduceSub,Nat.reduceMul,Nat.reduceLeDiff,Nat.reduceLT,Nat.reduceEqDiff,↓reduceIte,reduceCtorEq,Int.reduceBEq,Int.reduceBNe,Nat.reduceBEq,Int.reduceLE,Int.reduceLT,Int.reduceEq,Int.reduceNe,Int.reduceNeg,Nat.reduceDiv,Nat.reduceMod,Nat.reducePow,Zo,x1,x2,x3,x4,x5,x6,x7,hN0,hN]):A:=e p0 p1 p2 p3 p4 p5 p6 p7
theorem Zll {A:Prop} (l0:List G) (e:Ar l0→A:=by intro x0;have h:=Option.some.inj h;subst h;refine Z1u (.inr rfl) hU x0.v (by omega) ?_;simp only [push_cast,seval,↓reduceIte,Zo,Ar.v,hN0,hN]):A:=e ⟨⟩
theorem Yl2 {A B:Prop} (l0:List Nat) {P1:Prop} (p1:P1) (b:B) (e:Ar l0→P1→Hid B→A:=by intro x0 x1 bZ;refine Zqh x0.v (Xf Z5 [] ?_);simp only [push_cast,seval,↓reduceIte,Zo,Ar.v,x1,hN0,hN];exact bZ.get):A:=e ⟨⟩ p1 ⟨b⟩
theorem Zdu {A B:Prop} (l0:List (Option Bool)) {P1:Prop} (p1:P1) {P2:Prop} (p2:P2) {P3:Prop} (p3:P3) (b:B) (e:Ar l0→P1→P2→P3→Hid B→A:=by intro x0 x1 x2 x3 bZ;refine Xf Z5 x0.v ?_;simp only [push_cast,seval,↓reduceIte,Zo,Ar.v,x1,x2,x3,hN0,hN];exact bZ.get):A:=e ⟨⟩ p1 p2 p3 ⟨b⟩
theorem K1 {A B:Prop} (l0:List (Option Bool)) {P1:Prop} (p1:P1) {P2:Prop} (p2:P2) (b:B) (e:Ar l0→P1→P2→Hid B→A:=by intro x0 x1 x2 bZ;refine Xf Z5 x0.v ?_;simp only [push_cast,seval,↓reduceIte,Zo,Ar.v,x1,x2,hN0,hN];exact bZ.get):A:=e ⟨⟩ p1 p2 ⟨b⟩
theorem Ztd {A B:Prop} (l0:List (Option Bool)) {P1:Prop} (p1:P1) {P2:Prop} (p2:P2) {P3:Prop} (p3:P3) {P4:Prop} (p4:P4) (b:B) (e:Ar l0→P1→P2→P3→P4→Hid B→A:=by intro x0 x1 x2 x3 x4 bZ;refine Xf Z5 x0.v ?_;simp only [push_cast,seval,↓reduceIte,Zo,Ar.v,x1,x2,x3,x4,hN0,hN];exact bZ.get):A:=e ⟨⟩ p1 p2 p3 p4 ⟨b⟩
theorem Jn {A:Prop} {P0:Prop} (p0:P0) {P1:Prop} (p1:P1) (e:P0→P1→A:=by intro x0 x1;simp only [push_cast,seval,↓reduceIte,Zo,x0,x1,hN0,hN]):A:=e p0 p1
theorem zX2 {A B:Prop} {P0:Prop} (p0:P0) {P1:Prop} (p1:P1) (b:B) (e:P0→P1→Hid B→A:=by intro x0 x1 bZ;simp only [push_cast,seval,↓reduceIte,Zo,x0,x1,hN0,hN];exact bZ.get):A:=e p0 p1 ⟨b⟩
theorem Zck {A:Prop} {P0:Prop} (p0:P0) {P1:Prop} (p1:P1) {P2:Prop} (p2:P2) (e:P0→P1→P2→A:=by intro x0 x1 x2;have h9:=Option.some.inj x0;subst h9;refine And.intro rfl (Fit2.of (Yd hU rfl rfl ?_) (by omega));simp only [push_cast,seval,↓reduceIte,Zo,x1,x2,hN0,hN]):A:=e p0 p1 p2
theorem Vf {A B:Prop} (l0:List (Option Bool)) {P1:Prop} (p1:P1) (b:B) (e:Ar l0→P1→Hid B→A:=by intro x0 x1 bZ;refine Xf Z5 x0.v ?_;simp only [push_cast,seval,↓reduceIte,Zo,Ar.v,x1,hN0,hN];exact bZ.get):A:=e ⟨⟩ p1 ⟨b⟩
theorem Yl3 {A:Prop} {P0:Prop} (p0:P0) {P1:Prop} (p1:P1) {P2:Prop} (p2:P2) {P3:Prop} (p3:P3) (e:P0→P1→P2→P3→A:=by intro x0 x1 x2 x3;simp only [push_cast,seval,↓reduceIte,Zo,x0,x1,x2,x3,hN0,hN]):A:=e p0 p1 p2 p3
theorem Yks {A B:Prop} (l0:List Nat) {P1:Prop} (p1:P1) {P2:Prop} (p2:P2) {P3:Prop} (p3:P3) {P4:Prop} (p4:P4) (b:B) (e:Ar l0→P1→P2→P3→P4→Hid B→A:=by intro x0 x1 x2 x3 x4 bZ;refine Zqh x0.v (Xf Z5 [] ?_);simp only [push_cast,seval,↓reduceIte,Zo,Ar.v,x1,x2,x3,x4,hN0,hN];exact bZ.get):A:=e ⟨⟩ p1 p2 p3 p4 ⟨b⟩
theorem zF6 {A B:Prop} {P0:Prop} (p0:P0) {P1:Prop} (p1:P1) {P2:Prop} (p2:P2) {P3:Prop} (p3:P3) {P4:Prop} (p4:P4) {P5:Prop} (p5:P5) (b:B) (e:P0→P1→P2→P3→P4→P5→Hid B→A:=by intro x0 x1 x2 x3 x4 x5 bZ;simp only [push_cast,Nat.reduceAdd,Nat.reduceSub,Nat.reduceMul,Nat.reduceLeDiff,Nat.reduceLT,Nat.reduceEqDiff,↓reduceIte,reduceCtorEq,Int.reduceBEq,Int.reduceBNe,Nat.reduceBEq,Int.reduceLE,Int.reduceLT,Int.reduceEq,Int.reduceNe,Int.reduceNeg,Nat.reduceDiv,Nat.reduceMod,Nat.reducePow,Zo,x0,x1,x2,x3,x4,x5,hN0,hN];exact bZ.get):A:=e p0 p1 p2 p3 p4 p5 ⟨b⟩
theorem Z61 {A B:Prop} (l0:List (Option Bool)) {P1:Prop} (p1:P1) {P2:Prop} (p2:P2) {P3:Prop} (p3:P3) {P4:Prop} (p4:P4) {P5:Prop} (p5:P5) (b:B) (e:Ar l0→P1→P2→P3→P4→P5→Hid B→A:=by intro x0 x1 x2 x3 x4 x5 bZ;refine Xf Z5 x0.v ?_;simp only [push_cast,Nat.reduceAdd,Nat.reduceSub,Nat.reduceMul,Nat.reduceLeDiff,Nat.reduceLT,Nat.reduceEqDiff,↓reduceIte,reduceCtorEq,Int.reduceBEq,Int.reduceBNe,Nat.reduceBEq,Int.reduceLE,Int.reduceLT,Int.reduceEq,Int.reduceNe,Int.reduceNeg,Nat.reduceDiv,Nat.reduceMod,Nat.reducePow,Zo,Ar.v,x1,x2,x3,x4,x5,hN0,hN];exact bZ.get):A:=e ⟨⟩ p1 p2 p3 p4 p5 ⟨b⟩
theorem Yhx {A:Prop} {P0:Prop} (p0:P0) {P1:Prop} (p1:P1) {P2:Prop} (p2:P2) {P3:Prop} (p3:P3) {P4:Prop} (p4:P4) {P5:Prop} (p5:P5) (e:P0→P1→P2→P3→P4→P5→A:=by intro x0 x1 x2 x3 x4 x5;have h9:=Option.some.inj x0;subst h9;refine And.intro rfl (Fit2.of (Yd hU rfl rfl ?_) (by omega));simp only [push_cast,Nat.reduceAdd,Nat.reduceSub,Nat.reduceMul,Nat.reduceLeDiff,Nat.reduceLT,Nat.reduceEqDiff,↓reduceIte,reduceCtorEq,Int.reduceBEq,Int.reduceBNe,Nat.reduceBEq,Int.reduceLE,Int.reduceLT,Int.reduceEq,Int.reduceNe,Int.reduceNeg,Nat.reduceDiv,Nat.reduceMod,Nat.reducePow,Zo,x1,x2,x3,x4,x5,hN0,hN]):A:=e p0 p1 p2 p3 p4 p5
theorem zSe {A:Prop} (e:A:=by simp only [push_cast,seval,↓reduceIte,Zo,hN0,hN]):A:=e
theorem Z1o {A B:Prop} (l0:List (Option Bool)) {P1:Prop} (p1:P1) {P2:Prop} (p2:P2) {P3:Prop} (p3:P3) {P4:Prop} (p4:P4) {P5:Prop} (p5:P5) (b:B) (e:Ar l0→P1→P2→P3→P4→P5→Hid B→A:=by intro x0 x1 x2 x3 x4 x5 bZ;refine Xf Z5 x0.v ?_;simp only [push_cast,seval,↓reduceIte,Zo,Ar.v,x1,x2,x3,x4,x5,hN0,hN];exact bZ.get):A:=e ⟨⟩ p1 p2 p3 p4 p5 ⟨b⟩
theorem Ykv {A:Prop} {P0:Prop} (p0:P0) {P1:Prop} (p1:P1) {P2:Prop} (p2:P2) {P3:Prop} (p3:P3) {P4:Prop} (p4:P4) (e:P0→P1→P2→P3→P4→A:=by intro x0 x1 x2 x3 x4;simp only [push_cast,seval,↓reduceIte,Zo,x0,x1,x2,x3,x4,hN0,hN]):A:=e p0 p1 p2 p3 p4
theorem zXt {A B:Prop} (b:B) (e:Hid B→A:=by intro bZ;refine Yb8 ?_;(try simp only [Xe,Yi,↓reduceIte,Nat.reduceEqDiff]);exact bZ.get):A:=e ⟨b⟩
theorem Zc5 {A B:Prop} (l0:List Nat) {P1:Prop} (p1:P1) {P2:Prop} (p2:P2) (b:B) (e:Ar l0→P1→P2→Hid B→A:=by intro x0 x1 x2 bZ;refine Zqh x0.v (Xf Z5 [] ?_);simp only [push_cast,seval,↓reduceIte,Zo,Ar.v,x1,x2,hN0,hN];exact bZ.get):A:=e ⟨⟩ p1 p2 ⟨b⟩
theorem Ykt {A B:Prop} (l0:List (Option Bool)) {P1:Prop} (p1:P1) {P2:Prop} (p2:P2) {P3:Prop} (p3:P3) {P4:Prop} (p4:P4) {P5:Prop} (p5:P5) {P6:Prop} (p6:P6) (b:B) (e:Ar l0→P1→P2→P3→P4→P5→P6→Hid B→A:=by intro x0 x1 x2 x3 x4 x5 x6 bZ;refine Xf Z5 x0.v ?_;simp only [push_cast,Nat.reduceAdd,Nat.reduceSub,Nat.reduceMul,Nat.reduceLeDiff,Nat.reduceLT,Nat.reduceEqDiff,↓reduceIte,reduceCtorEq,Int.reduceBEq,Int.reduceBNe,Nat.reduceBEq,Int.reduceLE,Int.reduceLT,Int.reduceEq,Int.reduceNe,Int.reduceNeg,Nat.reduceDiv,Nat.reduceMod,Nat.reducePow,Zo,Ar.v,x1,x2,x3,x4,x5,x6,hN0,hN];exact bZ.get):A:=e ⟨⟩ p1 p2 p3 p4 p5 p6 ⟨b⟩
theorem Ykr {A:Prop} {P0:Prop} (p0:P0) {P1:Prop} (p1:P1) {P2:Prop} (p2:P2) {P3:Prop} (p3:P3) {P4:Prop} (p4:P4) {P5:Prop} (p5:P5) (e:P0→P1→P2→P3→P4→P5→A:=by intro x0 x1 x2 x3 x4 x5;simp only [push_cast,Nat.reduceAdd,Nat.reduceSub,Nat.reduceMul,Nat.reduceLeDiff,Nat.reduceLT,Nat.reduceEqDiff,↓reduceIte,reduceCtorEq,Int.reduceBEq,Int.reduceBNe,Nat.reduceBEq,Int.reduceLE,Int.reduceLT,Int.reduceEq,Int.reduceNe,Int.reduceNeg,Nat.reduceDiv,Nat.reduceMod,Nat.reducePow,Zo,x0,x1,x2,x3,x4,x5,hN0,hN]):A:=e p0 p1 p2 p3 p4 p5
theorem zF9 {A B:Prop} {P0:Prop} (p0:P0) {P1:Prop} (p1:P1) {P2:Prop} (p2:P2) {P3:Prop} (p3:P3) {P4:Prop} (p4:P4) {P5:Prop} (p5:P5) {P6:Prop} (p6:P6) {P7:Prop} (p7:P7) {P8:Prop} (p8:P8) (b:B) (e:P0→P1→P2→P3→P4→P5→P6→P7→P8→Hid B→A:=by intro x0 x1 x2 x3 x4 x5 x6 x7 x8 bZ;simp only [push_cast,Nat.reduceAdd,Nat.reduceSub,Nat.reduceMul,Nat.reduceLeDiff,Nat.reduceLT,Nat.reduceEqDiff,↓reduceIte,reduceCtorEq,Int.reduceBEq,Int.reduceBNe,Nat.reduceBEq,Int.reduceLE,Int.reduceLT,Int.reduceEq,Int.reduceNe,Int.reduceNeg,Nat.reduceDiv,Nat.reduceMod,Nat.reducePow,Zo,x0,x1,x2,x3,x4,x5,x6,x7,x8,hN0,hN];exact bZ.get):A:=e p0 p1 p2 p3 p4 p5 p6 p7 p8 ⟨b⟩
theorem zO {A B:Prop} (b:B) (e:Hid B→A:=by intro bZ;(repeat (with_reducible refine And.intro (by first | omega | exact Ux rfl | exact Vh | exact Ya8 rfl | exact Z45 rfl rfl | exact Zwt rfl | exact Z44 rfl) ?_));exact bZ.get):A:=e ⟨b⟩
theorem Z42 {A:Prop} {P0:Prop} (p0:P0) {P1:Prop} (p1:P1) {P2:Prop} (p2:P2) {P3:Prop} (p3:P3) {P4:Prop} (p4:P4) {P5:Prop} (p5:P5) {P6:Prop} (p6:P6) {P7:Prop} (p7:P7) {P8:Prop} (p8:P8) (e:P0→P1→P2→P3→P4→P5→P6→P7→P8→A:=by intro x0 x1 x2 x3 x4 x5 x6 x7 x8;simp only [push_cast,Nat.reduceAdd,Nat.reduceSub,Nat.reduceMul,Nat.reduceLeDiff,Nat.reduceLT,Nat.reduceEqDiff,↓reduceIte,reduceCtorEq,Int.reduceBEq,Int.reduceBNe,Nat.reduceBEq,Int.reduceLE,Int.reduceLT,Int.reduceEq,Int.reduceNe,Int.reduceNeg,Nat.reduceDiv,Nat.reduceMod,Nat.reducePow,Zo,x0,x1,x2,x3,x4,x5,x6,x7,x8,hN0,hN]):A:=e p0 p1 p2 p3 p4 p5 p6 p7 p8
theorem zS {A B:Prop} (b:B) (e:Hid B→A:=by intro bZ;simp only [push_cast,seval,↓reduceIte,Zo,hN0,hN];exact bZ.get):A:=e ⟨b⟩
theorem zEf {A:Prop} (e:A:=by refine And.intro rfl (Fit2.of (Yd hU rfl rfl ?_) (by omega));simp only [push_cast,seval,↓reduceIte,Zo,hN0,hN]):A:=e
theorem zRo {A B:Prop} (l0:List (Option Bool)) (b:B) (e:Ar l0→Hid B→A:=by intro x0 bZ;refine Xf Z5 x0.v ?_;simp only [push_cast,seval,↓reduceIte,Zo,Ar.v,hN0,hN];exact bZ.get):A:=e ⟨⟩ ⟨b⟩
theorem zTs {A B:Prop} {P0:Prop} (p0:P0) (b:B) (e:P0→Hid B→A:=by intro x0 bZ;refine x0.then ?_;simp only [push_cast,seval,↓reduceIte,Zo,hN0,hN];exact bZ.get):A:=e p0 ⟨b⟩
theorem Zz5 {A:Prop} {P0:Prop} (p0:P0) {P1:Prop} (p1:P1) {P2:Prop} (p2:P2) (e:P0→P1→P2→A:=by intro x0 x1 x2;simp only [push_cast,seval,↓reduceIte,Zo,x0,x1,x2,hN0,hN]):A:=e p0 p1 p2
theorem zX6 {A B:Prop} {P0:Prop} (p0:P0) {P1:Prop} (p1:P1) {P2:Prop} (p2:P2) {P3:Prop} (p3:P3) {P4:Prop} (p4:P4) {P5:Prop} (p5:P5) (b:B) (e:P0→P1→P2→P3→P4→P5→Hid B→A:=by intro x0 x1 x2 x3 x4 x5 bZ;simp only [push_cast,seval,↓reduceIte,Zo,x0,x1,x2,x3,x4,x5,hN0,hN];exact bZ.get):A:=e p0 p1 p2 p3 p4 p5 ⟨b⟩
theorem Z62 {A B:Prop} (l0:List (Option Bool)) {P1:Prop} (p1:P1) {P2:Prop} (p2:P2) {P3:Prop} (p3:P3) {P4:Prop} (p4:P4) {P5:Prop} (p5:P5) {P6:Prop} (p6:P6) (b:B) (e:Ar l0→P1→P2→P3→P4→P5→P6→Hid B→A:=by intro x0 x1 x2 x3 x4 x5 x6 bZ;refine Xf Z5 x0.v ?_;simp only [push_cast,seval,↓reduceIte,Zo,Ar.v,x1,x2,x3,x4,x5,x6,hN0,hN];exact bZ.get):A:=e ⟨⟩ p1 p2 p3 p4 p5 p6 ⟨b⟩
theorem zF5 {A B:Prop} {P0:Prop} (p0:P0) {P1:Prop} (p1:P1) {P2:Prop} (p2:P2) {P3:Prop} (p3:P3) {P4:Prop} (p4:P4) (b:B) (e:P0→P1→P2→P3→P4→Hid B→A:=by intro x0 x1 x2 x3 x4 bZ;simp only [push_cast,Nat.reduceAdd,Nat.reduceSub,Nat.reduceMul,Nat.reduceLeDiff,Nat.reduceLT,Nat.reduceEqDiff,↓reduceIte,reduceCtorEq,Int.reduceBEq,Int.reduceBNe,Nat.reduceBEq,Int.reduceLE,Int.reduceLT,Int.reduceEq,Int.reduceNe,Int.reduceNeg,Nat.reduceDiv,Nat.reduceMod,Nat.reducePow,Zo,x0,x1,x2,x3,x4,hN0,hN];exact bZ.get):A:=e p0 p1 p2 p3 p4 ⟨b⟩
theorem Yhf {A B:Prop} {P0:Prop} (p0:P0) {P1:Prop} (p1:P1) {P2:Prop} (p2:P2) {P3:Prop} (p3:P3) {P4:Prop} (p4:P4) {P5:Prop} (p5:P5) {P6:Prop} (p6:P6) {P7:Prop} (p7:P7) {P8:Prop} (p8:P8) {P9:Prop} (p9:P9) (b:B) (e:P0→P1→P2→P3→P4→P5→P6→P7→P8→P9→Hid B→A:=by intro x0 x1 x2 x3 x4 x5 x6 x7 x8 x9 bZ;simp only [push_cast,Nat.reduceAdd,Nat.reduceSub,Nat.reduceMul,Nat.reduceLeDiff,Nat.reduceLT,Nat.reduceEqDiff,↓reduceIte,reduceCtorEq,Int.reduceBEq,Int.reduceBNe,Nat.reduceBEq,Int.reduceLE,Int.reduceLT,Int.reduceEq,Int.reduceNe,Int.reduceNeg,Nat.reduceDiv,Nat.reduceMod,Nat.reducePow,Zo,x0,x1,x2,x3,x4,x5,x6,x7,x8,x9,hN0,hN];exact bZ.get):A:=e p0 p1 p2 p3 p4 p5 p6 p7 p8 p9 ⟨b⟩
theorem Ya3 {A:Prop} {P0:Prop} (p0:P0) {P1:Prop} (p1:P1) {P2:Prop} (p2:P2) {P3:Prop} (p3:P3) {P4:Prop} (p4:P4) {P5:Prop} (p5:P5) {P6:Prop} (p6:P6) {P7:Prop} (p7:P7) {P8:Prop} (p8:P8) {P9:Prop} (p9:P9) (e:P0→P1→P2→P3→P4→P5→P6→P7→P8→P9→A:=by intro x0 x1 x2 x3 x4 x5 x6 x7 x8 x9;simp only [push_cast,Nat.reduceAdd,Nat.reduceSub,Nat.reduceMul,Nat.reduceLeDiff,Nat.reduceLT,Nat.reduceEqDiff,↓reduceIte,reduceCtorEq,Int.reduceBEq,Int.reduceBNe,Nat.reduceBEq,Int.reduceLE,Int.reduceLT,Int.reduceEq,Int.reduceNe,Int.reduceNeg,Nat.reduceDiv,Nat.reduceMod,Nat.reducePow,Zo,x0,x1,x2,x3,x4,x5,x6,x7,x8,x9,hN0,hN]):A:=e p0 p1 p2 p3 p4 p5 p6 p7 p8 p9
theorem Ykw {A:Prop} {P0:Prop} (p0:P0) {P1:Prop} (p1:P1) {P2:Prop} (p2:P2) {P3:Prop} (p3:P3) {P4:Prop} (p4:P4) {P5:Prop} (p5:P5) (e:P0→P1→P2→P3→P4→P5→A:=by intro x0 x1 x2 x3 x4 x5;simp only [push_cast,seval,↓reduceIte,Zo,x0,x1,x2,x3,x4,x5,hN0,hN]):A:=e p0 p1 p2 p3 p4 p5
theorem Yku {A B:Prop} (l0:List (Option Bool)) {P1:Prop} (p1:P1) {P2:Prop} (p2:P2) {P3:Prop} (p3:P3) {P4:Prop} (p4:P4) {P5:Prop} (p5:P5) {P6:Prop} (p6:P6) {P7:Prop} (p7:P7) {P8:Prop} (p8:P8) (b:B) (e:Ar l0→P1→P2→P3→P4→P5→P6→P7→P8→Hid B→A:=by intro x0 x1 x2 x3 x4 x5 x6 x7 x8 bZ;refine Xf Z5 x0.v ?_;simp only [push_cast,Nat.reduceAdd,Nat.reduceSub,Nat.reduceMul,Nat.reduceLeDiff,Nat.reduceLT,Nat.reduceEqDiff,↓reduceIte,reduceCtorEq,Int.reduceBEq,Int.reduceBNe,Nat.reduceBEq,Int.reduceLE,Int.reduceLT,Int.reduceEq,Int.reduceNe,Int.reduceNeg,Nat.reduceDiv,Nat.reduceMod,Nat.reducePow,Zo,Ar.v,x1,x2,x3,x4,x5,x6,x7,x8,hN0,hN];exact bZ.get):A:=e ⟨⟩ p1 p2 p3 p4 p5 p6 p7 p8 ⟨b⟩
theorem Yb3 {A:Prop} {P0:Prop} (p0:P0) (e:P0→A:=by intro x0;simp only [push_cast,seval,↓reduceIte,Zo,x0,hN0,hN]):A:=e p0
theorem Yh0 {A:Prop} {P0:Prop} (p0:P0) {P1:Prop} (p1:P1) {P2:Prop} (p2:P2) {P3:Prop} (p3:P3) {P4:Prop} (p4:P4) {P5:Prop} (p5:P5) {P6:Prop} (p6:P6) (e:P0→P1→P2→P3→P4→P5→P6→A:=by intro x0 x1 x2 x3 x4 x5 x6;have h9:=Option.some.inj x0;subst h9;refine And.intro rfl (Fit2.of (Yd hU rfl rfl ?_) (by omega));simp only [push_cast,seval,↓reduceIte,Zo,x1,x2,x3,x4,x5,x6,hN0,hN]):A:=e p0 p1 p2 p3 p4 p5 p6
end Go.Proofs.Ytbjcopkgdjombaa
