/- Part YD of this seat's mirrors: functions of the seat's program, and the plain functions that they are; each theorem bears its own conditions. -/
import Derived.Test.YtbcgiaijjaocdaaH25
namespace Go.Proofs.Ytbcgiaijjaocdaa
open Go.RowKit
set_option linter.unusedVariables false
set_option linter.unusedSimpArgs false
set_option maxRecDepth 100000
set_option maxHeartbeats 1000000
structure S_api_Tree where
 Kind:Int
 Words:(List Int)
 Kids:(List S_api_Tree)
noncomputable def Xz (Ji:(S_api_Tree→Int→Int→Option Int)) (a0:S_api_Tree) (a1:Int) (s0_:(Int×Int)):Option ((Int×Int) ⊕ Int) :=
 cond (cond (decide (s0_.2 < (a0.Kids.length:Int))) (decide (0≤s0_.1)) false) ((Xn a0.Kids s0_.2).bind fun x1=>(Ji x1 (IntKind.i64.wrap (a1 - 1)) s0_.1).bind fun y2=>some (.inl (y2,(IntKind.i64.wrap (s0_.2+1))))) (some (.inr s0_.1))
noncomputable def X3 (Ji:(S_api_Tree→Int→Int→Option Int)) (a0:S_api_Tree) (a1:Int) (a2:Int):Option Int :=
 cond (cond (a1 == 0) true (decide ((IntKind.i64.wrap ((IntKind.i64.wrap (a2 - 1)) - (a0.Words.length:Int))) < 0))) (some (-1)) ((Z0 (Xz Ji a0 a1) ((IntKind.i64.wrap ((IntKind.i64.wrap (a2 - 1)) - (a0.Words.length:Int))),0)).bind fun (z4:Int)=>some z4)
noncomputable def Yv:Nat→(S_api_Tree→Int→Int→Option Int)
 | 0=>(fun _ _ _=>none)
 | k+1=>X3 ((Yv k))
noncomputable def X5 (a0:S_api_Tree) (a1:Int) (a2:Int):Option Int:=lim fun k=>(Yv k) a0 a1 a2
structure Z3 where
 At:Int
 Mask:Int
 Old:Int
 New:Int
mutual
structure S_api_Edit where
 Kind:Int
 Old:S_api_Tree
 New:S_api_Tree
 Words:(List Z3)
 Kids:(List S_api_KidEdit)
 List_:Int
 Ops:(List S_api_Op)
structure S_api_Op where
 Kind:Int
 N:Int
 L:(List S_api_Tree)
 E:S_api_Edit
structure S_api_KidEdit where
 At:Int
 E:S_api_Edit
end
noncomputable def Ql (Qj:(S_api_Edit→Int→Int→Option Int)) (a0:S_api_Edit) (a1:Int) (s0_:(Int×Int)):Option ((Int×Int) ⊕ Int) :=
 cond (cond (decide (s0_.2 < (a0.Kids.length:Int))) (decide (0≤s0_.1)) false) ((Xn a0.Kids s0_.2).bind fun x6=>(Qj x6.E (IntKind.i64.wrap (a1 - 1)) s0_.1).bind fun y8=>some (.inl (y8,(IntKind.i64.wrap (s0_.2+1))))) (some (.inr s0_.1))
noncomputable def Kw (a0:S_api_Edit) (s1_:(Int×Int)) (s2_:(Int×Int)):Option ((Int×Int) ⊕ Int) :=
 (Xn a0.Ops s1_.2).bind fun x14=>cond (cond (decide (s2_.2 < (x14.L.length:Int))) (decide (0≤s2_.1)) false) ((Xn a0.Ops s1_.2).bind fun x16=>(Xn x16.L s2_.2).bind fun x18=>(X5 x18 80 s2_.1).bind fun y19=>some (.inl (y19,(IntKind.i64.wrap (s2_.2+1))))) (some (.inr s2_.1))
noncomputable def Qm (Qj:(S_api_Edit→Int→Int→Option Int)) (a0:S_api_Edit) (a1:Int) (s1_:(Int×Int)):Option ((Int×Int) ⊕ Int) :=
 cond (cond (decide (s1_.2 < (a0.Ops.length:Int))) (decide (0≤s1_.1)) false) (((Z0 (Kw a0 s1_) (s1_.1,0)).bind fun (z21:Int)=>cond (decide (0≤z21)) ((Xn a0.Ops s1_.2).bind fun x22=>(Qj x22.E (IntKind.i64.wrap (a1 - 1)) z21).bind fun y24=>some y24) (some z21)).bind fun (z11:Int)=>some (.inl (z11,(IntKind.i64.wrap (s1_.2+1))))) (some (.inr s1_.1))
noncomputable def Qv (Qj:(S_api_Edit→Int→Int→Option Int)) (a0:S_api_Edit) (a1:Int) (a2:Int):Option Int :=
 cond (cond (a1 == 0) true (decide ((IntKind.i64.wrap ((IntKind.i64.wrap ((IntKind.i64.wrap (a2 - 1)) - (a0.Words.length:Int))) - (a0.Ops.length:Int))) < 0))) (some (-1)) ((X5 a0.Old 80 (IntKind.i64.wrap ((IntKind.i64.wrap ((IntKind.i64.wrap (a2 - 1)) - (a0.Words.length:Int))) - (a0.Ops.length:Int)))).bind fun y2=>(cond (decide (0≤y2)) ((X5 a0.New 80 y2).bind fun y4=>some y4) (some y2)).bind fun (z3:Int)=>(Z0 (Ql Qj a0 a1) (z3,0)).bind fun (z10:Int)=>(Z0 (Qm Qj a0 a1) (z10,0)).bind fun (z27:Int)=>some z27)
noncomputable def Yr:Nat→(S_api_Edit→Int→Int→Option Int)
 | 0=>(fun _ _ _=>none)
 | k+1=>Qv ((Yr k))
noncomputable def Zdt (a0:S_api_Edit) (a1:Int) (a2:Int):Option Int:=lim fun k=>(Yr k) a0 a1 a2
noncomputable def Gd (a0:S_api_Edit):Option Bool :=
 (Zdt a0 80 3000).bind fun y2=>some (decide (0≤y2))
noncomputable def Qw (a0:S_api_Tree):Option Bool :=
 some (cond (a0.Kind == 0) ((IntKind.i64.wrap ((a0.Words.length:Int)+(a0.Kids.length:Int))) == 0) false)
noncomputable def Zcz (a0:Int):Option Int :=
 cond (a0 == 0) (some 0) (cond (a0 == 1) (some 1) (cond (a0 == 2) (some 8) (cond (a0 == 3) (some 16) (cond (a0 == 4) (some 32) (cond (a0 == 5) (some 64) (some (-1)))))))
noncomputable def X4 (y2:Int) (s0_:(Int×Int)):Option ((Int×Int) ⊕ Int) :=
 cond (decide (s0_.2 < y2)) (some (.inl ((IntKind.u64.wrap (Int.tdiv s0_.1 2)),(IntKind.i64.wrap (s0_.2+1))))) (some (.inr s0_.1))
noncomputable def K6 (a0:Int) (a1:Int):Option Bool :=
 (Zcz a0).bind fun y2=>cond (decide (y2 < 0)) (some false) ((Z0 (X4 y2) (a1,0)).bind fun (z4:Int)=>some (z4 == 0))
noncomputable def J8 (Km:(S_api_Tree→Int→Option Bool)) (a0:S_api_Tree) (a1:Int) (s0_:Int):Option (Int ⊕ (Unit ⊕ Unit)) :=
 cond (decide (s0_ < (a0.Kids.length:Int))) ((Xn a0.Kids s0_).bind fun x2=>(Km x2 (IntKind.i64.wrap (a1 - 1))).bind fun y4=>cond (!y4) (some (.inr (.inl ()))) ((cond ((cond (decide (2≤a0.Kind)) (decide (a0.Kind≤7)) false) != (x2.Kind == 10)) (some true) (cond (a0.Kind == 9) (cond (x2.Kind != 1) (some true) (cond (decide (2≤a0.Kind)) (cond (decide (a0.Kind≤7)) ((Xn x2.Words 0).bind fun x14=>(K6 (IntKind.i64.wrap (a0.Kind - 2)) x14).bind fun y15=>some (cond (cond ((cond (decide (2≤a0.Kind)) (decide (a0.Kind≤7)) false) != (x2.Kind == 10)) true (cond (a0.Kind == 9) (x2.Kind != 1) false)) true (cond (cond (decide (2≤a0.Kind)) (decide (a0.Kind≤7)) false) (!y15) false))) (some (cond (cond ((cond (decide (2≤a0.Kind)) (decide (a0.Kind≤7)) false) != (x2.Kind == 10)) true (cond (a0.Kind == 9) (x2.Kind != 1) false)) true false))) (some (cond (cond ((cond (decide (2≤a0.Kind)) (decide (a0.Kind≤7)) false) != (x2.Kind == 10)) true (cond (a0.Kind == 9) (x2.Kind != 1) false)) true false)))) (cond (decide (2≤a0.Kind)) (cond (decide (a0.Kind≤7)) ((Xn x2.Words 0).bind fun x16=>(K6 (IntKind.i64.wrap (a0.Kind - 2)) x16).bind fun y17=>some (cond (cond ((cond (decide (2≤a0.Kind)) (decide (a0.Kind≤7)) false) != (x2.Kind == 10)) true (cond (a0.Kind == 9) (x2.Kind != 1) false)) true (cond (cond (decide (2≤a0.Kind)) (decide (a0.Kind≤7)) false) (!y17) false))) (some (cond (cond ((cond (decide (2≤a0.Kind)) (decide (a0.Kind≤7)) false) != (x2.Kind == 10)) true (cond (a0.Kind == 9) (x2.Kind != 1) false)) true false))) (some (cond (cond ((cond (decide (2≤a0.Kind)) (decide (a0.Kind≤7)) false) != (x2.Kind == 10)) true (cond (a0.Kind == 9) (x2.Kind != 1) false)) true false))))).bind fun (z9:Bool)=>cond z9 (some (.inr (.inl ()))) (some (.inl (IntKind.i64.wrap (s0_+1)))))) (some (.inr (.inr ())))
noncomputable def Vo (Km:(S_api_Tree→Int→Option Bool)) (a0:S_api_Tree) (a1:Int):Option Bool :=
 cond (a0.Kind == 0) (some (cond ((a0.Words.length:Int) == 0) ((a0.Kids.length:Int) == 0) false)) (cond (a0.Kind == 10) (some (cond ((a0.Words.length:Int) == 1) ((a0.Kids.length:Int) == 0) false)) (cond (cond (cond (cond (cond (cond (decide (a0.Kind < 0)) true (decide (10 < a0.Kind))) true (a1 == 0)) true (decide (65536≤(a0.Words.length:Int)))) true (cond (a0.Kind == 1) (decide (65536≤(a0.Kids.length:Int))) false)) true (decide (1048576≤(a0.Kids.length:Int)))) (some false) (cond (cond (decide (1 < a0.Kind)) (decide (0 < (a0.Words.length:Int))) false) (some false) ((Z0 (J8 Km a0 a1) 0).bind fun (z28:(Unit ⊕ Unit))=>match z28 with | .inl z28=>some false | .inr z28=>some true))))
noncomputable def Qs:Nat→(S_api_Tree→Int→Option Bool)
 | 0=>(fun _ _=>none)
 | k+1=>Vo ((Qs k))
noncomputable def Kh (a0:S_api_Tree) (a1:Int):Option Bool:=lim fun k=>(Qs k) a0 a1
noncomputable def Kb (s0_:(Int×Int×(Arr Int 8))):Option ((Int×Int×(Arr Int 8)) ⊕ (Arr Int 8)) :=
 cond (decide (s0_.2.1 < 8)) ((Xn s0_.2.2.1 s0_.2.1).bind fun x15=>some (.inl ((IntKind.u64.wrap (Int.tdiv s0_.1 256)),(IntKind.i64.wrap (s0_.2.1+1)),(Arr.put s0_.2.2 s0_.2.1 (IntKind.u8.wrap (Int.tmod s0_.1 256)))))) (some (.inr s0_.2.2))
noncomputable def Kg (a0:Int):Option (Arr Int 8) :=
 ((some (⟨[0,0,0,0,0,0,0,0],rfl⟩:(Arr Int 8)))).bind fun y3=>((some (⟨[0,0,0,0,0,0,0,0],rfl⟩:(Arr Int 8)))).bind fun y9=>(Z0 (Kb) (a0,0,y9)).bind fun (z18:(Arr Int 8))=>some z18
noncomputable def Q1 (a1:Int) (s0_:(Int×Int)):Option ((Int×Int) ⊕ Int) :=
 cond (decide (s0_.2 < a1)) (some (.inl ((IntKind.u8.wrap (Int.tdiv s0_.1 2)),(IntKind.i64.wrap (s0_.2+1))))) (some (.inr s0_.1))
noncomputable def V0 (a0:Int) (a1:Int):Option Bool :=
 (Z0 (Q1 a1) (a0,0)).bind fun (z2:Int)=>some ((Int.tmod z2 2) == 1)
noncomputable def V1 (a0:(List Int)) (a1:Int) (s0_:(Int×Int)):Option ((Int×Int) ⊕ Int) :=
 cond (decide (0≤s0_.2)) ((Xn a0 (IntKind.i64.wrap (a1+s0_.2))).bind fun x1=>some (.inl ((IntKind.u64.wrap ((IntKind.u64.wrap (s0_.1 * 256))+(IntKind.u64.wrap x1))),(IntKind.i64.wrap (s0_.2 - 1))))) (some (.inr s0_.1))
noncomputable def Zct (a0:(List Int)) (a1:Int):Option Int :=
 (Z0 (V1 a0 a1) (0,7)).bind fun (z3:Int)=>some z3
noncomputable def Vh (a2:Int) (y9:(Arr Int 8)) (s0_:(Int×(Arr Int 8))):Option ((Int×(Arr Int 8)) ⊕ (Arr Int 8)) :=
 cond (decide (s0_.1 < 8)) (((V0 a2 s0_.1).bind fun y17=>cond y17 ((Xn y9.1 s0_.1).bind fun x18=>(Xn s0_.2.1 s0_.1).bind fun x19=>some (Arr.put s0_.2 s0_.1 x18)) (some s0_.2)).bind fun (z15:(Arr Int 8))=>some (.inl ((IntKind.i64.wrap (s0_.1+1)),z15))) (some (.inr s0_.2))
noncomputable def Gb (a0:Int) (a1:Int) (a2:Int):Option Int :=
 (Kg a0).bind fun y8=>(Kg a1).bind fun y9=>((some (⟨[0,0,0,0,0,0,0,0],rfl⟩:(Arr Int 8)))).bind fun y10=>(Z0 (Vh a2 y9) (0,y8)).bind fun (z23:(Arr Int 8))=>(Zct z23.1 0).bind fun y29=>some y29
noncomputable def Jx (a0:Int) (a1:Int):Option Bool :=
 (Gb a0 0 a1).bind fun y2=>some (y2 == 0)
noncomputable def K7 (a0:S_api_Edit):Option Bool :=
 (cond (a0.Kind == 0) ((Qw a0.Old).bind fun y6=>cond y6 ((Qw a0.New).bind fun y7=>some (cond (cond (cond (cond (a0.Kind == 0) y6 false) y7 false) ((IntKind.i64.wrap ((IntKind.i64.wrap ((a0.Words.length:Int)+(a0.Kids.length:Int)))+(a0.Ops.length:Int))) == 0) false) (a0.List_ == 0) false)) (some false)) (some false)).bind fun (z3:Bool)=>some z3
noncomputable def Jf (a0:S_api_Edit) (s0_:(Int×Int×Int)):Option ((Int×Int×Int) ⊕ (Int×Int)) :=
 cond (decide (s0_.2.2 < (a0.Ops.length:Int))) (((Xn a0.Ops s0_.2.2).bind fun x3=>(cond (x3.Kind == 3) (some 1) (some (IntKind.i64.wrap (x3.N+(x3.L.length:Int))))).bind fun (z4:Int)=>(cond (x3.Kind != 2) (some (IntKind.i64.wrap (s0_.1+z4))) (some s0_.1)).bind fun (z6:Int)=>(cond (x3.Kind != 1) (some (IntKind.i64.wrap (s0_.2.1+z4))) (some s0_.2.1)).bind fun (z8:Int)=>(cond (decide (1048576 < z6)) (some 1048576) (some z6)).bind fun (z10:Int)=>cond (decide (1048576 < z8)) (some (z10,1048576)) (some (z10,z8))).bind fun (z1:(Int×Int))=>some (.inl (z1.1,z1.2,(IntKind.i64.wrap (s0_.2.2+1))))) (some (.inr (s0_.1,s0_.2.1)))
noncomputable def Je (a0:S_api_Edit):Option (Int×Int) :=
 (Z0 (Jf a0) (0,0,0)).bind fun (z14:(Int×Int))=>some (z14.1,z14.2)
noncomputable def Qz (a0:S_api_Edit) (s0_:(Int×Int)):Option ((Int×Int) ⊕ (Unit ⊕ Unit)) :=
 cond (decide (s0_.2 < (a0.Words.length:Int))) ((Xn a0.Words s0_.2).bind fun x19=>(cond (decide (x19.At≤s0_.1)) (some true) (cond (decide (65534 < x19.At)) (some true) (cond (x19.Mask == 0) (some true) ((Jx x19.Old x19.Mask).bind fun y25=>cond y25 ((Jx x19.New x19.Mask).bind fun y26=>some (cond (cond (cond (cond (decide (x19.At≤s0_.1)) true (decide (65534 < x19.At))) true (x19.Mask == 0)) true (!y25)) true (!y26))) (some true))))).bind fun (z22:Bool)=>cond z22 (some (.inr (.inl ()))) (some (.inl (x19.At,(IntKind.i64.wrap (s0_.2+1)))))) (some (.inr (.inr ())))
noncomputable def Q0 (Xm:(S_api_Edit→Int→Option Bool)) (a0:S_api_Edit) (a1:Int) (s1_:(Int×Int)):Option ((Int×Int) ⊕ (Unit ⊕ Unit)) :=
 cond (decide (s1_.2 < (a0.Kids.length:Int))) ((Xn a0.Kids s1_.2).bind fun x35=>(cond (decide (x35.At≤s1_.1)) (some true) (cond (decide (65534 < x35.At)) (some true) (cond (x35.E.Kind == 0) (some true) ((Xm x35.E (IntKind.i64.wrap (a1 - 1))).bind fun y39=>some (cond (cond (cond (decide (x35.At≤s1_.1)) true (decide (65534 < x35.At))) true (x35.E.Kind == 0)) true (!y39)))))).bind fun (z37:Bool)=>cond z37 (some (.inr (.inl ()))) (some (.inl (x35.At,(IntKind.i64.wrap (s1_.2+1)))))) (some (.inr (.inr ())))
noncomputable def Qd (Qp:(Int→S_api_Op→Int→Option Bool)) (a0:S_api_Edit) (a1:Int) (s2_:Int):Option (Int ⊕ (Unit ⊕ Unit)) :=
 cond (decide (s2_ < (a0.Ops.length:Int))) ((Xn a0.Ops s2_).bind fun x48=>(Qp a0.List_ x48 (IntKind.i64.wrap (a1 - 1))).bind fun y49=>cond (!y49) (some (.inr (.inl ()))) (some (.inl (IntKind.i64.wrap (s2_+1))))) (some (.inr (.inr ())))
noncomputable def Vq (Xm:(S_api_Edit→Int→Option Bool)) (Qp:(Int→S_api_Op→Int→Option Bool)) (a0:S_api_Edit) (a1:Int):Option Bool :=
 cond (cond (cond (a1 == 0) true (decide (a0.Kind < 0))) true (decide (3 < a0.Kind))) (some false) ((cond (a0.Kind != 1) ((Qw a0.Old).bind fun y6=>cond y6 ((Qw a0.New).bind fun y7=>some (cond (cond (cond (a0.Kind != 1) (!(cond y6 y7 false)) false) true (cond (a0.Kind != 2) (decide (0 < (IntKind.i64.wrap ((a0.Words.length:Int)+(a0.Kids.length:Int))))) false)) true (cond (a0.Kind != 3) (cond (a0.List_ != 0) true (decide (0 < (a0.Ops.length:Int)))) false))) (some true)) (some (cond (cond (a0.Kind != 2) (decide (0 < (IntKind.i64.wrap ((a0.Words.length:Int)+(a0.Kids.length:Int))))) false) true (cond (a0.Kind != 3) (cond (a0.List_ != 0) true (decide (0 < (a0.Ops.length:Int)))) false)))).bind fun (z3:Bool)=>cond z3 (some false) (cond (a0.Kind == 1) (((Kh a0.Old 64).bind fun y15=>cond y15 ((Kh a0.New 64).bind fun y16=>some (cond (cond (cond y15 y16 false) (a0.Old.Kind != 10) false) (a0.New.Kind != 10) false)) (some false)).bind fun (z12:Bool)=>some z12) ((Z0 (Qz a0) ((-1),0)).bind fun (z33:(Unit ⊕ Unit))=>match z33 with | .inl z33=>some false | .inr z33=>(Z0 (Q0 Xm a0 a1) ((-1),0)).bind fun (z45:(Unit ⊕ Unit))=>match z45 with | .inl z45=>some false | .inr z45=>cond (cond (a0.Kind == 3) (cond (decide (a0.List_ < 2)) true (decide (9 < a0.List_))) false) (some false) ((Z0 (Qd Qp a0 a1) 0).bind fun (z52:(Unit ⊕ Unit))=>match z52 with | .inl z52=>some false | .inr z52=>(Je a0).bind fun y54=>some (cond (decide (y54.1 < 1048576)) (decide (y54.2 < 1048576)) false)))))
noncomputable def Vr (a0:Int) (a1:S_api_Op) (s0_:Int):Option (Int ⊕ (Unit ⊕ Unit)) :=
 cond (decide (s0_ < (a1.L.length:Int))) ((Zd5 a1.L s0_ (IntKind.i64.wrap (s0_+1))).bind fun l10=>(Kh (⟨a0,[],l10⟩:S_api_Tree) 64).bind fun y11=>cond (!y11) (some (.inr (.inl ()))) (some (.inl (IntKind.i64.wrap (s0_+1))))) (some (.inr (.inr ())))
noncomputable def G0 (Xm:(S_api_Edit→Int→Option Bool)) (Qp:(Int→S_api_Op→Int→Option Bool)) (a0:Int) (a1:S_api_Op) (a2:Int):Option Bool :=
 cond (a1.Kind == 0) ((cond (decide (1≤a1.N)) (cond (decide (a1.N≤1048576)) (cond ((a1.L.length:Int) == 0) ((K7 a1.E).bind fun y4=>some (cond (cond (cond (decide (1≤a1.N)) (decide (a1.N≤1048576)) false) ((a1.L.length:Int) == 0) false) y4 false)) (some false)) (some false)) (some false)).bind fun (z2:Bool)=>some z2) (cond (cond (cond (a1.N != 0) true (decide (a1.Kind < 0))) true (decide (3 < a1.Kind))) (some false) (cond (decide (a1.Kind < 3)) ((Z0 (Vr a0 a1) 0).bind fun (z14:(Unit ⊕ Unit))=>match z14 with | .inl z14=>some false | .inr z14=>(cond (decide (0 < (a1.L.length:Int))) ((K7 a1.E).bind fun y18=>some (cond (decide (0 < (a1.L.length:Int))) y18 false)) (some false)).bind fun (z16:Bool)=>some z16) ((cond (decide (0 < (a1.L.length:Int))) (some true) (cond (a1.E.Kind == 0) (some true) (cond (decide (a0≤7)) (some true) ((Xm a1.E a2).bind fun y23=>some (cond (cond (cond (decide (0 < (a1.L.length:Int))) true (a1.E.Kind == 0)) true (decide (a0≤7))) true (!y23)))))).bind fun (z21:Bool)=>cond z21 (some false) (some (cond (cond (a0 == 8) true (a1.E.Kind == 2)) true (cond (cond (a1.E.Kind == 1) (a1.E.Old.Kind == 1) false) (a1.E.New.Kind == 1) false))))))
noncomputable def Yk:Nat→((S_api_Edit→Int→Option Bool)×(Int→S_api_Op→Int→Option Bool))
 | 0=>((fun _ _=>none),(fun _ _ _=>none))
 | k+1=>(Vq ((Yk k).1) ((Yk k).2),G0 ((Yk k).1) ((Yk k).2))
noncomputable def Zc1 (a0:S_api_Edit) (a1:Int):Option Bool:=lim fun k=>(Yk k).1 a0 a1
noncomputable def J9 (X6:(S_api_Edit→Option Bool)) (a0:S_api_Edit) (s0_:Int):Option (Int ⊕ (Unit ⊕ Unit)) :=
 cond (decide (s0_ < (a0.Kids.length:Int))) ((Xn a0.Kids s0_).bind fun x6=>(X6 x6.E).bind fun y8=>cond (!y8) (some (.inr (.inl ()))) (some (.inl (IntKind.i64.wrap (s0_+1))))) (some (.inr (.inr ())))
noncomputable def Ka (X6:(S_api_Edit→Option Bool)) (a0:S_api_Edit) (s1_:Int):Option (Int ⊕ (Unit ⊕ Unit)) :=
 cond (decide (s1_ < (a0.Ops.length:Int))) ((Xn a0.Ops s1_).bind fun x15=>(X6 x15.E).bind fun y17=>cond (!y17) (some (.inr (.inl ()))) (some (.inl (IntKind.i64.wrap (s1_+1))))) (some (.inr (.inr ())))
noncomputable def Vp (X6:(S_api_Edit→Option Bool)) (a0:S_api_Edit):Option Bool :=
 (Je a0).bind fun y2=>cond (cond (decide (2000 < y2.1)) true (decide (2000 < y2.2))) (some false) ((Z0 (J9 X6 a0) 0).bind fun (z11:(Unit ⊕ Unit))=>match z11 with | .inl z11=>some false | .inr z11=>(Z0 (Ka X6 a0) 0).bind fun (z20:(Unit ⊕ Unit))=>match z20 with | .inl z20=>some false | .inr z20=>some true)
noncomputable def Qt:Nat→(S_api_Edit→Option Bool)
 | 0=>(fun _=>none)
 | k+1=>Vp ((Qt k))
noncomputable def Zc0 (a0:S_api_Edit):Option Bool:=lim fun k=>(Qt k) a0
noncomputable def Uk (a0:S_api_Edit):Option Bool :=
 ((Gd a0).bind fun y8=>cond y8 ((Zc1 a0 64).bind fun y9=>cond y9 ((Zc0 a0).bind fun y10=>some (cond (cond y8 y9 false) y10 false)) (some false)) (some false)).bind fun (z4:Bool)=>some z4
noncomputable def Gc (a0:S_api_Tree):Option Bool :=
 (X5 a0 80 3000).bind fun y2=>some (decide (0≤y2))
structure Zw where
 out:(List S_api_Op)
 kept:Int
 gone:(List S_api_Tree)
 come:(List S_api_Tree)
noncomputable def Xr (a0:Zw):Option Zw :=
 (cond (decide (0 < a0.kept)) ((Zch 240 a0.out ([(⟨0,0,[],⟨0,⟨0,[],[]⟩,⟨0,[],[]⟩,[],[],0,[]⟩⟩:S_api_Op)]:List S_api_Op)).bind fun l2=>(Xn l2 (a0.out.length:Int)).bind fun x3=>some (a0.out++[(⟨0,a0.kept,[],⟨0,⟨0,[],[]⟩,⟨0,[],[]⟩,[],[],0,[]⟩⟩:S_api_Op)])) (some a0.out)).bind fun (z1:(List S_api_Op))=>(cond (decide (0 < (a0.gone.length:Int))) ((Zch 240 z1 ([(⟨0,0,[],⟨0,⟨0,[],[]⟩,⟨0,[],[]⟩,[],[],0,[]⟩⟩:S_api_Op)]:List S_api_Op)).bind fun l9=>(Xn l9 (z1.length:Int)).bind fun x10=>some ((z1++[(⟨1,0,a0.gone,⟨0,⟨0,[],[]⟩,⟨0,[],[]⟩,[],[],0,[]⟩⟩:S_api_Op)]),a0.gone)) (some (z1,a0.gone))).bind fun (z6:((List S_api_Op)×(List S_api_Tree)))=>(cond (decide (0 < (a0.come.length:Int))) ((Zch 240 z6.1 ([(⟨0,0,[],⟨0,⟨0,[],[]⟩,⟨0,[],[]⟩,[],[],0,[]⟩⟩:S_api_Op)]:List S_api_Op)).bind fun l16=>(Xn l16 (z6.1.length:Int)).bind fun x17=>some ((z6.1++[(⟨2,0,a0.come,⟨0,⟨0,[],[]⟩,⟨0,[],[]⟩,[],[],0,[]⟩⟩:S_api_Op)]),a0.come)) (some (z6.1,a0.come))).bind fun (z13:((List S_api_Op)×(List S_api_Tree)))=>some (⟨z13.1,0,[],[]⟩:Zw)
noncomputable def Jh (a0:Zw) (a1:Int):Option Zw :=
 (cond (a0.kept == 0) ((Xr (⟨a0.out,a0.kept,a0.gone,a0.come⟩:Zw)).bind fun y2=>some (y2.out,y2.gone,y2.come,y2.kept)) (some (a0.out,a0.gone,a0.come,a0.kept))).bind fun (z1:((List S_api_Op)×(List S_api_Tree)×(List S_api_Tree)×Int))=>some (⟨z1.1,(IntKind.i64.wrap (z1.2.2.2+a1)),z1.2.1,z1.2.2.1⟩:Zw)
noncomputable def Vi (a0:(List Int)) (s0_:Int):Option (Int ⊕ Int) :=
 (cond (decide (0 < s0_)) ((Xn a0 (IntKind.i64.wrap (s0_ - 1))).bind fun x4=>some (cond (decide (0 < s0_)) (x4 == 0) false)) (some false)).bind fun (z2:Bool)=>cond z2 (some (.inl (IntKind.i64.wrap (s0_ - 1)))) (some (.inr s0_))
noncomputable def Ki (a0:(List Int)):Option (List Int) :=
 (Z0 (Vi a0) (a0.length:Int)).bind fun (z7:Int)=>(Zd5 a0 0 z7).bind fun l9=>some l9
noncomputable def V2 (a0:(List S_api_Tree)) (s0_:Int):Option (Int ⊕ Int) :=
 (cond (decide (0 < s0_)) ((Xn a0 (IntKind.i64.wrap (s0_ - 1))).bind fun x6=>some (cond (decide (0 < s0_)) (x6.Kind == 0) false)) (some false)).bind fun (z3:Bool)=>cond z3 (some (.inl (IntKind.i64.wrap (s0_ - 1)))) (some (.inr s0_))
noncomputable def Ve (a0:(List S_api_Tree)):Option (List S_api_Tree) :=
 (Z0 (V2 a0) (a0.length:Int)).bind fun (z10:Int)=>(Zd5 a0 0 z10).bind fun l12=>some l12
noncomputable def U8 (Zc9:(S_api_Tree→Option S_api_Tree)) (z1:((List Int)×(List S_api_Tree))) (s0_:(Int×(List S_api_Tree))):Option ((Int×(List S_api_Tree)) ⊕ (List S_api_Tree)) :=
 cond (decide (s0_.1 < (z1.2.length:Int))) ((Xn z1.2 s0_.1).bind fun x9=>(Zc9 x9).bind fun y10=>(Xn s0_.2 s0_.1).bind fun x11=>some (.inl ((IntKind.i64.wrap (s0_.1+1)),(Zc4 s0_.2 s0_.1 y10)))) (some (.inr s0_.2))
noncomputable def Zet (Zc9:(S_api_Tree→Option S_api_Tree)) (a0:S_api_Tree):Option S_api_Tree :=
 cond (a0.Kind == 0) (some (⟨0,[],[]⟩:S_api_Tree)) ((cond (a0.Kind == 1) ((Ki a0.Words).bind fun y2=>(Ve a0.Kids).bind fun y3=>some (y2,y3)) (some (a0.Words,a0.Kids))).bind fun (z1:((List Int)×(List S_api_Tree)))=>(cond (decide (0 < (z1.2.length:Int))) ((Zjc 56 (z1.2.length:Int) (⟨(0:Int),[],[]⟩:S_api_Tree)).bind fun l6=>some l6) (some ([]:List S_api_Tree))).bind fun (z5:(List S_api_Tree))=>(Z0 (U8 Zc9 z1) (0,z5)).bind fun (z14:(List S_api_Tree))=>some (⟨a0.Kind,z1.1,z14⟩:S_api_Tree))
noncomputable def Vk:Nat→(S_api_Tree→Option S_api_Tree)
 | 0=>(fun _=>none)
 | k+1=>Zet ((Vk k))
noncomputable def Gj (a0:S_api_Tree):Option S_api_Tree:=lim fun k=>(Vk k) a0
noncomputable def Qg (a2:(List S_api_Tree)) (s0_:(Int×(List S_api_Tree))):Option ((Int×(List S_api_Tree)) ⊕ (List S_api_Tree)) :=
 cond (decide (s0_.1 < (a2.length:Int))) ((Xn a2 s0_.1).bind fun x5=>(Gj x5).bind fun y6=>(Zch 56 s0_.2 ([(⟨0,[],[]⟩:S_api_Tree)]:List S_api_Tree)).bind fun l7=>(Xn l7 (s0_.2.length:Int)).bind fun x8=>some (.inl ((IntKind.i64.wrap (s0_.1+1)),(s0_.2++[y6])))) (some (.inr s0_.2))
noncomputable def Q5 (a0:Zw) (a2:(List S_api_Tree)):Option Zw :=
 (cond (decide (0 < a0.kept)) ((Xr (⟨a0.out,a0.kept,a0.gone,a0.come⟩:Zw)).bind fun y2=>some (y2.out,y2.gone,y2.come,y2.kept)) (some (a0.out,a0.gone,a0.come,a0.kept))).bind fun (z1:((List S_api_Op)×(List S_api_Tree)×(List S_api_Tree)×Int))=>(Z0 (Qg a2) (0,z1.2.1)).bind fun (z11:(List S_api_Tree))=>some (⟨z1.1,z1.2.2.2,z11,z1.2.2.1⟩:Zw)
noncomputable def Qh (a2:(List S_api_Tree)) (s0_:(Int×(List S_api_Tree))):Option ((Int×(List S_api_Tree)) ⊕ (List S_api_Tree)) :=
 cond (decide (s0_.1 < (a2.length:Int))) ((Xn a2 s0_.1).bind fun x5=>(Gj x5).bind fun y6=>(Zch 56 s0_.2 ([(⟨0,[],[]⟩:S_api_Tree)]:List S_api_Tree)).bind fun l7=>(Xn l7 (s0_.2.length:Int)).bind fun x8=>some (.inl ((IntKind.i64.wrap (s0_.1+1)),(s0_.2++[y6])))) (some (.inr s0_.2))
noncomputable def Q6 (a0:Zw) (a2:(List S_api_Tree)):Option Zw :=
 (cond (decide (0 < a0.kept)) ((Xr (⟨a0.out,a0.kept,a0.gone,a0.come⟩:Zw)).bind fun y2=>some (y2.out,y2.gone,y2.come,y2.kept)) (some (a0.out,a0.gone,a0.come,a0.kept))).bind fun (z1:((List S_api_Op)×(List S_api_Tree)×(List S_api_Tree)×Int))=>(Z0 (Qh a2) (0,z1.2.2.1)).bind fun (z11:(List S_api_Tree))=>some (⟨z1.1,z1.2.2.2,z1.2.1,z11⟩:Zw)
noncomputable def Qe (a0:List Z3):Option (List Z3) :=
 Zch 32 ([]:List Z3) a0
noncomputable def Zcl (a0:Int) (a1:S_api_Edit):Option Bool :=
 some (cond (a1.Kind == 0) true (cond (cond (a0 == 9) (a1.Kind == 2) false) ((IntKind.i64.wrap ((a1.Words.length:Int)+(a1.Kids.length:Int))) == 0) false))
noncomputable def Jg (a0:Zw) (a1:Int) (a2:S_api_Edit):Option Zw :=
 (Zcl a1 a2).bind fun y2=>cond y2 ((Jh (⟨a0.out,a0.kept,a0.gone,a0.come⟩:Zw) 1).bind fun y4=>some (⟨y4.out,y4.kept,y4.gone,y4.come⟩:Zw)) ((Xr (⟨a0.out,a0.kept,a0.gone,a0.come⟩:Zw)).bind fun y6=>(Zch 240 y6.out ([(⟨0,0,[],⟨0,⟨0,[],[]⟩,⟨0,[],[]⟩,[],[],0,[]⟩⟩:S_api_Op)]:List S_api_Op)).bind fun l7=>(Xn l7 (y6.out.length:Int)).bind fun x8=>some (⟨(y6.out++[(⟨3,0,[],a2⟩:S_api_Op)]),y6.kept,y6.gone,y6.come⟩:Zw))
noncomputable def U7 (Qa:(S_api_Edit→Option S_api_Edit)) (a0:S_api_Edit) (s0_:(Int×(List S_api_KidEdit))):Option ((Int×(List S_api_KidEdit)) ⊕ (List S_api_KidEdit)) :=
 cond (decide (s0_.1 < (a0.Kids.length:Int))) ((Xn a0.Kids s0_.1).bind fun x8=>(Qa x8.E).bind fun y9=>(Zch 208 s0_.2 ([(⟨x8.At,y9⟩:S_api_KidEdit)]:List S_api_KidEdit)).bind fun l10=>some (.inl ((IntKind.i64.wrap (s0_.1+1)),l10))) (some (.inr s0_.2))
noncomputable def Zci (Qa:(S_api_Edit→Option S_api_Edit)) (Ur:(Int→(List S_api_Op)→Option (List S_api_Op))) (a0:S_api_Edit):Option S_api_Edit :=
 cond (a0.Kind == 1) ((Gj a0.Old).bind fun y3=>(Gj a0.New).bind fun y4=>some (⟨1,y3,y4,[],[],0,[]⟩:S_api_Edit)) (cond (a0.Kind == 2) ((Qe a0.Words).bind fun y6=>(Z0 (U7 Qa a0) (0,([]:List S_api_KidEdit))).bind fun (z12:(List S_api_KidEdit))=>some (⟨2,⟨0,[],[]⟩,⟨0,[],[]⟩,y6,z12,0,[]⟩:S_api_Edit)) (cond (a0.Kind == 3) ((Ur a0.List_ a0.Ops).bind fun y14=>some (⟨3,⟨0,[],[]⟩,⟨0,[],[]⟩,[],[],a0.List_,y14⟩:S_api_Edit)) (some (⟨0,⟨0,[],[]⟩,⟨0,[],[]⟩,[],[],0,[]⟩:S_api_Edit))))
noncomputable def Vc (Qa:(S_api_Edit→Option S_api_Edit)) (a0:Int) (a1:(List S_api_Op)) (s0_:(Int×Int×(List S_api_Op)×(List S_api_Tree)×(List S_api_Tree))):Option ((Int×Int×(List S_api_Op)×(List S_api_Tree)×(List S_api_Tree)) ⊕ (Int×(List S_api_Op)×(List S_api_Tree)×(List S_api_Tree))) :=
 cond (decide (s0_.1 < (a1.length:Int))) (((Xn a1 s0_.1).bind fun x3=>cond (x3.Kind == 0) ((Jh (⟨s0_.2.2.1,s0_.2.1,s0_.2.2.2.1,s0_.2.2.2.2⟩:Zw) x3.N).bind fun y4=>some (y4.kept,y4.out,y4.gone,y4.come)) (cond (x3.Kind == 1) ((Q5 (⟨s0_.2.2.1,s0_.2.1,s0_.2.2.2.1,s0_.2.2.2.2⟩:Zw) x3.L).bind fun y5=>some (y5.kept,y5.out,y5.gone,y5.come)) (cond (x3.Kind == 2) ((Q6 (⟨s0_.2.2.1,s0_.2.1,s0_.2.2.2.1,s0_.2.2.2.2⟩:Zw) x3.L).bind fun y6=>some (y6.kept,y6.out,y6.gone,y6.come)) (cond (x3.Kind == 3) ((Qa x3.E).bind fun y7=>(Jg (⟨s0_.2.2.1,s0_.2.1,s0_.2.2.2.1,s0_.2.2.2.2⟩:Zw) a0 y7).bind fun y8=>some (y8.kept,y8.out,y8.gone,y8.come)) (some (s0_.2.1,s0_.2.2.1,s0_.2.2.2.1,s0_.2.2.2.2)))))).bind fun (z1:(Int×(List S_api_Op)×(List S_api_Tree)×(List S_api_Tree)))=>some (.inl ((IntKind.i64.wrap (s0_.1+1)),z1.1,z1.2.1,z1.2.2.1,z1.2.2.2))) (some (.inr (s0_.2.1,s0_.2.2.1,s0_.2.2.2.1,s0_.2.2.2.2)))
noncomputable def Zb3 (Qa:(S_api_Edit→Option S_api_Edit)) (Ur:(Int→(List S_api_Op)→Option (List S_api_Op))) (a0:Int) (a1:(List S_api_Op)):Option (List S_api_Op) :=
 (Z0 (Vc Qa a0 a1) (0,0,([]:List S_api_Op),([]:List S_api_Tree),([]:List S_api_Tree))).bind fun (z14:(Int×(List S_api_Op)×(List S_api_Tree)×(List S_api_Tree)))=>(Xr (⟨z14.2.1,z14.1,z14.2.2.1,z14.2.2.2⟩:Zw)).bind fun y16=>some y16.out
noncomputable def Xk:Nat→((S_api_Edit→Option S_api_Edit)×(Int→(List S_api_Op)→Option (List S_api_Op)))
 | 0=>((fun _=>none),(fun _ _=>none))
 | k+1=>(Zci ((Xk k).1) ((Xk k).2),Zb3 ((Xk k).1) ((Xk k).2))
noncomputable def Zg6 (a0:S_api_Edit):Option S_api_Edit:=lim fun k=>(Xk k).1 a0
noncomputable def Zia (a0:Int) (a1:(List S_api_Op)):Option (List S_api_Op):=lim fun k=>(Xk k).2 a0 a1
noncomputable def Kf :Option Bool :=
 (Zia 4 ([(⟨2,0,([(⟨10,([1]:List Int),[]⟩:S_api_Tree)]:List S_api_Tree),⟨0,⟨0,[],[]⟩,⟨0,[],[]⟩,[],[],0,[]⟩⟩:S_api_Op),(⟨1,0,([(⟨10,([2]:List Int),[]⟩:S_api_Tree)]:List S_api_Tree),⟨0,⟨0,[],[]⟩,⟨0,[],[]⟩,[],[],0,[]⟩⟩:S_api_Op),(⟨0,1,[],⟨0,⟨0,[],[]⟩,⟨0,[],[]⟩,[],[],0,[]⟩⟩:S_api_Op),(⟨0,2,[],⟨0,⟨0,[],[]⟩,⟨0,[],[]⟩,[],[],0,[]⟩⟩:S_api_Op)]:List S_api_Op)).bind fun y2=>(cond ((y2.length:Int) == 3) ((Xn y2 0).bind fun x20=>cond (x20.Kind == 1) ((Xn y2 1).bind fun x22=>cond (x22.Kind == 2) ((Xn y2 2).bind fun x24=>cond (x24.Kind == 0) (some (cond (cond (cond (cond ((y2.length:Int) == 3) (x20.Kind == 1) false) (x22.Kind == 2) false) (x24.Kind == 0) false) (x24.N == 3) false)) (some false)) (some false)) (some false)) (some false)).bind fun (z11:Bool)=>some z11
noncomputable def Xx (a0:(List Int)) (a1:(List Int)) (s0_:Int):Option (Int ⊕ (Unit ⊕ Unit)) :=
 cond (decide (s0_ < (a0.length:Int))) ((Xn a0 s0_).bind fun x3=>(Xn a1 s0_).bind fun x4=>cond (x3 != x4) (some (.inr (.inl ()))) (some (.inl (IntKind.i64.wrap (s0_+1))))) (some (.inr (.inr ())))
noncomputable def Xt (a0:(List Int)) (a1:(List Int)):Option Bool :=
 cond ((a0.length:Int) != (a1.length:Int)) (some false) ((Z0 (Xx a0 a1) 0).bind fun (z7:(Unit ⊕ Unit))=>match z7 with | .inl z7=>some false | .inr z7=>some true)
noncomputable def Zdg (Ks:(S_api_Tree→S_api_Tree→Option Bool)) (Zz:((List S_api_Tree)→(List S_api_Tree)→Option Bool)) (a0:S_api_Tree) (a1:S_api_Tree):Option Bool :=
 cond (a0.Kind != a1.Kind) (some false) (cond (a0.Kind == 0) (some true) (cond (a0.Kind == 1) (((Ki a0.Words).bind fun y14=>(Ki a1.Words).bind fun y15=>(Xt y14 y15).bind fun y16=>cond y16 ((Ve a0.Kids).bind fun y17=>(Ve a1.Kids).bind fun y18=>(Zz y17 y18).bind fun y19=>some (cond y16 y19 false)) (some false)).bind fun (z7:Bool)=>some z7) (((Xt a0.Words a1.Words).bind fun y26=>cond y26 ((Zz a0.Kids a1.Kids).bind fun y27=>some (cond y26 y27 false)) (some false)).bind fun (z23:Bool)=>some z23)))
noncomputable def Ya (Ks:(S_api_Tree→S_api_Tree→Option Bool)) (a0:(List S_api_Tree)) (a1:(List S_api_Tree)) (s0_:Int):Option (Int ⊕ (Unit ⊕ Unit)) :=
 cond (decide (s0_ < (a0.length:Int))) ((Xn a0 s0_).bind fun x2=>(Xn a1 s0_).bind fun x4=>(Ks x2 x4).bind fun y6=>cond (!y6) (some (.inr (.inl ()))) (some (.inl (IntKind.i64.wrap (s0_+1))))) (some (.inr (.inr ())))
noncomputable def Yc (Ks:(S_api_Tree→S_api_Tree→Option Bool)) (Zz:((List S_api_Tree)→(List S_api_Tree)→Option Bool)) (a0:(List S_api_Tree)) (a1:(List S_api_Tree)):Option Bool :=
 cond ((a0.length:Int) != (a1.length:Int)) (some false) ((Z0 (Ya Ks a0 a1) 0).bind fun (z9:(Unit ⊕ Unit))=>match z9 with | .inl z9=>some false | .inr z9=>some true)
noncomputable def Xq:Nat→((S_api_Tree→S_api_Tree→Option Bool)×((List S_api_Tree)→(List S_api_Tree)→Option Bool))
 | 0=>((fun _ _=>none),(fun _ _=>none))
 | k+1=>(Zdg ((Xq k).1) ((Xq k).2),Yc ((Xq k).1) ((Xq k).2))
noncomputable def Zib (a0:S_api_Tree) (a1:S_api_Tree):Option Bool:=lim fun k=>(Xq k).1 a0 a1
noncomputable def Y9 (a0:(List S_api_Tree)) (a1:(List S_api_Tree)):Option Bool:=lim fun k=>(Xq k).2 a0 a1
noncomputable def Vd (a0:List Int):Option (List Int) :=
 Zch 8 ([]:List Int) a0
noncomputable def Jt (a0:List S_api_Tree):Option (List S_api_Tree) :=
 Zch 56 ([]:List S_api_Tree) a0
noncomputable def Ze3 (a0:S_api_Tree) (a1:Int):Option Int :=
 cond (cond (decide (a1 < 0)) true (decide ((a0.Words.length:Int)≤a1))) (some 0) ((Xn a0.Words a1).bind fun x2=>some x2)
noncomputable def V6 (a0:Int):Option Bool :=
 some (cond (decide (a0 < 0)) true (decide (65534 < a0)))
noncomputable def Zbh (a0:Int) (s0_:(Int×Int)):Option ((Int×Int) ⊕ Int) :=
 cond (decide (s0_.2 < 8)) (((Zh3 (0≤s0_.2)).bind fun u3=>cond ((IntKind.u8.wrap (Zc7 .u8 (Int.fdiv a0 (2 ^ min (Int.toNat s0_.2) 8)) 1)) == 1) ((Zh3 (0≤(IntKind.i64.wrap (8 * s0_.2)))).bind fun u4=>some (IntKind.u64.wrap (Zqg .u64 s0_.1 (IntKind.u64.wrap (255 * 2 ^ min (Int.toNat (IntKind.i64.wrap (8 * s0_.2))) 64))))) (some s0_.1)).bind fun (z1:Int)=>some (.inl (z1,(IntKind.i64.wrap (s0_.2+1))))) (some (.inr s0_.1))
noncomputable def Uo (a0:Int):Option Int :=
 (Z0 (Zbh a0) (0,0)).bind fun (z7:Int)=>some z7
noncomputable def Zed (a0:Int) (a1:Int) (a2:Int):Option Int :=
 (Uo a2).bind fun y2=>some (IntKind.u64.wrap (Zqg .u64 (IntKind.u64.wrap (Zs6 .u64 a0 y2)) (IntKind.u64.wrap (Zc7 .u64 a1 y2))))
noncomputable def Vz (a1:Int) (a2:Int) (s0_:(List Int)):Option ((List Int) ⊕ (List Int)) :=
 cond (cond (decide ((s0_.length:Int)≤a1)) (a2 != 0) false) ((Zch 8 s0_ ([0]:List Int)).bind fun l1=>some (.inl l1)) (some (.inr s0_))
noncomputable def Zaf (a0:S_api_Tree) (a1:Int) (a2:Int):Option S_api_Tree :=
 (Z0 (Vz a1 a2) a0.Words).bind fun (z3:(List Int))=>cond (decide (a1 < (z3.length:Int))) ((Xn z3 a1).bind fun x4=>some (⟨a0.Kind,(Zc4 z3 a1 a2),a0.Kids⟩:S_api_Tree)) (some (⟨a0.Kind,z3,a0.Kids⟩:S_api_Tree))
noncomputable def Zf0 (a0:S_api_Tree) (a1:Int):Option S_api_Tree :=
 cond (cond (decide (a1 < 0)) true (decide ((a0.Kids.length:Int)≤a1))) (some (⟨0,[],[]⟩:S_api_Tree)) ((Xn a0.Kids a1).bind fun x2=>some x2)
noncomputable def Ui (a1:Int) (a2:S_api_Tree) (s0_:(List S_api_Tree)):Option ((List S_api_Tree) ⊕ (List S_api_Tree)) :=
 cond (cond (decide ((s0_.length:Int)≤a1)) (a2.Kind != 0) false) ((Zch 56 s0_ ([(⟨0,[],[]⟩:S_api_Tree)]:List S_api_Tree)).bind fun l1=>(Xn l1 (s0_.length:Int)).bind fun x2=>some (.inl (s0_++[(⟨0,[],[]⟩:S_api_Tree)]))) (some (.inr s0_))
noncomputable def Zbe (a0:S_api_Tree) (a1:Int) (a2:S_api_Tree):Option S_api_Tree :=
 (Z0 (Ui a1 a2) a0.Kids).bind fun (z5:(List S_api_Tree))=>cond (decide (a1 < (z5.length:Int))) ((Xn z5 a1).bind fun x6=>some (⟨a0.Kind,a0.Words,(Zc4 z5 a1 a2)⟩:S_api_Tree)) (some (⟨a0.Kind,a0.Words,z5⟩:S_api_Tree))
noncomputable def Zbg (a0:Int):Option Bool :=
 some (cond (decide (2≤a0)) (decide (a0≤9)) false)
structure Zi where
 left:(List S_api_Tree)
 out:(List S_api_Tree)
noncomputable def Ub (Y4:(S_api_Edit→S_api_Tree→Option (S_api_Tree×Bool))) (Yi:(S_api_Edit→S_api_Tree→Option (S_api_Tree×Bool))) (Xh:(S_api_Edit→S_api_Tree→Option (S_api_Tree×Bool))) (Z8:(Zi→S_api_Op→Option (Bool×Zi))) (Z6:(Zi→S_api_Edit→Option (Bool×Zi))) (a0:S_api_Edit) (a1:S_api_Tree):Option (S_api_Tree×Bool) :=
 cond (a0.Kind == 0) (some (a1,true)) (cond (a0.Kind == 1) ((Zib a1 a0.Old).bind fun y2=>some (a0.New,y2)) (cond (a0.Kind == 2) ((Yi a0 a1).bind fun y4=>some (y4.1,y4.2)) (cond (a0.Kind == 3) ((Xh a0 a1).bind fun y6=>some (y6.1,y6.2)) (some ((⟨0,[],[]⟩:S_api_Tree),false)))))
noncomputable def Qk (a0:S_api_Edit) (a1:S_api_Tree) (s0_:(Int×Int×(List Int)×(List S_api_Tree))):Option ((Int×Int×(List Int)×(List S_api_Tree)) ⊕ (Unit ⊕ (Int×(List Int)×(List S_api_Tree)))) :=
 cond (decide (s0_.1 < (a0.Words.length:Int))) ((Xn a0.Words s0_.1).bind fun x110=>(Ze3 a1 x110.At).bind fun y112=>((V6 x110.At).bind fun y118=>cond y118 (some true) ((Uo x110.Mask).bind fun y119=>some (cond y118 true ((IntKind.u64.wrap (Zc7 .u64 (IntKind.u64.wrap (Ze2 .u64 y112 x110.Old)) y119)) != 0)))).bind fun (z115:Bool)=>cond z115 (some (.inr (.inl ()))) ((Zed y112 x110.New x110.Mask).bind fun y121=>(Zaf (⟨s0_.2.1,s0_.2.2.1,s0_.2.2.2⟩:S_api_Tree) x110.At y121).bind fun y122=>some (.inl ((IntKind.i64.wrap (s0_.1+1)),y122.Kind,y122.Words,y122.Kids)))) (some (.inr (.inr (s0_.2.1,s0_.2.2.1,s0_.2.2.2))))
noncomputable def X2 (Y4:(S_api_Edit→S_api_Tree→Option (S_api_Tree×Bool))) (a0:S_api_Edit) (a1:S_api_Tree) (s1_:(Int×Int×(List Int)×(List S_api_Tree))):Option ((Int×Int×(List Int)×(List S_api_Tree)) ⊕ (Unit ⊕ (Int×(List Int)×(List S_api_Tree)))) :=
 cond (decide (s1_.1 < (a0.Kids.length:Int))) ((Xn a0.Kids s1_.1).bind fun x127=>(Zf0 a1 x127.At).bind fun y130=>(Y4 x127.E y130).bind fun y131=>(V6 x127.At).bind fun y133=>cond (cond y133 true (!y131.2)) (some (.inr (.inl ()))) ((Zbe (⟨s1_.2.1,s1_.2.2.1,s1_.2.2.2⟩:S_api_Tree) x127.At y131.1).bind fun y134=>some (.inl ((IntKind.i64.wrap (s1_.1+1)),y134.Kind,y134.Words,y134.Kids)))) (some (.inr (.inr (s1_.2.1,s1_.2.2.1,s1_.2.2.2))))
noncomputable def K4 (Y4:(S_api_Edit→S_api_Tree→Option (S_api_Tree×Bool))) (Yi:(S_api_Edit→S_api_Tree→Option (S_api_Tree×Bool))) (Xh:(S_api_Edit→S_api_Tree→Option (S_api_Tree×Bool))) (Z8:(Zi→S_api_Op→Option (Bool×Zi))) (Z6:(Zi→S_api_Edit→Option (Bool×Zi))) (a0:S_api_Edit) (a1:S_api_Tree):Option (S_api_Tree×Bool) :=
 cond (a1.Kind != 1) (some ((⟨0,[],[]⟩:S_api_Tree),false)) ((Vd a1.Words).bind fun y25=>(Jt a1.Kids).bind fun y61=>(Z0 (Qk a0 a1) (0,1,y25,y61)).bind fun (z125:(Unit ⊕ (Int×(List Int)×(List S_api_Tree))))=>match z125 with | .inl z125=>some ((⟨0,[],[]⟩:S_api_Tree),false) | .inr z125=>(Z0 (X2 Y4 a0 a1) (0,z125.1,z125.2.1,z125.2.2)).bind fun (z137:(Unit ⊕ (Int×(List Int)×(List S_api_Tree))))=>match z137 with | .inl z137=>some ((⟨0,[],[]⟩:S_api_Tree),false) | .inr z137=>some ((⟨z137.1,z137.2.1,z137.2.2⟩:S_api_Tree),true))
noncomputable def J3 (Z8:(Zi→S_api_Op→Option (Bool×Zi))) (a0:S_api_Edit) (s0_:(Int×(List S_api_Tree)×(List S_api_Tree))):Option ((Int×(List S_api_Tree)×(List S_api_Tree)) ⊕ (Unit ⊕ ((List S_api_Tree)×(List S_api_Tree)))) :=
 cond (decide (s0_.1 < (a0.Ops.length:Int))) ((Xn a0.Ops s0_.1).bind fun x7=>(Z8 (⟨s0_.2.1,s0_.2.2⟩:Zi) x7).bind fun y9=>cond (!y9.1) (some (.inr (.inl ()))) (some (.inl ((IntKind.i64.wrap (s0_.1+1)),y9.2.left,y9.2.out)))) (some (.inr (.inr (s0_.2.1,s0_.2.2))))
noncomputable def Zb2 (Y4:(S_api_Edit→S_api_Tree→Option (S_api_Tree×Bool))) (Yi:(S_api_Edit→S_api_Tree→Option (S_api_Tree×Bool))) (Xh:(S_api_Edit→S_api_Tree→Option (S_api_Tree×Bool))) (Z8:(Zi→S_api_Op→Option (Bool×Zi))) (Z6:(Zi→S_api_Edit→Option (Bool×Zi))) (a0:S_api_Edit) (a1:S_api_Tree):Option (S_api_Tree×Bool) :=
 (cond (a1.Kind != a0.List_) (some true) ((Zbg a1.Kind).bind fun y4=>some (cond (a1.Kind != a0.List_) true (!y4)))).bind fun (z2:Bool)=>cond z2 (some ((⟨0,[],[]⟩:S_api_Tree),false)) ((Z0 (J3 Z8 a0) (0,a1.Kids,([]:List S_api_Tree))).bind fun (z12:(Unit ⊕ ((List S_api_Tree)×(List S_api_Tree))))=>match z12 with | .inl z12=>some ((⟨0,[],[]⟩:S_api_Tree),false) | .inr z12=>some ((⟨a1.Kind,[],z12.2⟩:S_api_Tree),((z12.1.length:Int) == 0)))
noncomputable def Vf (Y4:(S_api_Edit→S_api_Tree→Option (S_api_Tree×Bool))) (Yi:(S_api_Edit→S_api_Tree→Option (S_api_Tree×Bool))) (Xh:(S_api_Edit→S_api_Tree→Option (S_api_Tree×Bool))) (Z8:(Zi→S_api_Op→Option (Bool×Zi))) (Z6:(Zi→S_api_Edit→Option (Bool×Zi))) (a0:Zi) (a1:S_api_Op):Option (Bool×Zi) :=
 cond (a1.Kind == 0) ((cond (decide (a1.N < 0)) (some true) (some (cond (decide (a1.N < 0)) true (decide ((a0.left.length:Int) < a1.N))))).bind fun (z1:Bool)=>cond z1 (some (false,(⟨a0.left,a0.out⟩:Zi))) ((Zd5 a0.left 0 a1.N).bind fun l5=>(Zch 56 a0.out l5).bind fun l6=>(Zd5 a0.left a1.N (a0.left.length:Int)).bind fun l8=>some (true,(⟨l8,l6⟩:Zi)))) (cond (a1.Kind == 1) ((cond (decide ((a0.left.length:Int) < (a1.L.length:Int))) (some true) ((Zd5 a0.left 0 (a1.L.length:Int)).bind fun l15=>(Y9 l15 a1.L).bind fun y16=>some (cond (decide ((a0.left.length:Int) < (a1.L.length:Int))) true (!y16)))).bind fun (z12:Bool)=>cond z12 (some (false,(⟨a0.left,a0.out⟩:Zi))) ((Zd5 a0.left (a1.L.length:Int) (a0.left.length:Int)).bind fun l19=>some (true,(⟨l19,a0.out⟩:Zi)))) (cond (a1.Kind == 2) ((Zch 56 a0.out a1.L).bind fun l22=>some (true,(⟨a0.left,l22⟩:Zi))) (cond (a1.Kind == 3) ((Z6 (⟨a0.left,a0.out⟩:Zi) a1.E).bind fun y24=>some (y24.1,(⟨y24.2.left,y24.2.out⟩:Zi))) (some (false,(⟨a0.left,a0.out⟩:Zi))))))
noncomputable def Jq (Y4:(S_api_Edit→S_api_Tree→Option (S_api_Tree×Bool))) (Yi:(S_api_Edit→S_api_Tree→Option (S_api_Tree×Bool))) (Xh:(S_api_Edit→S_api_Tree→Option (S_api_Tree×Bool))) (Z8:(Zi→S_api_Op→Option (Bool×Zi))) (Z6:(Zi→S_api_Edit→Option (Bool×Zi))) (a0:Zi) (a1:S_api_Edit):Option (Bool×Zi) :=
 cond ((a0.left.length:Int) == 0) (some (false,(⟨a0.left,a0.out⟩:Zi))) ((Xn a0.left 0).bind fun x3=>(Y4 a1 x3).bind fun y4=>(Zch 56 a0.out ([(⟨0,[],[]⟩:S_api_Tree)]:List S_api_Tree)).bind fun l8=>(Xn l8 (a0.out.length:Int)).bind fun x9=>(Zd5 a0.left 1 (a0.left.length:Int)).bind fun l12=>some (y4.2,(⟨l12,(a0.out++[y4.1])⟩:Zi)))
noncomputable def Zq:Nat→((S_api_Edit→S_api_Tree→Option (S_api_Tree×Bool))×(S_api_Edit→S_api_Tree→Option (S_api_Tree×Bool))×(S_api_Edit→S_api_Tree→Option (S_api_Tree×Bool))×(Zi→S_api_Op→Option (Bool×Zi))×(Zi→S_api_Edit→Option (Bool×Zi)))
 | 0=>((fun _ _=>none),(fun _ _=>none),(fun _ _=>none),(fun _ _=>none),(fun _ _=>none))
 | k+1=>(Ub ((Zq k).1) ((Zq k).2.1) ((Zq k).2.2.1) ((Zq k).2.2.2.1) ((Zq k).2.2.2.2),K4 ((Zq k).1) ((Zq k).2.1) ((Zq k).2.2.1) ((Zq k).2.2.2.1) ((Zq k).2.2.2.2),Zb2 ((Zq k).1) ((Zq k).2.1) ((Zq k).2.2.1) ((Zq k).2.2.2.1) ((Zq k).2.2.2.2),Vf ((Zq k).1) ((Zq k).2.1) ((Zq k).2.2.1) ((Zq k).2.2.2.1) ((Zq k).2.2.2.2),Jq ((Zq k).1) ((Zq k).2.1) ((Zq k).2.2.1) ((Zq k).2.2.2.1) ((Zq k).2.2.2.2))
noncomputable def Zh8 (a0:S_api_Edit) (a1:S_api_Tree):Option (S_api_Tree×Bool):=lim fun k=>(Zq k).1 a0 a1
noncomputable def Zb7 (a0:S_api_Edit) (a1:S_api_Tree):Option (S_api_Tree×Bool) :=
 (Zh8 a0 a1).bind fun y2=>cond (!y2.2) (some ((⟨0,[],[]⟩:S_api_Tree),false)) ((Gj y2.1).bind fun y4=>some (y4,true))
noncomputable def Vn (a0:S_api_Tree):Option Bool :=
 some (cond (a0.Kind != 0) true (decide (0 < (IntKind.i64.wrap ((a0.Words.length:Int)+(a0.Kids.length:Int))))))
noncomputable def K0 (a0:Bool) (a1:Bool) (a2:Bool) (a3:S_api_Edit):Option Bool :=
 (cond a0 ((Vn a3.Old).bind fun y6=>cond y6 (some false) ((Vn a3.New).bind fun y7=>some (cond (cond (!(cond a0 (cond y6 true y7) false)) (!(cond a1 (decide (0 < (IntKind.i64.wrap ((a3.Words.length:Int)+(a3.Kids.length:Int))))) false)) false) (!(cond a2 (cond (a3.List_ != 0) true (decide (0 < (a3.Ops.length:Int)))) false)) false))) (some (cond (!(cond a1 (decide (0 < (IntKind.i64.wrap ((a3.Words.length:Int)+(a3.Kids.length:Int))))) false)) (!(cond a2 (cond (a3.List_ != 0) true (decide (0 < (a3.Ops.length:Int)))) false)) false))).bind fun (z3:Bool)=>some z3
noncomputable def K1 (a0:(List S_api_Tree)) (s0_:Int):Option (Int ⊕ (Unit ⊕ Unit)) :=
 cond (decide (s0_ < (a0.length:Int))) ((Xn a0 s0_).bind fun x2=>cond (x2.Kind != 1) (some (.inr (.inl ()))) (some (.inl (IntKind.i64.wrap (s0_+1))))) (some (.inr (.inr ())))
noncomputable def Un (a0:(List S_api_Tree)):Option Bool :=
 (Z0 (K1 a0) 0).bind fun (z5:(Unit ⊕ Unit))=>match z5 with | .inl z5=>some false | .inr z5=>some true
noncomputable def Zic (a0:Int):Option (Int×Bool) :=
 ((some (⟨[0,1,8,16,32,64],rfl⟩:(Arr Int 6)))).bind fun y6=>((some (⟨[0,0,0,0,0,0],rfl⟩:(Arr Int 6)))).bind fun y8=>cond (cond (decide (a0 < 0)) true (decide (6≤a0))) (some (0,false)) ((Xn y6.1 a0).bind fun x12=>some (x12,true))
noncomputable def Ze4 (a0:Int) (a1:Int):Option Bool :=
 (Zic a0).bind fun y2=>(cond y2.2 ((Zh3 (0≤y2.1)).bind fun u6=>some (cond y2.2 ((Int.fdiv a1 (2 ^ min (Int.toNat y2.1) 64)) == 0) false)) (some false)).bind fun (z4:Bool)=>some z4
noncomputable def Zdh (Xo:(S_api_Tree→Option Bool)) (Xi:(S_api_Tree→Int→Option Bool)) (Y1:((List S_api_Tree)→Int→Option Bool)) (Xd:((List S_api_Tree)→Int→Option Bool)) (a0:S_api_Tree):Option Bool :=
 cond (a0.Kind == 10) (some (cond ((a0.Words.length:Int) == 1) ((a0.Kids.length:Int) == 0) false)) ((Xi a0 64).bind fun y2=>some y2)
noncomputable def Zdi (Xo:(S_api_Tree→Option Bool)) (Xi:(S_api_Tree→Int→Option Bool)) (Y1:((List S_api_Tree)→Int→Option Bool)) (Xd:((List S_api_Tree)→Int→Option Bool)) (a0:S_api_Tree) (a1:Int):Option Bool :=
 cond (a0.Kind == 0) (some (cond ((a0.Words.length:Int) == 0) ((a0.Kids.length:Int) == 0) false)) (cond (a1 == 0) (some false) (cond (a0.Kind == 1) ((cond (decide ((a0.Words.length:Int) < 65536)) (cond (decide ((a0.Kids.length:Int) < 65536)) ((Y1 a0.Kids (IntKind.i64.wrap (a1 - 1))).bind fun y4=>some (cond (cond (decide ((a0.Words.length:Int) < 65536)) (decide ((a0.Kids.length:Int) < 65536)) false) y4 false)) (some false)) (some false)).bind fun (z2:Bool)=>some z2) ((Zbg a0.Kind).bind fun y8=>cond (cond (cond (!y8) true (decide (0 < (a0.Words.length:Int)))) true (decide (1048576≤(a0.Kids.length:Int)))) (some false) (cond (a0.Kind == 8) ((Y1 a0.Kids (IntKind.i64.wrap (a1 - 1))).bind fun y10=>some y10) (cond (a0.Kind == 9) (((Un a0.Kids).bind fun y16=>cond y16 ((Y1 a0.Kids (IntKind.i64.wrap (a1 - 1))).bind fun y17=>some (cond y16 y17 false)) (some false)).bind fun (z13:Bool)=>some z13) ((Xd a0.Kids (IntKind.i64.wrap (a0.Kind - 2))).bind fun y20=>some y20))))))
noncomputable def Vu (Xi:(S_api_Tree→Int→Option Bool)) (a0:(List S_api_Tree)) (a1:Int) (s0_:Int):Option (Int ⊕ (Unit ⊕ Unit)) :=
 cond (decide (s0_ < (a0.length:Int))) ((Xn a0 s0_).bind fun x2=>(Xi x2 a1).bind fun y4=>cond (!y4) (some (.inr (.inl ()))) (some (.inl (IntKind.i64.wrap (s0_+1))))) (some (.inr (.inr ())))
noncomputable def Zac (Xo:(S_api_Tree→Option Bool)) (Xi:(S_api_Tree→Int→Option Bool)) (Y1:((List S_api_Tree)→Int→Option Bool)) (Xd:((List S_api_Tree)→Int→Option Bool)) (a0:(List S_api_Tree)) (a1:Int):Option Bool :=
 (Z0 (Vu Xi a0 a1) 0).bind fun (z7:(Unit ⊕ Unit))=>match z7 with | .inl z7=>some false | .inr z7=>some true
noncomputable def Vt (Xo:(S_api_Tree→Option Bool)) (a0:(List S_api_Tree)) (a1:Int) (s0_:Int):Option (Int ⊕ (Unit ⊕ Unit)) :=
 cond (decide (s0_ < (a0.length:Int))) ((Xn a0 s0_).bind fun x2=>(cond (x2.Kind != 10) (some true) ((Xo x2).bind fun y10=>cond y10 ((Xn x2.Words 0).bind fun x11=>(Ze4 a1 x11).bind fun y12=>some (cond (cond (x2.Kind != 10) true (!y10)) true (!y12))) (some true))).bind fun (z6:Bool)=>cond z6 (some (.inr (.inl ()))) (some (.inl (IntKind.i64.wrap (s0_+1))))) (some (.inr (.inr ())))
noncomputable def Zab (Xo:(S_api_Tree→Option Bool)) (Xi:(S_api_Tree→Int→Option Bool)) (Y1:((List S_api_Tree)→Int→Option Bool)) (Xd:((List S_api_Tree)→Int→Option Bool)) (a0:(List S_api_Tree)) (a1:Int):Option Bool :=
 (Z0 (Vt Xo a0 a1) 0).bind fun (z17:(Unit ⊕ Unit))=>match z17 with | .inl z17=>some false | .inr z17=>some true
noncomputable def Z5:Nat→((S_api_Tree→Option Bool)×(S_api_Tree→Int→Option Bool)×((List S_api_Tree)→Int→Option Bool)×((List S_api_Tree)→Int→Option Bool))
 | 0=>((fun _=>none),(fun _ _=>none),(fun _ _=>none),(fun _ _=>none))
 | k+1=>(Zdh ((Z5 k).1) ((Z5 k).2.1) ((Z5 k).2.2.1) ((Z5 k).2.2.2),Zdi ((Z5 k).1) ((Z5 k).2.1) ((Z5 k).2.2.1) ((Z5 k).2.2.2),Zac ((Z5 k).1) ((Z5 k).2.1) ((Z5 k).2.2.1) ((Z5 k).2.2.2),Zab ((Z5 k).1) ((Z5 k).2.1) ((Z5 k).2.2.1) ((Z5 k).2.2.2))
noncomputable def Zfm (a0:S_api_Tree):Option Bool:=lim fun k=>(Z5 k).1 a0
noncomputable def Zb8 (a0:S_api_Tree):Option Bool :=
 (cond (a0.Kind != 10) ((Zfm a0).bind fun y4=>some (cond (a0.Kind != 10) y4 false)) (some false)).bind fun (z2:Bool)=>some z2
noncomputable def Kz (a0:(List Z3)) (s0_:(Int×Int)):Option ((Int×Int) ⊕ (Unit ⊕ Unit)) :=
 cond (decide (s0_.2 < (a0.length:Int))) ((Xn a0 s0_.2).bind fun x2=>(Uo x2.Mask).bind fun y4=>cond (cond (cond (cond (cond (decide (x2.At≤s0_.1)) true (decide (65534 < x2.At))) true (x2.Mask == 0)) true ((IntKind.u64.wrap (Zc7 .u64 x2.Old (IntKind.u64.wrap (Ze2 .u64 (if IntKind.signed .u64=true then -1 else IntKind.max .u64) y4)))) != 0)) true ((IntKind.u64.wrap (Zc7 .u64 x2.New (IntKind.u64.wrap (Ze2 .u64 (if IntKind.signed .u64=true then -1 else IntKind.max .u64) y4)))) != 0)) (some (.inr (.inl ()))) (some (.inl (x2.At,(IntKind.i64.wrap (s0_.2+1)))))) (some (.inr (.inr ())))
noncomputable def Um (a0:(List Z3)):Option Bool :=
 (Z0 (Kz a0) ((-1),0)).bind fun (z7:(Unit ⊕ Unit))=>match z7 with | .inl z7=>some false | .inr z7=>some true
noncomputable def Zag (a0:Int) (a1:S_api_Edit):Option Bool :=
 cond (a0 == 8) (some (a1.Kind != 0)) (cond (a0 == 9) (some (cond (a1.Kind == 2) true (cond (cond (a1.Kind == 1) (a1.Old.Kind == 1) false) (a1.New.Kind == 1) false))) (some false))
noncomputable def Ge (a0:S_api_Op):Option Int :=
 cond (a0.Kind == 0) (some (if 1048576 < (if a0.N < 0 then 0 else a0.N) then 1048576 else (if a0.N < 0 then 0 else a0.N))) ((cond (a0.Kind == 1) (some (a0.Kind == 1)) (some (a0.Kind == 2))).bind fun (z1:Bool)=>cond z1 (some (a0.L.length:Int)) (cond (a0.Kind == 3) (some 1) (some 0)))
noncomputable def Ul (a0:S_api_Edit) (s0_:(Int×Int×Int)):Option ((Int×Int×Int) ⊕ (Int×Int)) :=
 cond (decide (s0_.2.2 < (a0.Ops.length:Int))) (((Xn a0.Ops s0_.2.2).bind fun x3=>(cond (x3.Kind != 2) ((Ge x3).bind fun y5=>some (if 1048576 < (IntKind.i64.wrap (s0_.1+y5)) then 1048576 else (IntKind.i64.wrap (s0_.1+y5)))) (some s0_.1)).bind fun (z4:Int)=>cond (x3.Kind != 1) ((Ge x3).bind fun y7=>some (z4,(if 1048576 < (IntKind.i64.wrap (s0_.2.1+y7)) then 1048576 else (IntKind.i64.wrap (s0_.2.1+y7))))) (some (z4,s0_.2.1))).bind fun (z1:(Int×Int))=>some (.inl (z1.1,z1.2,(IntKind.i64.wrap (s0_.2.2+1))))) (some (.inr (s0_.1,s0_.2.1)))
noncomputable def Zbf (a0:S_api_Edit):Option (Int×Int) :=
 (Z0 (Ul a0) (0,0,0)).bind fun (z10:(Int×Int))=>some (z10.1,z10.2)
noncomputable def Zde (Yt:(S_api_Edit→Option Bool)) (Yp:(S_api_Edit→Int→Option Bool)) (Yb:((List S_api_KidEdit)→Int→Option Bool)) (Ye:(S_api_Edit→Int→Option Bool)) (Yf:(Int→S_api_Op→Int→Option Bool)) (Z9:(Bool→Bool→Bool→S_api_Op→Option Bool)) (a0:S_api_Edit):Option Bool :=
 (Yp a0 64).bind fun y2=>some y2
noncomputable def Zdf (Yt:(S_api_Edit→Option Bool)) (Yp:(S_api_Edit→Int→Option Bool)) (Yb:((List S_api_KidEdit)→Int→Option Bool)) (Ye:(S_api_Edit→Int→Option Bool)) (Yf:(Int→S_api_Op→Int→Option Bool)) (Z9:(Bool→Bool→Bool→S_api_Op→Option Bool)) (a0:S_api_Edit) (a1:Int):Option Bool :=
 cond (a1 == 0) (some false) (cond (a0.Kind == 0) ((K0 true true true a0).bind fun y2=>some y2) (cond (a0.Kind == 1) (((K0 false true true a0).bind fun y10=>cond y10 ((Zb8 a0.Old).bind fun y11=>cond y11 ((Zb8 a0.New).bind fun y12=>some (cond (cond y10 y11 false) y12 false)) (some false)) (some false)).bind fun (z6:Bool)=>some z6) (cond (a0.Kind == 2) (((K0 true false true a0).bind fun y22=>cond y22 ((Um a0.Words).bind fun y23=>cond y23 ((Yb a0.Kids (IntKind.i64.wrap (a1 - 1))).bind fun y24=>some (cond (cond y22 y23 false) y24 false)) (some false)) (some false)).bind fun (z18:Bool)=>some z18) (cond (a0.Kind == 3) (((K0 true true false a0).bind fun y32=>cond y32 ((Ye a0 (IntKind.i64.wrap (a1 - 1))).bind fun y33=>some (cond y32 y33 false)) (some false)).bind fun (z29:Bool)=>some z29) (some false)))))
noncomputable def Vg (Yp:(S_api_Edit→Int→Option Bool)) (a0:(List S_api_KidEdit)) (a1:Int) (s0_:(Int×Int)):Option ((Int×Int) ⊕ (Unit ⊕ Unit)) :=
 cond (decide (s0_.2 < (a0.length:Int))) ((Xn a0 s0_.2).bind fun x2=>(cond (decide (x2.At≤s0_.1)) (some true) (cond (decide (65534 < x2.At)) (some true) (cond (x2.E.Kind == 0) (some true) ((Yp x2.E a1).bind fun y6=>some (cond (cond (cond (decide (x2.At≤s0_.1)) true (decide (65534 < x2.At))) true (x2.E.Kind == 0)) true (!y6)))))).bind fun (z4:Bool)=>cond z4 (some (.inr (.inl ()))) (some (.inl (x2.At,(IntKind.i64.wrap (s0_.2+1)))))) (some (.inr (.inr ())))
noncomputable def U5 (Yt:(S_api_Edit→Option Bool)) (Yp:(S_api_Edit→Int→Option Bool)) (Yb:((List S_api_KidEdit)→Int→Option Bool)) (Ye:(S_api_Edit→Int→Option Bool)) (Yf:(Int→S_api_Op→Int→Option Bool)) (Z9:(Bool→Bool→Bool→S_api_Op→Option Bool)) (a0:(List S_api_KidEdit)) (a1:Int):Option Bool :=
 (Z0 (Vg Yp a0 a1) ((-1),0)).bind fun (z12:(Unit ⊕ Unit))=>match z12 with | .inl z12=>some false | .inr z12=>some true
noncomputable def Vs (Yf:(Int→S_api_Op→Int→Option Bool)) (a0:S_api_Edit) (a1:Int) (s0_:Int):Option (Int ⊕ (Unit ⊕ Unit)) :=
 cond (decide (s0_ < (a0.Ops.length:Int))) ((Xn a0.Ops s0_).bind fun x4=>(Yf a0.List_ x4 a1).bind fun y6=>cond (!y6) (some (.inr (.inl ()))) (some (.inl (IntKind.i64.wrap (s0_+1))))) (some (.inr (.inr ())))
noncomputable def Zaa (Yt:(S_api_Edit→Option Bool)) (Yp:(S_api_Edit→Int→Option Bool)) (Yb:((List S_api_KidEdit)→Int→Option Bool)) (Ye:(S_api_Edit→Int→Option Bool)) (Yf:(Int→S_api_Op→Int→Option Bool)) (Z9:(Bool→Bool→Bool→S_api_Op→Option Bool)) (a0:S_api_Edit) (a1:Int):Option Bool :=
 (Zbg a0.List_).bind fun y2=>cond (!y2) (some false) ((Z0 (Vs Yf a0 a1) 0).bind fun (z9:(Unit ⊕ Unit))=>match z9 with | .inl z9=>some false | .inr z9=>(Zbf a0).bind fun y11=>some (cond (decide (y11.1 < 1048576)) (decide (y11.2 < 1048576)) false))
noncomputable def Za7 (Yt:(S_api_Edit→Option Bool)) (Yp:(S_api_Edit→Int→Option Bool)) (Yb:((List S_api_KidEdit)→Int→Option Bool)) (Ye:(S_api_Edit→Int→Option Bool)) (Yf:(Int→S_api_Op→Int→Option Bool)) (Z9:(Bool→Bool→Bool→S_api_Op→Option Bool)) (a0:Int) (a1:S_api_Op) (a2:Int):Option Bool :=
 (cond (a1.Kind == 0) ((Z9 false true true a1).bind fun y3=>some (.inr (.inl (cond (cond y3 (decide (1≤a1.N)) false) (decide (a1.N≤1048576)) false)))) (cond (a1.Kind == 1) (some (.inl ())) (cond (a1.Kind == 2) (some (.inl ())) (cond (a1.Kind == 3) (some (.inr (.inr (.inl ())))) (some (.inr (.inr (.inr ())))))))).bind fun (z1:(Unit ⊕ (Bool ⊕ (Unit ⊕ Unit))))=>match z1 with | .inl z1=>((Z9 true false true a1).bind fun y13=>cond y13 (cond (decide (0 < (a1.L.length:Int))) ((Zfm (⟨a0,[],a1.L⟩:S_api_Tree)).bind fun y14=>some (cond (cond y13 (decide (0 < (a1.L.length:Int))) false) y14 false)) (some false)) (some false)).bind fun (z10:Bool)=>some z10 | .inr z1=>match z1 with | .inl z1=>some z1 | .inr z1=>match z1 with | .inl z1=>((Z9 true true false a1).bind fun y24=>cond y24 ((Zag a0 a1.E).bind fun y25=>cond y25 ((Yp a1.E a2).bind fun y26=>some (cond (cond y24 y25 false) y26 false)) (some false)) (some false)).bind fun (z20:Bool)=>some z20 | .inr z1=>some false
noncomputable def U6 (Yt:(S_api_Edit→Option Bool)) (Yp:(S_api_Edit→Int→Option Bool)) (Yb:((List S_api_KidEdit)→Int→Option Bool)) (Ye:(S_api_Edit→Int→Option Bool)) (Yf:(Int→S_api_Op→Int→Option Bool)) (Z9:(Bool→Bool→Bool→S_api_Op→Option Bool)) (a0:Bool) (a1:Bool) (a2:Bool) (a3:S_api_Op):Option Bool :=
 (cond a0 (cond (a3.N != 0) (some false) (cond a1 (cond (decide (0 < (a3.L.length:Int))) (some false) (cond a2 (cond (a3.E.Kind != 0) (some (cond (cond (!(cond a0 (a3.N != 0) false)) (!(cond a1 (decide (0 < (a3.L.length:Int))) false)) false) (!(cond a2 true false)) false)) ((Yt a3.E).bind fun y10=>some (cond (cond (!(cond a0 (a3.N != 0) false)) (!(cond a1 (decide (0 < (a3.L.length:Int))) false)) false) (!(cond a2 (cond (a3.E.Kind != 0) true (!y10)) false)) false))) (some (cond (cond (!(cond a0 (a3.N != 0) false)) (!(cond a1 (decide (0 < (a3.L.length:Int))) false)) false) true false)))) (cond a2 (cond (a3.E.Kind != 0) (some (cond (cond (!(cond a0 (a3.N != 0) false)) (!(cond a1 (decide (0 < (a3.L.length:Int))) false)) false) (!(cond a2 true false)) false)) ((Yt a3.E).bind fun y11=>some (cond (cond (!(cond a0 (a3.N != 0) false)) (!(cond a1 (decide (0 < (a3.L.length:Int))) false)) false) (!(cond a2 (cond (a3.E.Kind != 0) true (!y11)) false)) false))) (some (cond (cond (!(cond a0 (a3.N != 0) false)) (!(cond a1 (decide (0 < (a3.L.length:Int))) false)) false) true false))))) (cond a1 (cond (decide (0 < (a3.L.length:Int))) (some false) (cond a2 (cond (a3.E.Kind != 0) (some (cond (cond (!(cond a0 (a3.N != 0) false)) (!(cond a1 (decide (0 < (a3.L.length:Int))) false)) false) (!(cond a2 true false)) false)) ((Yt a3.E).bind fun y12=>some (cond (cond (!(cond a0 (a3.N != 0) false)) (!(cond a1 (decide (0 < (a3.L.length:Int))) false)) false) (!(cond a2 (cond (a3.E.Kind != 0) true (!y12)) false)) false))) (some (cond (cond (!(cond a0 (a3.N != 0) false)) (!(cond a1 (decide (0 < (a3.L.length:Int))) false)) false) true false)))) (cond a2 (cond (a3.E.Kind != 0) (some (cond (cond (!(cond a0 (a3.N != 0) false)) (!(cond a1 (decide (0 < (a3.L.length:Int))) false)) false) (!(cond a2 true false)) false)) ((Yt a3.E).bind fun y13=>some (cond (cond (!(cond a0 (a3.N != 0) false)) (!(cond a1 (decide (0 < (a3.L.length:Int))) false)) false) (!(cond a2 (cond (a3.E.Kind != 0) true (!y13)) false)) false))) (some (cond (cond (!(cond a0 (a3.N != 0) false)) (!(cond a1 (decide (0 < (a3.L.length:Int))) false)) false) true false))))).bind fun (z5:Bool)=>some z5
noncomputable def Zp:Nat→((S_api_Edit→Option Bool)×(S_api_Edit→Int→Option Bool)×((List S_api_KidEdit)→Int→Option Bool)×(S_api_Edit→Int→Option Bool)×(Int→S_api_Op→Int→Option Bool)×(Bool→Bool→Bool→S_api_Op→Option Bool))
 | 0=>((fun _=>none),(fun _ _=>none),(fun _ _=>none),(fun _ _=>none),(fun _ _ _=>none),(fun _ _ _ _=>none))
 | k+1=>(Zde ((Zp k).1) ((Zp k).2.1) ((Zp k).2.2.1) ((Zp k).2.2.2.1) ((Zp k).2.2.2.2.1) ((Zp k).2.2.2.2.2),Zdf ((Zp k).1) ((Zp k).2.1) ((Zp k).2.2.1) ((Zp k).2.2.2.1) ((Zp k).2.2.2.2.1) ((Zp k).2.2.2.2.2),U5 ((Zp k).1) ((Zp k).2.1) ((Zp k).2.2.1) ((Zp k).2.2.2.1) ((Zp k).2.2.2.2.1) ((Zp k).2.2.2.2.2),Zaa ((Zp k).1) ((Zp k).2.1) ((Zp k).2.2.1) ((Zp k).2.2.2.1) ((Zp k).2.2.2.2.1) ((Zp k).2.2.2.2.2),Za7 ((Zp k).1) ((Zp k).2.1) ((Zp k).2.2.1) ((Zp k).2.2.2.1) ((Zp k).2.2.2.2.1) ((Zp k).2.2.2.2.2),U6 ((Zp k).1) ((Zp k).2.1) ((Zp k).2.2.1) ((Zp k).2.2.2.1) ((Zp k).2.2.2.2.1) ((Zp k).2.2.2.2.2))
noncomputable def Zh9 (a0:S_api_Edit):Option Bool:=lim fun k=>(Zp k).1 a0
noncomputable def Ky (a0:(List Int)) (a1:(List Int)) (s0_:Int):Option (Int ⊕ (Unit ⊕ Unit)) :=
 cond (decide (s0_ < (a0.length:Int))) ((Xn a0 s0_).bind fun x3=>(Xn a1 s0_).bind fun x4=>cond (x3 != x4) (some (.inr (.inl ()))) (some (.inl (IntKind.i64.wrap (s0_+1))))) (some (.inr (.inr ())))
noncomputable def Uj (a0:(List Int)) (a1:(List Int)):Option Bool :=
 cond ((a0.length:Int) != (a1.length:Int)) (some false) ((Z0 (Ky a0 a1) 0).bind fun (z7:(Unit ⊕ Unit))=>match z7 with | .inl z7=>some false | .inr z7=>some true)
noncomputable def Kv (Va:(S_api_Tree→S_api_Tree→Option Bool)) (a0:S_api_Tree) (a1:S_api_Tree) (s0_:Int):Option (Int ⊕ (Unit ⊕ Unit)) :=
 cond (decide (s0_ < (a0.Kids.length:Int))) ((Xn a0.Kids s0_).bind fun x9=>(Xn a1.Kids s0_).bind fun x10=>(Va x9 x10).bind fun y11=>cond (!y11) (some (.inr (.inl ()))) (some (.inl (IntKind.i64.wrap (s0_+1))))) (some (.inr (.inr ())))
noncomputable def Uc (Va:(S_api_Tree→S_api_Tree→Option Bool)) (a0:S_api_Tree) (a1:S_api_Tree):Option Bool :=
 (cond (a0.Kind != a1.Kind) (some true) ((Uj a0.Words a1.Words).bind fun y4=>some (cond (cond (a0.Kind != a1.Kind) true (!y4)) true ((a0.Kids.length:Int) != (a1.Kids.length:Int))))).bind fun (z2:Bool)=>cond z2 (some false) ((Z0 (Kv Va a0 a1) 0).bind fun (z14:(Unit ⊕ Unit))=>match z14 with | .inl z14=>some false | .inr z14=>some true)
noncomputable def Jb:Nat→(S_api_Tree→S_api_Tree→Option Bool)
 | 0=>(fun _ _=>none)
 | k+1=>Uc ((Jb k))
noncomputable def Zds (a0:S_api_Tree) (a1:S_api_Tree):Option Bool:=lim fun k=>(Jb k) a0 a1
noncomputable def K5 (a0:S_api_Edit) (a1:S_api_Tree):Option Bool :=
 ((Uk a0).bind fun y8=>cond y8 ((Gc a1).bind fun y9=>cond y9 ((Kh a1 64).bind fun y10=>some (cond (cond (cond (!y8) true (!y9)) true (!y10)) true (a1.Kind == 10))) (some true)) (some true)).bind fun (z4:Bool)=>cond z4 ((Kf).bind fun y14=>some y14) ((Zg6 a0).bind fun y16=>(Zb7 a0 a1).bind fun y18=>(Zb7 y16 a1).bind fun y20=>((Zh9 y16).bind fun y28=>cond y28 (cond (y18.2 == y20.2) ((Zds y18.1 y20.1).bind fun y29=>cond y29 ((Kf).bind fun y30=>some (cond (cond (cond y28 (y18.2 == y20.2) false) y29 false) y30 false)) (some false)) (some false)) (some false)).bind fun (z24:Bool)=>some z24)
end Go.Proofs.Ytbcgiaijjaocdaa
