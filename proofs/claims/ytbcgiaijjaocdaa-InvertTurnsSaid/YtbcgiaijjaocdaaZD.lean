/- Part ZD of this seat's mirrors: functions of the seat's program, and the plain functions that they are; each theorem bears its own conditions. -/
import Derived.Test.YtbcgiaijjaocdaaH25
namespace Go.Proofs.Ytbcgiaijjaocdaa
open Go.RowKit
set_option linter.unusedVariables false
set_option linter.unusedSimpArgs false
set_option maxRecDepth 100000
set_option maxHeartbeats 1000000
structure S_api_Tree where
 Kind:Int
 Words:(List Int)
 Kids:(List S_api_Tree)
noncomputable def Xl (Q7:(S_api_Tree→Int→Int→Option Int)) (a0:S_api_Tree) (a1:Int) (s0_:(Int×Int)):Option ((Int×Int) ⊕ Int) :=
 cond (cond (decide (s0_.2 < (a0.Kids.length:Int))) (decide (0≤s0_.1)) false) ((Yy a0.Kids s0_.2).bind fun x1=>(Q7 x1 (IntKind.i64.wrap (a1 - 1)) s0_.1).bind fun y2=>some (.inl (y2,(IntKind.i64.wrap (s0_.2+1))))) (some (.inr s0_.1))
noncomputable def Xq (Q7:(S_api_Tree→Int→Int→Option Int)) (a0:S_api_Tree) (a1:Int) (a2:Int):Option Int :=
 cond (cond (a1 == 0) true (decide ((IntKind.i64.wrap ((IntKind.i64.wrap (a2 - 1)) - (a0.Words.length:Int))) < 0))) (some (-1)) ((Zx (Xl Q7 a0 a1) ((IntKind.i64.wrap ((IntKind.i64.wrap (a2 - 1)) - (a0.Words.length:Int))),0)).bind fun (z4:Int)=>some z4)
noncomputable def Yk:Nat→(S_api_Tree→Int→Int→Option Int)
 | 0=>(fun _ _ _=>none)
 | k+1=>Xq ((Yk k))
noncomputable def Q2 (a0:S_api_Tree) (a1:Int) (a2:Int):Option Int:=lim fun k=>(Yk k) a0 a1 a2
structure Zp where
 At:Int
 Mask:Int
 Old:Int
 New:Int
mutual
structure S_api_Edit where
 Kind:Int
 Old:S_api_Tree
 New:S_api_Tree
 Words:(List Zp)
 Kids:(List S_api_KidEdit)
 List_:Int
 Ops:(List S_api_Op)
structure S_api_Op where
 Kind:Int
 N:Int
 L:(List S_api_Tree)
 E:S_api_Edit
structure S_api_KidEdit where
 At:Int
 E:S_api_Edit
end
noncomputable def Qc (X7:(S_api_Edit→Int→Int→Option Int)) (a0:S_api_Edit) (a1:Int) (s0_:(Int×Int)):Option ((Int×Int) ⊕ Int) :=
 cond (cond (decide (s0_.2 < (a0.Kids.length:Int))) (decide (0≤s0_.1)) false) ((Yy a0.Kids s0_.2).bind fun x6=>(X7 x6.E (IntKind.i64.wrap (a1 - 1)) s0_.1).bind fun y8=>some (.inl (y8,(IntKind.i64.wrap (s0_.2+1))))) (some (.inr s0_.1))
noncomputable def Kh (a0:S_api_Edit) (s1_:(Int×Int)) (s2_:(Int×Int)):Option ((Int×Int) ⊕ Int) :=
 (Yy a0.Ops s1_.2).bind fun x14=>cond (cond (decide (s2_.2 < (x14.L.length:Int))) (decide (0≤s2_.1)) false) ((Yy a0.Ops s1_.2).bind fun x16=>(Yy x16.L s2_.2).bind fun x18=>(Q2 x18 80 s2_.1).bind fun y19=>some (.inl (y19,(IntKind.i64.wrap (s2_.2+1))))) (some (.inr s2_.1))
noncomputable def Qd (X7:(S_api_Edit→Int→Int→Option Int)) (a0:S_api_Edit) (a1:Int) (s1_:(Int×Int)):Option ((Int×Int) ⊕ Int) :=
 cond (cond (decide (s1_.2 < (a0.Ops.length:Int))) (decide (0≤s1_.1)) false) (((Zx (Kh a0 s1_) (s1_.1,0)).bind fun (z21:Int)=>cond (decide (0≤z21)) ((Yy a0.Ops s1_.2).bind fun x22=>(X7 x22.E (IntKind.i64.wrap (a1 - 1)) z21).bind fun y24=>some y24) (some z21)).bind fun (z11:Int)=>some (.inl (z11,(IntKind.i64.wrap (s1_.2+1))))) (some (.inr s1_.1))
noncomputable def Ql (X7:(S_api_Edit→Int→Int→Option Int)) (a0:S_api_Edit) (a1:Int) (a2:Int):Option Int :=
 cond (cond (a1 == 0) true (decide ((IntKind.i64.wrap ((IntKind.i64.wrap ((IntKind.i64.wrap (a2 - 1)) - (a0.Words.length:Int))) - (a0.Ops.length:Int))) < 0))) (some (-1)) ((Q2 a0.Old 80 (IntKind.i64.wrap ((IntKind.i64.wrap ((IntKind.i64.wrap (a2 - 1)) - (a0.Words.length:Int))) - (a0.Ops.length:Int)))).bind fun y2=>(cond (decide (0≤y2)) ((Q2 a0.New 80 y2).bind fun y4=>some y4) (some y2)).bind fun (z3:Int)=>(Zx (Qc X7 a0 a1) (z3,0)).bind fun (z10:Int)=>(Zx (Qd X7 a0 a1) (z10,0)).bind fun (z27:Int)=>some z27)
noncomputable def Yg:Nat→(S_api_Edit→Int→Int→Option Int)
 | 0=>(fun _ _ _=>none)
 | k+1=>Ql ((Yg k))
noncomputable def Zdb (a0:S_api_Edit) (a1:Int) (a2:Int):Option Int:=lim fun k=>(Yg k) a0 a1 a2
noncomputable def U9 (a0:S_api_Edit):Option Bool :=
 (Zdb a0 80 3000).bind fun y2=>some (decide (0≤y2))
noncomputable def Qm (a0:S_api_Tree):Option Bool :=
 some (cond (a0.Kind == 0) ((IntKind.i64.wrap ((a0.Words.length:Int)+(a0.Kids.length:Int))) == 0) false)
noncomputable def Zch (a0:Int):Option Int :=
 cond (a0 == 0) (some 0) (cond (a0 == 1) (some 1) (cond (a0 == 2) (some 8) (cond (a0 == 3) (some 16) (cond (a0 == 4) (some 32) (cond (a0 == 5) (some 64) (some (-1)))))))
noncomputable def Xr (y2:Int) (s0_:(Int×Int)):Option ((Int×Int) ⊕ Int) :=
 cond (decide (s0_.2 < y2)) (some (.inl ((IntKind.u64.wrap (Int.tdiv s0_.1 2)),(IntKind.i64.wrap (s0_.2+1))))) (some (.inr s0_.1))
noncomputable def Ku (a0:Int) (a1:Int):Option Bool :=
 (Zch a0).bind fun y2=>cond (decide (y2 < 0)) (some false) ((Zx (Xr y2) (a1,0)).bind fun (z4:Int)=>some (z4 == 0))
noncomputable def Jt (Ka:(S_api_Tree→Int→Option Bool)) (a0:S_api_Tree) (a1:Int) (s0_:Int):Option (Int ⊕ (Unit ⊕ Unit)) :=
 cond (decide (s0_ < (a0.Kids.length:Int))) ((Yy a0.Kids s0_).bind fun x2=>(Ka x2 (IntKind.i64.wrap (a1 - 1))).bind fun y4=>cond (!y4) (some (.inr (.inl ()))) ((cond ((cond (decide (2≤a0.Kind)) (decide (a0.Kind≤7)) false) != (x2.Kind == 10)) (some true) (cond (a0.Kind == 9) (cond (x2.Kind != 1) (some true) (cond (decide (2≤a0.Kind)) (cond (decide (a0.Kind≤7)) ((Yy x2.Words 0).bind fun x14=>(Ku (IntKind.i64.wrap (a0.Kind - 2)) x14).bind fun y15=>some (cond (cond ((cond (decide (2≤a0.Kind)) (decide (a0.Kind≤7)) false) != (x2.Kind == 10)) true (cond (a0.Kind == 9) (x2.Kind != 1) false)) true (cond (cond (decide (2≤a0.Kind)) (decide (a0.Kind≤7)) false) (!y15) false))) (some (cond (cond ((cond (decide (2≤a0.Kind)) (decide (a0.Kind≤7)) false) != (x2.Kind == 10)) true (cond (a0.Kind == 9) (x2.Kind != 1) false)) true false))) (some (cond (cond ((cond (decide (2≤a0.Kind)) (decide (a0.Kind≤7)) false) != (x2.Kind == 10)) true (cond (a0.Kind == 9) (x2.Kind != 1) false)) true false)))) (cond (decide (2≤a0.Kind)) (cond (decide (a0.Kind≤7)) ((Yy x2.Words 0).bind fun x16=>(Ku (IntKind.i64.wrap (a0.Kind - 2)) x16).bind fun y17=>some (cond (cond ((cond (decide (2≤a0.Kind)) (decide (a0.Kind≤7)) false) != (x2.Kind == 10)) true (cond (a0.Kind == 9) (x2.Kind != 1) false)) true (cond (cond (decide (2≤a0.Kind)) (decide (a0.Kind≤7)) false) (!y17) false))) (some (cond (cond ((cond (decide (2≤a0.Kind)) (decide (a0.Kind≤7)) false) != (x2.Kind == 10)) true (cond (a0.Kind == 9) (x2.Kind != 1) false)) true false))) (some (cond (cond ((cond (decide (2≤a0.Kind)) (decide (a0.Kind≤7)) false) != (x2.Kind == 10)) true (cond (a0.Kind == 9) (x2.Kind != 1) false)) true false))))).bind fun (z9:Bool)=>cond z9 (some (.inr (.inl ()))) (some (.inl (IntKind.i64.wrap (s0_+1)))))) (some (.inr (.inr ())))
noncomputable def Vg (Ka:(S_api_Tree→Int→Option Bool)) (a0:S_api_Tree) (a1:Int):Option Bool :=
 cond (a0.Kind == 0) (some (cond ((a0.Words.length:Int) == 0) ((a0.Kids.length:Int) == 0) false)) (cond (a0.Kind == 10) (some (cond ((a0.Words.length:Int) == 1) ((a0.Kids.length:Int) == 0) false)) (cond (cond (cond (cond (cond (cond (decide (a0.Kind < 0)) true (decide (10 < a0.Kind))) true (a1 == 0)) true (decide (65536≤(a0.Words.length:Int)))) true (cond (a0.Kind == 1) (decide (65536≤(a0.Kids.length:Int))) false)) true (decide (1048576≤(a0.Kids.length:Int)))) (some false) (cond (cond (decide (1 < a0.Kind)) (decide (0 < (a0.Words.length:Int))) false) (some false) ((Zx (Jt Ka a0 a1) 0).bind fun (z28:(Unit ⊕ Unit))=>match z28 with | .inl z28=>some false | .inr z28=>some true))))
noncomputable def Qi:Nat→(S_api_Tree→Int→Option Bool)
 | 0=>(fun _ _=>none)
 | k+1=>Vg ((Qi k))
noncomputable def Vv (a0:S_api_Tree) (a1:Int):Option Bool:=lim fun k=>(Qi k) a0 a1
noncomputable def Jz (s0_:(Int×Int×(Arr Int 8))):Option ((Int×Int×(Arr Int 8)) ⊕ (Arr Int 8)) :=
 cond (decide (s0_.2.1 < 8)) ((Yy s0_.2.2.1 s0_.2.1).bind fun x15=>some (.inl ((IntKind.u64.wrap (Int.tdiv s0_.1 256)),(IntKind.i64.wrap (s0_.2.1+1)),(Arr.put s0_.2.2 s0_.2.1 (IntKind.u8.wrap (Int.tmod s0_.1 256)))))) (some (.inr s0_.2.2))
noncomputable def J6 (a0:Int):Option (Arr Int 8) :=
 ((some (⟨[0,0,0,0,0,0,0,0],rfl⟩:(Arr Int 8)))).bind fun y3=>((some (⟨[0,0,0,0,0,0,0,0],rfl⟩:(Arr Int 8)))).bind fun y9=>(Zx (Jz) (a0,0,y9)).bind fun (z18:(Arr Int 8))=>some z18
noncomputable def Qq (a1:Int) (s0_:(Int×Int)):Option ((Int×Int) ⊕ Int) :=
 cond (decide (s0_.2 < a1)) (some (.inl ((IntKind.u8.wrap (Int.tdiv s0_.1 2)),(IntKind.i64.wrap (s0_.2+1))))) (some (.inr s0_.1))
noncomputable def Vt (a0:Int) (a1:Int):Option Bool :=
 (Zx (Qq a1) (a0,0)).bind fun (z2:Int)=>some ((Int.tmod z2 2) == 1)
noncomputable def Vu (a0:(List Int)) (a1:Int) (s0_:(Int×Int)):Option ((Int×Int) ⊕ Int) :=
 cond (decide (0≤s0_.2)) ((Yy a0 (IntKind.i64.wrap (a1+s0_.2))).bind fun x1=>some (.inl ((IntKind.u64.wrap ((IntKind.u64.wrap (s0_.1 * 256))+(IntKind.u64.wrap x1))),(IntKind.i64.wrap (s0_.2 - 1))))) (some (.inr s0_.1))
noncomputable def Zcb (a0:(List Int)) (a1:Int):Option Int :=
 (Zx (Vu a0 a1) (0,7)).bind fun (z3:Int)=>some z3
noncomputable def K6 (a2:Int) (y9:(Arr Int 8)) (s0_:(Int×(Arr Int 8))):Option ((Int×(Arr Int 8)) ⊕ (Arr Int 8)) :=
 cond (decide (s0_.1 < 8)) (((Vt a2 s0_.1).bind fun y17=>cond y17 ((Yy y9.1 s0_.1).bind fun x18=>(Yy s0_.2.1 s0_.1).bind fun x19=>some (Arr.put s0_.2 s0_.1 x18)) (some s0_.2)).bind fun (z15:(Arr Int 8))=>some (.inl ((IntKind.i64.wrap (s0_.1+1)),z15))) (some (.inr s0_.2))
noncomputable def U8 (a0:Int) (a1:Int) (a2:Int):Option Int :=
 (J6 a0).bind fun y8=>(J6 a1).bind fun y9=>((some (⟨[0,0,0,0,0,0,0,0],rfl⟩:(Arr Int 8)))).bind fun y10=>(Zx (K6 a2 y9) (0,y8)).bind fun (z23:(Arr Int 8))=>(Zcb z23.1 0).bind fun y29=>some y29
noncomputable def Jl (a0:Int) (a1:Int):Option Bool :=
 (U8 a0 0 a1).bind fun y2=>some (y2 == 0)
noncomputable def Kv (a0:S_api_Edit):Option Bool :=
 (cond (a0.Kind == 0) ((Qm a0.Old).bind fun y6=>cond y6 ((Qm a0.New).bind fun y7=>some (cond (cond (cond (cond (a0.Kind == 0) y6 false) y7 false) ((IntKind.i64.wrap ((IntKind.i64.wrap ((a0.Words.length:Int)+(a0.Kids.length:Int)))+(a0.Ops.length:Int))) == 0) false) (a0.List_ == 0) false)) (some false)) (some false)).bind fun (z3:Bool)=>some z3
noncomputable def Q4 (a0:S_api_Edit) (s0_:(Int×Int×Int)):Option ((Int×Int×Int) ⊕ (Int×Int)) :=
 cond (decide (s0_.2.2 < (a0.Ops.length:Int))) (((Yy a0.Ops s0_.2.2).bind fun x3=>(cond (x3.Kind == 3) (some 1) (some (IntKind.i64.wrap (x3.N+(x3.L.length:Int))))).bind fun (z4:Int)=>(cond (x3.Kind != 2) (some (IntKind.i64.wrap (s0_.1+z4))) (some s0_.1)).bind fun (z6:Int)=>(cond (x3.Kind != 1) (some (IntKind.i64.wrap (s0_.2.1+z4))) (some s0_.2.1)).bind fun (z8:Int)=>(cond (decide (1048576 < z6)) (some 1048576) (some z6)).bind fun (z10:Int)=>cond (decide (1048576 < z8)) (some (z10,1048576)) (some (z10,z8))).bind fun (z1:(Int×Int))=>some (.inl (z1.1,z1.2,(IntKind.i64.wrap (s0_.2.2+1))))) (some (.inr (s0_.1,s0_.2.1)))
noncomputable def Q3 (a0:S_api_Edit):Option (Int×Int) :=
 (Zx (Q4 a0) (0,0,0)).bind fun (z14:(Int×Int))=>some (z14.1,z14.2)
noncomputable def Qo (a0:S_api_Edit) (s0_:(Int×Int)):Option ((Int×Int) ⊕ (Unit ⊕ Unit)) :=
 cond (decide (s0_.2 < (a0.Words.length:Int))) ((Yy a0.Words s0_.2).bind fun x19=>(cond (decide (x19.At≤s0_.1)) (some true) (cond (decide (65534 < x19.At)) (some true) (cond (x19.Mask == 0) (some true) ((Jl x19.Old x19.Mask).bind fun y25=>cond y25 ((Jl x19.New x19.Mask).bind fun y26=>some (cond (cond (cond (cond (decide (x19.At≤s0_.1)) true (decide (65534 < x19.At))) true (x19.Mask == 0)) true (!y25)) true (!y26))) (some true))))).bind fun (z22:Bool)=>cond z22 (some (.inr (.inl ()))) (some (.inl (x19.At,(IntKind.i64.wrap (s0_.2+1)))))) (some (.inr (.inr ())))
noncomputable def Qp (Y8:(S_api_Edit→Int→Option Bool)) (a0:S_api_Edit) (a1:Int) (s1_:(Int×Int)):Option ((Int×Int) ⊕ (Unit ⊕ Unit)) :=
 cond (decide (s1_.2 < (a0.Kids.length:Int))) ((Yy a0.Kids s1_.2).bind fun x35=>(cond (decide (x35.At≤s1_.1)) (some true) (cond (decide (65534 < x35.At)) (some true) (cond (x35.E.Kind == 0) (some true) ((Y8 x35.E (IntKind.i64.wrap (a1 - 1))).bind fun y39=>some (cond (cond (cond (decide (x35.At≤s1_.1)) true (decide (65534 < x35.At))) true (x35.E.Kind == 0)) true (!y39)))))).bind fun (z37:Bool)=>cond z37 (some (.inr (.inl ()))) (some (.inl (x35.At,(IntKind.i64.wrap (s1_.2+1)))))) (some (.inr (.inr ())))
noncomputable def X3 (Qf:(Int→S_api_Op→Int→Option Bool)) (a0:S_api_Edit) (a1:Int) (s2_:Int):Option (Int ⊕ (Unit ⊕ Unit)) :=
 cond (decide (s2_ < (a0.Ops.length:Int))) ((Yy a0.Ops s2_).bind fun x48=>(Qf a0.List_ x48 (IntKind.i64.wrap (a1 - 1))).bind fun y49=>cond (!y49) (some (.inr (.inl ()))) (some (.inl (IntKind.i64.wrap (s2_+1))))) (some (.inr (.inr ())))
noncomputable def Vi (Y8:(S_api_Edit→Int→Option Bool)) (Qf:(Int→S_api_Op→Int→Option Bool)) (a0:S_api_Edit) (a1:Int):Option Bool :=
 cond (cond (cond (a1 == 0) true (decide (a0.Kind < 0))) true (decide (3 < a0.Kind))) (some false) ((cond (a0.Kind != 1) ((Qm a0.Old).bind fun y6=>cond y6 ((Qm a0.New).bind fun y7=>some (cond (cond (cond (a0.Kind != 1) (!(cond y6 y7 false)) false) true (cond (a0.Kind != 2) (decide (0 < (IntKind.i64.wrap ((a0.Words.length:Int)+(a0.Kids.length:Int))))) false)) true (cond (a0.Kind != 3) (cond (a0.List_ != 0) true (decide (0 < (a0.Ops.length:Int)))) false))) (some true)) (some (cond (cond (a0.Kind != 2) (decide (0 < (IntKind.i64.wrap ((a0.Words.length:Int)+(a0.Kids.length:Int))))) false) true (cond (a0.Kind != 3) (cond (a0.List_ != 0) true (decide (0 < (a0.Ops.length:Int)))) false)))).bind fun (z3:Bool)=>cond z3 (some false) (cond (a0.Kind == 1) (((Vv a0.Old 64).bind fun y15=>cond y15 ((Vv a0.New 64).bind fun y16=>some (cond (cond (cond y15 y16 false) (a0.Old.Kind != 10) false) (a0.New.Kind != 10) false)) (some false)).bind fun (z12:Bool)=>some z12) ((Zx (Qo a0) ((-1),0)).bind fun (z33:(Unit ⊕ Unit))=>match z33 with | .inl z33=>some false | .inr z33=>(Zx (Qp Y8 a0 a1) ((-1),0)).bind fun (z45:(Unit ⊕ Unit))=>match z45 with | .inl z45=>some false | .inr z45=>cond (cond (a0.Kind == 3) (cond (decide (a0.List_ < 2)) true (decide (9 < a0.List_))) false) (some false) ((Zx (X3 Qf a0 a1) 0).bind fun (z52:(Unit ⊕ Unit))=>match z52 with | .inl z52=>some false | .inr z52=>(Q3 a0).bind fun y54=>some (cond (decide (y54.1 < 1048576)) (decide (y54.2 < 1048576)) false)))))
noncomputable def Vj (a0:Int) (a1:S_api_Op) (s0_:Int):Option (Int ⊕ (Unit ⊕ Unit)) :=
 cond (decide (s0_ < (a1.L.length:Int))) ((Ze7 a1.L s0_ (IntKind.i64.wrap (s0_+1))).bind fun l10=>(Vv (⟨a0,[],l10⟩:S_api_Tree) 64).bind fun y11=>cond (!y11) (some (.inr (.inl ()))) (some (.inl (IntKind.i64.wrap (s0_+1))))) (some (.inr (.inr ())))
noncomputable def Gv (Y8:(S_api_Edit→Int→Option Bool)) (Qf:(Int→S_api_Op→Int→Option Bool)) (a0:Int) (a1:S_api_Op) (a2:Int):Option Bool :=
 cond (a1.Kind == 0) ((cond (decide (1≤a1.N)) (cond (decide (a1.N≤1048576)) (cond ((a1.L.length:Int) == 0) ((Kv a1.E).bind fun y4=>some (cond (cond (cond (decide (1≤a1.N)) (decide (a1.N≤1048576)) false) ((a1.L.length:Int) == 0) false) y4 false)) (some false)) (some false)) (some false)).bind fun (z2:Bool)=>some z2) (cond (cond (cond (a1.N != 0) true (decide (a1.Kind < 0))) true (decide (3 < a1.Kind))) (some false) (cond (decide (a1.Kind < 3)) ((Zx (Vj a0 a1) 0).bind fun (z14:(Unit ⊕ Unit))=>match z14 with | .inl z14=>some false | .inr z14=>(cond (decide (0 < (a1.L.length:Int))) ((Kv a1.E).bind fun y18=>some (cond (decide (0 < (a1.L.length:Int))) y18 false)) (some false)).bind fun (z16:Bool)=>some z16) ((cond (decide (0 < (a1.L.length:Int))) (some true) (cond (a1.E.Kind == 0) (some true) (cond (decide (a0≤7)) (some true) ((Y8 a1.E a2).bind fun y23=>some (cond (cond (cond (decide (0 < (a1.L.length:Int))) true (a1.E.Kind == 0)) true (decide (a0≤7))) true (!y23)))))).bind fun (z21:Bool)=>cond z21 (some false) (some (cond (cond (a0 == 8) true (a1.E.Kind == 2)) true (cond (cond (a1.E.Kind == 1) (a1.E.Old.Kind == 1) false) (a1.E.New.Kind == 1) false))))))
noncomputable def Yc:Nat→((S_api_Edit→Int→Option Bool)×(Int→S_api_Op→Int→Option Bool))
 | 0=>((fun _ _=>none),(fun _ _ _=>none))
 | k+1=>(Vi ((Yc k).1) ((Yc k).2),Gv ((Yc k).1) ((Yc k).2))
noncomputable def Zcj (a0:S_api_Edit) (a1:Int):Option Bool:=lim fun k=>(Yc k).1 a0 a1
noncomputable def Ju (Xv:(S_api_Edit→Option Bool)) (a0:S_api_Edit) (s0_:Int):Option (Int ⊕ (Unit ⊕ Unit)) :=
 cond (decide (s0_ < (a0.Kids.length:Int))) ((Yy a0.Kids s0_).bind fun x6=>(Xv x6.E).bind fun y8=>cond (!y8) (some (.inr (.inl ()))) (some (.inl (IntKind.i64.wrap (s0_+1))))) (some (.inr (.inr ())))
noncomputable def Jv (Xv:(S_api_Edit→Option Bool)) (a0:S_api_Edit) (s1_:Int):Option (Int ⊕ (Unit ⊕ Unit)) :=
 cond (decide (s1_ < (a0.Ops.length:Int))) ((Yy a0.Ops s1_).bind fun x15=>(Xv x15.E).bind fun y17=>cond (!y17) (some (.inr (.inl ()))) (some (.inl (IntKind.i64.wrap (s1_+1))))) (some (.inr (.inr ())))
noncomputable def Vh (Xv:(S_api_Edit→Option Bool)) (a0:S_api_Edit):Option Bool :=
 (Q3 a0).bind fun y2=>cond (cond (decide (2000 < y2.1)) true (decide (2000 < y2.2))) (some false) ((Zx (Ju Xv a0) 0).bind fun (z11:(Unit ⊕ Unit))=>match z11 with | .inl z11=>some false | .inr z11=>(Zx (Jv Xv a0) 0).bind fun (z20:(Unit ⊕ Unit))=>match z20 with | .inl z20=>some false | .inr z20=>some true)
noncomputable def Qj:Nat→(S_api_Edit→Option Bool)
 | 0=>(fun _=>none)
 | k+1=>Vh ((Qj k))
noncomputable def Zci (a0:S_api_Edit):Option Bool:=lim fun k=>(Qj k) a0
noncomputable def Ui (a0:S_api_Edit):Option Bool :=
 ((U9 a0).bind fun y8=>cond y8 ((Zcj a0 64).bind fun y9=>cond y9 ((Zci a0).bind fun y10=>some (cond (cond y8 y9 false) y10 false)) (some false)) (some false)).bind fun (z4:Bool)=>some z4
noncomputable def Vm (a0:S_api_Edit) (s0_:(Int×(List Zp))):Option ((Int×(List Zp)) ⊕ (List Zp)) :=
 cond (decide (s0_.1 < (a0.Words.length:Int))) ((Yy a0.Words s0_.1).bind fun x2=>(Uw 32 s0_.2 ([(⟨x2.At,x2.Mask,x2.New,x2.Old⟩:Zp)]:List Zp)).bind fun l3=>some (.inl ((IntKind.i64.wrap (s0_.1+1)),l3))) (some (.inr s0_.2))
noncomputable def Vn (Xy:(S_api_Edit→Option S_api_Edit)) (a0:S_api_Edit) (s1_:(Int×(List S_api_KidEdit))):Option ((Int×(List S_api_KidEdit)) ⊕ (List S_api_KidEdit)) :=
 cond (decide (s1_.1 < (a0.Kids.length:Int))) ((Yy a0.Kids s1_.1).bind fun x7=>(Xy x7.E).bind fun y8=>(Uw 208 s1_.2 ([(⟨x7.At,y8⟩:S_api_KidEdit)]:List S_api_KidEdit)).bind fun l9=>some (.inl ((IntKind.i64.wrap (s1_.1+1)),l9))) (some (.inr s1_.2))
noncomputable def Vo (Xp:(S_api_Op→Option S_api_Op)) (a0:S_api_Edit) (s2_:(Int×(List S_api_Op))):Option ((Int×(List S_api_Op)) ⊕ (List S_api_Op)) :=
 cond (decide (s2_.1 < (a0.Ops.length:Int))) ((Yy a0.Ops s2_.1).bind fun x13=>(Xp x13).bind fun y14=>(Uw 240 s2_.2 ([y14]:List S_api_Op)).bind fun l15=>some (.inl ((IntKind.i64.wrap (s2_.1+1)),l15))) (some (.inr s2_.2))
noncomputable def Gx (Xy:(S_api_Edit→Option S_api_Edit)) (Xp:(S_api_Op→Option S_api_Op)) (a0:S_api_Edit):Option S_api_Edit :=
 (Zx (Vm a0) (0,([]:List Zp))).bind fun (z5:(List Zp))=>(Zx (Vn Xy a0) (0,([]:List S_api_KidEdit))).bind fun (z11:(List S_api_KidEdit))=>(Zx (Vo Xp a0) (0,([]:List S_api_Op))).bind fun (z17:(List S_api_Op))=>some (⟨a0.Kind,a0.New,a0.Old,z5,z11,a0.List_,z17⟩:S_api_Edit)
noncomputable def Ub (Xy:(S_api_Edit→Option S_api_Edit)) (Xp:(S_api_Op→Option S_api_Op)) (a0:S_api_Op):Option S_api_Op :=
 (cond (a0.Kind == 1) (some (2,a0.E.Kind,a0.E.Old.Kind,a0.E.Old.Words,a0.E.Old.Kids,a0.E.New.Kind,a0.E.New.Words,a0.E.New.Kids,a0.E.Words,a0.E.Kids,a0.E.List_,a0.E.Ops)) (cond (a0.Kind == 2) (some (1,a0.E.Kind,a0.E.Old.Kind,a0.E.Old.Words,a0.E.Old.Kids,a0.E.New.Kind,a0.E.New.Words,a0.E.New.Kids,a0.E.Words,a0.E.Kids,a0.E.List_,a0.E.Ops)) (cond (a0.Kind == 3) ((Xy a0.E).bind fun y2=>some (a0.Kind,y2.Kind,y2.Old.Kind,y2.Old.Words,y2.Old.Kids,y2.New.Kind,y2.New.Words,y2.New.Kids,y2.Words,y2.Kids,y2.List_,y2.Ops)) (some (a0.Kind,a0.E.Kind,a0.E.Old.Kind,a0.E.Old.Words,a0.E.Old.Kids,a0.E.New.Kind,a0.E.New.Words,a0.E.New.Kids,a0.E.Words,a0.E.Kids,a0.E.List_,a0.E.Ops))))).bind fun (z1:(Int×Int×Int×(List Int)×(List S_api_Tree)×Int×(List Int)×(List S_api_Tree)×(List Zp)×(List S_api_KidEdit)×Int×(List S_api_Op)))=>some (⟨z1.1,a0.N,a0.L,⟨z1.2.1,⟨z1.2.2.1,z1.2.2.2.1,z1.2.2.2.2.1⟩,⟨z1.2.2.2.2.2.1,z1.2.2.2.2.2.2.1,z1.2.2.2.2.2.2.2.1⟩,z1.2.2.2.2.2.2.2.2.1,z1.2.2.2.2.2.2.2.2.2.1,z1.2.2.2.2.2.2.2.2.2.2.1,z1.2.2.2.2.2.2.2.2.2.2.2⟩⟩:S_api_Op)
noncomputable def Yz:Nat→((S_api_Edit→Option S_api_Edit)×(S_api_Op→Option S_api_Op))
 | 0=>((fun _=>none),(fun _=>none))
 | k+1=>(Gx ((Yz k).1) ((Yz k).2),Ub ((Yz k).1) ((Yz k).2))
noncomputable def Zes (a0:S_api_Edit):Option S_api_Edit:=lim fun k=>(Yz k).1 a0
noncomputable def K7 (a0:(List Int)) (s0_:Int):Option (Int ⊕ Int) :=
 (cond (decide (0 < s0_)) ((Yy a0 (IntKind.i64.wrap (s0_ - 1))).bind fun x4=>some (cond (decide (0 < s0_)) (x4 == 0) false)) (some false)).bind fun (z2:Bool)=>cond z2 (some (.inl (IntKind.i64.wrap (s0_ - 1)))) (some (.inr s0_))
noncomputable def Gb (a0:(List Int)):Option (List Int) :=
 (Zx (K7 a0) (a0.length:Int)).bind fun (z7:Int)=>(Ze7 a0 0 z7).bind fun l9=>some l9
noncomputable def Vx (a0:(List S_api_Tree)) (s0_:Int):Option (Int ⊕ Int) :=
 (cond (decide (0 < s0_)) ((Yy a0 (IntKind.i64.wrap (s0_ - 1))).bind fun x6=>some (cond (decide (0 < s0_)) (x6.Kind == 0) false)) (some false)).bind fun (z3:Bool)=>cond z3 (some (.inl (IntKind.i64.wrap (s0_ - 1)))) (some (.inr s0_))
noncomputable def Zac (a0:(List S_api_Tree)):Option (List S_api_Tree) :=
 (Zx (Vx a0) (a0.length:Int)).bind fun (z10:Int)=>(Ze7 a0 0 z10).bind fun l12=>some l12
noncomputable def U4 (Zcv:(S_api_Tree→Option S_api_Tree)) (z1:((List Int)×(List S_api_Tree))) (s0_:(Int×(List S_api_Tree))):Option ((Int×(List S_api_Tree)) ⊕ (List S_api_Tree)) :=
 cond (decide (s0_.1 < (z1.2.length:Int))) ((Yy z1.2 s0_.1).bind fun x9=>(Zcv x9).bind fun y10=>(Yy s0_.2 s0_.1).bind fun x11=>some (.inl ((IntKind.i64.wrap (s0_.1+1)),(Zg9 s0_.2 s0_.1 y10)))) (some (.inr s0_.2))
noncomputable def Zee (Zcv:(S_api_Tree→Option S_api_Tree)) (a0:S_api_Tree):Option S_api_Tree :=
 cond (a0.Kind == 0) (some (⟨0,[],[]⟩:S_api_Tree)) ((cond (a0.Kind == 1) ((Gb a0.Words).bind fun y2=>(Zac a0.Kids).bind fun y3=>some (y2,y3)) (some (a0.Words,a0.Kids))).bind fun (z1:((List Int)×(List S_api_Tree)))=>(cond (decide (0 < (z1.2.length:Int))) ((Zip 56 (z1.2.length:Int) (⟨(0:Int),[],[]⟩:S_api_Tree)).bind fun l6=>some l6) (some ([]:List S_api_Tree))).bind fun (z5:(List S_api_Tree))=>(Zx (U4 Zcv z1) (0,z5)).bind fun (z14:(List S_api_Tree))=>some (⟨a0.Kind,z1.1,z14⟩:S_api_Tree))
noncomputable def Va:Nat→(S_api_Tree→Option S_api_Tree)
 | 0=>(fun _=>none)
 | k+1=>Zee ((Va k))
noncomputable def Zbb (a0:S_api_Tree):Option S_api_Tree:=lim fun k=>(Va k) a0
noncomputable def X4 (a0:List Zp):Option (List Zp) :=
 Uw 32 ([]:List Zp) a0
structure Zw where
 out:(List S_api_Op)
 kept:Int
 gone:(List S_api_Tree)
 come:(List S_api_Tree)
noncomputable def Xb (a0:Zw):Option Zw :=
 (cond (decide (0 < a0.kept)) ((Uw 240 a0.out ([(⟨0,0,[],⟨0,⟨0,[],[]⟩,⟨0,[],[]⟩,[],[],0,[]⟩⟩:S_api_Op)]:List S_api_Op)).bind fun l2=>(Yy l2 (a0.out.length:Int)).bind fun x3=>some (a0.out++[(⟨0,a0.kept,[],⟨0,⟨0,[],[]⟩,⟨0,[],[]⟩,[],[],0,[]⟩⟩:S_api_Op)])) (some a0.out)).bind fun (z1:(List S_api_Op))=>(cond (decide (0 < (a0.gone.length:Int))) ((Uw 240 z1 ([(⟨0,0,[],⟨0,⟨0,[],[]⟩,⟨0,[],[]⟩,[],[],0,[]⟩⟩:S_api_Op)]:List S_api_Op)).bind fun l9=>(Yy l9 (z1.length:Int)).bind fun x10=>some ((z1++[(⟨1,0,a0.gone,⟨0,⟨0,[],[]⟩,⟨0,[],[]⟩,[],[],0,[]⟩⟩:S_api_Op)]),a0.gone)) (some (z1,a0.gone))).bind fun (z6:((List S_api_Op)×(List S_api_Tree)))=>(cond (decide (0 < (a0.come.length:Int))) ((Uw 240 z6.1 ([(⟨0,0,[],⟨0,⟨0,[],[]⟩,⟨0,[],[]⟩,[],[],0,[]⟩⟩:S_api_Op)]:List S_api_Op)).bind fun l16=>(Yy l16 (z6.1.length:Int)).bind fun x17=>some ((z6.1++[(⟨2,0,a0.come,⟨0,⟨0,[],[]⟩,⟨0,[],[]⟩,[],[],0,[]⟩⟩:S_api_Op)]),a0.come)) (some (z6.1,a0.come))).bind fun (z13:((List S_api_Op)×(List S_api_Tree)))=>some (⟨z13.1,0,[],[]⟩:Zw)
noncomputable def Q6 (a0:Zw) (a1:Int):Option Zw :=
 (cond (a0.kept == 0) ((Xb (⟨a0.out,a0.kept,a0.gone,a0.come⟩:Zw)).bind fun y2=>some (y2.out,y2.gone,y2.come,y2.kept)) (some (a0.out,a0.gone,a0.come,a0.kept))).bind fun (z1:((List S_api_Op)×(List S_api_Tree)×(List S_api_Tree)×Int))=>some (⟨z1.1,(IntKind.i64.wrap (z1.2.2.2+a1)),z1.2.1,z1.2.2.1⟩:Zw)
noncomputable def X5 (a2:(List S_api_Tree)) (s0_:(Int×(List S_api_Tree))):Option ((Int×(List S_api_Tree)) ⊕ (List S_api_Tree)) :=
 cond (decide (s0_.1 < (a2.length:Int))) ((Yy a2 s0_.1).bind fun x5=>(Zbb x5).bind fun y6=>(Uw 56 s0_.2 ([(⟨0,[],[]⟩:S_api_Tree)]:List S_api_Tree)).bind fun l7=>(Yy l7 (s0_.2.length:Int)).bind fun x8=>some (.inl ((IntKind.i64.wrap (s0_.1+1)),(s0_.2++[y6])))) (some (.inr s0_.2))
noncomputable def Qt (a0:Zw) (a2:(List S_api_Tree)):Option Zw :=
 (cond (decide (0 < a0.kept)) ((Xb (⟨a0.out,a0.kept,a0.gone,a0.come⟩:Zw)).bind fun y2=>some (y2.out,y2.gone,y2.come,y2.kept)) (some (a0.out,a0.gone,a0.come,a0.kept))).bind fun (z1:((List S_api_Op)×(List S_api_Tree)×(List S_api_Tree)×Int))=>(Zx (X5 a2) (0,z1.2.1)).bind fun (z11:(List S_api_Tree))=>some (⟨z1.1,z1.2.2.2,z11,z1.2.2.1⟩:Zw)
noncomputable def X6 (a2:(List S_api_Tree)) (s0_:(Int×(List S_api_Tree))):Option ((Int×(List S_api_Tree)) ⊕ (List S_api_Tree)) :=
 cond (decide (s0_.1 < (a2.length:Int))) ((Yy a2 s0_.1).bind fun x5=>(Zbb x5).bind fun y6=>(Uw 56 s0_.2 ([(⟨0,[],[]⟩:S_api_Tree)]:List S_api_Tree)).bind fun l7=>(Yy l7 (s0_.2.length:Int)).bind fun x8=>some (.inl ((IntKind.i64.wrap (s0_.1+1)),(s0_.2++[y6])))) (some (.inr s0_.2))
noncomputable def Qu (a0:Zw) (a2:(List S_api_Tree)):Option Zw :=
 (cond (decide (0 < a0.kept)) ((Xb (⟨a0.out,a0.kept,a0.gone,a0.come⟩:Zw)).bind fun y2=>some (y2.out,y2.gone,y2.come,y2.kept)) (some (a0.out,a0.gone,a0.come,a0.kept))).bind fun (z1:((List S_api_Op)×(List S_api_Tree)×(List S_api_Tree)×Int))=>(Zx (X6 a2) (0,z1.2.2.1)).bind fun (z11:(List S_api_Tree))=>some (⟨z1.1,z1.2.2.2,z1.2.1,z11⟩:Zw)
noncomputable def Zb7 (a0:Int) (a1:S_api_Edit):Option Bool :=
 some (cond (a1.Kind == 0) true (cond (cond (a0 == 9) (a1.Kind == 2) false) ((IntKind.i64.wrap ((a1.Words.length:Int)+(a1.Kids.length:Int))) == 0) false))
noncomputable def Q5 (a0:Zw) (a1:Int) (a2:S_api_Edit):Option Zw :=
 (Zb7 a1 a2).bind fun y2=>cond y2 ((Q6 (⟨a0.out,a0.kept,a0.gone,a0.come⟩:Zw) 1).bind fun y4=>some (⟨y4.out,y4.kept,y4.gone,y4.come⟩:Zw)) ((Xb (⟨a0.out,a0.kept,a0.gone,a0.come⟩:Zw)).bind fun y6=>(Uw 240 y6.out ([(⟨0,0,[],⟨0,⟨0,[],[]⟩,⟨0,[],[]⟩,[],[],0,[]⟩⟩:S_api_Op)]:List S_api_Op)).bind fun l7=>(Yy l7 (y6.out.length:Int)).bind fun x8=>some (⟨(y6.out++[(⟨3,0,[],a2⟩:S_api_Op)]),y6.kept,y6.gone,y6.come⟩:Zw))
noncomputable def U3 (X0:(S_api_Edit→Option S_api_Edit)) (a0:S_api_Edit) (s0_:(Int×(List S_api_KidEdit))):Option ((Int×(List S_api_KidEdit)) ⊕ (List S_api_KidEdit)) :=
 cond (decide (s0_.1 < (a0.Kids.length:Int))) ((Yy a0.Kids s0_.1).bind fun x8=>(X0 x8.E).bind fun y9=>(Uw 208 s0_.2 ([(⟨x8.At,y9⟩:S_api_KidEdit)]:List S_api_KidEdit)).bind fun l10=>some (.inl ((IntKind.i64.wrap (s0_.1+1)),l10))) (some (.inr s0_.2))
noncomputable def Zb4 (X0:(S_api_Edit→Option S_api_Edit)) (Uo:(Int→(List S_api_Op)→Option (List S_api_Op))) (a0:S_api_Edit):Option S_api_Edit :=
 cond (a0.Kind == 1) ((Zbb a0.Old).bind fun y3=>(Zbb a0.New).bind fun y4=>some (⟨1,y3,y4,[],[],0,[]⟩:S_api_Edit)) (cond (a0.Kind == 2) ((X4 a0.Words).bind fun y6=>(Zx (U3 X0 a0) (0,([]:List S_api_KidEdit))).bind fun (z12:(List S_api_KidEdit))=>some (⟨2,⟨0,[],[]⟩,⟨0,[],[]⟩,y6,z12,0,[]⟩:S_api_Edit)) (cond (a0.Kind == 3) ((Uo a0.List_ a0.Ops).bind fun y14=>some (⟨3,⟨0,[],[]⟩,⟨0,[],[]⟩,[],[],a0.List_,y14⟩:S_api_Edit)) (some (⟨0,⟨0,[],[]⟩,⟨0,[],[]⟩,[],[],0,[]⟩:S_api_Edit))))
noncomputable def K3 (X0:(S_api_Edit→Option S_api_Edit)) (a0:Int) (a1:(List S_api_Op)) (s0_:(Int×Int×(List S_api_Op)×(List S_api_Tree)×(List S_api_Tree))):Option ((Int×Int×(List S_api_Op)×(List S_api_Tree)×(List S_api_Tree)) ⊕ (Int×(List S_api_Op)×(List S_api_Tree)×(List S_api_Tree))) :=
 cond (decide (s0_.1 < (a1.length:Int))) (((Yy a1 s0_.1).bind fun x3=>cond (x3.Kind == 0) ((Q6 (⟨s0_.2.2.1,s0_.2.1,s0_.2.2.2.1,s0_.2.2.2.2⟩:Zw) x3.N).bind fun y4=>some (y4.kept,y4.out,y4.gone,y4.come)) (cond (x3.Kind == 1) ((Qt (⟨s0_.2.2.1,s0_.2.1,s0_.2.2.2.1,s0_.2.2.2.2⟩:Zw) x3.L).bind fun y5=>some (y5.kept,y5.out,y5.gone,y5.come)) (cond (x3.Kind == 2) ((Qu (⟨s0_.2.2.1,s0_.2.1,s0_.2.2.2.1,s0_.2.2.2.2⟩:Zw) x3.L).bind fun y6=>some (y6.kept,y6.out,y6.gone,y6.come)) (cond (x3.Kind == 3) ((X0 x3.E).bind fun y7=>(Q5 (⟨s0_.2.2.1,s0_.2.1,s0_.2.2.2.1,s0_.2.2.2.2⟩:Zw) a0 y7).bind fun y8=>some (y8.kept,y8.out,y8.gone,y8.come)) (some (s0_.2.1,s0_.2.2.1,s0_.2.2.2.1,s0_.2.2.2.2)))))).bind fun (z1:(Int×(List S_api_Op)×(List S_api_Tree)×(List S_api_Tree)))=>some (.inl ((IntKind.i64.wrap (s0_.1+1)),z1.1,z1.2.1,z1.2.2.1,z1.2.2.2))) (some (.inr (s0_.2.1,s0_.2.2.1,s0_.2.2.2.1,s0_.2.2.2.2)))
noncomputable def Zbq (X0:(S_api_Edit→Option S_api_Edit)) (Uo:(Int→(List S_api_Op)→Option (List S_api_Op))) (a0:Int) (a1:(List S_api_Op)):Option (List S_api_Op) :=
 (Zx (K3 X0 a0 a1) (0,0,([]:List S_api_Op),([]:List S_api_Tree),([]:List S_api_Tree))).bind fun (z14:(Int×(List S_api_Op)×(List S_api_Tree)×(List S_api_Tree)))=>(Xb (⟨z14.2.1,z14.1,z14.2.2.1,z14.2.2.2⟩:Zw)).bind fun y16=>some y16.out
noncomputable def Xe:Nat→((S_api_Edit→Option S_api_Edit)×(Int→(List S_api_Op)→Option (List S_api_Op)))
 | 0=>((fun _=>none),(fun _ _=>none))
 | k+1=>(Zb4 ((Xe k).1) ((Xe k).2),Zbq ((Xe k).1) ((Xe k).2))
noncomputable def Zgl (a0:S_api_Edit):Option S_api_Edit:=lim fun k=>(Xe k).1 a0
noncomputable def Zal (a0:S_api_Edit):Option S_api_Edit :=
 (Zes a0).bind fun y3=>(Zgl y3).bind fun y4=>some y4
noncomputable def J5 :Option Bool :=
 (Zal (⟨3,⟨0,[],[]⟩,⟨0,[],[]⟩,[],[],4,([(⟨2,0,([(⟨10,([1]:List Int),[]⟩:S_api_Tree)]:List S_api_Tree),⟨0,⟨0,[],[]⟩,⟨0,[],[]⟩,[],[],0,[]⟩⟩:S_api_Op),(⟨0,1,[],⟨0,⟨0,[],[]⟩,⟨0,[],[]⟩,[],[],0,[]⟩⟩:S_api_Op)]:List S_api_Op)⟩:S_api_Edit)).bind fun y2=>(cond ((y2.Ops.length:Int) == 2) ((Yy y2.Ops 0).bind fun x12=>cond (x12.Kind == 1) ((Yy y2.Ops 1).bind fun x14=>some (cond (cond ((y2.Ops.length:Int) == 2) (x12.Kind == 1) false) (x14.Kind == 0) false)) (some false)) (some false)).bind fun (z7:Bool)=>some z7
noncomputable def Jw (a0:S_api_Edit) (s0_:(Int×(List Zp))):Option ((Int×(List Zp)) ⊕ (List Zp)) :=
 cond (decide (s0_.1 < (a0.Words.length:Int))) ((Yy a0.Words s0_.1).bind fun x2=>(Uw 32 s0_.2 ([(⟨x2.At,x2.Mask,x2.New,x2.Old⟩:Zp)]:List Zp)).bind fun l3=>some (.inl ((IntKind.i64.wrap (s0_.1+1)),l3))) (some (.inr s0_.2))
noncomputable def Jx (Xw:(S_api_Edit→Option S_api_Edit)) (a0:S_api_Edit) (s1_:(Int×(List S_api_KidEdit))):Option ((Int×(List S_api_KidEdit)) ⊕ (List S_api_KidEdit)) :=
 cond (decide (s1_.1 < (a0.Kids.length:Int))) ((Yy a0.Kids s1_.1).bind fun x6=>(Xw x6.E).bind fun y10=>(Uw 208 s1_.2 ([(⟨x6.At,y10⟩:S_api_KidEdit)]:List S_api_KidEdit)).bind fun l11=>some (.inl ((IntKind.i64.wrap (s1_.1+1)),l11))) (some (.inr s1_.2))
noncomputable def Jy (Xw:(S_api_Edit→Option S_api_Edit)) (a0:S_api_Edit) (s2_:(Int×(List S_api_Op))):Option ((Int×(List S_api_Op)) ⊕ (List S_api_Op)) :=
 cond (decide (s2_.1 < (a0.Ops.length:Int))) ((Yy a0.Ops s2_.1).bind fun x15=>(cond (cond (x15.Kind == 1) true (x15.Kind == 2)) (some (IntKind.i64.wrap (3 - x15.Kind))) (some x15.Kind)).bind fun (z16:Int)=>(Xw x15.E).bind fun y19=>(Uw 240 s2_.2 ([(⟨z16,x15.N,x15.L,y19⟩:S_api_Op)]:List S_api_Op)).bind fun l20=>some (.inl ((IntKind.i64.wrap (s2_.1+1)),l20))) (some (.inr s2_.2))
noncomputable def Vk (Xw:(S_api_Edit→Option S_api_Edit)) (a0:S_api_Edit):Option S_api_Edit :=
 (Zx (Jw a0) (0,([]:List Zp))).bind fun (z5:(List Zp))=>(Zx (Jx Xw a0) (0,([]:List S_api_KidEdit))).bind fun (z13:(List S_api_KidEdit))=>(Zx (Jy Xw a0) (0,([]:List S_api_Op))).bind fun (z22:(List S_api_Op))=>some (⟨a0.Kind,a0.New,a0.Old,z5,z13,a0.List_,z22⟩:S_api_Edit)
noncomputable def Qk:Nat→(S_api_Edit→Option S_api_Edit)
 | 0=>(fun _=>none)
 | k+1=>Vk ((Qk k))
noncomputable def Zck (a0:S_api_Edit):Option S_api_Edit:=lim fun k=>(Qk k) a0
noncomputable def Kp (a0:(List Int)) (s0_:Int):Option (Int ⊕ Int) :=
 (cond (decide (0 < s0_)) ((Yy a0 (IntKind.i64.wrap (s0_ - 1))).bind fun x4=>some (cond (decide (0 < s0_)) (x4 == 0) false)) (some false)).bind fun (z2:Bool)=>cond z2 (some (.inl (IntKind.i64.wrap (s0_ - 1)))) (some (.inr s0_))
noncomputable def Uh (a0:(List Int)):Option (List Int) :=
 (Zx (Kp a0) (a0.length:Int)).bind fun (z7:Int)=>(Ze7 a0 0 z7).bind fun l10=>(Uw 8 ([]:List Int) l10).bind fun l11=>some l11
noncomputable def Qb (Kz:(S_api_Tree→Option S_api_Tree)) (a0:S_api_Tree) (s0_:(Int×Int×(List S_api_Tree))):Option ((Int×Int×(List S_api_Tree)) ⊕ (Int×(List S_api_Tree))) :=
 cond (decide (s0_.2.1 < (a0.Kids.length:Int))) (((Yy a0.Kids s0_.2.1).bind fun x4=>(Kz x4).bind fun y5=>(Uw 56 s0_.2.2 ([y5]:List S_api_Tree)).bind fun l7=>cond (y5.Kind != 0) (some ((IntKind.i64.wrap (s0_.2.1+1)),l7)) (some (s0_.1,l7))).bind fun (z1:(Int×(List S_api_Tree)))=>some (.inl (z1.1,(IntKind.i64.wrap (s0_.2.1+1)),z1.2))) (some (.inr (s0_.1,s0_.2.2)))
noncomputable def V7 (Kz:(S_api_Tree→Option S_api_Tree)) (a0:S_api_Tree):Option S_api_Tree :=
 cond (a0.Kind == 0) (some (⟨0,[],[]⟩:S_api_Tree)) ((Zx (Qb Kz a0) (0,0,([]:List S_api_Tree))).bind fun (z10:(Int×(List S_api_Tree)))=>cond (a0.Kind == 1) ((Uh a0.Words).bind fun y14=>(Ze7 z10.2 0 z10.1).bind fun l15=>some (⟨1,y14,l15⟩:S_api_Tree)) ((Uw 8 ([]:List Int) a0.Words).bind fun l17=>some (⟨a0.Kind,l17,z10.2⟩:S_api_Tree)))
noncomputable def Xh:Nat→(S_api_Tree→Option S_api_Tree)
 | 0=>(fun _=>none)
 | k+1=>V7 ((Xh k))
noncomputable def Uf (a0:S_api_Tree):Option S_api_Tree:=lim fun k=>(Xh k) a0
noncomputable def Vz (a0:(List S_api_Tree)) (s0_:(Int×(List S_api_Tree))):Option ((Int×(List S_api_Tree)) ⊕ (List S_api_Tree)) :=
 cond (decide (s0_.1 < (a0.length:Int))) ((Yy a0 s0_.1).bind fun x1=>(Uf x1).bind fun y2=>(Uw 56 s0_.2 ([y2]:List S_api_Tree)).bind fun l3=>some (.inl ((IntKind.i64.wrap (s0_.1+1)),l3))) (some (.inr s0_.2))
noncomputable def Vw (a0:(List S_api_Tree)):Option (List S_api_Tree) :=
 (Zx (Vz a0) (0,([]:List S_api_Tree))).bind fun (z5:(List S_api_Tree))=>some z5
noncomputable def X2 (a0:(List S_api_Op)) (a2:Int) (s0_:(Int×(List S_api_Tree))):Option ((Int×(List S_api_Tree)) ⊕ (Int×(List S_api_Tree))) :=
 (cond (decide (s0_.1 < (a0.length:Int))) ((Yy a0 s0_.1).bind fun x10=>cond (x10.Kind == 1) (some (cond (decide (s0_.1 < (a0.length:Int))) true false)) (some (cond (decide (s0_.1 < (a0.length:Int))) (cond (x10.Kind == 1) true (x10.Kind == 2)) false))) (some false)).bind fun (z5:Bool)=>cond z5 (((Yy a0 s0_.1).bind fun x19=>cond (x19.Kind == a2) ((Yy a0 s0_.1).bind fun x21=>(Vw x21.L).bind fun y23=>(Uw 56 s0_.2 y23).bind fun l24=>some l24) (some s0_.2)).bind fun (z16:(List S_api_Tree))=>some (.inl ((IntKind.i64.wrap (s0_.1+1)),z16))) (some (.inr (s0_.1,s0_.2)))
noncomputable def Ve (a0:(List S_api_Op)) (a1:Int) (a2:Int):Option ((List S_api_Tree)×Int) :=
 (Zx (X2 a0 a2) (a1,([]:List S_api_Tree))).bind fun (z27:(Int×(List S_api_Tree)))=>some (z27.2,z27.1)
noncomputable def Kw (a0:Int) (a1:S_api_Edit):Option Bool :=
 some (cond (a1.Kind == 0) true (cond (cond (cond (a1.Kind == 2) (a0 == 9) false) ((a1.Words.length:Int) == 0) false) ((a1.Kids.length:Int) == 0) false))
noncomputable def Ki (Y4:(S_api_Edit→Option S_api_Edit)) (a0:S_api_Edit) (s0_:(Int×(List S_api_KidEdit))):Option ((Int×(List S_api_KidEdit)) ⊕ (List S_api_KidEdit)) :=
 cond (decide (s0_.1 < (a0.Kids.length:Int))) ((Yy a0.Kids s0_.1).bind fun x7=>(Y4 x7.E).bind fun y11=>(Uw 208 s0_.2 ([(⟨x7.At,y11⟩:S_api_KidEdit)]:List S_api_KidEdit)).bind fun l12=>some (.inl ((IntKind.i64.wrap (s0_.1+1)),l12))) (some (.inr s0_.2))
noncomputable def V9 (Y4:(S_api_Edit→Option S_api_Edit)) (Q8:(Int→(List S_api_Op)→Option (List S_api_Op))) (a0:S_api_Edit):Option S_api_Edit :=
 cond (a0.Kind == 1) ((Uf a0.Old).bind fun y3=>(Uf a0.New).bind fun y4=>some (⟨1,y3,y4,[],[],0,[]⟩:S_api_Edit)) (cond (a0.Kind == 2) ((Uw 32 ([]:List Zp) a0.Words).bind fun l6=>(Zx (Ki Y4 a0) (0,([]:List S_api_KidEdit))).bind fun (z14:(List S_api_KidEdit))=>some (⟨2,⟨0,[],[]⟩,⟨0,[],[]⟩,l6,z14,0,[]⟩:S_api_Edit)) (cond (a0.Kind == 3) ((Q8 a0.List_ a0.Ops).bind fun y16=>some (⟨3,⟨0,[],[]⟩,⟨0,[],[]⟩,[],[],a0.List_,y16⟩:S_api_Edit)) (some (⟨0,⟨0,[],[]⟩,⟨0,[],[]⟩,[],[],0,[]⟩:S_api_Edit))))
noncomputable def Xa (Y4:(S_api_Edit→Option S_api_Edit)) (a0:Int) (a1:(List S_api_Op)) (s0_:(Int×(List S_api_Op))):Option ((Int×(List S_api_Op)) ⊕ ((List S_api_Op) ⊕ (List S_api_Op))) :=
 cond (decide (s0_.1 < (a1.length:Int))) (((Ve a1 s0_.1 1).bind fun y3=>(Ve a1 s0_.1 2).bind fun y5=>(cond (decide (0 < (y3.1.length:Int))) ((Uw 240 s0_.2 ([(⟨1,0,y3.1,⟨0,⟨0,[],[]⟩,⟨0,[],[]⟩,[],[],0,[]⟩⟩:S_api_Op)]:List S_api_Op)).bind fun l7=>some l7) (some s0_.2)).bind fun (z6:(List S_api_Op))=>(cond (decide (0 < (y5.1.length:Int))) ((Uw 240 z6 ([(⟨2,0,y5.1,⟨0,⟨0,[],[]⟩,⟨0,[],[]⟩,[],[],0,[]⟩⟩:S_api_Op)]:List S_api_Op)).bind fun l10=>some l10) (some z6)).bind fun (z9:(List S_api_Op))=>cond (decide ((a1.length:Int)≤y3.2)) (some (.inr z9)) ((Yy a1 y3.2).bind fun x14=>((Yy a1 y3.2).bind fun x19=>cond (x19.Kind == 3) ((Yy a1 y3.2).bind fun x24=>(Y4 x24.E).bind fun y26=>(Kw a0 y26).bind fun y28=>cond y28 (some (0,1,0,0,([]:(List Int)),([]:(List S_api_Tree)),0,([]:(List Int)),([]:(List S_api_Tree)),([]:(List Zp)),([]:(List S_api_KidEdit)),0,([]:(List S_api_Op)))) (some (3,0,y26.Kind,y26.Old.Kind,y26.Old.Words,y26.Old.Kids,y26.New.Kind,y26.New.Words,y26.New.Kids,y26.Words,y26.Kids,y26.List_,y26.Ops))) (some (0,x14.N,0,0,([]:(List Int)),([]:(List S_api_Tree)),0,([]:(List Int)),([]:(List S_api_Tree)),([]:(List Zp)),([]:(List S_api_KidEdit)),0,([]:(List S_api_Op))))).bind fun (z16:(Int×Int×Int×Int×(List Int)×(List S_api_Tree)×Int×(List Int)×(List S_api_Tree)×(List Zp)×(List S_api_KidEdit)×Int×(List S_api_Op)))=>(cond (z16.1 == 0) (cond (decide (0 < (z9.length:Int))) ((Yy z9 (IntKind.i64.wrap ((z9.length:Int) - 1))).bind fun x36=>some (cond (cond (z16.1 == 0) (decide (0 < (z9.length:Int))) false) (x36.Kind == 0) false)) (some false)) (some false)).bind fun (z33:Bool)=>cond z33 ((Yy z9 (IntKind.i64.wrap ((z9.length:Int) - 1))).bind fun x40=>some (.inl (y3.2,(Zg9 z9 (IntKind.i64.wrap ((z9.length:Int) - 1)) (⟨x40.Kind,(IntKind.i64.wrap (x40.N+z16.2.1)),x40.L,x40.E⟩:S_api_Op))))) ((Uw 240 z9 ([(⟨z16.1,z16.2.1,[],⟨z16.2.2.1,⟨z16.2.2.2.1,z16.2.2.2.2.1,z16.2.2.2.2.2.1⟩,⟨z16.2.2.2.2.2.2.1,z16.2.2.2.2.2.2.2.1,z16.2.2.2.2.2.2.2.2.1⟩,z16.2.2.2.2.2.2.2.2.2.1,z16.2.2.2.2.2.2.2.2.2.2.1,z16.2.2.2.2.2.2.2.2.2.2.2.1,z16.2.2.2.2.2.2.2.2.2.2.2.2⟩⟩:S_api_Op)]:List S_api_Op)).bind fun l44=>some (.inl (y3.2,l44))))).bind fun (z1:((Int×(List S_api_Op)) ⊕ (List S_api_Op)))=>match z1 with | .inl z1=>some (.inl ((IntKind.i64.wrap (z1.1+1)),z1.2)) | .inr z1=>some (.inr (.inl z1))) (some (.inr (.inr s0_.2)))
noncomputable def Vd (Y4:(S_api_Edit→Option S_api_Edit)) (Q8:(Int→(List S_api_Op)→Option (List S_api_Op))) (a0:Int) (a1:(List S_api_Op)):Option (List S_api_Op) :=
 (Zx (Xa Y4 a0 a1) (0,([]:List S_api_Op))).bind fun (z48:((List S_api_Op) ⊕ (List S_api_Op)))=>match z48 with | .inl z48=>some z48 | .inr z48=>some z48
noncomputable def Ys:Nat→((S_api_Edit→Option S_api_Edit)×(Int→(List S_api_Op)→Option (List S_api_Op)))
 | 0=>((fun _=>none),(fun _ _=>none))
 | k+1=>(V9 ((Ys k).1) ((Ys k).2),Vd ((Ys k).1) ((Ys k).2))
noncomputable def Zdc (a0:S_api_Edit):Option S_api_Edit:=lim fun k=>(Ys k).1 a0
noncomputable def Uj (a0:S_api_Edit):Option S_api_Edit :=
 (Zck a0).bind fun y3=>(Zdc y3).bind fun y4=>some y4
noncomputable def Ko (a0:(List Int)) (a1:(List Int)) (s0_:Int):Option (Int ⊕ (Unit ⊕ Unit)) :=
 cond (decide (s0_ < (a0.length:Int))) ((Yy a0 s0_).bind fun x3=>(Yy a1 s0_).bind fun x4=>cond (x3 != x4) (some (.inr (.inl ()))) (some (.inl (IntKind.i64.wrap (s0_+1))))) (some (.inr (.inr ())))
noncomputable def Ue (a0:(List Int)) (a1:(List Int)):Option Bool :=
 cond ((a0.length:Int) != (a1.length:Int)) (some false) ((Zx (Ko a0 a1) 0).bind fun (z7:(Unit ⊕ Unit))=>match z7 with | .inl z7=>some false | .inr z7=>some true)
noncomputable def Kg (K0:(S_api_Tree→S_api_Tree→Option Bool)) (a0:S_api_Tree) (a1:S_api_Tree) (s0_:Int):Option (Int ⊕ (Unit ⊕ Unit)) :=
 cond (decide (s0_ < (a0.Kids.length:Int))) ((Yy a0.Kids s0_).bind fun x9=>(Yy a1.Kids s0_).bind fun x10=>(K0 x9 x10).bind fun y11=>cond (!y11) (some (.inr (.inl ()))) (some (.inl (IntKind.i64.wrap (s0_+1))))) (some (.inr (.inr ())))
noncomputable def V8 (K0:(S_api_Tree→S_api_Tree→Option Bool)) (a0:S_api_Tree) (a1:S_api_Tree):Option Bool :=
 (cond (a0.Kind != a1.Kind) (some true) ((Ue a0.Words a1.Words).bind fun y4=>some (cond (cond (a0.Kind != a1.Kind) true (!y4)) true ((a0.Kids.length:Int) != (a1.Kids.length:Int))))).bind fun (z2:Bool)=>cond z2 (some false) ((Zx (Kg K0 a0 a1) 0).bind fun (z14:(Unit ⊕ Unit))=>match z14 with | .inl z14=>some false | .inr z14=>some true)
noncomputable def Qy:Nat→(S_api_Tree→S_api_Tree→Option Bool)
 | 0=>(fun _ _=>none)
 | k+1=>V8 ((Qy k))
noncomputable def Ug (a0:S_api_Tree) (a1:S_api_Tree):Option Bool:=lim fun k=>(Qy k) a0 a1
noncomputable def Jq (a0:(List S_api_Tree)) (a1:(List S_api_Tree)) (s0_:Int):Option (Int ⊕ (Unit ⊕ Unit)) :=
 cond (decide (s0_ < (a0.length:Int))) ((Yy a0 s0_).bind fun x4=>(Yy a1 s0_).bind fun x5=>(Ug x4 x5).bind fun y6=>cond (!y6) (some (.inr (.inl ()))) (some (.inl (IntKind.i64.wrap (s0_+1))))) (some (.inr (.inr ())))
noncomputable def Jj (a0:(List S_api_Tree)) (a1:(List S_api_Tree)):Option Bool :=
 cond ((a0.length:Int) != (a1.length:Int)) (some false) ((Zx (Jq a0 a1) 0).bind fun (z9:(Unit ⊕ Unit))=>match z9 with | .inl z9=>some false | .inr z9=>some true)
noncomputable def Kj (a0:S_api_Edit) (a1:S_api_Edit) (s0_:Int):Option (Int ⊕ (Unit ⊕ Unit)) :=
 cond (decide (s0_ < (a0.Words.length:Int))) ((Yy a0.Words s0_).bind fun x13=>(Yy a1.Words s0_).bind fun x14=>cond (!((x13.At == x14.At) && ((x13.Mask == x14.Mask) && ((x13.Old == x14.Old) && (x13.New == x14.New))))) (some (.inr (.inl ()))) (some (.inl (IntKind.i64.wrap (s0_+1))))) (some (.inr (.inr ())))
noncomputable def Kk (X8:(S_api_Edit→S_api_Edit→Option Bool)) (a0:S_api_Edit) (a1:S_api_Edit) (s1_:Int):Option (Int ⊕ (Unit ⊕ Unit)) :=
 cond (decide (s1_ < (a0.Kids.length:Int))) (((Yy a0.Kids s1_).bind fun x37=>(Yy a1.Kids s1_).bind fun x39=>cond (x37.At != x39.At) (some true) ((X8 x37.E x39.E).bind fun y45=>some (cond (x37.At != x39.At) true (!y45)))).bind fun (z27:Bool)=>cond z27 (some (.inr (.inl ()))) (some (.inl (IntKind.i64.wrap (s1_+1))))) (some (.inr (.inr ())))
noncomputable def Kl (X8:(S_api_Edit→S_api_Edit→Option Bool)) (a0:S_api_Edit) (a1:S_api_Edit) (s2_:Int):Option (Int ⊕ (Unit ⊕ Unit)) :=
 cond (decide (s2_ < (a0.Ops.length:Int))) ((Yy a0.Ops s2_).bind fun x50=>(Yy a1.Ops s2_).bind fun x51=>(cond (x50.Kind != x51.Kind) (some true) (cond (x50.N != x51.N) (some true) ((Jj x50.L x51.L).bind fun y57=>cond y57 ((X8 x50.E x51.E).bind fun y58=>some (cond (cond (cond (x50.Kind != x51.Kind) true (x50.N != x51.N)) true (!y57)) true (!y58))) (some true)))).bind fun (z54:Bool)=>cond z54 (some (.inr (.inl ()))) (some (.inl (IntKind.i64.wrap (s2_+1))))) (some (.inr (.inr ())))
noncomputable def Ua (X8:(S_api_Edit→S_api_Edit→Option Bool)) (a0:S_api_Edit) (a1:S_api_Edit):Option Bool :=
 (cond (a0.Kind != a1.Kind) (some true) (cond (a0.List_ != a1.List_) (some true) ((Ug a0.Old a1.Old).bind fun y6=>cond y6 ((Ug a0.New a1.New).bind fun y7=>some (cond (cond (cond (cond (cond (cond (a0.Kind != a1.Kind) true (a0.List_ != a1.List_)) true (!y6)) true (!y7)) true ((a0.Words.length:Int) != (a1.Words.length:Int))) true ((a0.Kids.length:Int) != (a1.Kids.length:Int))) true ((a0.Ops.length:Int) != (a1.Ops.length:Int)))) (some true)))).bind fun (z3:Bool)=>cond z3 (some false) ((Zx (Kj a0 a1) 0).bind fun (z17:(Unit ⊕ Unit))=>match z17 with | .inl z17=>some false | .inr z17=>(Zx (Kk X8 a0 a1) 0).bind fun (z49:(Unit ⊕ Unit))=>match z49 with | .inl z49=>some false | .inr z49=>(Zx (Kl X8 a0 a1) 0).bind fun (z64:(Unit ⊕ Unit))=>match z64 with | .inl z64=>some false | .inr z64=>some true)
noncomputable def Qz:Nat→(S_api_Edit→S_api_Edit→Option Bool)
 | 0=>(fun _ _=>none)
 | k+1=>Ua ((Qz k))
noncomputable def Zdd (a0:S_api_Edit) (a1:S_api_Edit):Option Bool:=lim fun k=>(Qz k) a0 a1
noncomputable def Vf (a0:S_api_Tree):Option Bool :=
 some (cond (a0.Kind != 0) true (decide (0 < (IntKind.i64.wrap ((a0.Words.length:Int)+(a0.Kids.length:Int))))))
noncomputable def Kr (a0:Bool) (a1:Bool) (a2:Bool) (a3:S_api_Edit):Option Bool :=
 (cond a0 ((Vf a3.Old).bind fun y6=>cond y6 (some false) ((Vf a3.New).bind fun y7=>some (cond (cond (!(cond a0 (cond y6 true y7) false)) (!(cond a1 (decide (0 < (IntKind.i64.wrap ((a3.Words.length:Int)+(a3.Kids.length:Int))))) false)) false) (!(cond a2 (cond (a3.List_ != 0) true (decide (0 < (a3.Ops.length:Int)))) false)) false))) (some (cond (!(cond a1 (decide (0 < (IntKind.i64.wrap ((a3.Words.length:Int)+(a3.Kids.length:Int))))) false)) (!(cond a2 (cond (a3.List_ != 0) true (decide (0 < (a3.Ops.length:Int)))) false)) false))).bind fun (z3:Bool)=>some z3
noncomputable def Zcr (a0:Int):Option Bool :=
 some (cond (decide (2≤a0)) (decide (a0≤9)) false)
noncomputable def Ks (a0:(List S_api_Tree)) (s0_:Int):Option (Int ⊕ (Unit ⊕ Unit)) :=
 cond (decide (s0_ < (a0.length:Int))) ((Yy a0 s0_).bind fun x2=>cond (x2.Kind != 1) (some (.inr (.inl ()))) (some (.inl (IntKind.i64.wrap (s0_+1))))) (some (.inr (.inr ())))
noncomputable def Um (a0:(List S_api_Tree)):Option Bool :=
 (Zx (Ks a0) 0).bind fun (z5:(Unit ⊕ Unit))=>match z5 with | .inl z5=>some false | .inr z5=>some true
noncomputable def Zhp (a0:Int):Option (Int×Bool) :=
 ((some (⟨[0,1,8,16,32,64],rfl⟩:(Arr Int 6)))).bind fun y6=>((some (⟨[0,0,0,0,0,0],rfl⟩:(Arr Int 6)))).bind fun y8=>cond (cond (decide (a0 < 0)) true (decide (6≤a0))) (some (0,false)) ((Yy y6.1 a0).bind fun x12=>some (x12,true))
noncomputable def Zem (a0:Int) (a1:Int):Option Bool :=
 (Zhp a0).bind fun y2=>(cond y2.2 ((Zhg (0≤y2.1)).bind fun u6=>some (cond y2.2 ((Int.fdiv a1 (2 ^ min (Int.toNat y2.1) 64)) == 0) false)) (some false)).bind fun (z4:Bool)=>some z4
noncomputable def Zc3 (Y9:(S_api_Tree→Option Bool)) (Y6:(S_api_Tree→Int→Option Bool)) (Yq:((List S_api_Tree)→Int→Option Bool)) (Y1:((List S_api_Tree)→Int→Option Bool)) (a0:S_api_Tree):Option Bool :=
 cond (a0.Kind == 10) (some (cond ((a0.Words.length:Int) == 1) ((a0.Kids.length:Int) == 0) false)) ((Y6 a0 64).bind fun y2=>some y2)
noncomputable def Zc4 (Y9:(S_api_Tree→Option Bool)) (Y6:(S_api_Tree→Int→Option Bool)) (Yq:((List S_api_Tree)→Int→Option Bool)) (Y1:((List S_api_Tree)→Int→Option Bool)) (a0:S_api_Tree) (a1:Int):Option Bool :=
 cond (a0.Kind == 0) (some (cond ((a0.Words.length:Int) == 0) ((a0.Kids.length:Int) == 0) false)) (cond (a1 == 0) (some false) (cond (a0.Kind == 1) ((cond (decide ((a0.Words.length:Int) < 65536)) (cond (decide ((a0.Kids.length:Int) < 65536)) ((Yq a0.Kids (IntKind.i64.wrap (a1 - 1))).bind fun y4=>some (cond (cond (decide ((a0.Words.length:Int) < 65536)) (decide ((a0.Kids.length:Int) < 65536)) false) y4 false)) (some false)) (some false)).bind fun (z2:Bool)=>some z2) ((Zcr a0.Kind).bind fun y8=>cond (cond (cond (!y8) true (decide (0 < (a0.Words.length:Int)))) true (decide (1048576≤(a0.Kids.length:Int)))) (some false) (cond (a0.Kind == 8) ((Yq a0.Kids (IntKind.i64.wrap (a1 - 1))).bind fun y10=>some y10) (cond (a0.Kind == 9) (((Um a0.Kids).bind fun y16=>cond y16 ((Yq a0.Kids (IntKind.i64.wrap (a1 - 1))).bind fun y17=>some (cond y16 y17 false)) (some false)).bind fun (z13:Bool)=>some z13) ((Y1 a0.Kids (IntKind.i64.wrap (a0.Kind - 2))).bind fun y20=>some y20))))))
noncomputable def Vq (Y6:(S_api_Tree→Int→Option Bool)) (a0:(List S_api_Tree)) (a1:Int) (s0_:Int):Option (Int ⊕ (Unit ⊕ Unit)) :=
 cond (decide (s0_ < (a0.length:Int))) ((Yy a0 s0_).bind fun x2=>(Y6 x2 a1).bind fun y4=>cond (!y4) (some (.inr (.inl ()))) (some (.inl (IntKind.i64.wrap (s0_+1))))) (some (.inr (.inr ())))
noncomputable def Gz (Y9:(S_api_Tree→Option Bool)) (Y6:(S_api_Tree→Int→Option Bool)) (Yq:((List S_api_Tree)→Int→Option Bool)) (Y1:((List S_api_Tree)→Int→Option Bool)) (a0:(List S_api_Tree)) (a1:Int):Option Bool :=
 (Zx (Vq Y6 a0 a1) 0).bind fun (z7:(Unit ⊕ Unit))=>match z7 with | .inl z7=>some false | .inr z7=>some true
noncomputable def Vp (Y9:(S_api_Tree→Option Bool)) (a0:(List S_api_Tree)) (a1:Int) (s0_:Int):Option (Int ⊕ (Unit ⊕ Unit)) :=
 cond (decide (s0_ < (a0.length:Int))) ((Yy a0 s0_).bind fun x2=>(cond (x2.Kind != 10) (some true) ((Y9 x2).bind fun y10=>cond y10 ((Yy x2.Words 0).bind fun x11=>(Zem a1 x11).bind fun y12=>some (cond (cond (x2.Kind != 10) true (!y10)) true (!y12))) (some true))).bind fun (z6:Bool)=>cond z6 (some (.inr (.inl ()))) (some (.inl (IntKind.i64.wrap (s0_+1))))) (some (.inr (.inr ())))
noncomputable def Gy (Y9:(S_api_Tree→Option Bool)) (Y6:(S_api_Tree→Int→Option Bool)) (Yq:((List S_api_Tree)→Int→Option Bool)) (Y1:((List S_api_Tree)→Int→Option Bool)) (a0:(List S_api_Tree)) (a1:Int):Option Bool :=
 (Zx (Vp Y9 a0 a1) 0).bind fun (z17:(Unit ⊕ Unit))=>match z17 with | .inl z17=>some false | .inr z17=>some true
noncomputable def Zz:Nat→((S_api_Tree→Option Bool)×(S_api_Tree→Int→Option Bool)×((List S_api_Tree)→Int→Option Bool)×((List S_api_Tree)→Int→Option Bool))
 | 0=>((fun _=>none),(fun _ _=>none),(fun _ _=>none),(fun _ _=>none))
 | k+1=>(Zc3 ((Zz k).1) ((Zz k).2.1) ((Zz k).2.2.1) ((Zz k).2.2.2),Zc4 ((Zz k).1) ((Zz k).2.1) ((Zz k).2.2.1) ((Zz k).2.2.2),Gz ((Zz k).1) ((Zz k).2.1) ((Zz k).2.2.1) ((Zz k).2.2.2),Gy ((Zz k).1) ((Zz k).2.1) ((Zz k).2.2.1) ((Zz k).2.2.2))
noncomputable def Ze4 (a0:S_api_Tree):Option Bool:=lim fun k=>(Zz k).1 a0
noncomputable def Zbt (a0:S_api_Tree):Option Bool :=
 (cond (a0.Kind != 10) ((Ze4 a0).bind fun y4=>some (cond (a0.Kind != 10) y4 false)) (some false)).bind fun (z2:Bool)=>some z2
noncomputable def Zbc (a0:Int) (s0_:(Int×Int)):Option ((Int×Int) ⊕ Int) :=
 cond (decide (s0_.2 < 8)) (((Zhg (0≤s0_.2)).bind fun u3=>cond ((IntKind.u8.wrap (Zg0 .u8 (Int.fdiv a0 (2 ^ min (Int.toNat s0_.2) 8)) 1)) == 1) ((Zhg (0≤(IntKind.i64.wrap (8 * s0_.2)))).bind fun u4=>some (IntKind.u64.wrap (Zxj .u64 s0_.1 (IntKind.u64.wrap (255 * 2 ^ min (Int.toNat (IntKind.i64.wrap (8 * s0_.2))) 64))))) (some s0_.1)).bind fun (z1:Int)=>some (.inl (z1,(IntKind.i64.wrap (s0_.2+1))))) (some (.inr s0_.1))
noncomputable def Zcs (a0:Int):Option Int :=
 (Zx (Zbc a0) (0,0)).bind fun (z7:Int)=>some z7
noncomputable def Kq (a0:(List Zp)) (s0_:(Int×Int)):Option ((Int×Int) ⊕ (Unit ⊕ Unit)) :=
 cond (decide (s0_.2 < (a0.length:Int))) ((Yy a0 s0_.2).bind fun x2=>(Zcs x2.Mask).bind fun y4=>cond (cond (cond (cond (cond (decide (x2.At≤s0_.1)) true (decide (65534 < x2.At))) true (x2.Mask == 0)) true ((IntKind.u64.wrap (Zg0 .u64 x2.Old (IntKind.u64.wrap (Zhz .u64 (if IntKind.signed .u64=true then -1 else IntKind.max .u64) y4)))) != 0)) true ((IntKind.u64.wrap (Zg0 .u64 x2.New (IntKind.u64.wrap (Zhz .u64 (if IntKind.signed .u64=true then -1 else IntKind.max .u64) y4)))) != 0)) (some (.inr (.inl ()))) (some (.inl (x2.At,(IntKind.i64.wrap (s0_.2+1)))))) (some (.inr (.inr ())))
noncomputable def Ul (a0:(List Zp)):Option Bool :=
 (Zx (Kq a0) ((-1),0)).bind fun (z7:(Unit ⊕ Unit))=>match z7 with | .inl z7=>some false | .inr z7=>some true
noncomputable def Zab (a0:Int) (a1:S_api_Edit):Option Bool :=
 cond (a0 == 8) (some (a1.Kind != 0)) (cond (a0 == 9) (some (cond (a1.Kind == 2) true (cond (cond (a1.Kind == 1) (a1.Old.Kind == 1) false) (a1.New.Kind == 1) false))) (some false))
noncomputable def Ga (a0:S_api_Op):Option Int :=
 cond (a0.Kind == 0) (some (if 1048576 < (if a0.N < 0 then 0 else a0.N) then 1048576 else (if a0.N < 0 then 0 else a0.N))) ((cond (a0.Kind == 1) (some (a0.Kind == 1)) (some (a0.Kind == 2))).bind fun (z1:Bool)=>cond z1 (some (a0.L.length:Int)) (cond (a0.Kind == 3) (some 1) (some 0)))
noncomputable def Uk (a0:S_api_Edit) (s0_:(Int×Int×Int)):Option ((Int×Int×Int) ⊕ (Int×Int)) :=
 cond (decide (s0_.2.2 < (a0.Ops.length:Int))) (((Yy a0.Ops s0_.2.2).bind fun x3=>(cond (x3.Kind != 2) ((Ga x3).bind fun y5=>some (if 1048576 < (IntKind.i64.wrap (s0_.1+y5)) then 1048576 else (IntKind.i64.wrap (s0_.1+y5)))) (some s0_.1)).bind fun (z4:Int)=>cond (x3.Kind != 1) ((Ga x3).bind fun y7=>some (z4,(if 1048576 < (IntKind.i64.wrap (s0_.2.1+y7)) then 1048576 else (IntKind.i64.wrap (s0_.2.1+y7))))) (some (z4,s0_.2.1))).bind fun (z1:(Int×Int))=>some (.inl (z1.1,z1.2,(IntKind.i64.wrap (s0_.2.2+1))))) (some (.inr (s0_.1,s0_.2.1)))
noncomputable def Zba (a0:S_api_Edit):Option (Int×Int) :=
 (Zx (Uk a0) (0,0,0)).bind fun (z10:(Int×Int))=>some (z10.1,z10.2)
noncomputable def Zc1 (Yh:(S_api_Edit→Option Bool)) (Ye:(S_api_Edit→Int→Option Bool)) (Z5:((List S_api_KidEdit)→Int→Option Bool)) (Z8:(S_api_Edit→Int→Option Bool)) (Z9:(Int→S_api_Op→Int→Option Bool)) (Z4:(Bool→Bool→Bool→S_api_Op→Option Bool)) (a0:S_api_Edit):Option Bool :=
 (Ye a0 64).bind fun y2=>some y2
noncomputable def Zc2 (Yh:(S_api_Edit→Option Bool)) (Ye:(S_api_Edit→Int→Option Bool)) (Z5:((List S_api_KidEdit)→Int→Option Bool)) (Z8:(S_api_Edit→Int→Option Bool)) (Z9:(Int→S_api_Op→Int→Option Bool)) (Z4:(Bool→Bool→Bool→S_api_Op→Option Bool)) (a0:S_api_Edit) (a1:Int):Option Bool :=
 cond (a1 == 0) (some false) (cond (a0.Kind == 0) ((Kr true true true a0).bind fun y2=>some y2) (cond (a0.Kind == 1) (((Kr false true true a0).bind fun y10=>cond y10 ((Zbt a0.Old).bind fun y11=>cond y11 ((Zbt a0.New).bind fun y12=>some (cond (cond y10 y11 false) y12 false)) (some false)) (some false)).bind fun (z6:Bool)=>some z6) (cond (a0.Kind == 2) (((Kr true false true a0).bind fun y22=>cond y22 ((Ul a0.Words).bind fun y23=>cond y23 ((Z5 a0.Kids (IntKind.i64.wrap (a1 - 1))).bind fun y24=>some (cond (cond y22 y23 false) y24 false)) (some false)) (some false)).bind fun (z18:Bool)=>some z18) (cond (a0.Kind == 3) (((Kr true true false a0).bind fun y32=>cond y32 ((Z8 a0 (IntKind.i64.wrap (a1 - 1))).bind fun y33=>some (cond y32 y33 false)) (some false)).bind fun (z29:Bool)=>some z29) (some false)))))
noncomputable def K5 (Ye:(S_api_Edit→Int→Option Bool)) (a0:(List S_api_KidEdit)) (a1:Int) (s0_:(Int×Int)):Option ((Int×Int) ⊕ (Unit ⊕ Unit)) :=
 cond (decide (s0_.2 < (a0.length:Int))) ((Yy a0 s0_.2).bind fun x2=>(cond (decide (x2.At≤s0_.1)) (some true) (cond (decide (65534 < x2.At)) (some true) (cond (x2.E.Kind == 0) (some true) ((Ye x2.E a1).bind fun y6=>some (cond (cond (cond (decide (x2.At≤s0_.1)) true (decide (65534 < x2.At))) true (x2.E.Kind == 0)) true (!y6)))))).bind fun (z4:Bool)=>cond z4 (some (.inr (.inl ()))) (some (.inl (x2.At,(IntKind.i64.wrap (s0_.2+1)))))) (some (.inr (.inr ())))
noncomputable def U1 (Yh:(S_api_Edit→Option Bool)) (Ye:(S_api_Edit→Int→Option Bool)) (Z5:((List S_api_KidEdit)→Int→Option Bool)) (Z8:(S_api_Edit→Int→Option Bool)) (Z9:(Int→S_api_Op→Int→Option Bool)) (Z4:(Bool→Bool→Bool→S_api_Op→Option Bool)) (a0:(List S_api_KidEdit)) (a1:Int):Option Bool :=
 (Zx (K5 Ye a0 a1) ((-1),0)).bind fun (z12:(Unit ⊕ Unit))=>match z12 with | .inl z12=>some false | .inr z12=>some true
noncomputable def Vl (Z9:(Int→S_api_Op→Int→Option Bool)) (a0:S_api_Edit) (a1:Int) (s0_:Int):Option (Int ⊕ (Unit ⊕ Unit)) :=
 cond (decide (s0_ < (a0.Ops.length:Int))) ((Yy a0.Ops s0_).bind fun x4=>(Z9 a0.List_ x4 a1).bind fun y6=>cond (!y6) (some (.inr (.inl ()))) (some (.inl (IntKind.i64.wrap (s0_+1))))) (some (.inr (.inr ())))
noncomputable def Gw (Yh:(S_api_Edit→Option Bool)) (Ye:(S_api_Edit→Int→Option Bool)) (Z5:((List S_api_KidEdit)→Int→Option Bool)) (Z8:(S_api_Edit→Int→Option Bool)) (Z9:(Int→S_api_Op→Int→Option Bool)) (Z4:(Bool→Bool→Bool→S_api_Op→Option Bool)) (a0:S_api_Edit) (a1:Int):Option Bool :=
 (Zcr a0.List_).bind fun y2=>cond (!y2) (some false) ((Zx (Vl Z9 a0 a1) 0).bind fun (z9:(Unit ⊕ Unit))=>match z9 with | .inl z9=>some false | .inr z9=>(Zba a0).bind fun y11=>some (cond (decide (y11.1 < 1048576)) (decide (y11.2 < 1048576)) false))
noncomputable def Za2 (Yh:(S_api_Edit→Option Bool)) (Ye:(S_api_Edit→Int→Option Bool)) (Z5:((List S_api_KidEdit)→Int→Option Bool)) (Z8:(S_api_Edit→Int→Option Bool)) (Z9:(Int→S_api_Op→Int→Option Bool)) (Z4:(Bool→Bool→Bool→S_api_Op→Option Bool)) (a0:Int) (a1:S_api_Op) (a2:Int):Option Bool :=
 (cond (a1.Kind == 0) ((Z4 false true true a1).bind fun y3=>some (.inr (.inl (cond (cond y3 (decide (1≤a1.N)) false) (decide (a1.N≤1048576)) false)))) (cond (a1.Kind == 1) (some (.inl ())) (cond (a1.Kind == 2) (some (.inl ())) (cond (a1.Kind == 3) (some (.inr (.inr (.inl ())))) (some (.inr (.inr (.inr ())))))))).bind fun (z1:(Unit ⊕ (Bool ⊕ (Unit ⊕ Unit))))=>match z1 with | .inl z1=>((Z4 true false true a1).bind fun y13=>cond y13 (cond (decide (0 < (a1.L.length:Int))) ((Ze4 (⟨a0,[],a1.L⟩:S_api_Tree)).bind fun y14=>some (cond (cond y13 (decide (0 < (a1.L.length:Int))) false) y14 false)) (some false)) (some false)).bind fun (z10:Bool)=>some z10 | .inr z1=>match z1 with | .inl z1=>some z1 | .inr z1=>match z1 with | .inl z1=>((Z4 true true false a1).bind fun y24=>cond y24 ((Zab a0 a1.E).bind fun y25=>cond y25 ((Ye a1.E a2).bind fun y26=>some (cond (cond y24 y25 false) y26 false)) (some false)) (some false)).bind fun (z20:Bool)=>some z20 | .inr z1=>some false
noncomputable def U2 (Yh:(S_api_Edit→Option Bool)) (Ye:(S_api_Edit→Int→Option Bool)) (Z5:((List S_api_KidEdit)→Int→Option Bool)) (Z8:(S_api_Edit→Int→Option Bool)) (Z9:(Int→S_api_Op→Int→Option Bool)) (Z4:(Bool→Bool→Bool→S_api_Op→Option Bool)) (a0:Bool) (a1:Bool) (a2:Bool) (a3:S_api_Op):Option Bool :=
 (cond a0 (cond (a3.N != 0) (some false) (cond a1 (cond (decide (0 < (a3.L.length:Int))) (some false) (cond a2 (cond (a3.E.Kind != 0) (some (cond (cond (!(cond a0 (a3.N != 0) false)) (!(cond a1 (decide (0 < (a3.L.length:Int))) false)) false) (!(cond a2 true false)) false)) ((Yh a3.E).bind fun y10=>some (cond (cond (!(cond a0 (a3.N != 0) false)) (!(cond a1 (decide (0 < (a3.L.length:Int))) false)) false) (!(cond a2 (cond (a3.E.Kind != 0) true (!y10)) false)) false))) (some (cond (cond (!(cond a0 (a3.N != 0) false)) (!(cond a1 (decide (0 < (a3.L.length:Int))) false)) false) true false)))) (cond a2 (cond (a3.E.Kind != 0) (some (cond (cond (!(cond a0 (a3.N != 0) false)) (!(cond a1 (decide (0 < (a3.L.length:Int))) false)) false) (!(cond a2 true false)) false)) ((Yh a3.E).bind fun y11=>some (cond (cond (!(cond a0 (a3.N != 0) false)) (!(cond a1 (decide (0 < (a3.L.length:Int))) false)) false) (!(cond a2 (cond (a3.E.Kind != 0) true (!y11)) false)) false))) (some (cond (cond (!(cond a0 (a3.N != 0) false)) (!(cond a1 (decide (0 < (a3.L.length:Int))) false)) false) true false))))) (cond a1 (cond (decide (0 < (a3.L.length:Int))) (some false) (cond a2 (cond (a3.E.Kind != 0) (some (cond (cond (!(cond a0 (a3.N != 0) false)) (!(cond a1 (decide (0 < (a3.L.length:Int))) false)) false) (!(cond a2 true false)) false)) ((Yh a3.E).bind fun y12=>some (cond (cond (!(cond a0 (a3.N != 0) false)) (!(cond a1 (decide (0 < (a3.L.length:Int))) false)) false) (!(cond a2 (cond (a3.E.Kind != 0) true (!y12)) false)) false))) (some (cond (cond (!(cond a0 (a3.N != 0) false)) (!(cond a1 (decide (0 < (a3.L.length:Int))) false)) false) true false)))) (cond a2 (cond (a3.E.Kind != 0) (some (cond (cond (!(cond a0 (a3.N != 0) false)) (!(cond a1 (decide (0 < (a3.L.length:Int))) false)) false) (!(cond a2 true false)) false)) ((Yh a3.E).bind fun y13=>some (cond (cond (!(cond a0 (a3.N != 0) false)) (!(cond a1 (decide (0 < (a3.L.length:Int))) false)) false) (!(cond a2 (cond (a3.E.Kind != 0) true (!y13)) false)) false))) (some (cond (cond (!(cond a0 (a3.N != 0) false)) (!(cond a1 (decide (0 < (a3.L.length:Int))) false)) false) true false))))).bind fun (z5:Bool)=>some z5
noncomputable def Zn:Nat→((S_api_Edit→Option Bool)×(S_api_Edit→Int→Option Bool)×((List S_api_KidEdit)→Int→Option Bool)×(S_api_Edit→Int→Option Bool)×(Int→S_api_Op→Int→Option Bool)×(Bool→Bool→Bool→S_api_Op→Option Bool))
 | 0=>((fun _=>none),(fun _ _=>none),(fun _ _=>none),(fun _ _=>none),(fun _ _ _=>none),(fun _ _ _ _=>none))
 | k+1=>(Zc1 ((Zn k).1) ((Zn k).2.1) ((Zn k).2.2.1) ((Zn k).2.2.2.1) ((Zn k).2.2.2.2.1) ((Zn k).2.2.2.2.2),Zc2 ((Zn k).1) ((Zn k).2.1) ((Zn k).2.2.1) ((Zn k).2.2.2.1) ((Zn k).2.2.2.2.1) ((Zn k).2.2.2.2.2),U1 ((Zn k).1) ((Zn k).2.1) ((Zn k).2.2.1) ((Zn k).2.2.2.1) ((Zn k).2.2.2.2.1) ((Zn k).2.2.2.2.2),Gw ((Zn k).1) ((Zn k).2.1) ((Zn k).2.2.1) ((Zn k).2.2.2.1) ((Zn k).2.2.2.2.1) ((Zn k).2.2.2.2.2),Za2 ((Zn k).1) ((Zn k).2.1) ((Zn k).2.2.1) ((Zn k).2.2.2.1) ((Zn k).2.2.2.2.1) ((Zn k).2.2.2.2.2),U2 ((Zn k).1) ((Zn k).2.1) ((Zn k).2.2.1) ((Zn k).2.2.2.1) ((Zn k).2.2.2.2.1) ((Zn k).2.2.2.2.2))
noncomputable def Zho (a0:S_api_Edit):Option Bool:=lim fun k=>(Zn k).1 a0
noncomputable def Kc (a0:S_api_Edit):Option Bool :=
 (Ui a0).bind fun y2=>cond (!y2) ((J5).bind fun y4=>some y4) ((Zal a0).bind fun y6=>((Uj a0).bind fun y16=>(Zdd y6 y16).bind fun y17=>cond y17 ((Zho y6).bind fun y18=>cond y18 ((J5).bind fun y19=>some (cond (cond y17 y18 false) y19 false)) (some false)) (some false)).bind fun (z11:Bool)=>some z11)
end Go.Proofs.Ytbcgiaijjaocdaa
